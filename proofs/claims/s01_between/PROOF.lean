import PyProof.Rows.All
import Wide.All
import OpenK.AllK
import Wide.FinOn
import Open.SpecLaws
import KE.OsGo
import HandS.Base
import HandS.Call
import HandS.List
import HandS.Ends
import HandS.Exc
import HandS.TryOnly
import HandS.ExcOwn
import HandS.Spec
import HandS.Words
import HandS.WordsList
import HandS.WordsExc
import HandS.Comp
import HandS.Dict
import HandS.Iter
import HandS.WordsDict
import PySem.Challenge.RW_spellednotes_s01_between
set_option Elab.async false
set_option linter.all false
set_option maxRecDepth 100000
set_option maxHeartbeats 2000000
namespace Sn
open PySem PySem.Spec PyProof.Rows L2
/-! ### Words of this proof: a def of the text with its promise; a number, a table of the top -/
def Has (P : Program) (w : World) (K : PySem.W.Frag) (mg : Str → Option Value) (base : Heap) (x : Str) (k : Nat) (ps : List Str) (sp : Sp) : Prop :=
  ∃ (f : Addr) (fd : FuncData), FnOk P w K mg base CX0 k f fd ps sp ∧ mg x = some (.ref f) ∧ PySem.W.keepIn K (.ref f) = true ∧ Binds K fd ps []
theorem pe_has {X : Cx} {x : Str} {k : Nat} {ps : List Str} {sp : Sp} {e : Expr} {es : List Expr} {p pos : Pos} {t : TA}
    (h : Has X.prog X.w X.K X.mg X.base x k ps sp) (hr : Room k X.A) (ha : PA X (e :: es) t) (hg : Gl X x := by rfl) (hdb : (x == ("__debug__" : Str)) = false := by decide)
    (he : starEach (e :: es) X.env = (false, eval e X.env) :: starEach es X.env := by rfl) (hpl : (backTo pos (starEach es X.env)).any (·.1) = false := by rfl) :
    PE X (.Call (.Name x p) (e :: es) [] pos) (tCall sp [] E0 t) := by
  obtain ⟨f, fd, F, g, kp, b⟩ := h
  exact pe_call F hr hg g kp b .nil pass0 ha hdb he hpl
theorem pe_globI {X : Cx} {x : Str} {n : Int} {pos : Pos} (hm : ∃ t, X.mg x = some (.int n t)) (hg : Gl X x := by rfl) (hd : (x == ("__debug__" : Str)) = false := by decide) : PE X (.Name x pos) (tC (.int n)) := by
  obtain ⟨t, ht⟩ := hm
  exact pe_glob hg ht ⟨t, rfl⟩ hd
/-- a written tuple of numbers of the top, at a name -/
def Tab (K : PySem.W.Frag) (mg : Str → Option Value) (x : Str) (ns : List Int) : Prop := ∃ a, mg x = some (.ref a) ∧ ∀ H, SqT K H a (ns.map V.int)
/-- its name as a value -/
def tGT (K : PySem.W.Frag) (ns : List Int) : TE := fun _ H Q => ∀ a, (∀ H, SqT K H a (ns.map V.int)) → Q (.ref a) H
theorem pe_globT {X : Cx} {x : Str} {ns : List Int} {pos : Pos} (hm : Tab X.K X.mg x ns) (hg : Gl X x := by rfl) (hd : (x == ("__debug__" : Str)) = false := by decide) : PE X (.Name x pos) (tGT X.K ns) := by
  obtain ⟨a, ha, hT⟩ := hm
  exact ⟨fun pins s σ H Q I h => (pe_glob (v := .ref a) hg ha rfl hd).run pins s σ H Q I (h a hT)⟩
theorem tGT_at {K : PySem.W.Frag} {ns : List Int} {σ : L2.St} {H : Hp} {Q : VK} (h : ∀ a, (∀ H, SqT K H a (ns.map V.int)) → Q (.ref a) H) : tGT K ns σ H Q := h
/-- an item of such a table -/
theorem at_tab {ns : List Int} {i : Int} (h0 : 0 ≤ i) (h1 : i < ns.length) : atI (ns.map V.int) i = some (V.int (ns.getD i.toNat 0)) := by
  obtain ⟨j, rfl⟩ : ∃ j : Nat, i = (j : Int) := ⟨i.toNat, by omega⟩
  refine atI_nat ?_
  have hj : j < ns.length := by omega
  simp [List.getElem?_map, List.getElem?_eq_getElem hj]
/-- a table's item, as a reading: the index lies in it -/
def tTab (ns : List Int) (ti : TE) : TE := fun σ H Q => ti σ H fun y H1 => ∃ i : Int, y = .int i ∧ (0 ≤ i ∧ i < ns.length) ∧ Q (.int (ns.getD i.toNat 0)) H1
theorem pe_tab {X : Cx} {x : Str} {ns : List Int} {p pos : Pos} {b : Expr} {ti : TE} (hm : Tab X.K X.mg x ns) (hi : PE X b ti) (hs : PlainIx b) (hg : Gl X x := by rfl) (hd : (x == ("__debug__" : Str)) = false := by decide) :
    PE X (.Subscript (.Name x p) b pos) (tTab ns ti) := by
  obtain ⟨a, ha, hT⟩ := hm
  have hr : IxR X (fun x y H Q => x = .ref a ∧ ∃ i : Int, y = .int i ∧ (0 ≤ i ∧ i < ns.length) ∧ Q (.int (ns.getD i.toNat 0)) H) := by
    rintro value slice pins s σ H x y v u Q I rx ry ⟨rfl, i, rfl, ⟨h0, h1⟩, q⟩ hs
    exact ix_tup value slice pins s σ H _ _ v u Q I rx ry ⟨a, _, i, _, rfl, rfl, hT H, at_tab h0 h1, q⟩ hs
  have e := pe_ix (pos := pos) hr (pe_glob (pos := p) (v := .ref a) hg ha rfl hd) hi hs
  have z : tOp (fun x y H Q => x = .ref a ∧ ∃ i : Int, y = .int i ∧ (0 ≤ i ∧ i < ns.length) ∧ Q (.int (ns.getD i.toNat 0)) H) (tC (.ref a)) ti = tTab ns ti := by
    funext σ H Q
    show ti σ H _ = ti σ H _
    congr 1
    funext y H1
    exact propext ⟨fun h => h.2, fun h => ⟨rfl, h⟩⟩
  rw [z] at e
  exact e
theorem in_ints {i : Int} : ∀ {ns : List Int}, inV (.int i) (ns.map V.int) = decide (i ∈ ns)
  | [] => by simp [inV]
  | n :: r => by
    have ih := in_ints (i := i) (ns := r)
    show (eqV (.int n) (.int i) || inV (.int i) (r.map V.int)) = _
    rw [ih]
    show ((n == i) || decide (i ∈ r)) = _
    by_cases h : n = i
    · subst h
      simp
    · have h' : ¬ i = n := fun z => h z.symm
      simp [h, h']
/-- is it in the table -/
def tInTab (ns : List Int) (ti : TE) : TE := fun σ H Q => ti σ H fun y H1 => ∃ i : Int, y = .int i ∧ Q (.bl (decide (i ∈ ns))) H1
theorem pe_inTab {X : Cx} {x : Str} {ns : List Int} {p pos : Pos} {b : Expr} {ti : TE} (hm : Tab X.K X.mg x ns) (hi : PE X b ti) (hg : Gl X x := by rfl) (hd : (x == ("__debug__" : Str)) = false := by decide) :
    PE X (.Compare b [.In] [.Name x p] pos) (tInTab ns ti) := by
  obtain ⟨a, ha, hT⟩ := hm
  have hr : OpR X (compareOp .In) (fun x y H Q => y = .ref a ∧ ∃ i : Int, x = .int i ∧ Q (.bl (decide (i ∈ ns))) H) := by
    rintro pins s σ H x y v u Q I rx ry ⟨rfl, i, rfl, q⟩
    refine op_in_seq pins s σ H _ _ v u Q I rx ry ⟨a, _, rfl, .inr (hT H), rfl, ?_, ?_⟩
    · rw [List.all_map]
      exact List.all_eq_true.mpr fun _ _ => rfl
    · rw [in_ints]
      exact q
  have e := pe_cmpR (pos := pos) hr hi (pe_glob (pos := p) (v := .ref a) hg ha rfl hd) rfl
  have z : tOp (fun x y H Q => y = .ref a ∧ ∃ i : Int, x = .int i ∧ Q (.bl (decide (i ∈ ns))) H) ti (tC (.ref a)) = tInTab ns ti := by
    funext σ H Q
    show ti σ H _ = ti σ H _
    congr 1
    funext y H1
    exact propext ⟨fun h => h.2, fun h => ⟨rfl, h⟩⟩
  rw [z] at e
  exact e
theorem pt_inTab {X : Cx} {x : Str} {ns : List Int} {p pos : Pos} {b : Expr} {ti : TE} (hm : Tab X.K X.mg x ns) (hi : PE X b ti) (hg : Gl X x := by rfl) (hd : (x == ("__debug__" : Str)) = false := by decide) :
    PT X (.Compare b [.In] [.Name x p] pos) (tB (tInTab ns ti)) := by
  obtain ⟨a, ha, hT⟩ := hm
  have hr : OpR X (compareOp .In) (fun x y H Q => y = .ref a ∧ ∃ i : Int, x = .int i ∧ Q (.bl (decide (i ∈ ns))) H) := by
    rintro pins s σ H x y v u Q I rx ry ⟨rfl, i, rfl, q⟩
    refine op_in_seq pins s σ H _ _ v u Q I rx ry ⟨a, _, rfl, .inr (hT H), rfl, ?_, ?_⟩
    · rw [List.all_map]
      exact List.all_eq_true.mpr fun _ _ => rfl
    · rw [in_ints]
      exact q
  have e := pt_cmpR (pos := pos) hr hi (pe_glob (pos := p) (v := .ref a) hg ha rfl hd) rfl
  have z : tTest (tOp (fun x y H Q => y = .ref a ∧ ∃ i : Int, x = .int i ∧ Q (.bl (decide (i ∈ ns))) H) ti (tC (.ref a))) = tB (tInTab ns ti) := by
    funext σ H Q
    show ti σ H _ = ti σ H _
    congr 1
    funext y H1
    exact propext ⟨fun h => h.2, fun h => ⟨rfl, h⟩⟩
  rw [z] at e
  exact e
/-- what the top has of a def -/
structure Def (K : PySem.W.Frag) (mg : Str → Option Value) (x : Str) (st : Stmt) (ps : List Str) (f : Addr) (fd : FuncData) : Prop where
  F : Fun K x x st f fd
  g : mg x = some (.ref f)
  bt : ∀ (s : Shared) (us : List Value), us.length = ps.length → BindsTo s fd ⟨us, []⟩ (ps.zip us)
theorem Def.b {K : PySem.W.Frag} {mg : Str → Option Value} {x : Str} {st : Stmt} {ps : List Str} {f : Addr} {fd : FuncData} (D : Def K mg x st ps f fd) : Binds K fd ps [] := fun s us _ hl => by
  rw [List.append_nil] at hl ⊢
  exact D.bt s us hl
theorem has_of {P : Program} {w : World} {K : PySem.W.Frag} {mg : Str → Option Value} {base : Heap} {x : Str} {st : Stmt} {ps : List Str} {k : Nat} {sp : Sp} (D : ∃ f fd, Def K mg x st ps f fd)
    (h : ∀ f fd, Def K mg x st ps f fd → FnOk P w K mg base CX0 k f fd ps sp) : Has P w K mg base x k ps sp := by
  obtain ⟨f, fd, D⟩ := D
  exact ⟨f, fd, h f fd D, D.g, D.F.kp, D.b⟩
theorem cxOf_K {CX : CXT} {P : Program} {w : World} {K : PySem.W.Frag} {mg : Str → Option Value} {base : Heap} {N : List Str} {q : Str} {sc : Scope} {f : Addr} {cd : Value} {A : Around} {o : List Env} {s : Shared} {H : Hp} {E : XK} : (cxOf CX P w K mg base N q sc f cd A o s H E).K = K := rfl
theorem Same.tup {K : PySem.W.Frag} {H H' : Hp} {a : Addr} {xs : List V} (e : Same H H') (h : SqT K H a xs) : SqT K H' a xs := by
  rcases h with (h | ⟨o, h⟩) | h
  · exact .inl (.inl (e _ _ h))
  · exact .inl (.inr ⟨o, e _ _ h⟩)
  · exact .inr h
theorem Same.new {H : Hp} {p : Addr} {o : HO} (hp : H p = none) : Same H (upd H p o) := fun b o' h => by
  rw [upd_ne (fun z => by rw [z, hp] at h; cases h)]
  exact h
theorem ne_new {H : Hp} {p q : Addr} {o : HO} (h : upd H p o q = none) : q ≠ p := fun z => by
  rw [z, upd_same] at h
  cases h
/-- tuple(xs), len(xs): their readings by name -/
def rTupOf (K : PySem.W.Frag) : List V → Hp → VK → Prop := fun xs H Q => ∃ p ys, xs = [.ref p] ∧ ((SqL K H p ys ∧ ∀ l, H l = none → Q (.ref l) (upd H l (.tup ys))) ∨ (SqT K H p ys ∧ Q (.ref p) H))
def rLenOf (K : PySem.W.Frag) : List V → Hp → VK → Prop := fun xs H Q => ∃ p ys, xs = [.ref p] ∧ (SqL K H p ys ∨ SqT K H p ys) ∧ Q (.int ys.length) H
theorem line {n : Nat} (h : n ≤ 1000000) : n ≤ sizeLine := Nat.le_trans h (by decide)
end Sn
namespace Sn
open PySem PySem.Spec PyProof.Rows L2
/-! ### The text: each def by its place in the program -/
def top (i : Nat) : Stmt := PySem.Challenge.pw_spellednotes_s01_between.main.body.getD i (.Pass ⟨0, 0, 0, 0⟩)
abbrev s_is_note : Stmt := top 10
theorem sc_is_note : FnScope ["letter", "raised", "octave"] ["letter", "raised", "octave"] (defScope s_is_note) := ⟨rfl, rfl, rfl, by decide +kernel, rfl, by decide +kernel, by decide +kernel⟩
abbrev s_step_of : Stmt := top 11
theorem sc_step_of : FnScope ["letter", "octave"] ["letter", "octave"] (defScope s_step_of) := ⟨rfl, rfl, rfl, by decide +kernel, rfl, by decide +kernel, by decide +kernel⟩
abbrev s_sound_of : Stmt := top 12
theorem sc_sound_of : FnScope ["letter", "raised", "octave"] ["letter", "raised", "octave"] (defScope s_sound_of) := ⟨rfl, rfl, rfl, by decide +kernel, rfl, by decide +kernel, by decide +kernel⟩
abbrev s_direction_of : Stmt := top 13
theorem sc_direction_of : FnScope ["steps", "halves"] ["steps", "halves"] (defScope s_direction_of) := ⟨rfl, rfl, rfl, by decide +kernel, rfl, by decide +kernel, by decide +kernel⟩
abbrev s_usual_halves : Stmt := top 14
theorem sc_usual_halves : FnScope ["steps"] ["steps"] (defScope s_usual_halves) := ⟨rfl, rfl, rfl, by decide +kernel, rfl, by decide +kernel, by decide +kernel⟩
abbrev s_perfect_kind : Stmt := top 15
theorem sc_perfect_kind : FnScope ["more"] ["more"] (defScope s_perfect_kind) := ⟨rfl, rfl, rfl, by decide +kernel, rfl, by decide +kernel, by decide +kernel⟩
abbrev s_other_kind : Stmt := top 16
theorem sc_other_kind : FnScope ["more"] ["more"] (defScope s_other_kind) := ⟨rfl, rfl, rfl, by decide +kernel, rfl, by decide +kernel, by decide +kernel⟩
abbrev s_kind_of : Stmt := top 17
theorem sc_kind_of : FnScope ["steps", "halves", "more"] ["steps", "halves"] (defScope s_kind_of) := ⟨rfl, rfl, rfl, by decide +kernel, rfl, by decide +kernel, by decide +kernel⟩
abbrev s_counted : Stmt := top 18
theorem sc_counted : FnScope ["numbers"] ["numbers"] (defScope s_counted) := ⟨rfl, rfl, rfl, by decide +kernel, rfl, by decide +kernel, by decide +kernel⟩
abbrev s_between : Stmt := top 19
theorem sc_between : FnScope ["letter", "raised", "octave", "letter_two", "raised_two", "octave_two", "steps", "halves", "direction", "number", "kind"] ["letter", "raised", "octave", "letter_two", "raised_two", "octave_two"] (defScope s_between) := ⟨rfl, rfl, rfl, by decide +kernel, rfl, by decide +kernel, by decide +kernel⟩
/-- what the top has left -/
structure Txt (K : PySem.W.Frag) (mg : Str → Option Value) : Prop where
  c_DONE : ∃ t, mg "DONE" = some (.int (0) t)
  c_REFUSED : ∃ t, mg "REFUSED" = some (.int (-1) t)
  c_LETTERS : ∃ t, mg "LETTERS" = some (.int (7) t)
  c_HALVES_IN_OCTAVE : ∃ t, mg "HALVES_IN_OCTAVE" = some (.int (12) t)
  c_MOST_RAISED : ∃ t, mg "MOST_RAISED" = some (.int (3) t)
  c_LOWEST_OCTAVE : ∃ t, mg "LOWEST_OCTAVE" = some (.int (-1) t)
  c_HIGHEST_OCTAVE : ∃ t, mg "HIGHEST_OCTAVE" = some (.int (9) t)
  c_HALVES_ABOVE_C : Tab K mg "HALVES_ABOVE_C" [0, 2, 4, 5, 7, 9, 11]
  c_PERFECT_RESTS : Tab K mg "PERFECT_RESTS" [0, 3, 4]
  b_len : mg "len" = none
  b_list : mg "list" = none
  d_is_note : ∃ f fd, Def K mg "is_note" s_is_note ["letter", "raised", "octave"] f fd
  d_step_of : ∃ f fd, Def K mg "step_of" s_step_of ["letter", "octave"] f fd
  d_sound_of : ∃ f fd, Def K mg "sound_of" s_sound_of ["letter", "raised", "octave"] f fd
  d_direction_of : ∃ f fd, Def K mg "direction_of" s_direction_of ["steps", "halves"] f fd
  d_usual_halves : ∃ f fd, Def K mg "usual_halves" s_usual_halves ["steps"] f fd
  d_perfect_kind : ∃ f fd, Def K mg "perfect_kind" s_perfect_kind ["more"] f fd
  d_other_kind : ∃ f fd, Def K mg "other_kind" s_other_kind ["more"] f fd
  d_kind_of : ∃ f fd, Def K mg "kind_of" s_kind_of ["steps", "halves"] f fd
  d_counted : ∃ f fd, Def K mg "counted" s_counted ["numbers"] f fd
  d_between : ∃ f fd, Def K mg "between" s_between ["letter", "raised", "octave", "letter_two", "raised_two", "octave_two"] f fd
end Sn
namespace Sn
open PySem PySem.Spec PyProof.Rows L2
/-! ### The mathematics -/
theorem nat_tab (l : Int) : ([0, 2, 4, 5, 7, 9, 11] : List Int).getD l.toNat 0 = Sw68.natural l := rfl
theorem fdiv7 (s : Int) : s.fdiv 7 = s / 7 := Int.fdiv_eq_ediv_of_nonneg s (by decide)
theorem fmod7 (s : Int) : s.fmod 7 = s % 7 := Int.fmod_eq_emod_of_nonneg s (by decide)
theorem note_iff {l r o : Int} : Sw68.noteOk ⟨l, r, o⟩ = true ↔ (0 ≤ l ∧ l ≤ 6) ∧ (-3 ≤ r ∧ r ≤ 3) ∧ (-1 ≤ o ∧ o ≤ 9) := by
  simp only [Sw68.noteOk, Bool.and_eq_true, decide_eq_true_eq]
  exact Iff.rfl
theorem ok_l {l r o : Int} (h : Sw68.noteOk ⟨l, r, o⟩ = true) : 0 ≤ l ∧ l ≤ 6 := by
  simp only [Sw68.noteOk, Bool.and_eq_true, decide_eq_true_eq] at h
  exact h.1
theorem int_in {z : Int} {l : List Int} (h : -2147483648 ≤ z ∧ z ≤ 2147483647) : Sw68Neutral.intIn (z :: l) = some (z, l) := by
  unfold Sw68Neutral.intIn
  exact if_pos ⟨by omega, by omega⟩
theorem note_in {a b c : Int} {l : List Int} (h1 : -2147483648 ≤ a ∧ a ≤ 2147483647) (h2 : -2147483648 ≤ b ∧ b ≤ 2147483647) (h3 : -2147483648 ≤ c ∧ c ≤ 2147483647) : Sw68Neutral.noteIn (a :: b :: c :: l) = some (⟨a, b, c⟩, l) := by
  unfold Sw68Neutral.noteIn
  rw [int_in h1]
  show (Option.bind (Sw68Neutral.intIn (b :: c :: l)) _) = _
  rw [int_in h2]
  show (Option.map _ (Sw68Neutral.intIn (c :: l))) = _
  rw [int_in h3]
  rfl
theorem interval_in {a b : Int} {l : List Int} (h1 : -2147483648 ≤ a ∧ a ≤ 2147483647) (h2 : -2147483648 ≤ b ∧ b ≤ 2147483647) : Sw68Neutral.intervalIn (a :: b :: l) = some (⟨a, b⟩, l) := by
  unfold Sw68Neutral.intervalIn
  rw [int_in h1]
  show (Option.map _ (Sw68Neutral.intIn (b :: l))) = _
  rw [int_in h2]
  rfl
def slotI (σ : L2.St) (i : Nat) : Int := match σ[i]? with
  | some (some (.int f)) => f
  | _ => 0
def lenAt (H : Hp) (B : Addr) : Nat := match H B with
  | some (.lst xs) => xs.length
  | _ => 0
theorem lenAt_of {H : Hp} {B : Addr} {xs : List V} (h : H B = some (.lst xs)) : lenAt H B = xs.length := by
  unfold lenAt
  rw [h]
theorem iteY {c : Bool} {A B : Prop} (h : c = true) (k : A) : if c = true then A else B := by
  rw [if_pos h]
  exact k
theorem iteN {c : Bool} {A B : Prop} (h : ¬ c = true) (k : B) : if c = true then A else B := by
  rw [if_neg h]
  exact k
def sp_is_note : Sp := fun vs H Q _ => ∃ l r o : Int, vs = [.int l, .int r, .int o] ∧ Q (.bl (Sw68.noteOk ⟨l, r, o⟩)) H
theorem ok_is_note {P : Program} {w : World} {K : PySem.W.Frag} {mg : Str → Option Value} {base : Heap} (T : Txt K mg) {f : Addr} {fd : FuncData} (D : Def K mg "is_note" s_is_note ["letter", "raised", "octave"] f fd) : FnOk P w K mg base CX0 1 f fd ["letter", "raised", "octave"] (sp_is_note) := by
  refine D.F.ok sc_is_note (fun vs H Q E h => ?_) (fun cdv A outer s H vs Q E hr h => ⟨_, (pss_cons (ps_if (pt_not (pt_chain op_le op_lt pe_int (pv 0) (pe_globI T.c_LETTERS))) (pss_one (ps_ret pe_bl)) pss_nil)
      (pss_cons (ps_if (pt_not (pt_chain op_le op_le (pe_un un_neg (pe_globI T.c_MOST_RAISED)) (pv 1) (pe_globI T.c_MOST_RAISED))) (pss_one (ps_ret pe_bl)) pss_nil)
      (pss_one (ps_ret (pe_chain op_le op_le (pe_globI T.c_LOWEST_OCTAVE) (pv 2) (pe_globI T.c_HIGHEST_OCTAVE)))))), ?_⟩)
  · obtain ⟨l, r, o, rfl, _⟩ := h
    rfl
  · obtain ⟨l, r, o, rfl, k⟩ := h
    have e : ∀ b, b = Sw68.noteOk ⟨l, r, o⟩ → Q (.bl b) H := fun b z => z ▸ k
    simp only [tSeq, tAsg, tIfS, tRet, tNext, tOp, tUn, tTest, tB, tNot, tAnd, tOr, tAndV, tOrV, tNotV, tChain, tVar, tC, tCons, tNil, tCall, tCB, tIf, tDrop, gName, tAug, ipI, rI, rI0, rU, CMul, CDiv, rEq, rNe, scal, tTab, tInTab, cxOf_K, L2.start, Nat.reduceAdd, Nat.reduceSub, Nat.sub_self, List.map_cons, List.map_nil, List.length_cons, List.length_nil, List.replicate, List.append_nil, List.cons_append, List.nil_append, List.set_cons_zero, List.set_cons_succ, List.getElem?_cons_zero, List.getElem?_cons_succ, Option.some.injEq, List.cons.injEq, V.int.injEq, V.bl.injEq, V.ref.injEq, and_true, true_and, exists_eq_left, and_assoc, exists_eq_left', exists_and_left, decide_eq_true_eq, Bool.true_eq_false, if_true, if_false]
    repeat' split
    all_goals
      apply e
      clear e k
      rw [Bool.eq_iff_iff, note_iff]
      simp at *
      try omega
theorem has_is_note {P : Program} {w : World} {K : PySem.W.Frag} {mg : Str → Option Value} {base : Heap} (T : Txt K mg) : Has P w K mg base "is_note" 1 ["letter", "raised", "octave"] (sp_is_note) :=
  has_of T.d_is_note fun f fd D => ok_is_note T D
def sp_step_of : Sp := fun vs H Q _ => ∃ l o : Int, vs = [.int l, .int o] ∧ Q (.int (7 * o + l)) H
theorem ok_step_of {P : Program} {w : World} {K : PySem.W.Frag} {mg : Str → Option Value} {base : Heap} (T : Txt K mg) {f : Addr} {fd : FuncData} (D : Def K mg "step_of" s_step_of ["letter", "octave"] f fd) : FnOk P w K mg base CX0 1 f fd ["letter", "octave"] (sp_step_of) := by
  refine D.F.ok sc_step_of (fun vs H Q E h => ?_) (fun cdv A outer s H vs Q E hr h => ⟨_, (pss_one (ps_ret (pe_op op_add (pe_op op_mul (pe_globI T.c_LETTERS) (pv 1)) (pv 0)))), ?_⟩)
  · obtain ⟨l, o, rfl, _⟩ := h
    rfl
  · obtain ⟨l, o, rfl, k⟩ := h
    simp only [tSeq, tAsg, tIfS, tRet, tNext, tOp, tUn, tTest, tB, tNot, tAnd, tOr, tAndV, tOrV, tNotV, tChain, tVar, tC, tCons, tNil, tCall, tCB, tIf, tDrop, gName, tAug, ipI, rI, rI0, rU, CMul, CDiv, rEq, rNe, scal, tTab, tInTab, cxOf_K, L2.start, Nat.reduceAdd, Nat.reduceSub, Nat.sub_self, List.map_cons, List.map_nil, List.length_cons, List.length_nil, List.replicate, List.append_nil, List.cons_append, List.nil_append, List.set_cons_zero, List.set_cons_succ, List.getElem?_cons_zero, List.getElem?_cons_succ, Option.some.injEq, List.cons.injEq, V.int.injEq, V.bl.injEq, V.ref.injEq, and_true, true_and, exists_eq_left, and_assoc, exists_eq_left', exists_and_left, decide_eq_true_eq, Bool.true_eq_false, if_true, if_false]
    exact ⟨.inl (by decide), k⟩
theorem has_step_of {P : Program} {w : World} {K : PySem.W.Frag} {mg : Str → Option Value} {base : Heap} (T : Txt K mg) : Has P w K mg base "step_of" 1 ["letter", "octave"] (sp_step_of) :=
  has_of T.d_step_of fun f fd D => ok_step_of T D
def sp_sound_of : Sp := fun vs H Q _ => ∃ l r o : Int, vs = [.int l, .int r, .int o] ∧ (0 ≤ l ∧ l ≤ 6) ∧ Q (.int (12 * (o + 1) + Sw68.natural l + r)) H
theorem ok_sound_of {P : Program} {w : World} {K : PySem.W.Frag} {mg : Str → Option Value} {base : Heap} (T : Txt K mg) {f : Addr} {fd : FuncData} (D : Def K mg "sound_of" s_sound_of ["letter", "raised", "octave"] f fd) : FnOk P w K mg base CX0 1 f fd ["letter", "raised", "octave"] (sp_sound_of) := by
  refine D.F.ok sc_sound_of (fun vs H Q E h => ?_) (fun cdv A outer s H vs Q E hr h => ⟨_, (pss_one (ps_ret (pe_op op_add (pe_op op_add (pe_op op_mul (pe_globI T.c_HALVES_IN_OCTAVE) (pe_op op_add (pv 2) pe_int)) (pe_tab T.c_HALVES_ABOVE_C (pv 0) (fun _ _ => rfl))) (pv 1)))), ?_⟩)
  · obtain ⟨l, r, o, rfl, _⟩ := h
    rfl
  · obtain ⟨l, r, o, rfl, hl, k⟩ := h
    simp only [tSeq, tAsg, tIfS, tRet, tNext, tOp, tUn, tTest, tB, tNot, tAnd, tOr, tAndV, tOrV, tNotV, tChain, tVar, tC, tCons, tNil, tCall, tCB, tIf, tDrop, gName, tAug, ipI, rI, rI0, rU, CMul, CDiv, rEq, rNe, scal, tTab, tInTab, cxOf_K, L2.start, Nat.reduceAdd, Nat.reduceSub, Nat.sub_self, List.map_cons, List.map_nil, List.length_cons, List.length_nil, List.replicate, List.append_nil, List.cons_append, List.nil_append, List.set_cons_zero, List.set_cons_succ, List.getElem?_cons_zero, List.getElem?_cons_succ, Option.some.injEq, List.cons.injEq, V.int.injEq, V.bl.injEq, V.ref.injEq, and_true, true_and, exists_eq_left, and_assoc, exists_eq_left', exists_and_left, decide_eq_true_eq, Bool.true_eq_false, if_true, if_false]
    exact ⟨.inl (by decide), hl.1, (by omega), k⟩
theorem has_sound_of {P : Program} {w : World} {K : PySem.W.Frag} {mg : Str → Option Value} {base : Heap} (T : Txt K mg) : Has P w K mg base "sound_of" 1 ["letter", "raised", "octave"] (sp_sound_of) :=
  has_of T.d_sound_of fun f fd D => ok_sound_of T D
def dirOf (s h : Int) : Int := if s < 0 ∨ (s = 0 ∧ h < 0) then -1 else 1
def sp_direction_of : Sp := fun vs H Q _ => ∃ s h : Int, vs = [.int s, .int h] ∧ Q (.int (dirOf s h)) H
theorem dir_b (s h : Int) : -2 ^ 64 < dirOf s h ∧ dirOf s h < 2 ^ 64 := by
  unfold dirOf
  split <;> decide
theorem ok_direction_of {P : Program} {w : World} {K : PySem.W.Frag} {mg : Str → Option Value} {base : Heap} (T : Txt K mg) {f : Addr} {fd : FuncData} (D : Def K mg "direction_of" s_direction_of ["steps", "halves"] f fd) : FnOk P w K mg base CX0 1 f fd ["steps", "halves"] (sp_direction_of) := by
  refine D.F.ok sc_direction_of (fun vs H Q E h => ?_) (fun cdv A outer s H vs Q E hr h => ⟨_, (pss_cons (ps_if (PW.pt (pw_or (pt_cmpR op_lt (pv 0) pe_int (nomark _)) (pw_or1 (PW.pt (pw_and (pt_cmpR op_eq (pv 0) pe_int (nomark _)) (pw_and1 (pt_cmpR op_lt (pv 1) pe_int (nomark _)))))))) (pss_one (ps_ret (pe_un un_neg pe_int))) pss_nil)
      (pss_one (ps_ret pe_int))), ?_⟩)
  · obtain ⟨s, h, rfl, _⟩ := h
    rfl
  · obtain ⟨s, h, rfl, k⟩ := h
    have e : ∀ i, i = dirOf s h → Q (.int i) H := fun i z => z ▸ k
    simp only [tSeq, tAsg, tIfS, tRet, tNext, tOp, tUn, tTest, tB, tNot, tAnd, tOr, tAndV, tOrV, tNotV, tChain, tVar, tC, tCons, tNil, tCall, tCB, tIf, tDrop, gName, tAug, ipI, rI, rI0, rU, CMul, CDiv, rEq, rNe, scal, tTab, tInTab, cxOf_K, L2.start, Nat.reduceAdd, Nat.reduceSub, Nat.sub_self, List.map_cons, List.map_nil, List.length_cons, List.length_nil, List.replicate, List.append_nil, List.cons_append, List.nil_append, List.set_cons_zero, List.set_cons_succ, List.getElem?_cons_zero, List.getElem?_cons_succ, Option.some.injEq, List.cons.injEq, V.int.injEq, V.bl.injEq, V.ref.injEq, and_true, true_and, exists_eq_left, and_assoc, exists_eq_left', exists_and_left, decide_eq_true_eq, Bool.true_eq_false, if_true, if_false]
    unfold dirOf at e
    repeat' split
    all_goals
      apply e
      split <;> simp_all <;> omega
theorem has_direction_of {P : Program} {w : World} {K : PySem.W.Frag} {mg : Str → Option Value} {base : Heap} (T : Txt K mg) : Has P w K mg base "direction_of" 1 ["steps", "halves"] (sp_direction_of) :=
  has_of T.d_direction_of fun f fd D => ok_direction_of T D
def sp_usual_halves : Sp := fun vs H Q _ => ∃ s : Int, vs = [.int s] ∧ Q (.int (Sw68.usual s)) H
theorem usual_eq (s : Int) : 12 * (s / 7) + Sw68.natural (s % 7) = Sw68.usual s := by
  unfold Sw68.usual
  rw [fdiv7, fmod7]
theorem ok_usual_halves {P : Program} {w : World} {K : PySem.W.Frag} {mg : Str → Option Value} {base : Heap} (T : Txt K mg) {f : Addr} {fd : FuncData} (D : Def K mg "usual_halves" s_usual_halves ["steps"] f fd) : FnOk P w K mg base CX0 1 f fd ["steps"] (sp_usual_halves) := by
  refine D.F.ok sc_usual_halves (fun vs H Q E h => ?_) (fun cdv A outer s H vs Q E hr h => ⟨_, (pss_one (ps_ret (pe_op op_add (pe_op op_mul (pe_globI T.c_HALVES_IN_OCTAVE) (pe_op op_fdiv (pv 0) (pe_globI T.c_LETTERS))) (pe_tab T.c_HALVES_ABOVE_C (pe_op op_mod (pv 0) (pe_globI T.c_LETTERS)) (fun _ _ => rfl))))), ?_⟩)
  · obtain ⟨s, rfl, _⟩ := h
    rfl
  · obtain ⟨s, rfl, k⟩ := h
    simp only [tSeq, tAsg, tIfS, tRet, tNext, tOp, tUn, tTest, tB, tNot, tAnd, tOr, tAndV, tOrV, tNotV, tChain, tVar, tC, tCons, tNil, tCall, tCB, tIf, tDrop, gName, tAug, ipI, rI, rI0, rU, CMul, CDiv, rEq, rNe, scal, tTab, tInTab, cxOf_K, L2.start, Nat.reduceAdd, Nat.reduceSub, Nat.sub_self, List.map_cons, List.map_nil, List.length_cons, List.length_nil, List.replicate, List.append_nil, List.cons_append, List.nil_append, List.set_cons_zero, List.set_cons_succ, List.getElem?_cons_zero, List.getElem?_cons_succ, Option.some.injEq, List.cons.injEq, V.int.injEq, V.bl.injEq, V.ref.injEq, and_true, true_and, exists_eq_left, and_assoc, exists_eq_left', exists_and_left, decide_eq_true_eq, Bool.true_eq_false, if_true, if_false]
    rw [← usual_eq] at k
    refine ⟨by decide, by decide, .inl (by decide), by decide, by omega, by omega, k⟩
theorem has_usual_halves {P : Program} {w : World} {K : PySem.W.Frag} {mg : Str → Option Value} {base : Heap} (T : Txt K mg) : Has P w K mg base "usual_halves" 1 ["steps"] (sp_usual_halves) :=
  has_of T.d_usual_halves fun f fd D => ok_usual_halves T D
def perf (d : Int) : Int := if d = 0 then 0 else if 0 < d then d + 1 else d - 1
def sp_perfect_kind : Sp := fun vs H Q _ => ∃ d : Int, vs = [.int d] ∧ Q (.int (perf d)) H
theorem ok_perfect_kind {P : Program} {w : World} {K : PySem.W.Frag} {mg : Str → Option Value} {base : Heap} (T : Txt K mg) {f : Addr} {fd : FuncData} (D : Def K mg "perfect_kind" s_perfect_kind ["more"] f fd) : FnOk P w K mg base CX0 1 f fd ["more"] (sp_perfect_kind) := by
  refine D.F.ok sc_perfect_kind (fun vs H Q E h => ?_) (fun cdv A outer s H vs Q E hr h => ⟨_, (pss_cons (ps_if (pt_cmpR op_gt (pv 0) pe_int (nomark _)) (pss_one (ps_ret (pe_op op_add (pv 0) pe_int))) pss_nil)
      (pss_cons (ps_if (pt_cmpR op_lt (pv 0) pe_int (nomark _)) (pss_one (ps_ret (pe_op op_sub (pv 0) pe_int))) pss_nil)
      (pss_one (ps_ret pe_int)))), ?_⟩)
  · obtain ⟨d, rfl, _⟩ := h
    rfl
  · obtain ⟨d, rfl, k⟩ := h
    have e : ∀ i, i = perf d → Q (.int i) H := fun i z => z ▸ k
    simp only [tSeq, tAsg, tIfS, tRet, tNext, tOp, tUn, tTest, tB, tNot, tAnd, tOr, tAndV, tOrV, tNotV, tChain, tVar, tC, tCons, tNil, tCall, tCB, tIf, tDrop, gName, tAug, ipI, rI, rI0, rU, CMul, CDiv, rEq, rNe, scal, tTab, tInTab, cxOf_K, L2.start, Nat.reduceAdd, Nat.reduceSub, Nat.sub_self, List.map_cons, List.map_nil, List.length_cons, List.length_nil, List.replicate, List.append_nil, List.cons_append, List.nil_append, List.set_cons_zero, List.set_cons_succ, List.getElem?_cons_zero, List.getElem?_cons_succ, Option.some.injEq, List.cons.injEq, V.int.injEq, V.bl.injEq, V.ref.injEq, and_true, true_and, exists_eq_left, and_assoc, exists_eq_left', exists_and_left, decide_eq_true_eq, Bool.true_eq_false, if_true, if_false]
    unfold perf at e
    repeat' split
    all_goals
      apply e
      repeat' split
      all_goals omega
theorem has_perfect_kind {P : Program} {w : World} {K : PySem.W.Frag} {mg : Str → Option Value} {base : Heap} (T : Txt K mg) : Has P w K mg base "perfect_kind" 1 ["more"] (sp_perfect_kind) :=
  has_of T.d_perfect_kind fun f fd D => ok_perfect_kind T D
def othr (d : Int) : Int := if d = 0 then 1 else if d = -1 then -1 else if 0 < d then d + 1 else d
def sp_other_kind : Sp := fun vs H Q _ => ∃ d : Int, vs = [.int d] ∧ Q (.int (othr d)) H
theorem ok_other_kind {P : Program} {w : World} {K : PySem.W.Frag} {mg : Str → Option Value} {base : Heap} (T : Txt K mg) {f : Addr} {fd : FuncData} (D : Def K mg "other_kind" s_other_kind ["more"] f fd) : FnOk P w K mg base CX0 1 f fd ["more"] (sp_other_kind) := by
  refine D.F.ok sc_other_kind (fun vs H Q E h => ?_) (fun cdv A outer s H vs Q E hr h => ⟨_, (pss_cons (ps_if (pt_cmpR op_lt (pv 0) pe_int (nomark _)) (pss_one (ps_ret (pv 0))) pss_nil)
      (pss_one (ps_ret (pe_op op_add (pv 0) pe_int)))), ?_⟩)
  · obtain ⟨d, rfl, _⟩ := h
    rfl
  · obtain ⟨d, rfl, k⟩ := h
    have e : ∀ i, i = othr d → Q (.int i) H := fun i z => z ▸ k
    simp only [tSeq, tAsg, tIfS, tRet, tNext, tOp, tUn, tTest, tB, tNot, tAnd, tOr, tAndV, tOrV, tNotV, tChain, tVar, tC, tCons, tNil, tCall, tCB, tIf, tDrop, gName, tAug, ipI, rI, rI0, rU, CMul, CDiv, rEq, rNe, scal, tTab, tInTab, cxOf_K, L2.start, Nat.reduceAdd, Nat.reduceSub, Nat.sub_self, List.map_cons, List.map_nil, List.length_cons, List.length_nil, List.replicate, List.append_nil, List.cons_append, List.nil_append, List.set_cons_zero, List.set_cons_succ, List.getElem?_cons_zero, List.getElem?_cons_succ, Option.some.injEq, List.cons.injEq, V.int.injEq, V.bl.injEq, V.ref.injEq, and_true, true_and, exists_eq_left, and_assoc, exists_eq_left', exists_and_left, decide_eq_true_eq, Bool.true_eq_false, if_true, if_false]
    unfold othr at e
    repeat' split
    all_goals
      apply e
      repeat' split
      all_goals omega
theorem has_other_kind {P : Program} {w : World} {K : PySem.W.Frag} {mg : Str → Option Value} {base : Heap} (T : Txt K mg) : Has P w K mg base "other_kind" 1 ["more"] (sp_other_kind) :=
  has_of T.d_other_kind fun f fd D => ok_other_kind T D
def kindM (s h : Int) : Int := if Sw68.perfect s = true then perf (h - Sw68.usual s) else othr (h - Sw68.usual s)
def sp_kind_of : Sp := fun vs H Q _ => ∃ s h : Int, vs = [.int s, .int h] ∧ Q (.int (kindM s h)) H
theorem perfect_eq (s : Int) : decide (s % 7 ∈ ([0, 3, 4] : List Int)) = Sw68.perfect s := by
  unfold Sw68.perfect
  rw [fmod7]
  by_cases h0 : s % 7 = 0 <;> by_cases h3 : s % 7 = 3 <;> by_cases h4 : s % 7 = 4 <;> simp [h0, h3, h4]
theorem ok_kind_of {P : Program} {w : World} {K : PySem.W.Frag} {mg : Str → Option Value} {base : Heap} (T : Txt K mg) {f : Addr} {fd : FuncData} (D : Def K mg "kind_of" s_kind_of ["steps", "halves"] f fd) : FnOk P w K mg base CX0 2 f fd ["steps", "halves"] (sp_kind_of) := by
  refine D.F.ok sc_kind_of (fun vs H Q E h => ?_) (fun cdv A outer s H vs Q E hr h => ⟨_, (pss_cons (ps_set (i := 2) sc_kind_of.nd rfl (Or.inl rfl) (pe_op op_sub (pv 1) (pe_has (has_usual_halves T) (hr.mono (by decide)) (pa_cons (pv 0) pa_nil))))
      (pss_cons (ps_if (pt_inTab T.c_PERFECT_RESTS (pe_op op_mod (pv 0) (pe_globI T.c_LETTERS))) (pss_one (ps_ret (pe_has (has_perfect_kind T) (hr.mono (by decide)) (pa_cons (pv 2) pa_nil)))) pss_nil)
      (pss_one (ps_ret (pe_has (has_other_kind T) (hr.mono (by decide)) (pa_cons (pv 2) pa_nil)))))), ?_⟩)
  · obtain ⟨s, h, rfl, _⟩ := h
    rfl
  · obtain ⟨s, h, rfl, k⟩ := h
    simp only [tSeq, tAsg, tIfS, tRet, tNext, tOp, tUn, tTest, tB, tNot, tAnd, tOr, tAndV, tOrV, tNotV, tChain, tVar, tC, tCons, tNil, tCall, tCB, tIf, tDrop, gName, tAug, ipI, rI, rI0, rU, CMul, CDiv, rEq, rNe, scal, tTab, tInTab, cxOf_K, L2.start, Nat.reduceAdd, Nat.reduceSub, Nat.sub_self, List.map_cons, List.map_nil, List.length_cons, List.length_nil, List.replicate, List.append_nil, List.cons_append, List.nil_append, List.set_cons_zero, List.set_cons_succ, List.getElem?_cons_zero, List.getElem?_cons_succ, Option.some.injEq, List.cons.injEq, V.int.injEq, V.bl.injEq, V.ref.injEq, and_true, true_and, exists_eq_left, and_assoc, exists_eq_left', exists_and_left, decide_eq_true_eq, Bool.true_eq_false, if_true, if_false, sp_usual_halves, sp_perfect_kind, sp_other_kind]
    refine ⟨by decide, ?_⟩
    have e := perfect_eq s
    unfold kindM at k
    by_cases c : s % 7 ∈ ([0, 3, 4] : List Int)
    · rw [decide_eq_true c] at e
      rw [← e, if_pos rfl] at k
      rw [if_pos c]
      exact k
    · rw [decide_eq_false c] at e
      rw [← e, if_neg Bool.false_ne_true] at k
      rw [if_neg c]
      exact k
theorem has_kind_of {P : Program} {w : World} {K : PySem.W.Frag} {mg : Str → Option Value} {base : Heap} (T : Txt K mg) : Has P w K mg base "kind_of" 2 ["steps", "halves"] (sp_kind_of) :=
  has_of T.d_kind_of fun f fd D => ok_kind_of T D
/-- counted: a new list, how many ahead -/
def sp_counted (K : PySem.W.Frag) : Sp := fun vs H Q _ => ∃ (a : Addr) (xs : List Int), vs = [.ref a] ∧ (SqL K H a (xs.map V.int) ∨ SqT K H a (xs.map V.int)) ∧ xs.length ≤ 100000 ∧
  ∀ (H' : Hp) (p : Addr), H' p = some (.lst (((xs.length : Int) :: xs).map V.int)) → Same H H' → Q (.ref p) H'
theorem ok_counted {P : Program} {w : World} {K : PySem.W.Frag} {mg : Str → Option Value} {base : Heap} (T : Txt K mg) {f : Addr} {fd : FuncData} (D : Def K mg "counted" s_counted ["numbers"] f fd) : FnOk P w K mg base CX0 1 f fd ["numbers"] (sp_counted K) := by
  refine D.F.ok sc_counted (fun vs H Q E h => ?_) (fun cdv A outer s H vs Q E hr h => ⟨_, (pss_one (ps_ret (pe_op op_cat (pe_lst (pa_cons (pe_callB call_len_seq (by rfl) T.b_len PySem.boot_len (pa_cons (pv 0) pa_nil)) pa_nil)) (pe_callTy call_list_of (by rfl) T.b_list (by decide +kernel) (pa_cons (pv 0) pa_nil))))), ?_⟩)
  · obtain ⟨a, xs, rfl, _⟩ := h
    rfl
  · obtain ⟨a, xs, rfl, hs, hl, k⟩ := h
    simp only [tSeq, tAsg, tIfS, tRet, tNext, tOp, tUn, tTest, tB, tNot, tAnd, tOr, tAndV, tOrV, tNotV, tChain, tVar, tC, tCons, tNil, tCall, tCB, tIf, tDrop, gName, tAug, ipI, rI, rI0, rU, CMul, CDiv, rEq, rNe, scal, tTab, tInTab, cxOf_K, L2.start, Nat.reduceAdd, Nat.reduceSub, Nat.sub_self, List.map_cons, List.map_nil, List.length_cons, List.length_nil, List.replicate, List.append_nil, List.cons_append, List.nil_append, List.set_cons_zero, List.set_cons_succ, List.getElem?_cons_zero, List.getElem?_cons_succ, Option.some.injEq, List.cons.injEq, V.int.injEq, V.bl.injEq, V.ref.injEq, and_true, true_and, exists_eq_left, and_assoc, exists_eq_left', exists_and_left, decide_eq_true_eq, Bool.true_eq_false, if_true, if_false, tLst]
    refine ⟨_, hs, line (by decide), fun p hp => ⟨xs.map V.int, hs.imp (Same.seq (Same.new hp)) (Same.tup (Same.new hp)), fun q hq => ?_⟩⟩
    have np : q ≠ p := ne_new hq
    refine ⟨p, q, _, _, rfl, rfl, (upd_ne np.symm).trans upd_same, upd_same, line (by simp; omega), fun p' hp' => k _ p' ?_ ?_⟩
    · rw [upd_same]
      simp
    · exact ((Same.new hp).trans (Same.new hq)).trans (Same.new hp')
theorem has_counted {P : Program} {w : World} {K : PySem.W.Frag} {mg : Str → Option Value} {base : Heap} (T : Txt K mg) : Has P w K mg base "counted" 1 ["numbers"] (sp_counted K) :=
  has_of T.d_counted fun f fd D => ok_counted T D
/-- the answer of between, as the specification tells it -/
def ans (l r o l2 r2 o2 : Int) : List Int := Sw68Neutral.out (Sw68.step (.between ⟨l, r, o⟩ ⟨l2, r2, o2⟩))
def sp_between : Sp := fun vs H Q _ => ∃ l r o l2 r2 o2 : Int, vs = [.int l, .int r, .int o, .int l2, .int r2, .int o2] ∧
  ∀ (H' : Hp) (p : Addr), H' p = some (.lst ((ans l r o l2 r2 o2).map V.int)) → Q (.ref p) H'
theorem name_eq (s h : Int) : Sw68.nameOf ⟨s, h⟩ = (dirOf s h, dirOf s h * s + 1, kindM (dirOf s h * s) (dirOf s h * h)) := by
  unfold Sw68.nameOf dirOf kindM perf othr
  by_cases c : s < 0 ∨ (s = 0 ∧ h < 0)
  · have d : (decide (s < 0) || (s == 0 && decide (h < 0))) = true := by simpa using c
    have e1 : (-1 : Int) * s = -s := by omega
    have e2 : (-1 : Int) * h = -h := by omega
    simp only [d, if_pos c, if_true, e1, e2]
  · have d : (decide (s < 0) || (s == 0 && decide (h < 0))) = false := by
      rw [← Bool.not_eq_true]
      simpa using c
    have e1 : (1 : Int) * s = s := by omega
    have e2 : (1 : Int) * h = h := by omega
    simp only [d, if_neg c, Bool.false_eq_true, if_false, e1, e2]
theorem ans_no {l r o l2 r2 o2 : Int} (c : (Sw68.noteOk ⟨l, r, o⟩ && Sw68.noteOk ⟨l2, r2, o2⟩) = false) : ans l r o l2 r2 o2 = [-1] := by
  unfold ans Sw68.step
  simp only [c, if_true]
  rfl
theorem ans_ok {l r o l2 r2 o2 : Int} (c1 : Sw68.noteOk ⟨l, r, o⟩ = true) (c2 : Sw68.noteOk ⟨l2, r2, o2⟩ = true) : ans l r o l2 r2 o2 =
    [0, 5, 7 * o2 + l2 - (7 * o + l), 12 * (o2 + 1) + Sw68.natural l2 + r2 - (12 * (o + 1) + Sw68.natural l + r), dirOf (7 * o2 + l2 - (7 * o + l)) (12 * (o2 + 1) + Sw68.natural l2 + r2 - (12 * (o + 1) + Sw68.natural l + r)),
     dirOf (7 * o2 + l2 - (7 * o + l)) (12 * (o2 + 1) + Sw68.natural l2 + r2 - (12 * (o + 1) + Sw68.natural l + r)) * (7 * o2 + l2 - (7 * o + l)) + 1,
     kindM (dirOf (7 * o2 + l2 - (7 * o + l)) (12 * (o2 + 1) + Sw68.natural l2 + r2 - (12 * (o + 1) + Sw68.natural l + r)) * (7 * o2 + l2 - (7 * o + l)))
       (dirOf (7 * o2 + l2 - (7 * o + l)) (12 * (o2 + 1) + Sw68.natural l2 + r2 - (12 * (o + 1) + Sw68.natural l + r)) * (12 * (o2 + 1) + Sw68.natural l2 + r2 - (12 * (o + 1) + Sw68.natural l + r)))] := by
  unfold ans Sw68.step
  simp only [c1, c2, Bool.and_self, Bool.true_eq_false, if_false, Sw68.between, Sw68.Note.step, Sw68.Note.sound, name_eq]
  rfl
theorem between_eq {l r o l2 r2 o2 : Int} (h1 : -2147483648 ≤ l ∧ l ≤ 2147483647) (h2 : -2147483648 ≤ r ∧ r ≤ 2147483647) (h3 : -2147483648 ≤ o ∧ o ≤ 2147483647) (h4 : -2147483648 ≤ l2 ∧ l2 ≤ 2147483647) (h5 : -2147483648 ≤ r2 ∧ r2 ≤ 2147483647) (h6 : -2147483648 ≤ o2 ∧ o2 ≤ 2147483647) :
    PySw68.between l r o l2 r2 o2 = ans l r o l2 r2 o2 := by
  have e : Sw68Neutral.callOf (0 :: l :: r :: o :: l2 :: r2 :: o2 :: []) = some (.between ⟨l, r, o⟩ ⟨l2, r2, o2⟩) := by
    show Sw68Neutral.all_ ((Sw68Neutral.noteIn (l :: r :: o :: l2 :: r2 :: o2 :: [])).bind _) = _
    rw [note_in h1 h2 h3]
    show Sw68Neutral.all_ (Option.map _ (Sw68Neutral.noteIn (l2 :: r2 :: o2 :: []))) = _
    rw [note_in h4 h5 h6]
    rfl
  show Sw68Neutral.f (0 :: l :: r :: o :: l2 :: r2 :: o2 :: []) = _
  unfold Sw68Neutral.f
  rw [e]
  rfl
theorem ok_between {P : Program} {w : World} {K : PySem.W.Frag} {mg : Str → Option Value} {base : Heap} (T : Txt K mg) {f : Addr} {fd : FuncData} (D : Def K mg "between" s_between ["letter", "raised", "octave", "letter_two", "raised_two", "octave_two"] f fd) : FnOk P w K mg base CX0 3 f fd ["letter", "raised", "octave", "letter_two", "raised_two", "octave_two"] (sp_between) := by
  refine D.F.ok sc_between (fun vs H Q E h => ?_) (fun cdv A outer s H vs Q E hr h => ⟨_, (pss_cons (ps_if (PW.pt (pw_or (pt_not (pt_val (pe_has (has_is_note T) (hr.mono (by decide)) (pa_cons (pv 0) (pa_cons (pv 1) (pa_cons (pv 2) pa_nil)))))) (pw_or1 (pt_not (pt_val (pe_has (has_is_note T) (hr.mono (by decide)) (pa_cons (pv 3) (pa_cons (pv 4) (pa_cons (pv 5) pa_nil))))))))) (pss_one (ps_ret (pe_lst (pa_cons (pe_globI T.c_REFUSED) pa_nil)))) pss_nil)
      (pss_cons (ps_set (i := 6) sc_between.nd rfl (Or.inl rfl) (pe_op op_sub (pe_has (has_step_of T) (hr.mono (by decide)) (pa_cons (pv 3) (pa_cons (pv 5) pa_nil))) (pe_has (has_step_of T) (hr.mono (by decide)) (pa_cons (pv 0) (pa_cons (pv 2) pa_nil)))))
      (pss_cons (ps_set (i := 7) sc_between.nd rfl (Or.inl rfl) (pe_op op_sub (pe_has (has_sound_of T) (hr.mono (by decide)) (pa_cons (pv 3) (pa_cons (pv 4) (pa_cons (pv 5) pa_nil)))) (pe_has (has_sound_of T) (hr.mono (by decide)) (pa_cons (pv 0) (pa_cons (pv 1) (pa_cons (pv 2) pa_nil))))))
      (pss_cons (ps_set (i := 8) sc_between.nd rfl (Or.inl rfl) (pe_has (has_direction_of T) (hr.mono (by decide)) (pa_cons (pv 6) (pa_cons (pv 7) pa_nil))))
      (pss_cons (ps_set (i := 9) sc_between.nd rfl (Or.inl rfl) (pe_op op_add (pe_op op_mul (pv 8) (pv 6)) pe_int))
      (pss_cons (ps_set (i := 10) sc_between.nd rfl (Or.inl rfl) (pe_has (has_kind_of T) (hr.mono (by decide)) (pa_cons (pe_op op_mul (pv 8) (pv 6)) (pa_cons (pe_op op_mul (pv 8) (pv 7)) pa_nil))))
      (pss_one (ps_ret (pe_op op_cat (pe_lst (pa_cons (pe_globI T.c_DONE) pa_nil)) (pe_has (has_counted T) (hr.mono (by decide)) (pa_cons (pe_lst (pa_cons (pv 6) (pa_cons (pv 7) (pa_cons (pv 8) (pa_cons (pv 9) (pa_cons (pv 10) pa_nil)))))) pa_nil))))))))))), ?_⟩)
  · obtain ⟨l, r, o, l2, r2, o2, rfl, _⟩ := h
    rfl
  · obtain ⟨l, r, o, l2, r2, o2, rfl, k⟩ := h
    simp only [tSeq, tAsg, tIfS, tRet, tNext, tOp, tUn, tTest, tB, tNot, tAnd, tOr, tAndV, tOrV, tNotV, tChain, tVar, tC, tCons, tNil, tCall, tCB, tIf, tDrop, gName, tAug, ipI, rI, rI0, rU, CMul, CDiv, rEq, rNe, scal, tTab, tInTab, cxOf_K, L2.start, Nat.reduceAdd, Nat.reduceSub, Nat.sub_self, List.map_cons, List.map_nil, List.length_cons, List.length_nil, List.replicate, List.append_nil, List.cons_append, List.nil_append, List.set_cons_zero, List.set_cons_succ, List.getElem?_cons_zero, List.getElem?_cons_succ, Option.some.injEq, List.cons.injEq, V.int.injEq, V.bl.injEq, V.ref.injEq, and_true, true_and, exists_eq_left, and_assoc, exists_eq_left', exists_and_left, decide_eq_true_eq, Bool.true_eq_false, if_true, if_false, sp_is_note, sp_step_of, sp_sound_of, sp_direction_of, sp_kind_of]
    have ref : (Sw68.noteOk ⟨l, r, o⟩ && Sw68.noteOk ⟨l2, r2, o2⟩) = false → ∀ σ : L2.St, tLst (tCons (tC (V.int (-1))) tNil) σ H Q := fun c σ =>
      ⟨line (by decide), fun p hp => k _ p (by rw [upd_same, ans_no c]; rfl)⟩
    cases c1 : Sw68.noteOk ⟨l, r, o⟩ with
    | false => exact iteT (ref (by rw [c1] <;> rfl) _)
    | true =>
      refine iteF ?_
      cases c2 : Sw68.noteOk ⟨l2, r2, o2⟩ with
      | false => exact iteT (ref (by rw [c1, c2] <;> rfl) _)
      | true =>
        refine iteF ?_
        have b1 := ok_l c1
        have b2 := ok_l c2
        refine ⟨b2.1, b2.2, b1.1, b1.2, .inl (dir_b _ _), .inl (dir_b _ _), .inl (dir_b _ _), ?_⟩
        simp only [tSeq, tAsg, tIfS, tRet, tNext, tOp, tUn, tTest, tB, tNot, tAnd, tOr, tAndV, tOrV, tNotV, tChain, tVar, tC, tCons, tNil, tCall, tCB, tIf, tDrop, gName, tAug, ipI, rI, rI0, rU, CMul, CDiv, rEq, rNe, scal, tTab, tInTab, cxOf_K, L2.start, Nat.reduceAdd, Nat.reduceSub, Nat.sub_self, List.map_cons, List.map_nil, List.length_cons, List.length_nil, List.replicate, List.append_nil, List.cons_append, List.nil_append, List.set_cons_zero, List.set_cons_succ, List.getElem?_cons_zero, List.getElem?_cons_succ, Option.some.injEq, List.cons.injEq, V.int.injEq, V.bl.injEq, V.ref.injEq, and_true, true_and, exists_eq_left, and_assoc, exists_eq_left', exists_and_left, decide_eq_true_eq, Bool.true_eq_false, if_true, if_false, tLst]
        refine ⟨line (by decide), fun p0 hp0 => ⟨line (by decide), fun p hp => ⟨p, [_, _, _, _, _], rfl, .inl (SqL.of upd_same), by simp, fun H' p' hp' sm => ⟨p0, p', _, _, rfl, rfl, sm _ _ ((upd_ne (ne_new hp).symm).trans upd_same), hp', line (by simp), fun p'' _ => k _ p'' ?_⟩⟩⟩⟩
        rw [upd_same, ans_ok c1 c2]
        rfl
end Sn
namespace Sn
open PySem PySem.Spec PyProof.Rows L2
/-! ### The end: what the top has written -/
theorem txt_mk {K : PySem.W.Frag} {h : Heap} {mg : Str → Option Value} (X : K.In h) (G : h.Ns mainGlobals mg)
    {t_DONE : Tok}
    {t_REFUSED : Tok}
    {t_LETTERS : Tok}
    {t_HALVES_IN_OCTAVE : Tok}
    {t_MOST_RAISED : Tok}
    {t_LOWEST_OCTAVE : Tok}
    {t_HIGHEST_OCTAVE : Tok}
    {a_HALVES_ABOVE_C : Addr} {o_HALVES_ABOVE_C : Option Addr} {n_HALVES_ABOVE_C : Nat} {l_HALVES_ABOVE_C : Array (Option Value)} {t_HALVES_ABOVE_C_0 t_HALVES_ABOVE_C_1 t_HALVES_ABOVE_C_2 t_HALVES_ABOVE_C_3 t_HALVES_ABOVE_C_4 t_HALVES_ABOVE_C_5 t_HALVES_ABOVE_C_6 : Tok}
    {a_PERFECT_RESTS : Addr} {o_PERFECT_RESTS : Option Addr} {n_PERFECT_RESTS : Nat} {l_PERFECT_RESTS : Array (Option Value)} {t_PERFECT_RESTS_0 t_PERFECT_RESTS_1 t_PERFECT_RESTS_2 : Tok}
    {f_is_note : Addr} {od_is_note an_is_note : Option Addr} {sl_is_note : Array (Option Value)} {oc_is_note kV_is_note dc_is_note pm_is_note cd_is_note ct_is_note : Value}
    {f_step_of : Addr} {od_step_of an_step_of : Option Addr} {sl_step_of : Array (Option Value)} {oc_step_of kV_step_of dc_step_of pm_step_of cd_step_of ct_step_of : Value}
    {f_sound_of : Addr} {od_sound_of an_sound_of : Option Addr} {sl_sound_of : Array (Option Value)} {oc_sound_of kV_sound_of dc_sound_of pm_sound_of cd_sound_of ct_sound_of : Value}
    {f_direction_of : Addr} {od_direction_of an_direction_of : Option Addr} {sl_direction_of : Array (Option Value)} {oc_direction_of kV_direction_of dc_direction_of pm_direction_of cd_direction_of ct_direction_of : Value}
    {f_usual_halves : Addr} {od_usual_halves an_usual_halves : Option Addr} {sl_usual_halves : Array (Option Value)} {oc_usual_halves kV_usual_halves dc_usual_halves pm_usual_halves cd_usual_halves ct_usual_halves : Value}
    {f_perfect_kind : Addr} {od_perfect_kind an_perfect_kind : Option Addr} {sl_perfect_kind : Array (Option Value)} {oc_perfect_kind kV_perfect_kind dc_perfect_kind pm_perfect_kind cd_perfect_kind ct_perfect_kind : Value}
    {f_other_kind : Addr} {od_other_kind an_other_kind : Option Addr} {sl_other_kind : Array (Option Value)} {oc_other_kind kV_other_kind dc_other_kind pm_other_kind cd_other_kind ct_other_kind : Value}
    {f_kind_of : Addr} {od_kind_of an_kind_of : Option Addr} {sl_kind_of : Array (Option Value)} {oc_kind_of kV_kind_of dc_kind_of pm_kind_of cd_kind_of ct_kind_of : Value}
    {f_counted : Addr} {od_counted an_counted : Option Addr} {sl_counted : Array (Option Value)} {oc_counted kV_counted dc_counted pm_counted cd_counted ct_counted : Value}
    {f_between : Addr} {od_between an_between : Option Addr} {sl_between : Array (Option Value)} {oc_between kV_between dc_between pm_between cd_between ct_between : Value}
    (g_DONE : PySem.W.nsIn K mainGlobals "DONE" = some (some (.int (0) t_DONE)))
    (g_REFUSED : PySem.W.nsIn K mainGlobals "REFUSED" = some (some (.int (-1) t_REFUSED)))
    (g_LETTERS : PySem.W.nsIn K mainGlobals "LETTERS" = some (some (.int (7) t_LETTERS)))
    (g_HALVES_IN_OCTAVE : PySem.W.nsIn K mainGlobals "HALVES_IN_OCTAVE" = some (some (.int (12) t_HALVES_IN_OCTAVE)))
    (g_MOST_RAISED : PySem.W.nsIn K mainGlobals "MOST_RAISED" = some (some (.int (3) t_MOST_RAISED)))
    (g_LOWEST_OCTAVE : PySem.W.nsIn K mainGlobals "LOWEST_OCTAVE" = some (some (.int (-1) t_LOWEST_OCTAVE)))
    (g_HIGHEST_OCTAVE : PySem.W.nsIn K mainGlobals "HIGHEST_OCTAVE" = some (some (.int (9) t_HIGHEST_OCTAVE)))
    (g_HALVES_ABOVE_C : PySem.W.nsIn K mainGlobals "HALVES_ABOVE_C" = some (some (.ref a_HALVES_ABOVE_C)))
    (k_HALVES_ABOVE_C : K.lookup a_HALVES_ABOVE_C = some ⟨.type "tuple", o_HALVES_ABOVE_C, .seq #[.int (0) t_HALVES_ABOVE_C_0, .int (2) t_HALVES_ABOVE_C_1, .int (4) t_HALVES_ABOVE_C_2, .int (5) t_HALVES_ABOVE_C_3, .int (7) t_HALVES_ABOVE_C_4, .int (9) t_HALVES_ABOVE_C_5, .int (11) t_HALVES_ABOVE_C_6] n_HALVES_ABOVE_C, l_HALVES_ABOVE_C⟩)
    (g_PERFECT_RESTS : PySem.W.nsIn K mainGlobals "PERFECT_RESTS" = some (some (.ref a_PERFECT_RESTS)))
    (k_PERFECT_RESTS : K.lookup a_PERFECT_RESTS = some ⟨.type "tuple", o_PERFECT_RESTS, .seq #[.int (0) t_PERFECT_RESTS_0, .int (3) t_PERFECT_RESTS_1, .int (4) t_PERFECT_RESTS_2] n_PERFECT_RESTS, l_PERFECT_RESTS⟩)
    (g_len : PySem.W.nsIn K mainGlobals "len" = some none)
    (g_list : PySem.W.nsIn K mainGlobals "list" = some none)
    (g_is_note : PySem.W.nsIn K mainGlobals "is_note" = some (some (.ref f_is_note)))
    (l_is_note : K.lookup f_is_note = some ⟨oc_is_note, od_is_note, .func (PySem.W.fnOf "is_note" "is_note" (defArgs s_is_note) (defBody s_is_note) (defScope s_is_note) .none kV_is_note dc_is_note pm_is_note an_is_note cd_is_note ct_is_note), sl_is_note⟩)
    (e_is_note : PySem.W.codeIn K cd_is_note "is_note" = true)
    (p_is_note : PySem.W.keepIn K (.ref f_is_note) = true)
    (g_step_of : PySem.W.nsIn K mainGlobals "step_of" = some (some (.ref f_step_of)))
    (l_step_of : K.lookup f_step_of = some ⟨oc_step_of, od_step_of, .func (PySem.W.fnOf "step_of" "step_of" (defArgs s_step_of) (defBody s_step_of) (defScope s_step_of) .none kV_step_of dc_step_of pm_step_of an_step_of cd_step_of ct_step_of), sl_step_of⟩)
    (e_step_of : PySem.W.codeIn K cd_step_of "step_of" = true)
    (p_step_of : PySem.W.keepIn K (.ref f_step_of) = true)
    (g_sound_of : PySem.W.nsIn K mainGlobals "sound_of" = some (some (.ref f_sound_of)))
    (l_sound_of : K.lookup f_sound_of = some ⟨oc_sound_of, od_sound_of, .func (PySem.W.fnOf "sound_of" "sound_of" (defArgs s_sound_of) (defBody s_sound_of) (defScope s_sound_of) .none kV_sound_of dc_sound_of pm_sound_of an_sound_of cd_sound_of ct_sound_of), sl_sound_of⟩)
    (e_sound_of : PySem.W.codeIn K cd_sound_of "sound_of" = true)
    (p_sound_of : PySem.W.keepIn K (.ref f_sound_of) = true)
    (g_direction_of : PySem.W.nsIn K mainGlobals "direction_of" = some (some (.ref f_direction_of)))
    (l_direction_of : K.lookup f_direction_of = some ⟨oc_direction_of, od_direction_of, .func (PySem.W.fnOf "direction_of" "direction_of" (defArgs s_direction_of) (defBody s_direction_of) (defScope s_direction_of) .none kV_direction_of dc_direction_of pm_direction_of an_direction_of cd_direction_of ct_direction_of), sl_direction_of⟩)
    (e_direction_of : PySem.W.codeIn K cd_direction_of "direction_of" = true)
    (p_direction_of : PySem.W.keepIn K (.ref f_direction_of) = true)
    (g_usual_halves : PySem.W.nsIn K mainGlobals "usual_halves" = some (some (.ref f_usual_halves)))
    (l_usual_halves : K.lookup f_usual_halves = some ⟨oc_usual_halves, od_usual_halves, .func (PySem.W.fnOf "usual_halves" "usual_halves" (defArgs s_usual_halves) (defBody s_usual_halves) (defScope s_usual_halves) .none kV_usual_halves dc_usual_halves pm_usual_halves an_usual_halves cd_usual_halves ct_usual_halves), sl_usual_halves⟩)
    (e_usual_halves : PySem.W.codeIn K cd_usual_halves "usual_halves" = true)
    (p_usual_halves : PySem.W.keepIn K (.ref f_usual_halves) = true)
    (g_perfect_kind : PySem.W.nsIn K mainGlobals "perfect_kind" = some (some (.ref f_perfect_kind)))
    (l_perfect_kind : K.lookup f_perfect_kind = some ⟨oc_perfect_kind, od_perfect_kind, .func (PySem.W.fnOf "perfect_kind" "perfect_kind" (defArgs s_perfect_kind) (defBody s_perfect_kind) (defScope s_perfect_kind) .none kV_perfect_kind dc_perfect_kind pm_perfect_kind an_perfect_kind cd_perfect_kind ct_perfect_kind), sl_perfect_kind⟩)
    (e_perfect_kind : PySem.W.codeIn K cd_perfect_kind "perfect_kind" = true)
    (p_perfect_kind : PySem.W.keepIn K (.ref f_perfect_kind) = true)
    (g_other_kind : PySem.W.nsIn K mainGlobals "other_kind" = some (some (.ref f_other_kind)))
    (l_other_kind : K.lookup f_other_kind = some ⟨oc_other_kind, od_other_kind, .func (PySem.W.fnOf "other_kind" "other_kind" (defArgs s_other_kind) (defBody s_other_kind) (defScope s_other_kind) .none kV_other_kind dc_other_kind pm_other_kind an_other_kind cd_other_kind ct_other_kind), sl_other_kind⟩)
    (e_other_kind : PySem.W.codeIn K cd_other_kind "other_kind" = true)
    (p_other_kind : PySem.W.keepIn K (.ref f_other_kind) = true)
    (g_kind_of : PySem.W.nsIn K mainGlobals "kind_of" = some (some (.ref f_kind_of)))
    (l_kind_of : K.lookup f_kind_of = some ⟨oc_kind_of, od_kind_of, .func (PySem.W.fnOf "kind_of" "kind_of" (defArgs s_kind_of) (defBody s_kind_of) (defScope s_kind_of) .none kV_kind_of dc_kind_of pm_kind_of an_kind_of cd_kind_of ct_kind_of), sl_kind_of⟩)
    (e_kind_of : PySem.W.codeIn K cd_kind_of "kind_of" = true)
    (p_kind_of : PySem.W.keepIn K (.ref f_kind_of) = true)
    (g_counted : PySem.W.nsIn K mainGlobals "counted" = some (some (.ref f_counted)))
    (l_counted : K.lookup f_counted = some ⟨oc_counted, od_counted, .func (PySem.W.fnOf "counted" "counted" (defArgs s_counted) (defBody s_counted) (defScope s_counted) .none kV_counted dc_counted pm_counted an_counted cd_counted ct_counted), sl_counted⟩)
    (e_counted : PySem.W.codeIn K cd_counted "counted" = true)
    (p_counted : PySem.W.keepIn K (.ref f_counted) = true)
    (g_between : PySem.W.nsIn K mainGlobals "between" = some (some (.ref f_between)))
    (l_between : K.lookup f_between = some ⟨oc_between, od_between, .func (PySem.W.fnOf "between" "between" (defArgs s_between) (defBody s_between) (defScope s_between) .none kV_between dc_between pm_between an_between cd_between ct_between), sl_between⟩)
    (e_between : PySem.W.codeIn K cd_between "between" = true)
    (p_between : PySem.W.keepIn K (.ref f_between) = true) : Txt K mg :=
  ⟨⟨_, PySem.W.mg_of X G g_DONE⟩,
   ⟨_, PySem.W.mg_of X G g_REFUSED⟩,
   ⟨_, PySem.W.mg_of X G g_LETTERS⟩,
   ⟨_, PySem.W.mg_of X G g_HALVES_IN_OCTAVE⟩,
   ⟨_, PySem.W.mg_of X G g_MOST_RAISED⟩,
   ⟨_, PySem.W.mg_of X G g_LOWEST_OCTAVE⟩,
   ⟨_, PySem.W.mg_of X G g_HIGHEST_OCTAVE⟩,
   ⟨a_HALVES_ABOVE_C, PySem.W.mg_of X G g_HALVES_ABOVE_C, fun H => .inr ⟨_, _, _, k_HALVES_ABOVE_C, rfl, rfl, line (show 7 ≤ 1000000 from by decide), (Paired.cons ⟨t_HALVES_ABOVE_C_0, rfl⟩ (Paired.cons ⟨t_HALVES_ABOVE_C_1, rfl⟩ (Paired.cons ⟨t_HALVES_ABOVE_C_2, rfl⟩ (Paired.cons ⟨t_HALVES_ABOVE_C_3, rfl⟩ (Paired.cons ⟨t_HALVES_ABOVE_C_4, rfl⟩ (Paired.cons ⟨t_HALVES_ABOVE_C_5, rfl⟩ (Paired.cons ⟨t_HALVES_ABOVE_C_6, rfl⟩ Paired.nil)))))))⟩⟩,
   ⟨a_PERFECT_RESTS, PySem.W.mg_of X G g_PERFECT_RESTS, fun H => .inr ⟨_, _, _, k_PERFECT_RESTS, rfl, rfl, line (show 3 ≤ 1000000 from by decide), (Paired.cons ⟨t_PERFECT_RESTS_0, rfl⟩ (Paired.cons ⟨t_PERFECT_RESTS_1, rfl⟩ (Paired.cons ⟨t_PERFECT_RESTS_2, rfl⟩ Paired.nil)))⟩⟩,
   (PySem.W.mg_none_of X G g_len),
   (PySem.W.mg_none_of X G g_list),
   ⟨_, _, fun_mk (st := s_is_note) l_is_note e_is_note p_is_note, PySem.W.mg_of X G g_is_note, fun s us hu => match us, hu with | [_, _, _], _ => .of_eq rfl⟩,
   ⟨_, _, fun_mk (st := s_step_of) l_step_of e_step_of p_step_of, PySem.W.mg_of X G g_step_of, fun s us hu => match us, hu with | [_, _], _ => .of_eq rfl⟩,
   ⟨_, _, fun_mk (st := s_sound_of) l_sound_of e_sound_of p_sound_of, PySem.W.mg_of X G g_sound_of, fun s us hu => match us, hu with | [_, _, _], _ => .of_eq rfl⟩,
   ⟨_, _, fun_mk (st := s_direction_of) l_direction_of e_direction_of p_direction_of, PySem.W.mg_of X G g_direction_of, fun s us hu => match us, hu with | [_, _], _ => .of_eq rfl⟩,
   ⟨_, _, fun_mk (st := s_usual_halves) l_usual_halves e_usual_halves p_usual_halves, PySem.W.mg_of X G g_usual_halves, fun s us hu => match us, hu with | [_], _ => .of_eq rfl⟩,
   ⟨_, _, fun_mk (st := s_perfect_kind) l_perfect_kind e_perfect_kind p_perfect_kind, PySem.W.mg_of X G g_perfect_kind, fun s us hu => match us, hu with | [_], _ => .of_eq rfl⟩,
   ⟨_, _, fun_mk (st := s_other_kind) l_other_kind e_other_kind p_other_kind, PySem.W.mg_of X G g_other_kind, fun s us hu => match us, hu with | [_], _ => .of_eq rfl⟩,
   ⟨_, _, fun_mk (st := s_kind_of) l_kind_of e_kind_of p_kind_of, PySem.W.mg_of X G g_kind_of, fun s us hu => match us, hu with | [_, _], _ => .of_eq rfl⟩,
   ⟨_, _, fun_mk (st := s_counted) l_counted e_counted p_counted, PySem.W.mg_of X G g_counted, fun s us hu => match us, hu with | [_], _ => .of_eq rfl⟩,
   ⟨_, _, fun_mk (st := s_between) l_between e_between p_between, PySem.W.mg_of X G g_between, fun s us hu => match us, hu with | [_, _, _, _, _, _], _ => .of_eq rfl⟩⟩
theorem all_of {P : Program} {w : World} {K : PySem.W.Frag} {mg : Str → Option Value} {fa : Addr} (hfa : mg "between" = some (.ref fa)) (T : Txt K mg) :
    ∃ fd : FuncData, (∀ (s : Shared) (us : List Value), us.length = (["letter", "raised", "octave", "letter_two", "raised_two", "octave_two"] : List Str).length → BindsTo s fd ⟨us, []⟩ ((["letter", "raised", "octave", "letter_two", "raised_two", "octave_two"] : List Str).zip us)) ∧ ∀ base : Heap, K.In base → base.Ns mainGlobals mg → FnOk P w K mg base CX0 3 fa fd ["letter", "raised", "octave", "letter_two", "raised_two", "octave_two"] (sp_between) := by
  obtain ⟨f, fd, D⟩ := T.d_between
  have e : f = fa := by have z := D.g.symm.trans hfa; injection z with z; injection z
  subst e
  exact ⟨fd, D.bt, fun base _ _ => ok_between T D⟩
end Sn
open PySem PySem.W PyProof.Rows
set_option maxRecDepth 100000 in
set_option maxHeartbeats 8000000 in
theorem PySem.Challenge.cw_spellednotes_s01_between_holds : PySem.Challenge.rw_spellednotes_s01_between.Holds := by
  w_on; k_headS; (case hw => exact ⟨[.int 0, .int 0, .int 0, .int 0, .int 0, .int 0], by decide +kernel, by decide +kernel⟩)
  k_fillS
  refine L2.walk_specK (r := PySem.Challenge.rw_spellednotes_s01_between) (k := 3) (CX := L2.CX0) (ps := ["letter", "raised", "octave", "letter_two", "raised_two", "octave_two"]) (sp := fun _ => Sn.sp_between) (by decide +kernel) rfl rfl ⟨rfl, by decide, by decide⟩ (fun w h Y => PySem.W.kIn_of Y) ?F ?S (fun _ _ _ _ z => z)
  case F =>
    intro w mg fa h Y KX G hmg
    refine Sn.all_of hmg ?_
    refine' Sn.txt_mk KX G ?g_DONE ?g_REFUSED ?g_LETTERS ?g_HALVES_IN_OCTAVE ?g_MOST_RAISED ?g_LOWEST_OCTAVE ?g_HIGHEST_OCTAVE ?g_HALVES_ABOVE_C ?k_HALVES_ABOVE_C ?g_PERFECT_RESTS ?k_PERFECT_RESTS ?g_len ?g_list ?g_is_note ?l_is_note ?e_is_note ?p_is_note ?g_step_of ?l_step_of ?e_step_of ?p_step_of ?g_sound_of ?l_sound_of ?e_sound_of ?p_sound_of ?g_direction_of ?l_direction_of ?e_direction_of ?p_direction_of ?g_usual_halves ?l_usual_halves ?e_usual_halves ?p_usual_halves ?g_perfect_kind ?l_perfect_kind ?e_perfect_kind ?p_perfect_kind ?g_other_kind ?l_other_kind ?e_other_kind ?p_other_kind ?g_kind_of ?l_kind_of ?e_kind_of ?p_kind_of ?g_counted ?l_counted ?e_counted ?p_counted ?g_between ?l_between ?e_between ?p_between
    (case g_DONE => k_is)
    (case g_REFUSED => k_is)
    (case g_LETTERS => k_is)
    (case g_HALVES_IN_OCTAVE => k_is)
    (case g_MOST_RAISED => k_is)
    (case g_LOWEST_OCTAVE => k_is)
    (case g_HIGHEST_OCTAVE => k_is)
    (case g_HALVES_ABOVE_C => k_is)
    (case k_HALVES_ABOVE_C => k_is)
    (case g_PERFECT_RESTS => k_is)
    (case k_PERFECT_RESTS => k_is)
    (case g_len => k_is)
    (case g_list => k_is)
    (case g_is_note => k_is)
    (case l_is_note => k_is)
    (case e_is_note => k_is)
    (case p_is_note => k_is)
    (case g_step_of => k_is)
    (case l_step_of => k_is)
    (case e_step_of => k_is)
    (case p_step_of => k_is)
    (case g_sound_of => k_is)
    (case l_sound_of => k_is)
    (case e_sound_of => k_is)
    (case p_sound_of => k_is)
    (case g_direction_of => k_is)
    (case l_direction_of => k_is)
    (case e_direction_of => k_is)
    (case p_direction_of => k_is)
    (case g_usual_halves => k_is)
    (case l_usual_halves => k_is)
    (case e_usual_halves => k_is)
    (case p_usual_halves => k_is)
    (case g_perfect_kind => k_is)
    (case l_perfect_kind => k_is)
    (case e_perfect_kind => k_is)
    (case p_perfect_kind => k_is)
    (case g_other_kind => k_is)
    (case l_other_kind => k_is)
    (case e_other_kind => k_is)
    (case p_other_kind => k_is)
    (case g_kind_of => k_is)
    (case l_kind_of => k_is)
    (case e_kind_of => k_is)
    (case p_kind_of => k_is)
    (case g_counted => k_is)
    (case l_counted => k_is)
    (case e_counted => k_is)
    (case p_counted => k_is)
    (case g_between => k_is)
    (case l_between => k_is)
    (case e_between => k_is)
    (case p_between => k_is)
  case S =>
    intro K H xs a hO hwi hask hx
    obtain ⟨l, r, o, l2, r2, o2, u⟩ := a
    have q : (Codec.inInt (-2147483648) 2147483647 l && (Codec.inInt (-2147483648) 2147483647 r && (Codec.inInt (-2147483648) 2147483647 o && (Codec.inInt (-2147483648) 2147483647 l2 && (Codec.inInt (-2147483648) 2147483647 r2 && (Codec.inInt (-2147483648) 2147483647 o2 && true)))))) = true := hwi
    simp only [Codec.inInt, Bool.and_eq_true, decide_eq_true_eq] at q
    cases hx with
    | cons h1 hx => cases hx with
      | cons h2 hx => cases hx with
        | cons h3 hx => cases hx with
          | cons h4 hx => cases hx with
            | cons h5 hx => cases hx with
              | cons h6 hx =>
                cases hx; cases h1; cases h2; cases h3; cases h4; cases h5; cases h6
                refine ⟨l, r, o, l2, r2, o2, rfl, fun H' p hp => ?_⟩
                show L2.Dw K H' (.ref p) (WData.list ((PySw68.between l r o l2 r2 o2).map WData.int))
                rw [Sn.between_eq q.1 q.2.1 q.2.2.1 q.2.2.2.1 q.2.2.2.2.1 q.2.2.2.2.2.1]
                exact .lst (L2.SqL.of hp) (L2.dw_ints _)
#print axioms PySem.Challenge.cw_spellednotes_s01_between_holds

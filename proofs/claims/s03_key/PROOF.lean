import PyProof.Rows.All
import Wide.All
import OpenK.AllK
import Wide.FinOn
import Open.SpecLaws
import KE.OsGo
import HandS.Base
import HandS.Call
import HandS.List
import HandS.Ends
import HandS.Exc
import HandS.TryOnly
import HandS.ExcOwn
import HandS.Spec
import HandS.Words
import HandS.WordsList
import HandS.WordsExc
import HandS.Comp
import HandS.Dict
import HandS.Iter
import HandS.WordsDict
import PySem.Challenge.RW_spellednotes_s03_key
set_option Elab.async false
set_option linter.all false
set_option maxRecDepth 100000
set_option maxHeartbeats 2000000
namespace Sn
open PySem PySem.Spec PyProof.Rows L2
/-! ### Words of this proof: a def of the text with its promise; a number, a table of the top -/
def Has (P : Program) (w : World) (K : PySem.W.Frag) (mg : Str → Option Value) (base : Heap) (x : Str) (k : Nat) (ps : List Str) (sp : Sp) : Prop :=
  ∃ (f : Addr) (fd : FuncData), FnOk P w K mg base CX0 k f fd ps sp ∧ mg x = some (.ref f) ∧ PySem.W.keepIn K (.ref f) = true ∧ Binds K fd ps []
theorem pe_has {X : Cx} {x : Str} {k : Nat} {ps : List Str} {sp : Sp} {e : Expr} {es : List Expr} {p pos : Pos} {t : TA}
    (h : Has X.prog X.w X.K X.mg X.base x k ps sp) (hr : Room k X.A) (ha : PA X (e :: es) t) (hg : Gl X x := by rfl) (hdb : (x == ("__debug__" : Str)) = false := by decide)
    (he : starEach (e :: es) X.env = (false, eval e X.env) :: starEach es X.env := by rfl) (hpl : (backTo pos (starEach es X.env)).any (·.1) = false := by rfl) :
    PE X (.Call (.Name x p) (e :: es) [] pos) (tCall sp [] E0 t) := by
  obtain ⟨f, fd, F, g, kp, b⟩ := h
  exact pe_call F hr hg g kp b .nil pass0 ha hdb he hpl
theorem pe_globI {X : Cx} {x : Str} {n : Int} {pos : Pos} (hm : ∃ t, X.mg x = some (.int n t)) (hg : Gl X x := by rfl) (hd : (x == ("__debug__" : Str)) = false := by decide) : PE X (.Name x pos) (tC (.int n)) := by
  obtain ⟨t, ht⟩ := hm
  exact pe_glob hg ht ⟨t, rfl⟩ hd
/-- a written tuple of numbers of the top, at a name -/
def Tab (K : PySem.W.Frag) (mg : Str → Option Value) (x : Str) (ns : List Int) : Prop := ∃ a, mg x = some (.ref a) ∧ ∀ H, SqT K H a (ns.map V.int)
/-- its name as a value -/
def tGT (K : PySem.W.Frag) (ns : List Int) : TE := fun _ H Q => ∀ a, (∀ H, SqT K H a (ns.map V.int)) → Q (.ref a) H
theorem pe_globT {X : Cx} {x : Str} {ns : List Int} {pos : Pos} (hm : Tab X.K X.mg x ns) (hg : Gl X x := by rfl) (hd : (x == ("__debug__" : Str)) = false := by decide) : PE X (.Name x pos) (tGT X.K ns) := by
  obtain ⟨a, ha, hT⟩ := hm
  exact ⟨fun pins s σ H Q I h => (pe_glob (v := .ref a) hg ha rfl hd).run pins s σ H Q I (h a hT)⟩
theorem tGT_at {K : PySem.W.Frag} {ns : List Int} {σ : L2.St} {H : Hp} {Q : VK} (h : ∀ a, (∀ H, SqT K H a (ns.map V.int)) → Q (.ref a) H) : tGT K ns σ H Q := h
/-- an item of such a table -/
theorem at_tab {ns : List Int} {i : Int} (h0 : 0 ≤ i) (h1 : i < ns.length) : atI (ns.map V.int) i = some (V.int (ns.getD i.toNat 0)) := by
  obtain ⟨j, rfl⟩ : ∃ j : Nat, i = (j : Int) := ⟨i.toNat, by omega⟩
  refine atI_nat ?_
  have hj : j < ns.length := by omega
  simp [List.getElem?_map, List.getElem?_eq_getElem hj]
/-- a table's item, as a reading: the index lies in it -/
def tTab (ns : List Int) (ti : TE) : TE := fun σ H Q => ti σ H fun y H1 => ∃ i : Int, y = .int i ∧ (0 ≤ i ∧ i < ns.length) ∧ Q (.int (ns.getD i.toNat 0)) H1
theorem pe_tab {X : Cx} {x : Str} {ns : List Int} {p pos : Pos} {b : Expr} {ti : TE} (hm : Tab X.K X.mg x ns) (hi : PE X b ti) (hs : PlainIx b) (hg : Gl X x := by rfl) (hd : (x == ("__debug__" : Str)) = false := by decide) :
    PE X (.Subscript (.Name x p) b pos) (tTab ns ti) := by
  obtain ⟨a, ha, hT⟩ := hm
  have hr : IxR X (fun x y H Q => x = .ref a ∧ ∃ i : Int, y = .int i ∧ (0 ≤ i ∧ i < ns.length) ∧ Q (.int (ns.getD i.toNat 0)) H) := by
    rintro value slice pins s σ H x y v u Q I rx ry ⟨rfl, i, rfl, ⟨h0, h1⟩, q⟩ hs
    exact ix_tup value slice pins s σ H _ _ v u Q I rx ry ⟨a, _, i, _, rfl, rfl, hT H, at_tab h0 h1, q⟩ hs
  have e := pe_ix (pos := pos) hr (pe_glob (pos := p) (v := .ref a) hg ha rfl hd) hi hs
  have z : tOp (fun x y H Q => x = .ref a ∧ ∃ i : Int, y = .int i ∧ (0 ≤ i ∧ i < ns.length) ∧ Q (.int (ns.getD i.toNat 0)) H) (tC (.ref a)) ti = tTab ns ti := by
    funext σ H Q
    show ti σ H _ = ti σ H _
    congr 1
    funext y H1
    exact propext ⟨fun h => h.2, fun h => ⟨rfl, h⟩⟩
  rw [z] at e
  exact e
theorem in_ints {i : Int} : ∀ {ns : List Int}, inV (.int i) (ns.map V.int) = decide (i ∈ ns)
  | [] => by simp [inV]
  | n :: r => by
    have ih := in_ints (i := i) (ns := r)
    show (eqV (.int n) (.int i) || inV (.int i) (r.map V.int)) = _
    rw [ih]
    show ((n == i) || decide (i ∈ r)) = _
    by_cases h : n = i
    · subst h
      simp
    · have h' : ¬ i = n := fun z => h z.symm
      simp [h, h']
/-- is it in the table -/
def tInTab (ns : List Int) (ti : TE) : TE := fun σ H Q => ti σ H fun y H1 => ∃ i : Int, y = .int i ∧ Q (.bl (decide (i ∈ ns))) H1
theorem pe_inTab {X : Cx} {x : Str} {ns : List Int} {p pos : Pos} {b : Expr} {ti : TE} (hm : Tab X.K X.mg x ns) (hi : PE X b ti) (hg : Gl X x := by rfl) (hd : (x == ("__debug__" : Str)) = false := by decide) :
    PE X (.Compare b [.In] [.Name x p] pos) (tInTab ns ti) := by
  obtain ⟨a, ha, hT⟩ := hm
  have hr : OpR X (compareOp .In) (fun x y H Q => y = .ref a ∧ ∃ i : Int, x = .int i ∧ Q (.bl (decide (i ∈ ns))) H) := by
    rintro pins s σ H x y v u Q I rx ry ⟨rfl, i, rfl, q⟩
    refine op_in_seq pins s σ H _ _ v u Q I rx ry ⟨a, _, rfl, .inr (hT H), rfl, ?_, ?_⟩
    · rw [List.all_map]
      exact List.all_eq_true.mpr fun _ _ => rfl
    · rw [in_ints]
      exact q
  have e := pe_cmpR (pos := pos) hr hi (pe_glob (pos := p) (v := .ref a) hg ha rfl hd) rfl
  have z : tOp (fun x y H Q => y = .ref a ∧ ∃ i : Int, x = .int i ∧ Q (.bl (decide (i ∈ ns))) H) ti (tC (.ref a)) = tInTab ns ti := by
    funext σ H Q
    show ti σ H _ = ti σ H _
    congr 1
    funext y H1
    exact propext ⟨fun h => h.2, fun h => ⟨rfl, h⟩⟩
  rw [z] at e
  exact e
theorem pt_inTab {X : Cx} {x : Str} {ns : List Int} {p pos : Pos} {b : Expr} {ti : TE} (hm : Tab X.K X.mg x ns) (hi : PE X b ti) (hg : Gl X x := by rfl) (hd : (x == ("__debug__" : Str)) = false := by decide) :
    PT X (.Compare b [.In] [.Name x p] pos) (tB (tInTab ns ti)) := by
  obtain ⟨a, ha, hT⟩ := hm
  have hr : OpR X (compareOp .In) (fun x y H Q => y = .ref a ∧ ∃ i : Int, x = .int i ∧ Q (.bl (decide (i ∈ ns))) H) := by
    rintro pins s σ H x y v u Q I rx ry ⟨rfl, i, rfl, q⟩
    refine op_in_seq pins s σ H _ _ v u Q I rx ry ⟨a, _, rfl, .inr (hT H), rfl, ?_, ?_⟩
    · rw [List.all_map]
      exact List.all_eq_true.mpr fun _ _ => rfl
    · rw [in_ints]
      exact q
  have e := pt_cmpR (pos := pos) hr hi (pe_glob (pos := p) (v := .ref a) hg ha rfl hd) rfl
  have z : tTest (tOp (fun x y H Q => y = .ref a ∧ ∃ i : Int, x = .int i ∧ Q (.bl (decide (i ∈ ns))) H) ti (tC (.ref a))) = tB (tInTab ns ti) := by
    funext σ H Q
    show ti σ H _ = ti σ H _
    congr 1
    funext y H1
    exact propext ⟨fun h => h.2, fun h => ⟨rfl, h⟩⟩
  rw [z] at e
  exact e
/-- what the top has of a def -/
structure Def (K : PySem.W.Frag) (mg : Str → Option Value) (x : Str) (st : Stmt) (ps : List Str) (f : Addr) (fd : FuncData) : Prop where
  F : Fun K x x st f fd
  g : mg x = some (.ref f)
  bt : ∀ (s : Shared) (us : List Value), us.length = ps.length → BindsTo s fd ⟨us, []⟩ (ps.zip us)
theorem Def.b {K : PySem.W.Frag} {mg : Str → Option Value} {x : Str} {st : Stmt} {ps : List Str} {f : Addr} {fd : FuncData} (D : Def K mg x st ps f fd) : Binds K fd ps [] := fun s us _ hl => by
  rw [List.append_nil] at hl ⊢
  exact D.bt s us hl
theorem has_of {P : Program} {w : World} {K : PySem.W.Frag} {mg : Str → Option Value} {base : Heap} {x : Str} {st : Stmt} {ps : List Str} {k : Nat} {sp : Sp} (D : ∃ f fd, Def K mg x st ps f fd)
    (h : ∀ f fd, Def K mg x st ps f fd → FnOk P w K mg base CX0 k f fd ps sp) : Has P w K mg base x k ps sp := by
  obtain ⟨f, fd, D⟩ := D
  exact ⟨f, fd, h f fd D, D.g, D.F.kp, D.b⟩
theorem cxOf_K {CX : CXT} {P : Program} {w : World} {K : PySem.W.Frag} {mg : Str → Option Value} {base : Heap} {N : List Str} {q : Str} {sc : Scope} {f : Addr} {cd : Value} {A : Around} {o : List Env} {s : Shared} {H : Hp} {E : XK} : (cxOf CX P w K mg base N q sc f cd A o s H E).K = K := rfl
theorem Same.tup {K : PySem.W.Frag} {H H' : Hp} {a : Addr} {xs : List V} (e : Same H H') (h : SqT K H a xs) : SqT K H' a xs := by
  rcases h with (h | ⟨o, h⟩) | h
  · exact .inl (.inl (e _ _ h))
  · exact .inl (.inr ⟨o, e _ _ h⟩)
  · exact .inr h
theorem Same.new {H : Hp} {p : Addr} {o : HO} (hp : H p = none) : Same H (upd H p o) := fun b o' h => by
  rw [upd_ne (fun z => by rw [z, hp] at h; cases h)]
  exact h
theorem ne_new {H : Hp} {p q : Addr} {o : HO} (h : upd H p o q = none) : q ≠ p := fun z => by
  rw [z, upd_same] at h
  cases h
/-- tuple(xs), len(xs): their readings by name -/
def rTupOf (K : PySem.W.Frag) : List V → Hp → VK → Prop := fun xs H Q => ∃ p ys, xs = [.ref p] ∧ ((SqL K H p ys ∧ ∀ l, H l = none → Q (.ref l) (upd H l (.tup ys))) ∨ (SqT K H p ys ∧ Q (.ref p) H))
def rLenOf (K : PySem.W.Frag) : List V → Hp → VK → Prop := fun xs H Q => ∃ p ys, xs = [.ref p] ∧ (SqL K H p ys ∨ SqT K H p ys) ∧ Q (.int ys.length) H
theorem line {n : Nat} (h : n ≤ 1000000) : n ≤ sizeLine := Nat.le_trans h (by decide)
end Sn
namespace Sn
open PySem PySem.Spec PyProof.Rows L2
/-! ### The text: each def by its place in the program -/
def top (i : Nat) : Stmt := PySem.Challenge.pw_spellednotes_s03_key.main.body.getD i (.Pass ⟨0, 0, 0, 0⟩)
abbrev s_is_interval : Stmt := top 12
theorem sc_is_interval : FnScope ["steps", "halves"] ["steps", "halves"] (defScope s_is_interval) := ⟨rfl, rfl, rfl, by decide +kernel, rfl, by decide +kernel, by decide +kernel⟩
abbrev s_is_key : Stmt := top 13
theorem sc_is_key : FnScope ["in_key"] ["in_key"] (defScope s_is_key) := ⟨rfl, rfl, rfl, by decide +kernel, rfl, by decide +kernel, by decide +kernel⟩
abbrev s_step_of : Stmt := top 14
theorem sc_step_of : FnScope ["letter", "octave"] ["letter", "octave"] (defScope s_step_of) := ⟨rfl, rfl, rfl, by decide +kernel, rfl, by decide +kernel, by decide +kernel⟩
abbrev s_sound_of : Stmt := top 15
theorem sc_sound_of : FnScope ["letter", "raised", "octave"] ["letter", "raised", "octave"] (defScope s_sound_of) := ⟨rfl, rfl, rfl, by decide +kernel, rfl, by decide +kernel, by decide +kernel⟩
abbrev s_moved : Stmt := top 16
theorem sc_moved : FnScope ["letter", "raised", "octave", "steps", "halves", "step", "new_letter", "new_octave", "sound"] ["letter", "raised", "octave", "steps", "halves"] (defScope s_moved) := ⟨rfl, rfl, rfl, by decide +kernel, rfl, by decide +kernel, by decide +kernel⟩
abbrev s_fifths_of : Stmt := top 17
theorem sc_fifths_of : FnScope ["letter", "raised"] ["letter", "raised"] (defScope s_fifths_of) := ⟨rfl, rfl, rfl, by decide +kernel, rfl, by decide +kernel, by decide +kernel⟩
abbrev s_interval_fifths : Stmt := top 18
theorem sc_interval_fifths : FnScope ["steps", "halves", "note"] ["steps", "halves"] (defScope s_interval_fifths) := ⟨rfl, rfl, rfl, by decide +kernel, rfl, by decide +kernel, by decide +kernel⟩
abbrev s_moved_key : Stmt := top 19
theorem sc_moved_key : FnScope ["in_key", "steps", "halves", "fifths"] ["in_key", "steps", "halves"] (defScope s_moved_key) := ⟨rfl, rfl, rfl, by decide +kernel, rfl, by decide +kernel, by decide +kernel⟩
abbrev s_counted : Stmt := top 20
theorem sc_counted : FnScope ["numbers"] ["numbers"] (defScope s_counted) := ⟨rfl, rfl, rfl, by decide +kernel, rfl, by decide +kernel, by decide +kernel⟩
abbrev s_key : Stmt := top 21
theorem sc_key : FnScope ["in_key", "steps", "halves"] ["in_key", "steps", "halves"] (defScope s_key) := ⟨rfl, rfl, rfl, by decide +kernel, rfl, by decide +kernel, by decide +kernel⟩
/-- what the top has left -/
structure Txt (K : PySem.W.Frag) (mg : Str → Option Value) : Prop where
  c_DONE : ∃ t, mg "DONE" = some (.int (0) t)
  c_REFUSED : ∃ t, mg "REFUSED" = some (.int (-1) t)
  c_LETTERS : ∃ t, mg "LETTERS" = some (.int (7) t)
  c_HALVES_IN_OCTAVE : ∃ t, mg "HALVES_IN_OCTAVE" = some (.int (12) t)
  c_MOST_STEPS : ∃ t, mg "MOST_STEPS" = some (.int (100) t)
  c_MOST_HALVES : ∃ t, mg "MOST_HALVES" = some (.int (200) t)
  c_MOST_IN_KEY : ∃ t, mg "MOST_IN_KEY" = some (.int (7) t)
  c_FIFTHS_IN_CIRCLE : ∃ t, mg "FIFTHS_IN_CIRCLE" = some (.int (12) t)
  c_FIFTHS_IN_RAISING : ∃ t, mg "FIFTHS_IN_RAISING" = some (.int (7) t)
  c_HALVES_ABOVE_C : Tab K mg "HALVES_ABOVE_C" [0, 2, 4, 5, 7, 9, 11]
  c_FIFTHS_OF_LETTERS : Tab K mg "FIFTHS_OF_LETTERS" [0, 2, 4, -1, 1, 3, 5]
  b_len : mg "len" = none
  b_list : mg "list" = none
  d_is_interval : ∃ f fd, Def K mg "is_interval" s_is_interval ["steps", "halves"] f fd
  d_is_key : ∃ f fd, Def K mg "is_key" s_is_key ["in_key"] f fd
  d_step_of : ∃ f fd, Def K mg "step_of" s_step_of ["letter", "octave"] f fd
  d_sound_of : ∃ f fd, Def K mg "sound_of" s_sound_of ["letter", "raised", "octave"] f fd
  d_moved : ∃ f fd, Def K mg "moved" s_moved ["letter", "raised", "octave", "steps", "halves"] f fd
  d_fifths_of : ∃ f fd, Def K mg "fifths_of" s_fifths_of ["letter", "raised"] f fd
  d_interval_fifths : ∃ f fd, Def K mg "interval_fifths" s_interval_fifths ["steps", "halves"] f fd
  d_moved_key : ∃ f fd, Def K mg "moved_key" s_moved_key ["in_key", "steps", "halves"] f fd
  d_counted : ∃ f fd, Def K mg "counted" s_counted ["numbers"] f fd
  d_key : ∃ f fd, Def K mg "key" s_key ["in_key", "steps", "halves"] f fd
end Sn
namespace Sn
open PySem PySem.Spec PyProof.Rows L2
/-! ### The mathematics -/
theorem nat_tab (l : Int) : ([0, 2, 4, 5, 7, 9, 11] : List Int).getD l.toNat 0 = Sw68.natural l := rfl
theorem fdiv7 (s : Int) : s.fdiv 7 = s / 7 := Int.fdiv_eq_ediv_of_nonneg s (by decide)
theorem fmod7 (s : Int) : s.fmod 7 = s % 7 := Int.fmod_eq_emod_of_nonneg s (by decide)
theorem note_iff {l r o : Int} : Sw68.noteOk ⟨l, r, o⟩ = true ↔ (0 ≤ l ∧ l ≤ 6) ∧ (-3 ≤ r ∧ r ≤ 3) ∧ (-1 ≤ o ∧ o ≤ 9) := by
  simp only [Sw68.noteOk, Bool.and_eq_true, decide_eq_true_eq]
  exact Iff.rfl
theorem ok_l {l r o : Int} (h : Sw68.noteOk ⟨l, r, o⟩ = true) : 0 ≤ l ∧ l ≤ 6 := by
  simp only [Sw68.noteOk, Bool.and_eq_true, decide_eq_true_eq] at h
  exact h.1
theorem int_in {z : Int} {l : List Int} (h : -2147483648 ≤ z ∧ z ≤ 2147483647) : Sw68Neutral.intIn (z :: l) = some (z, l) := by
  unfold Sw68Neutral.intIn
  exact if_pos ⟨by omega, by omega⟩
theorem note_in {a b c : Int} {l : List Int} (h1 : -2147483648 ≤ a ∧ a ≤ 2147483647) (h2 : -2147483648 ≤ b ∧ b ≤ 2147483647) (h3 : -2147483648 ≤ c ∧ c ≤ 2147483647) : Sw68Neutral.noteIn (a :: b :: c :: l) = some (⟨a, b, c⟩, l) := by
  unfold Sw68Neutral.noteIn
  rw [int_in h1]
  show (Option.bind (Sw68Neutral.intIn (b :: c :: l)) _) = _
  rw [int_in h2]
  show (Option.map _ (Sw68Neutral.intIn (c :: l))) = _
  rw [int_in h3]
  rfl
theorem interval_in {a b : Int} {l : List Int} (h1 : -2147483648 ≤ a ∧ a ≤ 2147483647) (h2 : -2147483648 ≤ b ∧ b ≤ 2147483647) : Sw68Neutral.intervalIn (a :: b :: l) = some (⟨a, b⟩, l) := by
  unfold Sw68Neutral.intervalIn
  rw [int_in h1]
  show (Option.map _ (Sw68Neutral.intIn (b :: l))) = _
  rw [int_in h2]
  rfl
def slotI (σ : L2.St) (i : Nat) : Int := match σ[i]? with
  | some (some (.int f)) => f
  | _ => 0
def lenAt (H : Hp) (B : Addr) : Nat := match H B with
  | some (.lst xs) => xs.length
  | _ => 0
theorem lenAt_of {H : Hp} {B : Addr} {xs : List V} (h : H B = some (.lst xs)) : lenAt H B = xs.length := by
  unfold lenAt
  rw [h]
theorem iteY {c : Bool} {A B : Prop} (h : c = true) (k : A) : if c = true then A else B := by
  rw [if_pos h]
  exact k
theorem iteN {c : Bool} {A B : Prop} (h : ¬ c = true) (k : B) : if c = true then A else B := by
  rw [if_neg h]
  exact k
def sp_is_interval : Sp := fun vs H Q _ => ∃ s h : Int, vs = [.int s, .int h] ∧ Q (.bl (Sw68.intervalOk ⟨s, h⟩)) H
theorem interval_iff {s h : Int} : Sw68.intervalOk ⟨s, h⟩ = true ↔ (-100 ≤ s ∧ s ≤ 100) ∧ (-200 ≤ h ∧ h ≤ 200) := by
  simp only [Sw68.intervalOk, Bool.and_eq_true, decide_eq_true_eq]
  exact Iff.rfl
theorem ok_is_interval {P : Program} {w : World} {K : PySem.W.Frag} {mg : Str → Option Value} {base : Heap} (T : Txt K mg) {f : Addr} {fd : FuncData} (D : Def K mg "is_interval" s_is_interval ["steps", "halves"] f fd) : FnOk P w K mg base CX0 1 f fd ["steps", "halves"] (sp_is_interval) := by
  refine D.F.ok sc_is_interval (fun vs H Q E h => ?_) (fun cdv A outer s H vs Q E hr h => ⟨_, (pss_one (ps_ret (pe_and (pe_chain op_le op_le (pe_un un_neg (pe_globI T.c_MOST_STEPS)) (pv 0) (pe_globI T.c_MOST_STEPS)) (pe_one (pe_chain op_le op_le (pe_un un_neg (pe_globI T.c_MOST_HALVES)) (pv 1) (pe_globI T.c_MOST_HALVES)))))), ?_⟩)
  · obtain ⟨s, h, rfl, _⟩ := h
    rfl
  · obtain ⟨s, h, rfl, k⟩ := h
    have e : ∀ b, b = Sw68.intervalOk ⟨s, h⟩ → Q (.bl b) H := fun b z => z ▸ k
    simp only [tSeq, tAsg, tIfS, tRet, tNext, tOp, tUn, tTest, tB, tNot, tAnd, tOr, tAndV, tOrV, tNotV, tChain, tVar, tC, tCons, tNil, tCall, tCB, tIf, tDrop, gName, tAug, ipI, rI, rI0, rU, CMul, CDiv, rEq, rNe, scal, tTab, tInTab, cxOf_K, L2.start, Nat.reduceAdd, Nat.reduceSub, Nat.sub_self, List.map_cons, List.map_nil, List.length_cons, List.length_nil, List.replicate, List.append_nil, List.cons_append, List.nil_append, List.set_cons_zero, List.set_cons_succ, List.getElem?_cons_zero, List.getElem?_cons_succ, Option.some.injEq, List.cons.injEq, V.int.injEq, V.bl.injEq, V.ref.injEq, and_true, true_and, exists_eq_left, and_assoc, exists_eq_left', exists_and_left, decide_eq_true_eq, Bool.true_eq_false, if_true, if_false]
    repeat' split
    all_goals
      apply e
      clear e k
      rw [Bool.eq_iff_iff, interval_iff]
      simp at *
      try omega
theorem has_is_interval {P : Program} {w : World} {K : PySem.W.Frag} {mg : Str → Option Value} {base : Heap} (T : Txt K mg) : Has P w K mg base "is_interval" 1 ["steps", "halves"] (sp_is_interval) :=
  has_of T.d_is_interval fun f fd D => ok_is_interval T D
def sp_is_key : Sp := fun vs H Q _ => ∃ k : Int, vs = [.int k] ∧ Q (.bl (Sw68.keyOk k)) H
theorem key_iff {k : Int} : Sw68.keyOk k = true ↔ (-7 ≤ k ∧ k ≤ 7) := by
  simp only [Sw68.keyOk, Bool.and_eq_true, decide_eq_true_eq]
  exact Iff.rfl
theorem ok_is_key {P : Program} {w : World} {K : PySem.W.Frag} {mg : Str → Option Value} {base : Heap} (T : Txt K mg) {f : Addr} {fd : FuncData} (D : Def K mg "is_key" s_is_key ["in_key"] f fd) : FnOk P w K mg base CX0 1 f fd ["in_key"] (sp_is_key) := by
  refine D.F.ok sc_is_key (fun vs H Q E h => ?_) (fun cdv A outer s H vs Q E hr h => ⟨_, (pss_one (ps_ret (pe_chain op_le op_le (pe_un un_neg (pe_globI T.c_MOST_IN_KEY)) (pv 0) (pe_globI T.c_MOST_IN_KEY)))), ?_⟩)
  · obtain ⟨k, rfl, _⟩ := h
    rfl
  · obtain ⟨k, rfl, q⟩ := h
    have e : ∀ b, b = Sw68.keyOk k → Q (.bl b) H := fun b z => z ▸ q
    simp only [tSeq, tAsg, tIfS, tRet, tNext, tOp, tUn, tTest, tB, tNot, tAnd, tOr, tAndV, tOrV, tNotV, tChain, tVar, tC, tCons, tNil, tCall, tCB, tIf, tDrop, gName, tAug, ipI, rI, rI0, rU, CMul, CDiv, rEq, rNe, scal, tTab, tInTab, cxOf_K, L2.start, Nat.reduceAdd, Nat.reduceSub, Nat.sub_self, List.map_cons, List.map_nil, List.length_cons, List.length_nil, List.replicate, List.append_nil, List.cons_append, List.nil_append, List.set_cons_zero, List.set_cons_succ, List.getElem?_cons_zero, List.getElem?_cons_succ, Option.some.injEq, List.cons.injEq, V.int.injEq, V.bl.injEq, V.ref.injEq, and_true, true_and, exists_eq_left, and_assoc, exists_eq_left', exists_and_left, decide_eq_true_eq, Bool.true_eq_false, if_true, if_false]
    repeat' split
    all_goals
      apply e
      clear e q
      rw [Bool.eq_iff_iff, key_iff]
      simp at *
      try omega
theorem has_is_key {P : Program} {w : World} {K : PySem.W.Frag} {mg : Str → Option Value} {base : Heap} (T : Txt K mg) : Has P w K mg base "is_key" 1 ["in_key"] (sp_is_key) :=
  has_of T.d_is_key fun f fd D => ok_is_key T D
def sp_step_of : Sp := fun vs H Q _ => ∃ l o : Int, vs = [.int l, .int o] ∧ Q (.int (7 * o + l)) H
theorem ok_step_of {P : Program} {w : World} {K : PySem.W.Frag} {mg : Str → Option Value} {base : Heap} (T : Txt K mg) {f : Addr} {fd : FuncData} (D : Def K mg "step_of" s_step_of ["letter", "octave"] f fd) : FnOk P w K mg base CX0 1 f fd ["letter", "octave"] (sp_step_of) := by
  refine D.F.ok sc_step_of (fun vs H Q E h => ?_) (fun cdv A outer s H vs Q E hr h => ⟨_, (pss_one (ps_ret (pe_op op_add (pe_op op_mul (pe_globI T.c_LETTERS) (pv 1)) (pv 0)))), ?_⟩)
  · obtain ⟨l, o, rfl, _⟩ := h
    rfl
  · obtain ⟨l, o, rfl, k⟩ := h
    simp only [tSeq, tAsg, tIfS, tRet, tNext, tOp, tUn, tTest, tB, tNot, tAnd, tOr, tAndV, tOrV, tNotV, tChain, tVar, tC, tCons, tNil, tCall, tCB, tIf, tDrop, gName, tAug, ipI, rI, rI0, rU, CMul, CDiv, rEq, rNe, scal, tTab, tInTab, cxOf_K, L2.start, Nat.reduceAdd, Nat.reduceSub, Nat.sub_self, List.map_cons, List.map_nil, List.length_cons, List.length_nil, List.replicate, List.append_nil, List.cons_append, List.nil_append, List.set_cons_zero, List.set_cons_succ, List.getElem?_cons_zero, List.getElem?_cons_succ, Option.some.injEq, List.cons.injEq, V.int.injEq, V.bl.injEq, V.ref.injEq, and_true, true_and, exists_eq_left, and_assoc, exists_eq_left', exists_and_left, decide_eq_true_eq, Bool.true_eq_false, if_true, if_false]
    exact ⟨.inl (by decide), k⟩
theorem has_step_of {P : Program} {w : World} {K : PySem.W.Frag} {mg : Str → Option Value} {base : Heap} (T : Txt K mg) : Has P w K mg base "step_of" 1 ["letter", "octave"] (sp_step_of) :=
  has_of T.d_step_of fun f fd D => ok_step_of T D
def sp_sound_of : Sp := fun vs H Q _ => ∃ l r o : Int, vs = [.int l, .int r, .int o] ∧ (0 ≤ l ∧ l ≤ 6) ∧ Q (.int (12 * (o + 1) + Sw68.natural l + r)) H
theorem ok_sound_of {P : Program} {w : World} {K : PySem.W.Frag} {mg : Str → Option Value} {base : Heap} (T : Txt K mg) {f : Addr} {fd : FuncData} (D : Def K mg "sound_of" s_sound_of ["letter", "raised", "octave"] f fd) : FnOk P w K mg base CX0 1 f fd ["letter", "raised", "octave"] (sp_sound_of) := by
  refine D.F.ok sc_sound_of (fun vs H Q E h => ?_) (fun cdv A outer s H vs Q E hr h => ⟨_, (pss_one (ps_ret (pe_op op_add (pe_op op_add (pe_op op_mul (pe_globI T.c_HALVES_IN_OCTAVE) (pe_op op_add (pv 2) pe_int)) (pe_tab T.c_HALVES_ABOVE_C (pv 0) (fun _ _ => rfl))) (pv 1)))), ?_⟩)
  · obtain ⟨l, r, o, rfl, _⟩ := h
    rfl
  · obtain ⟨l, r, o, rfl, hl, k⟩ := h
    simp only [tSeq, tAsg, tIfS, tRet, tNext, tOp, tUn, tTest, tB, tNot, tAnd, tOr, tAndV, tOrV, tNotV, tChain, tVar, tC, tCons, tNil, tCall, tCB, tIf, tDrop, gName, tAug, ipI, rI, rI0, rU, CMul, CDiv, rEq, rNe, scal, tTab, tInTab, cxOf_K, L2.start, Nat.reduceAdd, Nat.reduceSub, Nat.sub_self, List.map_cons, List.map_nil, List.length_cons, List.length_nil, List.replicate, List.append_nil, List.cons_append, List.nil_append, List.set_cons_zero, List.set_cons_succ, List.getElem?_cons_zero, List.getElem?_cons_succ, Option.some.injEq, List.cons.injEq, V.int.injEq, V.bl.injEq, V.ref.injEq, and_true, true_and, exists_eq_left, and_assoc, exists_eq_left', exists_and_left, decide_eq_true_eq, Bool.true_eq_false, if_true, if_false]
    exact ⟨.inl (by decide), hl.1, (by omega), k⟩
theorem has_sound_of {P : Program} {w : World} {K : PySem.W.Frag} {mg : Str → Option Value} {base : Heap} (T : Txt K mg) : Has P w K mg base "sound_of" 1 ["letter", "raised", "octave"] (sp_sound_of) :=
  has_of T.d_sound_of fun f fd D => ok_sound_of T D
def mv (l r o s h : Int) : Sw68.Note := Sw68.Note.moved ⟨l, r, o⟩ ⟨s, h⟩
def sp_moved : Sp := fun vs H Q _ => ∃ l r o s h : Int, vs = [.int l, .int r, .int o, .int s, .int h] ∧ (0 ≤ l ∧ l ≤ 6) ∧
  ∀ (H' : Hp) (p : Addr), H' p = some (.tup [.int (mv l r o s h).letter, .int (mv l r o s h).alt, .int (mv l r o s h).octave]) → Same H H' → Q (.ref p) H'
theorem mv_eq (l r o s h : Int) : mv l r o s h = ⟨(7 * o + l + s) % 7, 12 * (o + 1) + Sw68.natural l + r + h - (12 * ((7 * o + l + s) / 7 + 1) + Sw68.natural ((7 * o + l + s) % 7)), (7 * o + l + s) / 7⟩ := by
  unfold mv Sw68.Note.moved Sw68.spelled Sw68.Note.step Sw68.Note.sound
  simp only [fdiv7, fmod7]
theorem ok_moved {P : Program} {w : World} {K : PySem.W.Frag} {mg : Str → Option Value} {base : Heap} (T : Txt K mg) {f : Addr} {fd : FuncData} (D : Def K mg "moved" s_moved ["letter", "raised", "octave", "steps", "halves"] f fd) : FnOk P w K mg base CX0 2 f fd ["letter", "raised", "octave", "steps", "halves"] (sp_moved) := by
  refine D.F.ok sc_moved (fun vs H Q E h => ?_) (fun cdv A outer s H vs Q E hr h => ⟨_, (pss_cons (ps_set (i := 5) sc_moved.nd rfl (Or.inl rfl) (pe_op op_add (pe_has (has_step_of T) (hr.mono (by decide)) (pa_cons (pv 0) (pa_cons (pv 2) pa_nil))) (pv 3)))
      (pss_cons (ps_set (i := 6) sc_moved.nd rfl (Or.inl rfl) (pe_op op_mod (pv 5) (pe_globI T.c_LETTERS)))
      (pss_cons (ps_set (i := 7) sc_moved.nd rfl (Or.inl rfl) (pe_op op_fdiv (pv 5) (pe_globI T.c_LETTERS)))
      (pss_cons (ps_set (i := 8) sc_moved.nd rfl (Or.inl rfl) (pe_op op_add (pe_has (has_sound_of T) (hr.mono (by decide)) (pa_cons (pv 0) (pa_cons (pv 1) (pa_cons (pv 2) pa_nil)))) (pv 4)))
      (pss_one (ps_ret (pe_tup (pa_cons (pv 6) (pa_cons (pe_op op_sub (pv 8) (pe_has (has_sound_of T) (hr.mono (by decide)) (pa_cons (pv 6) (pa_cons pe_int (pa_cons (pv 7) pa_nil))))) (pa_cons (pv 7) pa_nil)))))))))), ?_⟩)
  · obtain ⟨l, r, o, s, h, rfl, _⟩ := h
    rfl
  · obtain ⟨l, r, o, s, h, rfl, hl, k⟩ := h
    simp only [tSeq, tAsg, tIfS, tRet, tNext, tOp, tUn, tTest, tB, tNot, tAnd, tOr, tAndV, tOrV, tNotV, tChain, tVar, tC, tCons, tNil, tCall, tCB, tIf, tDrop, gName, tAug, ipI, rI, rI0, rU, CMul, CDiv, rEq, rNe, scal, tTab, tInTab, cxOf_K, L2.start, Nat.reduceAdd, Nat.reduceSub, Nat.sub_self, List.map_cons, List.map_nil, List.length_cons, List.length_nil, List.replicate, List.append_nil, List.cons_append, List.nil_append, List.set_cons_zero, List.set_cons_succ, List.getElem?_cons_zero, List.getElem?_cons_succ, Option.some.injEq, List.cons.injEq, V.int.injEq, V.bl.injEq, V.ref.injEq, and_true, true_and, exists_eq_left, and_assoc, exists_eq_left', exists_and_left, decide_eq_true_eq, Bool.true_eq_false, if_true, if_false, sp_step_of, sp_sound_of, tTup, Int.add_zero]
    refine ⟨by decide, by decide, by decide, hl.1, hl.2, by omega, by omega, line (by decide), fun p hp => k _ p ?_ (Same.new hp)⟩
    rw [upd_same, mv_eq]
theorem has_moved {P : Program} {w : World} {K : PySem.W.Frag} {mg : Str → Option Value} {base : Heap} (T : Txt K mg) : Has P w K mg base "moved" 2 ["letter", "raised", "octave", "steps", "halves"] (sp_moved) :=
  has_of T.d_moved fun f fd D => ok_moved T D
def sp_fifths_of : Sp := fun vs H Q _ => ∃ l r : Int, vs = [.int l, .int r] ∧ (0 ≤ l ∧ l ≤ 6) ∧ Q (.int (Sw68.fifths ⟨l, r, 0⟩)) H
theorem ok_fifths_of {P : Program} {w : World} {K : PySem.W.Frag} {mg : Str → Option Value} {base : Heap} (T : Txt K mg) {f : Addr} {fd : FuncData} (D : Def K mg "fifths_of" s_fifths_of ["letter", "raised"] f fd) : FnOk P w K mg base CX0 1 f fd ["letter", "raised"] (sp_fifths_of) := by
  refine D.F.ok sc_fifths_of (fun vs H Q E h => ?_) (fun cdv A outer s H vs Q E hr h => ⟨_, (pss_one (ps_ret (pe_op op_add (pe_tab T.c_FIFTHS_OF_LETTERS (pv 0) (fun _ _ => rfl)) (pe_op op_mul (pe_globI T.c_FIFTHS_IN_RAISING) (pv 1))))), ?_⟩)
  · obtain ⟨l, r, rfl, _⟩ := h
    rfl
  · obtain ⟨l, r, rfl, hl, k⟩ := h
    simp only [tSeq, tAsg, tIfS, tRet, tNext, tOp, tUn, tTest, tB, tNot, tAnd, tOr, tAndV, tOrV, tNotV, tChain, tVar, tC, tCons, tNil, tCall, tCB, tIf, tDrop, gName, tAug, ipI, rI, rI0, rU, CMul, CDiv, rEq, rNe, scal, tTab, tInTab, cxOf_K, L2.start, Nat.reduceAdd, Nat.reduceSub, Nat.sub_self, List.map_cons, List.map_nil, List.length_cons, List.length_nil, List.replicate, List.append_nil, List.cons_append, List.nil_append, List.set_cons_zero, List.set_cons_succ, List.getElem?_cons_zero, List.getElem?_cons_succ, Option.some.injEq, List.cons.injEq, V.int.injEq, V.bl.injEq, V.ref.injEq, and_true, true_and, exists_eq_left, and_assoc, exists_eq_left', exists_and_left, decide_eq_true_eq, Bool.true_eq_false, if_true, if_false]
    exact ⟨hl.1, by omega, .inl (by decide), k⟩
theorem has_fifths_of {P : Program} {w : World} {K : PySem.W.Frag} {mg : Str → Option Value} {base : Heap} (T : Txt K mg) : Has P w K mg base "fifths_of" 1 ["letter", "raised"] (sp_fifths_of) :=
  has_of T.d_fifths_of fun f fd D => ok_fifths_of T D
def sp_interval_fifths (K : PySem.W.Frag) : Sp := fun vs H Q _ => ∃ s h : Int, vs = [.int s, .int h] ∧ ∀ H', Same H H' → Q (.int (Sw68.Interval.fifths ⟨s, h⟩)) H'
theorem if_eq (s h : Int) : Sw68.fifths ⟨(mv 0 0 0 s h).letter, (mv 0 0 0 s h).alt, 0⟩ = Sw68.Interval.fifths ⟨s, h⟩ := by
  unfold Sw68.Interval.fifths Sw68.fifths
  rw [mv_eq]
  simp only [Sw68.spelled, fdiv7, fmod7]
  have e1 : 7 * 0 + 0 + s = s := by omega
  have e2 : Sw68.natural 0 = 0 := rfl
  have e3 : 12 * (0 + 1) + Sw68.natural 0 + 0 + h = 12 + h := by omega
  rw [e1, e3]
theorem ok_interval_fifths {P : Program} {w : World} {K : PySem.W.Frag} {mg : Str → Option Value} {base : Heap} (T : Txt K mg) {f : Addr} {fd : FuncData} (D : Def K mg "interval_fifths" s_interval_fifths ["steps", "halves"] f fd) : FnOk P w K mg base CX0 3 f fd ["steps", "halves"] (sp_interval_fifths K) := by
  refine D.F.ok sc_interval_fifths (fun vs H Q E h => ?_) (fun cdv A outer s H vs Q E hr h => ⟨_, (pss_cons (ps_set (i := 2) sc_interval_fifths.nd rfl (Or.inl rfl) (pe_has (has_moved T) (hr.mono (by decide)) (pa_cons pe_int (pa_cons pe_int (pa_cons pe_int (pa_cons (pv 0) (pa_cons (pv 1) pa_nil)))))))
      (pss_one (ps_ret (pe_has (has_fifths_of T) (hr.mono (by decide)) (pa_cons (pe_ix ix_tup (pv 2) pe_int (fun _ _ => rfl)) (pa_cons (pe_ix ix_tup (pv 2) pe_int (fun _ _ => rfl)) pa_nil)))))), ?_⟩)
  · obtain ⟨s, h, rfl, _⟩ := h
    rfl
  · obtain ⟨s, h, rfl, k⟩ := h
    simp only [tSeq, tAsg, tIfS, tRet, tNext, tOp, tUn, tTest, tB, tNot, tAnd, tOr, tAndV, tOrV, tNotV, tChain, tVar, tC, tCons, tNil, tCall, tCB, tIf, tDrop, gName, tAug, ipI, rI, rI0, rU, CMul, CDiv, rEq, rNe, scal, tTab, tInTab, cxOf_K, L2.start, Nat.reduceAdd, Nat.reduceSub, Nat.sub_self, List.map_cons, List.map_nil, List.length_cons, List.length_nil, List.replicate, List.append_nil, List.cons_append, List.nil_append, List.set_cons_zero, List.set_cons_succ, List.getElem?_cons_zero, List.getElem?_cons_succ, Option.some.injEq, List.cons.injEq, V.int.injEq, V.bl.injEq, V.ref.injEq, and_true, true_and, exists_eq_left, and_assoc, exists_eq_left', exists_and_left, decide_eq_true_eq, Bool.true_eq_false, if_true, if_false, sp_moved, sp_fifths_of]
    refine ⟨by decide, by decide, fun H1 p hp sm => ⟨p, _, 0, _, rfl, rfl, SqT.of hp, rfl, p, _, 1, _, rfl, rfl, SqT.of hp, rfl, _, rfl, _, rfl, ?_⟩⟩
    rw [if_eq]
    have e : (mv 0 0 0 s h).letter = (7 * 0 + 0 + s) % 7 := by rw [mv_eq]
    rw [e]
    exact ⟨by omega, by omega, k _ sm⟩
theorem has_interval_fifths {P : Program} {w : World} {K : PySem.W.Frag} {mg : Str → Option Value} {base : Heap} (T : Txt K mg) : Has P w K mg base "interval_fifths" 3 ["steps", "halves"] (sp_interval_fifths K) :=
  has_of T.d_interval_fifths fun f fd D => ok_interval_fifths T D
def kM (k : Int) : Int := if 7 < k then k - 12 * ((k - 7 + 11) / 12) else if k < -7 then k + 12 * ((-7 - k + 11) / 12) else k
theorem kM_down {f : Int} (h : 7 < f) : kM (f - 12) = kM f := by
  unfold kM
  repeat' split
  all_goals omega
theorem kM_up {f : Int} (h : f < -7) : kM (f + 12) = kM f := by
  unfold kM
  repeat' split
  all_goals omega
theorem kM_id {f : Int} (h : f ≤ 7) (h' : -7 ≤ f) : kM f = f := by
  unfold kM
  repeat' split
  all_goals omega
def sp_moved_key (K : PySem.W.Frag) : Sp := fun vs H Q _ => ∃ k s h : Int, vs = [.int k, .int s, .int h] ∧ ∀ H', Same H H' → Q (.int (Sw68.keyMoved k ⟨s, h⟩)) H'
theorem ok_moved_key {P : Program} {w : World} {K : PySem.W.Frag} {mg : Str → Option Value} {base : Heap} (T : Txt K mg) {f : Addr} {fd : FuncData} (D : Def K mg "moved_key" s_moved_key ["in_key", "steps", "halves"] f fd) : FnOk P w K mg base CX0 4 f fd ["in_key", "steps", "halves"] (sp_moved_key K) := by
  refine D.F.ok sc_moved_key (fun vs H Q E h => ?_) (fun cdv A outer s H vs Q E hr h => ⟨_, (pss_cons (ps_set (i := 3) sc_moved_key.nd rfl (Or.inl rfl) (pe_op op_add (pv 0) (pe_has (has_interval_fifths T) (hr.mono (by decide)) (pa_cons (pv 1) (pa_cons (pv 2) pa_nil)))))
      (pss_cons (ps_while PassesOwn.never (pt_cmpR op_gt (pv 3) (pe_globI T.c_MOST_IN_KEY) (nomark _))
      (pss_one (ps_aug (i := 3) sc_moved_key.nd rfl (Or.inl rfl) (pe_globI T.c_FIFTHS_IN_CIRCLE) ip_sub)))
      (pss_cons (ps_while PassesOwn.never (pt_cmpR op_lt (pv 3) (pe_un un_neg (pe_globI T.c_MOST_IN_KEY)) (nomark _))
      (pss_one (ps_aug (i := 3) sc_moved_key.nd rfl (Or.inl rfl) (pe_globI T.c_FIFTHS_IN_CIRCLE) ip_add)))
      (pss_one (ps_ret (pv 3)))))), ?_⟩)
  · obtain ⟨k, s, h, rfl, _⟩ := h
    rfl
  · obtain ⟨k, s, h, rfl, q⟩ := h
    simp only [tSeq, tAsg, tIfS, tRet, tNext, tOp, tUn, tTest, tB, tNot, tAnd, tOr, tAndV, tOrV, tNotV, tChain, tVar, tC, tCons, tNil, tCall, tCB, tIf, tDrop, gName, tAug, ipI, rI, rI0, rU, CMul, CDiv, rEq, rNe, scal, tTab, tInTab, cxOf_K, L2.start, Nat.reduceAdd, Nat.reduceSub, Nat.sub_self, List.map_cons, List.map_nil, List.length_cons, List.length_nil, List.replicate, List.append_nil, List.cons_append, List.nil_append, List.set_cons_zero, List.set_cons_succ, List.getElem?_cons_zero, List.getElem?_cons_succ, Option.some.injEq, List.cons.injEq, V.int.injEq, V.bl.injEq, V.ref.injEq, and_true, true_and, exists_eq_left, and_assoc, exists_eq_left', exists_and_left, decide_eq_true_eq, Bool.true_eq_false, if_true, if_false, sp_interval_fifths]
    intro H' sm
    have q1 := q H' sm
    change Q (.int (kM (k + Sw68.Interval.fifths ⟨s, h⟩))) H' at q1
    generalize k + Sw68.Interval.fifths ⟨s, h⟩ = g at q1 ⊢
    refine while_by (fun σ H1 => H1 = H' ∧ ∃ f : Int, σ = [some (.int k), some (.int s), some (.int h), some (.int f)] ∧ kM f = kM g) (fun σ _ => (slotI σ 3).toNat) ⟨rfl, g, rfl, rfl⟩ ?_ ?_
    · rintro σ H1 ⟨rfl, f, rfl, e⟩
      simp only [tSeq, tAsg, tIfS, tRet, tNext, tOp, tUn, tTest, tB, tNot, tAnd, tOr, tAndV, tOrV, tNotV, tChain, tVar, tC, tCons, tNil, tCall, tCB, tIf, tDrop, gName, tAug, ipI, rI, rI0, rU, CMul, CDiv, rEq, rNe, scal, tTab, tInTab, cxOf_K, L2.start, Nat.reduceAdd, Nat.reduceSub, Nat.sub_self, List.map_cons, List.map_nil, List.length_cons, List.length_nil, List.replicate, List.append_nil, List.cons_append, List.nil_append, List.set_cons_zero, List.set_cons_succ, List.getElem?_cons_zero, List.getElem?_cons_succ, Option.some.injEq, List.cons.injEq, V.int.injEq, V.bl.injEq, V.ref.injEq, and_true, true_and, exists_eq_left, and_assoc, exists_eq_left', exists_and_left, decide_eq_true_eq, Bool.true_eq_false, if_true, if_false]
      by_cases c : 7 < f
      · rw [if_pos c]
        refine ⟨by rw [kM_down c, e], ?_⟩
        show (f - 12).toNat < f.toNat
        omega
      · rw [if_neg c]
        refine while_by (fun σ H1' => H1' = H1 ∧ ∃ f : Int, σ = [some (.int k), some (.int s), some (.int h), some (.int f)] ∧ f ≤ 7 ∧ kM f = kM g) (fun σ _ => (7 - slotI σ 3).toNat) ⟨rfl, f, rfl, by omega, e⟩ ?_ ?_
        · rintro σ H2 ⟨rfl, f, rfl, le, e⟩
          simp only [tSeq, tAsg, tIfS, tRet, tNext, tOp, tUn, tTest, tB, tNot, tAnd, tOr, tAndV, tOrV, tNotV, tChain, tVar, tC, tCons, tNil, tCall, tCB, tIf, tDrop, gName, tAug, ipI, rI, rI0, rU, CMul, CDiv, rEq, rNe, scal, tTab, tInTab, cxOf_K, L2.start, Nat.reduceAdd, Nat.reduceSub, Nat.sub_self, List.map_cons, List.map_nil, List.length_cons, List.length_nil, List.replicate, List.append_nil, List.cons_append, List.nil_append, List.set_cons_zero, List.set_cons_succ, List.getElem?_cons_zero, List.getElem?_cons_succ, Option.some.injEq, List.cons.injEq, V.int.injEq, V.bl.injEq, V.ref.injEq, and_true, true_and, exists_eq_left, and_assoc, exists_eq_left', exists_and_left, decide_eq_true_eq, Bool.true_eq_false, if_true, if_false]
          by_cases c : f < -7
          · rw [if_pos c]
            refine ⟨by omega, by rw [kM_up c, e], ?_⟩
            show (7 - (f + 12)).toNat < (7 - f).toNat
            omega
          · rw [if_neg c]
            rw [← e, kM_id le (by omega)] at q1
            exact q1
        · intro σ H Q Q' hq h
          simp only [tTest, tOp, tVar, tC, rI0, tUn, rU] at h ⊢
          obtain ⟨v, hv, i, e0, i1, j1, e1, e2, b, e3, h⟩ := h
          exact ⟨v, hv, i, e0, i1, j1, e1, e2, b, e3, hq _ _ h⟩
    · intro σ H Q Q' hq h
      simp only [tTest, tOp, tVar, tC, rI0, tUn, rU] at h ⊢
      obtain ⟨v, hv, i1, j1, e1, e2, b, e3, h⟩ := h
      exact ⟨v, hv, i1, j1, e1, e2, b, e3, hq _ _ h⟩
theorem has_moved_key {P : Program} {w : World} {K : PySem.W.Frag} {mg : Str → Option Value} {base : Heap} (T : Txt K mg) : Has P w K mg base "moved_key" 4 ["in_key", "steps", "halves"] (sp_moved_key K) :=
  has_of T.d_moved_key fun f fd D => ok_moved_key T D
/-- counted: a new list, how many ahead -/
def sp_counted (K : PySem.W.Frag) : Sp := fun vs H Q _ => ∃ (a : Addr) (xs : List Int), vs = [.ref a] ∧ (SqL K H a (xs.map V.int) ∨ SqT K H a (xs.map V.int)) ∧ xs.length ≤ 100000 ∧
  ∀ (H' : Hp) (p : Addr), H' p = some (.lst (((xs.length : Int) :: xs).map V.int)) → Same H H' → Q (.ref p) H'
theorem ok_counted {P : Program} {w : World} {K : PySem.W.Frag} {mg : Str → Option Value} {base : Heap} (T : Txt K mg) {f : Addr} {fd : FuncData} (D : Def K mg "counted" s_counted ["numbers"] f fd) : FnOk P w K mg base CX0 1 f fd ["numbers"] (sp_counted K) := by
  refine D.F.ok sc_counted (fun vs H Q E h => ?_) (fun cdv A outer s H vs Q E hr h => ⟨_, (pss_one (ps_ret (pe_op op_cat (pe_lst (pa_cons (pe_callB call_len_seq (by rfl) T.b_len PySem.boot_len (pa_cons (pv 0) pa_nil)) pa_nil)) (pe_callTy call_list_of (by rfl) T.b_list (by decide +kernel) (pa_cons (pv 0) pa_nil))))), ?_⟩)
  · obtain ⟨a, xs, rfl, _⟩ := h
    rfl
  · obtain ⟨a, xs, rfl, hs, hl, k⟩ := h
    simp only [tSeq, tAsg, tIfS, tRet, tNext, tOp, tUn, tTest, tB, tNot, tAnd, tOr, tAndV, tOrV, tNotV, tChain, tVar, tC, tCons, tNil, tCall, tCB, tIf, tDrop, gName, tAug, ipI, rI, rI0, rU, CMul, CDiv, rEq, rNe, scal, tTab, tInTab, cxOf_K, L2.start, Nat.reduceAdd, Nat.reduceSub, Nat.sub_self, List.map_cons, List.map_nil, List.length_cons, List.length_nil, List.replicate, List.append_nil, List.cons_append, List.nil_append, List.set_cons_zero, List.set_cons_succ, List.getElem?_cons_zero, List.getElem?_cons_succ, Option.some.injEq, List.cons.injEq, V.int.injEq, V.bl.injEq, V.ref.injEq, and_true, true_and, exists_eq_left, and_assoc, exists_eq_left', exists_and_left, decide_eq_true_eq, Bool.true_eq_false, if_true, if_false, tLst]
    refine ⟨_, hs, line (by decide), fun p hp => ⟨xs.map V.int, hs.imp (Same.seq (Same.new hp)) (Same.tup (Same.new hp)), fun q hq => ?_⟩⟩
    have np : q ≠ p := ne_new hq
    refine ⟨p, q, _, _, rfl, rfl, (upd_ne np.symm).trans upd_same, upd_same, line (by simp; omega), fun p' hp' => k _ p' ?_ ?_⟩
    · rw [upd_same]
      simp
    · exact ((Same.new hp).trans (Same.new hq)).trans (Same.new hp')
theorem has_counted {P : Program} {w : World} {K : PySem.W.Frag} {mg : Str → Option Value} {base : Heap} (T : Txt K mg) : Has P w K mg base "counted" 1 ["numbers"] (sp_counted K) :=
  has_of T.d_counted fun f fd D => ok_counted T D
/-- the answer of key, as the specification tells it -/
def ansK (k s h : Int) : List Int := Sw68Neutral.out (Sw68.step (.key k ⟨s, h⟩))
def sp_key : Sp := fun vs H Q _ => ∃ k s h : Int, vs = [.int k, .int s, .int h] ∧
  ∀ (H' : Hp) (p : Addr), H' p = some (.lst ((ansK k s h).map V.int)) → Q (.ref p) H'
theorem ansK_no {k s h : Int} (c : (Sw68.keyOk k && Sw68.intervalOk ⟨s, h⟩) = false) : ansK k s h = [-1] := by
  unfold ansK Sw68.step
  simp only [c, if_true]
  rfl
theorem ansK_ok {k s h : Int} (c1 : Sw68.keyOk k = true) (c2 : Sw68.intervalOk ⟨s, h⟩ = true) : ansK k s h = [0, 1, Sw68.keyMoved k ⟨s, h⟩] := by
  unfold ansK Sw68.step
  simp only [c1, c2, Bool.and_self, Bool.true_eq_false, if_false]
  rfl
theorem keyc_eq {k s h : Int} (h1 : -2147483648 ≤ k ∧ k ≤ 2147483647) (h4 : -2147483648 ≤ s ∧ s ≤ 2147483647) (h5 : -2147483648 ≤ h ∧ h ≤ 2147483647) :
    PySw68.key k s h = ansK k s h := by
  have e : Sw68Neutral.callOf (2 :: k :: s :: h :: []) = some (.key k ⟨s, h⟩) := by
    show Sw68Neutral.all_ ((Sw68Neutral.intIn (k :: s :: h :: [])).bind _) = _
    rw [int_in h1]
    show Sw68Neutral.all_ (Option.map _ (Sw68Neutral.intervalIn (s :: h :: []))) = _
    rw [interval_in h4 h5]
    rfl
  show Sw68Neutral.f (2 :: k :: s :: h :: []) = _
  unfold Sw68Neutral.f
  rw [e]
  rfl
theorem ok_key {P : Program} {w : World} {K : PySem.W.Frag} {mg : Str → Option Value} {base : Heap} (T : Txt K mg) {f : Addr} {fd : FuncData} (D : Def K mg "key" s_key ["in_key", "steps", "halves"] f fd) : FnOk P w K mg base CX0 5 f fd ["in_key", "steps", "halves"] (sp_key) := by
  refine D.F.ok sc_key (fun vs H Q E h => ?_) (fun cdv A outer s H vs Q E hr h => ⟨_, (pss_cons (ps_if (PW.pt (pw_or (pt_not (pt_val (pe_has (has_is_key T) (hr.mono (by decide)) (pa_cons (pv 0) pa_nil)))) (pw_or1 (pt_not (pt_val (pe_has (has_is_interval T) (hr.mono (by decide)) (pa_cons (pv 1) (pa_cons (pv 2) pa_nil)))))))) (pss_one (ps_ret (pe_lst (pa_cons (pe_globI T.c_REFUSED) pa_nil)))) pss_nil)
      (pss_one (ps_ret (pe_op op_cat (pe_lst (pa_cons (pe_globI T.c_DONE) pa_nil)) (pe_has (has_counted T) (hr.mono (by decide)) (pa_cons (pe_lst (pa_cons (pe_has (has_moved_key T) (hr.mono (by decide)) (pa_cons (pv 0) (pa_cons (pv 1) (pa_cons (pv 2) pa_nil)))) pa_nil)) pa_nil)))))), ?_⟩)
  · obtain ⟨k, s, h, rfl, _⟩ := h
    rfl
  · obtain ⟨k, s, h, rfl, q⟩ := h
    simp only [tSeq, tAsg, tIfS, tRet, tNext, tOp, tUn, tTest, tB, tNot, tAnd, tOr, tAndV, tOrV, tNotV, tChain, tVar, tC, tCons, tNil, tCall, tCB, tIf, tDrop, gName, tAug, ipI, rI, rI0, rU, CMul, CDiv, rEq, rNe, scal, tTab, tInTab, cxOf_K, L2.start, Nat.reduceAdd, Nat.reduceSub, Nat.sub_self, List.map_cons, List.map_nil, List.length_cons, List.length_nil, List.replicate, List.append_nil, List.cons_append, List.nil_append, List.set_cons_zero, List.set_cons_succ, List.getElem?_cons_zero, List.getElem?_cons_succ, Option.some.injEq, List.cons.injEq, V.int.injEq, V.bl.injEq, V.ref.injEq, and_true, true_and, exists_eq_left, and_assoc, exists_eq_left', exists_and_left, decide_eq_true_eq, Bool.true_eq_false, if_true, if_false, sp_is_key, sp_is_interval, sp_moved_key]
    have ref : (Sw68.keyOk k && Sw68.intervalOk ⟨s, h⟩) = false → ∀ σ : L2.St, tLst (tCons (tC (V.int (-1))) tNil) σ H Q := fun c σ =>
      ⟨line (by decide), fun p hp => q _ p (by rw [upd_same, ansK_no c]; rfl)⟩
    cases c1 : Sw68.keyOk k with
    | false => exact iteT (ref (by rw [c1] <;> rfl) _)
    | true =>
      refine iteF ?_
      cases c2 : Sw68.intervalOk ⟨s, h⟩ with
      | false => exact iteT (ref (by rw [c1, c2] <;> rfl) _)
      | true =>
        refine iteF ?_
        simp only [tSeq, tAsg, tIfS, tRet, tNext, tOp, tUn, tTest, tB, tNot, tAnd, tOr, tAndV, tOrV, tNotV, tChain, tVar, tC, tCons, tNil, tCall, tCB, tIf, tDrop, gName, tAug, ipI, rI, rI0, rU, CMul, CDiv, rEq, rNe, scal, tTab, tInTab, cxOf_K, L2.start, Nat.reduceAdd, Nat.reduceSub, Nat.sub_self, List.map_cons, List.map_nil, List.length_cons, List.length_nil, List.replicate, List.append_nil, List.cons_append, List.nil_append, List.set_cons_zero, List.set_cons_succ, List.getElem?_cons_zero, List.getElem?_cons_succ, Option.some.injEq, List.cons.injEq, V.int.injEq, V.bl.injEq, V.ref.injEq, and_true, true_and, exists_eq_left, and_assoc, exists_eq_left', exists_and_left, decide_eq_true_eq, Bool.true_eq_false, if_true, if_false, tLst, sp_moved_key]
        refine ⟨line (by decide), fun p0 hp0 => fun H1 sm1 => ⟨line (by decide), fun p hp => ⟨p, [_], rfl, .inl (SqL.of upd_same), by simp, fun H' p' hp' sm => ⟨p0, p', _, _, rfl, rfl, sm _ _ (Same.new hp _ _ (sm1 _ _ upd_same)), hp', line (by simp), fun p'' _ => q _ p'' ?_⟩⟩⟩⟩
        rw [upd_same, ansK_ok c1 c2]
        rfl
end Sn
namespace Sn
open PySem PySem.Spec PyProof.Rows L2
/-! ### The end: what the top has written -/
theorem txt_mk {K : PySem.W.Frag} {h : Heap} {mg : Str → Option Value} (X : K.In h) (G : h.Ns mainGlobals mg)
    {t_DONE : Tok}
    {t_REFUSED : Tok}
    {t_LETTERS : Tok}
    {t_HALVES_IN_OCTAVE : Tok}
    {t_MOST_STEPS : Tok}
    {t_MOST_HALVES : Tok}
    {t_MOST_IN_KEY : Tok}
    {t_FIFTHS_IN_CIRCLE : Tok}
    {t_FIFTHS_IN_RAISING : Tok}
    {a_HALVES_ABOVE_C : Addr} {o_HALVES_ABOVE_C : Option Addr} {n_HALVES_ABOVE_C : Nat} {l_HALVES_ABOVE_C : Array (Option Value)} {t_HALVES_ABOVE_C_0 t_HALVES_ABOVE_C_1 t_HALVES_ABOVE_C_2 t_HALVES_ABOVE_C_3 t_HALVES_ABOVE_C_4 t_HALVES_ABOVE_C_5 t_HALVES_ABOVE_C_6 : Tok}
    {a_FIFTHS_OF_LETTERS : Addr} {o_FIFTHS_OF_LETTERS : Option Addr} {n_FIFTHS_OF_LETTERS : Nat} {l_FIFTHS_OF_LETTERS : Array (Option Value)} {t_FIFTHS_OF_LETTERS_0 t_FIFTHS_OF_LETTERS_1 t_FIFTHS_OF_LETTERS_2 t_FIFTHS_OF_LETTERS_3 t_FIFTHS_OF_LETTERS_4 t_FIFTHS_OF_LETTERS_5 t_FIFTHS_OF_LETTERS_6 : Tok}
    {f_is_interval : Addr} {od_is_interval an_is_interval : Option Addr} {sl_is_interval : Array (Option Value)} {oc_is_interval kV_is_interval dc_is_interval pm_is_interval cd_is_interval ct_is_interval : Value}
    {f_is_key : Addr} {od_is_key an_is_key : Option Addr} {sl_is_key : Array (Option Value)} {oc_is_key kV_is_key dc_is_key pm_is_key cd_is_key ct_is_key : Value}
    {f_step_of : Addr} {od_step_of an_step_of : Option Addr} {sl_step_of : Array (Option Value)} {oc_step_of kV_step_of dc_step_of pm_step_of cd_step_of ct_step_of : Value}
    {f_sound_of : Addr} {od_sound_of an_sound_of : Option Addr} {sl_sound_of : Array (Option Value)} {oc_sound_of kV_sound_of dc_sound_of pm_sound_of cd_sound_of ct_sound_of : Value}
    {f_moved : Addr} {od_moved an_moved : Option Addr} {sl_moved : Array (Option Value)} {oc_moved kV_moved dc_moved pm_moved cd_moved ct_moved : Value}
    {f_fifths_of : Addr} {od_fifths_of an_fifths_of : Option Addr} {sl_fifths_of : Array (Option Value)} {oc_fifths_of kV_fifths_of dc_fifths_of pm_fifths_of cd_fifths_of ct_fifths_of : Value}
    {f_interval_fifths : Addr} {od_interval_fifths an_interval_fifths : Option Addr} {sl_interval_fifths : Array (Option Value)} {oc_interval_fifths kV_interval_fifths dc_interval_fifths pm_interval_fifths cd_interval_fifths ct_interval_fifths : Value}
    {f_moved_key : Addr} {od_moved_key an_moved_key : Option Addr} {sl_moved_key : Array (Option Value)} {oc_moved_key kV_moved_key dc_moved_key pm_moved_key cd_moved_key ct_moved_key : Value}
    {f_counted : Addr} {od_counted an_counted : Option Addr} {sl_counted : Array (Option Value)} {oc_counted kV_counted dc_counted pm_counted cd_counted ct_counted : Value}
    {f_key : Addr} {od_key an_key : Option Addr} {sl_key : Array (Option Value)} {oc_key kV_key dc_key pm_key cd_key ct_key : Value}
    (g_DONE : PySem.W.nsIn K mainGlobals "DONE" = some (some (.int (0) t_DONE)))
    (g_REFUSED : PySem.W.nsIn K mainGlobals "REFUSED" = some (some (.int (-1) t_REFUSED)))
    (g_LETTERS : PySem.W.nsIn K mainGlobals "LETTERS" = some (some (.int (7) t_LETTERS)))
    (g_HALVES_IN_OCTAVE : PySem.W.nsIn K mainGlobals "HALVES_IN_OCTAVE" = some (some (.int (12) t_HALVES_IN_OCTAVE)))
    (g_MOST_STEPS : PySem.W.nsIn K mainGlobals "MOST_STEPS" = some (some (.int (100) t_MOST_STEPS)))
    (g_MOST_HALVES : PySem.W.nsIn K mainGlobals "MOST_HALVES" = some (some (.int (200) t_MOST_HALVES)))
    (g_MOST_IN_KEY : PySem.W.nsIn K mainGlobals "MOST_IN_KEY" = some (some (.int (7) t_MOST_IN_KEY)))
    (g_FIFTHS_IN_CIRCLE : PySem.W.nsIn K mainGlobals "FIFTHS_IN_CIRCLE" = some (some (.int (12) t_FIFTHS_IN_CIRCLE)))
    (g_FIFTHS_IN_RAISING : PySem.W.nsIn K mainGlobals "FIFTHS_IN_RAISING" = some (some (.int (7) t_FIFTHS_IN_RAISING)))
    (g_HALVES_ABOVE_C : PySem.W.nsIn K mainGlobals "HALVES_ABOVE_C" = some (some (.ref a_HALVES_ABOVE_C)))
    (k_HALVES_ABOVE_C : K.lookup a_HALVES_ABOVE_C = some ⟨.type "tuple", o_HALVES_ABOVE_C, .seq #[.int (0) t_HALVES_ABOVE_C_0, .int (2) t_HALVES_ABOVE_C_1, .int (4) t_HALVES_ABOVE_C_2, .int (5) t_HALVES_ABOVE_C_3, .int (7) t_HALVES_ABOVE_C_4, .int (9) t_HALVES_ABOVE_C_5, .int (11) t_HALVES_ABOVE_C_6] n_HALVES_ABOVE_C, l_HALVES_ABOVE_C⟩)
    (g_FIFTHS_OF_LETTERS : PySem.W.nsIn K mainGlobals "FIFTHS_OF_LETTERS" = some (some (.ref a_FIFTHS_OF_LETTERS)))
    (k_FIFTHS_OF_LETTERS : K.lookup a_FIFTHS_OF_LETTERS = some ⟨.type "tuple", o_FIFTHS_OF_LETTERS, .seq #[.int (0) t_FIFTHS_OF_LETTERS_0, .int (2) t_FIFTHS_OF_LETTERS_1, .int (4) t_FIFTHS_OF_LETTERS_2, .int (-1) t_FIFTHS_OF_LETTERS_3, .int (1) t_FIFTHS_OF_LETTERS_4, .int (3) t_FIFTHS_OF_LETTERS_5, .int (5) t_FIFTHS_OF_LETTERS_6] n_FIFTHS_OF_LETTERS, l_FIFTHS_OF_LETTERS⟩)
    (g_len : PySem.W.nsIn K mainGlobals "len" = some none)
    (g_list : PySem.W.nsIn K mainGlobals "list" = some none)
    (g_is_interval : PySem.W.nsIn K mainGlobals "is_interval" = some (some (.ref f_is_interval)))
    (l_is_interval : K.lookup f_is_interval = some ⟨oc_is_interval, od_is_interval, .func (PySem.W.fnOf "is_interval" "is_interval" (defArgs s_is_interval) (defBody s_is_interval) (defScope s_is_interval) .none kV_is_interval dc_is_interval pm_is_interval an_is_interval cd_is_interval ct_is_interval), sl_is_interval⟩)
    (e_is_interval : PySem.W.codeIn K cd_is_interval "is_interval" = true)
    (p_is_interval : PySem.W.keepIn K (.ref f_is_interval) = true)
    (g_is_key : PySem.W.nsIn K mainGlobals "is_key" = some (some (.ref f_is_key)))
    (l_is_key : K.lookup f_is_key = some ⟨oc_is_key, od_is_key, .func (PySem.W.fnOf "is_key" "is_key" (defArgs s_is_key) (defBody s_is_key) (defScope s_is_key) .none kV_is_key dc_is_key pm_is_key an_is_key cd_is_key ct_is_key), sl_is_key⟩)
    (e_is_key : PySem.W.codeIn K cd_is_key "is_key" = true)
    (p_is_key : PySem.W.keepIn K (.ref f_is_key) = true)
    (g_step_of : PySem.W.nsIn K mainGlobals "step_of" = some (some (.ref f_step_of)))
    (l_step_of : K.lookup f_step_of = some ⟨oc_step_of, od_step_of, .func (PySem.W.fnOf "step_of" "step_of" (defArgs s_step_of) (defBody s_step_of) (defScope s_step_of) .none kV_step_of dc_step_of pm_step_of an_step_of cd_step_of ct_step_of), sl_step_of⟩)
    (e_step_of : PySem.W.codeIn K cd_step_of "step_of" = true)
    (p_step_of : PySem.W.keepIn K (.ref f_step_of) = true)
    (g_sound_of : PySem.W.nsIn K mainGlobals "sound_of" = some (some (.ref f_sound_of)))
    (l_sound_of : K.lookup f_sound_of = some ⟨oc_sound_of, od_sound_of, .func (PySem.W.fnOf "sound_of" "sound_of" (defArgs s_sound_of) (defBody s_sound_of) (defScope s_sound_of) .none kV_sound_of dc_sound_of pm_sound_of an_sound_of cd_sound_of ct_sound_of), sl_sound_of⟩)
    (e_sound_of : PySem.W.codeIn K cd_sound_of "sound_of" = true)
    (p_sound_of : PySem.W.keepIn K (.ref f_sound_of) = true)
    (g_moved : PySem.W.nsIn K mainGlobals "moved" = some (some (.ref f_moved)))
    (l_moved : K.lookup f_moved = some ⟨oc_moved, od_moved, .func (PySem.W.fnOf "moved" "moved" (defArgs s_moved) (defBody s_moved) (defScope s_moved) .none kV_moved dc_moved pm_moved an_moved cd_moved ct_moved), sl_moved⟩)
    (e_moved : PySem.W.codeIn K cd_moved "moved" = true)
    (p_moved : PySem.W.keepIn K (.ref f_moved) = true)
    (g_fifths_of : PySem.W.nsIn K mainGlobals "fifths_of" = some (some (.ref f_fifths_of)))
    (l_fifths_of : K.lookup f_fifths_of = some ⟨oc_fifths_of, od_fifths_of, .func (PySem.W.fnOf "fifths_of" "fifths_of" (defArgs s_fifths_of) (defBody s_fifths_of) (defScope s_fifths_of) .none kV_fifths_of dc_fifths_of pm_fifths_of an_fifths_of cd_fifths_of ct_fifths_of), sl_fifths_of⟩)
    (e_fifths_of : PySem.W.codeIn K cd_fifths_of "fifths_of" = true)
    (p_fifths_of : PySem.W.keepIn K (.ref f_fifths_of) = true)
    (g_interval_fifths : PySem.W.nsIn K mainGlobals "interval_fifths" = some (some (.ref f_interval_fifths)))
    (l_interval_fifths : K.lookup f_interval_fifths = some ⟨oc_interval_fifths, od_interval_fifths, .func (PySem.W.fnOf "interval_fifths" "interval_fifths" (defArgs s_interval_fifths) (defBody s_interval_fifths) (defScope s_interval_fifths) .none kV_interval_fifths dc_interval_fifths pm_interval_fifths an_interval_fifths cd_interval_fifths ct_interval_fifths), sl_interval_fifths⟩)
    (e_interval_fifths : PySem.W.codeIn K cd_interval_fifths "interval_fifths" = true)
    (p_interval_fifths : PySem.W.keepIn K (.ref f_interval_fifths) = true)
    (g_moved_key : PySem.W.nsIn K mainGlobals "moved_key" = some (some (.ref f_moved_key)))
    (l_moved_key : K.lookup f_moved_key = some ⟨oc_moved_key, od_moved_key, .func (PySem.W.fnOf "moved_key" "moved_key" (defArgs s_moved_key) (defBody s_moved_key) (defScope s_moved_key) .none kV_moved_key dc_moved_key pm_moved_key an_moved_key cd_moved_key ct_moved_key), sl_moved_key⟩)
    (e_moved_key : PySem.W.codeIn K cd_moved_key "moved_key" = true)
    (p_moved_key : PySem.W.keepIn K (.ref f_moved_key) = true)
    (g_counted : PySem.W.nsIn K mainGlobals "counted" = some (some (.ref f_counted)))
    (l_counted : K.lookup f_counted = some ⟨oc_counted, od_counted, .func (PySem.W.fnOf "counted" "counted" (defArgs s_counted) (defBody s_counted) (defScope s_counted) .none kV_counted dc_counted pm_counted an_counted cd_counted ct_counted), sl_counted⟩)
    (e_counted : PySem.W.codeIn K cd_counted "counted" = true)
    (p_counted : PySem.W.keepIn K (.ref f_counted) = true)
    (g_key : PySem.W.nsIn K mainGlobals "key" = some (some (.ref f_key)))
    (l_key : K.lookup f_key = some ⟨oc_key, od_key, .func (PySem.W.fnOf "key" "key" (defArgs s_key) (defBody s_key) (defScope s_key) .none kV_key dc_key pm_key an_key cd_key ct_key), sl_key⟩)
    (e_key : PySem.W.codeIn K cd_key "key" = true)
    (p_key : PySem.W.keepIn K (.ref f_key) = true) : Txt K mg :=
  ⟨⟨_, PySem.W.mg_of X G g_DONE⟩,
   ⟨_, PySem.W.mg_of X G g_REFUSED⟩,
   ⟨_, PySem.W.mg_of X G g_LETTERS⟩,
   ⟨_, PySem.W.mg_of X G g_HALVES_IN_OCTAVE⟩,
   ⟨_, PySem.W.mg_of X G g_MOST_STEPS⟩,
   ⟨_, PySem.W.mg_of X G g_MOST_HALVES⟩,
   ⟨_, PySem.W.mg_of X G g_MOST_IN_KEY⟩,
   ⟨_, PySem.W.mg_of X G g_FIFTHS_IN_CIRCLE⟩,
   ⟨_, PySem.W.mg_of X G g_FIFTHS_IN_RAISING⟩,
   ⟨a_HALVES_ABOVE_C, PySem.W.mg_of X G g_HALVES_ABOVE_C, fun H => .inr ⟨_, _, _, k_HALVES_ABOVE_C, rfl, rfl, line (show 7 ≤ 1000000 from by decide), (Paired.cons ⟨t_HALVES_ABOVE_C_0, rfl⟩ (Paired.cons ⟨t_HALVES_ABOVE_C_1, rfl⟩ (Paired.cons ⟨t_HALVES_ABOVE_C_2, rfl⟩ (Paired.cons ⟨t_HALVES_ABOVE_C_3, rfl⟩ (Paired.cons ⟨t_HALVES_ABOVE_C_4, rfl⟩ (Paired.cons ⟨t_HALVES_ABOVE_C_5, rfl⟩ (Paired.cons ⟨t_HALVES_ABOVE_C_6, rfl⟩ Paired.nil)))))))⟩⟩,
   ⟨a_FIFTHS_OF_LETTERS, PySem.W.mg_of X G g_FIFTHS_OF_LETTERS, fun H => .inr ⟨_, _, _, k_FIFTHS_OF_LETTERS, rfl, rfl, line (show 7 ≤ 1000000 from by decide), (Paired.cons ⟨t_FIFTHS_OF_LETTERS_0, rfl⟩ (Paired.cons ⟨t_FIFTHS_OF_LETTERS_1, rfl⟩ (Paired.cons ⟨t_FIFTHS_OF_LETTERS_2, rfl⟩ (Paired.cons ⟨t_FIFTHS_OF_LETTERS_3, rfl⟩ (Paired.cons ⟨t_FIFTHS_OF_LETTERS_4, rfl⟩ (Paired.cons ⟨t_FIFTHS_OF_LETTERS_5, rfl⟩ (Paired.cons ⟨t_FIFTHS_OF_LETTERS_6, rfl⟩ Paired.nil)))))))⟩⟩,
   (PySem.W.mg_none_of X G g_len),
   (PySem.W.mg_none_of X G g_list),
   ⟨_, _, fun_mk (st := s_is_interval) l_is_interval e_is_interval p_is_interval, PySem.W.mg_of X G g_is_interval, fun s us hu => match us, hu with | [_, _], _ => .of_eq rfl⟩,
   ⟨_, _, fun_mk (st := s_is_key) l_is_key e_is_key p_is_key, PySem.W.mg_of X G g_is_key, fun s us hu => match us, hu with | [_], _ => .of_eq rfl⟩,
   ⟨_, _, fun_mk (st := s_step_of) l_step_of e_step_of p_step_of, PySem.W.mg_of X G g_step_of, fun s us hu => match us, hu with | [_, _], _ => .of_eq rfl⟩,
   ⟨_, _, fun_mk (st := s_sound_of) l_sound_of e_sound_of p_sound_of, PySem.W.mg_of X G g_sound_of, fun s us hu => match us, hu with | [_, _, _], _ => .of_eq rfl⟩,
   ⟨_, _, fun_mk (st := s_moved) l_moved e_moved p_moved, PySem.W.mg_of X G g_moved, fun s us hu => match us, hu with | [_, _, _, _, _], _ => .of_eq rfl⟩,
   ⟨_, _, fun_mk (st := s_fifths_of) l_fifths_of e_fifths_of p_fifths_of, PySem.W.mg_of X G g_fifths_of, fun s us hu => match us, hu with | [_, _], _ => .of_eq rfl⟩,
   ⟨_, _, fun_mk (st := s_interval_fifths) l_interval_fifths e_interval_fifths p_interval_fifths, PySem.W.mg_of X G g_interval_fifths, fun s us hu => match us, hu with | [_, _], _ => .of_eq rfl⟩,
   ⟨_, _, fun_mk (st := s_moved_key) l_moved_key e_moved_key p_moved_key, PySem.W.mg_of X G g_moved_key, fun s us hu => match us, hu with | [_, _, _], _ => .of_eq rfl⟩,
   ⟨_, _, fun_mk (st := s_counted) l_counted e_counted p_counted, PySem.W.mg_of X G g_counted, fun s us hu => match us, hu with | [_], _ => .of_eq rfl⟩,
   ⟨_, _, fun_mk (st := s_key) l_key e_key p_key, PySem.W.mg_of X G g_key, fun s us hu => match us, hu with | [_, _, _], _ => .of_eq rfl⟩⟩
theorem all_of {P : Program} {w : World} {K : PySem.W.Frag} {mg : Str → Option Value} {fa : Addr} (hfa : mg "key" = some (.ref fa)) (T : Txt K mg) :
    ∃ fd : FuncData, (∀ (s : Shared) (us : List Value), us.length = (["in_key", "steps", "halves"] : List Str).length → BindsTo s fd ⟨us, []⟩ ((["in_key", "steps", "halves"] : List Str).zip us)) ∧ ∀ base : Heap, K.In base → base.Ns mainGlobals mg → FnOk P w K mg base CX0 5 fa fd ["in_key", "steps", "halves"] (sp_key) := by
  obtain ⟨f, fd, D⟩ := T.d_key
  have e : f = fa := by have z := D.g.symm.trans hfa; injection z with z; injection z
  subst e
  exact ⟨fd, D.bt, fun base _ _ => ok_key T D⟩
end Sn
open PySem PySem.W PyProof.Rows
set_option maxRecDepth 100000 in
set_option maxHeartbeats 8000000 in
theorem PySem.Challenge.cw_spellednotes_s03_key_holds : PySem.Challenge.rw_spellednotes_s03_key.Holds := by
  w_on; k_headS; (case hw => exact ⟨[.int 0, .int 0, .int 0], by decide +kernel, by decide +kernel⟩)
  k_fillS
  refine L2.walk_specK (r := PySem.Challenge.rw_spellednotes_s03_key) (k := 5) (CX := L2.CX0) (ps := ["in_key", "steps", "halves"]) (sp := fun _ => Sn.sp_key) (by decide +kernel) rfl rfl ⟨rfl, by decide, by decide⟩ (fun w h Y => PySem.W.kIn_of Y) ?F ?S (fun _ _ _ _ z => z)
  case F =>
    intro w mg fa h Y KX G hmg
    refine Sn.all_of hmg ?_
    refine' Sn.txt_mk KX G ?g_DONE ?g_REFUSED ?g_LETTERS ?g_HALVES_IN_OCTAVE ?g_MOST_STEPS ?g_MOST_HALVES ?g_MOST_IN_KEY ?g_FIFTHS_IN_CIRCLE ?g_FIFTHS_IN_RAISING ?g_HALVES_ABOVE_C ?k_HALVES_ABOVE_C ?g_FIFTHS_OF_LETTERS ?k_FIFTHS_OF_LETTERS ?g_len ?g_list ?g_is_interval ?l_is_interval ?e_is_interval ?p_is_interval ?g_is_key ?l_is_key ?e_is_key ?p_is_key ?g_step_of ?l_step_of ?e_step_of ?p_step_of ?g_sound_of ?l_sound_of ?e_sound_of ?p_sound_of ?g_moved ?l_moved ?e_moved ?p_moved ?g_fifths_of ?l_fifths_of ?e_fifths_of ?p_fifths_of ?g_interval_fifths ?l_interval_fifths ?e_interval_fifths ?p_interval_fifths ?g_moved_key ?l_moved_key ?e_moved_key ?p_moved_key ?g_counted ?l_counted ?e_counted ?p_counted ?g_key ?l_key ?e_key ?p_key
    (case g_DONE => k_is)
    (case g_REFUSED => k_is)
    (case g_LETTERS => k_is)
    (case g_HALVES_IN_OCTAVE => k_is)
    (case g_MOST_STEPS => k_is)
    (case g_MOST_HALVES => k_is)
    (case g_MOST_IN_KEY => k_is)
    (case g_FIFTHS_IN_CIRCLE => k_is)
    (case g_FIFTHS_IN_RAISING => k_is)
    (case g_HALVES_ABOVE_C => k_is)
    (case k_HALVES_ABOVE_C => k_is)
    (case g_FIFTHS_OF_LETTERS => k_is)
    (case k_FIFTHS_OF_LETTERS => k_is)
    (case g_len => k_is)
    (case g_list => k_is)
    (case g_is_interval => k_is)
    (case l_is_interval => k_is)
    (case e_is_interval => k_is)
    (case p_is_interval => k_is)
    (case g_is_key => k_is)
    (case l_is_key => k_is)
    (case e_is_key => k_is)
    (case p_is_key => k_is)
    (case g_step_of => k_is)
    (case l_step_of => k_is)
    (case e_step_of => k_is)
    (case p_step_of => k_is)
    (case g_sound_of => k_is)
    (case l_sound_of => k_is)
    (case e_sound_of => k_is)
    (case p_sound_of => k_is)
    (case g_moved => k_is)
    (case l_moved => k_is)
    (case e_moved => k_is)
    (case p_moved => k_is)
    (case g_fifths_of => k_is)
    (case l_fifths_of => k_is)
    (case e_fifths_of => k_is)
    (case p_fifths_of => k_is)
    (case g_interval_fifths => k_is)
    (case l_interval_fifths => k_is)
    (case e_interval_fifths => k_is)
    (case p_interval_fifths => k_is)
    (case g_moved_key => k_is)
    (case l_moved_key => k_is)
    (case e_moved_key => k_is)
    (case p_moved_key => k_is)
    (case g_counted => k_is)
    (case l_counted => k_is)
    (case e_counted => k_is)
    (case p_counted => k_is)
    (case g_key => k_is)
    (case l_key => k_is)
    (case e_key => k_is)
    (case p_key => k_is)
  case S =>
    intro K H xs a hO hwi hask hx
    obtain ⟨k, s, h, u⟩ := a
    have q : (Codec.inInt (-2147483648) 2147483647 k && (Codec.inInt (-2147483648) 2147483647 s && (Codec.inInt (-2147483648) 2147483647 h && true))) = true := hwi
    simp only [Codec.inInt, Bool.and_eq_true, decide_eq_true_eq] at q
    cases hx with
    | cons h1 hx => cases hx with
      | cons h2 hx => cases hx with
        | cons h3 hx =>
          cases hx; cases h1; cases h2; cases h3
          refine ⟨k, s, h, rfl, fun H' p hp => ?_⟩
          show L2.Dw K H' (.ref p) (WData.list ((PySw68.key k s h).map WData.int))
          rw [Sn.keyc_eq q.1 q.2.1 q.2.2.1]
          exact .lst (L2.SqL.of hp) (L2.dw_ints _)
#print axioms PySem.Challenge.cw_spellednotes_s03_key_holds

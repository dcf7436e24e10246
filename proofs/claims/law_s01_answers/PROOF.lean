import PyProof.Rows.All
import Wide.All
import OpenK.AllK
import Wide.FinOn
import HandS.ForSpec
import HandS.HeadHook2
import Ag07Spec
import HandS.Comp
import HandS.Dict
import HandS.Iter
import HandS.More
import HandS.WordsDict
import HandS.TupAny
import HandS.TupLen
import HandS.Conv
import HandS.SortInts
import HandS.CallLocal
import HandS.DictTup
import HandS.Walk
import PyProof.DictMoreH
import KE.SortData
import KE.KDictSum
import HandS.HeadHook4
import PyAg07
import KE.KStateDown
import KE.OsHead
import KE.OsShapes
import KE.HD4
import PySem.Challenge.RW_watchedtree_s01_answers
set_option Elab.async false
set_option linter.all false
set_option maxRecDepth 100000
set_option maxHeartbeats 2000000
namespace Wt
open PySem PySem.Spec PyProof.Rows L2
/-- a promise: of the arguments, the heap, what follows; nothing is raised -/
abbrev Pm := List V → Hp → VK → Prop
abbrev Pm.sp (p : Pm) : Sp := fun vs H Q _ => p vs H Q
/-- the def at f keeps the promise p, at a level of at most k -/
structure HasFn (P : Program) (w : World) (K : PySem.W.Frag) (mg : Str → Option Value) (base : Heap) (k : Nat) (f : Addr) (ps : List Str) (p : Pm) : Prop where
  ex : ∃ fd, FnOk P w K mg base CX0 k f fd ps p.sp ∧ Binds K fd ps [] ∧ PySem.W.keepIn K (.ref f) = true
theorem HasFn.mono {P : Program} {w : World} {K : PySem.W.Frag} {mg : Str → Option Value} {base : Heap} {j k : Nat} {f : Addr} {ps : List Str} {p : Pm}
    (h : HasFn P w K mg base j f ps p) (le : j ≤ k) : HasFn P w K mg base k f ps p := by
  obtain ⟨fd, F, b, kp⟩ := h.ex
  exact ⟨fd, F.mono le, b, kp⟩
theorem HasFn.imp {P : Program} {w : World} {K : PySem.W.Frag} {mg : Str → Option Value} {base : Heap} {k : Nat} {f : Addr} {ps : List Str} {p p' : Pm}
    (h : HasFn P w K mg base k f ps p) (q : ∀ vs H Q, p' vs H Q → p vs H Q) : HasFn P w K mg base k f ps p' := by
  obtain ⟨fd, F, b, kp⟩ := h.ex
  exact ⟨fd, F.imp fun vs H Q _ => q vs H Q, b, kp⟩
/-- how a def without defaults binds its n parameters -/
def BindsEach (x qual : Str) (a : Arguments) (b : List Stmt) (sc : Scope) (ps : List Str) : Prop :=
  ∀ (kV doc pm : Value) (an : Option Addr) (cdv ct : Value) (us : List Value), us.length = ps.length →
    bindArgs (PySem.W.fnOf x qual a b sc .none kV doc pm an cdv ct) ⟨us, []⟩ = pure (ps.zip us)
/-- THE RULE for a def -/
theorem mkFn {P : Program} {w : World} {K : PySem.W.Frag} {mg : Str → Option Value} {base : Heap} {x qual : Str} {a : Arguments} {b : List Stmt} {sc : Scope} {f : Addr} {N ps : List Str} {k : Nat} {p : Pm}
    (F : ∃ fd, FunD K x qual a b sc [] [] f fd) (S : FnScope N ps sc) (hb : BindsEach x qual a b sc ps) (len : ∀ vs H Q, p vs H Q → vs.length = ps.length)
    (body : ∀ (cdv : Value) (A : Around) (outer : List Env) (s : Shared) (H : Hp) (E : XK), Room k (A.deeper (envOfC qual sc s.heap.objs.size f cdv)) →
      ∃ t, PSs (cxOf CX0 P w K mg base N qual sc f cdv A outer s H E).nox b t ∧ ∀ vs Q, p vs H Q → t { nx := fun _ H' => Q .non H', rt := Q } (start N vs) H) :
    HasFn P w K mg base (k + 1) f ps p := by
  obtain ⟨fd, F⟩ := F
  refine ⟨fd, F.ok S (fun vs H Q _ h => len vs H Q h) (fun cdv A outer s H vs Q E hr h => ?_), F.bindsN hb, F.kp⟩
  obtain ⟨t, ht, q⟩ := body cdv A outer s H E hr
  exact ⟨t, ht.nox, q vs Q h⟩
/-- the main def: its binding at every heap -/
theorem HasFn.main {K : PySem.W.Frag} {x qual : Str} {a : Arguments} {b : List Stmt} {sc : Scope} {f : Addr} {fd : FuncData} {ps : List Str}
    (F : FunD K x qual a b sc [] [] f fd) (hb : BindsEach x qual a b sc ps) :
    ∀ (s : Shared) (us : List Value), us.length = ps.length → BindsTo s fd ⟨us, []⟩ (ps.zip us) := fun s us hl => F.bindsA hb s us hl
section
variable {X : Cx} {k : Nat} {f C : Addr} {ps : List Str} {pm : Pm} {x m : Str} {p pos apos : Pos} {e o : Expr} {es : List Expr} {ta : TE} {t : TA}
def tCallH (pm : Pm) (t : TA) : TE := fun σ H Q => t σ H fun vs H1 => pm vs H1 Q
def tMethH (C : Addr) (m : Str) (pm : Pm) (ta : TE) (t : TA) : TE := fun σ H Q => ta σ H fun x H1 => ∃ a dx fs, x = .ref a ∧ H1 a = some (.ins C dx fs) ∧ fs.lookup m = none ∧
  t σ H1 fun vs H2 => pm (x :: vs) H2 Q
def tMakeH (C : Addr) (pm : Pm) (t : TA) : TE := fun σ H Q => t σ H fun vs H1 => ∀ x dx, H1 x = none → H1 dx = none → dx ≠ x →
  pm (.ref x :: vs) (upd (upd H1 dx (.own x)) x (.ins C dx [])) (fun v H2 => v = .non ∧ Q (.ref x) H2)
theorem pe_cast {X : Cx} {e : Expr} {t u : TE} (h : PE X e t) (q : ∀ σ H Q, u σ H Q → t σ H Q) : PE X e u :=
  ⟨fun pins s σ H Q I hw => h.run pins s σ H Q I (q σ H Q hw)⟩
theorem pe_callH (G : HasFn X.prog X.w X.K X.mg X.base k f ps pm) (hr : Room k X.A) (hg : Gl X x) (hm : X.mg x = some (.ref f))
    (ha : PA X (e :: es) t) (dbg : (x == ("__debug__" : Str)) = false := by decide)
    (he : starEach (e :: es) X.env = (false, eval e X.env) :: starEach es X.env := by rfl)
    (tailp : (backTo pos (starEach es X.env)).any (·.1) = false := by rfl) :
    PE X (.Call (.Name x p) (e :: es) [] pos) (tCallH pm t) := by
  obtain ⟨fd, F, b, kp⟩ := G.ex
  have h := pe_call (E := E0) (p := p) (pos := pos) F hr hg hm kp b .nil (fun _ _ _ _ _ _ _ z => z.elim) ha dbg he tailp
  refine pe_cast h fun σ H Q q => ?_
  have e0 : (fun (vs : List V) (H1 : Hp) => pm.sp (vs ++ []) H1 Q E0) = fun vs H1 => pm vs H1 Q := by
    funext vs H1; rw [List.append_nil]
  show t σ H (fun vs H1 => pm.sp (vs ++ []) H1 Q E0)
  rw [e0]; exact q
theorem pe_callH0 (G : HasFn X.prog X.w X.K X.mg X.base k f ps pm) (hr : Room k X.A) (hg : Gl X x) (hm : X.mg x = some (.ref f))
    (dbg : (x == ("__debug__" : Str)) = false := by decide) : PE X (.Call (.Name x p) [] [] pos) (tCallH pm tNil) := by
  obtain ⟨fd, F, b, kp⟩ := G.ex
  exact pe_cast (pe_call0 (E := E0) (p := p) (pos := pos) F hr hg hm kp b .nil (fun _ _ _ _ _ _ _ z => z.elim) dbg) fun σ H Q q => q
theorem pe_methH {pl : Sem Bool} (he : PE X o ta) (c : Cls X.K C) (hm : Meth X.K C m f) (G : HasFn X.prog X.w X.K X.mg X.base k f ps pm) (hr : Room k X.A) (ha : PA X (e :: es) t)
    (headp : starEach (e :: es) X.env = (false, eval e X.env) :: starEach es X.env := by rfl) (tailp : (backTo pos (starEach es X.env)).any (·.1) = false := by rfl)
    (ht : eval (.Call (.Attribute o m apos) (e :: es) [] pos) X.env = (do let ov ← eval o X.env; standAt apos.atName; let (f, first) ← holding [ov] (getMethod ov m pl); callWith pos f first (backTo pos (starEach (e :: es) X.env)) (backToKw pos (keywordEach [] X.env))) := by rfl) :
    PE X (.Call (.Attribute o m apos) (e :: es) [] pos) (tMethH C m pm ta t) := by
  obtain ⟨fd, F, b, kp⟩ := G.ex
  have h := pe_meth (E := E0) (pl := pl) (apos := apos) (pos := pos) he c hm F hr b .nil (fun _ _ _ _ _ _ _ z => z.elim) ha headp tailp ht
  refine pe_cast h fun σ H Q q => ?_
  have e0 : ∀ x, (fun (vs : List V) (H1 : Hp) => pm.sp (x :: (vs ++ [])) H1 Q E0) = fun vs H1 => pm (x :: vs) H1 Q := by
    intro x; funext vs H1; rw [List.append_nil]
  show ta σ H fun x H1 => ∃ a dx fs, x = .ref a ∧ H1 a = some (.ins C dx fs) ∧ fs.lookup m = none ∧ t σ H1 fun vs H2 => pm.sp (x :: (vs ++ [])) H2 Q E0
  have e1 : (fun (x : V) (H1 : Hp) => ∃ a dx fs, x = .ref a ∧ H1 a = some (.ins C dx fs) ∧ fs.lookup m = none ∧ t σ H1 fun vs H2 => pm.sp (x :: (vs ++ [])) H2 Q E0)
      = fun x H1 => ∃ a dx fs, x = .ref a ∧ H1 a = some (.ins C dx fs) ∧ fs.lookup m = none ∧ t σ H1 fun vs H2 => pm (x :: vs) H2 Q := by
    funext x H1; rw [e0 x]
  rw [e1]; exact q
theorem pe_methH0 {pl : Sem Bool} (he : PE X o ta) (c : Cls X.K C) (hm : Meth X.K C m f) (G : HasFn X.prog X.w X.K X.mg X.base k f ps pm) (hr : Room k X.A)
    (ht : eval (.Call (.Attribute o m apos) [] [] pos) X.env = (do let ov ← eval o X.env; standAt apos.atName; let (f, first) ← holding [ov] (getMethod ov m pl); callWith pos f first (backTo pos (starEach [] X.env)) (backToKw pos (keywordEach [] X.env))) := by rfl) :
    PE X (.Call (.Attribute o m apos) [] [] pos) (tMethH C m pm ta tNil) := by
  obtain ⟨fd, F, b, kp⟩ := G.ex
  exact pe_cast (pe_meth0 (E := E0) (pl := pl) (apos := apos) (pos := pos) he c hm F hr b .nil (fun _ _ _ _ _ _ _ z => z.elim) ht) fun σ H Q q => q
theorem pe_makeH (M : Mk X.K C f) (G : HasFn X.prog X.w X.K X.mg X.base k f ps pm) (hr : Room (k + 1) X.A) (hg : Gl X x) (hm : X.mg x = some (.ref C))
    (ha : PA X (e :: es) t) (dbg : (x == ("__debug__" : Str)) = false := by decide) (he : starEach (e :: es) X.env = (false, eval e X.env) :: starEach es X.env := by rfl) (tailp : (backTo pos (starEach es X.env)).any (·.1) = false := by rfl) :
    PE X (.Call (.Name x p) (e :: es) [] pos) (tMakeH C pm t) := by
  obtain ⟨fd, F, b, kp⟩ := G.ex
  have h := pe_make (E := E0) (p := p) (pos := pos) M F hr hg hm b .nil (fun _ _ _ _ _ _ _ z => z.elim) ha dbg he tailp
  refine pe_cast h fun σ H Q q => ?_
  have e1 : (fun (vs : List V) (H1 : Hp) => ∀ x dx, H1 x = none → H1 dx = none → dx ≠ x → pm.sp (.ref x :: (vs ++ [])) (upd (upd H1 dx (.own x)) x (.ins C dx [])) (fun v H2 => v = .non ∧ Q (.ref x) H2) E0)
      = fun vs H1 => ∀ x dx, H1 x = none → H1 dx = none → dx ≠ x → pm (.ref x :: vs) (upd (upd H1 dx (.own x)) x (.ins C dx [])) (fun v H2 => v = .non ∧ Q (.ref x) H2) := by
    funext vs H1; rw [List.append_nil]
  show t σ H (fun vs H1 => ∀ x dx, H1 x = none → H1 dx = none → dx ≠ x → pm.sp (.ref x :: (vs ++ [])) (upd (upd H1 dx (.own x)) x (.ins C dx [])) (fun v H2 => v = .non ∧ Q (.ref x) H2) E0)
  rw [e1]; exact q
theorem pe_makeH0 (M : Mk X.K C f) (G : HasFn X.prog X.w X.K X.mg X.base k f ps pm) (hr : Room (k + 1) X.A) (hg : Gl X x) (hm : X.mg x = some (.ref C))
    (dbg : (x == ("__debug__" : Str)) = false := by decide) : PE X (.Call (.Name x p) [] [] pos) (tMakeH C pm tNil) := by
  obtain ⟨fd, F, b, kp⟩ := G.ex
  exact pe_cast (pe_make0 (E := E0) (p := p) (pos := pos) M F hr hg hm b .nil (fun _ _ _ _ _ _ _ z => z.elim) dbg) fun σ H Q q => q
end
end Wt

set_option Elab.async false
set_option linter.all false
namespace Wt
/-! ### the order of paths -/
theorem ahead_eq : ∀ p q : List Nat, Ag07.ahead p q = decide (p < q)
  | [], [] => by simp [Ag07.ahead]
  | [], _ :: _ => by simp [Ag07.ahead]
  | _ :: _, [] => by simp [Ag07.ahead]
  | a :: p, b :: q => by
    simp only [Ag07.ahead, ahead_eq p q]
    have h := List.cons_lt_cons_iff (a := a) (b := b) (l₁ := p) (l₂ := q)
    apply Bool.eq_iff_iff.mpr
    simp only [Bool.or_eq_true, Bool.and_eq_true, decide_eq_true_eq, beq_iff_eq]
    exact h.symm
/-- a path ahead of another, or the same -/
def leP (p q : List Nat) : Bool := !Ag07.ahead q p
theorem leP_iff {p q : List Nat} : leP p q = true ↔ p ≤ q := by
  unfold leP
  rw [ahead_eq]
  simp
theorem leP_trans {p q r : List Nat} (a : leP p q = true) (b : leP q r = true) : leP p r = true := leP_iff.mpr (List.le_trans (leP_iff.mp a) (leP_iff.mp b))
theorem leP_total (p q : List Nat) : (leP p q || leP q p) = true := by
  rw [Bool.or_eq_true]
  exact (List.le_total p q).imp leP_iff.mpr leP_iff.mpr
theorem le_of_lt' {p q : List Nat} (h : p < q) : p ≤ q := List.not_lt.mp fun z => List.lt_irrefl p (List.lt_trans h z)
/-! ### nodes in order -/
def SrtN (l : List Ag07.Node) : Prop := l.Pairwise fun a b => a.path < b.path
theorem SrtN.filter {l : List Ag07.Node} (h : SrtN l) (p : Ag07.Node → Bool) : SrtN (l.filter p) := List.Pairwise.filter p h
theorem SrtN.inj {l : List Ag07.Node} (h : SrtN l) : ∀ {a b : Ag07.Node}, a ∈ l → b ∈ l → a.path = b.path → a = b := by
  induction l with
  | nil => intro a b ha; cases ha
  | cons x l ih =>
    rw [SrtN, List.pairwise_cons] at h
    intro a b ha hb e
    rcases List.mem_cons.mp ha with rfl | ha' <;> rcases List.mem_cons.mp hb with rfl | hb'
    · rfl
    · have := h.1 b hb'; rw [e] at this; exact absurd this (List.lt_irrefl _)
    · have := h.1 a ha'; rw [e] at this; exact absurd this (List.lt_irrefl _)
    · exact ih h.2 ha' hb' e
/-- the one list of that order -/
theorem sort_paths {l m : List (List Nat)} (h : l.Perm m) (s : m.Pairwise (· < ·)) (t : l.Pairwise fun a b => leP a b = true) : l = m := by
  refine List.Perm.eq_of_pairwise (le := fun a b => leP a b = true) (fun a b _ _ x y => List.le_antisymm (leP_iff.mp x) (leP_iff.mp y)) t (s.imp fun h => leP_iff.mpr (le_of_lt' h)) h
theorem find_mem {l : List Ag07.Node} {p : List Nat} {n : Ag07.Node} (h : Ag07.find l p = some n) : n ∈ l ∧ n.path = p := by
  unfold Ag07.find at h
  have h2 := List.find?_some h
  exact ⟨List.mem_of_find?_eq_some h, eq_of_beq h2⟩
theorem find_none {l : List Ag07.Node} {p : List Nat} : Ag07.find l p = none ↔ ∀ n ∈ l, n.path ≠ p := by
  unfold Ag07.find
  rw [List.find?_eq_none]
  simp
/-- of a row in another order the same is found -/
theorem find_perm {l m : List Ag07.Node} (h : l.Perm m) (s : SrtN m) (p : List Nat) : Ag07.find l p = Ag07.find m p := by
  cases e : Ag07.find m p with
  | none => exact find_none.mpr fun n hn => find_none.mp e n (h.mem_iff.mp hn)
  | some n =>
    obtain ⟨hm, hp⟩ := find_mem e
    cases e2 : Ag07.find l p with
    | none => exact absurd hp (find_none.mp e2 n (h.mem_iff.mpr hm))
    | some n' =>
      obtain ⟨hm', hp'⟩ := find_mem e2
      rw [s.inj (h.mem_iff.mp hm') hm (hp'.trans hp.symm)]
/-- a node put in, in the place of the one of its path, or behind all -/
def putN (n : Ag07.Node) (l : List Ag07.Node) : List Ag07.Node := if l.any (fun m => decide (m.path = n.path)) = true then l.map fun m => if m.path = n.path then n else m else l ++ [n]
theorem putIn_mem {n m : Ag07.Node} : ∀ {l : List Ag07.Node}, m ∈ Ag07.putIn n l → m = n ∨ m ∈ l
  | [], h => by simp [Ag07.putIn] at h; exact .inl h
  | x :: l, h => by
    unfold Ag07.putIn at h
    split at h
    · rcases List.mem_cons.mp h with h | h
      · exact .inl h
      · exact .inr (List.mem_cons_of_mem _ h)
    · split at h
      · rcases List.mem_cons.mp h with h | h
        · exact .inl h
        · exact .inr h
      · rcases List.mem_cons.mp h with h | h
        · exact .inr (by rw [h]; exact List.mem_cons_self)
        · exact (putIn_mem h).imp id (List.mem_cons_of_mem _)
theorem putIn_srt (n : Ag07.Node) : ∀ {l : List Ag07.Node}, SrtN l → SrtN (Ag07.putIn n l)
  | [], _ => by simp [Ag07.putIn, SrtN]
  | x :: l, h => by
    rw [SrtN, List.pairwise_cons] at h
    unfold Ag07.putIn
    split
    · rename_i e
      rw [SrtN, List.pairwise_cons]
      exact ⟨fun b hb => by rw [← e]; exact h.1 b hb, h.2⟩
    · split
      · rename_i e1 e2
        rw [ahead_eq, decide_eq_true_eq] at e2
        rw [SrtN, List.pairwise_cons, List.pairwise_cons]
        refine ⟨fun b hb => ?_, h⟩
        rcases List.mem_cons.mp hb with rfl | hb
        · exact e2
        · exact List.lt_trans e2 (h.1 b hb)
      · rename_i e1 e2
        rw [ahead_eq, decide_eq_true_eq] at e2
        rw [SrtN, List.pairwise_cons]
        refine ⟨fun b hb => ?_, putIn_srt n h.2⟩
        rcases putIn_mem hb with rfl | hb
        · have le : x.path ≤ b.path := List.not_lt.mp e2
          rcases Classical.em (x.path < b.path) with z | z
          · exact z
          · exact absurd (List.le_antisymm le (List.not_lt.mp z)) e1
        · exact h.1 b hb
theorem putIn_new {n : Ag07.Node} : ∀ {l : List Ag07.Node}, (∀ m ∈ l, m.path ≠ n.path) → (Ag07.putIn n l).Perm (n :: l)
  | [], _ => by simp [Ag07.putIn]
  | x :: l, h => by
    unfold Ag07.putIn
    rw [if_neg (h x List.mem_cons_self)]
    split
    · exact List.Perm.refl _
    · exact (List.Perm.cons x (putIn_new fun m hm => h m (List.mem_cons_of_mem _ hm))).trans (List.Perm.swap ..)
theorem map_id_of {n : Ag07.Node} : ∀ {l : List Ag07.Node}, (∀ m ∈ l, m.path ≠ n.path) → (l.map fun m => if m.path = n.path then n else m) = l
  | [], _ => rfl
  | x :: l, h => by
    rw [List.map_cons, if_neg (h x List.mem_cons_self), map_id_of fun m hm => h m (List.mem_cons_of_mem _ hm)]
theorem putIn_old {n : Ag07.Node} : ∀ {l : List Ag07.Node}, SrtN l → (∃ m ∈ l, m.path = n.path) → Ag07.putIn n l = l.map fun m => if m.path = n.path then n else m
  | [], _, h => by obtain ⟨m, hm, _⟩ := h; cases hm
  | x :: l, s, h => by
    rw [SrtN, List.pairwise_cons] at s
    unfold Ag07.putIn
    by_cases e : x.path = n.path
    · rw [if_pos e, List.map_cons, if_pos e, map_id_of]
      intro m hm z
      have := s.1 m hm
      rw [e, z] at this; exact List.lt_irrefl _ this
    · obtain ⟨m, hm, hp⟩ := h
      have hm' : m ∈ l := by
        rcases List.mem_cons.mp hm with rfl | hm
        · exact absurd hp e
        · exact hm
      have hlt := s.1 m hm'
      rw [if_neg e, if_neg (by rw [ahead_eq, decide_eq_true_eq]; intro z; rw [hp] at hlt; exact List.lt_irrefl _ (List.lt_trans z hlt)), List.map_cons, if_neg e, putIn_old s.2 ⟨m, hm', hp⟩]
theorem putN_perm {n : Ag07.Node} {l m : List Ag07.Node} (h : l.Perm m) (s : SrtN m) : (putN n l).Perm (Ag07.putIn n m) := by
  unfold putN
  split
  · rename_i e
    obtain ⟨x, hx, hp⟩ := List.any_eq_true.mp e
    rw [putIn_old s ⟨x, h.mem_iff.mp hx, of_decide_eq_true hp⟩]
    exact h.map _
  · rename_i e
    have no : ∀ x ∈ m, x.path ≠ n.path := fun x hx z => e (List.any_eq_true.mpr ⟨x, h.mem_iff.mpr hx, decide_eq_true z⟩)
    exact ((h.append_right [n]).trans List.perm_append_comm).trans (putIn_new no).symm
theorem drop_srt {l : List Ag07.Node} (p : List Nat) (s : SrtN l) : SrtN (Ag07.drop l p) := s.filter _
end Wt

set_option Elab.async false
set_option linter.all false
set_option maxRecDepth 100000
set_option maxHeartbeats 2000000
namespace Wt
open PySem PySem.Spec PyProof.Rows L2
/-! ### what never changes: tuples, and instances of some classes, told by their first attribute -/
def immNames : List Str := ["what", "value", "kind", "letters", "net"]
def isImm : HO → Bool
  | .tup _ => true
  | .ins _ _ ((n, _) :: _) => immNames.contains n
  | _ => false
/-- all stands as it was but what changes at the addresses M -/
def Kp (M : List Addr) (H H' : Hp) : Prop := ∀ b o, H b = some o → (b ∉ M ∨ isImm o = true) → H' b = some o
theorem Kp.refl (M : List Addr) (H : Hp) : Kp M H H := fun _ _ h _ => h
theorem Kp.trans {M : List Addr} {H H1 H2 : Hp} (a : Kp M H H1) (b : Kp M H1 H2) : Kp M H H2 := fun x o h n => b x o (a x o h n) n
theorem Kp.sub {M M' : List Addr} {H H' : Hp} (k : Kp M H H') (s : ∀ a ∈ M, a ∈ M') : Kp M' H H' := fun x o e n => k x o e (n.imp (fun z q => z (s x q)) id)
theorem Kp.at_ {M : List Addr} {H H' : Hp} {b : Addr} {o : HO} (k : Kp M H H') (h : H b = some o) (n : b ∉ M) : H' b = some o := k b o h (.inl n)
theorem Kp.imm {M : List Addr} {H H' : Hp} {b : Addr} {o : HO} (k : Kp M H H') (h : H b = some o) (i : isImm o = true := by rfl) : H' b = some o := k b o h (.inr i)
theorem Kp.tup {M : List Addr} {H H' : Hp} {b : Addr} {xs : List V} (k : Kp M H H') (h : H b = some (.tup xs)) : H' b = some (.tup xs) := k b _ h (.inr rfl)
theorem Kp.new {M : List Addr} {H H1 : Hp} {a : Addr} {o : HO} (k : Kp M H H1) (h : H1 a = none) : Kp M H (upd H1 a o) := fun x u e n => by
  have e1 := k x u e n
  rw [upd_ne (ne_of_none e1 h)]; exact e1
/-- a store to what is new -/
theorem Kp.own {M : List Addr} {H H1 : Hp} {a : Addr} {o : HO} (k : Kp M H H1) (h : H a = none) : Kp M H (upd H1 a o) := fun x u e n => by
  rw [upd_ne (ne_of_none e h)]; exact k x u e n
/-- a store to what may change -/
theorem Kp.put {M : List Addr} {H H1 : Hp} {a : Addr} {o u : HO} (k : Kp M H H1) (m : a ∈ M) (h : H1 a = some u) (i : isImm u = false := by rfl) : Kp M H (upd H1 a o) := fun x v e n => by
  have e1 := k x v e n
  rw [upd_ne ?_]; exact e1
  rintro rfl
  rcases n with n | n
  · exact n m
  · rw [h] at e1; cases e1; rw [i] at n; cases n
theorem Kp.free {M : List Addr} {H H' : Hp} {a : Addr} (k : Kp M H H') (n : a ∉ M) (h : H' a = none) : H a = none := by
  cases q : H a with
  | none => rfl
  | some o => rw [k.at_ q n] at h; cases h
theorem Kp.sq {M : List Addr} {K : PySem.W.Frag} {H H' : Hp} {l : Addr} {xs : List V} (k : Kp M H H') (n : l ∉ M) (h : SqL K H l xs) : SqL K H' l xs := by
  rcases h with (h | ⟨o, h⟩) | h
  · exact .inl (.inl (k.at_ h n))
  · exact .inl (.inr ⟨o, k.at_ h n⟩)
  · exact .inr h
/-- from what may change ahead to what may change behind -/
structure Ch (M M' : List Addr) (H H' : Hp) : Prop where
  kp : Kp M H H'
  nw : ∀ a ∈ M', a ∈ M ∨ H a = none
theorem Ch.refl (M : List Addr) (H : Hp) : Ch M M H H := ⟨Kp.refl M H, fun _ h => .inl h⟩
theorem Ch.of {M : List Addr} {H H' : Hp} (k : Kp M H H') : Ch M M H H' := ⟨k, fun _ h => .inl h⟩
theorem Ch.out {M M' : List Addr} {H H' : Hp} (c : Ch M M' H H') {b : Addr} {o : HO} (h : H b = some o) (n : b ∉ M) : b ∉ M' := fun z => by
  rcases c.nw b z with q | q
  · exact n q
  · rw [h] at q; cases q
theorem Ch.trans {M M1 M2 : List Addr} {H H1 H2 : Hp} (a : Ch M M1 H H1) (b : Ch M1 M2 H1 H2) : Ch M M2 H H2 := by
  refine ⟨fun x o h n => ?_, fun x h => ?_⟩
  · refine b.kp x o (a.kp x o h n) (n.imp (fun z => a.out h z) id)
  · rcases b.nw x h with q | q
    · exact a.nw x q
    · by_cases m : x ∈ M
      · exact .inl m
      · exact .inr (a.kp.free m q)
/-! ### Paired -/
theorem Paired.imp {α β : Type} {F G : α → β → Prop} {l : List α} {m : List β} (p : Paired F l m) (h : ∀ a b, F a b → G a b) : Paired G l m := by
  induction p with
  | nil => exact .nil
  | cons x _ ih => exact .cons (h _ _ x) ih
theorem Paired.get {α β : Type} {F : α → β → Prop} {l : List α} {m : List β} (p : Paired F l m) : ∀ {i : Nat} {a : α}, l[i]? = some a → ∃ b, m[i]? = some b ∧ F a b := by
  induction p with
  | nil => intro i a h; simp at h
  | cons x _ ih =>
    intro i a h
    cases i with
    | zero => simp at h; subst h; exact ⟨_, rfl, x⟩
    | succ i => exact ih (by simpa using h)
theorem Paired.get' {α β : Type} {F : α → β → Prop} {l : List α} {m : List β} (p : Paired F l m) : ∀ {i : Nat} {b : β}, m[i]? = some b → ∃ a, l[i]? = some a ∧ F a b := by
  induction p with
  | nil => intro i a h; simp at h
  | cons x _ ih =>
    intro i a h
    cases i with
    | zero => simp at h; subst h; exact ⟨_, rfl, x⟩
    | succ i => exact ih (by simpa using h)
theorem Paired.len {α β : Type} {F : α → β → Prop} {l : List α} {m : List β} (p : Paired F l m) : l.length = m.length := by
  induction p with
  | nil => rfl
  | cons _ _ ih => simp [ih]
theorem Paired.app {α β : Type} {F : α → β → Prop} {l l' : List α} {m m' : List β} (p : Paired F l m) (q : Paired F l' m') : Paired F (l ++ l') (m ++ m') := by
  induction p with
  | nil => exact q
  | cons x _ ih => exact .cons x ih
theorem Paired.erase {α β : Type} {F : α → β → Prop} {l : List α} {m : List β} (p : Paired F l m) : ∀ (k : Nat), Paired F (l.eraseIdx k) (m.eraseIdx k) := by
  induction p with
  | nil => intro k; exact .nil
  | cons x t ih =>
    intro k
    cases k with
    | zero => exact t
    | succ k => exact .cons x (ih k)
theorem Paired.takeP {α β : Type} {F : α → β → Prop} {l : List α} {m : List β} (p : Paired F l m) : ∀ (k : Nat), Paired F (l.take k) (m.take k) := by
  induction p with
  | nil => intro k; cases k <;> exact .nil
  | cons x t ih =>
    intro k
    cases k with
    | zero => exact .nil
    | succ k => exact .cons x (ih k)
/-! ### paths, nodes, events -/
abbrev pvs (p : List Nat) : List V := p.map fun (n : Nat) => V.int (n : Int)
abbrev pkey (p : List Nat) : List Key := p.map fun (n : Nat) => Sum.inl (n : Int)
theorem pkey_kV (p : List Nat) : (pkey p).map kV = pvs p := by simp [pkey, pvs, kV, Function.comp_def]
theorem pkey_inj {p q : List Nat} (h : pkey p = pkey q) : p = q := by
  induction p generalizing q with
  | nil => cases q with
    | nil => rfl
    | cons => cases h
  | cons a p ih => cases q with
    | nil => cases h
    | cons b q =>
      obtain ⟨h1, h2⟩ := List.cons.inj h
      have : (a : Int) = b := Sum.inl.inj h1
      rw [ih h2, Int.ofNat.inj this]
theorem pvs_inj {p q : List Nat} (h : pvs p = pvs q) : p = q := by
  induction p generalizing q with
  | nil => cases q with
    | nil => rfl
    | cons => cases h
  | cons a p ih => cases q with
    | nil => cases h
    | cons b q =>
      obtain ⟨h1, h2⟩ := List.cons.inj h
      have : (a : Int) = b := V.int.inj h1
      rw [ih h2, Int.ofNat.inj this]
abbrev PathAt (H : Hp) (v : V) (p : List Nat) : Prop := ∃ a, v = .ref a ∧ H a = some (.tup (pvs p))
abbrev C_Node (K : PySem.W.Frag) : Addr := He.ga K "Node"
abbrev C_Event (K : PySem.W.Frag) : Addr := He.ga K "Event"
abbrev C_Letter (K : PySem.W.Frag) : Addr := He.ga K "Letter"
def F_Node (n : Ag07.Node) : List (Str × V) := [("value", .int (n.value : Nat)), ("version", .int (n.version : Nat)), ("made", .int (n.made : Nat)), ("changed", .int (n.changed : Nat)), ("held", .int (n.holder : Nat))]
def F_Event (what value path : V) : List (Str × V) := [("what", what), ("value", value), ("path", path)]
def NodeAt (K : PySem.W.Frag) (H : Hp) (v : V) (n : Ag07.Node) : Prop := ∃ a dx, v = .ref a ∧ H a = some (.ins (C_Node K) dx (F_Node n))
def EventAt (K : PySem.W.Frag) (H : Hp) (v : V) (e : Ag07.Event) : Prop := ∃ a dx pa, v = .ref a ∧ H a = some (.ins (C_Event K) dx (F_Event (.int (e.what : Nat)) (.int (e.value : Nat)) (.ref pa))) ∧ H pa = some (.tup (pvs e.path))
/-- a list of events that is not changed any more -/
def EventsAt (K : PySem.W.Frag) (mu : List Addr) (H : Hp) (v : V) (es : List Ag07.Event) : Prop := ∃ a vs, v = .ref a ∧ a ∉ mu ∧ H a = some (.lst vs) ∧ Paired (EventAt K H) vs es
section
variable {K : PySem.W.Frag} {H H' : Hp} {M mu mu' : List Addr} {v : V}
theorem NodeAt.keep {n : Ag07.Node} (k : Kp M H H') (h : NodeAt K H v n) : NodeAt K H' v n := by
  obtain ⟨a, dx, e, h⟩ := h
  exact ⟨a, dx, e, k.imm h⟩
theorem EventAt.keep {e : Ag07.Event} (k : Kp M H H') (h : EventAt K H v e) : EventAt K H' v e := by
  obtain ⟨a, dx, pa, e, h, hp⟩ := h
  exact ⟨a, dx, pa, e, k.imm h, k.tup hp⟩
theorem EventsAt.keep {es : List Ag07.Event} (k : Kp M H H') (s : ∀ a ∈ M, a ∈ mu) (h : EventsAt K mu H v es) : EventsAt K mu H' v es := by
  obtain ⟨a, vs, e, n, h, p⟩ := h
  exact ⟨a, vs, e, n, k.at_ h fun z => n (s _ z), Paired.imp p fun _ _ => EventAt.keep k⟩
theorem EventsAt.grow {es : List Ag07.Event} (g : ∀ a ∈ mu', a ∈ mu ∨ H a = none) (h : EventsAt K mu H v es) : EventsAt K mu' H v es := by
  obtain ⟨a, vs, e, n, h, p⟩ := h
  refine ⟨a, vs, e, fun z => ?_, h, p⟩
  rcases g a z with q | q
  · exact n q
  · rw [h] at q; cases q
end
/-! ### letters, watchers, clients, the house, the world -/
def optV : Option Nat → V
  | none => .non
  | some n => .int (n : Nat)
/-- an entry of a picture -/
def EntryAt (K : PySem.W.Frag) (H : Hp) (v : V) (x : List Nat × Nat) : Prop := ∃ a pa, v = .ref a ∧ H a = some (.tup [.ref pa, .int (x.2 : Nat)]) ∧ H pa = some (.tup (pvs x.1))
def EntriesAt (K : PySem.W.Frag) (mu : List Addr) (H : Hp) (v : V) (xs : List (List Nat × Nat)) : Prop := ∃ a vs, v = .ref a ∧ a ∉ mu ∧ H a = some (.lst vs) ∧ Paired (EntryAt K H) vs xs
def F_Letter (kind client number path behind turn events entries : V) : List (Str × V) :=
  [("kind", kind), ("client", client), ("number", number), ("path", path), ("behind", behind), ("turn", turn), ("events", events), ("entries", entries)]
def LetterAt (K : PySem.W.Frag) (mu : List Addr) (H : Hp) (v : V) (l : Ag07.Letter) : Prop := ∃ a dx pa ev en, v = .ref a ∧
  H a = some (.ins (C_Letter K) dx (F_Letter (.int (l.kind : Nat)) (.int (l.client : Nat)) (.int (l.num : Nat)) (.ref pa) (optV l.after) (.int (l.turn : Nat)) ev en)) ∧
  H pa = some (.tup (pvs l.path)) ∧ EventsAt K mu H ev l.events ∧ EntriesAt K mu H en l.nodes
abbrev C_Watcher (K : PySem.W.Frag) : Addr := He.ga K "Watcher"
def F_Watcher (client number path last : V) : List (Str × V) := [("client", client), ("number", number), ("path", path), ("last", last)]
def WatcherAt (K : PySem.W.Frag) (H : Hp) (a : Addr) (w : Ag07.Watcher) : Prop := ∃ dx pa, H a = some (.ins (C_Watcher K) dx (F_Watcher (.int (w.client : Nat)) (.int (w.num : Nat)) (.ref pa) (.int (w.last : Nat)))) ∧ H pa = some (.tup (pvs w.path))
section
variable {K : PySem.W.Frag} {H H' : Hp} {M mu mu' : List Addr} {v : V}
theorem EntryAt.keep {x : List Nat × Nat} (k : Kp M H H') (h : EntryAt K H v x) : EntryAt K H' v x := by
  obtain ⟨a, pa, e, h1, h2⟩ := h
  exact ⟨a, pa, e, k.tup h1, k.tup h2⟩
theorem EntryAt.ref {x : List Nat × Nat} (h : EntryAt K H v x) : ∃ a, v = .ref a := by
  obtain ⟨a, _, e, _⟩ := h; exact ⟨a, e⟩
theorem EntriesAt.keep {es : List (List Nat × Nat)} (k : Kp M H H') (s : ∀ a ∈ M, a ∈ mu) (h : EntriesAt K mu H v es) : EntriesAt K mu H' v es := by
  obtain ⟨a, vs, e, n, h, p⟩ := h
  exact ⟨a, vs, e, n, k.at_ h fun z => n (s _ z), Paired.imp p fun _ _ => EntryAt.keep k⟩
theorem EntriesAt.grow {es : List (List Nat × Nat)} (g : ∀ a ∈ mu', a ∈ mu ∨ H a = none) (h : EntriesAt K mu H v es) : EntriesAt K mu' H v es := by
  obtain ⟨a, vs, e, n, h, p⟩ := h
  refine ⟨a, vs, e, fun z => ?_, h, p⟩
  rcases g a z with q | q
  · exact n q
  · rw [h] at q; cases q
theorem LetterAt.keep {l : Ag07.Letter} (k : Kp M H H') (s : ∀ a ∈ M, a ∈ mu) (h : LetterAt K mu H v l) : LetterAt K mu H' v l := by
  obtain ⟨a, dx, pa, ev, en, e, h, hp, he, hn⟩ := h
  exact ⟨a, dx, pa, ev, en, e, k.imm h, k.tup hp, he.keep k s, hn.keep k s⟩
theorem LetterAt.grow {l : Ag07.Letter} (g : ∀ a ∈ mu', a ∈ mu ∨ H a = none) (h : LetterAt K mu H v l) : LetterAt K mu' H v l := by
  obtain ⟨a, dx, pa, ev, en, e, h, hp, he, hn⟩ := h
  exact ⟨a, dx, pa, ev, en, e, h, hp, he.grow g, hn.grow g⟩
theorem WatcherAt.keep {a : Addr} {w : Ag07.Watcher} (k : Kp M H H') (n : a ∉ M) (h : WatcherAt K H a w) : WatcherAt K H' a w := by
  obtain ⟨dx, pa, h, hp⟩ := h
  exact ⟨dx, pa, k.at_ h n, k.tup hp⟩
end
abbrev C_Client (K : PySem.W.Frag) : Addr := He.ga K "Client"
abbrev C_House (K : PySem.W.Frag) : Addr := He.ga K "House"
abbrev C_Net (K : PySem.W.Frag) : Addr := He.ga K "Net"
abbrev C_World (K : PySem.W.Frag) : Addr := He.ga K "World"
/-- a client's attributes -/
structure ClF where
  client : V
  number : V
  path : V
  up_to : V
  since : V
  copied : V
  events_had : V
  pictures_had : V
def ClF.fs (c : ClF) : List (Str × V) := [("client", c.client), ("number", c.number), ("path", c.path), ("up_to", c.up_to), ("since", c.since), ("copied", c.copied), ("events_had", c.events_had), ("pictures_had", c.pictures_had)]
/-- client i stands at a, its copy's dict at d -/
def ClientAt (K : PySem.W.Frag) (H : Hp) (i : Nat) (a d : Addr) (c : Ag07.Client) : Prop := ∃ dx pa, ∃ kvs : List (List Nat × Nat), H a = some (.ins (C_Client K) dx (ClF.fs
    ⟨.int (i : Nat), .int (c.num : Nat), .ref pa, optV c.upto, .int (c.since : Nat), .ref d, .int (c.events : Nat), .int (c.pictures : Nat)⟩)) ∧
  H pa = some (.tup (pvs c.path)) ∧ H d = some (.dT (kvs.map fun x => (pkey x.1, V.int (x.2 : Nat)))) ∧ kvs.Perm c.copy
structure HoF where
  life : V
  net : V
  time : V
  opened : V
  seen : V
  nodes : V
  turns : V
  base : V
  watchers : V
def HoF.fs (f : HoF) : List (Str × V) := [("life", f.life), ("net", f.net), ("time", f.time), ("opened", f.opened), ("seen", f.seen), ("nodes", f.nodes), ("turns", f.turns), ("base", f.base), ("watchers", f.watchers)]
/-- where a world's objects stand -/
structure WAd where
  wd : Addr
  net : Addr
  cl : Addr
  ll : Addr
  hs : Addr
  ds : Addr
  dn : Addr
  lt : Addr
  lw : Addr
  ws : List Addr
  cs : List Addr
  es : List Addr
/-- the addresses at which it changes -/
def WAd.mu (W : WAd) : List Addr := W.hs :: W.ll :: W.ds :: W.dn :: W.lt :: W.lw :: (W.ws ++ (W.cs ++ W.es))
def WAd.all (W : WAd) : List Addr := W.wd :: W.net :: W.cl :: W.mu
def NodesAt (K : PySem.W.Frag) (H : Hp) (d : Addr) (ns : List Ag07.Node) : Prop := ∃ kvs, H d = some (.dT kvs) ∧ Paired (fun (kv : List Key × V) (n : Ag07.Node) => kv.1 = pkey n.path ∧ NodeAt K H kv.2 n) kvs ns
def seenOf (l : List Ag07.Session) : List (Key × V) := l.map fun x => (Sum.inl (x.sid : Int), V.int (x.seen : Int))
structure WAt (K : PySem.W.Frag) (H : Hp) (W : WAd) (s : Ag07.State) : Prop where
  nd : W.all.Nodup
  world : ∃ dx, H W.wd = some (.ins (C_World K) dx [("net", .ref W.net), ("house", .ref W.hs), ("clients", .ref W.cl)])
  neto : ∃ dx, H W.net = some (.ins (C_Net K) dx [("letters", .ref W.ll)])
  lets : ∃ vs, H W.ll = some (.lst vs) ∧ Paired (LetterAt K W.mu H) vs s.letters
  house : ∃ dx, H W.hs = some (.ins (C_House K) dx (HoF.fs ⟨.int (s.life : Nat), .ref W.net, .int (s.time : Nat), .int (s.opened : Nat), .ref W.ds, .ref W.dn, .ref W.lt, .int (s.base : Nat), .ref W.lw⟩))
  seen : H W.ds = some (.dK (seenOf s.sessions))
  nodes : ∃ ns, NodesAt K H W.dn ns ∧ ns.Perm s.nodes
  turns : ∃ vs, H W.lt = some (.lst vs) ∧ Paired (EventsAt K W.mu H) vs s.log
  watch : H W.lw = some (.lst (W.ws.map V.ref)) ∧ Paired (WatcherAt K H) W.ws s.watchers
  clis : H W.cl = some (.lst (W.cs.map V.ref)) ∧ W.cs.length = 3 ∧ W.es.length = 3 ∧ s.clients.length = 3 ∧
    ∀ i a d c, W.cs[i]? = some a → W.es[i]? = some d → s.clients[i]? = some c → ClientAt K H i a d c
end Wt

set_option Elab.async false
set_option linter.all false
set_option maxRecDepth 100000
set_option maxHeartbeats 2000000
namespace Wt
open PySem PySem.Spec PyProof.Rows L2
section
variable {X : Cx}
/-- a module's whole number -/
theorem pe_gint {x : Str} {i : Int} {pos : Pos} (hg : Gl X x) (hm : ∃ t, X.mg x = some (.int i t)) (hd : (x == ("__debug__" : Str)) = false := by decide) : PE X (.Name x pos) (tC (.int i)) := by
  obtain ⟨t, hm⟩ := hm
  exact pe_glob hg hm ⟨_, rfl⟩ hd
theorem pe_gref {x : Str} {a : Addr} {pos : Pos} (hg : Gl X x) (hm : X.mg x = some (.ref a)) (hd : (x == ("__debug__" : Str)) = false := by decide) : PE X (.Name x pos) (tC (.ref a)) := pe_glob hg hm rfl hd
/-- a call as a test -/
theorem pt_call {f : Expr} {as : List Expr} {ks : List Keyword} {pos : Pos} {t : TE} (h : PE X (.Call f as ks pos) t) : PT X (.Call f as ks pos) (tB t) := pt_val h (by intro _; rfl)
/-! ### sorted(paths) -/
abbrev pData (p : List Nat) : PyData := .tuple (p.map fun (n : Nat) => .int (n : Int))


theorem lt_paths : ∀ p q : List Nat, PyProof.Rows.lexLt PyProof.Rows.itemOrd (PySem.W.keyToksAll (p.map fun (n : Nat) => .int (n : Int))) (PySem.W.keyToksAll (q.map fun (n : Nat) => .int (n : Int))) = Ag07.ahead p q
  | [], [] => by
    show PyProof.Rows.lexLt PyProof.Rows.itemOrd (PySem.W.keyToksAll []) (PySem.W.keyToksAll []) = Ag07.ahead [] []
    rw [PyProof.Rows.lex_irrefl]; simp [Ag07.ahead]
  | [], b :: q => by
    rw [List.map_nil, List.map_cons, PySem.W.toks_all_cons]
    simp [Ag07.ahead, PySem.W.keyToksAll, PyProof.Rows.lexLt]
    exact .inl rfl
  | a :: p, [] => by
    rw [List.map_nil, List.map_cons, PySem.W.toks_all_cons]
    simp [Ag07.ahead, PySem.W.keyToksAll, PyProof.Rows.lexLt]
    exact ⟨rfl, fun z => nomatch z⟩
  | a :: p, b :: q => by
    rw [List.map_cons, List.map_cons, PySem.W.dataLt_cons (by simp [PySem.W.alike]), lt_paths p q, PySem.W.dataLt_int]
    simp only [Ag07.ahead]
    by_cases h : a = b
    · subst h; simp [PyData.eqv]
    · have h2 : ¬ (a : Int) = b := fun z => h (Int.ofNat.inj z)
      have h3 : (a == b) = false := by simp [h]
      simp [PyData.eqv, h2, h3]
theorem le_paths {β : Type} (f : β → List Nat) : PySem.W.dataLe false (fun b => pData (f b)) = fun a b => leP (f a) (f b) := by
  funext a b
  show (!PySem.W.dataLt (pData (f b)) (pData (f a))) = _
  rw [PySem.W.dataLt_tuple, lt_paths]; rfl
/-- a list of tuples, each of a path, sorted: a new list -/
def rSortP (K : PySem.W.Frag) : List V → Hp → VK → Prop := fun vs H Q => ∃ (a : Addr) (xs : List (V × List Nat)), vs = [.ref a] ∧ SqL K H a (xs.map (·.1)) ∧
  (∀ x ∈ xs, x.2 ≠ [] ∧ ∃ t, x.1 = .ref t ∧ SqT K H t (pvs x.2)) ∧ ∀ p, H p = none → Q (.ref p) (upd H p (.lst ((xs.mergeSort fun x y => leP x.2 y.2).map (·.1))))
theorem dpAll_pvs {K : PySem.W.Frag} {H : Hp} : ∀ p : List Nat, DpAll K H (pvs p) (p.map fun (n : Nat) => .int (n : Int))
  | [] => .nil
  | n :: p => .cons (.int _) (dpAll_pvs p)
theorem dp_path {K : PySem.W.Frag} {H : Hp} {t : Addr} {p : List Nat} (h : SqT K H t (pvs p)) : Dp K H (.ref t) (pData p) := .tup h (dpAll_pvs p)
theorem each_of_vals {R : Value → (V × List Nat) → Prop} : ∀ {xs : List (V × List Nat)} {us : List Value}, Vals (xs.map (·.1)) us → (∀ x ∈ xs, ∀ u, RelV x.1 u → R u x) → PySem.W.EachIs R us xs
  | [], _, r, _ => by cases r; exact .nil
  | x :: xs, us, r, h => by
    cases r with
    | cons a b => exact .cons (h x List.mem_cons_self _ a) (each_of_vals b fun y hy => h y (List.mem_cons_of_mem _ hy))
theorem vals_of_each : ∀ {xs : List (V × List Nat)} {us : List Value}, PySem.W.EachIs (fun u (x : V × List Nat) => RelV x.1 u) us xs → Vals (xs.map (·.1)) us
  | _, _, .nil => .nil
  | _, _, .cons a b => .cons a (vals_of_each b)
theorem cr_sortP (hu : X.A.units + 64 < cLine) : CallR X (.builtin "sorted") (rSortP X.K) := by
  intro pins s σ H vs us Q I r h
  obtain ⟨a, xs, rfl, hs, hx, q⟩ := h
  obtain ⟨its, rv, hl, hz⟩ := I.list hs
  rw [Vals.ref1 r]
  rw [List.length_map] at hz
  have er : PySem.W.EachIs (fun u (x : V × List Nat) => ∃ as, Reads s.heap u (pData x.2) as) its xs := each_of_vals rv fun x m u ru => by
    obtain ⟨_, t, e, ht⟩ := hx x m
    rw [e] at ru
    exact Dp.reads I _ _ _ (dp_path ht) ru
  have ev : PySem.W.EachIs (fun u (x : V × List Nat) => RelV x.1 u) its xs := each_of_vals rv fun x m u ru => ru
  have alk : PySem.W.AllAlike (xs.map fun x => pData x.2) := PySem.W.AllAlike.of fun b b' => by
    simp only [pData, PySem.W.alike]
    have e : ∀ p : List Nat, (p.map fun (n : Nat) => PyData.int (n : Int)) = (p.map fun (n : Nat) => (n : Int)).map .int := fun p => by simp [Function.comp_def]
    rw [e, e]; exact PySem.W.alike_ints _ _
  have srt : PySem.W.Sortable (xs.map fun x => pData x.2) := .inl fun d hd => by
    obtain ⟨x, m, rfl⟩ := List.mem_map.mp hd
    obtain ⟨ne, _⟩ := hx x m
    cases e : x.2 with
    | nil => exact absurd e ne
    | cons n p => exact ⟨_, _, rfl⟩
  refine PySem.W.sorted_data hl.isList ev er alk srt hz (fun b _ => ?_) fun out ho eo => ?_
  · have e : (pData b.2).depth = 1 := by
      have e1 : (b.2.map fun (n : Nat) => PyData.int (n : Int)) = (b.2.map fun (n : Nat) => (n : Int)).map .int := by simp [Function.comp_def]
      simp only [pData, PyData.depth]
      rw [e1, PySem.W.depth_ints]
    rw [e]; omega
  · rw [le_paths] at eo
    have hv := vals_of_each eo
    obtain ⟨ep, he'⟩ := PyProof.Rows.sortedAll_at s.heap its (List.toArray out)
    have hlen : ((xs.mergeSort fun x y => leP x.2 y.2).map (·.1)).length ≤ sizeLine := by
      rw [List.length_map, List.length_mergeSort]; exact hz
    exact ⟨.ref _, upd H (s.heap.objs.size + 1) (.lst _), I.laid (t' := s.toks) (fun _ _ => PyProof.Rows.sortedAll_old) (Nat.le_succ _) ⟨hlen, out, ep, hv, he'⟩, rfl, q _ (I.hok.fresh (Nat.le_succ _))⟩
/-! ### sorted(d) -/
theorem each_refs {R : Value → (Addr × List Nat) → Prop} : ∀ {xs : List (Addr × List Nat)}, (∀ x ∈ xs, R (Value.ref x.1) x) → PySem.W.EachIs R (xs.map fun x => Value.ref x.1) xs
  | [], _ => .nil
  | x :: xs, h => .cons (h x List.mem_cons_self) (each_refs fun y hy => h y (List.mem_cons_of_mem _ hy))
theorem refs_each : ∀ {xs : List (Addr × List Nat)} {us : List Value}, PySem.W.EachIs (fun u (x : Addr × List Nat) => u = Value.ref x.1) us xs → Vals (xs.map fun x => V.ref x.1) us
  | _, _, .nil => .nil
  | _, _, .cons a b => .cons (by rw [a]; rfl) (refs_each b)
/-- sorted(d), d a dict whose keys are paths: a new list of the keys themselves -/
def rSortD : List V → Hp → VK → Prop := fun vs H Q => ∃ (a : Addr) (kvs : List (List Key × V)) (ps : List (List Nat)), vs = [.ref a] ∧ Rd H a (.dT kvs) ∧ kvs.map (·.1) = ps.map pkey ∧ (∀ p ∈ ps, p ≠ []) ∧
  ∀ (xs : List (Addr × List Nat)) (p : Addr), H p = none → (∀ x ∈ xs, H x.1 = some (.tup (pvs x.2))) → (xs.map (·.2)).Perm ps → (xs.map (·.2)).Pairwise (fun a b => leP a b = true) → Q (.ref p) (upd H p (.lst (xs.map fun x => V.ref x.1)))
theorem zip_keys {H : Hp} {kvs : List (List Key × V)} {bs : List Addr} (h : IsKeys H kvs bs) : ∀ {ps : List (List Nat)}, kvs.map (·.1) = ps.map pkey → ∃ xs : List (Addr × List Nat), xs.map (·.1) = bs ∧ xs.map (·.2) = ps ∧ ∀ x ∈ xs, H x.1 = some (.tup (pvs x.2)) := by
  unfold IsKeys at h
  induction h with
  | nil =>
    intro ps e
    cases ps with
    | nil => exact ⟨[], rfl, rfl, fun x h => by cases h⟩
    | cons p ps => cases e
  | @cons kv b kvs bs hb t ih =>
    intro ps e
    cases ps with
    | nil => cases e
    | cons p ps =>
      rw [List.map_cons, List.map_cons] at e
      obtain ⟨e1, e2⟩ := List.cons.inj e
      obtain ⟨xs, h1, h2, h3⟩ := ih e2
      refine ⟨(b, p) :: xs, by rw [List.map_cons, h1], by rw [List.map_cons, h2], fun x hx => ?_⟩
      rcases List.mem_cons.mp hx with rfl | hx
      · rw [hb, e1, pkey_kV]
      · exact h3 x hx
/-- a dict's keys, collected one by one, are the keys' tuples in their order -/
theorem keys_got {P : Program} {wd : World} {arr : Array DictEntry} {ents : List (List Key × Addr × Value)} {got : Array Value} (at_ : ∀ j : Nat, arr[j]? = (ents[j]?).map (entryOfKey (tupleKind (mixKind P wd))))
    (sz : got.size = arr.size) (each : ∀ (j : Nat) (v : Value), got[j]? = some v → ∃ en : DictEntry, arr[j]? = some en ∧ v = en.key) : got.toList = ents.map fun x => Value.ref x.2.1 := by
  refine List.ext_getElem? fun j => ?_
  rw [List.getElem?_map, Array.getElem?_toList]
  have here := at_ j
  cases q : ents[j]? with
  | none =>
    rw [q] at here
    have out : arr.size ≤ j := Array.getElem?_eq_none_iff.mp here
    exact Array.getElem?_eq_none_iff.mpr (by omega)
  | some x =>
    rw [q] at here
    obtain ⟨lt, _⟩ := Array.getElem?_eq_some_iff.mp here
    have lt : j < got.size := by omega
    obtain ⟨en, g1, g2⟩ := each j got[j] (Array.getElem?_eq_getElem lt)
    rw [here] at g1
    cases g1
    rw [Array.getElem?_eq_getElem lt, g2]; rfl
theorem alike_paths (xs : List (Addr × List Nat)) : PySem.W.AllAlike (xs.map fun x => pData x.2) := PySem.W.AllAlike.of fun b b' => by
  simp only [pData, PySem.W.alike]
  have e : ∀ p : List Nat, (p.map fun (n : Nat) => PyData.int (n : Int)) = (p.map fun (n : Nat) => (n : Int)).map .int := fun p => by simp [Function.comp_def]
  rw [e, e]; exact PySem.W.alike_ints _ _
theorem deep_path (p : List Nat) : (pData p).depth = 1 := by
  have e1 : (p.map fun (n : Nat) => PyData.int (n : Int)) = (p.map fun (n : Nat) => (n : Int)).map .int := by simp [Function.comp_def]
  simp only [pData, PyData.depth]
  rw [e1, PySem.W.depth_ints]
abbrev refsL (xs : List (Addr × List Nat)) : List Value := xs.map fun x => Value.ref x.1
/-- a new list of such keys, put in order in its place -/
theorem sort_refs {P : Program} {wd : World} {A : Around} {Ex : Value → Shared → Prop} {s : Shared} {l : Addr} {xs : List (Addr × List Nat)} {Q : Value → Shared → Prop} (hob : s.heap.get? l = some (seqObj "list" (refsL xs).toArray 0))
    (rd : ∀ x ∈ xs, ∃ as, Reads (PySem.W.sortingHeap s.heap l (refsL xs)) (Value.ref x.1) (pData x.2) as) (ne : ∀ x ∈ xs, x.2 ≠ []) (few : xs.length ≤ sizeLine) (deep : A.units + 3 < cLine)
    (q : ∀ out : List Value, PySem.W.EachIs (fun u (x : Addr × List Nat) => u = Value.ref x.1) out (xs.mergeSort fun a b => leP a.2 b.2) → Q .none { s with heap := PyProof.Rows.sortedHeap s.heap l (refsL xs) out.toArray }) :
    wpAny (model P wd) A (call (.builtin "list.sort") [.ref l]) Q Ex s := by
  have er := each_refs (R := fun u x => ∃ as, Reads (PySem.W.sortingHeap s.heap l (refsL xs)) u (pData x.2) as) rd
  have ev := each_refs (R := fun u (x : Addr × List Nat) => u = Value.ref x.1) (xs := xs) fun _ _ => rfl
  have can : PySem.W.Sortable (xs.map fun x => pData x.2) := .inl fun d hd => by
    obtain ⟨x, m, rfl⟩ := List.mem_map.mp hd
    cases e : x.2 with
    | nil => exact absurd e (ne x m)
    | cons n p => exact ⟨_, _, rfl⟩
  have eo := PySem.W.sortVals_data false ev er (alike_paths xs)
  rw [le_paths] at eo
  have reads := PySem.W.each_map (R := fun v d => ∃ as, Reads (PySem.W.sortingHeap s.heap l (refsL xs)) v d as) (fun (x : Addr × List Nat) => pData x.2) er
  have srt : PySem.W.SortsAt P wd A.in1 { s with heap := PySem.W.sortingHeap s.heap l (refsL xs) } (PySem.W.dataKind (PySem.W.sortingHeap s.heap l (refsL xs)) (xs.map fun x => pData x.2)) (refsL xs) :=
    PySem.W.SortsAt.data (s := { s with heap := PySem.W.sortingHeap s.heap l (refsL xs) }) reads (alike_paths xs) can (PySem.W.bound_map fun b _ => by rw [deep_path]; show A.units + 1 + 1 < cLine; omega)
  exact wpAny_call_entry PyProof.Rows.slot_list_sort ⟨_, hob, rfl⟩ PyProof.Rows.entry_list_sort (PySem.W.list_sort_vals hob srt (by rw [List.length_map]; exact few) ⟨.none, rfl, q _ eo⟩) (PyProof.Rows.args_list_sort _)
theorem cr_sortD (hu : X.A.units + 64 < cLine) (hc : X.calm = true) : CallR X (.builtin "sorted") rSortD := by
  intro pn sh lo hp args vals Q I rel ⟨d, kvs, ps, ea, hd, hps, hne, q⟩
  subst ea
  obtain ⟨u, rfl, ru⟩ := rel.one
  cases ru
  have ok : ObjOk X.prog X.w hp sh.heap d (.dT kvs) := hd.ok I.hok
  obtain ⟨small, low, ents, kt, obj, arr, nx, there, exact_, isD, made, -⟩ := ok
  obtain ⟨xs, hx1, hx2, hx3⟩ := zip_keys (isKeys_of kt) hps
  have n1 := size_of_entries made
  have n2 : kvs.length = ents.length := Paired.length kt
  have n3 : xs.length = ents.length := by simpa using congrArg List.length hx1
  have few : xs.length ≤ sizeLine := by omega
  refine Calls.call_function_entry PyProof.Rows.kind_sorted PyProof.Rows.plain_sorted PyProof.Rows.entry_sorted
    (PyProof.Rows.args_sorted1 _) ?_
  unfold Builtin.«sorted»
  refine wpAny_bind (m := checkCount "sorted" 1 1 _)
    (wpAny_pure (wpAny_bind (PySem.W.kdu_collect (A := X.A.in1) (kdl_raw low exact_ isD) (I.ok.hd hc) there (by omega) fun h2 tk got kept items => ?_)))
  have eg : got.toList = refsL xs := by
    rw [keys_got (entry_at made) items.1 items.2]
    have := congrArg (List.map Value.ref) hx1
    rw [List.map_map, List.map_map] at this
    exact this.symm
  rw [eg]
  refine wpAny_bind (wpAny_newList ?_ (by rw [List.length_map]; exact few))
  have I2 : Inv X pn lo hp { sh with heap := h2, toks := tk } := I.kept kept
  have hob : (h2.push (seqObj "list" (refsL xs).toArray 0)).get? h2.objs.size = some (seqObj "list" (refsL xs).toArray 0) := Heap.get?_push_size _ rfl
  have far : ∀ b o, h2.get? b = some o → b ≠ h2.objs.size := fun b o e => Nat.ne_of_lt (Heap.lt_size e)
  show wpAny _ _ _ _ _ { sh with heap := h2.push (seqObj "list" (refsL xs).toArray 0), toks := tk }
  refine wpAny_bind (wpAny_holding (sort_refs (s := { sh with heap := h2.push (seqObj "list" (refsL xs).toArray 0), toks := tk }) hob (fun x m => ?_) (fun x m => hne x.2 (by rw [← hx2]; exact List.mem_map.mpr ⟨x, m, rfl⟩)) few (by show X.A.units + 1 + 3 < cLine; omega) fun out eo => ?_))
  · obtain ⟨as, ra⟩ := Dp.reads I _ _ _ (dp_path (SqT.of (hx3 x m))) (show RelV (.ref x.1) (Value.ref x.1) from rfl)
    exact ⟨as, PyProof.Rows.Reads.keeps (fun b o e => PySem.W.sortingHeap_old (far b o (kept b o e)) (Heap.get?_push_of_some _ (kept b o e))) ra⟩
  · have hv := refs_each eo
    have perm := List.mergeSort_perm xs (fun a b : Addr × List Nat => leP a.2 b.2)
    have rise := List.pairwise_mergeSort (le := fun x y : Addr × List Nat => leP x.2 y.2) (fun a b c h1 h2 => leP_trans h1 h2) (fun a b => leP_total a.2 b.2) xs
    generalize xs.mergeSort (fun a b : Addr × List Nat => leP a.2 b.2) = ys at hv perm rise
    obtain ⟨e', he'⟩ := PyProof.Rows.sortedHeap_at (vs := refsL xs) (out := out.toArray) hob
    have few2 : (ys.map fun x => V.ref x.1).length ≤ sizeLine := by rw [List.length_map, perm.length_eq]; exact few
    have stay : ∀ b o, h2.get? b = some o → (PyProof.Rows.sortedHeap (h2.push (seqObj "list" (refsL xs).toArray 0)) h2.objs.size (refsL xs) out.toArray).get? b = some o := fun b o e => by
      have e2 := Heap.get?_push_of_some (seqObj "list" (refsL xs).toArray 0) e
      exact (PyProof.Rows.sortedHeap_old (far b o e) (Heap.lt_size e2)).trans e2
    have new : ObjOk X.prog X.w (upd hp h2.objs.size (.lst (ys.map fun x => V.ref x.1))) _ h2.objs.size (.lst (ys.map fun x => V.ref x.1)) := ⟨few2, out, e', hv, he'⟩
    exact wpAny_pure ⟨_, rfl, .ref h2.objs.size, _, I2.laid (t' := tk) stay (Nat.le_refl _) new, rfl,
      q ys _ (I2.hok.fresh (Nat.le_refl _)) (fun x m => hx3 x (perm.mem_iff.mp m)) (by rw [← hx2]; exact perm.map _) (by rw [List.pairwise_map]; exact rise)⟩
/-! ### paths compared -/
theorem eqv_paths : ∀ p q : List Nat, PyData.eqv (pData p) (pData q) = decide (p = q) := by
  intro p q
  have e : ∀ p q : List Nat, PyData.eqvAll (p.map fun (n : Nat) => PyData.int (n : Int)) (q.map fun (n : Nat) => PyData.int (n : Int)) = decide (p = q) := by
    intro p
    induction p with
    | nil => intro q; cases q <;> simp [PyData.eqvAll]
    | cons a p ih => intro q; cases q with
      | nil => simp [PyData.eqvAll]
      | cons b q =>
        simp only [List.map_cons, PyData.eqvAll, ih]
        simp only [PyData.eqv, List.cons.injEq, Bool.decide_and]
        have e2 : ((a : Int) == (b : Int)) = decide (a = b) := by
          by_cases h : a = b
          · subst h; simp
          · have h2 : ¬ (a : Int) = b := fun z => h (Int.ofNat.inj z)
            simp [h, h2]
        rw [e2]
  simp only [pData, PyData.eqv]; exact e p q
/-! ### d.pop(k), d a dict with tuple keys, the key there -/
def rPopT1 : V → List V → Hp → VK → Prop := fun x xs H Q => ∃ (a : Addr) (kvs : List (List Key × V)) (k : List Key) (b : Addr) (v : V), x = .ref a ∧ xs = [.ref b] ∧
  H a = some (.dT kvs) ∧ H b = some (.tup (k.map kV)) ∧ valV kvs k = some v ∧ Q v (upd H a (.dT (dropK kvs k)))
theorem mt_popT1 (hu : X.A.units + 1 < cLine) : MtR X "dict.pop" rPopT1 := by
  intro pn sh lo hp obj args ov avs Q I ro ra ⟨a, kvs, k, b, v0, eo, ea, ha, hb, hv, q⟩
  subst eo
  subst ea
  cases ro
  obtain ⟨u, rfl, ru⟩ := vals1 ra
  cases ru
  obtain ⟨size, low, ents, rel, dict⟩ := dt_of I.hok ha
  have few : ents.length ≤ sizeLine := by have := Paired.length rel; omega
  have got := rel.val k
  rw [hv] at got
  cases at_ : atKey ents k with
  | none => rw [at_] at got; exact (show False from got).elim
  | some e =>
    rw [at_] at got
    refine call_pop_heap (knd := tupleKind (mixKind X.prog X.w)) (more := []) (hsz := few) (.inl rfl) (PySem.F.args_dict_pop_2 _ _) (tupleKind_room_in1 hu) (key_of I.hok hb) low dict at_ fun h2 left same => ?_
    obtain ⟨ob, arr, nx, there, a1, a2, a3, _, a4⟩ := left
    have kept : ∀ c ys, hp c = some (.tup ys) → upd hp a (.dT (dropK kvs k)) c = some (.tup ys) := fun c ys ec => by
      rw [upd_ne (ne_of ec ha (fun z => nomatch z))]; exact ec
    have new : ObjOk X.prog X.w (upd hp a (.dT (dropK kvs k))) h2 a (.dT (dropK kvs k)) := ⟨Nat.le_trans (dropK_le kvs k) size, low, _, (L2.DX.KT_drop k rel).keeps kept, ob, arr, nx, there, a1, a2, a3, a4⟩
    exact ⟨v0, _, d_write I (by rw [ha]; exact True.intro) same ⟨ob, there⟩ new, got, q⟩
end
end Wt

set_option Elab.async false
set_option linter.all false
set_option maxRecDepth 100000
set_option maxHeartbeats 2000000
/-! a dict of the module's top whose keys are whole numbers and whose values are defs -/
namespace Wt
open PySem PySem.Spec PyProof.Rows L2
abbrev EntOk (e : DictEntry) (p : Int × Addr) : Prop := (∃ t, e.key = .int p.1 t) ∧ e.hash = hashInt p.1 ∧ e.val = .ref p.2
structure KTab (K : PySem.W.Frag) (d : Addr) (tab : List (Int × Addr)) : Prop where
  ex : ∃ es n, K.lookup d = some ⟨.type "dict", none, .dict es n, #[]⟩ ∧ Paired EntOk es.toList tab
  low : (d == sysModules) = false
theorem find_tab {l : List DictEntry} {tab : List (Int × Addr)} (p : Paired EntOk l tab) (k : Int) : (l.find? fun e => Value.isInt k e.key).map (·.val) = (tab.lookup k).map Value.ref := by
  induction p with
  | nil => rfl
  | @cons e q l tab h t ih =>
    obtain ⟨⟨tk, hk⟩, _, hv⟩ := h
    rw [List.find?_cons, List.lookup_cons, hk]
    have e1 : Value.isInt k (.int q.1 tk) = (k == q.1) := by
      simp [Value.isInt]
      first | done | exact Bool.beq_comm | rw [Bool.eq_iff_iff]; simp; exact eq_comm
    rw [e1]
    cases z : k == q.1 with
    | true => simp [hv]
    | false => exact ih
theorem KTab.map {prog : Program} {w : World} {K : PySem.W.Frag} {d : Addr} {tab : List (Int × Addr)} {h : Heap} (D : KTab K d tab) (X : K.In h) : h.MapOf (intKind prog w) d (fun k => (tab.lookup k).map Value.ref) := by
  obtain ⟨⟨es, n, hl, p⟩, _⟩ := D
  refine ⟨_, es, n, X _ _ hl, ⟨rfl, rfl, rfl⟩, rfl, fun e he => ?_, fun k => ?_⟩
  · obtain ⟨i, hi⟩ := List.mem_iff_getElem?.mp (Array.mem_toList_iff.mpr he)
    obtain ⟨q, _, ⟨t, hk⟩, hh, _⟩ := Paired.get p hi
    exact ⟨q.1, by rw [hk]; exact intKind_is prog w q.1 t, hh⟩
  · have := find_tab p k
    unfold findBy
    obtain ⟨l⟩ := es
    rw [List.find?_toArray]; exact this
section
variable {X : Cx} {d : Addr} {tab : List (Int × Addr)}
theorem op_notIn_tab (D : KTab X.K d tab) : OpR X (compareOp .NotIn) (fun x y H Q => ∃ i, x = .int i ∧ y = .ref d ∧ Q (.bl (!(tab.lookup i).isSome)) H) := by
  intro pins s σ H x y v u Q I rx ry h
  obtain ⟨i, rfl, rfl, q⟩ := h
  obtain ⟨t, rfl⟩ := rx
  cases ry
  refine wpAny_notIn_of (intKind_is X.prog X.w i t) D.low (D.map I.kIn) ?_
  rw [Option.isSome_map]
  exact ⟨.bl _, H, I.tok _, rfl, q⟩
theorem op_in_tab (D : KTab X.K d tab) : OpR X (compareOp .In) (fun x y H Q => ∃ i, x = .int i ∧ y = .ref d ∧ Q (.bl (tab.lookup i).isSome) H) := by
  intro pins s σ H x y v u Q I rx ry h
  obtain ⟨i, rfl, rfl, q⟩ := h
  obtain ⟨t, rfl⟩ := rx
  cases ry
  refine wpAny_in_of (intKind_is X.prog X.w i t) D.low (D.map I.kIn) ?_
  rw [Option.isSome_map]
  exact ⟨.bl _, H, I.tok _, rfl, q⟩
def rIxTab (d : Addr) (tab : List (Int × Addr)) : R2 := fun x y H Q => ∃ i f, x = .ref d ∧ y = .int i ∧ tab.lookup i = some f ∧ Q (.ref f) H
theorem ix_tab (D : KTab X.K d tab) : IxR X (rIxTab d tab) := by
  intro vl sl pins s σ H x y v u Q I rx ry h hs
  obtain ⟨i, f, rfl, rfl, e, q⟩ := h
  obtain rfl : v = Value.ref d := rx
  obtain ⟨t, rfl⟩ := ry
  have hm : s.heap.MapOf (intKind X.prog X.w) d (fun k => (tab.lookup k).map Value.ref) := D.map I.kIn
  exact tail_any hm.typeIs slot_dict_getitem.lookup (wpAny_getItem_of (intKind_is X.prog X.w i t) hm (by rw [e]; rfl) ⟨.ref f, H, I.tok _, rfl, q⟩) hs
end
/-! ### what the head looks at -/
def entB (K : PySem.W.Frag) (e : DictEntry) (p : Int × Str) : Bool := match e.key, e.val with
  | .int j _, .ref a => decide (j = p.1) && (decide (e.hash = hashInt p.1) && decide (a = He.ga K p.2))
  | _, _ => false
def entsB (K : PySem.W.Frag) : List DictEntry → List (Int × Str) → Bool
  | [], [] => true
  | e :: es, p :: ps => entB K e p && entsB K es ps
  | _, _ => false
def tabB (K : PySem.W.Frag) (x : Str) (tab : List (Int × Str)) : Bool := match K.lookup (He.ga K x) with
  | some ⟨.type c, none, .dict es _, sl⟩ => decide (c = "dict") && (sl.isEmpty && (!(He.ga K x == sysModules) && entsB K es.toList tab))
  | _ => false
theorem entB_ok {K : PySem.W.Frag} {e : DictEntry} {p : Int × Str} (h : entB K e p = true) : EntOk e (p.1, He.ga K p.2) := by
  unfold entB at h
  split at h
  · rename_i j t a h1 h2
    obtain ⟨h3, h4⟩ := He.ba h
    obtain ⟨h5, h6⟩ := He.ba h4
    exact ⟨⟨t, by rw [h1, of_decide_eq_true h3]⟩, of_decide_eq_true h5, by rw [h2, of_decide_eq_true h6]⟩
  · cases h
theorem entsB_ok {K : PySem.W.Frag} : ∀ {es : List DictEntry} {ps : List (Int × Str)}, entsB K es ps = true → Paired EntOk es (ps.map fun p => (p.1, He.ga K p.2))
  | [], [], _ => .nil
  | [], _ :: _, h => by cases h
  | _ :: _, [], h => by cases h
  | e :: es, p :: ps, h => by
    obtain ⟨h1, h2⟩ := He.ba (show (entB K e p && entsB K es ps) = true from h)
    exact .cons (entB_ok h1) (entsB_ok h2)
theorem tabB_ok {K : PySem.W.Frag} {x : Str} {tab : List (Int × Str)} (h : tabB K x tab = true) : KTab K (He.ga K x) (tab.map fun p => (p.1, He.ga K p.2)) := by
  unfold tabB at h
  split at h
  · rename_i c es n sl q
    obtain ⟨h1, h2⟩ := He.ba h
    obtain ⟨h3, h4⟩ := He.ba h2
    obtain ⟨h5, h6⟩ := He.ba h4
    have e1 : c = "dict" := of_decide_eq_true h1
    have e2 : sl = #[] := Array.isEmpty_iff.mp h3
    subst e1 e2
    refine ⟨⟨es, n, q, entsB_ok h6⟩, ?_⟩
    cases y : He.ga K x == sysModules with
    | false => rfl
    | true => rw [y] at h5; cases h5
  · cases h
/-! ### what the head tells, of a list of addresses -/
def hookY (as : List Addr) (fa : List He.Fa) (fn : List He.DefD) (ex : PySem.W.Frag → Bool) : PySem.W.Hook where
  α := He.AlD × Bool
  obs := fun s => (He.obsD fa fn (He.frT s.heap.get? as), ex (He.frT s.heap.get? as))
  val := fun _ => (He.valD fn, true)
  says := fun _ h => ∃ K : PySem.W.Frag, K.In h ∧ He.SaysD fa fn K ∧ ex K = true
  of := fun _ _ e => ⟨_, He.frT_in, congrArg (fun z : He.AlD × Bool => z.1) e, congrArg (fun z : He.AlD × Bool => z.2) e⟩
  keeps := fun _ _ _ told kept => told.imp fun _ c => ⟨c.1.keeps kept, c.2⟩
end Wt

set_option Elab.async false
set_option linter.all false
namespace Wt
/-- what holds of a world between two calls: b bounds how many turns and sessions there are -/
structure Good (b : Nat) (s : Ag07.State) : Prop where
  srt : SrtN s.nodes
  pth : ∀ x ∈ s.nodes, Ag07.isPath 1 x.path = true
  cnt : s.nodes.length ≤ 20
  lts : s.letters.length ≤ 100
  sid : (s.sessions.map (·.sid)).Nodup
  opn : ∀ x ∈ s.sessions, 1 ≤ x.sid ∧ x.sid ≤ s.opened
  bnd : s.log.length + s.sessions.length ≤ b
theorem Good.mono {b c : Nat} {s : Ag07.State} (g : Good b s) (h : b ≤ c) : Good c s := ⟨g.srt, g.pth, g.cnt, g.lts, g.sid, g.opn, Nat.le_trans g.bnd h⟩
theorem path_ne {p : List Nat} (h : Ag07.isPath 1 p = true) : p ≠ [] := by
  intro e; subst e; simp [Ag07.isPath] at h
section
variable (s : Ag07.State) (l : List Ag07.Node) (e : List Ag07.Event)
theorem commit_sessions : (Ag07.commit s l e).sessions = s.sessions := by unfold Ag07.commit; split <;> rfl
theorem commit_life : (Ag07.commit s l e).life = s.life := by unfold Ag07.commit; split <;> rfl
theorem commit_time : (Ag07.commit s l e).time = s.time := by unfold Ag07.commit; split <;> rfl
theorem commit_opened : (Ag07.commit s l e).opened = s.opened := by unfold Ag07.commit; split <;> rfl
theorem commit_base : (Ag07.commit s l e).base = s.base := by unfold Ag07.commit; split <;> rfl
theorem commit_clients : (Ag07.commit s l e).clients = s.clients := by unfold Ag07.commit; split <;> rfl
theorem commit_nodes : (Ag07.commit s l e).nodes = s.nodes ∨ (Ag07.commit s l e).nodes = l := by unfold Ag07.commit; split; exact .inl rfl; exact .inr rfl
theorem commit_log : (Ag07.commit s l e).log.length ≤ s.log.length + 1 := by
  unfold Ag07.commit; split
  · omega
  · show (s.log ++ [e]).length ≤ _; simp
theorem commit_lts (h : s.letters.length ≤ 100) : (Ag07.commit s l e).letters.length ≤ 100 := by
  unfold Ag07.commit; split
  · exact h
  · show (List.take Ag07.ROOM _).length ≤ 100
    rw [List.length_take]; exact Nat.min_le_left _ _
end
theorem over_sessions (s : Ag07.State) (n : Nat) : (Ag07.over s n).sessions = s.sessions.filter fun x => x.sid != n := by unfold Ag07.over; exact commit_sessions _ _ _
theorem over_life (s : Ag07.State) (n : Nat) : (Ag07.over s n).life = s.life := by unfold Ag07.over; exact commit_life _ _ _
theorem over_time (s : Ag07.State) (n : Nat) : (Ag07.over s n).time = s.time := by unfold Ag07.over; exact commit_time _ _ _
theorem over_opened (s : Ag07.State) (n : Nat) : (Ag07.over s n).opened = s.opened := by unfold Ag07.over; exact commit_opened _ _ _
theorem filter_short {l : List Ag07.Session} {n : Nat} (h : (l.any fun x => x.sid == n) = true) : (l.filter fun x => x.sid != n).length + 1 ≤ l.length := by
  induction l with
  | nil => simp at h
  | cons x l ih =>
    by_cases e : x.sid = n
    · rw [List.filter_cons_of_neg (by simp [e])]
      have := List.length_filter_le (fun x : Ag07.Session => x.sid != n) l
      simp; omega
    · rw [List.filter_cons_of_pos (by simp [e])]
      have : (l.any fun x => x.sid == n) = true := by
        rw [List.any_cons] at h
        simpa [e] using h
      have := ih this
      simp; omega
theorem Good.over {b : Nat} {s : Ag07.State} (g : Good b s) {n : Nat} (h : Ag07.lasts s n = true) : Good b (Ag07.over s n) := by
  have hn : (Ag07.over s n).nodes = s.nodes ∨ (Ag07.over s n).nodes = s.nodes.filter fun x => x.holder != n := by unfold Ag07.over; exact commit_nodes _ _ _
  refine ⟨?_, ?_, ?_, ?_, ?_, ?_, ?_⟩
  · rcases hn with e | e <;> rw [e]
    · exact g.srt
    · exact g.srt.filter _
  · rcases hn with e | e <;> rw [e]
    · exact g.pth
    · exact fun x hx => g.pth x (List.mem_filter.mp hx).1
  · rcases hn with e | e <;> rw [e]
    · exact g.cnt
    · exact Nat.le_trans (List.length_filter_le _ _) g.cnt
  · unfold Ag07.over; exact commit_lts _ _ _ g.lts
  · rw [over_sessions]; exact g.sid.sublist (List.filter_sublist.map _)
  · rw [over_sessions, over_opened]; exact fun x hx => g.opn x (List.mem_filter.mp hx).1
  · rw [over_sessions]
    have h1 : (Ag07.over s n).log.length ≤ s.log.length + 1 := by unfold Ag07.over; exact commit_log _ _ _
    have h2 := filter_short (l := s.sessions) (n := n) h
    have := g.bnd
    omega
/-- sessions over, one behind the other -/
def overs (s : Ag07.State) (l : List Ag07.Session) : Ag07.State := l.foldl (fun u x => Ag07.over u x.sid) s
theorem overs_snoc (s : Ag07.State) (l : List Ag07.Session) (x : Ag07.Session) : overs s (l ++ [x]) = Ag07.over (overs s l) x.sid := by unfold overs; rw [List.foldl_append]; rfl
theorem overs_sessions (s : Ag07.State) : ∀ l : List Ag07.Session, (overs s l).sessions = s.sessions.filter fun y => l.all fun x => y.sid != x.sid := by
  intro l
  induction l generalizing s with
  | nil => unfold overs; show s.sessions = s.sessions.filter fun _ => true; rw [List.filter_eq_self.mpr (fun _ _ => rfl)]
  | cons x l ih =>
    show (overs (Ag07.over s x.sid) l).sessions = _
    rw [ih, over_sessions, List.filter_filter]
    congr 1; funext y; rw [List.all_cons, Bool.and_comm]
theorem overs_life (s : Ag07.State) : ∀ l : List Ag07.Session, (overs s l).life = s.life := by
  intro l; induction l generalizing s with
  | nil => rfl
  | cons x l ih => show (overs (Ag07.over s x.sid) l).life = _; rw [ih, over_life]
theorem overs_time (s : Ag07.State) : ∀ l : List Ag07.Session, (overs s l).time = s.time := by
  intro l; induction l generalizing s with
  | nil => rfl
  | cons x l ih => show (overs (Ag07.over s x.sid) l).time = _; rw [ih, over_time]
theorem nodup_ix {l : List Nat} (h : l.Nodup) : ∀ {i j : Nat} {x : Nat}, l[i]? = some x → l[j]? = some x → i = j := by
  intro i j x h1 h2
  obtain ⟨a, b⟩ := List.getElem?_eq_some_iff.mp h1
  obtain ⟨c, d⟩ := List.getElem?_eq_some_iff.mp h2
  exact (List.getElem_inj h).mp (b.trans d.symm)
/-- who is not over yet, still lasts -/
theorem overs_at {s : Ag07.State} (nd : (s.sessions.map (·.sid)).Nodup) {p : Ag07.Session → Bool} {j : Nat} {x : Ag07.Session} (hx : s.sessions[j]? = some x) : x ∈ (overs s ((s.sessions.take j).filter p)).sessions := by
  rw [overs_sessions]
  refine List.mem_filter.mpr ⟨List.mem_of_getElem? hx, ?_⟩
  rw [List.all_eq_true]
  intro y hy
  have hy := (List.mem_filter.mp hy).1
  simp only [bne_iff_ne, ne_eq]
  intro e
  obtain ⟨m, hm⟩ := List.mem_iff_getElem?.mp hy
  rw [List.getElem?_take] at hm
  split at hm
  · rename_i hlt
    have h1 : (s.sessions.map (·.sid))[m]? = some y.sid := by rw [List.getElem?_map, hm]; rfl
    have h2 : (s.sessions.map (·.sid))[j]? = some y.sid := by rw [List.getElem?_map, hx, ← e]; rfl
    have := nodup_ix nd h1 h2
    omega
  · cases hm
theorem lasts_mem {s : Ag07.State} {x : Ag07.Session} (h : x ∈ s.sessions) : Ag07.lasts s x.sid = true := by
  unfold Ag07.lasts; exact List.any_eq_true.mpr ⟨x, h, by simp⟩
theorem find_sid {l : List Ag07.Session} (nd : (l.map (·.sid)).Nodup) {x : Ag07.Session} (h : x ∈ l) : l.find? (fun y => y.sid == x.sid) = some x := by
  induction l with
  | nil => cases h
  | cons y l ih =>
    rw [List.map_cons, List.nodup_cons] at nd
    rcases List.mem_cons.mp h with rfl | h
    · simp
    · have : ¬ y.sid = x.sid := fun z => nd.1 (by rw [z]; exact List.mem_map.mpr ⟨x, h, rfl⟩)
      rw [List.find?_cons]
      have e : (y.sid == x.sid) = false := by simp [this]
      rw [e]; exact ih nd.2 h
theorem Good.overs {b : Nat} {s : Ag07.State} (g : Good b s) {p : Ag07.Session → Bool} : ∀ j, Good b (overs s ((s.sessions.take j).filter p))
  | 0 => g
  | j + 1 => by
    have ih := Good.overs g (p := p) j
    cases e : s.sessions[j]? with
    | none =>
      have : s.sessions.take (j + 1) = s.sessions.take j := by rw [List.take_succ, e]; simp
      rw [this]; exact ih
    | some x =>
      have : s.sessions.take (j + 1) = s.sessions.take j ++ [x] := by rw [List.take_succ, e]; rfl
      rw [this, List.filter_append, List.filter_cons, List.filter_nil]
      split
      · rw [overs_snoc]; exact ih.over (lasts_mem (overs_at g.sid e))
      · rw [List.append_nil]; exact ih
end Wt

set_option Elab.async false
set_option linter.all false
namespace Wt
theorem any_perm {l m : List Ag07.Node} (h : l.Perm m) (p : Ag07.Node → Bool) : l.any p = m.any p := by
  rw [Bool.eq_iff_iff, List.any_eq_true, List.any_eq_true]
  exact ⟨fun ⟨x, hx, e⟩ => ⟨x, h.mem_iff.mp hx, e⟩, fun ⟨x, hx, e⟩ => ⟨x, h.mem_iff.mpr hx, e⟩⟩
theorem why_perm {l m : List Ag07.Node} (h : l.Perm m) (s : SrtN m) (st : Ag07.State) (o : Ag07.Order) : Ag07.why st l o = Ag07.why st m o := by
  unfold Ag07.why
  rw [find_perm h s o.path, find_perm h s o.path.dropLast, h.length_eq, any_perm h]
/-- the nodes while orders are done -/
structure GoodN (l : List Ag07.Node) : Prop where
  srt : SrtN l
  pth : ∀ x ∈ l, Ag07.isPath 1 x.path = true
  cnt : l.length ≤ 20
theorem Good.n {b : Nat} {s : Ag07.State} (g : Good b s) : GoodN s.nodes := ⟨g.srt, g.pth, g.cnt⟩
theorem putIn_len_old {n : Ag07.Node} {l : List Ag07.Node} (s : SrtN l) (h : ∃ m ∈ l, m.path = n.path) : (Ag07.putIn n l).length = l.length := by rw [putIn_old s h, List.length_map]
theorem putIn_len_new {n : Ag07.Node} {l : List Ag07.Node} (h : ∀ m ∈ l, m.path ≠ n.path) : (Ag07.putIn n l).length = l.length + 1 := by rw [(putIn_new h).length_eq]; rfl
theorem doOne_good {st : Ag07.State} {l : List Ag07.Node} {o : Ag07.Order} (t : Nat) (g : GoodN l) (h : Ag07.why st l o = 0) (hp : Ag07.isPath 1 o.path = true) : GoodN (Ag07.doOne t l o).1 := by
  unfold Ag07.doOne
  split
  · rename_i hk
    have hf : Ag07.find l o.path = none := by
      cases e : Ag07.find l o.path with
      | none => rfl
      | some n => unfold Ag07.why at h; rw [hk, e] at h; cases h
    have hlen : l.length < 20 := by
      unfold Ag07.why at h
      rw [hk, hf] at h
      simp only [] at h
      by_cases h7 : o.holder ≠ 0 ∧ Ag07.lasts st o.holder = false
      · rw [if_pos h7] at h; cases h
      · rw [if_neg h7] at h
        by_cases h8 : 20 ≤ l.length
        · rw [if_pos (show Ag07.NODES ≤ l.length from h8)] at h; cases h
        · omega
    refine ⟨putIn_srt _ g.srt, fun x hx => ?_, ?_⟩
    · rcases putIn_mem hx with rfl | hx
      · exact hp
      · exact g.pth x hx
    · exact Nat.le_trans (Nat.le_of_eq (putIn_len_new (fun m hm => find_none.mp hf m hm))) (by omega)
  · split
    · exact g
    · rename_i n hf
      obtain ⟨hm, hpn⟩ := find_mem hf
      refine ⟨putIn_srt _ g.srt, fun x hx => ?_, ?_⟩
      · rcases putIn_mem hx with rfl | hx
        · exact g.pth n hm
        · exact g.pth x hx
      · exact Nat.le_trans (Nat.le_of_eq (putIn_len_old (n := { n with value := o.value, version := n.version + 1, changed := t }) g.srt ⟨n, hm, rfl⟩)) g.cnt
  · exact ⟨drop_srt _ g.srt, fun x hx => g.pth x (List.mem_filter.mp hx).1, Nat.le_trans (List.length_filter_le _ _) g.cnt⟩
  · exact g
theorem doOne_none {st : Ag07.State} {t : Nat} {l : List Ag07.Node} {o : Ag07.Order} (h : (Ag07.doOne t l o).2 = []) : (Ag07.doOne t l o).1 = l := by
  unfold Ag07.doOne at h ⊢
  split at h
  · cases h
  · split at h
    · rename_i e; simp only [e]
    · cases h
  · cases h
  · rfl
theorem doOne_len (t : Nat) (l : List Ag07.Node) (o : Ag07.Order) : (Ag07.doOne t l o).2.length ≤ 1 := by
  unfold Ag07.doOne
  split
  · simp
  · split <;> simp
  · simp
  · simp
end Wt

set_option Elab.async false
set_option linter.all false
namespace Wt
/-- a call on a world: what stands, what's answered -/
def stp (s : Ag07.State) (c : Ag07.Call) : Ag07.State × List Int := ((Ag07.step (some s) c).1.getD s, (Ag07.step (some s) c).2)
/-- what Good asks of, but the bound, is as it was, or alike -/
theorem Good.same {b : Nat} {s t : Ag07.State} (g : Good b s) (h1 : t.nodes = s.nodes) (h2 : t.letters.length ≤ 100) (h3 : t.sessions = s.sessions) (h4 : t.opened = s.opened) (h5 : t.log = s.log) : Good b t :=
  ⟨by rw [h1]; exact g.srt, by rw [h1]; exact g.pth, by rw [h1]; exact g.cnt, h2, by rw [h3]; exact g.sid, by rw [h3, h4]; exact g.opn, by rw [h3, h5]; exact g.bnd⟩
theorem Good.tick {b : Nat} {s : Ag07.State} (g : Good b s) (t : Nat) : Good b (Ag07.tick s t) := by
  have g1 : Good b { s with time := max s.time t } := g.same rfl g.lts rfl rfl rfl
  have e : Ag07.tick s t = Wt.overs { s with time := max s.time t } (s.sessions.filter fun x => decide (x.seen + s.life < max s.time t)) := rfl
  rw [e]
  have := Good.overs g1 (p := fun x => decide (x.seen + s.life < max s.time t)) s.sessions.length
  rw [show ({ s with time := max s.time t } : Ag07.State).sessions.take s.sessions.length = s.sessions from List.take_length] at this
  exact this
theorem doAll_good {s : Ag07.State} {t : Nat} : ∀ {os : List Ag07.Order} {i : Nat} {l : List Ag07.Node} {y : List Ag07.Node × List Ag07.Event}, GoodN l → (∀ o ∈ os, Ag07.isPath 1 o.path = true) → Ag07.doAll s t i l os = .inr y → GoodN y.1
  | [], i, l, y, g, _, h => by
    have : (Sum.inr (l, []) : Sum (Nat × Nat) (List Ag07.Node × List Ag07.Event)) = .inr y := h
    cases this; exact g
  | o :: os, i, l, y, g, hp, h => by
    unfold Ag07.doAll at h
    split at h
    · cases h
    · rename_i hw
      have hw : Ag07.why s l o = 0 := Classical.not_not.mp hw
      simp only at h
      split at h
      · cases h
      · rename_i z hz
        have hy : y = (z.1, (Ag07.doOne t l o).2 ++ z.2) := (Sum.inr.inj h).symm
        rw [hy]
        exact doAll_good (y := z) (doOne_good t g hw (hp o List.mem_cons_self)) (fun o' h' => hp o' (List.mem_cons_of_mem _ h')) hz
theorem orderOf_path {r : List Nat} {o : Ag07.Order} (h : Ag07.orderOf r = some o) : Ag07.isPath 1 o.path = true := by
  unfold Ag07.orderOf at h
  split at h
  · split at h
    · cases h
    · rename_i hn
      cases h
      cases e : Ag07.isPath 1 _ with
      | true => rfl
      | false => exact absurd (.inr (.inr e)) hn
  · cases h
theorem Good.commit {b : Nat} {s : Ag07.State} (g : Good b s) {l : List Ag07.Node} (gl : GoodN l) (e : List Ag07.Event) : Good (b + 1) (Ag07.commit s l e) := by
  have hn := commit_nodes s l e
  refine ⟨?_, ?_, ?_, commit_lts _ _ _ g.lts, by rw [commit_sessions]; exact g.sid, by rw [commit_sessions, commit_opened]; exact g.opn, ?_⟩
  · rcases hn with e | e <;> rw [e]
    · exact g.srt
    · exact gl.srt
  · rcases hn with e | e <;> rw [e]
    · exact g.pth
    · exact gl.pth
  · rcases hn with e | e <;> rw [e]
    · exact g.cnt
    · exact gl.cnt
  · rw [commit_sessions]
    have := commit_log s l e
    have := g.bnd
    omega
theorem new_good (life : Nat) : Good 0 ⟨life, 0, [], [], 0, 0, [], [], List.replicate Ag07.CLIENTS ⟨0, [], none, 0, [], 0, 0⟩, []⟩ :=
  ⟨List.Pairwise.nil, (fun _ h => by cases h), Nat.zero_le _, Nat.zero_le _, List.nodup_nil, (fun _ h => by cases h), Nat.le_refl _⟩
/-- the calls of the first nine points keep it -/
theorem Good.step1 {b : Nat} {s : Ag07.State} (g : Good b s) : ∀ c : Ag07.Call, (match c with | .ask _ => False | .compact _ => False | .take _ => False | .keep _ => False | .lose _ => False | _ => True) → Good (b + 1) (stp s c).1 := by
  intro c hc
  have g1 : Good (b + 1) s := g.mono (Nat.le_succ _)
  cases c with
  | begin_ n =>
    unfold stp; simp only [Ag07.step]
    split
    · exact g1
    · exact (new_good n).mono (Nat.zero_le _)
  | open_ =>
    show Good (b + 1) { s with opened := s.opened + 1, sessions := s.sessions ++ [⟨s.opened + 1, s.time⟩] }
    refine ⟨g.srt, g.pth, g.cnt, g.lts, ?_, ?_, ?_⟩
    · show ((s.sessions ++ [(⟨s.opened + 1, s.time⟩ : Ag07.Session)]).map fun x => x.sid).Nodup
      rw [List.map_append, List.nodup_append]
      refine ⟨g.sid, by simp, ?_⟩
      intro a ha b hb e
      obtain ⟨x, hx, rfl⟩ := List.mem_map.mp ha
      have := (g.opn x hx).2
      simp at hb; omega
    · intro x hx
      rcases List.mem_append.mp hx with hx | hx
      · have := g.opn x hx; exact ⟨this.1, Nat.le_succ_of_le this.2⟩
      · rw [List.mem_singleton.mp hx]; exact ⟨Nat.succ_le_succ (Nat.zero_le _), Nat.le_refl _⟩
    · show s.log.length + (s.sessions ++ [_]).length ≤ b + 1
      rw [List.length_append]; have := g.bnd; simp; omega
  | close n =>
    unfold stp; simp only [Ag07.step]
    cases h : Ag07.lasts s n
    · exact g1
    · exact (g.over h).mono (Nat.le_succ _)
  | touch n =>
    unfold stp; simp only [Ag07.step]
    cases h : Ag07.lasts s n
    · exact g1
    · have em : (s.sessions.map fun (y : Ag07.Session) => if y.sid = n then { y with seen := s.time } else y).map (·.sid) = s.sessions.map (·.sid) := by
        rw [List.map_map]; apply List.map_congr_left; intro x _
        show (if x.sid = n then { x with seen := s.time } else x).sid = x.sid
        split <;> rfl
      show Good (b + 1) { s with sessions := s.sessions.map fun (y : Ag07.Session) => if y.sid = n then { y with seen := s.time } else y }
      refine ⟨g.srt, g.pth, g.cnt, g.lts, ?_, ?_, ?_⟩
      · exact (congrArg List.Nodup em).mpr g.sid
      · intro x hx
        obtain ⟨y, hy, rfl⟩ := List.mem_map.mp hx
        have := g.opn y hy
        show 1 ≤ (if y.sid = n then _ else _ : Ag07.Session).sid ∧ (if y.sid = n then _ else _ : Ag07.Session).sid ≤ s.opened
        split <;> exact this
      · show s.log.length + (s.sessions.map _).length ≤ b + 1
        rw [List.length_map]; have := g.bnd; omega
  | tick t =>
    unfold stp; simp only [Ag07.step]
    split
    · exact g1
    · exact (g.tick t).mono (Nat.le_succ _)
  | together l =>
    unfold stp; simp only [Ag07.step]
    split
    · exact g1
    · cases e : Ag07.doAll s (Ag07.turn s + 1) 0 s.nodes (l.filterMap Ag07.orderOf) with
      | inl x => exact g1
      | inr y =>
        refine g.commit (doAll_good g.n (fun o ho => ?_) e) _
        obtain ⟨r, _, hr⟩ := List.mem_filterMap.mp ho
        exact orderOf_path hr
  | get p => exact g1
  | list p => exact g1
  | watch i p =>
    unfold stp; simp only [Ag07.step]
    split
    · exact g1
    · refine g1.same rfl ?_ rfl rfl rfl
      show (List.take Ag07.ROOM _).length ≤ 100
      rw [List.length_take]; exact Nat.min_le_left _ _
  | ask i => exact hc.elim
  | compact t => exact hc.elim
  | take k => exact hc.elim
  | keep k => exact hc.elim
  | lose k => exact hc.elim
  | letters => exact g1
  | client i => exact g1
  | house => exact g1
  | log t => exact g1
theorem step_some (s : Ag07.State) (c : Ag07.Call) : ∃ s' a, Ag07.step (some s) c = (some s', a) := by
  cases c <;> simp only [Ag07.step]
  all_goals first
    | exact ⟨_, _, rfl⟩
    | (split <;> first
        | exact ⟨_, _, rfl⟩
        | (split <;> first
            | exact ⟨_, _, rfl⟩
            | (split <;> exact ⟨_, _, rfl⟩)))
theorem stp_eq (s : Ag07.State) (c : Ag07.Call) : Ag07.step (some s) c = (some (stp s c).1, (stp s c).2) := by
  obtain ⟨s', a, h⟩ := step_some s c
  unfold stp; rw [h]; rfl
end Wt

set_option Elab.async false
set_option linter.all false
namespace Wt
/-! ### the flat list, read -/
abbrev RC := Int × List Int × List (List Int)
def flatRows (rows : List (List Int)) : List Int := rows.flatMap fun r => (r.length : Int) :: r
def flatCall (x : RC) : List Int := x.1 :: (x.2.1.length : Int) :: (x.2.1 ++ (x.2.2.length : Int) :: flatRows x.2.2)
def toCall (x : RC) : List (List Int) := (x.1 :: x.2.1) :: x.2.2
theorem row_flat {l r t : List Int} (h : PyFlat.row l = some (r, t)) : l = (r.length : Int) :: (r ++ t) := by
  cases l with
  | nil => cases h
  | cons n l =>
    simp only [PyFlat.row] at h
    split at h
    · rename_i hc
      injection h with h
      injection h with h1 h2
      subst h1 h2
      rw [List.take_append_drop, List.length_take, Nat.min_eq_left hc.2, Int.toNat_of_nonneg hc.1]
    · cases h
theorem rows_flat : ∀ {k : Nat} {l : List Int} {rs : List (List Int)} {t : List Int}, PyFlat.rows k l = some (rs, t) → l = flatRows rs ++ t ∧ rs.length = k
  | 0, l, rs, t, h => by
    unfold PyFlat.rows at h
    injection h with h
    injection h with h1 h2
    subst h1 h2
    exact ⟨rfl, rfl⟩
  | k + 1, l, rs, t, h => by
    unfold PyFlat.rows at h
    split at h
    · cases h
    · rename_i x s hx
      split at h
      · cases h
      · rename_i xs t' hxs
        injection h with h
        injection h with h1 h2
        subst h1 h2
        obtain ⟨e1, e2⟩ := rows_flat hxs
        refine ⟨?_, by simp [e2]⟩
        rw [row_flat hx, e1]
        simp [flatRows]
theorem call_flat {l : List Int} {c : List (List Int)} {t : List Int} (h : PyWide.call l = some (c, t)) : ∃ x : RC, c = toCall x ∧ l = flatCall x ++ t := by
  cases l with
  | nil => cases h
  | cons p r =>
    simp only [PyWide.call] at h
    split at h
    · cases h
    · cases h
    · rename_i ns k t1 hrow
      split at h
      · rename_i hk
        split at h
        · cases h
        · rename_i xs u hrows
          injection h with h
          injection h with h1 h2
          subst h1 h2
          obtain ⟨e1, e2⟩ := rows_flat hrows
          refine ⟨(p, ns, xs), rfl, ?_⟩
          rw [row_flat hrow, e1]
          have : k = (xs.length : Int) := by rw [e2, Int.toNat_of_nonneg hk]
          rw [this]
          simp [flatCall]
      · cases h
theorem calls_flat : ∀ {f : Nat} {l : List Int} {cs : List (List (List Int))}, PyWide.calls f l = some cs → ∃ xs : List RC, cs = xs.map toCall ∧ l = xs.flatMap flatCall
  | f, [], cs, h => by
    have : cs = [] := by
      unfold PyWide.calls at h
      cases h; rfl
    exact ⟨[], by rw [this]; rfl, rfl⟩
  | 0, p :: r, cs, h => by unfold PyWide.calls at h; cases h
  | f + 1, p :: r, cs, h => by
    unfold PyWide.calls at h
    split at h
    · cases h
    · rename_i c t hc
      split at h
      · cases h
      · rename_i cs' hcs
        injection h with h
        subst h
        obtain ⟨x, e1, e2⟩ := call_flat hc
        obtain ⟨xs, e3, e4⟩ := calls_flat hcs
        exact ⟨x :: xs, by rw [e1, e3]; rfl, by rw [e2, e4]; rfl⟩
/-! ### a machine, played -/
abbrev stepN := Ag07Neutral.step
def runN (s : Option Ag07.State) (cs : List (List (List Int))) : Option Ag07.State := cs.foldl (fun s c => (stepN s c).1) s
theorem played_snoc (s : Option Ag07.State) (cs : List (List (List Int))) (c : List (List Int)) : PyFlat.played stepN s (cs ++ [c]) = PyFlat.played stepN s cs ++ [(stepN (runN s cs) c).2] := by
  induction cs generalizing s with
  | nil => rfl
  | cons d cs ih =>
    show (stepN s d).2 :: PyFlat.played stepN (stepN s d).1 (cs ++ [c]) = _
    rw [ih]; rfl
theorem runN_snoc (s : Option Ag07.State) (cs : List (List (List Int))) (c : List (List Int)) : runN s (cs ++ [c]) = (stepN (runN s cs) c).1 := by
  unfold runN; rw [List.foldl_append]; rfl
theorem told_snoc (l : List (List Int)) (a : List Int) : PyFlat.told (l ++ [a]) = PyFlat.told l ++ ((a.length : Int) :: a) := by
  unfold PyFlat.told; rw [List.flatMap_append]; simp
theorem told_take (s : Option Ag07.State) (cs : List (List (List Int))) (j : Nat) : (PyFlat.told (PyFlat.played stepN s (cs.take j))).length ≤ (PyFlat.told (PyFlat.played stepN s cs)).length := by
  induction cs generalizing s j with
  | nil => simp
  | cons c cs ih =>
    cases j with
    | zero => simp [PyFlat.played, PyFlat.told]
    | succ j =>
      show (PyFlat.told ((stepN s c).2 :: PyFlat.played stepN (stepN s c).1 (cs.take j))).length ≤ (PyFlat.told ((stepN s c).2 :: PyFlat.played stepN (stepN s c).1 cs)).length
      have := ih (stepN s c).1 j
      unfold PyFlat.told at this ⊢
      rw [List.flatMap_cons, List.flatMap_cons, List.length_append, List.length_append]
      omega
end Wt

set_option Elab.async false
set_option linter.all false
namespace Wt
/-! ### copies -/
abbrev Pr := List Nat × Nat
def SrtP (l : List Pr) : Prop := l.Pairwise fun a b => a.1 < b.1
theorem SrtP.filter {l : List Pr} (h : SrtP l) (p : Pr → Bool) : SrtP (l.filter p) := List.Pairwise.filter p h
theorem putPair_mem {p : List Nat} {v : Nat} {m : Pr} : ∀ {l : List Pr}, m ∈ Ag07.putPair p v l → m = (p, v) ∨ m ∈ l
  | [], h => by simp [Ag07.putPair] at h; exact .inl h
  | x :: l, h => by
    unfold Ag07.putPair at h
    split at h
    · rcases List.mem_cons.mp h with h | h
      · exact .inl h
      · exact .inr (List.mem_cons_of_mem _ h)
    · split at h
      · rcases List.mem_cons.mp h with h | h
        · exact .inl h
        · exact .inr h
      · rcases List.mem_cons.mp h with h | h
        · exact .inr (by rw [h]; exact List.mem_cons_self)
        · exact (putPair_mem h).imp id (List.mem_cons_of_mem _)
theorem putPair_len {p : List Nat} {v : Nat} : ∀ {l : List Pr}, (Ag07.putPair p v l).length ≤ l.length + 1
  | [] => by simp [Ag07.putPair]
  | x :: l => by
    unfold Ag07.putPair
    split
    · simp
    · split
      · simp
      · have := putPair_len (p := p) (v := v) (l := l); simp; omega
theorem putPair_srt (p : List Nat) (v : Nat) : ∀ {l : List Pr}, SrtP l → SrtP (Ag07.putPair p v l)
  | [], _ => by simp [Ag07.putPair, SrtP]
  | x :: l, h => by
    rw [SrtP, List.pairwise_cons] at h
    unfold Ag07.putPair
    split
    · rename_i e
      rw [SrtP, List.pairwise_cons]
      exact ⟨fun b hb => by have := h.1 b hb; rw [e] at this; exact this, h.2⟩
    · rename_i ne
      split
      · rename_i ha
        rw [ahead_eq, decide_eq_true_eq] at ha
        rw [SrtP, List.pairwise_cons, List.pairwise_cons]
        refine ⟨fun b hb => ?_, h.1, h.2⟩
        rcases List.mem_cons.mp hb with rfl | hb
        · exact ha
        · exact List.lt_trans ha (h.1 b hb)
      · rename_i ha
        rw [ahead_eq, decide_eq_true_eq] at ha
        rw [SrtP, List.pairwise_cons]
        refine ⟨fun b hb => ?_, putPair_srt p v h.2⟩
        rcases putPair_mem hb with rfl | hb
        · show x.1 < p
          rcases List.le_iff_lt_or_eq.mp (List.not_lt.mp ha) with z | z
          · exact z
          · exact absurd z ne
        · exact h.1 b hb
/-! ### what else holds of a world -/
def EvOk (x : Ag07.Event) : Prop := Ag07.isPath 1 x.path = true ∧ x.what ≤ 2
def EvsOk (e : List Ag07.Event) : Prop := e.length ≤ 20 ∧ ∀ x ∈ e, EvOk x
structure LetOk (x : Ag07.Letter) : Prop where
  kind : x.kind ≤ 2
  cli : x.client < 3
  pth : Ag07.isPath 0 x.path = true
  evs : EvsOk x.events
  cnt : x.nodes.length ≤ 20
  srt : SrtP x.nodes
  nds : ∀ y ∈ x.nodes, Ag07.isPath 1 y.1 = true
  k0 : x.kind = 0 → x.turn = 0 ∧ x.events = [] ∧ x.nodes = []
  k1 : x.kind = 1 → x.path = [] ∧ x.nodes = [] ∧ ∃ a, x.after = some a
  k2 : x.kind = 2 → x.path = [] ∧ x.after = none ∧ x.events = []
structure CliOk (b : Nat) (c : Ag07.Client) : Prop where
  srt : SrtP c.copy
  cnt : c.copy.length ≤ 20 * (b + 1)
  nds : ∀ y ∈ c.copy, Ag07.isPath 1 y.1 = true
  pth : Ag07.isPath 0 c.path = true
theorem CliOk.mono {b c : Nat} {x : Ag07.Client} (h : CliOk b x) (le : b ≤ c) : CliOk c x := ⟨h.srt, by have := h.cnt; omega, h.nds, h.pth⟩
structure More (b : Nat) (s : Ag07.State) : Prop where
  evs : ∀ e ∈ s.log, EvsOk e
  lets : ∀ x ∈ s.letters, LetOk x
  clis : ∀ c ∈ s.clients, CliOk b c
  len3 : s.clients.length = 3
  wat : ∀ w ∈ s.watchers, w.client < 3 ∧ Ag07.isPath 0 w.path = true
  wnd : (s.watchers.map (·.client)).Nodup
  bas : s.base ≤ s.log.length
theorem More.mono {b c : Nat} {s : Ag07.State} (h : More b s) (le : b ≤ c) : More c s := ⟨h.evs, h.lets, fun x hx => (h.clis x hx).mono le, h.len3, h.wat, h.wnd, h.bas⟩
theorem evsOk_under {e : List Ag07.Event} (h : EvsOk e) (p : List Nat) : EvsOk (Ag07.under p e) :=
  ⟨Nat.le_trans (List.length_filter_le _ _) h.1, fun x hx => h.2 x (List.mem_filter.mp hx).1⟩
theorem evsOk_nil : EvsOk [] := ⟨Nat.zero_le _, fun x h => by cases h⟩
theorem news_ok {w : Ag07.Watcher} {e : List Ag07.Event} (t : Nat) (hw : w.client < 3) (h : EvsOk e) : LetOk (Ag07.news w t e) :=
  ⟨by show (1 : Nat) ≤ 2; decide, hw, rfl, h, Nat.zero_le _, List.Pairwise.nil, (fun y h => by cases h), fun h => absurd h (by show ¬ (1 : Nat) = 0; decide), fun _ => ⟨rfl, rfl, _, rfl⟩, fun h => absurd h (by show ¬ (1 : Nat) = 2; decide)⟩
theorem More.send {b : Nat} {s : Ag07.State} (h : More b s) {l : List Ag07.Letter} (hl : ∀ x ∈ l, LetOk x) : More b (Ag07.send s l) := by
  refine ⟨h.evs, ?_, h.clis, h.len3, h.wat, h.wnd, h.bas⟩
  intro x hx
  have hx : x ∈ (s.letters ++ l).take Ag07.ROOM := hx
  rcases List.mem_append.mp (List.mem_of_mem_take hx) with z | z
  · exact h.lets x z
  · exact hl x z
theorem More.commit {b : Nat} {s : Ag07.State} (h : More b s) (l : List Ag07.Node) {e : List Ag07.Event} (he : EvsOk e) : More b (Ag07.commit s l e) := by
  unfold Ag07.commit
  split
  · exact h
  · refine More.send (s := { s with nodes := l, log := s.log ++ [e], watchers := s.watchers.map fun (w : Ag07.Watcher) => if (Ag07.under w.path e).isEmpty = true then w else { w with last := Ag07.turn s + 1 } }) ⟨?_, h.lets, h.clis, h.len3, ?_, ?_, ?_⟩ ?_
    · intro x hx
      rcases List.mem_append.mp hx with z | z
      · exact h.evs x z
      · rw [List.mem_singleton.mp z]; exact he
    · intro w hw
      obtain ⟨v, hv, rfl⟩ := List.mem_map.mp hw
      have := h.wat v hv
      split <;> exact this
    · have em : (s.watchers.map fun (w : Ag07.Watcher) => if (Ag07.under w.path e).isEmpty = true then w else { w with last := Ag07.turn s + 1 }).map (·.client) = s.watchers.map (·.client) := by
        rw [List.map_map]; apply List.map_congr_left; intro x _
        show (if (Ag07.under x.path e).isEmpty = true then x else { x with last := Ag07.turn s + 1 }).client = x.client
        split <;> rfl
      exact (congrArg List.Nodup em).mpr h.wnd
    · show s.base ≤ (s.log ++ [e]).length
      rw [List.length_append]; have := h.bas; omega
    · intro x hx
      obtain ⟨w, hw, rfl⟩ := List.mem_map.mp hx
      exact news_ok _ (h.wat w (List.mem_filter.mp hw).1).1 (evsOk_under he _)
theorem More.over {b c : Nat} {s : Ag07.State} (h : More b s) (g : Good c s) (n : Nat) : More b (Ag07.over s n) := by
  unfold Ag07.over
  refine More.commit (s := { s with sessions := s.sessions.filter fun (x : Ag07.Session) => x.sid != n }) ⟨h.evs, h.lets, h.clis, h.len3, h.wat, h.wnd, h.bas⟩ _ ⟨?_, ?_⟩
  · rw [List.length_map]; exact Nat.le_trans (List.length_filter_le _ _) g.cnt
  · intro x hx
    obtain ⟨y, hy, rfl⟩ := List.mem_map.mp hx
    exact ⟨g.pth y (List.mem_filter.mp hy).1, Nat.zero_le _⟩
theorem More.tick {b c : Nat} {s : Ag07.State} (h : More b s) (g : Good c s) (t : Nat) : More b (Ag07.tick s t) := by
  have g1 : Good c { s with time := max s.time t } := g.same rfl g.lts rfl rfl rfl
  have h1 : More b { s with time := max s.time t } := ⟨h.evs, h.lets, h.clis, h.len3, h.wat, h.wnd, h.bas⟩
  have e : Ag07.tick s t = Wt.overs { s with time := max s.time t } (s.sessions.filter fun x => decide (x.seen + s.life < max s.time t)) := rfl
  rw [e]
  have key : ∀ j, More b (Wt.overs { s with time := max s.time t } ((({ s with time := max s.time t } : Ag07.State).sessions.take j).filter fun x => decide (x.seen + s.life < max s.time t))) := by
    intro j
    induction j with
    | zero => simpa [overs] using h1
    | succ j ih =>
      cases hx : s.sessions[j]? with
      | none =>
        have hl : s.sessions.length ≤ j := List.getElem?_eq_none_iff.mp hx
        have e1 : s.sessions.take (j + 1) = s.sessions.take j := by rw [List.take_of_length_le (by omega), List.take_of_length_le hl]
        show More b (Wt.overs _ ((s.sessions.take (j + 1)).filter _))
        rw [e1]; exact ih
      | some x =>
        have e1 : s.sessions.take (j + 1) = s.sessions.take j ++ [x] := by rw [List.take_succ, hx]; rfl
        show More b (Wt.overs _ ((s.sessions.take (j + 1)).filter _))
        rw [e1, List.filter_append]
        by_cases hp : decide (x.seen + s.life < max s.time t) = true
        · rw [show [x].filter (fun x => decide (x.seen + s.life < max s.time t)) = [x] by simp only [List.filter, hp], overs_snoc]
          exact ih.over (Good.overs g1 (p := fun x => decide (x.seen + s.life < max s.time t)) j) _
        · rw [show [x].filter (fun x => decide (x.seen + s.life < max s.time t)) = [] by simp only [List.filter, Bool.not_eq_true _ ▸ hp], List.append_nil]
          exact ih
  have := key s.sessions.length
  rw [show ({ s with time := max s.time t } : Ag07.State).sessions.take s.sessions.length = s.sessions from List.take_length] at this
  exact this
theorem doOne_evs {t : Nat} {l : List Ag07.Node} {o : Ag07.Order} (hp : Ag07.isPath 1 o.path = true) : ∀ x ∈ (Ag07.doOne t l o).2, EvOk x := by
  intro x hx
  unfold Ag07.doOne at hx
  split at hx
  · rw [List.mem_singleton.mp hx]; exact ⟨hp, by show (1 : Nat) ≤ 2; decide⟩
  · split at hx
    · cases hx
    · rw [List.mem_singleton.mp hx]; exact ⟨hp, by show (2 : Nat) ≤ 2; decide⟩
  · rw [List.mem_singleton.mp hx]; exact ⟨hp, by show (0 : Nat) ≤ 2; decide⟩
  · cases hx
theorem doAll_evs {s : Ag07.State} {t : Nat} : ∀ {os : List Ag07.Order} {i : Nat} {l : List Ag07.Node} {y : List Ag07.Node × List Ag07.Event}, (∀ o ∈ os, Ag07.isPath 1 o.path = true) → Ag07.doAll s t i l os = .inr y → y.2.length ≤ os.length ∧ ∀ x ∈ y.2, EvOk x
  | [], i, l, y, _, h => by
    have : (Sum.inr (l, []) : Sum (Nat × Nat) (List Ag07.Node × List Ag07.Event)) = .inr y := h
    cases this; exact ⟨Nat.zero_le _, fun x h => by cases h⟩
  | o :: os, i, l, y, hp, h => by
    unfold Ag07.doAll at h
    split at h
    · cases h
    · simp only at h
      split at h
      · cases h
      · rename_i z hz
        have hy : y = (z.1, (Ag07.doOne t l o).2 ++ z.2) := (Sum.inr.inj h).symm
        rw [hy]
        obtain ⟨h1, h2⟩ := doAll_evs (y := z) (fun o' h' => hp o' (List.mem_cons_of_mem _ h')) hz
        have := doOne_len t l o
        refine ⟨by simp; omega, fun x hx => ?_⟩
        rcases List.mem_append.mp hx with q | q
        · exact doOne_evs (hp o List.mem_cons_self) x q
        · exact h2 x q
end Wt

set_option Elab.async false
set_option linter.all false
namespace Wt
/-! ### what the later calls do, and what stays -/
/-- what a world keeps while letters are sent and watchers change -/
structure Same (s t : Ag07.State) : Prop where
  nodes : t.nodes = s.nodes
  sess : t.sessions = s.sessions
  opened : t.opened = s.opened
  log : t.log = s.log
  base : t.base = s.base
theorem Good.of_same {b : Nat} {s t : Ag07.State} (g : Good b s) (h : Same s t) (hl : t.letters.length ≤ 100) : Good b t := g.same h.nodes hl h.sess h.opened h.log
theorem wat_new {b : Nat} {s : Ag07.State} (h : More b s) {w : Ag07.Watcher} (hw : w.client < 3 ∧ Ag07.isPath 0 w.path = true) :
    More b { s with watchers := (s.watchers.filter fun (x : Ag07.Watcher) => x.client != w.client) ++ [w] } := by
  refine ⟨h.evs, h.lets, h.clis, h.len3, ?_, ?_, h.bas⟩
  · intro x hx
    rcases List.mem_append.mp hx with z | z
    · exact h.wat x (List.mem_filter.mp z).1
    · rw [List.mem_singleton.mp z]; exact hw
  · show (((s.watchers.filter fun (x : Ag07.Watcher) => x.client != w.client) ++ [w]).map (·.client)).Nodup
    rw [List.map_append, List.nodup_append]
    refine ⟨List.Nodup.sublist ((List.filter_sublist).map _) h.wnd, by simp, ?_⟩
    intro a ha c hc e
    obtain ⟨x, hx, rfl⟩ := List.mem_map.mp ha
    have := (List.mem_filter.mp hx).2
    simp at hc
    rw [hc] at e
    simp [e] at this
theorem send_len {s : Ag07.State} {l : List Ag07.Letter} : (Ag07.send s l).letters.length ≤ 100 := by
  show (List.take Ag07.ROOM _).length ≤ 100
  rw [List.length_take]; exact Nat.min_le_left _ _
theorem catchUp_all {b : Nat} : ∀ (k : Nat) {s : Ag07.State} {w : Ag07.Watcher}, More b s → s.letters.length ≤ 100 → w.client < 3 ∧ Ag07.isPath 0 w.path = true →
    More b (Ag07.catchUp s k w) ∧ Same s (Ag07.catchUp s k w) ∧ (Ag07.catchUp s k w).letters.length ≤ 100
  | 0, s, w, h, hl, hw => ⟨wat_new h hw, ⟨rfl, rfl, rfl, rfl, rfl⟩, hl⟩
  | k + 1, s, w, h, hl, hw => by
    unfold Ag07.catchUp
    simp only
    split
    · exact catchUp_all k h hl hw
    · have he : EvsOk (s.log.getD (Ag07.turn s - k - 1) []) := by
        rw [List.getD_eq_getElem?_getD]
        cases e : s.log[Ag07.turn s - k - 1]? with
        | none => exact evsOk_nil
        | some x => exact h.evs x (List.mem_of_getElem? e)
      have h1 := h.send (l := [Ag07.news w (Ag07.turn s - k) (Ag07.under w.path (s.log.getD (Ag07.turn s - k - 1) []))]) (fun x hx => by rw [List.mem_singleton.mp hx]; exact news_ok _ hw.1 (evsOk_under he _))
      obtain ⟨q1, q2, q3⟩ := catchUp_all k (w := { w with last := Ag07.turn s - k }) h1 send_len hw
      exact ⟨q1, ⟨q2.nodes, q2.sess, q2.opened, q2.log, q2.base⟩, q3⟩
theorem srt_pairs {l : List Ag07.Node} (h : SrtN l) (p : List Nat) : SrtP (Ag07.pairs l p) := by
  unfold Ag07.pairs SrtP
  rw [List.pairwise_map]
  exact h.filter _
theorem picture_all {b c : Nat} {s : Ag07.State} {x : Ag07.Letter} (h : More b s) (g : Good c s) (hx : LetOk x) : More b (Ag07.hand.picture s x) ∧ Same s (Ag07.hand.picture s x) ∧ (Ag07.hand.picture s x).letters.length ≤ 100 := by
  refine ⟨More.send (wat_new (w := ⟨x.client, x.num, x.path, Ag07.turn s⟩) h ⟨hx.cli, hx.pth⟩) ?_, ⟨rfl, rfl, rfl, rfl, rfl⟩, send_len⟩
  intro y hy
  rw [List.mem_singleton.mp hy]
  refine ⟨by show (2 : Nat) ≤ 2; decide, hx.cli, rfl, evsOk_nil, ?_, srt_pairs g.srt _, ?_, fun h => absurd h (by show ¬ (2 : Nat) = 0; decide), fun h => absurd h (by show ¬ (2 : Nat) = 1; decide), fun _ => ⟨rfl, rfl, rfl⟩⟩
  · show (Ag07.pairs s.nodes x.path).length ≤ 20
    unfold Ag07.pairs; rw [List.length_map]; exact Nat.le_trans (List.length_filter_le _ _) g.cnt
  · intro z hz
    obtain ⟨n, hn, rfl⟩ := List.mem_map.mp hz
    exact g.pth n (List.mem_filter.mp hn).1
theorem follow_ok : ∀ {es : List Ag07.Event} {l : List Pr}, (∀ x ∈ es, EvOk x) → SrtP l → (∀ y ∈ l, Ag07.isPath 1 y.1 = true) →
    SrtP (es.foldl Ag07.follow l) ∧ (es.foldl Ag07.follow l).length ≤ l.length + es.length ∧ ∀ y ∈ es.foldl Ag07.follow l, Ag07.isPath 1 y.1 = true
  | [], l, _, hs, hp => ⟨hs, by simp, hp⟩
  | e :: es, l, he, hs, hp => by
    have h1 : SrtP (Ag07.follow l e) ∧ (Ag07.follow l e).length ≤ l.length + 1 ∧ ∀ y ∈ Ag07.follow l e, Ag07.isPath 1 y.1 = true := by
      unfold Ag07.follow
      split
      · exact ⟨hs.filter _, Nat.le_succ_of_le (List.length_filter_le _ _), fun y hy => hp y (List.mem_filter.mp hy).1⟩
      · refine ⟨putPair_srt _ _ hs, putPair_len, fun y hy => ?_⟩
        rcases putPair_mem hy with rfl | hy
        · exact (he e List.mem_cons_self).1
        · exact hp y hy
    obtain ⟨q1, q2, q3⟩ := follow_ok (es := es) (fun x hx => he x (List.mem_cons_of_mem _ hx)) h1.1 h1.2.2
    exact ⟨q1, by rw [List.foldl_cons, List.length_cons]; omega, q3⟩
theorem client_ok {b : Nat} {s : Ag07.State} (h : More b s) {i : Nat} (hi : i < 3) : CliOk b (Ag07.client s i) := by
  unfold Ag07.client
  rw [List.getD_eq_getElem?_getD, List.getElem?_eq_getElem (by rw [h.len3]; exact hi)]
  exact h.clis _ (List.getElem_mem _)
theorem More.setClient {b : Nat} {s : Ag07.State} (h : More b s) (i : Nat) {c : Ag07.Client} (hc : CliOk b c) : More b (Ag07.setClient s i c) := by
  refine ⟨h.evs, h.lets, ?_, ?_, h.wat, h.wnd, h.bas⟩
  · intro x hx
    rcases List.mem_or_eq_of_mem_set hx with z | z
    · exact h.clis x z
    · rw [z]; exact hc
  · show (s.clients.set i c).length = 3
    rw [List.length_set]; exact h.len3
theorem hand_all {b c : Nat} {s : Ag07.State} {x : Ag07.Letter} (h : More b s) (g : Good c s) (hx : LetOk x) : More (b + 1) (Ag07.hand s x).1 ∧ Same s (Ag07.hand s x).1 ∧ (Ag07.hand s x).1.letters.length ≤ 100 := by
  have h1 : More (b + 1) s := h.mono (Nat.le_succ _)
  have same : Same s s := ⟨rfl, rfl, rfl, rfl, rfl⟩
  unfold Ag07.hand
  split
  · split
    · exact ⟨h1, same, g.lts⟩
    · split
      · split
        · exact picture_all h1 g hx
        · exact catchUp_all _ h1 g.lts ⟨hx.cli, hx.pth⟩
      · exact picture_all h1 g hx
  · simp only
    split
    · exact ⟨h1, same, g.lts⟩
    · split
      · split
        · exact ⟨h1, same, g.lts⟩
        · split
          · exact ⟨h1, same, g.lts⟩
          · have hc := client_ok h hx.cli
            obtain ⟨q1, q2, q3⟩ := follow_ok hx.evs.2 hc.srt hc.nds
            refine ⟨h1.setClient _ ⟨q1, ?_, q3, hc.pth⟩, ⟨rfl, rfl, rfl, rfl, rfl⟩, g.lts⟩
            have := hc.cnt
            have := hx.evs.1
            show (x.events.foldl Ag07.follow (Ag07.client s x.client).copy).length ≤ 20 * (b + 1 + 1)
            omega
      · exact ⟨h1, same, g.lts⟩
  · simp only
    have hc := client_ok h hx.cli
    have fin : More (b + 1) (Ag07.setClient s x.client { Ag07.client s x.client with upto := some x.turn, since := x.turn, copy := x.nodes, events := 0, pictures := (Ag07.client s x.client).pictures + 1 }) := by
      refine h1.setClient _ ⟨hx.srt, ?_, hx.nds, hc.pth⟩
      have := hx.cnt
      show x.nodes.length ≤ 20 * (b + 1 + 1)
      omega
    split <;> split
    · exact ⟨h1, same, g.lts⟩
    · exact ⟨fin, ⟨rfl, rfl, rfl, rfl, rfl⟩, g.lts⟩
    · exact ⟨h1, same, g.lts⟩
    · exact ⟨fin, ⟨rfl, rfl, rfl, rfl, rfl⟩, g.lts⟩
theorem ask_ok {b : Nat} {s : Ag07.State} (h : More b s) {i : Nat} (hi : i < 3) {c : Ag07.Client} (hc : Ag07.isPath 0 c.path = true) : More b (Ag07.askLetter s i c) :=
  h.send (fun x hx => by
    rw [List.mem_singleton.mp hx]
    exact ⟨Nat.zero_le _, hi, hc, evsOk_nil, Nat.zero_le _, List.Pairwise.nil, (fun y h => by cases h), fun _ => ⟨rfl, rfl, rfl⟩, fun h => absurd h (by show ¬ (0 : Nat) = 1; decide), fun h => absurd h (by show ¬ (0 : Nat) = 2; decide)⟩)
theorem new_more (life : Nat) : More 0 ⟨life, 0, [], [], 0, 0, [], [], List.replicate Ag07.CLIENTS ⟨0, [], none, 0, [], 0, 0⟩, []⟩ := by
  refine ⟨(fun _ h => by cases h), (fun _ h => by cases h), ?_, rfl, (fun _ h => by cases h), List.nodup_nil, Nat.le_refl _⟩
  intro c hc
  rw [List.eq_of_mem_replicate hc]
  exact ⟨List.Pairwise.nil, Nat.zero_le _, (fun _ h => by cases h), rfl⟩
/-- all calls keep both -/
theorem step_both {b : Nat} {s : Ag07.State} (g : Good b s) (h : More b s) (c : Ag07.Call) : Good (b + 1) (stp s c).1 ∧ More (b + 1) (stp s c).1 := by
  have g1 : Good (b + 1) s := g.mono (Nat.le_succ _)
  have h1 : More (b + 1) s := h.mono (Nat.le_succ _)
  have er : ∀ k, Good b { s with letters := s.letters.eraseIdx k } ∧ More b { s with letters := s.letters.eraseIdx k } := fun k =>
    ⟨g.same rfl (Nat.le_trans (List.length_eraseIdx_le _ _) g.lts) rfl rfl rfl, ⟨h.evs, fun x hx => h.lets x (List.mem_of_mem_eraseIdx hx), h.clis, h.len3, h.wat, h.wnd, h.bas⟩⟩
  cases c with
  | begin_ n =>
    refine ⟨g.step1 _ trivial, ?_⟩
    unfold stp; simp only [Ag07.step]
    split
    · exact h1
    · exact (new_more n).mono (Nat.zero_le _)
  | open_ => exact ⟨g.step1 _ trivial, ⟨h1.evs, h1.lets, h1.clis, h1.len3, h1.wat, h1.wnd, h1.bas⟩⟩
  | close n =>
    refine ⟨g.step1 _ trivial, ?_⟩
    unfold stp; simp only [Ag07.step]
    cases e : Ag07.lasts s n
    · exact h1
    · exact h1.over g n
  | touch n =>
    refine ⟨g.step1 _ trivial, ?_⟩
    unfold stp; simp only [Ag07.step]
    cases e : Ag07.lasts s n
    · exact h1
    · exact ⟨h1.evs, h1.lets, h1.clis, h1.len3, h1.wat, h1.wnd, h1.bas⟩
  | tick t =>
    refine ⟨g.step1 _ trivial, ?_⟩
    unfold stp; simp only [Ag07.step]
    split
    · exact h1
    · exact h1.tick g t
  | together l =>
    refine ⟨g.step1 _ trivial, ?_⟩
    unfold stp; simp only [Ag07.step]
    split
    · exact h1
    · rename_i hn
      cases e : Ag07.doAll s (Ag07.turn s + 1) 0 s.nodes (l.filterMap Ag07.orderOf) with
      | inl x => exact h1
      | inr y =>
        have hl : l.length ≤ 6 := by
          rcases Nat.lt_or_ge 6 l.length with z | z
          · exact absurd (.inr (.inl z)) hn
          · exact z
        obtain ⟨q1, q2⟩ := doAll_evs (fun o ho => by obtain ⟨r, _, hr⟩ := List.mem_filterMap.mp ho; exact orderOf_path hr) e
        have := List.length_filterMap_le Ag07.orderOf l
        exact h1.commit _ ⟨by omega, q2⟩
  | get p => exact ⟨g1, h1⟩
  | list p => exact ⟨g1, h1⟩
  | watch i p =>
    refine ⟨g.step1 _ trivial, ?_⟩
    unfold stp; simp only [Ag07.step]
    split
    · exact h1
    · rename_i hn
      have hi : i < 3 := by
        rcases Nat.lt_or_ge i 3 with z | z
        · exact z
        · exact absurd (.inl z) hn
      have hp : Ag07.isPath 0 p = true := by
        cases e : Ag07.isPath 0 p with
        | true => rfl
        | false => exact absurd (.inr e) hn
      have hc : CliOk (b + 1) ⟨(Ag07.client s i).num + 1, p, none, 0, [], 0, 0⟩ := ⟨List.Pairwise.nil, Nat.zero_le _, (fun _ h => by cases h), hp⟩
      exact ask_ok (h1.setClient i hc) hi hp
  | ask i =>
    unfold stp; simp only [Ag07.step]
    split
    · exact ⟨g1, h1⟩
    · rename_i hn
      have hi : i < 3 := Nat.lt_of_not_le hn
      split
      · exact ⟨g1, h1⟩
      · exact ⟨g1.same rfl send_len rfl rfl rfl, ask_ok h1 hi (client_ok h1 hi).pth⟩
  | compact t =>
    unfold stp; simp only [Ag07.step]
    split
    · exact ⟨g1, h1⟩
    · rename_i hn
      split
      · exact ⟨g1, h1⟩
      · exact ⟨g1.same rfl g1.lts rfl rfl rfl, ⟨h1.evs, h1.lets, h1.clis, h1.len3, h1.wat, h1.wnd, by show t ≤ s.log.length; have : ¬ s.log.length < t := hn; omega⟩⟩
  | take k =>
    unfold stp; simp only [Ag07.step]
    cases e : s.letters[k]? with
    | none => exact ⟨g1, h1⟩
    | some x =>
      obtain ⟨q1, q2, q3⟩ := hand_all (er k).2 (er k).1 (h.lets x (List.mem_of_getElem? e))
      exact ⟨((er k).1.of_same q2 q3).mono (Nat.le_succ _), q1⟩
  | keep k =>
    unfold stp; simp only [Ag07.step]
    cases e : s.letters[k]? with
    | none => exact ⟨g1, h1⟩
    | some x =>
      obtain ⟨q1, q2, q3⟩ := hand_all h g (h.lets x (List.mem_of_getElem? e))
      exact ⟨(g.of_same q2 q3).mono (Nat.le_succ _), q1⟩
  | lose k =>
    unfold stp; simp only [Ag07.step]
    split
    · exact ⟨g1, h1⟩
    · exact ⟨(er k).1.mono (Nat.le_succ _), (er k).2.mono (Nat.le_succ _)⟩
  | letters => exact ⟨g1, h1⟩
  | client i => exact ⟨g1, h1⟩
  | house => exact ⟨g1, h1⟩
  | log t => exact ⟨g1, h1⟩
end Wt

set_option Elab.async false
set_option linter.all false
namespace Wt
/-! ### catching up, turn by turn -/
theorem catchUp_skip {s : Ag07.State} {w : Ag07.Watcher} (h : w.last ≤ Ag07.turn s) : ∀ j, j ≤ w.last → Ag07.catchUp s (Ag07.turn s) w = Ag07.catchUp s (Ag07.turn s - j) w
  | 0, _ => rfl
  | j + 1, hj => by
    rw [catchUp_skip h j (by omega)]
    have e : Ag07.turn s - j = (Ag07.turn s - (j + 1)) + 1 := by omega
    rw [e]
    conv => lhs; unfold Ag07.catchUp
    simp only
    rw [if_pos]
    left; omega
theorem catchUp_at {s : Ag07.State} {w : Ag07.Watcher} {i : Nat} (h : i < Ag07.turn s) (hw : w.last ≤ i) : Ag07.catchUp s (Ag07.turn s - i) w =
    if (Ag07.under w.path (s.log.getD i [])).isEmpty = true then Ag07.catchUp s (Ag07.turn s - (i + 1)) w
    else Ag07.catchUp (Ag07.send s [Ag07.news w (i + 1) (Ag07.under w.path (s.log.getD i []))]) (Ag07.turn s - (i + 1)) { w with last := i + 1 } := by
  have e : Ag07.turn s - i = (Ag07.turn s - (i + 1)) + 1 := by omega
  have e2 : Ag07.turn s - (Ag07.turn s - (i + 1)) = i + 1 := by omega
  rw [e]
  conv => lhs; unfold Ag07.catchUp
  simp only [e2, Nat.add_sub_cancel]
  by_cases z : (Ag07.under w.path (s.log.getD i [])).isEmpty = true
  · rw [if_pos (.inr z), if_pos z]
  · rw [if_neg (by rintro (q | q); omega; exact z q), if_neg z]
theorem catchUp_end {s : Ag07.State} {w : Ag07.Watcher} : Ag07.catchUp s 0 w = { s with watchers := (s.watchers.filter fun (x : Ag07.Watcher) => x.client != w.client) ++ [w] } := rfl
/-! ### a copy as a dict -/
def putKP (p : List Nat) (v : Nat) (l : List Pr) : List Pr := if l.any (fun m => decide (m.1 = p)) = true then l.map fun m => if m.1 = p then (p, v) else m else l ++ [(p, v)]
theorem putPair_new {p : List Nat} {v : Nat} : ∀ {l : List Pr}, (∀ m ∈ l, m.1 ≠ p) → (Ag07.putPair p v l).Perm ((p, v) :: l)
  | [], _ => by simp [Ag07.putPair]
  | x :: l, h => by
    unfold Ag07.putPair
    rw [if_neg (h x List.mem_cons_self)]
    split
    · exact List.Perm.refl _
    · exact (List.Perm.cons _ (putPair_new fun m hm => h m (List.mem_cons_of_mem _ hm))).trans (List.Perm.swap _ _ _)
theorem map_id_p {p : List Nat} {v : Nat} {l : List Pr} (h : ∀ m ∈ l, m.1 ≠ p) : (l.map fun m => if m.1 = p then (p, v) else m) = l := by
  conv => rhs; rw [← List.map_id l]
  apply List.map_congr_left
  intro m hm
  rw [if_neg (h m hm)]; rfl
theorem putPair_old {p : List Nat} {v : Nat} : ∀ {l : List Pr}, SrtP l → (∃ m ∈ l, m.1 = p) → Ag07.putPair p v l = l.map fun m => if m.1 = p then (p, v) else m
  | [], _, h => by obtain ⟨m, h, _⟩ := h; cases h
  | x :: l, s, h => by
    rw [SrtP, List.pairwise_cons] at s
    unfold Ag07.putPair
    by_cases e : x.1 = p
    · rw [if_pos e, List.map_cons, if_pos e, map_id_p]
      intro m hm z
      have := s.1 m hm
      rw [e, z] at this
      exact List.lt_irrefl _ this
    · obtain ⟨m, hm, hp⟩ := h
      have hm : m ∈ l := by
        rcases List.mem_cons.mp hm with z | z
        · rw [z] at hp; exact absurd hp e
        · exact z
      have hlt := s.1 m hm
      rw [hp] at hlt
      rw [if_neg e, if_neg, List.map_cons, if_neg e, putPair_old s.2 ⟨m, hm, hp⟩]
      rw [ahead_eq, decide_eq_true_eq]
      exact fun z => List.lt_irrefl _ (List.lt_trans z hlt)
theorem putKP_perm {p : List Nat} {v : Nat} {l m : List Pr} (h : l.Perm m) (s : SrtP m) : (putKP p v l).Perm (Ag07.putPair p v m) := by
  unfold putKP
  split
  · rename_i z
    obtain ⟨x, hx, hp⟩ := List.any_eq_true.mp z
    rw [putPair_old s ⟨x, h.mem_iff.mp hx, of_decide_eq_true hp⟩]
    exact h.map _
  · rename_i z
    have no : ∀ x ∈ m, x.1 ≠ p := fun x hx e => z (List.any_eq_true.mpr ⟨x, h.mem_iff.mpr hx, decide_eq_true e⟩)
    refine (List.perm_append_singleton _ _).trans ?_
    exact ((List.Perm.cons _ h).trans (putPair_new no).symm)
theorem drop_perm {p : List Nat} {l m : List Pr} (h : l.Perm m) : (l.filter fun x => x.1 != p).Perm (m.filter fun x => x.1 != p) := h.filter _
/-- a list in order with the members of a copy is the copy -/
theorem sort_copy {l m : List Pr} (h : l.Perm m) (s : SrtP m) (t : l.Pairwise fun a b => leP a.1 b.1 = true) : l = m := by
  refine List.Perm.eq_of_pairwise (le := fun a b => a.1 ≤ b.1) ?_ (t.imp fun h => leP_iff.mp h) (s.imp fun h => le_of_lt' h) h
  intro a b ha hb h1 h2
  have e := List.le_antisymm h1 h2
  have inj : ∀ {l : List Pr}, SrtP l → ∀ {a b : Pr}, a ∈ l → b ∈ l → a.1 = b.1 → a = b := by
    intro l s
    induction l with
    | nil => intro a b ha; cases ha
    | cons x l ih =>
      rw [SrtP, List.pairwise_cons] at s
      intro a b ha hb e
      rcases List.mem_cons.mp ha with rfl | ha' <;> rcases List.mem_cons.mp hb with rfl | hb'
      · rfl
      · have := s.1 b hb'; rw [e] at this; exact absurd this (List.lt_irrefl _)
      · have := s.1 a ha'; rw [e] at this; exact absurd this (List.lt_irrefl _)
      · exact ih s.2 ha' hb' e
  exact inj s (h.mem_iff.mp ha) hb e
end Wt

set_option Elab.async false
set_option linter.all false
set_option maxRecDepth 100000
set_option maxHeartbeats 2000000
namespace Wt
open PySem PySem.Spec PyProof.Rows L2
abbrev Prog : Program := PySem.Challenge.pw_watchedtree_s01_answers
def a_Event_init : Arguments := { posonlyargs := [], args := [ { arg := "self", annotation := none, pos := ⟨7, 17, 7, 21⟩ : PySem.Arg }, { arg := "what", annotation := none, pos := ⟨7, 23, 7, 27⟩ : PySem.Arg }, { arg := "value", annotation := none, pos := ⟨7, 29, 7, 34⟩ : PySem.Arg }, { arg := "path", annotation := none, pos := ⟨7, 36, 7, 40⟩ : PySem.Arg }], vararg := none, kwonlyargs := [], kw_defaults := [], kwarg := none, defaults := [] : PySem.Arguments }
def b_Event_init : List Stmt := [ (PySem.Stmt.Assign (targets := [(PySem.Expr.Attribute (PySem.Expr.Name "self" ⟨8, 8, 8, 12⟩) "what" ⟨8, 8, 8, 17⟩)]) (value := (PySem.Expr.Name "what" ⟨8, 20, 8, 24⟩)) (pos := ⟨8, 8, 8, 24⟩)),
  (PySem.Stmt.Assign (targets := [(PySem.Expr.Attribute (PySem.Expr.Name "self" ⟨9, 8, 9, 12⟩) "value" ⟨9, 8, 9, 18⟩)]) (value := (PySem.Expr.Name "value" ⟨9, 21, 9, 26⟩)) (pos := ⟨9, 8, 9, 26⟩)),
  (PySem.Stmt.Assign (targets := [(PySem.Expr.Attribute (PySem.Expr.Name "self" ⟨10, 8, 10, 12⟩) "path" ⟨10, 8, 10, 17⟩)]) (value := (PySem.Expr.Name "path" ⟨10, 20, 10, 24⟩)) (pos := ⟨10, 8, 10, 24⟩))]
def sc_Event_init : Scope := { kind := PySem.ScopeKind.function, names := [ (PySem.Str.ofString "self", PySem.NameKind.local), (PySem.Str.ofString "what", PySem.NameKind.local), (PySem.Str.ofString "value", PySem.NameKind.local), (PySem.Str.ofString "path", PySem.NameKind.local)], isGenerator := false, isCoroutine := false, more := [] : PySem.Scope }
def d_Event_init : He.DefD := ⟨("Event", some "__init__"), "__init__", "Event.__init__", a_Event_init, b_Event_init, sc_Event_init, [], []⟩
abbrev n_Event_init : List Str := ["self", "what", "value", "path"]
abbrev p_Event_init : List Str := ["self", "what", "value", "path"]
theorem S_Event_init : FnScope n_Event_init p_Event_init sc_Event_init := ⟨rfl, rfl, rfl, by decide +kernel, rfl, by decide +kernel, by decide +kernel⟩
def a_Letter_init : Arguments := { posonlyargs := [], args := [ { arg := "self", annotation := none, pos := ⟨24, 17, 24, 21⟩ : PySem.Arg }, { arg := "kind", annotation := none, pos := ⟨24, 23, 24, 27⟩ : PySem.Arg }, { arg := "client", annotation := none, pos := ⟨24, 29, 24, 35⟩ : PySem.Arg }, { arg := "number", annotation := none, pos := ⟨24, 37, 24, 43⟩ : PySem.Arg }], vararg := none, kwonlyargs := [], kw_defaults := [], kwarg := none, defaults := [] : PySem.Arguments }
def b_Letter_init : List Stmt := [ (PySem.Stmt.Assign (targets := [(PySem.Expr.Attribute (PySem.Expr.Name "self" ⟨25, 8, 25, 12⟩) "kind" ⟨25, 8, 25, 17⟩)]) (value := (PySem.Expr.Name "kind" ⟨25, 20, 25, 24⟩))
  (pos := ⟨25, 8, 25, 24⟩)), (PySem.Stmt.Assign (targets := [(PySem.Expr.Attribute (PySem.Expr.Name "self" ⟨26, 8, 26, 12⟩) "client" ⟨26, 8, 26, 19⟩)])
  (value := (PySem.Expr.Name "client" ⟨26, 22, 26, 28⟩)) (pos := ⟨26, 8, 26, 28⟩)), (PySem.Stmt.Assign
  (targets := [(PySem.Expr.Attribute (PySem.Expr.Name "self" ⟨27, 8, 27, 12⟩) "number" ⟨27, 8, 27, 19⟩)]) (value := (PySem.Expr.Name "number" ⟨27, 22, 27, 28⟩)) (pos := ⟨27, 8, 27, 28⟩)),
  (PySem.Stmt.Assign (targets := [(PySem.Expr.Attribute (PySem.Expr.Name "self" ⟨28, 8, 28, 12⟩) "path" ⟨28, 8, 28, 17⟩)]) (value := (PySem.Expr.Tuple [] 0 ⟨28, 20, 28, 22⟩)) (pos := ⟨28, 8, 28, 22⟩)),
  (PySem.Stmt.Assign (targets := [(PySem.Expr.Attribute (PySem.Expr.Name "self" ⟨29, 8, 29, 12⟩) "behind" ⟨29, 8, 29, 19⟩)]) (value := (PySem.Expr.Constant PySem.Const.none 0 ⟨29, 22, 29, 26⟩))
  (pos := ⟨29, 8, 29, 26⟩)), (PySem.Stmt.Assign (targets := [(PySem.Expr.Attribute (PySem.Expr.Name "self" ⟨30, 8, 30, 12⟩) "turn" ⟨30, 8, 30, 17⟩)])
  (value := (PySem.Expr.Constant (PySem.Const.int 0) 0 ⟨30, 20, 30, 21⟩)) (pos := ⟨30, 8, 30, 21⟩)), (PySem.Stmt.Assign
  (targets := [(PySem.Expr.Attribute (PySem.Expr.Name "self" ⟨31, 8, 31, 12⟩) "events" ⟨31, 8, 31, 19⟩)]) (value := (PySem.Expr.List [] ⟨31, 22, 31, 24⟩)) (pos := ⟨31, 8, 31, 24⟩)), (PySem.Stmt.Assign
  (targets := [(PySem.Expr.Attribute (PySem.Expr.Name "self" ⟨32, 8, 32, 12⟩) "entries" ⟨32, 8, 32, 20⟩)]) (value := (PySem.Expr.List [] ⟨32, 23, 32, 25⟩)) (pos := ⟨32, 8, 32, 25⟩))]
def sc_Letter_init : Scope := { kind := PySem.ScopeKind.function, names := [ (PySem.Str.ofString "self", PySem.NameKind.local), (PySem.Str.ofString "kind", PySem.NameKind.local), (PySem.Str.ofString "client", PySem.NameKind.local), (PySem.Str.ofString "number", PySem.NameKind.local)], isGenerator := false, isCoroutine := false, more := [] : PySem.Scope }
def d_Letter_init : He.DefD := ⟨("Letter", some "__init__"), "__init__", "Letter.__init__", a_Letter_init, b_Letter_init, sc_Letter_init, [], []⟩
abbrev n_Letter_init : List Str := ["self", "kind", "client", "number"]
abbrev p_Letter_init : List Str := ["self", "kind", "client", "number"]
theorem S_Letter_init : FnScope n_Letter_init p_Letter_init sc_Letter_init := ⟨rfl, rfl, rfl, by decide +kernel, rfl, by decide +kernel, by decide +kernel⟩
def a_Net_init : Arguments := { posonlyargs := [], args := [{ arg := "self", annotation := none, pos := ⟨35, 17, 35, 21⟩ : PySem.Arg }], vararg := none, kwonlyargs := [], kw_defaults := [], kwarg := none, defaults := [] : PySem.Arguments }
def b_Net_init : List Stmt := [ (PySem.Stmt.Assign (targets := [(PySem.Expr.Attribute (PySem.Expr.Name "self" ⟨36, 8, 36, 12⟩) "letters" ⟨36, 8, 36, 20⟩)]) (value := (PySem.Expr.List [] ⟨36, 23, 36, 25⟩))
  (pos := ⟨36, 8, 36, 25⟩))]
def sc_Net_init : Scope := { kind := PySem.ScopeKind.function, names := [(PySem.Str.ofString "self", PySem.NameKind.local)], isGenerator := false, isCoroutine := false, more := [] : PySem.Scope }
def d_Net_init : He.DefD := ⟨("Net", some "__init__"), "__init__", "Net.__init__", a_Net_init, b_Net_init, sc_Net_init, [], []⟩
abbrev n_Net_init : List Str := ["self"]
abbrev p_Net_init : List Str := ["self"]
theorem S_Net_init : FnScope n_Net_init p_Net_init sc_Net_init := ⟨rfl, rfl, rfl, by decide +kernel, rfl, by decide +kernel, by decide +kernel⟩
def a_Net_send : Arguments := { posonlyargs := [], args := [ { arg := "self", annotation := none, pos := ⟨38, 13, 38, 17⟩ : PySem.Arg }, { arg := "letter", annotation := none, pos := ⟨38, 19, 38, 25⟩ : PySem.Arg }], vararg := none, kwonlyargs := [], kw_defaults := [], kwarg := none, defaults := [] : PySem.Arguments }
def b_Net_send : List Stmt := [ (PySem.Stmt.If (test := (PySem.Expr.Compare (left := (PySem.Expr.Call (func := (PySem.Expr.Name "len" ⟨39, 11, 39, 14⟩))
  (args := [(PySem.Expr.Attribute (PySem.Expr.Name "self" ⟨39, 15, 39, 19⟩) "letters" ⟨39, 15, 39, 27⟩)]) (keywords := []) (pos := ⟨39, 11, 39, 28⟩))) (ops := [PySem.CmpOp.Lt])
  (comparators := [(PySem.Expr.Name "ROOM" ⟨39, 31, 39, 35⟩)]) (pos := ⟨39, 11, 39, 35⟩))) (body := [ (PySem.Stmt.Expr (value := (PySem.Expr.Call (func := (PySem.Expr.Attribute
  (value := (PySem.Expr.Attribute (PySem.Expr.Name "self" ⟨40, 12, 40, 16⟩) "letters" ⟨40, 12, 40, 24⟩)) (attr := "append") (pos := ⟨40, 12, 40, 31⟩)))
  (args := [(PySem.Expr.Name "letter" ⟨40, 32, 40, 38⟩)]) (keywords := []) (pos := ⟨40, 12, 40, 39⟩))) (pos := ⟨40, 12, 40, 39⟩))]) (orelse := []) (pos := ⟨39, 8, 40, 39⟩))]
def sc_Net_send : Scope := { kind := PySem.ScopeKind.function, names := [ (PySem.Str.ofString "self", PySem.NameKind.local), (PySem.Str.ofString "letter", PySem.NameKind.local), (PySem.Str.ofString "len", PySem.NameKind.globalImplicit), (PySem.Str.ofString "ROOM", PySem.NameKind.globalImplicit)], isGenerator := false, isCoroutine := false, more := [] : PySem.Scope }
def d_Net_send : He.DefD := ⟨("Net", some "send"), "send", "Net.send", a_Net_send, b_Net_send, sc_Net_send, [], []⟩
abbrev n_Net_send : List Str := ["self", "letter"]
abbrev p_Net_send : List Str := ["self", "letter"]
theorem S_Net_send : FnScope n_Net_send p_Net_send sc_Net_send := ⟨rfl, rfl, rfl, by decide +kernel, rfl, by decide +kernel, by decide +kernel⟩
def a_Net_has_letter : Arguments := { posonlyargs := [], args := [ { arg := "self", annotation := none, pos := ⟨42, 19, 42, 23⟩ : PySem.Arg }, { arg := "place", annotation := none, pos := ⟨42, 25, 42, 30⟩ : PySem.Arg }], vararg := none, kwonlyargs := [], kw_defaults := [], kwarg := none, defaults := [] : PySem.Arguments }
def b_Net_has_letter : List Stmt := [ (PySem.Stmt.Return (value := (some (PySem.Expr.Compare (left := (PySem.Expr.Name "place" ⟨43, 15, 43, 20⟩)) (ops := [PySem.CmpOp.Lt]) (comparators := [ (PySem.Expr.Call
  (func := (PySem.Expr.Name "len" ⟨43, 23, 43, 26⟩)) (args := [(PySem.Expr.Attribute (PySem.Expr.Name "self" ⟨43, 27, 43, 31⟩) "letters" ⟨43, 27, 43, 39⟩)]) (keywords := []) (pos := ⟨43, 23, 43, 40⟩))])
  (pos := ⟨43, 15, 43, 40⟩)))) (pos := ⟨43, 8, 43, 40⟩))]
def sc_Net_has_letter : Scope := { kind := PySem.ScopeKind.function, names := [ (PySem.Str.ofString "self", PySem.NameKind.local), (PySem.Str.ofString "place", PySem.NameKind.local), (PySem.Str.ofString "len", PySem.NameKind.globalImplicit)], isGenerator := false, isCoroutine := false, more := [] : PySem.Scope }
def d_Net_has_letter : He.DefD := ⟨("Net", some "has_letter"), "has_letter", "Net.has_letter", a_Net_has_letter, b_Net_has_letter, sc_Net_has_letter, [], []⟩
abbrev n_Net_has_letter : List Str := ["self", "place"]
abbrev p_Net_has_letter : List Str := ["self", "place"]
theorem S_Net_has_letter : FnScope n_Net_has_letter p_Net_has_letter sc_Net_has_letter := ⟨rfl, rfl, rfl, by decide +kernel, rfl, by decide +kernel, by decide +kernel⟩
def a_Net_take_out : Arguments := { posonlyargs := [], args := [ { arg := "self", annotation := none, pos := ⟨45, 17, 45, 21⟩ : PySem.Arg }, { arg := "place", annotation := none, pos := ⟨45, 23, 45, 28⟩ : PySem.Arg }], vararg := none, kwonlyargs := [], kw_defaults := [], kwarg := none, defaults := [] : PySem.Arguments }
def b_Net_take_out : List Stmt := [ (PySem.Stmt.Return (value := (some (PySem.Expr.Call (func := (PySem.Expr.Attribute (value := (PySem.Expr.Attribute (PySem.Expr.Name "self" ⟨46, 15, 46, 19⟩) "letters" ⟨46, 15, 46, 27⟩))
  (attr := "pop") (pos := ⟨46, 15, 46, 31⟩))) (args := [(PySem.Expr.Name "place" ⟨46, 32, 46, 37⟩)]) (keywords := []) (pos := ⟨46, 15, 46, 38⟩)))) (pos := ⟨46, 8, 46, 38⟩))]
def sc_Net_take_out : Scope := { kind := PySem.ScopeKind.function, names := [(PySem.Str.ofString "self", PySem.NameKind.local), (PySem.Str.ofString "place", PySem.NameKind.local)], isGenerator := false, isCoroutine := false, more := [] : PySem.Scope }
def d_Net_take_out : He.DefD := ⟨("Net", some "take_out"), "take_out", "Net.take_out", a_Net_take_out, b_Net_take_out, sc_Net_take_out, [], []⟩
abbrev n_Net_take_out : List Str := ["self", "place"]
abbrev p_Net_take_out : List Str := ["self", "place"]
theorem S_Net_take_out : FnScope n_Net_take_out p_Net_take_out sc_Net_take_out := ⟨rfl, rfl, rfl, by decide +kernel, rfl, by decide +kernel, by decide +kernel⟩
def a_asking_letter : Arguments := { posonlyargs := [], args := [ { arg := "client", annotation := none, pos := ⟨47, 18, 47, 24⟩ : PySem.Arg }, { arg := "number", annotation := none, pos := ⟨47, 26, 47, 32⟩ : PySem.Arg }, { arg := "path", annotation := none, pos := ⟨47, 34, 47, 38⟩ : PySem.Arg }, { arg := "behind", annotation := none, pos := ⟨47, 40, 47, 46⟩ : PySem.Arg }], vararg := none, kwonlyargs := [], kw_defaults := [], kwarg := none, defaults := [] : PySem.Arguments }
def b_asking_letter : List Stmt := [ (PySem.Stmt.Assign (targets := [(PySem.Expr.Name "letter" ⟨48, 4, 48, 10⟩)]) (value := (PySem.Expr.Call (func := (PySem.Expr.Name "Letter" ⟨48, 13, 48, 19⟩)) (args := [
  (PySem.Expr.Name "ASKS" ⟨48, 20, 48, 24⟩), (PySem.Expr.Name "client" ⟨48, 26, 48, 32⟩), (PySem.Expr.Name "number" ⟨48, 34, 48, 40⟩)]) (keywords := []) (pos := ⟨48, 13, 48, 41⟩)))
  (pos := ⟨48, 4, 48, 41⟩)), (PySem.Stmt.Assign (targets := [(PySem.Expr.Attribute (PySem.Expr.Name "letter" ⟨49, 4, 49, 10⟩) "path" ⟨49, 4, 49, 15⟩)])
  (value := (PySem.Expr.Name "path" ⟨49, 18, 49, 22⟩)) (pos := ⟨49, 4, 49, 22⟩)), (PySem.Stmt.Assign
  (targets := [(PySem.Expr.Attribute (PySem.Expr.Name "letter" ⟨50, 4, 50, 10⟩) "behind" ⟨50, 4, 50, 17⟩)]) (value := (PySem.Expr.Name "behind" ⟨50, 20, 50, 26⟩)) (pos := ⟨50, 4, 50, 26⟩)),
  (PySem.Stmt.Return (some (PySem.Expr.Name "letter" ⟨51, 11, 51, 17⟩)) ⟨51, 4, 51, 17⟩)]
def sc_asking_letter : Scope := { kind := PySem.ScopeKind.function, names := [ (PySem.Str.ofString "client", PySem.NameKind.local), (PySem.Str.ofString "number", PySem.NameKind.local), (PySem.Str.ofString "path", PySem.NameKind.local), (PySem.Str.ofString "behind", PySem.NameKind.local), (PySem.Str.ofString "letter", PySem.NameKind.local), (PySem.Str.ofString "Letter", PySem.NameKind.globalImplicit), (PySem.Str.ofString "ASKS", PySem.NameKind.globalImplicit)], isGenerator := false, isCoroutine := false, more := [] : PySem.Scope }
def d_asking_letter : He.DefD := ⟨("asking_letter", none), "asking_letter", "asking_letter", a_asking_letter, b_asking_letter, sc_asking_letter, [], []⟩
abbrev n_asking_letter : List Str := ["client", "number", "path", "behind", "letter"]
abbrev p_asking_letter : List Str := ["client", "number", "path", "behind"]
theorem S_asking_letter : FnScope n_asking_letter p_asking_letter sc_asking_letter := ⟨rfl, rfl, rfl, by decide +kernel, rfl, by decide +kernel, by decide +kernel⟩
def a_news_letter : Arguments := { posonlyargs := [], args := [ { arg := "client", annotation := none, pos := ⟨52, 16, 52, 22⟩ : PySem.Arg }, { arg := "number", annotation := none, pos := ⟨52, 24, 52, 30⟩ : PySem.Arg }, { arg := "behind", annotation := none, pos := ⟨52, 32, 52, 38⟩ : PySem.Arg }, { arg := "turn", annotation := none, pos := ⟨52, 40, 52, 44⟩ : PySem.Arg }, { arg := "events", annotation := none, pos := ⟨52, 46, 52, 52⟩ : PySem.Arg }], vararg := none, kwonlyargs := [], kw_defaults := [], kwarg := none, defaults := [] : PySem.Arguments }
def b_news_letter : List Stmt := [ (PySem.Stmt.Assign (targets := [(PySem.Expr.Name "letter" ⟨53, 4, 53, 10⟩)]) (value := (PySem.Expr.Call (func := (PySem.Expr.Name "Letter" ⟨53, 13, 53, 19⟩)) (args := [
  (PySem.Expr.Name "NEWS" ⟨53, 20, 53, 24⟩), (PySem.Expr.Name "client" ⟨53, 26, 53, 32⟩), (PySem.Expr.Name "number" ⟨53, 34, 53, 40⟩)]) (keywords := []) (pos := ⟨53, 13, 53, 41⟩)))
  (pos := ⟨53, 4, 53, 41⟩)), (PySem.Stmt.Assign (targets := [(PySem.Expr.Attribute (PySem.Expr.Name "letter" ⟨54, 4, 54, 10⟩) "behind" ⟨54, 4, 54, 17⟩)])
  (value := (PySem.Expr.Name "behind" ⟨54, 20, 54, 26⟩)) (pos := ⟨54, 4, 54, 26⟩)), (PySem.Stmt.Assign
  (targets := [(PySem.Expr.Attribute (PySem.Expr.Name "letter" ⟨55, 4, 55, 10⟩) "turn" ⟨55, 4, 55, 15⟩)]) (value := (PySem.Expr.Name "turn" ⟨55, 18, 55, 22⟩)) (pos := ⟨55, 4, 55, 22⟩)),
  (PySem.Stmt.Assign (targets := [(PySem.Expr.Attribute (PySem.Expr.Name "letter" ⟨56, 4, 56, 10⟩) "events" ⟨56, 4, 56, 17⟩)]) (value := (PySem.Expr.Name "events" ⟨56, 20, 56, 26⟩))
  (pos := ⟨56, 4, 56, 26⟩)), (PySem.Stmt.Return (some (PySem.Expr.Name "letter" ⟨57, 11, 57, 17⟩)) ⟨57, 4, 57, 17⟩)]
def sc_news_letter : Scope := { kind := PySem.ScopeKind.function, names := [ (PySem.Str.ofString "client", PySem.NameKind.local), (PySem.Str.ofString "number", PySem.NameKind.local), (PySem.Str.ofString "behind", PySem.NameKind.local), (PySem.Str.ofString "turn", PySem.NameKind.local), (PySem.Str.ofString "events", PySem.NameKind.local), (PySem.Str.ofString "letter", PySem.NameKind.local), (PySem.Str.ofString "Letter", PySem.NameKind.globalImplicit), (PySem.Str.ofString "NEWS", PySem.NameKind.globalImplicit)], isGenerator := false, isCoroutine := false, more := [] : PySem.Scope }
def d_news_letter : He.DefD := ⟨("news_letter", none), "news_letter", "news_letter", a_news_letter, b_news_letter, sc_news_letter, [], []⟩
abbrev n_news_letter : List Str := ["client", "number", "behind", "turn", "events", "letter"]
abbrev p_news_letter : List Str := ["client", "number", "behind", "turn", "events"]
theorem S_news_letter : FnScope n_news_letter p_news_letter sc_news_letter := ⟨rfl, rfl, rfl, by decide +kernel, rfl, by decide +kernel, by decide +kernel⟩
def a_picture_letter : Arguments := { posonlyargs := [], args := [ { arg := "client", annotation := none, pos := ⟨58, 19, 58, 25⟩ : PySem.Arg }, { arg := "number", annotation := none, pos := ⟨58, 27, 58, 33⟩ : PySem.Arg }, { arg := "turn", annotation := none, pos := ⟨58, 35, 58, 39⟩ : PySem.Arg }, { arg := "entries", annotation := none, pos := ⟨58, 41, 58, 48⟩ : PySem.Arg }], vararg := none, kwonlyargs := [], kw_defaults := [], kwarg := none, defaults := [] : PySem.Arguments }
def b_picture_letter : List Stmt := [ (PySem.Stmt.Assign (targets := [(PySem.Expr.Name "letter" ⟨59, 4, 59, 10⟩)]) (value := (PySem.Expr.Call (func := (PySem.Expr.Name "Letter" ⟨59, 13, 59, 19⟩)) (args := [
  (PySem.Expr.Name "PICTURE" ⟨59, 20, 59, 27⟩), (PySem.Expr.Name "client" ⟨59, 29, 59, 35⟩), (PySem.Expr.Name "number" ⟨59, 37, 59, 43⟩)]) (keywords := []) (pos := ⟨59, 13, 59, 44⟩)))
  (pos := ⟨59, 4, 59, 44⟩)), (PySem.Stmt.Assign (targets := [(PySem.Expr.Attribute (PySem.Expr.Name "letter" ⟨60, 4, 60, 10⟩) "turn" ⟨60, 4, 60, 15⟩)])
  (value := (PySem.Expr.Name "turn" ⟨60, 18, 60, 22⟩)) (pos := ⟨60, 4, 60, 22⟩)), (PySem.Stmt.Assign
  (targets := [(PySem.Expr.Attribute (PySem.Expr.Name "letter" ⟨61, 4, 61, 10⟩) "entries" ⟨61, 4, 61, 18⟩)]) (value := (PySem.Expr.Name "entries" ⟨61, 21, 61, 28⟩)) (pos := ⟨61, 4, 61, 28⟩)),
  (PySem.Stmt.Return (some (PySem.Expr.Name "letter" ⟨62, 11, 62, 17⟩)) ⟨62, 4, 62, 17⟩)]
def sc_picture_letter : Scope := { kind := PySem.ScopeKind.function, names := [ (PySem.Str.ofString "client", PySem.NameKind.local), (PySem.Str.ofString "number", PySem.NameKind.local), (PySem.Str.ofString "turn", PySem.NameKind.local), (PySem.Str.ofString "entries", PySem.NameKind.local), (PySem.Str.ofString "letter", PySem.NameKind.local), (PySem.Str.ofString "Letter", PySem.NameKind.globalImplicit), (PySem.Str.ofString "PICTURE", PySem.NameKind.globalImplicit)], isGenerator := false, isCoroutine := false, more := [] : PySem.Scope }
def d_picture_letter : He.DefD := ⟨("picture_letter", none), "picture_letter", "picture_letter", a_picture_letter, b_picture_letter, sc_picture_letter, [], []⟩
abbrev n_picture_letter : List Str := ["client", "number", "turn", "entries", "letter"]
abbrev p_picture_letter : List Str := ["client", "number", "turn", "entries"]
theorem S_picture_letter : FnScope n_picture_letter p_picture_letter sc_picture_letter := ⟨rfl, rfl, rfl, by decide +kernel, rfl, by decide +kernel, by decide +kernel⟩
def a_Client_init : Arguments := { posonlyargs := [], args := [ { arg := "self", annotation := none, pos := ⟨66, 17, 66, 21⟩ : PySem.Arg }, { arg := "client", annotation := none, pos := ⟨66, 23, 66, 29⟩ : PySem.Arg }], vararg := none, kwonlyargs := [], kw_defaults := [], kwarg := none, defaults := [] : PySem.Arguments }
def b_Client_init : List Stmt := [ (PySem.Stmt.Assign (targets := [(PySem.Expr.Attribute (PySem.Expr.Name "self" ⟨67, 8, 67, 12⟩) "client" ⟨67, 8, 67, 19⟩)]) (value := (PySem.Expr.Name "client" ⟨67, 22, 67, 28⟩))
  (pos := ⟨67, 8, 67, 28⟩)), (PySem.Stmt.Assign (targets := [(PySem.Expr.Attribute (PySem.Expr.Name "self" ⟨68, 8, 68, 12⟩) "number" ⟨68, 8, 68, 19⟩)])
  (value := (PySem.Expr.Constant (PySem.Const.int 0) 0 ⟨68, 22, 68, 23⟩)) (pos := ⟨68, 8, 68, 23⟩)), (PySem.Stmt.Assign
  (targets := [(PySem.Expr.Attribute (PySem.Expr.Name "self" ⟨69, 8, 69, 12⟩) "path" ⟨69, 8, 69, 17⟩)]) (value := (PySem.Expr.Tuple [] 0 ⟨69, 20, 69, 22⟩)) (pos := ⟨69, 8, 69, 22⟩)), (PySem.Stmt.Expr
  (value := (PySem.Expr.Call (func := (PySem.Expr.Attribute (PySem.Expr.Name "self" ⟨70, 8, 70, 12⟩) "forget_copy" ⟨70, 8, 70, 24⟩)) (args := []) (keywords := []) (pos := ⟨70, 8, 70, 26⟩)))
  (pos := ⟨70, 8, 70, 26⟩))]
def sc_Client_init : Scope := { kind := PySem.ScopeKind.function, names := [(PySem.Str.ofString "self", PySem.NameKind.local), (PySem.Str.ofString "client", PySem.NameKind.local)], isGenerator := false, isCoroutine := false, more := [] : PySem.Scope }
def d_Client_init : He.DefD := ⟨("Client", some "__init__"), "__init__", "Client.__init__", a_Client_init, b_Client_init, sc_Client_init, [], []⟩
abbrev n_Client_init : List Str := ["self", "client"]
abbrev p_Client_init : List Str := ["self", "client"]
theorem S_Client_init : FnScope n_Client_init p_Client_init sc_Client_init := ⟨rfl, rfl, rfl, by decide +kernel, rfl, by decide +kernel, by decide +kernel⟩
def a_Client_forget_copy : Arguments := { posonlyargs := [], args := [{ arg := "self", annotation := none, pos := ⟨72, 20, 72, 24⟩ : PySem.Arg }], vararg := none, kwonlyargs := [], kw_defaults := [], kwarg := none, defaults := [] : PySem.Arguments }
def b_Client_forget_copy : List Stmt := [ (PySem.Stmt.Assign (targets := [(PySem.Expr.Attribute (PySem.Expr.Name "self" ⟨73, 8, 73, 12⟩) "up_to" ⟨73, 8, 73, 18⟩)]) (value := (PySem.Expr.Constant PySem.Const.none 0 ⟨73, 21, 73, 25⟩))
  (pos := ⟨73, 8, 73, 25⟩)), (PySem.Stmt.Assign (targets := [(PySem.Expr.Attribute (PySem.Expr.Name "self" ⟨74, 8, 74, 12⟩) "since" ⟨74, 8, 74, 18⟩)])
  (value := (PySem.Expr.Constant (PySem.Const.int 0) 0 ⟨74, 21, 74, 22⟩)) (pos := ⟨74, 8, 74, 22⟩)), (PySem.Stmt.Assign
  (targets := [(PySem.Expr.Attribute (PySem.Expr.Name "self" ⟨75, 8, 75, 12⟩) "copied" ⟨75, 8, 75, 19⟩)]) (value := (PySem.Expr.Dict [] [] ⟨75, 22, 75, 24⟩)) (pos := ⟨75, 8, 75, 24⟩)),
  (PySem.Stmt.Assign (targets := [(PySem.Expr.Attribute (PySem.Expr.Name "self" ⟨76, 8, 76, 12⟩) "events_had" ⟨76, 8, 76, 23⟩)]) (value := (PySem.Expr.Constant (PySem.Const.int 0) 0 ⟨76, 26, 76, 27⟩))
  (pos := ⟨76, 8, 76, 27⟩)), (PySem.Stmt.Assign (targets := [(PySem.Expr.Attribute (PySem.Expr.Name "self" ⟨77, 8, 77, 12⟩) "pictures_had" ⟨77, 8, 77, 25⟩)])
  (value := (PySem.Expr.Constant (PySem.Const.int 0) 0 ⟨77, 28, 77, 29⟩)) (pos := ⟨77, 8, 77, 29⟩))]
def sc_Client_forget_copy : Scope := { kind := PySem.ScopeKind.function, names := [(PySem.Str.ofString "self", PySem.NameKind.local)], isGenerator := false, isCoroutine := false, more := [] : PySem.Scope }
def d_Client_forget_copy : He.DefD := ⟨("Client", some "forget_copy"), "forget_copy", "Client.forget_copy", a_Client_forget_copy, b_Client_forget_copy, sc_Client_forget_copy, [], []⟩
abbrev n_Client_forget_copy : List Str := ["self"]
abbrev p_Client_forget_copy : List Str := ["self"]
theorem S_Client_forget_copy : FnScope n_Client_forget_copy p_Client_forget_copy sc_Client_forget_copy := ⟨rfl, rfl, rfl, by decide +kernel, rfl, by decide +kernel, by decide +kernel⟩
def a_Client_watches : Arguments := { posonlyargs := [], args := [{ arg := "self", annotation := none, pos := ⟨79, 16, 79, 20⟩ : PySem.Arg }], vararg := none, kwonlyargs := [], kw_defaults := [], kwarg := none, defaults := [] : PySem.Arguments }
def b_Client_watches : List Stmt := [ (PySem.Stmt.Return (value := (some (PySem.Expr.Compare (left := (PySem.Expr.Attribute (PySem.Expr.Name "self" ⟨80, 15, 80, 19⟩) "number" ⟨80, 15, 80, 26⟩)) (ops := [PySem.CmpOp.Gt])
  (comparators := [(PySem.Expr.Constant (PySem.Const.int 0) 0 ⟨80, 29, 80, 30⟩)]) (pos := ⟨80, 15, 80, 30⟩)))) (pos := ⟨80, 8, 80, 30⟩))]
def sc_Client_watches : Scope := { kind := PySem.ScopeKind.function, names := [(PySem.Str.ofString "self", PySem.NameKind.local)], isGenerator := false, isCoroutine := false, more := [] : PySem.Scope }
def d_Client_watches : He.DefD := ⟨("Client", some "watches"), "watches", "Client.watches", a_Client_watches, b_Client_watches, sc_Client_watches, [], []⟩
abbrev n_Client_watches : List Str := ["self"]
abbrev p_Client_watches : List Str := ["self"]
theorem S_Client_watches : FnScope n_Client_watches p_Client_watches sc_Client_watches := ⟨rfl, rfl, rfl, by decide +kernel, rfl, by decide +kernel, by decide +kernel⟩
def a_Client_start_watch : Arguments := { posonlyargs := [], args := [ { arg := "self", annotation := none, pos := ⟨82, 20, 82, 24⟩ : PySem.Arg }, { arg := "path", annotation := none, pos := ⟨82, 26, 82, 30⟩ : PySem.Arg }, { arg := "net", annotation := none, pos := ⟨82, 32, 82, 35⟩ : PySem.Arg }], vararg := none, kwonlyargs := [], kw_defaults := [], kwarg := none, defaults := [] : PySem.Arguments }
def b_Client_start_watch : List Stmt := [ (PySem.Stmt.AugAssign (target := (PySem.Expr.Attribute (PySem.Expr.Name "self" ⟨83, 8, 83, 12⟩) "number" ⟨83, 8, 83, 19⟩)) (op := PySem.Operator.Add)
  (value := (PySem.Expr.Constant (PySem.Const.int 1) 0 ⟨83, 23, 83, 24⟩)) (pos := ⟨83, 8, 83, 24⟩)), (PySem.Stmt.Assign
  (targets := [(PySem.Expr.Attribute (PySem.Expr.Name "self" ⟨84, 8, 84, 12⟩) "path" ⟨84, 8, 84, 17⟩)]) (value := (PySem.Expr.Name "path" ⟨84, 20, 84, 24⟩)) (pos := ⟨84, 8, 84, 24⟩)), (PySem.Stmt.Expr
  (value := (PySem.Expr.Call (func := (PySem.Expr.Attribute (PySem.Expr.Name "self" ⟨85, 8, 85, 12⟩) "forget_copy" ⟨85, 8, 85, 24⟩)) (args := []) (keywords := []) (pos := ⟨85, 8, 85, 26⟩)))
  (pos := ⟨85, 8, 85, 26⟩)), (PySem.Stmt.Expr (value := (PySem.Expr.Call (func := (PySem.Expr.Attribute (PySem.Expr.Name "self" ⟨86, 8, 86, 12⟩) "ask_house" ⟨86, 8, 86, 22⟩))
  (args := [(PySem.Expr.Name "net" ⟨86, 23, 86, 26⟩)]) (keywords := []) (pos := ⟨86, 8, 86, 27⟩))) (pos := ⟨86, 8, 86, 27⟩))]
def sc_Client_start_watch : Scope := { kind := PySem.ScopeKind.function, names := [ (PySem.Str.ofString "self", PySem.NameKind.local), (PySem.Str.ofString "path", PySem.NameKind.local), (PySem.Str.ofString "net", PySem.NameKind.local)], isGenerator := false, isCoroutine := false, more := [] : PySem.Scope }
def d_Client_start_watch : He.DefD := ⟨("Client", some "start_watch"), "start_watch", "Client.start_watch", a_Client_start_watch, b_Client_start_watch, sc_Client_start_watch, [], []⟩
abbrev n_Client_start_watch : List Str := ["self", "path", "net"]
abbrev p_Client_start_watch : List Str := ["self", "path", "net"]
theorem S_Client_start_watch : FnScope n_Client_start_watch p_Client_start_watch sc_Client_start_watch := ⟨rfl, rfl, rfl, by decide +kernel, rfl, by decide +kernel, by decide +kernel⟩
def a_Client_ask_house : Arguments := { posonlyargs := [], args := [ { arg := "self", annotation := none, pos := ⟨88, 18, 88, 22⟩ : PySem.Arg }, { arg := "net", annotation := none, pos := ⟨88, 24, 88, 27⟩ : PySem.Arg }], vararg := none, kwonlyargs := [], kw_defaults := [], kwarg := none, defaults := [] : PySem.Arguments }
def b_Client_ask_house : List Stmt := [ (PySem.Stmt.Expr (value := (PySem.Expr.Call (func := (PySem.Expr.Attribute (PySem.Expr.Name "net" ⟨89, 8, 89, 11⟩) "send" ⟨89, 8, 89, 16⟩)) (args := [ (PySem.Expr.Call
  (func := (PySem.Expr.Name "asking_letter" ⟨89, 17, 89, 30⟩)) (args := [ (PySem.Expr.Attribute (PySem.Expr.Name "self" ⟨89, 31, 89, 35⟩) "client" ⟨89, 31, 89, 42⟩),
  (PySem.Expr.Attribute (PySem.Expr.Name "self" ⟨89, 44, 89, 48⟩) "number" ⟨89, 44, 89, 55⟩), (PySem.Expr.Attribute (PySem.Expr.Name "self" ⟨89, 57, 89, 61⟩) "path" ⟨89, 57, 89, 66⟩),
  (PySem.Expr.Attribute (PySem.Expr.Name "self" ⟨89, 68, 89, 72⟩) "up_to" ⟨89, 68, 89, 78⟩)]) (keywords := []) (pos := ⟨89, 17, 89, 79⟩))]) (keywords := []) (pos := ⟨89, 8, 89, 80⟩)))
  (pos := ⟨89, 8, 89, 80⟩))]
def sc_Client_ask_house : Scope := { kind := PySem.ScopeKind.function, names := [ (PySem.Str.ofString "self", PySem.NameKind.local), (PySem.Str.ofString "net", PySem.NameKind.local), (PySem.Str.ofString "asking_letter", PySem.NameKind.globalImplicit)], isGenerator := false, isCoroutine := false, more := [] : PySem.Scope }
def d_Client_ask_house : He.DefD := ⟨("Client", some "ask_house"), "ask_house", "Client.ask_house", a_Client_ask_house, b_Client_ask_house, sc_Client_ask_house, [], []⟩
abbrev n_Client_ask_house : List Str := ["self", "net"]
abbrev p_Client_ask_house : List Str := ["self", "net"]
theorem S_Client_ask_house : FnScope n_Client_ask_house p_Client_ask_house sc_Client_ask_house := ⟨rfl, rfl, rfl, by decide +kernel, rfl, by decide +kernel, by decide +kernel⟩
def a_Client_goes_up_to : Arguments := { posonlyargs := [], args := [ { arg := "self", annotation := none, pos := ⟨91, 19, 91, 23⟩ : PySem.Arg }, { arg := "turn", annotation := none, pos := ⟨91, 25, 91, 29⟩ : PySem.Arg }], vararg := none, kwonlyargs := [], kw_defaults := [], kwarg := none, defaults := [] : PySem.Arguments }
def b_Client_goes_up_to : List Stmt := [ (PySem.Stmt.Return (value := (some (PySem.Expr.BoolOp (op := PySem.BoolOp.And) (values := [ (PySem.Expr.Compare
  (left := (PySem.Expr.Attribute (PySem.Expr.Name "self" ⟨92, 15, 92, 19⟩) "up_to" ⟨92, 15, 92, 25⟩)) (ops := [PySem.CmpOp.IsNot])
  (comparators := [(PySem.Expr.Constant PySem.Const.none 0 ⟨92, 33, 92, 37⟩)]) (pos := ⟨92, 15, 92, 37⟩)), (PySem.Expr.Compare
  (left := (PySem.Expr.Attribute (PySem.Expr.Name "self" ⟨92, 42, 92, 46⟩) "up_to" ⟨92, 42, 92, 52⟩)) (ops := [PySem.CmpOp.GtE]) (comparators := [(PySem.Expr.Name "turn" ⟨92, 56, 92, 60⟩)])
  (pos := ⟨92, 42, 92, 60⟩))]) (pos := ⟨92, 15, 92, 60⟩)))) (pos := ⟨92, 8, 92, 60⟩))]
def sc_Client_goes_up_to : Scope := { kind := PySem.ScopeKind.function, names := [(PySem.Str.ofString "self", PySem.NameKind.local), (PySem.Str.ofString "turn", PySem.NameKind.local)], isGenerator := false, isCoroutine := false, more := [] : PySem.Scope }
def d_Client_goes_up_to : He.DefD := ⟨("Client", some "goes_up_to"), "goes_up_to", "Client.goes_up_to", a_Client_goes_up_to, b_Client_goes_up_to, sc_Client_goes_up_to, [], []⟩
abbrev n_Client_goes_up_to : List Str := ["self", "turn"]
abbrev p_Client_goes_up_to : List Str := ["self", "turn"]
theorem S_Client_goes_up_to : FnScope n_Client_goes_up_to p_Client_goes_up_to sc_Client_goes_up_to := ⟨rfl, rfl, rfl, by decide +kernel, rfl, by decide +kernel, by decide +kernel⟩
def a_Client_hear_news : Arguments := { posonlyargs := [], args := [ { arg := "self", annotation := none, pos := ⟨94, 18, 94, 22⟩ : PySem.Arg }, { arg := "letter", annotation := none, pos := ⟨94, 24, 94, 30⟩ : PySem.Arg }], vararg := none, kwonlyargs := [], kw_defaults := [], kwarg := none, defaults := [] : PySem.Arguments }
def b_Client_hear_news : List Stmt := [ (PySem.Stmt.If (test := (PySem.Expr.Compare (left := (PySem.Expr.Attribute (PySem.Expr.Name "letter" ⟨95, 11, 95, 17⟩) "number" ⟨95, 11, 95, 24⟩)) (ops := [PySem.CmpOp.NotEq])
  (comparators := [(PySem.Expr.Attribute (PySem.Expr.Name "self" ⟨95, 28, 95, 32⟩) "number" ⟨95, 28, 95, 39⟩)]) (pos := ⟨95, 11, 95, 39⟩)))
  (body := [(PySem.Stmt.Return (some (PySem.Expr.Name "NO_USE" ⟨96, 19, 96, 25⟩)) ⟨96, 12, 96, 25⟩)]) (orelse := []) (pos := ⟨95, 8, 96, 25⟩)), (PySem.Stmt.If (test := (PySem.Expr.Compare
  (left := (PySem.Expr.Attribute (PySem.Expr.Name "self" ⟨97, 11, 97, 15⟩) "up_to" ⟨97, 11, 97, 21⟩)) (ops := [PySem.CmpOp.Is])
  (comparators := [(PySem.Expr.Constant PySem.Const.none 0 ⟨97, 25, 97, 29⟩)]) (pos := ⟨97, 11, 97, 29⟩)))
  (body := [(PySem.Stmt.Return (some (PySem.Expr.Name "LACKS_SOMETHING" ⟨98, 19, 98, 34⟩)) ⟨98, 12, 98, 34⟩)]) (orelse := []) (pos := ⟨97, 8, 98, 34⟩)), (PySem.Stmt.If (test := (PySem.Expr.Call
  (func := (PySem.Expr.Attribute (PySem.Expr.Name "self" ⟨99, 11, 99, 15⟩) "goes_up_to" ⟨99, 11, 99, 26⟩))
  (args := [(PySem.Expr.Attribute (PySem.Expr.Name "letter" ⟨99, 27, 99, 33⟩) "turn" ⟨99, 27, 99, 38⟩)]) (keywords := []) (pos := ⟨99, 11, 99, 39⟩)))
  (body := [(PySem.Stmt.Return (some (PySem.Expr.Name "NO_USE" ⟨100, 19, 100, 25⟩)) ⟨100, 12, 100, 25⟩)]) (orelse := []) (pos := ⟨99, 8, 100, 25⟩)), (PySem.Stmt.If (test := (PySem.Expr.Compare
  (left := (PySem.Expr.Attribute (PySem.Expr.Name "self" ⟨101, 11, 101, 15⟩) "up_to" ⟨101, 11, 101, 21⟩)) (ops := [PySem.CmpOp.Lt])
  (comparators := [(PySem.Expr.Attribute (PySem.Expr.Name "letter" ⟨101, 24, 101, 30⟩) "behind" ⟨101, 24, 101, 37⟩)]) (pos := ⟨101, 11, 101, 37⟩)))
  (body := [(PySem.Stmt.Return (some (PySem.Expr.Name "LACKS_SOMETHING" ⟨102, 19, 102, 34⟩)) ⟨102, 12, 102, 34⟩)]) (orelse := []) (pos := ⟨101, 8, 102, 34⟩)), (PySem.Stmt.Expr (value := (PySem.Expr.Call
  (func := (PySem.Expr.Attribute (PySem.Expr.Name "self" ⟨103, 8, 103, 12⟩) "go_on" ⟨103, 8, 103, 18⟩)) (args := [
  (PySem.Expr.Attribute (PySem.Expr.Name "letter" ⟨103, 19, 103, 25⟩) "turn" ⟨103, 19, 103, 30⟩), (PySem.Expr.Attribute (PySem.Expr.Name "letter" ⟨103, 32, 103, 38⟩) "events" ⟨103, 32, 103, 45⟩)])
  (keywords := []) (pos := ⟨103, 8, 103, 46⟩))) (pos := ⟨103, 8, 103, 46⟩)), (PySem.Stmt.Return (some (PySem.Expr.Name "COPY_GOES_ON" ⟨104, 15, 104, 27⟩)) ⟨104, 8, 104, 27⟩)]
def sc_Client_hear_news : Scope := { kind := PySem.ScopeKind.function, names := [ (PySem.Str.ofString "self", PySem.NameKind.local), (PySem.Str.ofString "letter", PySem.NameKind.local), (PySem.Str.ofString "NO_USE", PySem.NameKind.globalImplicit), (PySem.Str.ofString "LACKS_SOMETHING", PySem.NameKind.globalImplicit), (PySem.Str.ofString "COPY_GOES_ON", PySem.NameKind.globalImplicit)], isGenerator := false, isCoroutine := false, more := [] : PySem.Scope }
def d_Client_hear_news : He.DefD := ⟨("Client", some "hear_news"), "hear_news", "Client.hear_news", a_Client_hear_news, b_Client_hear_news, sc_Client_hear_news, [], []⟩
abbrev n_Client_hear_news : List Str := ["self", "letter"]
abbrev p_Client_hear_news : List Str := ["self", "letter"]
theorem S_Client_hear_news : FnScope n_Client_hear_news p_Client_hear_news sc_Client_hear_news := ⟨rfl, rfl, rfl, by decide +kernel, rfl, by decide +kernel, by decide +kernel⟩
def a_Client_go_on : Arguments := { posonlyargs := [], args := [ { arg := "self", annotation := none, pos := ⟨106, 14, 106, 18⟩ : PySem.Arg }, { arg := "turn", annotation := none, pos := ⟨106, 20, 106, 24⟩ : PySem.Arg }, { arg := "events", annotation := none, pos := ⟨106, 26, 106, 32⟩ : PySem.Arg }], vararg := none, kwonlyargs := [], kw_defaults := [], kwarg := none, defaults := [] : PySem.Arguments }
def b_Client_go_on : List Stmt := [ (PySem.Stmt.Assign (targets := [(PySem.Expr.Attribute (PySem.Expr.Name "self" ⟨107, 8, 107, 12⟩) "up_to" ⟨107, 8, 107, 18⟩)]) (value := (PySem.Expr.Name "turn" ⟨107, 21, 107, 25⟩))
  (pos := ⟨107, 8, 107, 25⟩)), (PySem.Stmt.AugAssign (target := (PySem.Expr.Attribute (PySem.Expr.Name "self" ⟨108, 8, 108, 12⟩) "events_had" ⟨108, 8, 108, 23⟩)) (op := PySem.Operator.Add)
  (value := (PySem.Expr.Call (func := (PySem.Expr.Name "len" ⟨108, 27, 108, 30⟩)) (args := [(PySem.Expr.Name "events" ⟨108, 31, 108, 37⟩)]) (keywords := []) (pos := ⟨108, 27, 108, 38⟩)))
  (pos := ⟨108, 8, 108, 38⟩)), (PySem.Stmt.For (target := (PySem.Expr.Name "event" ⟨109, 12, 109, 17⟩)) (iter := (PySem.Expr.Name "events" ⟨109, 21, 109, 27⟩)) (body := [ (PySem.Stmt.If
  (test := (PySem.Expr.Compare (left := (PySem.Expr.Attribute (PySem.Expr.Name "event" ⟨110, 15, 110, 20⟩) "what" ⟨110, 15, 110, 25⟩)) (ops := [PySem.CmpOp.Eq])
  (comparators := [(PySem.Expr.Name "GONE" ⟨110, 29, 110, 33⟩)]) (pos := ⟨110, 15, 110, 33⟩))) (body := [ (PySem.Stmt.Expr (value := (PySem.Expr.Call (func := (PySem.Expr.Attribute
  (value := (PySem.Expr.Attribute (PySem.Expr.Name "self" ⟨111, 16, 111, 20⟩) "copied" ⟨111, 16, 111, 27⟩)) (attr := "pop") (pos := ⟨111, 16, 111, 31⟩))) (args := [
  (PySem.Expr.Attribute (PySem.Expr.Name "event" ⟨111, 32, 111, 37⟩) "path" ⟨111, 32, 111, 42⟩), (PySem.Expr.Constant PySem.Const.none 0 ⟨111, 44, 111, 48⟩)]) (keywords := [])
  (pos := ⟨111, 16, 111, 49⟩))) (pos := ⟨111, 16, 111, 49⟩))]) (orelse := [ (PySem.Stmt.Assign (targets := [ (PySem.Expr.Subscript
  (value := (PySem.Expr.Attribute (PySem.Expr.Name "self" ⟨113, 16, 113, 20⟩) "copied" ⟨113, 16, 113, 27⟩))
  (slice := (PySem.Expr.Attribute (PySem.Expr.Name "event" ⟨113, 28, 113, 33⟩) "path" ⟨113, 28, 113, 38⟩)) (pos := ⟨113, 16, 113, 39⟩))])
  (value := (PySem.Expr.Attribute (PySem.Expr.Name "event" ⟨113, 42, 113, 47⟩) "value" ⟨113, 42, 113, 53⟩)) (pos := ⟨113, 16, 113, 53⟩))]) (pos := ⟨110, 12, 113, 53⟩))]) (orelse := [])
  (pos := ⟨109, 8, 113, 53⟩))]
def sc_Client_go_on : Scope := { kind := PySem.ScopeKind.function, names := [ (PySem.Str.ofString "self", PySem.NameKind.local), (PySem.Str.ofString "turn", PySem.NameKind.local), (PySem.Str.ofString "events", PySem.NameKind.local), (PySem.Str.ofString "event", PySem.NameKind.local), (PySem.Str.ofString "len", PySem.NameKind.globalImplicit), (PySem.Str.ofString "GONE", PySem.NameKind.globalImplicit)], isGenerator := false, isCoroutine := false, more := [] : PySem.Scope }
def d_Client_go_on : He.DefD := ⟨("Client", some "go_on"), "go_on", "Client.go_on", a_Client_go_on, b_Client_go_on, sc_Client_go_on, [], []⟩
abbrev n_Client_go_on : List Str := ["self", "turn", "events", "event"]
abbrev p_Client_go_on : List Str := ["self", "turn", "events"]
theorem S_Client_go_on : FnScope n_Client_go_on p_Client_go_on sc_Client_go_on := ⟨rfl, rfl, rfl, by decide +kernel, rfl, by decide +kernel, by decide +kernel⟩
def a_Client_see_picture : Arguments := { posonlyargs := [], args := [ { arg := "self", annotation := none, pos := ⟨115, 20, 115, 24⟩ : PySem.Arg }, { arg := "letter", annotation := none, pos := ⟨115, 26, 115, 32⟩ : PySem.Arg }], vararg := none, kwonlyargs := [], kw_defaults := [], kwarg := none, defaults := [] : PySem.Arguments }
def b_Client_see_picture : List Stmt := [ (PySem.Stmt.If (test := (PySem.Expr.BoolOp (op := PySem.BoolOp.Or) (values := [ (PySem.Expr.Compare
  (left := (PySem.Expr.Attribute (PySem.Expr.Name "letter" ⟨116, 11, 116, 17⟩) "number" ⟨116, 11, 116, 24⟩)) (ops := [PySem.CmpOp.NotEq])
  (comparators := [(PySem.Expr.Attribute (PySem.Expr.Name "self" ⟨116, 28, 116, 32⟩) "number" ⟨116, 28, 116, 39⟩)]) (pos := ⟨116, 11, 116, 39⟩)), (PySem.Expr.Call
  (func := (PySem.Expr.Attribute (PySem.Expr.Name "self" ⟨116, 43, 116, 47⟩) "goes_up_to" ⟨116, 43, 116, 58⟩))
  (args := [(PySem.Expr.Attribute (PySem.Expr.Name "letter" ⟨116, 59, 116, 65⟩) "turn" ⟨116, 59, 116, 70⟩)]) (keywords := []) (pos := ⟨116, 43, 116, 71⟩))]) (pos := ⟨116, 11, 116, 71⟩)))
  (body := [(PySem.Stmt.Return (some (PySem.Expr.Name "NO_USE" ⟨117, 19, 117, 25⟩)) ⟨117, 12, 117, 25⟩)]) (orelse := []) (pos := ⟨116, 8, 117, 25⟩)), (PySem.Stmt.Assign
  (targets := [(PySem.Expr.Attribute (PySem.Expr.Name "self" ⟨118, 8, 118, 12⟩) "up_to" ⟨118, 8, 118, 18⟩)])
  (value := (PySem.Expr.Attribute (PySem.Expr.Name "letter" ⟨118, 21, 118, 27⟩) "turn" ⟨118, 21, 118, 32⟩)) (pos := ⟨118, 8, 118, 32⟩)), (PySem.Stmt.Assign
  (targets := [(PySem.Expr.Attribute (PySem.Expr.Name "self" ⟨119, 8, 119, 12⟩) "since" ⟨119, 8, 119, 18⟩)])
  (value := (PySem.Expr.Attribute (PySem.Expr.Name "letter" ⟨119, 21, 119, 27⟩) "turn" ⟨119, 21, 119, 32⟩)) (pos := ⟨119, 8, 119, 32⟩)), (PySem.Stmt.Assign
  (targets := [(PySem.Expr.Attribute (PySem.Expr.Name "self" ⟨120, 8, 120, 12⟩) "copied" ⟨120, 8, 120, 19⟩)]) (value := (PySem.Expr.Dict [] [] ⟨120, 22, 120, 24⟩)) (pos := ⟨120, 8, 120, 24⟩)),
  (PySem.Stmt.For (target := (PySem.Expr.Tuple (elts := [(PySem.Expr.Name "path" ⟨121, 12, 121, 16⟩), (PySem.Expr.Name "value" ⟨121, 18, 121, 23⟩)]) (k := 0) (pos := ⟨121, 12, 121, 23⟩)))
  (iter := (PySem.Expr.Attribute (PySem.Expr.Name "letter" ⟨121, 27, 121, 33⟩) "entries" ⟨121, 27, 121, 41⟩)) (body := [ (PySem.Stmt.Assign (targets := [ (PySem.Expr.Subscript
  (value := (PySem.Expr.Attribute (PySem.Expr.Name "self" ⟨122, 12, 122, 16⟩) "copied" ⟨122, 12, 122, 23⟩)) (slice := (PySem.Expr.Name "path" ⟨122, 24, 122, 28⟩)) (pos := ⟨122, 12, 122, 29⟩))])
  (value := (PySem.Expr.Name "value" ⟨122, 32, 122, 37⟩)) (pos := ⟨122, 12, 122, 37⟩))]) (orelse := []) (pos := ⟨121, 8, 122, 37⟩)), (PySem.Stmt.Assign
  (targets := [(PySem.Expr.Attribute (PySem.Expr.Name "self" ⟨123, 8, 123, 12⟩) "events_had" ⟨123, 8, 123, 23⟩)]) (value := (PySem.Expr.Constant (PySem.Const.int 0) 0 ⟨123, 26, 123, 27⟩))
  (pos := ⟨123, 8, 123, 27⟩)), (PySem.Stmt.AugAssign (target := (PySem.Expr.Attribute (PySem.Expr.Name "self" ⟨124, 8, 124, 12⟩) "pictures_had" ⟨124, 8, 124, 25⟩)) (op := PySem.Operator.Add)
  (value := (PySem.Expr.Constant (PySem.Const.int 1) 0 ⟨124, 29, 124, 30⟩)) (pos := ⟨124, 8, 124, 30⟩)), (PySem.Stmt.Return (some (PySem.Expr.Name "HAS_PICTURE" ⟨125, 15, 125, 26⟩)) ⟨125, 8, 125, 26⟩)]
def sc_Client_see_picture : Scope := { kind := PySem.ScopeKind.function, names := [ (PySem.Str.ofString "self", PySem.NameKind.local), (PySem.Str.ofString "letter", PySem.NameKind.local), (PySem.Str.ofString "path", PySem.NameKind.local), (PySem.Str.ofString "value", PySem.NameKind.local), (PySem.Str.ofString "NO_USE", PySem.NameKind.globalImplicit), (PySem.Str.ofString "HAS_PICTURE", PySem.NameKind.globalImplicit)], isGenerator := false, isCoroutine := false, more := [] : PySem.Scope }
def d_Client_see_picture : He.DefD := ⟨("Client", some "see_picture"), "see_picture", "Client.see_picture", a_Client_see_picture, b_Client_see_picture, sc_Client_see_picture, [], []⟩
abbrev n_Client_see_picture : List Str := ["self", "letter", "path", "value"]
abbrev p_Client_see_picture : List Str := ["self", "letter"]
theorem S_Client_see_picture : FnScope n_Client_see_picture p_Client_see_picture sc_Client_see_picture := ⟨rfl, rfl, rfl, by decide +kernel, rfl, by decide +kernel, by decide +kernel⟩
def a_Client_entries_in_order : Arguments := { posonlyargs := [], args := [{ arg := "self", annotation := none, pos := ⟨127, 25, 127, 29⟩ : PySem.Arg }], vararg := none, kwonlyargs := [], kw_defaults := [], kwarg := none, defaults := [] : PySem.Arguments }
def b_Client_entries_in_order : List Stmt := [ (PySem.Stmt.Return (value := (some (PySem.Expr.ListComp (elt := (PySem.Expr.Tuple (elts := [ (PySem.Expr.Name "path" ⟨128, 17, 128, 21⟩), (PySem.Expr.Subscript
  (value := (PySem.Expr.Attribute (PySem.Expr.Name "self" ⟨128, 23, 128, 27⟩) "copied" ⟨128, 23, 128, 34⟩)) (slice := (PySem.Expr.Name "path" ⟨128, 35, 128, 39⟩)) (pos := ⟨128, 23, 128, 40⟩))]) (k := 0)
  (pos := ⟨128, 16, 128, 41⟩))) (generators := [ { target := (PySem.Expr.Name "path" ⟨128, 46, 128, 50⟩), iter := (PySem.Expr.Call (func := (PySem.Expr.Name "sorted" ⟨128, 54, 128, 60⟩)) (args := [(PySem.Expr.Attribute (PySem.Expr.Name "self" ⟨128, 61, 128, 65⟩) "copied" ⟨128, 61, 128, 72⟩)]) (keywords := []) (pos := ⟨128, 54, 128, 73⟩)), ifs := [], is_async := 0 : PySem.Comprehension }])
  (scope := { kind := PySem.ScopeKind.function, names := [ (PySem.Str.ofString ".0", PySem.NameKind.local), (PySem.Str.ofString "path", PySem.NameKind.local), (PySem.Str.ofString "self", PySem.NameKind.free)], isGenerator := false, isCoroutine := false, more := [] : PySem.Scope })
  (pos := ⟨128, 15, 128, 74⟩)))) (pos := ⟨128, 8, 128, 74⟩))]
def sc_Client_entries_in_order : Scope := { kind := PySem.ScopeKind.function, names := [ (PySem.Str.ofString "self", PySem.NameKind.cell), (PySem.Str.ofString "sorted", PySem.NameKind.globalImplicit)], isGenerator := false, isCoroutine := false, more := [(PySem.Str.ofString "fast", (PySem.Const.str "self")), (PySem.Str.ofString "fast", (PySem.Const.str "path"))] : PySem.Scope }
def d_Client_entries_in_order : He.DefD := ⟨("Client", some "entries_in_order"), "entries_in_order", "Client.entries_in_order", a_Client_entries_in_order, b_Client_entries_in_order, sc_Client_entries_in_order, [], []⟩
abbrev n_Client_entries_in_order : List Str := ["self", "path"]
abbrev p_Client_entries_in_order : List Str := ["self"]
theorem S_Client_entries_in_order : FnScope n_Client_entries_in_order p_Client_entries_in_order sc_Client_entries_in_order := ⟨rfl, rfl, rfl, by decide +kernel, rfl, by decide +kernel, by decide +kernel⟩
def a_is_path_or_empty : Arguments := { posonlyargs := [], args := [{ arg := "numbers", annotation := none, pos := ⟨132, 21, 132, 28⟩ : PySem.Arg }], vararg := none, kwonlyargs := [], kw_defaults := [], kwarg := none, defaults := [] : PySem.Arguments }
def b_is_path_or_empty : List Stmt := [ (PySem.Stmt.Return (value := (some (PySem.Expr.BoolOp (op := PySem.BoolOp.And) (values := [ (PySem.Expr.Compare (left := (PySem.Expr.Call (func := (PySem.Expr.Name "len" ⟨133, 11, 133, 14⟩))
  (args := [(PySem.Expr.Name "numbers" ⟨133, 15, 133, 22⟩)]) (keywords := []) (pos := ⟨133, 11, 133, 23⟩))) (ops := [PySem.CmpOp.LtE]) (comparators := [(PySem.Expr.Name "LONGEST" ⟨133, 27, 133, 34⟩)])
  (pos := ⟨133, 11, 133, 34⟩)), (PySem.Expr.Call (func := (PySem.Expr.Name "all" ⟨133, 39, 133, 42⟩)) (args := [ (PySem.Expr.ListComp (elt := (PySem.Expr.Compare
  (left := (PySem.Expr.Name "number" ⟨133, 44, 133, 50⟩)) (ops := [PySem.CmpOp.LtE]) (comparators := [(PySem.Expr.Name "GREATEST" ⟨133, 54, 133, 62⟩)]) (pos := ⟨133, 44, 133, 62⟩))) (generators := [ { target := (PySem.Expr.Name "number" ⟨133, 67, 133, 73⟩), iter := (PySem.Expr.Name "numbers" ⟨133, 77, 133, 84⟩), ifs := [], is_async := 0 : PySem.Comprehension }])
  (scope := { kind := PySem.ScopeKind.function, names := [ (PySem.Str.ofString ".0", PySem.NameKind.local), (PySem.Str.ofString "number", PySem.NameKind.local), (PySem.Str.ofString "GREATEST", PySem.NameKind.globalImplicit)], isGenerator := false, isCoroutine := false, more := [] : PySem.Scope })
  (pos := ⟨133, 43, 133, 85⟩))]) (keywords := []) (pos := ⟨133, 39, 133, 86⟩))]) (pos := ⟨133, 11, 133, 86⟩)))) (pos := ⟨133, 4, 133, 86⟩))]
def sc_is_path_or_empty : Scope := { kind := PySem.ScopeKind.function, names := [ (PySem.Str.ofString "numbers", PySem.NameKind.local), (PySem.Str.ofString "len", PySem.NameKind.globalImplicit), (PySem.Str.ofString "LONGEST", PySem.NameKind.globalImplicit), (PySem.Str.ofString "all", PySem.NameKind.globalImplicit)], isGenerator := false, isCoroutine := false, more := [ (PySem.Str.ofString "fast", (PySem.Const.str "numbers")), (PySem.Str.ofString "fast", (PySem.Const.str "number"))] : PySem.Scope }
def d_is_path_or_empty : He.DefD := ⟨("is_path_or_empty", none), "is_path_or_empty", "is_path_or_empty", a_is_path_or_empty, b_is_path_or_empty, sc_is_path_or_empty, [], []⟩
abbrev n_is_path_or_empty : List Str := ["numbers", "number"]
abbrev p_is_path_or_empty : List Str := ["numbers"]
theorem S_is_path_or_empty : FnScope n_is_path_or_empty p_is_path_or_empty sc_is_path_or_empty := ⟨rfl, rfl, rfl, by decide +kernel, rfl, by decide +kernel, by decide +kernel⟩
def a_is_path : Arguments := { posonlyargs := [], args := [{ arg := "numbers", annotation := none, pos := ⟨134, 12, 134, 19⟩ : PySem.Arg }], vararg := none, kwonlyargs := [], kw_defaults := [], kwarg := none, defaults := [] : PySem.Arguments }
def b_is_path : List Stmt := [ (PySem.Stmt.Return (value := (some (PySem.Expr.BoolOp (op := PySem.BoolOp.And) (values := [ (PySem.Expr.Compare (left := (PySem.Expr.Call (func := (PySem.Expr.Name "len" ⟨135, 11, 135, 14⟩))
  (args := [(PySem.Expr.Name "numbers" ⟨135, 15, 135, 22⟩)]) (keywords := []) (pos := ⟨135, 11, 135, 23⟩))) (ops := [PySem.CmpOp.Gt])
  (comparators := [(PySem.Expr.Constant (PySem.Const.int 0) 0 ⟨135, 26, 135, 27⟩)]) (pos := ⟨135, 11, 135, 27⟩)), (PySem.Expr.Call (func := (PySem.Expr.Name "is_path_or_empty" ⟨135, 32, 135, 48⟩))
  (args := [(PySem.Expr.Name "numbers" ⟨135, 49, 135, 56⟩)]) (keywords := []) (pos := ⟨135, 32, 135, 57⟩))]) (pos := ⟨135, 11, 135, 57⟩)))) (pos := ⟨135, 4, 135, 57⟩))]
def sc_is_path : Scope := { kind := PySem.ScopeKind.function, names := [ (PySem.Str.ofString "numbers", PySem.NameKind.local), (PySem.Str.ofString "len", PySem.NameKind.globalImplicit), (PySem.Str.ofString "is_path_or_empty", PySem.NameKind.globalImplicit)], isGenerator := false, isCoroutine := false, more := [] : PySem.Scope }
def d_is_path : He.DefD := ⟨("is_path", none), "is_path", "is_path", a_is_path, b_is_path, sc_is_path, [], []⟩
abbrev n_is_path : List Str := ["numbers"]
abbrev p_is_path : List Str := ["numbers"]
theorem S_is_path : FnScope n_is_path p_is_path sc_is_path := ⟨rfl, rfl, rfl, by decide +kernel, rfl, by decide +kernel, by decide +kernel⟩
def a_is_below : Arguments := { posonlyargs := [], args := [ { arg := "path", annotation := none, pos := ⟨136, 13, 136, 17⟩ : PySem.Arg }, { arg := "top", annotation := none, pos := ⟨136, 19, 136, 22⟩ : PySem.Arg }], vararg := none, kwonlyargs := [], kw_defaults := [], kwarg := none, defaults := [] : PySem.Arguments }
def b_is_below : List Stmt := [ (PySem.Stmt.Return (value := (some (PySem.Expr.Compare (left := (PySem.Expr.Subscript (value := (PySem.Expr.Name "path" ⟨137, 11, 137, 15⟩)) (slice := (PySem.Expr.Slice (lower := none)
  (upper := (some (PySem.Expr.Call (func := (PySem.Expr.Name "len" ⟨137, 17, 137, 20⟩)) (args := [(PySem.Expr.Name "top" ⟨137, 21, 137, 24⟩)]) (keywords := []) (pos := ⟨137, 17, 137, 25⟩))))
  (step := none) (pos := ⟨137, 16, 137, 25⟩))) (pos := ⟨137, 11, 137, 26⟩))) (ops := [PySem.CmpOp.Eq]) (comparators := [(PySem.Expr.Name "top" ⟨137, 30, 137, 33⟩)]) (pos := ⟨137, 11, 137, 33⟩))))
  (pos := ⟨137, 4, 137, 33⟩))]
def sc_is_below : Scope := { kind := PySem.ScopeKind.function, names := [ (PySem.Str.ofString "path", PySem.NameKind.local), (PySem.Str.ofString "top", PySem.NameKind.local), (PySem.Str.ofString "len", PySem.NameKind.globalImplicit)], isGenerator := false, isCoroutine := false, more := [] : PySem.Scope }
def d_is_below : He.DefD := ⟨("is_below", none), "is_below", "is_below", a_is_below, b_is_below, sc_is_below, [], []⟩
abbrev n_is_below : List Str := ["path", "top"]
abbrev p_is_below : List Str := ["path", "top"]
theorem S_is_below : FnScope n_is_below p_is_below sc_is_below := ⟨rfl, rfl, rfl, by decide +kernel, rfl, by decide +kernel, by decide +kernel⟩
def a_Node_init : Arguments := { posonlyargs := [], args := [ { arg := "self", annotation := none, pos := ⟨141, 17, 141, 21⟩ : PySem.Arg }, { arg := "value", annotation := none, pos := ⟨141, 23, 141, 28⟩ : PySem.Arg }, { arg := "version", annotation := none, pos := ⟨141, 30, 141, 37⟩ : PySem.Arg }, { arg := "made", annotation := none, pos := ⟨141, 39, 141, 43⟩ : PySem.Arg }, { arg := "changed", annotation := none, pos := ⟨141, 45, 141, 52⟩ : PySem.Arg }, { arg := "held", annotation := none, pos := ⟨141, 54, 141, 58⟩ : PySem.Arg }], vararg := none, kwonlyargs := [], kw_defaults := [], kwarg := none, defaults := [] : PySem.Arguments }
def b_Node_init : List Stmt := [ (PySem.Stmt.Assign (targets := [(PySem.Expr.Attribute (PySem.Expr.Name "self" ⟨142, 8, 142, 12⟩) "value" ⟨142, 8, 142, 18⟩)]) (value := (PySem.Expr.Name "value" ⟨142, 21, 142, 26⟩))
  (pos := ⟨142, 8, 142, 26⟩)), (PySem.Stmt.Assign (targets := [(PySem.Expr.Attribute (PySem.Expr.Name "self" ⟨143, 8, 143, 12⟩) "version" ⟨143, 8, 143, 20⟩)])
  (value := (PySem.Expr.Name "version" ⟨143, 23, 143, 30⟩)) (pos := ⟨143, 8, 143, 30⟩)), (PySem.Stmt.Assign
  (targets := [(PySem.Expr.Attribute (PySem.Expr.Name "self" ⟨144, 8, 144, 12⟩) "made" ⟨144, 8, 144, 17⟩)]) (value := (PySem.Expr.Name "made" ⟨144, 20, 144, 24⟩)) (pos := ⟨144, 8, 144, 24⟩)),
  (PySem.Stmt.Assign (targets := [(PySem.Expr.Attribute (PySem.Expr.Name "self" ⟨145, 8, 145, 12⟩) "changed" ⟨145, 8, 145, 20⟩)]) (value := (PySem.Expr.Name "changed" ⟨145, 23, 145, 30⟩))
  (pos := ⟨145, 8, 145, 30⟩)), (PySem.Stmt.Assign (targets := [(PySem.Expr.Attribute (PySem.Expr.Name "self" ⟨146, 8, 146, 12⟩) "held" ⟨146, 8, 146, 17⟩)])
  (value := (PySem.Expr.Name "held" ⟨146, 20, 146, 24⟩)) (pos := ⟨146, 8, 146, 24⟩))]
def sc_Node_init : Scope := { kind := PySem.ScopeKind.function, names := [ (PySem.Str.ofString "self", PySem.NameKind.local), (PySem.Str.ofString "value", PySem.NameKind.local), (PySem.Str.ofString "version", PySem.NameKind.local), (PySem.Str.ofString "made", PySem.NameKind.local), (PySem.Str.ofString "changed", PySem.NameKind.local), (PySem.Str.ofString "held", PySem.NameKind.local)], isGenerator := false, isCoroutine := false, more := [] : PySem.Scope }
def d_Node_init : He.DefD := ⟨("Node", some "__init__"), "__init__", "Node.__init__", a_Node_init, b_Node_init, sc_Node_init, [], []⟩
abbrev n_Node_init : List Str := ["self", "value", "version", "made", "changed", "held"]
abbrev p_Node_init : List Str := ["self", "value", "version", "made", "changed", "held"]
theorem S_Node_init : FnScope n_Node_init p_Node_init sc_Node_init := ⟨rfl, rfl, rfl, by decide +kernel, rfl, by decide +kernel, by decide +kernel⟩
def a_Watcher_init : Arguments := { posonlyargs := [], args := [ { arg := "self", annotation := none, pos := ⟨149, 17, 149, 21⟩ : PySem.Arg }, { arg := "client", annotation := none, pos := ⟨149, 23, 149, 29⟩ : PySem.Arg }, { arg := "number", annotation := none, pos := ⟨149, 31, 149, 37⟩ : PySem.Arg }, { arg := "path", annotation := none, pos := ⟨149, 39, 149, 43⟩ : PySem.Arg }, { arg := "last", annotation := none, pos := ⟨149, 45, 149, 49⟩ : PySem.Arg }], vararg := none, kwonlyargs := [], kw_defaults := [], kwarg := none, defaults := [] : PySem.Arguments }
def b_Watcher_init : List Stmt := [ (PySem.Stmt.Assign (targets := [(PySem.Expr.Attribute (PySem.Expr.Name "self" ⟨150, 8, 150, 12⟩) "client" ⟨150, 8, 150, 19⟩)]) (value := (PySem.Expr.Name "client" ⟨150, 22, 150, 28⟩))
  (pos := ⟨150, 8, 150, 28⟩)), (PySem.Stmt.Assign (targets := [(PySem.Expr.Attribute (PySem.Expr.Name "self" ⟨151, 8, 151, 12⟩) "number" ⟨151, 8, 151, 19⟩)])
  (value := (PySem.Expr.Name "number" ⟨151, 22, 151, 28⟩)) (pos := ⟨151, 8, 151, 28⟩)), (PySem.Stmt.Assign
  (targets := [(PySem.Expr.Attribute (PySem.Expr.Name "self" ⟨152, 8, 152, 12⟩) "path" ⟨152, 8, 152, 17⟩)]) (value := (PySem.Expr.Name "path" ⟨152, 20, 152, 24⟩)) (pos := ⟨152, 8, 152, 24⟩)),
  (PySem.Stmt.Assign (targets := [(PySem.Expr.Attribute (PySem.Expr.Name "self" ⟨153, 8, 153, 12⟩) "last" ⟨153, 8, 153, 17⟩)]) (value := (PySem.Expr.Name "last" ⟨153, 20, 153, 24⟩))
  (pos := ⟨153, 8, 153, 24⟩))]
def sc_Watcher_init : Scope := { kind := PySem.ScopeKind.function, names := [ (PySem.Str.ofString "self", PySem.NameKind.local), (PySem.Str.ofString "client", PySem.NameKind.local), (PySem.Str.ofString "number", PySem.NameKind.local), (PySem.Str.ofString "path", PySem.NameKind.local), (PySem.Str.ofString "last", PySem.NameKind.local)], isGenerator := false, isCoroutine := false, more := [] : PySem.Scope }
def d_Watcher_init : He.DefD := ⟨("Watcher", some "__init__"), "__init__", "Watcher.__init__", a_Watcher_init, b_Watcher_init, sc_Watcher_init, [], []⟩
abbrev n_Watcher_init : List Str := ["self", "client", "number", "path", "last"]
abbrev p_Watcher_init : List Str := ["self", "client", "number", "path", "last"]
theorem S_Watcher_init : FnScope n_Watcher_init p_Watcher_init sc_Watcher_init := ⟨rfl, rfl, rfl, by decide +kernel, rfl, by decide +kernel, by decide +kernel⟩
def a_House_init : Arguments := { posonlyargs := [], args := [ { arg := "self", annotation := none, pos := ⟨156, 17, 156, 21⟩ : PySem.Arg }, { arg := "life", annotation := none, pos := ⟨156, 23, 156, 27⟩ : PySem.Arg }, { arg := "net", annotation := none, pos := ⟨156, 29, 156, 32⟩ : PySem.Arg }], vararg := none, kwonlyargs := [], kw_defaults := [], kwarg := none, defaults := [] : PySem.Arguments }
def b_House_init : List Stmt := [ (PySem.Stmt.Assign (targets := [(PySem.Expr.Attribute (PySem.Expr.Name "self" ⟨157, 8, 157, 12⟩) "life" ⟨157, 8, 157, 17⟩)]) (value := (PySem.Expr.Name "life" ⟨157, 20, 157, 24⟩))
  (pos := ⟨157, 8, 157, 24⟩)), (PySem.Stmt.Assign (targets := [(PySem.Expr.Attribute (PySem.Expr.Name "self" ⟨158, 8, 158, 12⟩) "net" ⟨158, 8, 158, 16⟩)])
  (value := (PySem.Expr.Name "net" ⟨158, 19, 158, 22⟩)) (pos := ⟨158, 8, 158, 22⟩)), (PySem.Stmt.Assign
  (targets := [(PySem.Expr.Attribute (PySem.Expr.Name "self" ⟨159, 8, 159, 12⟩) "time" ⟨159, 8, 159, 17⟩)]) (value := (PySem.Expr.Constant (PySem.Const.int 0) 0 ⟨159, 20, 159, 21⟩))
  (pos := ⟨159, 8, 159, 21⟩)), (PySem.Stmt.Assign (targets := [(PySem.Expr.Attribute (PySem.Expr.Name "self" ⟨160, 8, 160, 12⟩) "opened" ⟨160, 8, 160, 19⟩)])
  (value := (PySem.Expr.Constant (PySem.Const.int 0) 0 ⟨160, 22, 160, 23⟩)) (pos := ⟨160, 8, 160, 23⟩)), (PySem.Stmt.Assign
  (targets := [(PySem.Expr.Attribute (PySem.Expr.Name "self" ⟨161, 8, 161, 12⟩) "seen" ⟨161, 8, 161, 17⟩)]) (value := (PySem.Expr.Dict [] [] ⟨161, 20, 161, 22⟩)) (pos := ⟨161, 8, 161, 22⟩)),
  (PySem.Stmt.Assign (targets := [(PySem.Expr.Attribute (PySem.Expr.Name "self" ⟨162, 8, 162, 12⟩) "nodes" ⟨162, 8, 162, 18⟩)]) (value := (PySem.Expr.Dict [] [] ⟨162, 21, 162, 23⟩))
  (pos := ⟨162, 8, 162, 23⟩)), (PySem.Stmt.Assign (targets := [(PySem.Expr.Attribute (PySem.Expr.Name "self" ⟨163, 8, 163, 12⟩) "turns" ⟨163, 8, 163, 18⟩)])
  (value := (PySem.Expr.List [] ⟨163, 21, 163, 23⟩)) (pos := ⟨163, 8, 163, 23⟩)), (PySem.Stmt.Assign
  (targets := [(PySem.Expr.Attribute (PySem.Expr.Name "self" ⟨164, 8, 164, 12⟩) "base" ⟨164, 8, 164, 17⟩)]) (value := (PySem.Expr.Constant (PySem.Const.int 0) 0 ⟨164, 20, 164, 21⟩))
  (pos := ⟨164, 8, 164, 21⟩)), (PySem.Stmt.Assign (targets := [(PySem.Expr.Attribute (PySem.Expr.Name "self" ⟨165, 8, 165, 12⟩) "watchers" ⟨165, 8, 165, 21⟩)])
  (value := (PySem.Expr.List [] ⟨165, 24, 165, 26⟩)) (pos := ⟨165, 8, 165, 26⟩))]
def sc_House_init : Scope := { kind := PySem.ScopeKind.function, names := [ (PySem.Str.ofString "self", PySem.NameKind.local), (PySem.Str.ofString "life", PySem.NameKind.local), (PySem.Str.ofString "net", PySem.NameKind.local)], isGenerator := false, isCoroutine := false, more := [] : PySem.Scope }
def d_House_init : He.DefD := ⟨("House", some "__init__"), "__init__", "House.__init__", a_House_init, b_House_init, sc_House_init, [], []⟩
abbrev n_House_init : List Str := ["self", "life", "net"]
abbrev p_House_init : List Str := ["self", "life", "net"]
theorem S_House_init : FnScope n_House_init p_House_init sc_House_init := ⟨rfl, rfl, rfl, by decide +kernel, rfl, by decide +kernel, by decide +kernel⟩
def a_House_last_turn : Arguments := { posonlyargs := [], args := [{ arg := "self", annotation := none, pos := ⟨167, 18, 167, 22⟩ : PySem.Arg }], vararg := none, kwonlyargs := [], kw_defaults := [], kwarg := none, defaults := [] : PySem.Arguments }
def b_House_last_turn : List Stmt := [ (PySem.Stmt.Return (value := (some (PySem.Expr.Call (func := (PySem.Expr.Name "len" ⟨168, 15, 168, 18⟩))
  (args := [(PySem.Expr.Attribute (PySem.Expr.Name "self" ⟨168, 19, 168, 23⟩) "turns" ⟨168, 19, 168, 29⟩)]) (keywords := []) (pos := ⟨168, 15, 168, 30⟩)))) (pos := ⟨168, 8, 168, 30⟩))]
def sc_House_last_turn : Scope := { kind := PySem.ScopeKind.function, names := [(PySem.Str.ofString "self", PySem.NameKind.local), (PySem.Str.ofString "len", PySem.NameKind.globalImplicit)], isGenerator := false, isCoroutine := false, more := [] : PySem.Scope }
def d_House_last_turn : He.DefD := ⟨("House", some "last_turn"), "last_turn", "House.last_turn", a_House_last_turn, b_House_last_turn, sc_House_last_turn, [], []⟩
abbrev n_House_last_turn : List Str := ["self"]
abbrev p_House_last_turn : List Str := ["self"]
theorem S_House_last_turn : FnScope n_House_last_turn p_House_last_turn sc_House_last_turn := ⟨rfl, rfl, rfl, by decide +kernel, rfl, by decide +kernel, by decide +kernel⟩
def a_House_has_turn : Arguments := { posonlyargs := [], args := [ { arg := "self", annotation := none, pos := ⟨170, 17, 170, 21⟩ : PySem.Arg }, { arg := "turn", annotation := none, pos := ⟨170, 23, 170, 27⟩ : PySem.Arg }], vararg := none, kwonlyargs := [], kw_defaults := [], kwarg := none, defaults := [] : PySem.Arguments }
def b_House_has_turn : List Stmt := [ (PySem.Stmt.Return (value := (some (PySem.Expr.Compare (left := (PySem.Expr.Constant (PySem.Const.int 1) 0 ⟨171, 15, 171, 16⟩)) (ops := [PySem.CmpOp.LtE, PySem.CmpOp.LtE]) (comparators := [
  (PySem.Expr.Name "turn" ⟨171, 20, 171, 24⟩), (PySem.Expr.Call (func := (PySem.Expr.Attribute (PySem.Expr.Name "self" ⟨171, 28, 171, 32⟩) "last_turn" ⟨171, 28, 171, 42⟩)) (args := []) (keywords := [])
  (pos := ⟨171, 28, 171, 44⟩))]) (pos := ⟨171, 15, 171, 44⟩)))) (pos := ⟨171, 8, 171, 44⟩))]
def sc_House_has_turn : Scope := { kind := PySem.ScopeKind.function, names := [(PySem.Str.ofString "self", PySem.NameKind.local), (PySem.Str.ofString "turn", PySem.NameKind.local)], isGenerator := false, isCoroutine := false, more := [] : PySem.Scope }
def d_House_has_turn : He.DefD := ⟨("House", some "has_turn"), "has_turn", "House.has_turn", a_House_has_turn, b_House_has_turn, sc_House_has_turn, [], []⟩
abbrev n_House_has_turn : List Str := ["self", "turn"]
abbrev p_House_has_turn : List Str := ["self", "turn"]
theorem S_House_has_turn : FnScope n_House_has_turn p_House_has_turn sc_House_has_turn := ⟨rfl, rfl, rfl, by decide +kernel, rfl, by decide +kernel, by decide +kernel⟩
def a_House_events_of : Arguments := { posonlyargs := [], args := [ { arg := "self", annotation := none, pos := ⟨173, 18, 173, 22⟩ : PySem.Arg }, { arg := "turn", annotation := none, pos := ⟨173, 24, 173, 28⟩ : PySem.Arg }], vararg := none, kwonlyargs := [], kw_defaults := [], kwarg := none, defaults := [] : PySem.Arguments }
def b_House_events_of : List Stmt := [ (PySem.Stmt.Return (value := (some (PySem.Expr.Subscript (value := (PySem.Expr.Attribute (PySem.Expr.Name "self" ⟨174, 15, 174, 19⟩) "turns" ⟨174, 15, 174, 25⟩)) (slice := (PySem.Expr.BinOp
  (left := (PySem.Expr.Name "turn" ⟨174, 26, 174, 30⟩)) (op := PySem.Operator.Sub) (right := (PySem.Expr.Constant (PySem.Const.int 1) 0 ⟨174, 33, 174, 34⟩)) (pos := ⟨174, 26, 174, 34⟩)))
  (pos := ⟨174, 15, 174, 35⟩)))) (pos := ⟨174, 8, 174, 35⟩))]
def sc_House_events_of : Scope := { kind := PySem.ScopeKind.function, names := [(PySem.Str.ofString "self", PySem.NameKind.local), (PySem.Str.ofString "turn", PySem.NameKind.local)], isGenerator := false, isCoroutine := false, more := [] : PySem.Scope }
def d_House_events_of : He.DefD := ⟨("House", some "events_of"), "events_of", "House.events_of", a_House_events_of, b_House_events_of, sc_House_events_of, [], []⟩
abbrev n_House_events_of : List Str := ["self", "turn"]
abbrev p_House_events_of : List Str := ["self", "turn"]
theorem S_House_events_of : FnScope n_House_events_of p_House_events_of sc_House_events_of := ⟨rfl, rfl, rfl, by decide +kernel, rfl, by decide +kernel, by decide +kernel⟩
def a_House_lasts : Arguments := { posonlyargs := [], args := [ { arg := "self", annotation := none, pos := ⟨176, 14, 176, 18⟩ : PySem.Arg }, { arg := "session", annotation := none, pos := ⟨176, 20, 176, 27⟩ : PySem.Arg }], vararg := none, kwonlyargs := [], kw_defaults := [], kwarg := none, defaults := [] : PySem.Arguments }
def b_House_lasts : List Stmt := [ (PySem.Stmt.Return (value := (some (PySem.Expr.Compare (left := (PySem.Expr.Name "session" ⟨177, 15, 177, 22⟩)) (ops := [PySem.CmpOp.In])
  (comparators := [(PySem.Expr.Attribute (PySem.Expr.Name "self" ⟨177, 26, 177, 30⟩) "seen" ⟨177, 26, 177, 35⟩)]) (pos := ⟨177, 15, 177, 35⟩)))) (pos := ⟨177, 8, 177, 35⟩))]
def sc_House_lasts : Scope := { kind := PySem.ScopeKind.function, names := [(PySem.Str.ofString "self", PySem.NameKind.local), (PySem.Str.ofString "session", PySem.NameKind.local)], isGenerator := false, isCoroutine := false, more := [] : PySem.Scope }
def d_House_lasts : He.DefD := ⟨("House", some "lasts"), "lasts", "House.lasts", a_House_lasts, b_House_lasts, sc_House_lasts, [], []⟩
abbrev n_House_lasts : List Str := ["self", "session"]
abbrev p_House_lasts : List Str := ["self", "session"]
theorem S_House_lasts : FnScope n_House_lasts p_House_lasts sc_House_lasts := ⟨rfl, rfl, rfl, by decide +kernel, rfl, by decide +kernel, by decide +kernel⟩
def a_House_start_session : Arguments := { posonlyargs := [], args := [{ arg := "self", annotation := none, pos := ⟨179, 22, 179, 26⟩ : PySem.Arg }], vararg := none, kwonlyargs := [], kw_defaults := [], kwarg := none, defaults := [] : PySem.Arguments }
def b_House_start_session : List Stmt := [ (PySem.Stmt.AugAssign (target := (PySem.Expr.Attribute (PySem.Expr.Name "self" ⟨180, 8, 180, 12⟩) "opened" ⟨180, 8, 180, 19⟩)) (op := PySem.Operator.Add)
  (value := (PySem.Expr.Constant (PySem.Const.int 1) 0 ⟨180, 23, 180, 24⟩)) (pos := ⟨180, 8, 180, 24⟩)), (PySem.Stmt.Expr (value := (PySem.Expr.Call
  (func := (PySem.Expr.Attribute (PySem.Expr.Name "self" ⟨181, 8, 181, 12⟩) "see_session" ⟨181, 8, 181, 24⟩))
  (args := [(PySem.Expr.Attribute (PySem.Expr.Name "self" ⟨181, 25, 181, 29⟩) "opened" ⟨181, 25, 181, 36⟩)]) (keywords := []) (pos := ⟨181, 8, 181, 37⟩))) (pos := ⟨181, 8, 181, 37⟩)), (PySem.Stmt.Return
  (value := (some (PySem.Expr.Attribute (PySem.Expr.Name "self" ⟨182, 15, 182, 19⟩) "opened" ⟨182, 15, 182, 26⟩))) (pos := ⟨182, 8, 182, 26⟩))]
def sc_House_start_session : Scope := { kind := PySem.ScopeKind.function, names := [(PySem.Str.ofString "self", PySem.NameKind.local)], isGenerator := false, isCoroutine := false, more := [] : PySem.Scope }
def d_House_start_session : He.DefD := ⟨("House", some "start_session"), "start_session", "House.start_session", a_House_start_session, b_House_start_session, sc_House_start_session, [], []⟩
abbrev n_House_start_session : List Str := ["self"]
abbrev p_House_start_session : List Str := ["self"]
theorem S_House_start_session : FnScope n_House_start_session p_House_start_session sc_House_start_session := ⟨rfl, rfl, rfl, by decide +kernel, rfl, by decide +kernel, by decide +kernel⟩
def a_House_see_session : Arguments := { posonlyargs := [], args := [ { arg := "self", annotation := none, pos := ⟨184, 20, 184, 24⟩ : PySem.Arg }, { arg := "session", annotation := none, pos := ⟨184, 26, 184, 33⟩ : PySem.Arg }], vararg := none, kwonlyargs := [], kw_defaults := [], kwarg := none, defaults := [] : PySem.Arguments }
def b_House_see_session : List Stmt := [ (PySem.Stmt.Assign (targets := [ (PySem.Expr.Subscript (value := (PySem.Expr.Attribute (PySem.Expr.Name "self" ⟨185, 8, 185, 12⟩) "seen" ⟨185, 8, 185, 17⟩))
  (slice := (PySem.Expr.Name "session" ⟨185, 18, 185, 25⟩)) (pos := ⟨185, 8, 185, 26⟩))]) (value := (PySem.Expr.Attribute (PySem.Expr.Name "self" ⟨185, 29, 185, 33⟩) "time" ⟨185, 29, 185, 38⟩))
  (pos := ⟨185, 8, 185, 38⟩))]
def sc_House_see_session : Scope := { kind := PySem.ScopeKind.function, names := [(PySem.Str.ofString "self", PySem.NameKind.local), (PySem.Str.ofString "session", PySem.NameKind.local)], isGenerator := false, isCoroutine := false, more := [] : PySem.Scope }
def d_House_see_session : He.DefD := ⟨("House", some "see_session"), "see_session", "House.see_session", a_House_see_session, b_House_see_session, sc_House_see_session, [], []⟩
abbrev n_House_see_session : List Str := ["self", "session"]
abbrev p_House_see_session : List Str := ["self", "session"]
theorem S_House_see_session : FnScope n_House_see_session p_House_see_session sc_House_see_session := ⟨rfl, rfl, rfl, by decide +kernel, rfl, by decide +kernel, by decide +kernel⟩
def a_House_end_session : Arguments := { posonlyargs := [], args := [ { arg := "self", annotation := none, pos := ⟨187, 20, 187, 24⟩ : PySem.Arg }, { arg := "session", annotation := none, pos := ⟨187, 26, 187, 33⟩ : PySem.Arg }], vararg := none, kwonlyargs := [], kw_defaults := [], kwarg := none, defaults := [] : PySem.Arguments }
def b_House_end_session : List Stmt := [ (PySem.Stmt.Expr (value := (PySem.Expr.Call (func := (PySem.Expr.Attribute (value := (PySem.Expr.Attribute (PySem.Expr.Name "self" ⟨188, 8, 188, 12⟩) "seen" ⟨188, 8, 188, 17⟩)) (attr := "pop")
  (pos := ⟨188, 8, 188, 21⟩))) (args := [(PySem.Expr.Name "session" ⟨188, 22, 188, 29⟩)]) (keywords := []) (pos := ⟨188, 8, 188, 30⟩))) (pos := ⟨188, 8, 188, 30⟩)), (PySem.Stmt.Assign
  (targets := [(PySem.Expr.Name "held" ⟨189, 8, 189, 12⟩)]) (value := (PySem.Expr.Call (func := (PySem.Expr.Name "sorted" ⟨189, 15, 189, 21⟩)) (args := [ (PySem.Expr.ListComp
  (elt := (PySem.Expr.Name "path" ⟨189, 23, 189, 27⟩)) (generators := [ { target := (PySem.Expr.Name "path" ⟨189, 32, 189, 36⟩), iter := (PySem.Expr.Attribute (PySem.Expr.Name "self" ⟨189, 40, 189, 44⟩) "nodes" ⟨189, 40, 189, 50⟩), ifs := [ (PySem.Expr.Compare (left := (PySem.Expr.Attribute (value := (PySem.Expr.Subscript (value := (PySem.Expr.Attribute (PySem.Expr.Name "self" ⟨189, 54, 189, 58⟩) "nodes" ⟨189, 54, 189, 64⟩)) (slice := (PySem.Expr.Name "path" ⟨189, 65, 189, 69⟩)) (pos := ⟨189, 54, 189, 70⟩))) (attr := "held") (pos := ⟨189, 54, 189, 75⟩))) (ops := [PySem.CmpOp.Eq]) (comparators := [(PySem.Expr.Name "session" ⟨189, 79, 189, 86⟩)]) (pos := ⟨189, 54, 189, 86⟩))], is_async := 0 : PySem.Comprehension }])
  (scope := { kind := PySem.ScopeKind.function, names := [ (PySem.Str.ofString ".0", PySem.NameKind.local), (PySem.Str.ofString "path", PySem.NameKind.local), (PySem.Str.ofString "self", PySem.NameKind.free), (PySem.Str.ofString "session", PySem.NameKind.free)], isGenerator := false, isCoroutine := false, more := [] : PySem.Scope })
  (pos := ⟨189, 22, 189, 87⟩))]) (keywords := []) (pos := ⟨189, 15, 189, 88⟩))) (pos := ⟨189, 8, 189, 88⟩)), (PySem.Stmt.For (target := (PySem.Expr.Name "path" ⟨190, 12, 190, 16⟩))
  (iter := (PySem.Expr.Name "held" ⟨190, 20, 190, 24⟩)) (body := [ (PySem.Stmt.Expr (value := (PySem.Expr.Call (func := (PySem.Expr.Attribute
  (value := (PySem.Expr.Attribute (PySem.Expr.Name "self" ⟨191, 12, 191, 16⟩) "nodes" ⟨191, 12, 191, 22⟩)) (attr := "pop") (pos := ⟨191, 12, 191, 26⟩)))
  (args := [(PySem.Expr.Name "path" ⟨191, 27, 191, 31⟩)]) (keywords := []) (pos := ⟨191, 12, 191, 32⟩))) (pos := ⟨191, 12, 191, 32⟩))]) (orelse := []) (pos := ⟨190, 8, 191, 32⟩)), (PySem.Stmt.Expr
  (value := (PySem.Expr.Call (func := (PySem.Expr.Attribute (PySem.Expr.Name "self" ⟨192, 8, 192, 12⟩) "end_turn" ⟨192, 8, 192, 21⟩)) (args := [ (PySem.Expr.ListComp (elt := (PySem.Expr.Call
  (func := (PySem.Expr.Name "Event" ⟨192, 23, 192, 28⟩)) (args := [ (PySem.Expr.Name "GONE" ⟨192, 29, 192, 33⟩), (PySem.Expr.Constant (PySem.Const.int 0) 0 ⟨192, 35, 192, 36⟩),
  (PySem.Expr.Name "path" ⟨192, 38, 192, 42⟩)]) (keywords := []) (pos := ⟨192, 23, 192, 43⟩))) (generators := [ { target := (PySem.Expr.Name "path" ⟨192, 48, 192, 52⟩), iter := (PySem.Expr.Name "held" ⟨192, 56, 192, 60⟩), ifs := [], is_async := 0 : PySem.Comprehension }])
  (scope := { kind := PySem.ScopeKind.function, names := [ (PySem.Str.ofString ".0", PySem.NameKind.local), (PySem.Str.ofString "path", PySem.NameKind.local), (PySem.Str.ofString "Event", PySem.NameKind.globalImplicit), (PySem.Str.ofString "GONE", PySem.NameKind.globalImplicit)], isGenerator := false, isCoroutine := false, more := [] : PySem.Scope })
  (pos := ⟨192, 22, 192, 61⟩))]) (keywords := []) (pos := ⟨192, 8, 192, 62⟩))) (pos := ⟨192, 8, 192, 62⟩))]
def sc_House_end_session : Scope := { kind := PySem.ScopeKind.function, names := [ (PySem.Str.ofString "self", PySem.NameKind.cell), (PySem.Str.ofString "session", PySem.NameKind.cell), (PySem.Str.ofString "path", PySem.NameKind.local), (PySem.Str.ofString "held", PySem.NameKind.local), (PySem.Str.ofString "sorted", PySem.NameKind.globalImplicit)], isGenerator := false, isCoroutine := false, more := [ (PySem.Str.ofString "fast", (PySem.Const.str "self")), (PySem.Str.ofString "fast", (PySem.Const.str "session")), (PySem.Str.ofString "fast", (PySem.Const.str "path")), (PySem.Str.ofString "fast", (PySem.Const.str "held"))] : PySem.Scope }
def d_House_end_session : He.DefD := ⟨("House", some "end_session"), "end_session", "House.end_session", a_House_end_session, b_House_end_session, sc_House_end_session, [], []⟩
abbrev n_House_end_session : List Str := ["self", "session", "path", "held"]
abbrev p_House_end_session : List Str := ["self", "session"]
theorem S_House_end_session : FnScope n_House_end_session p_House_end_session sc_House_end_session := ⟨rfl, rfl, rfl, by decide +kernel, rfl, by decide +kernel, by decide +kernel⟩
def a_House_pass_time : Arguments := { posonlyargs := [], args := [ { arg := "self", annotation := none, pos := ⟨194, 18, 194, 22⟩ : PySem.Arg }, { arg := "now", annotation := none, pos := ⟨194, 24, 194, 27⟩ : PySem.Arg }], vararg := none, kwonlyargs := [], kw_defaults := [], kwarg := none, defaults := [] : PySem.Arguments }
def b_House_pass_time : List Stmt := [ (PySem.Stmt.Assign (targets := [(PySem.Expr.Attribute (PySem.Expr.Name "self" ⟨195, 8, 195, 12⟩) "time" ⟨195, 8, 195, 17⟩)]) (value := (PySem.Expr.Call
  (func := (PySem.Expr.Name "max" ⟨195, 20, 195, 23⟩)) (args := [ (PySem.Expr.Attribute (PySem.Expr.Name "self" ⟨195, 24, 195, 28⟩) "time" ⟨195, 24, 195, 33⟩),
  (PySem.Expr.Name "now" ⟨195, 35, 195, 38⟩)]) (keywords := []) (pos := ⟨195, 20, 195, 39⟩))) (pos := ⟨195, 8, 195, 39⟩)), (PySem.Stmt.For (target := (PySem.Expr.Name "session" ⟨196, 12, 196, 19⟩))
  (iter := (PySem.Expr.Call (func := (PySem.Expr.Name "list" ⟨196, 23, 196, 27⟩)) (args := [(PySem.Expr.Attribute (PySem.Expr.Name "self" ⟨196, 28, 196, 32⟩) "seen" ⟨196, 28, 196, 37⟩)])
  (keywords := []) (pos := ⟨196, 23, 196, 38⟩))) (body := [ (PySem.Stmt.If (test := (PySem.Expr.Compare (left := (PySem.Expr.BinOp (left := (PySem.Expr.Subscript
  (value := (PySem.Expr.Attribute (PySem.Expr.Name "self" ⟨197, 15, 197, 19⟩) "seen" ⟨197, 15, 197, 24⟩)) (slice := (PySem.Expr.Name "session" ⟨197, 25, 197, 32⟩)) (pos := ⟨197, 15, 197, 33⟩)))
  (op := PySem.Operator.Add) (right := (PySem.Expr.Attribute (PySem.Expr.Name "self" ⟨197, 36, 197, 40⟩) "life" ⟨197, 36, 197, 45⟩)) (pos := ⟨197, 15, 197, 45⟩))) (ops := [PySem.CmpOp.Lt])
  (comparators := [(PySem.Expr.Attribute (PySem.Expr.Name "self" ⟨197, 48, 197, 52⟩) "time" ⟨197, 48, 197, 57⟩)]) (pos := ⟨197, 15, 197, 57⟩))) (body := [ (PySem.Stmt.Expr (value := (PySem.Expr.Call
  (func := (PySem.Expr.Attribute (PySem.Expr.Name "self" ⟨198, 16, 198, 20⟩) "end_session" ⟨198, 16, 198, 32⟩)) (args := [(PySem.Expr.Name "session" ⟨198, 33, 198, 40⟩)]) (keywords := [])
  (pos := ⟨198, 16, 198, 41⟩))) (pos := ⟨198, 16, 198, 41⟩))]) (orelse := []) (pos := ⟨197, 12, 198, 41⟩))]) (orelse := []) (pos := ⟨196, 8, 198, 41⟩))]
def sc_House_pass_time : Scope := { kind := PySem.ScopeKind.function, names := [ (PySem.Str.ofString "self", PySem.NameKind.local), (PySem.Str.ofString "now", PySem.NameKind.local), (PySem.Str.ofString "session", PySem.NameKind.local), (PySem.Str.ofString "max", PySem.NameKind.globalImplicit), (PySem.Str.ofString "list", PySem.NameKind.globalImplicit)], isGenerator := false, isCoroutine := false, more := [] : PySem.Scope }
def d_House_pass_time : He.DefD := ⟨("House", some "pass_time"), "pass_time", "House.pass_time", a_House_pass_time, b_House_pass_time, sc_House_pass_time, [], []⟩
abbrev n_House_pass_time : List Str := ["self", "now", "session"]
abbrev p_House_pass_time : List Str := ["self", "now"]
theorem S_House_pass_time : FnScope n_House_pass_time p_House_pass_time sc_House_pass_time := ⟨rfl, rfl, rfl, by decide +kernel, rfl, by decide +kernel, by decide +kernel⟩
def a_House_end_turn : Arguments := { posonlyargs := [], args := [ { arg := "self", annotation := none, pos := ⟨200, 17, 200, 21⟩ : PySem.Arg }, { arg := "events", annotation := none, pos := ⟨200, 23, 200, 29⟩ : PySem.Arg }], vararg := none, kwonlyargs := [], kw_defaults := [], kwarg := none, defaults := [] : PySem.Arguments }
def b_House_end_turn : List Stmt := [ (PySem.Stmt.If (test := (PySem.Expr.Compare (left := (PySem.Expr.Call (func := (PySem.Expr.Name "len" ⟨201, 11, 201, 14⟩)) (args := [(PySem.Expr.Name "events" ⟨201, 15, 201, 21⟩)]) (keywords := [])
  (pos := ⟨201, 11, 201, 22⟩))) (ops := [PySem.CmpOp.Eq]) (comparators := [(PySem.Expr.Constant (PySem.Const.int 0) 0 ⟨201, 26, 201, 27⟩)]) (pos := ⟨201, 11, 201, 27⟩)))
  (body := [(PySem.Stmt.Return none ⟨202, 12, 202, 18⟩)]) (orelse := []) (pos := ⟨201, 8, 202, 18⟩)), (PySem.Stmt.Expr (value := (PySem.Expr.Call (func := (PySem.Expr.Attribute
  (value := (PySem.Expr.Attribute (PySem.Expr.Name "self" ⟨203, 8, 203, 12⟩) "turns" ⟨203, 8, 203, 18⟩)) (attr := "append") (pos := ⟨203, 8, 203, 25⟩)))
  (args := [(PySem.Expr.Name "events" ⟨203, 26, 203, 32⟩)]) (keywords := []) (pos := ⟨203, 8, 203, 33⟩))) (pos := ⟨203, 8, 203, 33⟩)), (PySem.Stmt.For
  (target := (PySem.Expr.Name "watcher" ⟨204, 12, 204, 19⟩)) (iter := (PySem.Expr.Attribute (PySem.Expr.Name "self" ⟨204, 23, 204, 27⟩) "watchers" ⟨204, 23, 204, 36⟩)) (body := [ (PySem.Stmt.Expr
  (value := (PySem.Expr.Call (func := (PySem.Expr.Attribute (PySem.Expr.Name "self" ⟨205, 12, 205, 16⟩) "tell_watcher" ⟨205, 12, 205, 29⟩)) (args := [ (PySem.Expr.Name "watcher" ⟨205, 30, 205, 37⟩),
  (PySem.Expr.Call (func := (PySem.Expr.Attribute (PySem.Expr.Name "self" ⟨205, 39, 205, 43⟩) "last_turn" ⟨205, 39, 205, 53⟩)) (args := []) (keywords := []) (pos := ⟨205, 39, 205, 55⟩))])
  (keywords := []) (pos := ⟨205, 12, 205, 56⟩))) (pos := ⟨205, 12, 205, 56⟩))]) (orelse := []) (pos := ⟨204, 8, 205, 56⟩))]
def sc_House_end_turn : Scope := { kind := PySem.ScopeKind.function, names := [ (PySem.Str.ofString "self", PySem.NameKind.local), (PySem.Str.ofString "events", PySem.NameKind.local), (PySem.Str.ofString "watcher", PySem.NameKind.local), (PySem.Str.ofString "len", PySem.NameKind.globalImplicit)], isGenerator := false, isCoroutine := false, more := [] : PySem.Scope }
def d_House_end_turn : He.DefD := ⟨("House", some "end_turn"), "end_turn", "House.end_turn", a_House_end_turn, b_House_end_turn, sc_House_end_turn, [], []⟩
abbrev n_House_end_turn : List Str := ["self", "events", "watcher"]
abbrev p_House_end_turn : List Str := ["self", "events"]
theorem S_House_end_turn : FnScope n_House_end_turn p_House_end_turn sc_House_end_turn := ⟨rfl, rfl, rfl, by decide +kernel, rfl, by decide +kernel, by decide +kernel⟩
def a_House_tell_watcher : Arguments := { posonlyargs := [], args := [ { arg := "self", annotation := none, pos := ⟨207, 21, 207, 25⟩ : PySem.Arg }, { arg := "watcher", annotation := none, pos := ⟨207, 27, 207, 34⟩ : PySem.Arg }, { arg := "turn", annotation := none, pos := ⟨207, 36, 207, 40⟩ : PySem.Arg }], vararg := none, kwonlyargs := [], kw_defaults := [], kwarg := none, defaults := [] : PySem.Arguments }
def b_House_tell_watcher : List Stmt := [ (PySem.Stmt.Assign (targets := [(PySem.Expr.Name "heard" ⟨208, 8, 208, 13⟩)]) (value := (PySem.Expr.ListComp (elt := (PySem.Expr.Name "event" ⟨208, 17, 208, 22⟩)) (generators := [ { target := (PySem.Expr.Name "event" ⟨208, 27, 208, 32⟩), iter := (PySem.Expr.Call (func := (PySem.Expr.Attribute (PySem.Expr.Name "self" ⟨208, 36, 208, 40⟩) "events_of" ⟨208, 36, 208, 50⟩)) (args := [(PySem.Expr.Name "turn" ⟨208, 51, 208, 55⟩)]) (keywords := []) (pos := ⟨208, 36, 208, 56⟩)), ifs := [ (PySem.Expr.Call (func := (PySem.Expr.Name "is_below" ⟨208, 60, 208, 68⟩)) (args := [ (PySem.Expr.Attribute (PySem.Expr.Name "event" ⟨208, 69, 208, 74⟩) "path" ⟨208, 69, 208, 79⟩), (PySem.Expr.Attribute (PySem.Expr.Name "watcher" ⟨208, 81, 208, 88⟩) "path" ⟨208, 81, 208, 93⟩)]) (keywords := []) (pos := ⟨208, 60, 208, 94⟩))], is_async := 0 : PySem.Comprehension }])
  (scope := { kind := PySem.ScopeKind.function, names := [ (PySem.Str.ofString ".0", PySem.NameKind.local), (PySem.Str.ofString "event", PySem.NameKind.local), (PySem.Str.ofString "is_below", PySem.NameKind.globalImplicit), (PySem.Str.ofString "watcher", PySem.NameKind.free)], isGenerator := false, isCoroutine := false, more := [] : PySem.Scope })
  (pos := ⟨208, 16, 208, 95⟩))) (pos := ⟨208, 8, 208, 95⟩)), (PySem.Stmt.If (test := (PySem.Expr.Compare (left := (PySem.Expr.Call (func := (PySem.Expr.Name "len" ⟨209, 11, 209, 14⟩))
  (args := [(PySem.Expr.Name "heard" ⟨209, 15, 209, 20⟩)]) (keywords := []) (pos := ⟨209, 11, 209, 21⟩))) (ops := [PySem.CmpOp.Eq])
  (comparators := [(PySem.Expr.Constant (PySem.Const.int 0) 0 ⟨209, 25, 209, 26⟩)]) (pos := ⟨209, 11, 209, 26⟩))) (body := [(PySem.Stmt.Return none ⟨210, 12, 210, 18⟩)]) (orelse := [])
  (pos := ⟨209, 8, 210, 18⟩)), (PySem.Stmt.Expr (value := (PySem.Expr.Call (func := (PySem.Expr.Attribute
  (value := (PySem.Expr.Attribute (PySem.Expr.Name "self" ⟨211, 8, 211, 12⟩) "net" ⟨211, 8, 211, 16⟩)) (attr := "send") (pos := ⟨211, 8, 211, 21⟩))) (args := [ (PySem.Expr.Call
  (func := (PySem.Expr.Name "news_letter" ⟨211, 22, 211, 33⟩)) (args := [ (PySem.Expr.Attribute (PySem.Expr.Name "watcher" ⟨211, 34, 211, 41⟩) "client" ⟨211, 34, 211, 48⟩),
  (PySem.Expr.Attribute (PySem.Expr.Name "watcher" ⟨211, 50, 211, 57⟩) "number" ⟨211, 50, 211, 64⟩), (PySem.Expr.Attribute (PySem.Expr.Name "watcher" ⟨211, 66, 211, 73⟩) "last" ⟨211, 66, 211, 78⟩),
  (PySem.Expr.Name "turn" ⟨211, 80, 211, 84⟩), (PySem.Expr.Name "heard" ⟨211, 86, 211, 91⟩)]) (keywords := []) (pos := ⟨211, 22, 211, 92⟩))]) (keywords := []) (pos := ⟨211, 8, 211, 93⟩)))
  (pos := ⟨211, 8, 211, 93⟩)), (PySem.Stmt.Assign (targets := [(PySem.Expr.Attribute (PySem.Expr.Name "watcher" ⟨212, 8, 212, 15⟩) "last" ⟨212, 8, 212, 20⟩)])
  (value := (PySem.Expr.Name "turn" ⟨212, 23, 212, 27⟩)) (pos := ⟨212, 8, 212, 27⟩))]
def sc_House_tell_watcher : Scope := { kind := PySem.ScopeKind.function, names := [ (PySem.Str.ofString "self", PySem.NameKind.local), (PySem.Str.ofString "watcher", PySem.NameKind.cell), (PySem.Str.ofString "turn", PySem.NameKind.local), (PySem.Str.ofString "heard", PySem.NameKind.local), (PySem.Str.ofString "len", PySem.NameKind.globalImplicit), (PySem.Str.ofString "news_letter", PySem.NameKind.globalImplicit)], isGenerator := false, isCoroutine := false, more := [ (PySem.Str.ofString "fast", (PySem.Const.str "self")), (PySem.Str.ofString "fast", (PySem.Const.str "watcher")), (PySem.Str.ofString "fast", (PySem.Const.str "turn")), (PySem.Str.ofString "fast", (PySem.Const.str "event")), (PySem.Str.ofString "fast", (PySem.Const.str "heard"))] : PySem.Scope }
def d_House_tell_watcher : He.DefD := ⟨("House", some "tell_watcher"), "tell_watcher", "House.tell_watcher", a_House_tell_watcher, b_House_tell_watcher, sc_House_tell_watcher, [], []⟩
abbrev n_House_tell_watcher : List Str := ["self", "watcher", "turn", "heard", "event"]
abbrev p_House_tell_watcher : List Str := ["self", "watcher", "turn"]
theorem S_House_tell_watcher : FnScope n_House_tell_watcher p_House_tell_watcher sc_House_tell_watcher := ⟨rfl, rfl, rfl, by decide +kernel, rfl, by decide +kernel, by decide +kernel⟩
def a_House_hear_asking : Arguments := { posonlyargs := [], args := [ { arg := "self", annotation := none, pos := ⟨214, 20, 214, 24⟩ : PySem.Arg }, { arg := "letter", annotation := none, pos := ⟨214, 26, 214, 32⟩ : PySem.Arg }], vararg := none, kwonlyargs := [], kw_defaults := [], kwarg := none, defaults := [] : PySem.Arguments }
def b_House_hear_asking : List Stmt := [ (PySem.Stmt.If (test := (PySem.Expr.Call (func := (PySem.Expr.Attribute (PySem.Expr.Name "self" ⟨215, 11, 215, 15⟩) "has_later_watcher" ⟨215, 11, 215, 33⟩)) (args := [
  (PySem.Expr.Attribute (PySem.Expr.Name "letter" ⟨215, 34, 215, 40⟩) "client" ⟨215, 34, 215, 47⟩), (PySem.Expr.Attribute (PySem.Expr.Name "letter" ⟨215, 49, 215, 55⟩) "number" ⟨215, 49, 215, 62⟩)])
  (keywords := []) (pos := ⟨215, 11, 215, 63⟩))) (body := [(PySem.Stmt.Return (some (PySem.Expr.Name "NO_USE" ⟨216, 19, 216, 25⟩)) ⟨216, 12, 216, 25⟩)]) (orelse := []) (pos := ⟨215, 8, 216, 25⟩)),
  (PySem.Stmt.If (test := (PySem.Expr.Call (func := (PySem.Expr.Attribute (PySem.Expr.Name "self" ⟨217, 11, 217, 15⟩) "can_tell_from" ⟨217, 11, 217, 29⟩))
  (args := [(PySem.Expr.Attribute (PySem.Expr.Name "letter" ⟨217, 30, 217, 36⟩) "behind" ⟨217, 30, 217, 43⟩)]) (keywords := []) (pos := ⟨217, 11, 217, 44⟩))) (body := [ (PySem.Stmt.Expr
  (value := (PySem.Expr.Call (func := (PySem.Expr.Attribute (PySem.Expr.Name "self" ⟨218, 12, 218, 16⟩) "tell_from" ⟨218, 12, 218, 26⟩)) (args := [(PySem.Expr.Name "letter" ⟨218, 27, 218, 33⟩)])
  (keywords := []) (pos := ⟨218, 12, 218, 34⟩))) (pos := ⟨218, 12, 218, 34⟩)), (PySem.Stmt.Return (some (PySem.Expr.Name "NEWS_SENT" ⟨219, 19, 219, 28⟩)) ⟨219, 12, 219, 28⟩)]) (orelse := [])
  (pos := ⟨217, 8, 219, 28⟩)), (PySem.Stmt.Expr (value := (PySem.Expr.Call (func := (PySem.Expr.Attribute (PySem.Expr.Name "self" ⟨220, 8, 220, 12⟩) "show_picture" ⟨220, 8, 220, 25⟩))
  (args := [(PySem.Expr.Name "letter" ⟨220, 26, 220, 32⟩)]) (keywords := []) (pos := ⟨220, 8, 220, 33⟩))) (pos := ⟨220, 8, 220, 33⟩)),
  (PySem.Stmt.Return (some (PySem.Expr.Name "PICTURE_SENT" ⟨221, 15, 221, 27⟩)) ⟨221, 8, 221, 27⟩)]
def sc_House_hear_asking : Scope := { kind := PySem.ScopeKind.function, names := [ (PySem.Str.ofString "self", PySem.NameKind.local), (PySem.Str.ofString "letter", PySem.NameKind.local), (PySem.Str.ofString "NO_USE", PySem.NameKind.globalImplicit), (PySem.Str.ofString "NEWS_SENT", PySem.NameKind.globalImplicit), (PySem.Str.ofString "PICTURE_SENT", PySem.NameKind.globalImplicit)], isGenerator := false, isCoroutine := false, more := [] : PySem.Scope }
def d_House_hear_asking : He.DefD := ⟨("House", some "hear_asking"), "hear_asking", "House.hear_asking", a_House_hear_asking, b_House_hear_asking, sc_House_hear_asking, [], []⟩
abbrev n_House_hear_asking : List Str := ["self", "letter"]
abbrev p_House_hear_asking : List Str := ["self", "letter"]
theorem S_House_hear_asking : FnScope n_House_hear_asking p_House_hear_asking sc_House_hear_asking := ⟨rfl, rfl, rfl, by decide +kernel, rfl, by decide +kernel, by decide +kernel⟩
def a_House_has_later_watcher : Arguments := { posonlyargs := [], args := [ { arg := "self", annotation := none, pos := ⟨223, 26, 223, 30⟩ : PySem.Arg }, { arg := "client", annotation := none, pos := ⟨223, 32, 223, 38⟩ : PySem.Arg }, { arg := "number", annotation := none, pos := ⟨223, 40, 223, 46⟩ : PySem.Arg }], vararg := none, kwonlyargs := [], kw_defaults := [], kwarg := none, defaults := [] : PySem.Arguments }
def b_House_has_later_watcher : List Stmt := [ (PySem.Stmt.Return (value := (some (PySem.Expr.Call (func := (PySem.Expr.Name "any" ⟨224, 15, 224, 18⟩)) (args := [ (PySem.Expr.ListComp (elt := (PySem.Expr.BoolOp (op := PySem.BoolOp.And)
  (values := [ (PySem.Expr.Compare (left := (PySem.Expr.Attribute (PySem.Expr.Name "watcher" ⟨224, 20, 224, 27⟩) "client" ⟨224, 20, 224, 34⟩)) (ops := [PySem.CmpOp.Eq])
  (comparators := [(PySem.Expr.Name "client" ⟨224, 38, 224, 44⟩)]) (pos := ⟨224, 20, 224, 44⟩)), (PySem.Expr.Compare
  (left := (PySem.Expr.Attribute (PySem.Expr.Name "watcher" ⟨224, 49, 224, 56⟩) "number" ⟨224, 49, 224, 63⟩)) (ops := [PySem.CmpOp.Gt]) (comparators := [(PySem.Expr.Name "number" ⟨224, 66, 224, 72⟩)])
  (pos := ⟨224, 49, 224, 72⟩))]) (pos := ⟨224, 20, 224, 72⟩))) (generators := [ { target := (PySem.Expr.Name "watcher" ⟨224, 77, 224, 84⟩), iter := (PySem.Expr.Attribute (PySem.Expr.Name "self" ⟨224, 88, 224, 92⟩) "watchers" ⟨224, 88, 224, 101⟩), ifs := [], is_async := 0 : PySem.Comprehension }])
  (scope := { kind := PySem.ScopeKind.function, names := [ (PySem.Str.ofString ".0", PySem.NameKind.local), (PySem.Str.ofString "watcher", PySem.NameKind.local), (PySem.Str.ofString "client", PySem.NameKind.free), (PySem.Str.ofString "number", PySem.NameKind.free)], isGenerator := false, isCoroutine := false, more := [] : PySem.Scope })
  (pos := ⟨224, 19, 224, 102⟩))]) (keywords := []) (pos := ⟨224, 15, 224, 103⟩)))) (pos := ⟨224, 8, 224, 103⟩))]
def sc_House_has_later_watcher : Scope := { kind := PySem.ScopeKind.function, names := [ (PySem.Str.ofString "self", PySem.NameKind.local), (PySem.Str.ofString "client", PySem.NameKind.cell), (PySem.Str.ofString "number", PySem.NameKind.cell), (PySem.Str.ofString "any", PySem.NameKind.globalImplicit)], isGenerator := false, isCoroutine := false, more := [ (PySem.Str.ofString "fast", (PySem.Const.str "self")), (PySem.Str.ofString "fast", (PySem.Const.str "client")), (PySem.Str.ofString "fast", (PySem.Const.str "number")), (PySem.Str.ofString "fast", (PySem.Const.str "watcher"))] : PySem.Scope }
def d_House_has_later_watcher : He.DefD := ⟨("House", some "has_later_watcher"), "has_later_watcher", "House.has_later_watcher", a_House_has_later_watcher, b_House_has_later_watcher, sc_House_has_later_watcher, [], []⟩
abbrev n_House_has_later_watcher : List Str := ["self", "client", "number", "watcher"]
abbrev p_House_has_later_watcher : List Str := ["self", "client", "number"]
theorem S_House_has_later_watcher : FnScope n_House_has_later_watcher p_House_has_later_watcher sc_House_has_later_watcher := ⟨rfl, rfl, rfl, by decide +kernel, rfl, by decide +kernel, by decide +kernel⟩
def a_House_can_tell_from : Arguments := { posonlyargs := [], args := [ { arg := "self", annotation := none, pos := ⟨226, 22, 226, 26⟩ : PySem.Arg }, { arg := "turn", annotation := none, pos := ⟨226, 28, 226, 32⟩ : PySem.Arg }], vararg := none, kwonlyargs := [], kw_defaults := [], kwarg := none, defaults := [] : PySem.Arguments }
def b_House_can_tell_from : List Stmt := [ (PySem.Stmt.Return (value := (some (PySem.Expr.BoolOp (op := PySem.BoolOp.And) (values := [ (PySem.Expr.Compare (left := (PySem.Expr.Name "turn" ⟨227, 15, 227, 19⟩)) (ops := [PySem.CmpOp.IsNot])
  (comparators := [(PySem.Expr.Constant PySem.Const.none 0 ⟨227, 27, 227, 31⟩)]) (pos := ⟨227, 15, 227, 31⟩)), (PySem.Expr.Compare
  (left := (PySem.Expr.Attribute (PySem.Expr.Name "self" ⟨227, 36, 227, 40⟩) "base" ⟨227, 36, 227, 45⟩)) (ops := [PySem.CmpOp.LtE, PySem.CmpOp.LtE]) (comparators := [
  (PySem.Expr.Name "turn" ⟨227, 49, 227, 53⟩), (PySem.Expr.Call (func := (PySem.Expr.Attribute (PySem.Expr.Name "self" ⟨227, 57, 227, 61⟩) "last_turn" ⟨227, 57, 227, 71⟩)) (args := []) (keywords := [])
  (pos := ⟨227, 57, 227, 73⟩))]) (pos := ⟨227, 36, 227, 73⟩))]) (pos := ⟨227, 15, 227, 73⟩)))) (pos := ⟨227, 8, 227, 73⟩))]
def sc_House_can_tell_from : Scope := { kind := PySem.ScopeKind.function, names := [(PySem.Str.ofString "self", PySem.NameKind.local), (PySem.Str.ofString "turn", PySem.NameKind.local)], isGenerator := false, isCoroutine := false, more := [] : PySem.Scope }
def d_House_can_tell_from : He.DefD := ⟨("House", some "can_tell_from"), "can_tell_from", "House.can_tell_from", a_House_can_tell_from, b_House_can_tell_from, sc_House_can_tell_from, [], []⟩
abbrev n_House_can_tell_from : List Str := ["self", "turn"]
abbrev p_House_can_tell_from : List Str := ["self", "turn"]
theorem S_House_can_tell_from : FnScope n_House_can_tell_from p_House_can_tell_from sc_House_can_tell_from := ⟨rfl, rfl, rfl, by decide +kernel, rfl, by decide +kernel, by decide +kernel⟩
def a_House_tell_from : Arguments := { posonlyargs := [], args := [ { arg := "self", annotation := none, pos := ⟨229, 18, 229, 22⟩ : PySem.Arg }, { arg := "letter", annotation := none, pos := ⟨229, 24, 229, 30⟩ : PySem.Arg }], vararg := none, kwonlyargs := [], kw_defaults := [], kwarg := none, defaults := [] : PySem.Arguments }
def b_House_tell_from : List Stmt := [ (PySem.Stmt.Assign (targets := [(PySem.Expr.Name "watcher" ⟨230, 8, 230, 15⟩)]) (value := (PySem.Expr.Call (func := (PySem.Expr.Name "Watcher" ⟨230, 18, 230, 25⟩)) (args := [
  (PySem.Expr.Attribute (PySem.Expr.Name "letter" ⟨230, 26, 230, 32⟩) "client" ⟨230, 26, 230, 39⟩), (PySem.Expr.Attribute (PySem.Expr.Name "letter" ⟨230, 41, 230, 47⟩) "number" ⟨230, 41, 230, 54⟩),
  (PySem.Expr.Attribute (PySem.Expr.Name "letter" ⟨230, 56, 230, 62⟩) "path" ⟨230, 56, 230, 67⟩), (PySem.Expr.Attribute (PySem.Expr.Name "letter" ⟨230, 69, 230, 75⟩) "behind" ⟨230, 69, 230, 82⟩)])
  (keywords := []) (pos := ⟨230, 18, 230, 83⟩))) (pos := ⟨230, 8, 230, 83⟩)), (PySem.Stmt.For (target := (PySem.Expr.Name "turn" ⟨231, 12, 231, 16⟩)) (iter := (PySem.Expr.Call
  (func := (PySem.Expr.Name "range" ⟨231, 20, 231, 25⟩)) (args := [ (PySem.Expr.BinOp (left := (PySem.Expr.Attribute (PySem.Expr.Name "letter" ⟨231, 26, 231, 32⟩) "behind" ⟨231, 26, 231, 39⟩))
  (op := PySem.Operator.Add) (right := (PySem.Expr.Constant (PySem.Const.int 1) 0 ⟨231, 42, 231, 43⟩)) (pos := ⟨231, 26, 231, 43⟩)), (PySem.Expr.BinOp (left := (PySem.Expr.Call
  (func := (PySem.Expr.Attribute (PySem.Expr.Name "self" ⟨231, 45, 231, 49⟩) "last_turn" ⟨231, 45, 231, 59⟩)) (args := []) (keywords := []) (pos := ⟨231, 45, 231, 61⟩))) (op := PySem.Operator.Add)
  (right := (PySem.Expr.Constant (PySem.Const.int 1) 0 ⟨231, 64, 231, 65⟩)) (pos := ⟨231, 45, 231, 65⟩))]) (keywords := []) (pos := ⟨231, 20, 231, 66⟩))) (body := [ (PySem.Stmt.Expr
  (value := (PySem.Expr.Call (func := (PySem.Expr.Attribute (PySem.Expr.Name "self" ⟨232, 12, 232, 16⟩) "tell_watcher" ⟨232, 12, 232, 29⟩))
  (args := [(PySem.Expr.Name "watcher" ⟨232, 30, 232, 37⟩), (PySem.Expr.Name "turn" ⟨232, 39, 232, 43⟩)]) (keywords := []) (pos := ⟨232, 12, 232, 44⟩))) (pos := ⟨232, 12, 232, 44⟩))]) (orelse := [])
  (pos := ⟨231, 8, 232, 44⟩)), (PySem.Stmt.Expr (value := (PySem.Expr.Call (func := (PySem.Expr.Attribute (PySem.Expr.Name "self" ⟨233, 8, 233, 12⟩) "put_last" ⟨233, 8, 233, 21⟩))
  (args := [(PySem.Expr.Name "watcher" ⟨233, 22, 233, 29⟩)]) (keywords := []) (pos := ⟨233, 8, 233, 30⟩))) (pos := ⟨233, 8, 233, 30⟩))]
def sc_House_tell_from : Scope := { kind := PySem.ScopeKind.function, names := [ (PySem.Str.ofString "self", PySem.NameKind.local), (PySem.Str.ofString "letter", PySem.NameKind.local), (PySem.Str.ofString "watcher", PySem.NameKind.local), (PySem.Str.ofString "turn", PySem.NameKind.local), (PySem.Str.ofString "Watcher", PySem.NameKind.globalImplicit), (PySem.Str.ofString "range", PySem.NameKind.globalImplicit)], isGenerator := false, isCoroutine := false, more := [] : PySem.Scope }
def d_House_tell_from : He.DefD := ⟨("House", some "tell_from"), "tell_from", "House.tell_from", a_House_tell_from, b_House_tell_from, sc_House_tell_from, [], []⟩
abbrev n_House_tell_from : List Str := ["self", "letter", "watcher", "turn"]
abbrev p_House_tell_from : List Str := ["self", "letter"]
theorem S_House_tell_from : FnScope n_House_tell_from p_House_tell_from sc_House_tell_from := ⟨rfl, rfl, rfl, by decide +kernel, rfl, by decide +kernel, by decide +kernel⟩
def a_House_show_picture : Arguments := { posonlyargs := [], args := [ { arg := "self", annotation := none, pos := ⟨235, 21, 235, 25⟩ : PySem.Arg }, { arg := "letter", annotation := none, pos := ⟨235, 27, 235, 33⟩ : PySem.Arg }], vararg := none, kwonlyargs := [], kw_defaults := [], kwarg := none, defaults := [] : PySem.Arguments }
def b_House_show_picture : List Stmt := [ (PySem.Stmt.Assign (targets := [(PySem.Expr.Name "turn" ⟨236, 8, 236, 12⟩)]) (value := (PySem.Expr.Call
  (func := (PySem.Expr.Attribute (PySem.Expr.Name "self" ⟨236, 15, 236, 19⟩) "last_turn" ⟨236, 15, 236, 29⟩)) (args := []) (keywords := []) (pos := ⟨236, 15, 236, 31⟩))) (pos := ⟨236, 8, 236, 31⟩)),
  (PySem.Stmt.Assign (targets := [(PySem.Expr.Name "nodes" ⟨237, 8, 237, 13⟩)]) (value := (PySem.Expr.Attribute (PySem.Expr.Name "self" ⟨237, 16, 237, 20⟩) "nodes" ⟨237, 16, 237, 26⟩))
  (pos := ⟨237, 8, 237, 26⟩)), (PySem.Stmt.Assign (targets := [(PySem.Expr.Name "entries" ⟨238, 8, 238, 15⟩)]) (value := (PySem.Expr.ListComp (elt := (PySem.Expr.Tuple (elts := [
  (PySem.Expr.Name "path" ⟨238, 20, 238, 24⟩), (PySem.Expr.Attribute (value := (PySem.Expr.Subscript (value := (PySem.Expr.Name "nodes" ⟨238, 26, 238, 31⟩))
  (slice := (PySem.Expr.Name "path" ⟨238, 32, 238, 36⟩)) (pos := ⟨238, 26, 238, 37⟩))) (attr := "value") (pos := ⟨238, 26, 238, 43⟩))]) (k := 0) (pos := ⟨238, 19, 238, 44⟩))) (generators := [ { target := (PySem.Expr.Name "path" ⟨238, 49, 238, 53⟩), iter := (PySem.Expr.Call (func := (PySem.Expr.Name "sorted" ⟨238, 57, 238, 63⟩)) (args := [(PySem.Expr.Name "nodes" ⟨238, 64, 238, 69⟩)]) (keywords := []) (pos := ⟨238, 57, 238, 70⟩)), ifs := [ (PySem.Expr.Call (func := (PySem.Expr.Name "is_below" ⟨238, 74, 238, 82⟩)) (args := [ (PySem.Expr.Name "path" ⟨238, 83, 238, 87⟩), (PySem.Expr.Attribute (PySem.Expr.Name "letter" ⟨238, 89, 238, 95⟩) "path" ⟨238, 89, 238, 100⟩)]) (keywords := []) (pos := ⟨238, 74, 238, 101⟩))], is_async := 0 : PySem.Comprehension }])
  (scope := { kind := PySem.ScopeKind.function, names := [ (PySem.Str.ofString ".0", PySem.NameKind.local), (PySem.Str.ofString "path", PySem.NameKind.local), (PySem.Str.ofString "is_below", PySem.NameKind.globalImplicit), (PySem.Str.ofString "letter", PySem.NameKind.free), (PySem.Str.ofString "nodes", PySem.NameKind.free)], isGenerator := false, isCoroutine := false, more := [] : PySem.Scope })
  (pos := ⟨238, 18, 238, 102⟩))) (pos := ⟨238, 8, 238, 102⟩)), (PySem.Stmt.Expr (value := (PySem.Expr.Call (func := (PySem.Expr.Attribute
  (value := (PySem.Expr.Attribute (PySem.Expr.Name "self" ⟨239, 8, 239, 12⟩) "net" ⟨239, 8, 239, 16⟩)) (attr := "send") (pos := ⟨239, 8, 239, 21⟩))) (args := [ (PySem.Expr.Call
  (func := (PySem.Expr.Name "picture_letter" ⟨239, 22, 239, 36⟩)) (args := [ (PySem.Expr.Attribute (PySem.Expr.Name "letter" ⟨239, 37, 239, 43⟩) "client" ⟨239, 37, 239, 50⟩),
  (PySem.Expr.Attribute (PySem.Expr.Name "letter" ⟨239, 52, 239, 58⟩) "number" ⟨239, 52, 239, 65⟩), (PySem.Expr.Name "turn" ⟨239, 67, 239, 71⟩), (PySem.Expr.Name "entries" ⟨239, 73, 239, 80⟩)])
  (keywords := []) (pos := ⟨239, 22, 239, 81⟩))]) (keywords := []) (pos := ⟨239, 8, 239, 82⟩))) (pos := ⟨239, 8, 239, 82⟩)), (PySem.Stmt.Expr (value := (PySem.Expr.Call
  (func := (PySem.Expr.Attribute (PySem.Expr.Name "self" ⟨240, 8, 240, 12⟩) "put_last" ⟨240, 8, 240, 21⟩)) (args := [ (PySem.Expr.Call (func := (PySem.Expr.Name "Watcher" ⟨240, 22, 240, 29⟩)) (args := [
  (PySem.Expr.Attribute (PySem.Expr.Name "letter" ⟨240, 30, 240, 36⟩) "client" ⟨240, 30, 240, 43⟩), (PySem.Expr.Attribute (PySem.Expr.Name "letter" ⟨240, 45, 240, 51⟩) "number" ⟨240, 45, 240, 58⟩),
  (PySem.Expr.Attribute (PySem.Expr.Name "letter" ⟨240, 60, 240, 66⟩) "path" ⟨240, 60, 240, 71⟩), (PySem.Expr.Name "turn" ⟨240, 73, 240, 77⟩)]) (keywords := []) (pos := ⟨240, 22, 240, 78⟩))])
  (keywords := []) (pos := ⟨240, 8, 240, 79⟩))) (pos := ⟨240, 8, 240, 79⟩))]
def sc_House_show_picture : Scope := { kind := PySem.ScopeKind.function, names := [ (PySem.Str.ofString "self", PySem.NameKind.local), (PySem.Str.ofString "letter", PySem.NameKind.cell), (PySem.Str.ofString "turn", PySem.NameKind.local), (PySem.Str.ofString "nodes", PySem.NameKind.cell), (PySem.Str.ofString "entries", PySem.NameKind.local), (PySem.Str.ofString "sorted", PySem.NameKind.globalImplicit), (PySem.Str.ofString "picture_letter", PySem.NameKind.globalImplicit), (PySem.Str.ofString "Watcher", PySem.NameKind.globalImplicit)], isGenerator := false, isCoroutine := false, more := [ (PySem.Str.ofString "fast", (PySem.Const.str "self")), (PySem.Str.ofString "fast", (PySem.Const.str "letter")), (PySem.Str.ofString "fast", (PySem.Const.str "turn")), (PySem.Str.ofString "fast", (PySem.Const.str "nodes")), (PySem.Str.ofString "fast", (PySem.Const.str "path")), (PySem.Str.ofString "fast", (PySem.Const.str "entries"))] : PySem.Scope }
def d_House_show_picture : He.DefD := ⟨("House", some "show_picture"), "show_picture", "House.show_picture", a_House_show_picture, b_House_show_picture, sc_House_show_picture, [], []⟩
abbrev n_House_show_picture : List Str := ["self", "letter", "turn", "nodes", "entries", "path"]
abbrev p_House_show_picture : List Str := ["self", "letter"]
theorem S_House_show_picture : FnScope n_House_show_picture p_House_show_picture sc_House_show_picture := ⟨rfl, rfl, rfl, by decide +kernel, rfl, by decide +kernel, by decide +kernel⟩
def a_House_put_last : Arguments := { posonlyargs := [], args := [ { arg := "self", annotation := none, pos := ⟨242, 17, 242, 21⟩ : PySem.Arg }, { arg := "watcher", annotation := none, pos := ⟨242, 23, 242, 30⟩ : PySem.Arg }], vararg := none, kwonlyargs := [], kw_defaults := [], kwarg := none, defaults := [] : PySem.Arguments }
def b_House_put_last : List Stmt := [ (PySem.Stmt.Assign (targets := [(PySem.Expr.Name "others" ⟨243, 8, 243, 14⟩)]) (value := (PySem.Expr.ListComp (elt := (PySem.Expr.Name "other" ⟨243, 18, 243, 23⟩)) (generators := [ { target := (PySem.Expr.Name "other" ⟨243, 28, 243, 33⟩), iter := (PySem.Expr.Attribute (PySem.Expr.Name "self" ⟨243, 37, 243, 41⟩) "watchers" ⟨243, 37, 243, 50⟩), ifs := [ (PySem.Expr.Compare (left := (PySem.Expr.Attribute (PySem.Expr.Name "other" ⟨243, 54, 243, 59⟩) "client" ⟨243, 54, 243, 66⟩)) (ops := [PySem.CmpOp.NotEq]) (comparators := [(PySem.Expr.Attribute (PySem.Expr.Name "watcher" ⟨243, 70, 243, 77⟩) "client" ⟨243, 70, 243, 84⟩)]) (pos := ⟨243, 54, 243, 84⟩))], is_async := 0 : PySem.Comprehension }])
  (scope := { kind := PySem.ScopeKind.function, names := [ (PySem.Str.ofString ".0", PySem.NameKind.local), (PySem.Str.ofString "other", PySem.NameKind.local), (PySem.Str.ofString "watcher", PySem.NameKind.free)], isGenerator := false, isCoroutine := false, more := [] : PySem.Scope })
  (pos := ⟨243, 17, 243, 85⟩))) (pos := ⟨243, 8, 243, 85⟩)), (PySem.Stmt.Assign (targets := [(PySem.Expr.Attribute (PySem.Expr.Name "self" ⟨244, 8, 244, 12⟩) "watchers" ⟨244, 8, 244, 21⟩)])
  (value := (PySem.Expr.BinOp (left := (PySem.Expr.Name "others" ⟨244, 24, 244, 30⟩)) (op := PySem.Operator.Add)
  (right := (PySem.Expr.List [(PySem.Expr.Name "watcher" ⟨244, 34, 244, 41⟩)] ⟨244, 33, 244, 42⟩)) (pos := ⟨244, 24, 244, 42⟩))) (pos := ⟨244, 8, 244, 42⟩))]
def sc_House_put_last : Scope := { kind := PySem.ScopeKind.function, names := [ (PySem.Str.ofString "self", PySem.NameKind.local), (PySem.Str.ofString "watcher", PySem.NameKind.cell), (PySem.Str.ofString "others", PySem.NameKind.local)], isGenerator := false, isCoroutine := false, more := [ (PySem.Str.ofString "fast", (PySem.Const.str "self")), (PySem.Str.ofString "fast", (PySem.Const.str "watcher")), (PySem.Str.ofString "fast", (PySem.Const.str "other")), (PySem.Str.ofString "fast", (PySem.Const.str "others"))] : PySem.Scope }
def d_House_put_last : He.DefD := ⟨("House", some "put_last"), "put_last", "House.put_last", a_House_put_last, b_House_put_last, sc_House_put_last, [], []⟩
abbrev n_House_put_last : List Str := ["self", "watcher", "others", "other"]
abbrev p_House_put_last : List Str := ["self", "watcher"]
theorem S_House_put_last : FnScope n_House_put_last p_House_put_last sc_House_put_last := ⟨rfl, rfl, rfl, by decide +kernel, rfl, by decide +kernel, by decide +kernel⟩
def a_Order_init : Arguments := { posonlyargs := [], args := [ { arg := "self", annotation := none, pos := ⟨264, 17, 264, 21⟩ : PySem.Arg }, { arg := "numbers", annotation := none, pos := ⟨264, 23, 264, 30⟩ : PySem.Arg }], vararg := none, kwonlyargs := [], kw_defaults := [], kwarg := none, defaults := [] : PySem.Arguments }
def b_Order_init : List Stmt := [ (PySem.Stmt.Assign (targets := [(PySem.Expr.Attribute (PySem.Expr.Name "self" ⟨265, 8, 265, 12⟩) "kind" ⟨265, 8, 265, 17⟩)]) (value := (PySem.Expr.Subscript
  (value := (PySem.Expr.Name "numbers" ⟨265, 20, 265, 27⟩)) (slice := (PySem.Expr.Constant (PySem.Const.int 0) 0 ⟨265, 28, 265, 29⟩)) (pos := ⟨265, 20, 265, 30⟩))) (pos := ⟨265, 8, 265, 30⟩)),
  (PySem.Stmt.Assign (targets := [(PySem.Expr.Attribute (PySem.Expr.Name "self" ⟨266, 8, 266, 12⟩) "version" ⟨266, 8, 266, 20⟩)]) (value := (PySem.Expr.Subscript
  (value := (PySem.Expr.Name "numbers" ⟨266, 23, 266, 30⟩)) (slice := (PySem.Expr.Constant (PySem.Const.int 1) 0 ⟨266, 31, 266, 32⟩)) (pos := ⟨266, 23, 266, 33⟩))) (pos := ⟨266, 8, 266, 33⟩)),
  (PySem.Stmt.Assign (targets := [(PySem.Expr.Attribute (PySem.Expr.Name "self" ⟨267, 8, 267, 12⟩) "value" ⟨267, 8, 267, 18⟩)]) (value := (PySem.Expr.Subscript
  (value := (PySem.Expr.Name "numbers" ⟨267, 21, 267, 28⟩)) (slice := (PySem.Expr.Constant (PySem.Const.int 2) 0 ⟨267, 29, 267, 30⟩)) (pos := ⟨267, 21, 267, 31⟩))) (pos := ⟨267, 8, 267, 31⟩)),
  (PySem.Stmt.Assign (targets := [(PySem.Expr.Attribute (PySem.Expr.Name "self" ⟨268, 8, 268, 12⟩) "session" ⟨268, 8, 268, 20⟩)]) (value := (PySem.Expr.Subscript
  (value := (PySem.Expr.Name "numbers" ⟨268, 23, 268, 30⟩)) (slice := (PySem.Expr.Constant (PySem.Const.int 3) 0 ⟨268, 31, 268, 32⟩)) (pos := ⟨268, 23, 268, 33⟩))) (pos := ⟨268, 8, 268, 33⟩)),
  (PySem.Stmt.Assign (targets := [(PySem.Expr.Attribute (PySem.Expr.Name "self" ⟨269, 8, 269, 12⟩) "path" ⟨269, 8, 269, 17⟩)]) (value := (PySem.Expr.Call
  (func := (PySem.Expr.Name "tuple" ⟨269, 20, 269, 25⟩)) (args := [ (PySem.Expr.Subscript (value := (PySem.Expr.Name "numbers" ⟨269, 26, 269, 33⟩)) (slice := (PySem.Expr.Slice
  (lower := (some (PySem.Expr.Constant (PySem.Const.int 4) 0 ⟨269, 34, 269, 35⟩))) (upper := none) (step := none) (pos := ⟨269, 34, 269, 36⟩))) (pos := ⟨269, 26, 269, 37⟩))]) (keywords := [])
  (pos := ⟨269, 20, 269, 38⟩))) (pos := ⟨269, 8, 269, 38⟩))]
def sc_Order_init : Scope := { kind := PySem.ScopeKind.function, names := [ (PySem.Str.ofString "self", PySem.NameKind.local), (PySem.Str.ofString "numbers", PySem.NameKind.local), (PySem.Str.ofString "tuple", PySem.NameKind.globalImplicit)], isGenerator := false, isCoroutine := false, more := [] : PySem.Scope }
def d_Order_init : He.DefD := ⟨("Order", some "__init__"), "__init__", "Order.__init__", a_Order_init, b_Order_init, sc_Order_init, [], []⟩
abbrev n_Order_init : List Str := ["self", "numbers"]
abbrev p_Order_init : List Str := ["self", "numbers"]
theorem S_Order_init : FnScope n_Order_init p_Order_init sc_Order_init := ⟨rfl, rfl, rfl, by decide +kernel, rfl, by decide +kernel, by decide +kernel⟩
def a_is_order : Arguments := { posonlyargs := [], args := [{ arg := "order", annotation := none, pos := ⟨270, 13, 270, 18⟩ : PySem.Arg }], vararg := none, kwonlyargs := [], kw_defaults := [], kwarg := none, defaults := [] : PySem.Arguments }
def b_is_order : List Stmt := [ (PySem.Stmt.Return (value := (some (PySem.Expr.BoolOp (op := PySem.BoolOp.And) (values := [ (PySem.Expr.Compare
  (left := (PySem.Expr.Attribute (PySem.Expr.Name "order" ⟨271, 11, 271, 16⟩) "kind" ⟨271, 11, 271, 21⟩)) (ops := [PySem.CmpOp.LtE]) (comparators := [(PySem.Expr.Name "CHECK" ⟨271, 25, 271, 30⟩)])
  (pos := ⟨271, 11, 271, 30⟩)), (PySem.Expr.Compare (left := (PySem.Expr.Attribute (PySem.Expr.Name "order" ⟨271, 35, 271, 40⟩) "value" ⟨271, 35, 271, 46⟩)) (ops := [PySem.CmpOp.LtE])
  (comparators := [(PySem.Expr.Name "MOST_VALUE" ⟨271, 50, 271, 60⟩)]) (pos := ⟨271, 35, 271, 60⟩)), (PySem.Expr.Call (func := (PySem.Expr.Name "is_path" ⟨271, 65, 271, 72⟩))
  (args := [(PySem.Expr.Attribute (PySem.Expr.Name "order" ⟨271, 73, 271, 78⟩) "path" ⟨271, 73, 271, 83⟩)]) (keywords := []) (pos := ⟨271, 65, 271, 84⟩))]) (pos := ⟨271, 11, 271, 84⟩))))
  (pos := ⟨271, 4, 271, 84⟩))]
def sc_is_order : Scope := { kind := PySem.ScopeKind.function, names := [ (PySem.Str.ofString "order", PySem.NameKind.local), (PySem.Str.ofString "CHECK", PySem.NameKind.globalImplicit), (PySem.Str.ofString "MOST_VALUE", PySem.NameKind.globalImplicit), (PySem.Str.ofString "is_path", PySem.NameKind.globalImplicit)], isGenerator := false, isCoroutine := false, more := [] : PySem.Scope }
def d_is_order : He.DefD := ⟨("is_order", none), "is_order", "is_order", a_is_order, b_is_order, sc_is_order, [], []⟩
abbrev n_is_order : List Str := ["order"]
abbrev p_is_order : List Str := ["order"]
theorem S_is_order : FnScope n_is_order p_is_order sc_is_order := ⟨rfl, rfl, rfl, by decide +kernel, rfl, by decide +kernel, by decide +kernel⟩
def a_are_orders : Arguments := { posonlyargs := [], args := [{ arg := "orders", annotation := none, pos := ⟨272, 15, 272, 21⟩ : PySem.Arg }], vararg := none, kwonlyargs := [], kw_defaults := [], kwarg := none, defaults := [] : PySem.Arguments }
def b_are_orders : List Stmt := [ (PySem.Stmt.Return (value := (some (PySem.Expr.BoolOp (op := PySem.BoolOp.And) (values := [ (PySem.Expr.Compare (left := (PySem.Expr.Constant (PySem.Const.int 1) 0 ⟨273, 11, 273, 12⟩))
  (ops := [PySem.CmpOp.LtE, PySem.CmpOp.LtE]) (comparators := [ (PySem.Expr.Call (func := (PySem.Expr.Name "len" ⟨273, 16, 273, 19⟩)) (args := [(PySem.Expr.Name "orders" ⟨273, 20, 273, 26⟩)])
  (keywords := []) (pos := ⟨273, 16, 273, 27⟩)), (PySem.Expr.Name "MOST_ORDERS" ⟨273, 31, 273, 42⟩)]) (pos := ⟨273, 11, 273, 42⟩)), (PySem.Expr.Call (func := (PySem.Expr.Name "all" ⟨273, 47, 273, 50⟩))
  (args := [ (PySem.Expr.ListComp (elt := (PySem.Expr.Call (func := (PySem.Expr.Name "is_order" ⟨273, 52, 273, 60⟩)) (args := [(PySem.Expr.Name "order" ⟨273, 61, 273, 66⟩)]) (keywords := [])
  (pos := ⟨273, 52, 273, 67⟩))) (generators := [ { target := (PySem.Expr.Name "order" ⟨273, 72, 273, 77⟩), iter := (PySem.Expr.Name "orders" ⟨273, 81, 273, 87⟩), ifs := [], is_async := 0 : PySem.Comprehension }])
  (scope := { kind := PySem.ScopeKind.function, names := [ (PySem.Str.ofString ".0", PySem.NameKind.local), (PySem.Str.ofString "order", PySem.NameKind.local), (PySem.Str.ofString "is_order", PySem.NameKind.globalImplicit)], isGenerator := false, isCoroutine := false, more := [] : PySem.Scope })
  (pos := ⟨273, 51, 273, 88⟩))]) (keywords := []) (pos := ⟨273, 47, 273, 89⟩))]) (pos := ⟨273, 11, 273, 89⟩)))) (pos := ⟨273, 4, 273, 89⟩))]
def sc_are_orders : Scope := { kind := PySem.ScopeKind.function, names := [ (PySem.Str.ofString "orders", PySem.NameKind.local), (PySem.Str.ofString "len", PySem.NameKind.globalImplicit), (PySem.Str.ofString "MOST_ORDERS", PySem.NameKind.globalImplicit), (PySem.Str.ofString "all", PySem.NameKind.globalImplicit)], isGenerator := false, isCoroutine := false, more := [ (PySem.Str.ofString "fast", (PySem.Const.str "orders")), (PySem.Str.ofString "fast", (PySem.Const.str "order"))] : PySem.Scope }
def d_are_orders : He.DefD := ⟨("are_orders", none), "are_orders", "are_orders", a_are_orders, b_are_orders, sc_are_orders, [], []⟩
abbrev n_are_orders : List Str := ["orders", "order"]
abbrev p_are_orders : List Str := ["orders"]
theorem S_are_orders : FnScope n_are_orders p_are_orders sc_are_orders := ⟨rfl, rfl, rfl, by decide +kernel, rfl, by decide +kernel, by decide +kernel⟩
def a_why_not : Arguments := { posonlyargs := [], args := [ { arg := "order", annotation := none, pos := ⟨274, 12, 274, 17⟩ : PySem.Arg }, { arg := "nodes", annotation := none, pos := ⟨274, 19, 274, 24⟩ : PySem.Arg }, { arg := "house", annotation := none, pos := ⟨274, 26, 274, 31⟩ : PySem.Arg }], vararg := none, kwonlyargs := [], kw_defaults := [], kwarg := none, defaults := [] : PySem.Arguments }
def b_why_not : List Stmt := [ (PySem.Stmt.If (test := (PySem.Expr.Compare (left := (PySem.Expr.Attribute (PySem.Expr.Name "order" ⟨275, 7, 275, 12⟩) "kind" ⟨275, 7, 275, 17⟩)) (ops := [PySem.CmpOp.Eq])
  (comparators := [(PySem.Expr.Name "MAKE" ⟨275, 21, 275, 25⟩)]) (pos := ⟨275, 7, 275, 25⟩))) (body := [ (PySem.Stmt.Return (value := (some (PySem.Expr.Call
  (func := (PySem.Expr.Name "why_not_make" ⟨276, 15, 276, 27⟩)) (args := [ (PySem.Expr.Name "order" ⟨276, 28, 276, 33⟩), (PySem.Expr.Name "nodes" ⟨276, 35, 276, 40⟩),
  (PySem.Expr.Name "house" ⟨276, 42, 276, 47⟩)]) (keywords := []) (pos := ⟨276, 15, 276, 48⟩)))) (pos := ⟨276, 8, 276, 48⟩))]) (orelse := []) (pos := ⟨275, 4, 276, 48⟩)), (PySem.Stmt.If
  (test := (PySem.Expr.Compare (left := (PySem.Expr.Attribute (PySem.Expr.Name "order" ⟨277, 7, 277, 12⟩) "kind" ⟨277, 7, 277, 17⟩)) (ops := [PySem.CmpOp.Eq])
  (comparators := [(PySem.Expr.Name "CHECK" ⟨277, 21, 277, 26⟩)]) (pos := ⟨277, 7, 277, 26⟩))) (body := [ (PySem.Stmt.Return (value := (some (PySem.Expr.Call
  (func := (PySem.Expr.Name "why_not_check" ⟨278, 15, 278, 28⟩)) (args := [(PySem.Expr.Name "order" ⟨278, 29, 278, 34⟩), (PySem.Expr.Name "nodes" ⟨278, 36, 278, 41⟩)]) (keywords := [])
  (pos := ⟨278, 15, 278, 42⟩)))) (pos := ⟨278, 8, 278, 42⟩))]) (orelse := []) (pos := ⟨277, 4, 278, 42⟩)), (PySem.Stmt.Return (value := (some (PySem.Expr.Call
  (func := (PySem.Expr.Name "why_not_set_or_drop" ⟨279, 11, 279, 30⟩)) (args := [(PySem.Expr.Name "order" ⟨279, 31, 279, 36⟩), (PySem.Expr.Name "nodes" ⟨279, 38, 279, 43⟩)]) (keywords := [])
  (pos := ⟨279, 11, 279, 44⟩)))) (pos := ⟨279, 4, 279, 44⟩))]
def sc_why_not : Scope := { kind := PySem.ScopeKind.function, names := [ (PySem.Str.ofString "order", PySem.NameKind.local), (PySem.Str.ofString "nodes", PySem.NameKind.local), (PySem.Str.ofString "house", PySem.NameKind.local), (PySem.Str.ofString "MAKE", PySem.NameKind.globalImplicit), (PySem.Str.ofString "why_not_make", PySem.NameKind.globalImplicit), (PySem.Str.ofString "CHECK", PySem.NameKind.globalImplicit), (PySem.Str.ofString "why_not_check", PySem.NameKind.globalImplicit), (PySem.Str.ofString "why_not_set_or_drop", PySem.NameKind.globalImplicit)], isGenerator := false, isCoroutine := false, more := [] : PySem.Scope }
def d_why_not : He.DefD := ⟨("why_not", none), "why_not", "why_not", a_why_not, b_why_not, sc_why_not, [], []⟩
abbrev n_why_not : List Str := ["order", "nodes", "house"]
abbrev p_why_not : List Str := ["order", "nodes", "house"]
theorem S_why_not : FnScope n_why_not p_why_not sc_why_not := ⟨rfl, rfl, rfl, by decide +kernel, rfl, by decide +kernel, by decide +kernel⟩
def a_why_not_make : Arguments := { posonlyargs := [], args := [ { arg := "order", annotation := none, pos := ⟨280, 17, 280, 22⟩ : PySem.Arg }, { arg := "nodes", annotation := none, pos := ⟨280, 24, 280, 29⟩ : PySem.Arg }, { arg := "house", annotation := none, pos := ⟨280, 31, 280, 36⟩ : PySem.Arg }], vararg := none, kwonlyargs := [], kw_defaults := [], kwarg := none, defaults := [] : PySem.Arguments }
def b_why_not_make : List Stmt := [ (PySem.Stmt.If (test := (PySem.Expr.Compare (left := (PySem.Expr.Attribute (PySem.Expr.Name "order" ⟨281, 7, 281, 12⟩) "path" ⟨281, 7, 281, 17⟩)) (ops := [PySem.CmpOp.In])
  (comparators := [(PySem.Expr.Name "nodes" ⟨281, 21, 281, 26⟩)]) (pos := ⟨281, 7, 281, 26⟩))) (body := [(PySem.Stmt.Return (some (PySem.Expr.Name "NODE_THERE" ⟨282, 15, 282, 25⟩)) ⟨282, 8, 282, 25⟩)])
  (orelse := []) (pos := ⟨281, 4, 282, 25⟩)), (PySem.Stmt.If (test := (PySem.Expr.BoolOp (op := PySem.BoolOp.And) (values := [ (PySem.Expr.Compare
  (left := (PySem.Expr.Attribute (PySem.Expr.Name "order" ⟨283, 7, 283, 12⟩) "session" ⟨283, 7, 283, 20⟩)) (ops := [PySem.CmpOp.NotEq])
  (comparators := [(PySem.Expr.Constant (PySem.Const.int 0) 0 ⟨283, 24, 283, 25⟩)]) (pos := ⟨283, 7, 283, 25⟩)), (PySem.Expr.UnaryOp (op := PySem.UnaryOp.Not) (operand := (PySem.Expr.Call
  (func := (PySem.Expr.Attribute (PySem.Expr.Name "house" ⟨283, 35, 283, 40⟩) "lasts" ⟨283, 35, 283, 46⟩))
  (args := [(PySem.Expr.Attribute (PySem.Expr.Name "order" ⟨283, 47, 283, 52⟩) "session" ⟨283, 47, 283, 60⟩)]) (keywords := []) (pos := ⟨283, 35, 283, 61⟩))) (pos := ⟨283, 31, 283, 61⟩))])
  (pos := ⟨283, 7, 283, 62⟩))) (body := [(PySem.Stmt.Return (some (PySem.Expr.Name "NO_SESSION" ⟨284, 15, 284, 25⟩)) ⟨284, 8, 284, 25⟩)]) (orelse := []) (pos := ⟨283, 4, 284, 25⟩)), (PySem.Stmt.If
  (test := (PySem.Expr.Compare (left := (PySem.Expr.Call (func := (PySem.Expr.Name "len" ⟨285, 7, 285, 10⟩)) (args := [(PySem.Expr.Name "nodes" ⟨285, 11, 285, 16⟩)]) (keywords := [])
  (pos := ⟨285, 7, 285, 17⟩))) (ops := [PySem.CmpOp.GtE]) (comparators := [(PySem.Expr.Name "MOST_NODES" ⟨285, 21, 285, 31⟩)]) (pos := ⟨285, 7, 285, 31⟩)))
  (body := [(PySem.Stmt.Return (some (PySem.Expr.Name "NO_ROOM" ⟨286, 15, 286, 22⟩)) ⟨286, 8, 286, 22⟩)]) (orelse := []) (pos := ⟨285, 4, 286, 22⟩)), (PySem.Stmt.Return (value := (some (PySem.Expr.Call
  (func := (PySem.Expr.Name "why_not_under" ⟨287, 11, 287, 24⟩)) (args := [ (PySem.Expr.Subscript (value := (PySem.Expr.Attribute (PySem.Expr.Name "order" ⟨287, 25, 287, 30⟩) "path" ⟨287, 25, 287, 35⟩))
  (slice := (PySem.Expr.Slice (lower := none) (upper := (some (PySem.Expr.UnaryOp (op := PySem.UnaryOp.USub) (operand := (PySem.Expr.Constant (PySem.Const.int 1) 0 ⟨287, 38, 287, 39⟩))
  (pos := ⟨287, 37, 287, 39⟩)))) (step := none) (pos := ⟨287, 36, 287, 39⟩))) (pos := ⟨287, 25, 287, 40⟩)), (PySem.Expr.Name "nodes" ⟨287, 42, 287, 47⟩)]) (keywords := []) (pos := ⟨287, 11, 287, 48⟩))))
  (pos := ⟨287, 4, 287, 48⟩))]
def sc_why_not_make : Scope := { kind := PySem.ScopeKind.function, names := [ (PySem.Str.ofString "order", PySem.NameKind.local), (PySem.Str.ofString "nodes", PySem.NameKind.local), (PySem.Str.ofString "house", PySem.NameKind.local), (PySem.Str.ofString "NODE_THERE", PySem.NameKind.globalImplicit), (PySem.Str.ofString "NO_SESSION", PySem.NameKind.globalImplicit), (PySem.Str.ofString "len", PySem.NameKind.globalImplicit), (PySem.Str.ofString "MOST_NODES", PySem.NameKind.globalImplicit), (PySem.Str.ofString "NO_ROOM", PySem.NameKind.globalImplicit), (PySem.Str.ofString "why_not_under", PySem.NameKind.globalImplicit)], isGenerator := false, isCoroutine := false, more := [] : PySem.Scope }
def d_why_not_make : He.DefD := ⟨("why_not_make", none), "why_not_make", "why_not_make", a_why_not_make, b_why_not_make, sc_why_not_make, [], []⟩
abbrev n_why_not_make : List Str := ["order", "nodes", "house"]
abbrev p_why_not_make : List Str := ["order", "nodes", "house"]
theorem S_why_not_make : FnScope n_why_not_make p_why_not_make sc_why_not_make := ⟨rfl, rfl, rfl, by decide +kernel, rfl, by decide +kernel, by decide +kernel⟩
def a_why_not_under : Arguments := { posonlyargs := [], args := [ { arg := "above", annotation := none, pos := ⟨288, 18, 288, 23⟩ : PySem.Arg }, { arg := "nodes", annotation := none, pos := ⟨288, 25, 288, 30⟩ : PySem.Arg }], vararg := none, kwonlyargs := [], kw_defaults := [], kwarg := none, defaults := [] : PySem.Arguments }
def b_why_not_under : List Stmt := [ (PySem.Stmt.If (test := (PySem.Expr.Compare (left := (PySem.Expr.Call (func := (PySem.Expr.Name "len" ⟨289, 7, 289, 10⟩)) (args := [(PySem.Expr.Name "above" ⟨289, 11, 289, 16⟩)]) (keywords := [])
  (pos := ⟨289, 7, 289, 17⟩))) (ops := [PySem.CmpOp.Eq]) (comparators := [(PySem.Expr.Constant (PySem.Const.int 0) 0 ⟨289, 21, 289, 22⟩)]) (pos := ⟨289, 7, 289, 22⟩)))
  (body := [(PySem.Stmt.Return (some (PySem.Expr.Name "CAN_BE_DONE" ⟨290, 15, 290, 26⟩)) ⟨290, 8, 290, 26⟩)]) (orelse := []) (pos := ⟨289, 4, 290, 26⟩)), (PySem.Stmt.If (test := (PySem.Expr.Compare
  (left := (PySem.Expr.Name "above" ⟨291, 7, 291, 12⟩)) (ops := [PySem.CmpOp.NotIn]) (comparators := [(PySem.Expr.Name "nodes" ⟨291, 20, 291, 25⟩)]) (pos := ⟨291, 7, 291, 25⟩)))
  (body := [(PySem.Stmt.Return (some (PySem.Expr.Name "NOTHING_ABOVE" ⟨292, 15, 292, 28⟩)) ⟨292, 8, 292, 28⟩)]) (orelse := []) (pos := ⟨291, 4, 292, 28⟩)), (PySem.Stmt.If (test := (PySem.Expr.Compare
  (left := (PySem.Expr.Attribute (value := (PySem.Expr.Subscript (value := (PySem.Expr.Name "nodes" ⟨293, 7, 293, 12⟩)) (slice := (PySem.Expr.Name "above" ⟨293, 13, 293, 18⟩))
  (pos := ⟨293, 7, 293, 19⟩))) (attr := "held") (pos := ⟨293, 7, 293, 24⟩))) (ops := [PySem.CmpOp.NotEq]) (comparators := [(PySem.Expr.Constant (PySem.Const.int 0) 0 ⟨293, 28, 293, 29⟩)])
  (pos := ⟨293, 7, 293, 29⟩))) (body := [(PySem.Stmt.Return (some (PySem.Expr.Name "HELD_ABOVE" ⟨294, 15, 294, 25⟩)) ⟨294, 8, 294, 25⟩)]) (orelse := []) (pos := ⟨293, 4, 294, 25⟩)),
  (PySem.Stmt.Return (some (PySem.Expr.Name "CAN_BE_DONE" ⟨295, 11, 295, 22⟩)) ⟨295, 4, 295, 22⟩)]
def sc_why_not_under : Scope := { kind := PySem.ScopeKind.function, names := [ (PySem.Str.ofString "above", PySem.NameKind.local), (PySem.Str.ofString "nodes", PySem.NameKind.local), (PySem.Str.ofString "len", PySem.NameKind.globalImplicit), (PySem.Str.ofString "CAN_BE_DONE", PySem.NameKind.globalImplicit), (PySem.Str.ofString "NOTHING_ABOVE", PySem.NameKind.globalImplicit), (PySem.Str.ofString "HELD_ABOVE", PySem.NameKind.globalImplicit)], isGenerator := false, isCoroutine := false, more := [] : PySem.Scope }
def d_why_not_under : He.DefD := ⟨("why_not_under", none), "why_not_under", "why_not_under", a_why_not_under, b_why_not_under, sc_why_not_under, [], []⟩
abbrev n_why_not_under : List Str := ["above", "nodes"]
abbrev p_why_not_under : List Str := ["above", "nodes"]
theorem S_why_not_under : FnScope n_why_not_under p_why_not_under sc_why_not_under := ⟨rfl, rfl, rfl, by decide +kernel, rfl, by decide +kernel, by decide +kernel⟩
def a_why_not_set_or_drop : Arguments := { posonlyargs := [], args := [ { arg := "order", annotation := none, pos := ⟨296, 24, 296, 29⟩ : PySem.Arg }, { arg := "nodes", annotation := none, pos := ⟨296, 31, 296, 36⟩ : PySem.Arg }], vararg := none, kwonlyargs := [], kw_defaults := [], kwarg := none, defaults := [] : PySem.Arguments }
def b_why_not_set_or_drop : List Stmt := [ (PySem.Stmt.If (test := (PySem.Expr.Compare (left := (PySem.Expr.Attribute (PySem.Expr.Name "order" ⟨297, 7, 297, 12⟩) "path" ⟨297, 7, 297, 17⟩)) (ops := [PySem.CmpOp.NotIn])
  (comparators := [(PySem.Expr.Name "nodes" ⟨297, 25, 297, 30⟩)]) (pos := ⟨297, 7, 297, 30⟩))) (body := [(PySem.Stmt.Return (some (PySem.Expr.Name "NO_NODE" ⟨298, 15, 298, 22⟩)) ⟨298, 8, 298, 22⟩)])
  (orelse := []) (pos := ⟨297, 4, 298, 22⟩)), (PySem.Stmt.If (test := (PySem.Expr.BoolOp (op := PySem.BoolOp.And) (values := [ (PySem.Expr.Compare
  (left := (PySem.Expr.Attribute (PySem.Expr.Name "order" ⟨299, 7, 299, 12⟩) "version" ⟨299, 7, 299, 20⟩)) (ops := [PySem.CmpOp.NotEq])
  (comparators := [(PySem.Expr.Constant (PySem.Const.int 0) 0 ⟨299, 24, 299, 25⟩)]) (pos := ⟨299, 7, 299, 25⟩)), (PySem.Expr.Compare
  (left := (PySem.Expr.Attribute (PySem.Expr.Name "order" ⟨299, 30, 299, 35⟩) "version" ⟨299, 30, 299, 43⟩)) (ops := [PySem.CmpOp.NotEq]) (comparators := [ (PySem.Expr.Attribute
  (value := (PySem.Expr.Subscript (value := (PySem.Expr.Name "nodes" ⟨299, 47, 299, 52⟩)) (slice := (PySem.Expr.Attribute (PySem.Expr.Name "order" ⟨299, 53, 299, 58⟩) "path" ⟨299, 53, 299, 63⟩))
  (pos := ⟨299, 47, 299, 64⟩))) (attr := "version") (pos := ⟨299, 47, 299, 72⟩))]) (pos := ⟨299, 30, 299, 72⟩))]) (pos := ⟨299, 7, 299, 72⟩)))
  (body := [(PySem.Stmt.Return (some (PySem.Expr.Name "OTHER_VERSION" ⟨300, 15, 300, 28⟩)) ⟨300, 8, 300, 28⟩)]) (orelse := []) (pos := ⟨299, 4, 300, 28⟩)), (PySem.Stmt.If (test := (PySem.Expr.BoolOp
  (op := PySem.BoolOp.And) (values := [ (PySem.Expr.Compare (left := (PySem.Expr.Attribute (PySem.Expr.Name "order" ⟨301, 7, 301, 12⟩) "kind" ⟨301, 7, 301, 17⟩)) (ops := [PySem.CmpOp.Eq])
  (comparators := [(PySem.Expr.Name "DROP" ⟨301, 21, 301, 25⟩)]) (pos := ⟨301, 7, 301, 25⟩)), (PySem.Expr.Call (func := (PySem.Expr.Name "has_others_below" ⟨301, 30, 301, 46⟩)) (args := [
  (PySem.Expr.Attribute (PySem.Expr.Name "order" ⟨301, 47, 301, 52⟩) "path" ⟨301, 47, 301, 57⟩), (PySem.Expr.Name "nodes" ⟨301, 59, 301, 64⟩)]) (keywords := []) (pos := ⟨301, 30, 301, 65⟩))])
  (pos := ⟨301, 7, 301, 65⟩))) (body := [(PySem.Stmt.Return (some (PySem.Expr.Name "NODE_BELOW" ⟨302, 15, 302, 25⟩)) ⟨302, 8, 302, 25⟩)]) (orelse := []) (pos := ⟨301, 4, 302, 25⟩)),
  (PySem.Stmt.Return (some (PySem.Expr.Name "CAN_BE_DONE" ⟨303, 11, 303, 22⟩)) ⟨303, 4, 303, 22⟩)]
def sc_why_not_set_or_drop : Scope := { kind := PySem.ScopeKind.function, names := [ (PySem.Str.ofString "order", PySem.NameKind.local), (PySem.Str.ofString "nodes", PySem.NameKind.local), (PySem.Str.ofString "NO_NODE", PySem.NameKind.globalImplicit), (PySem.Str.ofString "OTHER_VERSION", PySem.NameKind.globalImplicit), (PySem.Str.ofString "DROP", PySem.NameKind.globalImplicit), (PySem.Str.ofString "has_others_below", PySem.NameKind.globalImplicit), (PySem.Str.ofString "NODE_BELOW", PySem.NameKind.globalImplicit), (PySem.Str.ofString "CAN_BE_DONE", PySem.NameKind.globalImplicit)], isGenerator := false, isCoroutine := false, more := [] : PySem.Scope }
def d_why_not_set_or_drop : He.DefD := ⟨("why_not_set_or_drop", none), "why_not_set_or_drop", "why_not_set_or_drop", a_why_not_set_or_drop, b_why_not_set_or_drop, sc_why_not_set_or_drop, [], []⟩
abbrev n_why_not_set_or_drop : List Str := ["order", "nodes"]
abbrev p_why_not_set_or_drop : List Str := ["order", "nodes"]
theorem S_why_not_set_or_drop : FnScope n_why_not_set_or_drop p_why_not_set_or_drop sc_why_not_set_or_drop := ⟨rfl, rfl, rfl, by decide +kernel, rfl, by decide +kernel, by decide +kernel⟩
def a_has_others_below : Arguments := { posonlyargs := [], args := [ { arg := "top", annotation := none, pos := ⟨304, 21, 304, 24⟩ : PySem.Arg }, { arg := "nodes", annotation := none, pos := ⟨304, 26, 304, 31⟩ : PySem.Arg }], vararg := none, kwonlyargs := [], kw_defaults := [], kwarg := none, defaults := [] : PySem.Arguments }
def b_has_others_below : List Stmt := [ (PySem.Stmt.Return (value := (some (PySem.Expr.Call (func := (PySem.Expr.Name "any" ⟨305, 11, 305, 14⟩)) (args := [ (PySem.Expr.ListComp (elt := (PySem.Expr.BoolOp (op := PySem.BoolOp.And)
  (values := [ (PySem.Expr.Compare (left := (PySem.Expr.Name "path" ⟨305, 16, 305, 20⟩)) (ops := [PySem.CmpOp.NotEq]) (comparators := [(PySem.Expr.Name "top" ⟨305, 24, 305, 27⟩)])
  (pos := ⟨305, 16, 305, 27⟩)), (PySem.Expr.Call (func := (PySem.Expr.Name "is_below" ⟨305, 32, 305, 40⟩))
  (args := [(PySem.Expr.Name "path" ⟨305, 41, 305, 45⟩), (PySem.Expr.Name "top" ⟨305, 47, 305, 50⟩)]) (keywords := []) (pos := ⟨305, 32, 305, 51⟩))]) (pos := ⟨305, 16, 305, 51⟩))) (generators := [ { target := (PySem.Expr.Name "path" ⟨305, 56, 305, 60⟩), iter := (PySem.Expr.Name "nodes" ⟨305, 64, 305, 69⟩), ifs := [], is_async := 0 : PySem.Comprehension }])
  (scope := { kind := PySem.ScopeKind.function, names := [ (PySem.Str.ofString ".0", PySem.NameKind.local), (PySem.Str.ofString "path", PySem.NameKind.local), (PySem.Str.ofString "is_below", PySem.NameKind.globalImplicit), (PySem.Str.ofString "top", PySem.NameKind.free)], isGenerator := false, isCoroutine := false, more := [] : PySem.Scope })
  (pos := ⟨305, 15, 305, 70⟩))]) (keywords := []) (pos := ⟨305, 11, 305, 71⟩)))) (pos := ⟨305, 4, 305, 71⟩))]
def sc_has_others_below : Scope := { kind := PySem.ScopeKind.function, names := [ (PySem.Str.ofString "top", PySem.NameKind.cell), (PySem.Str.ofString "nodes", PySem.NameKind.local), (PySem.Str.ofString "any", PySem.NameKind.globalImplicit)], isGenerator := false, isCoroutine := false, more := [ (PySem.Str.ofString "fast", (PySem.Const.str "top")), (PySem.Str.ofString "fast", (PySem.Const.str "nodes")), (PySem.Str.ofString "fast", (PySem.Const.str "path"))] : PySem.Scope }
def d_has_others_below : He.DefD := ⟨("has_others_below", none), "has_others_below", "has_others_below", a_has_others_below, b_has_others_below, sc_has_others_below, [], []⟩
abbrev n_has_others_below : List Str := ["top", "nodes", "path"]
abbrev p_has_others_below : List Str := ["top", "nodes"]
theorem S_has_others_below : FnScope n_has_others_below p_has_others_below sc_has_others_below := ⟨rfl, rfl, rfl, by decide +kernel, rfl, by decide +kernel, by decide +kernel⟩
def a_why_not_check : Arguments := { posonlyargs := [], args := [ { arg := "order", annotation := none, pos := ⟨306, 18, 306, 23⟩ : PySem.Arg }, { arg := "nodes", annotation := none, pos := ⟨306, 25, 306, 30⟩ : PySem.Arg }], vararg := none, kwonlyargs := [], kw_defaults := [], kwarg := none, defaults := [] : PySem.Arguments }
def b_why_not_check : List Stmt := [ (PySem.Stmt.If (test := (PySem.Expr.Compare (left := (PySem.Expr.Attribute (PySem.Expr.Name "order" ⟨307, 7, 307, 12⟩) "version" ⟨307, 7, 307, 20⟩)) (ops := [PySem.CmpOp.Eq])
  (comparators := [(PySem.Expr.Constant (PySem.Const.int 0) 0 ⟨307, 24, 307, 25⟩)]) (pos := ⟨307, 7, 307, 25⟩))) (body := [ (PySem.Stmt.Return (value := (some (PySem.Expr.IfExp
  (test := (PySem.Expr.Compare (left := (PySem.Expr.Attribute (PySem.Expr.Name "order" ⟨308, 29, 308, 34⟩) "path" ⟨308, 29, 308, 39⟩)) (ops := [PySem.CmpOp.In])
  (comparators := [(PySem.Expr.Name "nodes" ⟨308, 43, 308, 48⟩)]) (pos := ⟨308, 29, 308, 48⟩))) (body := (PySem.Expr.Name "NODE_THERE" ⟨308, 15, 308, 25⟩))
  (orelse := (PySem.Expr.Name "CAN_BE_DONE" ⟨308, 54, 308, 65⟩)) (pos := ⟨308, 15, 308, 65⟩)))) (pos := ⟨308, 8, 308, 65⟩))]) (orelse := []) (pos := ⟨307, 4, 308, 65⟩)), (PySem.Stmt.If
  (test := (PySem.Expr.Compare (left := (PySem.Expr.Attribute (PySem.Expr.Name "order" ⟨309, 7, 309, 12⟩) "path" ⟨309, 7, 309, 17⟩)) (ops := [PySem.CmpOp.NotIn])
  (comparators := [(PySem.Expr.Name "nodes" ⟨309, 25, 309, 30⟩)]) (pos := ⟨309, 7, 309, 30⟩))) (body := [(PySem.Stmt.Return (some (PySem.Expr.Name "NO_NODE" ⟨310, 15, 310, 22⟩)) ⟨310, 8, 310, 22⟩)])
  (orelse := []) (pos := ⟨309, 4, 310, 22⟩)), (PySem.Stmt.If (test := (PySem.Expr.Compare (left := (PySem.Expr.Attribute (PySem.Expr.Name "order" ⟨311, 7, 311, 12⟩) "version" ⟨311, 7, 311, 20⟩))
  (ops := [PySem.CmpOp.NotEq]) (comparators := [ (PySem.Expr.Attribute (value := (PySem.Expr.Subscript (value := (PySem.Expr.Name "nodes" ⟨311, 24, 311, 29⟩))
  (slice := (PySem.Expr.Attribute (PySem.Expr.Name "order" ⟨311, 30, 311, 35⟩) "path" ⟨311, 30, 311, 40⟩)) (pos := ⟨311, 24, 311, 41⟩))) (attr := "version") (pos := ⟨311, 24, 311, 49⟩))])
  (pos := ⟨311, 7, 311, 49⟩))) (body := [(PySem.Stmt.Return (some (PySem.Expr.Name "OTHER_VERSION" ⟨312, 15, 312, 28⟩)) ⟨312, 8, 312, 28⟩)]) (orelse := []) (pos := ⟨311, 4, 312, 28⟩)),
  (PySem.Stmt.Return (some (PySem.Expr.Name "CAN_BE_DONE" ⟨313, 11, 313, 22⟩)) ⟨313, 4, 313, 22⟩)]
def sc_why_not_check : Scope := { kind := PySem.ScopeKind.function, names := [ (PySem.Str.ofString "order", PySem.NameKind.local), (PySem.Str.ofString "nodes", PySem.NameKind.local), (PySem.Str.ofString "NODE_THERE", PySem.NameKind.globalImplicit), (PySem.Str.ofString "CAN_BE_DONE", PySem.NameKind.globalImplicit), (PySem.Str.ofString "NO_NODE", PySem.NameKind.globalImplicit), (PySem.Str.ofString "OTHER_VERSION", PySem.NameKind.globalImplicit)], isGenerator := false, isCoroutine := false, more := [] : PySem.Scope }
def d_why_not_check : He.DefD := ⟨("why_not_check", none), "why_not_check", "why_not_check", a_why_not_check, b_why_not_check, sc_why_not_check, [], []⟩
abbrev n_why_not_check : List Str := ["order", "nodes"]
abbrev p_why_not_check : List Str := ["order", "nodes"]
theorem S_why_not_check : FnScope n_why_not_check p_why_not_check sc_why_not_check := ⟨rfl, rfl, rfl, by decide +kernel, rfl, by decide +kernel, by decide +kernel⟩
def a_do_order : Arguments := { posonlyargs := [], args := [ { arg := "order", annotation := none, pos := ⟨314, 13, 314, 18⟩ : PySem.Arg }, { arg := "nodes", annotation := none, pos := ⟨314, 20, 314, 25⟩ : PySem.Arg }, { arg := "turn", annotation := none, pos := ⟨314, 27, 314, 31⟩ : PySem.Arg }], vararg := none, kwonlyargs := [], kw_defaults := [], kwarg := none, defaults := [] : PySem.Arguments }
def b_do_order : List Stmt := [ (PySem.Stmt.Assign (targets := [(PySem.Expr.Name "path" ⟨315, 4, 315, 8⟩)]) (value := (PySem.Expr.Attribute (PySem.Expr.Name "order" ⟨315, 11, 315, 16⟩) "path" ⟨315, 11, 315, 21⟩))
  (pos := ⟨315, 4, 315, 21⟩)), (PySem.Stmt.If (test := (PySem.Expr.Compare (left := (PySem.Expr.Attribute (PySem.Expr.Name "order" ⟨316, 7, 316, 12⟩) "kind" ⟨316, 7, 316, 17⟩)) (ops := [PySem.CmpOp.Eq])
  (comparators := [(PySem.Expr.Name "MAKE" ⟨316, 21, 316, 25⟩)]) (pos := ⟨316, 7, 316, 25⟩))) (body := [ (PySem.Stmt.Assign (targets := [ (PySem.Expr.Subscript
  (value := (PySem.Expr.Name "nodes" ⟨317, 8, 317, 13⟩)) (slice := (PySem.Expr.Name "path" ⟨317, 14, 317, 18⟩)) (pos := ⟨317, 8, 317, 19⟩))]) (value := (PySem.Expr.Call
  (func := (PySem.Expr.Name "Node" ⟨317, 22, 317, 26⟩)) (args := [ (PySem.Expr.Attribute (PySem.Expr.Name "order" ⟨317, 27, 317, 32⟩) "value" ⟨317, 27, 317, 38⟩),
  (PySem.Expr.Constant (PySem.Const.int 1) 0 ⟨317, 40, 317, 41⟩), (PySem.Expr.Name "turn" ⟨317, 43, 317, 47⟩), (PySem.Expr.Name "turn" ⟨317, 49, 317, 53⟩),
  (PySem.Expr.Attribute (PySem.Expr.Name "order" ⟨317, 55, 317, 60⟩) "session" ⟨317, 55, 317, 68⟩)]) (keywords := []) (pos := ⟨317, 22, 317, 69⟩))) (pos := ⟨317, 8, 317, 69⟩)), (PySem.Stmt.Return
  (value := (some (PySem.Expr.List (elts := [ (PySem.Expr.Call (func := (PySem.Expr.Name "Event" ⟨318, 16, 318, 21⟩)) (args := [ (PySem.Expr.Name "MADE" ⟨318, 22, 318, 26⟩),
  (PySem.Expr.Attribute (PySem.Expr.Name "order" ⟨318, 28, 318, 33⟩) "value" ⟨318, 28, 318, 39⟩), (PySem.Expr.Name "path" ⟨318, 41, 318, 45⟩)]) (keywords := []) (pos := ⟨318, 16, 318, 46⟩))])
  (pos := ⟨318, 15, 318, 47⟩)))) (pos := ⟨318, 8, 318, 47⟩))]) (orelse := []) (pos := ⟨316, 4, 318, 47⟩)), (PySem.Stmt.If (test := (PySem.Expr.Compare
  (left := (PySem.Expr.Attribute (PySem.Expr.Name "order" ⟨319, 7, 319, 12⟩) "kind" ⟨319, 7, 319, 17⟩)) (ops := [PySem.CmpOp.Eq]) (comparators := [(PySem.Expr.Name "SET" ⟨319, 21, 319, 24⟩)])
  (pos := ⟨319, 7, 319, 24⟩))) (body := [ (PySem.Stmt.Assign (targets := [(PySem.Expr.Name "old" ⟨320, 8, 320, 11⟩)]) (value := (PySem.Expr.Subscript
  (value := (PySem.Expr.Name "nodes" ⟨320, 14, 320, 19⟩)) (slice := (PySem.Expr.Name "path" ⟨320, 20, 320, 24⟩)) (pos := ⟨320, 14, 320, 25⟩))) (pos := ⟨320, 8, 320, 25⟩)), (PySem.Stmt.Assign
  (targets := [ (PySem.Expr.Subscript (value := (PySem.Expr.Name "nodes" ⟨321, 8, 321, 13⟩)) (slice := (PySem.Expr.Name "path" ⟨321, 14, 321, 18⟩)) (pos := ⟨321, 8, 321, 19⟩))])
  (value := (PySem.Expr.Call (func := (PySem.Expr.Name "Node" ⟨321, 22, 321, 26⟩)) (args := [ (PySem.Expr.Attribute (PySem.Expr.Name "order" ⟨321, 27, 321, 32⟩) "value" ⟨321, 27, 321, 38⟩),
  (PySem.Expr.BinOp (left := (PySem.Expr.Attribute (PySem.Expr.Name "old" ⟨321, 40, 321, 43⟩) "version" ⟨321, 40, 321, 51⟩)) (op := PySem.Operator.Add)
  (right := (PySem.Expr.Constant (PySem.Const.int 1) 0 ⟨321, 54, 321, 55⟩)) (pos := ⟨321, 40, 321, 55⟩)), (PySem.Expr.Attribute (PySem.Expr.Name "old" ⟨321, 57, 321, 60⟩) "made" ⟨321, 57, 321, 65⟩),
  (PySem.Expr.Name "turn" ⟨321, 67, 321, 71⟩), (PySem.Expr.Attribute (PySem.Expr.Name "old" ⟨321, 73, 321, 76⟩) "held" ⟨321, 73, 321, 81⟩)]) (keywords := []) (pos := ⟨321, 22, 321, 82⟩)))
  (pos := ⟨321, 8, 321, 82⟩)), (PySem.Stmt.Return (value := (some (PySem.Expr.List (elts := [ (PySem.Expr.Call (func := (PySem.Expr.Name "Event" ⟨322, 16, 322, 21⟩)) (args := [
  (PySem.Expr.Name "CHANGED" ⟨322, 22, 322, 29⟩), (PySem.Expr.Attribute (PySem.Expr.Name "order" ⟨322, 31, 322, 36⟩) "value" ⟨322, 31, 322, 42⟩), (PySem.Expr.Name "path" ⟨322, 44, 322, 48⟩)])
  (keywords := []) (pos := ⟨322, 16, 322, 49⟩))]) (pos := ⟨322, 15, 322, 50⟩)))) (pos := ⟨322, 8, 322, 50⟩))]) (orelse := []) (pos := ⟨319, 4, 322, 50⟩)), (PySem.Stmt.If (test := (PySem.Expr.Compare
  (left := (PySem.Expr.Attribute (PySem.Expr.Name "order" ⟨323, 7, 323, 12⟩) "kind" ⟨323, 7, 323, 17⟩)) (ops := [PySem.CmpOp.Eq]) (comparators := [(PySem.Expr.Name "DROP" ⟨323, 21, 323, 25⟩)])
  (pos := ⟨323, 7, 323, 25⟩))) (body := [ (PySem.Stmt.Expr (value := (PySem.Expr.Call (func := (PySem.Expr.Attribute (PySem.Expr.Name "nodes" ⟨324, 8, 324, 13⟩) "pop" ⟨324, 8, 324, 17⟩))
  (args := [(PySem.Expr.Name "path" ⟨324, 18, 324, 22⟩)]) (keywords := []) (pos := ⟨324, 8, 324, 23⟩))) (pos := ⟨324, 8, 324, 23⟩)), (PySem.Stmt.Return (value := (some (PySem.Expr.List (elts := [
  (PySem.Expr.Call (func := (PySem.Expr.Name "Event" ⟨325, 16, 325, 21⟩)) (args := [ (PySem.Expr.Name "GONE" ⟨325, 22, 325, 26⟩), (PySem.Expr.Constant (PySem.Const.int 0) 0 ⟨325, 28, 325, 29⟩),
  (PySem.Expr.Name "path" ⟨325, 31, 325, 35⟩)]) (keywords := []) (pos := ⟨325, 16, 325, 36⟩))]) (pos := ⟨325, 15, 325, 37⟩)))) (pos := ⟨325, 8, 325, 37⟩))]) (orelse := []) (pos := ⟨323, 4, 325, 37⟩)),
  (PySem.Stmt.Return (some (PySem.Expr.List [] ⟨326, 11, 326, 13⟩)) ⟨326, 4, 326, 13⟩)]
def sc_do_order : Scope := { kind := PySem.ScopeKind.function, names := [ (PySem.Str.ofString "order", PySem.NameKind.local), (PySem.Str.ofString "nodes", PySem.NameKind.local), (PySem.Str.ofString "turn", PySem.NameKind.local), (PySem.Str.ofString "path", PySem.NameKind.local), (PySem.Str.ofString "old", PySem.NameKind.local), (PySem.Str.ofString "MAKE", PySem.NameKind.globalImplicit), (PySem.Str.ofString "Node", PySem.NameKind.globalImplicit), (PySem.Str.ofString "Event", PySem.NameKind.globalImplicit), (PySem.Str.ofString "MADE", PySem.NameKind.globalImplicit), (PySem.Str.ofString "SET", PySem.NameKind.globalImplicit), (PySem.Str.ofString "CHANGED", PySem.NameKind.globalImplicit), (PySem.Str.ofString "DROP", PySem.NameKind.globalImplicit), (PySem.Str.ofString "GONE", PySem.NameKind.globalImplicit)], isGenerator := false, isCoroutine := false, more := [] : PySem.Scope }
def d_do_order : He.DefD := ⟨("do_order", none), "do_order", "do_order", a_do_order, b_do_order, sc_do_order, [], []⟩
abbrev n_do_order : List Str := ["order", "nodes", "turn", "path", "old"]
abbrev p_do_order : List Str := ["order", "nodes", "turn"]
theorem S_do_order : FnScope n_do_order p_do_order sc_do_order := ⟨rfl, rfl, rfl, by decide +kernel, rfl, by decide +kernel, by decide +kernel⟩
def a_copy_nodes : Arguments := { posonlyargs := [], args := [{ arg := "nodes", annotation := none, pos := ⟨327, 15, 327, 20⟩ : PySem.Arg }], vararg := none, kwonlyargs := [], kw_defaults := [], kwarg := none, defaults := [] : PySem.Arguments }
def b_copy_nodes : List Stmt := [ (PySem.Stmt.Assign (targets := [(PySem.Expr.Name "copied" ⟨328, 4, 328, 10⟩)]) (value := (PySem.Expr.Dict [] [] ⟨328, 13, 328, 15⟩)) (pos := ⟨328, 4, 328, 15⟩)), (PySem.Stmt.For
  (target := (PySem.Expr.Name "path" ⟨329, 8, 329, 12⟩)) (iter := (PySem.Expr.Name "nodes" ⟨329, 16, 329, 21⟩)) (body := [ (PySem.Stmt.Assign (targets := [ (PySem.Expr.Subscript
  (value := (PySem.Expr.Name "copied" ⟨330, 8, 330, 14⟩)) (slice := (PySem.Expr.Name "path" ⟨330, 15, 330, 19⟩)) (pos := ⟨330, 8, 330, 20⟩))]) (value := (PySem.Expr.Subscript
  (value := (PySem.Expr.Name "nodes" ⟨330, 23, 330, 28⟩)) (slice := (PySem.Expr.Name "path" ⟨330, 29, 330, 33⟩)) (pos := ⟨330, 23, 330, 34⟩))) (pos := ⟨330, 8, 330, 34⟩))]) (orelse := [])
  (pos := ⟨329, 4, 330, 34⟩)), (PySem.Stmt.Return (some (PySem.Expr.Name "copied" ⟨331, 11, 331, 17⟩)) ⟨331, 4, 331, 17⟩)]
def sc_copy_nodes : Scope := { kind := PySem.ScopeKind.function, names := [ (PySem.Str.ofString "nodes", PySem.NameKind.local), (PySem.Str.ofString "copied", PySem.NameKind.local), (PySem.Str.ofString "path", PySem.NameKind.local)], isGenerator := false, isCoroutine := false, more := [] : PySem.Scope }
def d_copy_nodes : He.DefD := ⟨("copy_nodes", none), "copy_nodes", "copy_nodes", a_copy_nodes, b_copy_nodes, sc_copy_nodes, [], []⟩
abbrev n_copy_nodes : List Str := ["nodes", "copied", "path"]
abbrev p_copy_nodes : List Str := ["nodes"]
theorem S_copy_nodes : FnScope n_copy_nodes p_copy_nodes sc_copy_nodes := ⟨rfl, rfl, rfl, by decide +kernel, rfl, by decide +kernel, by decide +kernel⟩
def a_do_together : Arguments := { posonlyargs := [], args := [ { arg := "house", annotation := none, pos := ⟨332, 16, 332, 21⟩ : PySem.Arg }, { arg := "orders", annotation := none, pos := ⟨332, 23, 332, 29⟩ : PySem.Arg }], vararg := none, kwonlyargs := [], kw_defaults := [], kwarg := none, defaults := [] : PySem.Arguments }
def b_do_together : List Stmt := [ (PySem.Stmt.Assign (targets := [(PySem.Expr.Name "nodes" ⟨333, 4, 333, 9⟩)]) (value := (PySem.Expr.Call (func := (PySem.Expr.Name "copy_nodes" ⟨333, 12, 333, 22⟩))
  (args := [(PySem.Expr.Attribute (PySem.Expr.Name "house" ⟨333, 23, 333, 28⟩) "nodes" ⟨333, 23, 333, 34⟩)]) (keywords := []) (pos := ⟨333, 12, 333, 35⟩))) (pos := ⟨333, 4, 333, 35⟩)),
  (PySem.Stmt.Assign (targets := [(PySem.Expr.Name "events" ⟨334, 4, 334, 10⟩)]) (value := (PySem.Expr.List [] ⟨334, 13, 334, 15⟩)) (pos := ⟨334, 4, 334, 15⟩)), (PySem.Stmt.For
  (target := (PySem.Expr.Tuple (elts := [(PySem.Expr.Name "place" ⟨335, 8, 335, 13⟩), (PySem.Expr.Name "order" ⟨335, 15, 335, 20⟩)]) (k := 0) (pos := ⟨335, 8, 335, 20⟩))) (iter := (PySem.Expr.Call
  (func := (PySem.Expr.Name "enumerate" ⟨335, 24, 335, 33⟩)) (args := [(PySem.Expr.Name "orders" ⟨335, 34, 335, 40⟩)]) (keywords := []) (pos := ⟨335, 24, 335, 41⟩))) (body := [ (PySem.Stmt.Assign
  (targets := [(PySem.Expr.Name "reason" ⟨336, 8, 336, 14⟩)]) (value := (PySem.Expr.Call (func := (PySem.Expr.Name "why_not" ⟨336, 17, 336, 24⟩)) (args := [ (PySem.Expr.Name "order" ⟨336, 25, 336, 30⟩),
  (PySem.Expr.Name "nodes" ⟨336, 32, 336, 37⟩), (PySem.Expr.Name "house" ⟨336, 39, 336, 44⟩)]) (keywords := []) (pos := ⟨336, 17, 336, 45⟩))) (pos := ⟨336, 8, 336, 45⟩)), (PySem.Stmt.If
  (test := (PySem.Expr.Compare (left := (PySem.Expr.Name "reason" ⟨337, 11, 337, 17⟩)) (ops := [PySem.CmpOp.NotEq]) (comparators := [(PySem.Expr.Name "CAN_BE_DONE" ⟨337, 21, 337, 32⟩)])
  (pos := ⟨337, 11, 337, 32⟩))) (body := [ (PySem.Stmt.Return (value := (some (PySem.Expr.List (elts := [ (PySem.Expr.UnaryOp (op := PySem.UnaryOp.USub)
  (operand := (PySem.Expr.Constant (PySem.Const.int 2) 0 ⟨338, 21, 338, 22⟩)) (pos := ⟨338, 20, 338, 22⟩)), (PySem.Expr.Name "place" ⟨338, 24, 338, 29⟩), (PySem.Expr.Name "reason" ⟨338, 31, 338, 37⟩)])
  (pos := ⟨338, 19, 338, 38⟩)))) (pos := ⟨338, 12, 338, 38⟩))]) (orelse := []) (pos := ⟨337, 8, 338, 38⟩)), (PySem.Stmt.Expr (value := (PySem.Expr.Call
  (func := (PySem.Expr.Attribute (PySem.Expr.Name "events" ⟨339, 8, 339, 14⟩) "extend" ⟨339, 8, 339, 21⟩)) (args := [ (PySem.Expr.Call (func := (PySem.Expr.Name "do_order" ⟨339, 22, 339, 30⟩))
  (args := [ (PySem.Expr.Name "order" ⟨339, 31, 339, 36⟩), (PySem.Expr.Name "nodes" ⟨339, 38, 339, 43⟩), (PySem.Expr.BinOp (left := (PySem.Expr.Call
  (func := (PySem.Expr.Attribute (PySem.Expr.Name "house" ⟨339, 45, 339, 50⟩) "last_turn" ⟨339, 45, 339, 60⟩)) (args := []) (keywords := []) (pos := ⟨339, 45, 339, 62⟩))) (op := PySem.Operator.Add)
  (right := (PySem.Expr.Constant (PySem.Const.int 1) 0 ⟨339, 65, 339, 66⟩)) (pos := ⟨339, 45, 339, 66⟩))]) (keywords := []) (pos := ⟨339, 22, 339, 67⟩))]) (keywords := []) (pos := ⟨339, 8, 339, 68⟩)))
  (pos := ⟨339, 8, 339, 68⟩))]) (orelse := []) (pos := ⟨335, 4, 339, 68⟩)), (PySem.Stmt.Assign (targets := [(PySem.Expr.Attribute (PySem.Expr.Name "house" ⟨340, 4, 340, 9⟩) "nodes" ⟨340, 4, 340, 15⟩)])
  (value := (PySem.Expr.Name "nodes" ⟨340, 18, 340, 23⟩)) (pos := ⟨340, 4, 340, 23⟩)), (PySem.Stmt.Expr (value := (PySem.Expr.Call
  (func := (PySem.Expr.Attribute (PySem.Expr.Name "house" ⟨341, 4, 341, 9⟩) "end_turn" ⟨341, 4, 341, 18⟩)) (args := [(PySem.Expr.Name "events" ⟨341, 19, 341, 25⟩)]) (keywords := [])
  (pos := ⟨341, 4, 341, 26⟩))) (pos := ⟨341, 4, 341, 26⟩)), (PySem.Stmt.Return (value := (some (PySem.Expr.List (elts := [ (PySem.Expr.Call
  (func := (PySem.Expr.Attribute (PySem.Expr.Name "house" ⟨342, 12, 342, 17⟩) "last_turn" ⟨342, 12, 342, 27⟩)) (args := []) (keywords := []) (pos := ⟨342, 12, 342, 29⟩))]) (pos := ⟨342, 11, 342, 30⟩))))
  (pos := ⟨342, 4, 342, 30⟩))]
def sc_do_together : Scope := { kind := PySem.ScopeKind.function, names := [ (PySem.Str.ofString "house", PySem.NameKind.local), (PySem.Str.ofString "orders", PySem.NameKind.local), (PySem.Str.ofString "nodes", PySem.NameKind.local), (PySem.Str.ofString "events", PySem.NameKind.local), (PySem.Str.ofString "place", PySem.NameKind.local), (PySem.Str.ofString "order", PySem.NameKind.local), (PySem.Str.ofString "reason", PySem.NameKind.local), (PySem.Str.ofString "copy_nodes", PySem.NameKind.globalImplicit), (PySem.Str.ofString "enumerate", PySem.NameKind.globalImplicit), (PySem.Str.ofString "why_not", PySem.NameKind.globalImplicit), (PySem.Str.ofString "CAN_BE_DONE", PySem.NameKind.globalImplicit), (PySem.Str.ofString "do_order", PySem.NameKind.globalImplicit)], isGenerator := false, isCoroutine := false, more := [] : PySem.Scope }
def d_do_together : He.DefD := ⟨("do_together", none), "do_together", "do_together", a_do_together, b_do_together, sc_do_together, [], []⟩
abbrev n_do_together : List Str := ["house", "orders", "nodes", "events", "place", "order", "reason"]
abbrev p_do_together : List Str := ["house", "orders"]
theorem S_do_together : FnScope n_do_together p_do_together sc_do_together := ⟨rfl, rfl, rfl, by decide +kernel, rfl, by decide +kernel, by decide +kernel⟩
def a_tell_turn : Arguments := { posonlyargs := [], args := [{ arg := "turn", annotation := none, pos := ⟨345, 14, 345, 18⟩ : PySem.Arg }], vararg := none, kwonlyargs := [], kw_defaults := [], kwarg := none, defaults := [] : PySem.Arguments }
def b_tell_turn : List Stmt := [ (PySem.Stmt.Return (value := (some (PySem.Expr.IfExp (test := (PySem.Expr.Compare (left := (PySem.Expr.Name "turn" ⟨346, 19, 346, 23⟩)) (ops := [PySem.CmpOp.Is])
  (comparators := [(PySem.Expr.Constant PySem.Const.none 0 ⟨346, 27, 346, 31⟩)]) (pos := ⟨346, 19, 346, 31⟩))) (body := (PySem.Expr.Name "NONE" ⟨346, 11, 346, 15⟩))
  (orelse := (PySem.Expr.Name "turn" ⟨346, 37, 346, 41⟩)) (pos := ⟨346, 11, 346, 41⟩)))) (pos := ⟨346, 4, 346, 41⟩))]
def sc_tell_turn : Scope := { kind := PySem.ScopeKind.function, names := [ (PySem.Str.ofString "turn", PySem.NameKind.local), (PySem.Str.ofString "NONE", PySem.NameKind.globalImplicit)], isGenerator := false, isCoroutine := false, more := [] : PySem.Scope }
def d_tell_turn : He.DefD := ⟨("tell_turn", none), "tell_turn", "tell_turn", a_tell_turn, b_tell_turn, sc_tell_turn, [], []⟩
abbrev n_tell_turn : List Str := ["turn"]
abbrev p_tell_turn : List Str := ["turn"]
theorem S_tell_turn : FnScope n_tell_turn p_tell_turn sc_tell_turn := ⟨rfl, rfl, rfl, by decide +kernel, rfl, by decide +kernel, by decide +kernel⟩
def a_tell_row : Arguments := { posonlyargs := [], args := [{ arg := "numbers", annotation := none, pos := ⟨347, 13, 347, 20⟩ : PySem.Arg }], vararg := none, kwonlyargs := [], kw_defaults := [], kwarg := none, defaults := [] : PySem.Arguments }
def b_tell_row : List Stmt := [ (PySem.Stmt.Return (value := (some (PySem.Expr.BinOp (left := (PySem.Expr.List (elts := [ (PySem.Expr.Call (func := (PySem.Expr.Name "len" ⟨348, 12, 348, 15⟩))
  (args := [(PySem.Expr.Name "numbers" ⟨348, 16, 348, 23⟩)]) (keywords := []) (pos := ⟨348, 12, 348, 24⟩))]) (pos := ⟨348, 11, 348, 25⟩))) (op := PySem.Operator.Add) (right := (PySem.Expr.Call
  (func := (PySem.Expr.Name "list" ⟨348, 28, 348, 32⟩)) (args := [(PySem.Expr.Name "numbers" ⟨348, 33, 348, 40⟩)]) (keywords := []) (pos := ⟨348, 28, 348, 41⟩))) (pos := ⟨348, 11, 348, 41⟩))))
  (pos := ⟨348, 4, 348, 41⟩))]
def sc_tell_row : Scope := { kind := PySem.ScopeKind.function, names := [ (PySem.Str.ofString "numbers", PySem.NameKind.local), (PySem.Str.ofString "len", PySem.NameKind.globalImplicit), (PySem.Str.ofString "list", PySem.NameKind.globalImplicit)], isGenerator := false, isCoroutine := false, more := [] : PySem.Scope }
def d_tell_row : He.DefD := ⟨("tell_row", none), "tell_row", "tell_row", a_tell_row, b_tell_row, sc_tell_row, [], []⟩
abbrev n_tell_row : List Str := ["numbers"]
abbrev p_tell_row : List Str := ["numbers"]
theorem S_tell_row : FnScope n_tell_row p_tell_row sc_tell_row := ⟨rfl, rfl, rfl, by decide +kernel, rfl, by decide +kernel, by decide +kernel⟩
def a_tell_events : Arguments := { posonlyargs := [], args := [{ arg := "events", annotation := none, pos := ⟨349, 16, 349, 22⟩ : PySem.Arg }], vararg := none, kwonlyargs := [], kw_defaults := [], kwarg := none, defaults := [] : PySem.Arguments }
def b_tell_events : List Stmt := [ (PySem.Stmt.Assign (targets := [(PySem.Expr.Name "told" ⟨350, 4, 350, 8⟩)]) (value := (PySem.Expr.List (elts := [ (PySem.Expr.Call (func := (PySem.Expr.Name "len" ⟨350, 12, 350, 15⟩))
  (args := [(PySem.Expr.Name "events" ⟨350, 16, 350, 22⟩)]) (keywords := []) (pos := ⟨350, 12, 350, 23⟩))]) (pos := ⟨350, 11, 350, 24⟩))) (pos := ⟨350, 4, 350, 24⟩)), (PySem.Stmt.For
  (target := (PySem.Expr.Name "event" ⟨351, 8, 351, 13⟩)) (iter := (PySem.Expr.Name "events" ⟨351, 17, 351, 23⟩)) (body := [ (PySem.Stmt.Expr (value := (PySem.Expr.Call
  (func := (PySem.Expr.Attribute (PySem.Expr.Name "told" ⟨352, 8, 352, 12⟩) "extend" ⟨352, 8, 352, 19⟩)) (args := [ (PySem.Expr.List (elts := [
  (PySem.Expr.Attribute (PySem.Expr.Name "event" ⟨352, 21, 352, 26⟩) "what" ⟨352, 21, 352, 31⟩), (PySem.Expr.Attribute (PySem.Expr.Name "event" ⟨352, 33, 352, 38⟩) "value" ⟨352, 33, 352, 44⟩)])
  (pos := ⟨352, 20, 352, 45⟩))]) (keywords := []) (pos := ⟨352, 8, 352, 46⟩))) (pos := ⟨352, 8, 352, 46⟩)), (PySem.Stmt.Expr (value := (PySem.Expr.Call
  (func := (PySem.Expr.Attribute (PySem.Expr.Name "told" ⟨353, 8, 353, 12⟩) "extend" ⟨353, 8, 353, 19⟩)) (args := [ (PySem.Expr.Call (func := (PySem.Expr.Name "tell_row" ⟨353, 20, 353, 28⟩))
  (args := [(PySem.Expr.Attribute (PySem.Expr.Name "event" ⟨353, 29, 353, 34⟩) "path" ⟨353, 29, 353, 39⟩)]) (keywords := []) (pos := ⟨353, 20, 353, 40⟩))]) (keywords := []) (pos := ⟨353, 8, 353, 41⟩)))
  (pos := ⟨353, 8, 353, 41⟩))]) (orelse := []) (pos := ⟨351, 4, 353, 41⟩)), (PySem.Stmt.Return (some (PySem.Expr.Name "told" ⟨354, 11, 354, 15⟩)) ⟨354, 4, 354, 15⟩)]
def sc_tell_events : Scope := { kind := PySem.ScopeKind.function, names := [ (PySem.Str.ofString "events", PySem.NameKind.local), (PySem.Str.ofString "told", PySem.NameKind.local), (PySem.Str.ofString "event", PySem.NameKind.local), (PySem.Str.ofString "len", PySem.NameKind.globalImplicit), (PySem.Str.ofString "tell_row", PySem.NameKind.globalImplicit)], isGenerator := false, isCoroutine := false, more := [] : PySem.Scope }
def d_tell_events : He.DefD := ⟨("tell_events", none), "tell_events", "tell_events", a_tell_events, b_tell_events, sc_tell_events, [], []⟩
abbrev n_tell_events : List Str := ["events", "told", "event"]
abbrev p_tell_events : List Str := ["events"]
theorem S_tell_events : FnScope n_tell_events p_tell_events sc_tell_events := ⟨rfl, rfl, rfl, by decide +kernel, rfl, by decide +kernel, by decide +kernel⟩
def a_tell_entries : Arguments := { posonlyargs := [], args := [{ arg := "entries", annotation := none, pos := ⟨355, 17, 355, 24⟩ : PySem.Arg }], vararg := none, kwonlyargs := [], kw_defaults := [], kwarg := none, defaults := [] : PySem.Arguments }
def b_tell_entries : List Stmt := [ (PySem.Stmt.Assign (targets := [(PySem.Expr.Name "told" ⟨356, 4, 356, 8⟩)]) (value := (PySem.Expr.List (elts := [ (PySem.Expr.Call (func := (PySem.Expr.Name "len" ⟨356, 12, 356, 15⟩))
  (args := [(PySem.Expr.Name "entries" ⟨356, 16, 356, 23⟩)]) (keywords := []) (pos := ⟨356, 12, 356, 24⟩))]) (pos := ⟨356, 11, 356, 25⟩))) (pos := ⟨356, 4, 356, 25⟩)), (PySem.Stmt.For
  (target := (PySem.Expr.Tuple (elts := [(PySem.Expr.Name "path" ⟨357, 8, 357, 12⟩), (PySem.Expr.Name "value" ⟨357, 14, 357, 19⟩)]) (k := 0) (pos := ⟨357, 8, 357, 19⟩)))
  (iter := (PySem.Expr.Name "entries" ⟨357, 23, 357, 30⟩)) (body := [ (PySem.Stmt.Expr (value := (PySem.Expr.Call
  (func := (PySem.Expr.Attribute (PySem.Expr.Name "told" ⟨358, 8, 358, 12⟩) "append" ⟨358, 8, 358, 19⟩)) (args := [(PySem.Expr.Name "value" ⟨358, 20, 358, 25⟩)]) (keywords := [])
  (pos := ⟨358, 8, 358, 26⟩))) (pos := ⟨358, 8, 358, 26⟩)), (PySem.Stmt.Expr (value := (PySem.Expr.Call
  (func := (PySem.Expr.Attribute (PySem.Expr.Name "told" ⟨359, 8, 359, 12⟩) "extend" ⟨359, 8, 359, 19⟩)) (args := [ (PySem.Expr.Call (func := (PySem.Expr.Name "tell_row" ⟨359, 20, 359, 28⟩))
  (args := [(PySem.Expr.Name "path" ⟨359, 29, 359, 33⟩)]) (keywords := []) (pos := ⟨359, 20, 359, 34⟩))]) (keywords := []) (pos := ⟨359, 8, 359, 35⟩))) (pos := ⟨359, 8, 359, 35⟩))]) (orelse := [])
  (pos := ⟨357, 4, 359, 35⟩)), (PySem.Stmt.Return (some (PySem.Expr.Name "told" ⟨360, 11, 360, 15⟩)) ⟨360, 4, 360, 15⟩)]
def sc_tell_entries : Scope := { kind := PySem.ScopeKind.function, names := [ (PySem.Str.ofString "entries", PySem.NameKind.local), (PySem.Str.ofString "told", PySem.NameKind.local), (PySem.Str.ofString "path", PySem.NameKind.local), (PySem.Str.ofString "value", PySem.NameKind.local), (PySem.Str.ofString "len", PySem.NameKind.globalImplicit), (PySem.Str.ofString "tell_row", PySem.NameKind.globalImplicit)], isGenerator := false, isCoroutine := false, more := [] : PySem.Scope }
def d_tell_entries : He.DefD := ⟨("tell_entries", none), "tell_entries", "tell_entries", a_tell_entries, b_tell_entries, sc_tell_entries, [], []⟩
abbrev n_tell_entries : List Str := ["entries", "told", "path", "value"]
abbrev p_tell_entries : List Str := ["entries"]
theorem S_tell_entries : FnScope n_tell_entries p_tell_entries sc_tell_entries := ⟨rfl, rfl, rfl, by decide +kernel, rfl, by decide +kernel, by decide +kernel⟩
def a_tell_letter : Arguments := { posonlyargs := [], args := [{ arg := "letter", annotation := none, pos := ⟨361, 16, 361, 22⟩ : PySem.Arg }], vararg := none, kwonlyargs := [], kw_defaults := [], kwarg := none, defaults := [] : PySem.Arguments }
def b_tell_letter : List Stmt := [ (PySem.Stmt.Assign (targets := [(PySem.Expr.Name "told" ⟨362, 4, 362, 8⟩)]) (value := (PySem.Expr.List (elts := [
  (PySem.Expr.Attribute (PySem.Expr.Name "letter" ⟨362, 12, 362, 18⟩) "kind" ⟨362, 12, 362, 23⟩), (PySem.Expr.Attribute (PySem.Expr.Name "letter" ⟨362, 25, 362, 31⟩) "client" ⟨362, 25, 362, 38⟩),
  (PySem.Expr.Attribute (PySem.Expr.Name "letter" ⟨362, 40, 362, 46⟩) "number" ⟨362, 40, 362, 53⟩)]) (pos := ⟨362, 11, 362, 54⟩))) (pos := ⟨362, 4, 362, 54⟩)), (PySem.Stmt.Expr
  (value := (PySem.Expr.Call (func := (PySem.Expr.Attribute (PySem.Expr.Name "told" ⟨363, 4, 363, 8⟩) "extend" ⟨363, 4, 363, 15⟩)) (args := [ (PySem.Expr.Call
  (func := (PySem.Expr.Name "tell_row" ⟨363, 16, 363, 24⟩)) (args := [(PySem.Expr.Attribute (PySem.Expr.Name "letter" ⟨363, 25, 363, 31⟩) "path" ⟨363, 25, 363, 36⟩)]) (keywords := [])
  (pos := ⟨363, 16, 363, 37⟩))]) (keywords := []) (pos := ⟨363, 4, 363, 38⟩))) (pos := ⟨363, 4, 363, 38⟩)), (PySem.Stmt.Expr (value := (PySem.Expr.Call
  (func := (PySem.Expr.Attribute (PySem.Expr.Name "told" ⟨364, 4, 364, 8⟩) "extend" ⟨364, 4, 364, 15⟩)) (args := [ (PySem.Expr.List (elts := [ (PySem.Expr.Call
  (func := (PySem.Expr.Name "tell_turn" ⟨364, 17, 364, 26⟩)) (args := [(PySem.Expr.Attribute (PySem.Expr.Name "letter" ⟨364, 27, 364, 33⟩) "behind" ⟨364, 27, 364, 40⟩)]) (keywords := [])
  (pos := ⟨364, 17, 364, 41⟩)), (PySem.Expr.Attribute (PySem.Expr.Name "letter" ⟨364, 43, 364, 49⟩) "turn" ⟨364, 43, 364, 54⟩)]) (pos := ⟨364, 16, 364, 55⟩))]) (keywords := [])
  (pos := ⟨364, 4, 364, 56⟩))) (pos := ⟨364, 4, 364, 56⟩)), (PySem.Stmt.Expr (value := (PySem.Expr.Call
  (func := (PySem.Expr.Attribute (PySem.Expr.Name "told" ⟨365, 4, 365, 8⟩) "extend" ⟨365, 4, 365, 15⟩)) (args := [ (PySem.Expr.Call (func := (PySem.Expr.Name "tell_events" ⟨365, 16, 365, 27⟩))
  (args := [(PySem.Expr.Attribute (PySem.Expr.Name "letter" ⟨365, 28, 365, 34⟩) "events" ⟨365, 28, 365, 41⟩)]) (keywords := []) (pos := ⟨365, 16, 365, 42⟩))]) (keywords := [])
  (pos := ⟨365, 4, 365, 43⟩))) (pos := ⟨365, 4, 365, 43⟩)), (PySem.Stmt.Expr (value := (PySem.Expr.Call
  (func := (PySem.Expr.Attribute (PySem.Expr.Name "told" ⟨366, 4, 366, 8⟩) "extend" ⟨366, 4, 366, 15⟩)) (args := [ (PySem.Expr.Call (func := (PySem.Expr.Name "tell_entries" ⟨366, 16, 366, 28⟩))
  (args := [(PySem.Expr.Attribute (PySem.Expr.Name "letter" ⟨366, 29, 366, 35⟩) "entries" ⟨366, 29, 366, 43⟩)]) (keywords := []) (pos := ⟨366, 16, 366, 44⟩))]) (keywords := [])
  (pos := ⟨366, 4, 366, 45⟩))) (pos := ⟨366, 4, 366, 45⟩)), (PySem.Stmt.Return (some (PySem.Expr.Name "told" ⟨367, 11, 367, 15⟩)) ⟨367, 4, 367, 15⟩)]
def sc_tell_letter : Scope := { kind := PySem.ScopeKind.function, names := [ (PySem.Str.ofString "letter", PySem.NameKind.local), (PySem.Str.ofString "told", PySem.NameKind.local), (PySem.Str.ofString "tell_row", PySem.NameKind.globalImplicit), (PySem.Str.ofString "tell_turn", PySem.NameKind.globalImplicit), (PySem.Str.ofString "tell_events", PySem.NameKind.globalImplicit), (PySem.Str.ofString "tell_entries", PySem.NameKind.globalImplicit)], isGenerator := false, isCoroutine := false, more := [] : PySem.Scope }
def d_tell_letter : He.DefD := ⟨("tell_letter", none), "tell_letter", "tell_letter", a_tell_letter, b_tell_letter, sc_tell_letter, [], []⟩
abbrev n_tell_letter : List Str := ["letter", "told"]
abbrev p_tell_letter : List Str := ["letter"]
theorem S_tell_letter : FnScope n_tell_letter p_tell_letter sc_tell_letter := ⟨rfl, rfl, rfl, by decide +kernel, rfl, by decide +kernel, by decide +kernel⟩
def a_tell_letters : Arguments := { posonlyargs := [], args := [{ arg := "letters", annotation := none, pos := ⟨368, 17, 368, 24⟩ : PySem.Arg }], vararg := none, kwonlyargs := [], kw_defaults := [], kwarg := none, defaults := [] : PySem.Arguments }
def b_tell_letters : List Stmt := [ (PySem.Stmt.Assign (targets := [(PySem.Expr.Name "told" ⟨369, 4, 369, 8⟩)]) (value := (PySem.Expr.List (elts := [ (PySem.Expr.Call (func := (PySem.Expr.Name "len" ⟨369, 12, 369, 15⟩))
  (args := [(PySem.Expr.Name "letters" ⟨369, 16, 369, 23⟩)]) (keywords := []) (pos := ⟨369, 12, 369, 24⟩))]) (pos := ⟨369, 11, 369, 25⟩))) (pos := ⟨369, 4, 369, 25⟩)), (PySem.Stmt.For
  (target := (PySem.Expr.Name "letter" ⟨370, 8, 370, 14⟩)) (iter := (PySem.Expr.Name "letters" ⟨370, 18, 370, 25⟩)) (body := [ (PySem.Stmt.Expr (value := (PySem.Expr.Call
  (func := (PySem.Expr.Attribute (PySem.Expr.Name "told" ⟨371, 8, 371, 12⟩) "extend" ⟨371, 8, 371, 19⟩)) (args := [ (PySem.Expr.Call (func := (PySem.Expr.Name "tell_letter" ⟨371, 20, 371, 31⟩))
  (args := [(PySem.Expr.Name "letter" ⟨371, 32, 371, 38⟩)]) (keywords := []) (pos := ⟨371, 20, 371, 39⟩))]) (keywords := []) (pos := ⟨371, 8, 371, 40⟩))) (pos := ⟨371, 8, 371, 40⟩))]) (orelse := [])
  (pos := ⟨370, 4, 371, 40⟩)), (PySem.Stmt.Return (some (PySem.Expr.Name "told" ⟨372, 11, 372, 15⟩)) ⟨372, 4, 372, 15⟩)]
def sc_tell_letters : Scope := { kind := PySem.ScopeKind.function, names := [ (PySem.Str.ofString "letters", PySem.NameKind.local), (PySem.Str.ofString "told", PySem.NameKind.local), (PySem.Str.ofString "letter", PySem.NameKind.local), (PySem.Str.ofString "len", PySem.NameKind.globalImplicit), (PySem.Str.ofString "tell_letter", PySem.NameKind.globalImplicit)], isGenerator := false, isCoroutine := false, more := [] : PySem.Scope }
def d_tell_letters : He.DefD := ⟨("tell_letters", none), "tell_letters", "tell_letters", a_tell_letters, b_tell_letters, sc_tell_letters, [], []⟩
abbrev n_tell_letters : List Str := ["letters", "told", "letter"]
abbrev p_tell_letters : List Str := ["letters"]
theorem S_tell_letters : FnScope n_tell_letters p_tell_letters sc_tell_letters := ⟨rfl, rfl, rfl, by decide +kernel, rfl, by decide +kernel, by decide +kernel⟩
def a_tell_client : Arguments := { posonlyargs := [], args := [{ arg := "client", annotation := none, pos := ⟨373, 16, 373, 22⟩ : PySem.Arg }], vararg := none, kwonlyargs := [], kw_defaults := [], kwarg := none, defaults := [] : PySem.Arguments }
def b_tell_client : List Stmt := [ (PySem.Stmt.Assign (targets := [(PySem.Expr.Name "told" ⟨374, 4, 374, 8⟩)]) (value := (PySem.Expr.List
  (elts := [(PySem.Expr.Attribute (PySem.Expr.Name "client" ⟨374, 12, 374, 18⟩) "number" ⟨374, 12, 374, 25⟩)]) (pos := ⟨374, 11, 374, 26⟩))) (pos := ⟨374, 4, 374, 26⟩)), (PySem.Stmt.Expr
  (value := (PySem.Expr.Call (func := (PySem.Expr.Attribute (PySem.Expr.Name "told" ⟨375, 4, 375, 8⟩) "extend" ⟨375, 4, 375, 15⟩)) (args := [ (PySem.Expr.Call
  (func := (PySem.Expr.Name "tell_row" ⟨375, 16, 375, 24⟩)) (args := [(PySem.Expr.Attribute (PySem.Expr.Name "client" ⟨375, 25, 375, 31⟩) "path" ⟨375, 25, 375, 36⟩)]) (keywords := [])
  (pos := ⟨375, 16, 375, 37⟩))]) (keywords := []) (pos := ⟨375, 4, 375, 38⟩))) (pos := ⟨375, 4, 375, 38⟩)), (PySem.Stmt.Expr (value := (PySem.Expr.Call
  (func := (PySem.Expr.Attribute (PySem.Expr.Name "told" ⟨376, 4, 376, 8⟩) "extend" ⟨376, 4, 376, 15⟩)) (args := [ (PySem.Expr.List (elts := [ (PySem.Expr.Call
  (func := (PySem.Expr.Name "tell_turn" ⟨376, 17, 376, 26⟩)) (args := [(PySem.Expr.Attribute (PySem.Expr.Name "client" ⟨376, 27, 376, 33⟩) "up_to" ⟨376, 27, 376, 39⟩)]) (keywords := [])
  (pos := ⟨376, 17, 376, 40⟩)), (PySem.Expr.Attribute (PySem.Expr.Name "client" ⟨376, 42, 376, 48⟩) "since" ⟨376, 42, 376, 54⟩),
  (PySem.Expr.Attribute (PySem.Expr.Name "client" ⟨376, 56, 376, 62⟩) "events_had" ⟨376, 56, 376, 73⟩),
  (PySem.Expr.Attribute (PySem.Expr.Name "client" ⟨376, 75, 376, 81⟩) "pictures_had" ⟨376, 75, 376, 94⟩)]) (pos := ⟨376, 16, 376, 95⟩))]) (keywords := []) (pos := ⟨376, 4, 376, 96⟩)))
  (pos := ⟨376, 4, 376, 96⟩)), (PySem.Stmt.Expr (value := (PySem.Expr.Call (func := (PySem.Expr.Attribute (PySem.Expr.Name "told" ⟨377, 4, 377, 8⟩) "extend" ⟨377, 4, 377, 15⟩)) (args := [
  (PySem.Expr.Call (func := (PySem.Expr.Name "tell_entries" ⟨377, 16, 377, 28⟩)) (args := [ (PySem.Expr.Call
  (func := (PySem.Expr.Attribute (PySem.Expr.Name "client" ⟨377, 29, 377, 35⟩) "entries_in_order" ⟨377, 29, 377, 52⟩)) (args := []) (keywords := []) (pos := ⟨377, 29, 377, 54⟩))]) (keywords := [])
  (pos := ⟨377, 16, 377, 55⟩))]) (keywords := []) (pos := ⟨377, 4, 377, 56⟩))) (pos := ⟨377, 4, 377, 56⟩)), (PySem.Stmt.Return (some (PySem.Expr.Name "told" ⟨378, 11, 378, 15⟩)) ⟨378, 4, 378, 15⟩)]
def sc_tell_client : Scope := { kind := PySem.ScopeKind.function, names := [ (PySem.Str.ofString "client", PySem.NameKind.local), (PySem.Str.ofString "told", PySem.NameKind.local), (PySem.Str.ofString "tell_row", PySem.NameKind.globalImplicit), (PySem.Str.ofString "tell_turn", PySem.NameKind.globalImplicit), (PySem.Str.ofString "tell_entries", PySem.NameKind.globalImplicit)], isGenerator := false, isCoroutine := false, more := [] : PySem.Scope }
def d_tell_client : He.DefD := ⟨("tell_client", none), "tell_client", "tell_client", a_tell_client, b_tell_client, sc_tell_client, [], []⟩
abbrev n_tell_client : List Str := ["client", "told"]
abbrev p_tell_client : List Str := ["client"]
theorem S_tell_client : FnScope n_tell_client p_tell_client sc_tell_client := ⟨rfl, rfl, rfl, by decide +kernel, rfl, by decide +kernel, by decide +kernel⟩
def a_tell_sessions : Arguments := { posonlyargs := [], args := [{ arg := "seen", annotation := none, pos := ⟨379, 18, 379, 22⟩ : PySem.Arg }], vararg := none, kwonlyargs := [], kw_defaults := [], kwarg := none, defaults := [] : PySem.Arguments }
def b_tell_sessions : List Stmt := [ (PySem.Stmt.Assign (targets := [(PySem.Expr.Name "told" ⟨380, 4, 380, 8⟩)]) (value := (PySem.Expr.List (elts := [ (PySem.Expr.Call (func := (PySem.Expr.Name "len" ⟨380, 12, 380, 15⟩))
  (args := [(PySem.Expr.Name "seen" ⟨380, 16, 380, 20⟩)]) (keywords := []) (pos := ⟨380, 12, 380, 21⟩))]) (pos := ⟨380, 11, 380, 22⟩))) (pos := ⟨380, 4, 380, 22⟩)), (PySem.Stmt.For
  (target := (PySem.Expr.Name "session" ⟨381, 8, 381, 15⟩)) (iter := (PySem.Expr.Name "seen" ⟨381, 19, 381, 23⟩)) (body := [ (PySem.Stmt.Expr (value := (PySem.Expr.Call
  (func := (PySem.Expr.Attribute (PySem.Expr.Name "told" ⟨382, 8, 382, 12⟩) "extend" ⟨382, 8, 382, 19⟩)) (args := [ (PySem.Expr.List (elts := [ (PySem.Expr.Name "session" ⟨382, 21, 382, 28⟩),
  (PySem.Expr.Subscript (value := (PySem.Expr.Name "seen" ⟨382, 30, 382, 34⟩)) (slice := (PySem.Expr.Name "session" ⟨382, 35, 382, 42⟩)) (pos := ⟨382, 30, 382, 43⟩))]) (pos := ⟨382, 20, 382, 44⟩))])
  (keywords := []) (pos := ⟨382, 8, 382, 45⟩))) (pos := ⟨382, 8, 382, 45⟩))]) (orelse := []) (pos := ⟨381, 4, 382, 45⟩)),
  (PySem.Stmt.Return (some (PySem.Expr.Name "told" ⟨383, 11, 383, 15⟩)) ⟨383, 4, 383, 15⟩)]
def sc_tell_sessions : Scope := { kind := PySem.ScopeKind.function, names := [ (PySem.Str.ofString "seen", PySem.NameKind.local), (PySem.Str.ofString "told", PySem.NameKind.local), (PySem.Str.ofString "session", PySem.NameKind.local), (PySem.Str.ofString "len", PySem.NameKind.globalImplicit)], isGenerator := false, isCoroutine := false, more := [] : PySem.Scope }
def d_tell_sessions : He.DefD := ⟨("tell_sessions", none), "tell_sessions", "tell_sessions", a_tell_sessions, b_tell_sessions, sc_tell_sessions, [], []⟩
abbrev n_tell_sessions : List Str := ["seen", "told", "session"]
abbrev p_tell_sessions : List Str := ["seen"]
theorem S_tell_sessions : FnScope n_tell_sessions p_tell_sessions sc_tell_sessions := ⟨rfl, rfl, rfl, by decide +kernel, rfl, by decide +kernel, by decide +kernel⟩
def a_tell_watchers : Arguments := { posonlyargs := [], args := [{ arg := "watchers", annotation := none, pos := ⟨384, 18, 384, 26⟩ : PySem.Arg }], vararg := none, kwonlyargs := [], kw_defaults := [], kwarg := none, defaults := [] : PySem.Arguments }
def b_tell_watchers : List Stmt := [ (PySem.Stmt.Assign (targets := [(PySem.Expr.Name "told" ⟨385, 4, 385, 8⟩)]) (value := (PySem.Expr.List (elts := [ (PySem.Expr.Call (func := (PySem.Expr.Name "len" ⟨385, 12, 385, 15⟩))
  (args := [(PySem.Expr.Name "watchers" ⟨385, 16, 385, 24⟩)]) (keywords := []) (pos := ⟨385, 12, 385, 25⟩))]) (pos := ⟨385, 11, 385, 26⟩))) (pos := ⟨385, 4, 385, 26⟩)), (PySem.Stmt.For
  (target := (PySem.Expr.Name "watcher" ⟨386, 8, 386, 15⟩)) (iter := (PySem.Expr.Name "watchers" ⟨386, 19, 386, 27⟩)) (body := [ (PySem.Stmt.Expr (value := (PySem.Expr.Call
  (func := (PySem.Expr.Attribute (PySem.Expr.Name "told" ⟨387, 8, 387, 12⟩) "extend" ⟨387, 8, 387, 19⟩)) (args := [ (PySem.Expr.List (elts := [
  (PySem.Expr.Attribute (PySem.Expr.Name "watcher" ⟨387, 21, 387, 28⟩) "client" ⟨387, 21, 387, 35⟩), (PySem.Expr.Attribute (PySem.Expr.Name "watcher" ⟨387, 37, 387, 44⟩) "number" ⟨387, 37, 387, 51⟩),
  (PySem.Expr.Attribute (PySem.Expr.Name "watcher" ⟨387, 53, 387, 60⟩) "last" ⟨387, 53, 387, 65⟩)]) (pos := ⟨387, 20, 387, 66⟩))]) (keywords := []) (pos := ⟨387, 8, 387, 67⟩)))
  (pos := ⟨387, 8, 387, 67⟩)), (PySem.Stmt.Expr (value := (PySem.Expr.Call (func := (PySem.Expr.Attribute (PySem.Expr.Name "told" ⟨388, 8, 388, 12⟩) "extend" ⟨388, 8, 388, 19⟩)) (args := [
  (PySem.Expr.Call (func := (PySem.Expr.Name "tell_row" ⟨388, 20, 388, 28⟩)) (args := [(PySem.Expr.Attribute (PySem.Expr.Name "watcher" ⟨388, 29, 388, 36⟩) "path" ⟨388, 29, 388, 41⟩)]) (keywords := [])
  (pos := ⟨388, 20, 388, 42⟩))]) (keywords := []) (pos := ⟨388, 8, 388, 43⟩))) (pos := ⟨388, 8, 388, 43⟩))]) (orelse := []) (pos := ⟨386, 4, 388, 43⟩)),
  (PySem.Stmt.Return (some (PySem.Expr.Name "told" ⟨389, 11, 389, 15⟩)) ⟨389, 4, 389, 15⟩)]
def sc_tell_watchers : Scope := { kind := PySem.ScopeKind.function, names := [ (PySem.Str.ofString "watchers", PySem.NameKind.local), (PySem.Str.ofString "told", PySem.NameKind.local), (PySem.Str.ofString "watcher", PySem.NameKind.local), (PySem.Str.ofString "len", PySem.NameKind.globalImplicit), (PySem.Str.ofString "tell_row", PySem.NameKind.globalImplicit)], isGenerator := false, isCoroutine := false, more := [] : PySem.Scope }
def d_tell_watchers : He.DefD := ⟨("tell_watchers", none), "tell_watchers", "tell_watchers", a_tell_watchers, b_tell_watchers, sc_tell_watchers, [], []⟩
abbrev n_tell_watchers : List Str := ["watchers", "told", "watcher"]
abbrev p_tell_watchers : List Str := ["watchers"]
theorem S_tell_watchers : FnScope n_tell_watchers p_tell_watchers sc_tell_watchers := ⟨rfl, rfl, rfl, by decide +kernel, rfl, by decide +kernel, by decide +kernel⟩
def a_tell_house : Arguments := { posonlyargs := [], args := [{ arg := "house", annotation := none, pos := ⟨390, 15, 390, 20⟩ : PySem.Arg }], vararg := none, kwonlyargs := [], kw_defaults := [], kwarg := none, defaults := [] : PySem.Arguments }
def b_tell_house : List Stmt := [ (PySem.Stmt.Assign (targets := [(PySem.Expr.Name "told" ⟨391, 4, 391, 8⟩)]) (value := (PySem.Expr.List (elts := [
  (PySem.Expr.Attribute (PySem.Expr.Name "house" ⟨391, 12, 391, 17⟩) "time" ⟨391, 12, 391, 22⟩), (PySem.Expr.Call
  (func := (PySem.Expr.Attribute (PySem.Expr.Name "house" ⟨391, 24, 391, 29⟩) "last_turn" ⟨391, 24, 391, 39⟩)) (args := []) (keywords := []) (pos := ⟨391, 24, 391, 41⟩)),
  (PySem.Expr.Attribute (PySem.Expr.Name "house" ⟨391, 43, 391, 48⟩) "base" ⟨391, 43, 391, 53⟩), (PySem.Expr.Call (func := (PySem.Expr.Name "len" ⟨391, 55, 391, 58⟩))
  (args := [(PySem.Expr.Attribute (PySem.Expr.Name "house" ⟨391, 59, 391, 64⟩) "nodes" ⟨391, 59, 391, 70⟩)]) (keywords := []) (pos := ⟨391, 55, 391, 71⟩)),
  (PySem.Expr.Attribute (PySem.Expr.Name "house" ⟨391, 73, 391, 78⟩) "opened" ⟨391, 73, 391, 85⟩)]) (pos := ⟨391, 11, 391, 86⟩))) (pos := ⟨391, 4, 391, 86⟩)), (PySem.Stmt.Expr (value := (PySem.Expr.Call
  (func := (PySem.Expr.Attribute (PySem.Expr.Name "told" ⟨392, 4, 392, 8⟩) "extend" ⟨392, 4, 392, 15⟩)) (args := [ (PySem.Expr.Call (func := (PySem.Expr.Name "tell_sessions" ⟨392, 16, 392, 29⟩))
  (args := [(PySem.Expr.Attribute (PySem.Expr.Name "house" ⟨392, 30, 392, 35⟩) "seen" ⟨392, 30, 392, 40⟩)]) (keywords := []) (pos := ⟨392, 16, 392, 41⟩))]) (keywords := []) (pos := ⟨392, 4, 392, 42⟩)))
  (pos := ⟨392, 4, 392, 42⟩)), (PySem.Stmt.Expr (value := (PySem.Expr.Call (func := (PySem.Expr.Attribute (PySem.Expr.Name "told" ⟨393, 4, 393, 8⟩) "extend" ⟨393, 4, 393, 15⟩)) (args := [
  (PySem.Expr.Call (func := (PySem.Expr.Name "tell_watchers" ⟨393, 16, 393, 29⟩)) (args := [(PySem.Expr.Attribute (PySem.Expr.Name "house" ⟨393, 30, 393, 35⟩) "watchers" ⟨393, 30, 393, 44⟩)])
  (keywords := []) (pos := ⟨393, 16, 393, 45⟩))]) (keywords := []) (pos := ⟨393, 4, 393, 46⟩))) (pos := ⟨393, 4, 393, 46⟩)),
  (PySem.Stmt.Return (some (PySem.Expr.Name "told" ⟨394, 11, 394, 15⟩)) ⟨394, 4, 394, 15⟩)]
def sc_tell_house : Scope := { kind := PySem.ScopeKind.function, names := [ (PySem.Str.ofString "house", PySem.NameKind.local), (PySem.Str.ofString "told", PySem.NameKind.local), (PySem.Str.ofString "len", PySem.NameKind.globalImplicit), (PySem.Str.ofString "tell_sessions", PySem.NameKind.globalImplicit), (PySem.Str.ofString "tell_watchers", PySem.NameKind.globalImplicit)], isGenerator := false, isCoroutine := false, more := [] : PySem.Scope }
def d_tell_house : He.DefD := ⟨("tell_house", none), "tell_house", "tell_house", a_tell_house, b_tell_house, sc_tell_house, [], []⟩
abbrev n_tell_house : List Str := ["house", "told"]
abbrev p_tell_house : List Str := ["house"]
theorem S_tell_house : FnScope n_tell_house p_tell_house sc_tell_house := ⟨rfl, rfl, rfl, by decide +kernel, rfl, by decide +kernel, by decide +kernel⟩
def a_World_init : Arguments := { posonlyargs := [], args := [ { arg := "self", annotation := none, pos := ⟨400, 17, 400, 21⟩ : PySem.Arg }, { arg := "life", annotation := none, pos := ⟨400, 23, 400, 27⟩ : PySem.Arg }], vararg := none, kwonlyargs := [], kw_defaults := [], kwarg := none, defaults := [] : PySem.Arguments }
def b_World_init : List Stmt := [ (PySem.Stmt.Assign (targets := [(PySem.Expr.Attribute (PySem.Expr.Name "self" ⟨401, 8, 401, 12⟩) "net" ⟨401, 8, 401, 16⟩)])
  (value := (PySem.Expr.Call (PySem.Expr.Name "Net" ⟨401, 19, 401, 22⟩) [] [] ⟨401, 19, 401, 24⟩)) (pos := ⟨401, 8, 401, 24⟩)), (PySem.Stmt.Assign
  (targets := [(PySem.Expr.Attribute (PySem.Expr.Name "self" ⟨402, 8, 402, 12⟩) "house" ⟨402, 8, 402, 18⟩)]) (value := (PySem.Expr.Call (func := (PySem.Expr.Name "House" ⟨402, 21, 402, 26⟩)) (args := [
  (PySem.Expr.Name "life" ⟨402, 27, 402, 31⟩), (PySem.Expr.Attribute (PySem.Expr.Name "self" ⟨402, 33, 402, 37⟩) "net" ⟨402, 33, 402, 41⟩)]) (keywords := []) (pos := ⟨402, 21, 402, 42⟩)))
  (pos := ⟨402, 8, 402, 42⟩)), (PySem.Stmt.Assign (targets := [(PySem.Expr.Attribute (PySem.Expr.Name "self" ⟨403, 8, 403, 12⟩) "clients" ⟨403, 8, 403, 20⟩)]) (value := (PySem.Expr.ListComp
  (elt := (PySem.Expr.Call (func := (PySem.Expr.Name "Client" ⟨403, 24, 403, 30⟩)) (args := [(PySem.Expr.Name "client" ⟨403, 31, 403, 37⟩)]) (keywords := []) (pos := ⟨403, 24, 403, 38⟩)))
  (generators := [ { target := (PySem.Expr.Name "client" ⟨403, 43, 403, 49⟩), iter := (PySem.Expr.Call (func := (PySem.Expr.Name "range" ⟨403, 53, 403, 58⟩)) (args := [(PySem.Expr.Name "CLIENTS" ⟨403, 59, 403, 66⟩)]) (keywords := []) (pos := ⟨403, 53, 403, 67⟩)), ifs := [], is_async := 0 : PySem.Comprehension }])
  (scope := { kind := PySem.ScopeKind.function, names := [ (PySem.Str.ofString ".0", PySem.NameKind.local), (PySem.Str.ofString "client", PySem.NameKind.local), (PySem.Str.ofString "Client", PySem.NameKind.globalImplicit)], isGenerator := false, isCoroutine := false, more := [] : PySem.Scope })
  (pos := ⟨403, 23, 403, 68⟩))) (pos := ⟨403, 8, 403, 68⟩))]
def sc_World_init : Scope := { kind := PySem.ScopeKind.function, names := [ (PySem.Str.ofString "self", PySem.NameKind.local), (PySem.Str.ofString "life", PySem.NameKind.local), (PySem.Str.ofString "Net", PySem.NameKind.globalImplicit), (PySem.Str.ofString "House", PySem.NameKind.globalImplicit), (PySem.Str.ofString "range", PySem.NameKind.globalImplicit), (PySem.Str.ofString "CLIENTS", PySem.NameKind.globalImplicit)], isGenerator := false, isCoroutine := false, more := [ (PySem.Str.ofString "fast", (PySem.Const.str "self")), (PySem.Str.ofString "fast", (PySem.Const.str "life")), (PySem.Str.ofString "fast", (PySem.Const.str "client"))] : PySem.Scope }
def d_World_init : He.DefD := ⟨("World", some "__init__"), "__init__", "World.__init__", a_World_init, b_World_init, sc_World_init, [], []⟩
abbrev n_World_init : List Str := ["self", "life", "client"]
abbrev p_World_init : List Str := ["self", "life"]
theorem S_World_init : FnScope n_World_init p_World_init sc_World_init := ⟨rfl, rfl, rfl, by decide +kernel, rfl, by decide +kernel, by decide +kernel⟩
def a_World_has_client : Arguments := { posonlyargs := [], args := [ { arg := "self", annotation := none, pos := ⟨405, 19, 405, 23⟩ : PySem.Arg }, { arg := "client", annotation := none, pos := ⟨405, 25, 405, 31⟩ : PySem.Arg }], vararg := none, kwonlyargs := [], kw_defaults := [], kwarg := none, defaults := [] : PySem.Arguments }
def b_World_has_client : List Stmt := [ (PySem.Stmt.Return (value := (some (PySem.Expr.Compare (left := (PySem.Expr.Name "client" ⟨406, 15, 406, 21⟩)) (ops := [PySem.CmpOp.Lt])
  (comparators := [(PySem.Expr.Name "CLIENTS" ⟨406, 24, 406, 31⟩)]) (pos := ⟨406, 15, 406, 31⟩)))) (pos := ⟨406, 8, 406, 31⟩))]
def sc_World_has_client : Scope := { kind := PySem.ScopeKind.function, names := [ (PySem.Str.ofString "self", PySem.NameKind.local), (PySem.Str.ofString "client", PySem.NameKind.local), (PySem.Str.ofString "CLIENTS", PySem.NameKind.globalImplicit)], isGenerator := false, isCoroutine := false, more := [] : PySem.Scope }
def d_World_has_client : He.DefD := ⟨("World", some "has_client"), "has_client", "World.has_client", a_World_has_client, b_World_has_client, sc_World_has_client, [], []⟩
abbrev n_World_has_client : List Str := ["self", "client"]
abbrev p_World_has_client : List Str := ["self", "client"]
theorem S_World_has_client : FnScope n_World_has_client p_World_has_client sc_World_has_client := ⟨rfl, rfl, rfl, by decide +kernel, rfl, by decide +kernel, by decide +kernel⟩
def a_World_hand_over : Arguments := { posonlyargs := [], args := [ { arg := "self", annotation := none, pos := ⟨408, 18, 408, 22⟩ : PySem.Arg }, { arg := "letter", annotation := none, pos := ⟨408, 24, 408, 30⟩ : PySem.Arg }], vararg := none, kwonlyargs := [], kw_defaults := [], kwarg := none, defaults := [] : PySem.Arguments }
def b_World_hand_over : List Stmt := [ (PySem.Stmt.If (test := (PySem.Expr.Compare (left := (PySem.Expr.Attribute (PySem.Expr.Name "letter" ⟨409, 11, 409, 17⟩) "kind" ⟨409, 11, 409, 22⟩)) (ops := [PySem.CmpOp.Eq])
  (comparators := [(PySem.Expr.Name "ASKS" ⟨409, 26, 409, 30⟩)]) (pos := ⟨409, 11, 409, 30⟩))) (body := [ (PySem.Stmt.Return (value := (some (PySem.Expr.Call (func := (PySem.Expr.Attribute
  (value := (PySem.Expr.Attribute (PySem.Expr.Name "self" ⟨410, 19, 410, 23⟩) "house" ⟨410, 19, 410, 29⟩)) (attr := "hear_asking") (pos := ⟨410, 19, 410, 41⟩)))
  (args := [(PySem.Expr.Name "letter" ⟨410, 42, 410, 48⟩)]) (keywords := []) (pos := ⟨410, 19, 410, 49⟩)))) (pos := ⟨410, 12, 410, 49⟩))]) (orelse := []) (pos := ⟨409, 8, 410, 49⟩)), (PySem.Stmt.Assign
  (targets := [(PySem.Expr.Name "client" ⟨411, 8, 411, 14⟩)]) (value := (PySem.Expr.Subscript (value := (PySem.Expr.Attribute (PySem.Expr.Name "self" ⟨411, 17, 411, 21⟩) "clients" ⟨411, 17, 411, 29⟩))
  (slice := (PySem.Expr.Attribute (PySem.Expr.Name "letter" ⟨411, 30, 411, 36⟩) "client" ⟨411, 30, 411, 43⟩)) (pos := ⟨411, 17, 411, 44⟩))) (pos := ⟨411, 8, 411, 44⟩)), (PySem.Stmt.If
  (test := (PySem.Expr.Compare (left := (PySem.Expr.Attribute (PySem.Expr.Name "letter" ⟨412, 11, 412, 17⟩) "kind" ⟨412, 11, 412, 22⟩)) (ops := [PySem.CmpOp.Eq])
  (comparators := [(PySem.Expr.Name "NEWS" ⟨412, 26, 412, 30⟩)]) (pos := ⟨412, 11, 412, 30⟩))) (body := [ (PySem.Stmt.Return (value := (some (PySem.Expr.Call
  (func := (PySem.Expr.Attribute (PySem.Expr.Name "client" ⟨413, 19, 413, 25⟩) "hear_news" ⟨413, 19, 413, 35⟩)) (args := [(PySem.Expr.Name "letter" ⟨413, 36, 413, 42⟩)]) (keywords := [])
  (pos := ⟨413, 19, 413, 43⟩)))) (pos := ⟨413, 12, 413, 43⟩))]) (orelse := []) (pos := ⟨412, 8, 413, 43⟩)), (PySem.Stmt.Return (value := (some (PySem.Expr.Call
  (func := (PySem.Expr.Attribute (PySem.Expr.Name "client" ⟨414, 15, 414, 21⟩) "see_picture" ⟨414, 15, 414, 33⟩)) (args := [(PySem.Expr.Name "letter" ⟨414, 34, 414, 40⟩)]) (keywords := [])
  (pos := ⟨414, 15, 414, 41⟩)))) (pos := ⟨414, 8, 414, 41⟩))]
def sc_World_hand_over : Scope := { kind := PySem.ScopeKind.function, names := [ (PySem.Str.ofString "self", PySem.NameKind.local), (PySem.Str.ofString "letter", PySem.NameKind.local), (PySem.Str.ofString "client", PySem.NameKind.local), (PySem.Str.ofString "ASKS", PySem.NameKind.globalImplicit), (PySem.Str.ofString "NEWS", PySem.NameKind.globalImplicit)], isGenerator := false, isCoroutine := false, more := [] : PySem.Scope }
def d_World_hand_over : He.DefD := ⟨("World", some "hand_over"), "hand_over", "World.hand_over", a_World_hand_over, b_World_hand_over, sc_World_hand_over, [], []⟩
abbrev n_World_hand_over : List Str := ["self", "letter", "client"]
abbrev p_World_hand_over : List Str := ["self", "letter"]
theorem S_World_hand_over : FnScope n_World_hand_over p_World_hand_over sc_World_hand_over := ⟨rfl, rfl, rfl, by decide +kernel, rfl, by decide +kernel, by decide +kernel⟩
def a_answer_open : Arguments := { posonlyargs := [], args := [ { arg := "world", annotation := none, pos := ⟨415, 16, 415, 21⟩ : PySem.Arg }, { arg := "numbers", annotation := none, pos := ⟨415, 23, 415, 30⟩ : PySem.Arg }, { arg := "lists", annotation := none, pos := ⟨415, 32, 415, 37⟩ : PySem.Arg }], vararg := none, kwonlyargs := [], kw_defaults := [], kwarg := none, defaults := [] : PySem.Arguments }
def b_answer_open : List Stmt := [ (PySem.Stmt.Return (value := (some (PySem.Expr.List (elts := [ (PySem.Expr.Call (func := (PySem.Expr.Attribute
  (value := (PySem.Expr.Attribute (PySem.Expr.Name "world" ⟨416, 12, 416, 17⟩) "house" ⟨416, 12, 416, 23⟩)) (attr := "start_session") (pos := ⟨416, 12, 416, 37⟩))) (args := []) (keywords := [])
  (pos := ⟨416, 12, 416, 39⟩))]) (pos := ⟨416, 11, 416, 40⟩)))) (pos := ⟨416, 4, 416, 40⟩))]
def sc_answer_open : Scope := { kind := PySem.ScopeKind.function, names := [ (PySem.Str.ofString "world", PySem.NameKind.local), (PySem.Str.ofString "numbers", PySem.NameKind.local), (PySem.Str.ofString "lists", PySem.NameKind.local)], isGenerator := false, isCoroutine := false, more := [] : PySem.Scope }
def d_answer_open : He.DefD := ⟨("answer_open", none), "answer_open", "answer_open", a_answer_open, b_answer_open, sc_answer_open, [], []⟩
abbrev n_answer_open : List Str := ["world", "numbers", "lists"]
abbrev p_answer_open : List Str := ["world", "numbers", "lists"]
theorem S_answer_open : FnScope n_answer_open p_answer_open sc_answer_open := ⟨rfl, rfl, rfl, by decide +kernel, rfl, by decide +kernel, by decide +kernel⟩
def a_answer_close : Arguments := { posonlyargs := [], args := [ { arg := "world", annotation := none, pos := ⟨417, 17, 417, 22⟩ : PySem.Arg }, { arg := "numbers", annotation := none, pos := ⟨417, 24, 417, 31⟩ : PySem.Arg }, { arg := "lists", annotation := none, pos := ⟨417, 33, 417, 38⟩ : PySem.Arg }], vararg := none, kwonlyargs := [], kw_defaults := [], kwarg := none, defaults := [] : PySem.Arguments }
def b_answer_close : List Stmt := [ (PySem.Stmt.Assign (targets := [(PySem.Expr.Name "house" ⟨418, 4, 418, 9⟩)]) (value := (PySem.Expr.Attribute (PySem.Expr.Name "world" ⟨418, 12, 418, 17⟩) "house" ⟨418, 12, 418, 23⟩))
  (pos := ⟨418, 4, 418, 23⟩)), (PySem.Stmt.If (test := (PySem.Expr.UnaryOp (op := PySem.UnaryOp.Not) (operand := (PySem.Expr.Call
  (func := (PySem.Expr.Attribute (PySem.Expr.Name "house" ⟨419, 11, 419, 16⟩) "lasts" ⟨419, 11, 419, 22⟩)) (args := [ (PySem.Expr.Subscript (value := (PySem.Expr.Name "numbers" ⟨419, 23, 419, 30⟩))
  (slice := (PySem.Expr.Constant (PySem.Const.int 0) 0 ⟨419, 31, 419, 32⟩)) (pos := ⟨419, 23, 419, 33⟩))]) (keywords := []) (pos := ⟨419, 11, 419, 34⟩))) (pos := ⟨419, 7, 419, 34⟩))) (body := [
  (PySem.Stmt.Return (value := (some (PySem.Expr.List (elts := [ (PySem.Expr.UnaryOp (op := PySem.UnaryOp.USub) (operand := (PySem.Expr.Constant (PySem.Const.int 1) 0 ⟨420, 17, 420, 18⟩))
  (pos := ⟨420, 16, 420, 18⟩))]) (pos := ⟨420, 15, 420, 19⟩)))) (pos := ⟨420, 8, 420, 19⟩))]) (orelse := []) (pos := ⟨419, 4, 420, 19⟩)), (PySem.Stmt.Expr (value := (PySem.Expr.Call
  (func := (PySem.Expr.Attribute (PySem.Expr.Name "house" ⟨421, 4, 421, 9⟩) "end_session" ⟨421, 4, 421, 21⟩)) (args := [ (PySem.Expr.Subscript (value := (PySem.Expr.Name "numbers" ⟨421, 22, 421, 29⟩))
  (slice := (PySem.Expr.Constant (PySem.Const.int 0) 0 ⟨421, 30, 421, 31⟩)) (pos := ⟨421, 22, 421, 32⟩))]) (keywords := []) (pos := ⟨421, 4, 421, 33⟩))) (pos := ⟨421, 4, 421, 33⟩)), (PySem.Stmt.Return
  (value := (some (PySem.Expr.List (elts := [ (PySem.Expr.Call (func := (PySem.Expr.Attribute (PySem.Expr.Name "house" ⟨422, 12, 422, 17⟩) "last_turn" ⟨422, 12, 422, 27⟩)) (args := []) (keywords := [])
  (pos := ⟨422, 12, 422, 29⟩))]) (pos := ⟨422, 11, 422, 30⟩)))) (pos := ⟨422, 4, 422, 30⟩))]
def sc_answer_close : Scope := { kind := PySem.ScopeKind.function, names := [ (PySem.Str.ofString "world", PySem.NameKind.local), (PySem.Str.ofString "numbers", PySem.NameKind.local), (PySem.Str.ofString "lists", PySem.NameKind.local), (PySem.Str.ofString "house", PySem.NameKind.local)], isGenerator := false, isCoroutine := false, more := [] : PySem.Scope }
def d_answer_close : He.DefD := ⟨("answer_close", none), "answer_close", "answer_close", a_answer_close, b_answer_close, sc_answer_close, [], []⟩
abbrev n_answer_close : List Str := ["world", "numbers", "lists", "house"]
abbrev p_answer_close : List Str := ["world", "numbers", "lists"]
theorem S_answer_close : FnScope n_answer_close p_answer_close sc_answer_close := ⟨rfl, rfl, rfl, by decide +kernel, rfl, by decide +kernel, by decide +kernel⟩
def a_answer_touch : Arguments := { posonlyargs := [], args := [ { arg := "world", annotation := none, pos := ⟨423, 17, 423, 22⟩ : PySem.Arg }, { arg := "numbers", annotation := none, pos := ⟨423, 24, 423, 31⟩ : PySem.Arg }, { arg := "lists", annotation := none, pos := ⟨423, 33, 423, 38⟩ : PySem.Arg }], vararg := none, kwonlyargs := [], kw_defaults := [], kwarg := none, defaults := [] : PySem.Arguments }
def b_answer_touch : List Stmt := [ (PySem.Stmt.Assign (targets := [(PySem.Expr.Name "house" ⟨424, 4, 424, 9⟩)]) (value := (PySem.Expr.Attribute (PySem.Expr.Name "world" ⟨424, 12, 424, 17⟩) "house" ⟨424, 12, 424, 23⟩))
  (pos := ⟨424, 4, 424, 23⟩)), (PySem.Stmt.If (test := (PySem.Expr.UnaryOp (op := PySem.UnaryOp.Not) (operand := (PySem.Expr.Call
  (func := (PySem.Expr.Attribute (PySem.Expr.Name "house" ⟨425, 11, 425, 16⟩) "lasts" ⟨425, 11, 425, 22⟩)) (args := [ (PySem.Expr.Subscript (value := (PySem.Expr.Name "numbers" ⟨425, 23, 425, 30⟩))
  (slice := (PySem.Expr.Constant (PySem.Const.int 0) 0 ⟨425, 31, 425, 32⟩)) (pos := ⟨425, 23, 425, 33⟩))]) (keywords := []) (pos := ⟨425, 11, 425, 34⟩))) (pos := ⟨425, 7, 425, 34⟩))) (body := [
  (PySem.Stmt.Return (value := (some (PySem.Expr.List (elts := [ (PySem.Expr.UnaryOp (op := PySem.UnaryOp.USub) (operand := (PySem.Expr.Constant (PySem.Const.int 1) 0 ⟨426, 17, 426, 18⟩))
  (pos := ⟨426, 16, 426, 18⟩))]) (pos := ⟨426, 15, 426, 19⟩)))) (pos := ⟨426, 8, 426, 19⟩))]) (orelse := []) (pos := ⟨425, 4, 426, 19⟩)), (PySem.Stmt.Expr (value := (PySem.Expr.Call
  (func := (PySem.Expr.Attribute (PySem.Expr.Name "house" ⟨427, 4, 427, 9⟩) "see_session" ⟨427, 4, 427, 21⟩)) (args := [ (PySem.Expr.Subscript (value := (PySem.Expr.Name "numbers" ⟨427, 22, 427, 29⟩))
  (slice := (PySem.Expr.Constant (PySem.Const.int 0) 0 ⟨427, 30, 427, 31⟩)) (pos := ⟨427, 22, 427, 32⟩))]) (keywords := []) (pos := ⟨427, 4, 427, 33⟩))) (pos := ⟨427, 4, 427, 33⟩)), (PySem.Stmt.Return
  (value := (some (PySem.Expr.List [(PySem.Expr.Constant (PySem.Const.int 0) 0 ⟨428, 12, 428, 13⟩)] ⟨428, 11, 428, 14⟩))) (pos := ⟨428, 4, 428, 14⟩))]
def sc_answer_touch : Scope := { kind := PySem.ScopeKind.function, names := [ (PySem.Str.ofString "world", PySem.NameKind.local), (PySem.Str.ofString "numbers", PySem.NameKind.local), (PySem.Str.ofString "lists", PySem.NameKind.local), (PySem.Str.ofString "house", PySem.NameKind.local)], isGenerator := false, isCoroutine := false, more := [] : PySem.Scope }
def d_answer_touch : He.DefD := ⟨("answer_touch", none), "answer_touch", "answer_touch", a_answer_touch, b_answer_touch, sc_answer_touch, [], []⟩
abbrev n_answer_touch : List Str := ["world", "numbers", "lists", "house"]
abbrev p_answer_touch : List Str := ["world", "numbers", "lists"]
theorem S_answer_touch : FnScope n_answer_touch p_answer_touch sc_answer_touch := ⟨rfl, rfl, rfl, by decide +kernel, rfl, by decide +kernel, by decide +kernel⟩
def a_answer_tick : Arguments := { posonlyargs := [], args := [ { arg := "world", annotation := none, pos := ⟨429, 16, 429, 21⟩ : PySem.Arg }, { arg := "numbers", annotation := none, pos := ⟨429, 23, 429, 30⟩ : PySem.Arg }, { arg := "lists", annotation := none, pos := ⟨429, 32, 429, 37⟩ : PySem.Arg }], vararg := none, kwonlyargs := [], kw_defaults := [], kwarg := none, defaults := [] : PySem.Arguments }
def b_answer_tick : List Stmt := [ (PySem.Stmt.If (test := (PySem.Expr.Compare (left := (PySem.Expr.Subscript (value := (PySem.Expr.Name "numbers" ⟨430, 7, 430, 14⟩))
  (slice := (PySem.Expr.Constant (PySem.Const.int 0) 0 ⟨430, 15, 430, 16⟩)) (pos := ⟨430, 7, 430, 17⟩))) (ops := [PySem.CmpOp.Gt]) (comparators := [(PySem.Expr.Name "LATEST" ⟨430, 20, 430, 26⟩)])
  (pos := ⟨430, 7, 430, 26⟩))) (body := [ (PySem.Stmt.Return (value := (some (PySem.Expr.List (elts := [ (PySem.Expr.UnaryOp (op := PySem.UnaryOp.USub)
  (operand := (PySem.Expr.Constant (PySem.Const.int 1) 0 ⟨431, 17, 431, 18⟩)) (pos := ⟨431, 16, 431, 18⟩))]) (pos := ⟨431, 15, 431, 19⟩)))) (pos := ⟨431, 8, 431, 19⟩))]) (orelse := [])
  (pos := ⟨430, 4, 431, 19⟩)), (PySem.Stmt.Expr (value := (PySem.Expr.Call (func := (PySem.Expr.Attribute
  (value := (PySem.Expr.Attribute (PySem.Expr.Name "world" ⟨432, 4, 432, 9⟩) "house" ⟨432, 4, 432, 15⟩)) (attr := "pass_time") (pos := ⟨432, 4, 432, 25⟩))) (args := [ (PySem.Expr.Subscript
  (value := (PySem.Expr.Name "numbers" ⟨432, 26, 432, 33⟩)) (slice := (PySem.Expr.Constant (PySem.Const.int 0) 0 ⟨432, 34, 432, 35⟩)) (pos := ⟨432, 26, 432, 36⟩))]) (keywords := [])
  (pos := ⟨432, 4, 432, 37⟩))) (pos := ⟨432, 4, 432, 37⟩)), (PySem.Stmt.Return (value := (some (PySem.Expr.List (elts := [ (PySem.Expr.Call (func := (PySem.Expr.Attribute
  (value := (PySem.Expr.Attribute (PySem.Expr.Name "world" ⟨433, 12, 433, 17⟩) "house" ⟨433, 12, 433, 23⟩)) (attr := "last_turn") (pos := ⟨433, 12, 433, 33⟩))) (args := []) (keywords := [])
  (pos := ⟨433, 12, 433, 35⟩))]) (pos := ⟨433, 11, 433, 36⟩)))) (pos := ⟨433, 4, 433, 36⟩))]
def sc_answer_tick : Scope := { kind := PySem.ScopeKind.function, names := [ (PySem.Str.ofString "world", PySem.NameKind.local), (PySem.Str.ofString "numbers", PySem.NameKind.local), (PySem.Str.ofString "lists", PySem.NameKind.local), (PySem.Str.ofString "LATEST", PySem.NameKind.globalImplicit)], isGenerator := false, isCoroutine := false, more := [] : PySem.Scope }
def d_answer_tick : He.DefD := ⟨("answer_tick", none), "answer_tick", "answer_tick", a_answer_tick, b_answer_tick, sc_answer_tick, [], []⟩
abbrev n_answer_tick : List Str := ["world", "numbers", "lists"]
abbrev p_answer_tick : List Str := ["world", "numbers", "lists"]
theorem S_answer_tick : FnScope n_answer_tick p_answer_tick sc_answer_tick := ⟨rfl, rfl, rfl, by decide +kernel, rfl, by decide +kernel, by decide +kernel⟩
def a_answer_together : Arguments := { posonlyargs := [], args := [ { arg := "world", annotation := none, pos := ⟨434, 20, 434, 25⟩ : PySem.Arg }, { arg := "numbers", annotation := none, pos := ⟨434, 27, 434, 34⟩ : PySem.Arg }, { arg := "lists", annotation := none, pos := ⟨434, 36, 434, 41⟩ : PySem.Arg }], vararg := none, kwonlyargs := [], kw_defaults := [], kwarg := none, defaults := [] : PySem.Arguments }
def b_answer_together : List Stmt := [ (PySem.Stmt.Assign (targets := [(PySem.Expr.Name "orders" ⟨435, 4, 435, 10⟩)]) (value := (PySem.Expr.ListComp (elt := (PySem.Expr.Call (func := (PySem.Expr.Name "Order" ⟨435, 14, 435, 19⟩))
  (args := [(PySem.Expr.Name "row" ⟨435, 20, 435, 23⟩)]) (keywords := []) (pos := ⟨435, 14, 435, 24⟩))) (generators := [ { target := (PySem.Expr.Name "row" ⟨435, 29, 435, 32⟩), iter := (PySem.Expr.Name "lists" ⟨435, 36, 435, 41⟩), ifs := [], is_async := 0 : PySem.Comprehension }])
  (scope := { kind := PySem.ScopeKind.function, names := [ (PySem.Str.ofString ".0", PySem.NameKind.local), (PySem.Str.ofString "row", PySem.NameKind.local), (PySem.Str.ofString "Order", PySem.NameKind.globalImplicit)], isGenerator := false, isCoroutine := false, more := [] : PySem.Scope })
  (pos := ⟨435, 13, 435, 42⟩))) (pos := ⟨435, 4, 435, 42⟩)), (PySem.Stmt.If (test := (PySem.Expr.UnaryOp (op := PySem.UnaryOp.Not) (operand := (PySem.Expr.Call
  (func := (PySem.Expr.Name "are_orders" ⟨436, 11, 436, 21⟩)) (args := [(PySem.Expr.Name "orders" ⟨436, 22, 436, 28⟩)]) (keywords := []) (pos := ⟨436, 11, 436, 29⟩))) (pos := ⟨436, 7, 436, 29⟩)))
  (body := [ (PySem.Stmt.Return (value := (some (PySem.Expr.List (elts := [ (PySem.Expr.UnaryOp (op := PySem.UnaryOp.USub) (operand := (PySem.Expr.Constant (PySem.Const.int 1) 0 ⟨437, 17, 437, 18⟩))
  (pos := ⟨437, 16, 437, 18⟩))]) (pos := ⟨437, 15, 437, 19⟩)))) (pos := ⟨437, 8, 437, 19⟩))]) (orelse := []) (pos := ⟨436, 4, 437, 19⟩)), (PySem.Stmt.Return (value := (some (PySem.Expr.Call
  (func := (PySem.Expr.Name "do_together" ⟨438, 11, 438, 22⟩)) (args := [ (PySem.Expr.Attribute (PySem.Expr.Name "world" ⟨438, 23, 438, 28⟩) "house" ⟨438, 23, 438, 34⟩),
  (PySem.Expr.Name "orders" ⟨438, 36, 438, 42⟩)]) (keywords := []) (pos := ⟨438, 11, 438, 43⟩)))) (pos := ⟨438, 4, 438, 43⟩))]
def sc_answer_together : Scope := { kind := PySem.ScopeKind.function, names := [ (PySem.Str.ofString "world", PySem.NameKind.local), (PySem.Str.ofString "numbers", PySem.NameKind.local), (PySem.Str.ofString "lists", PySem.NameKind.local), (PySem.Str.ofString "orders", PySem.NameKind.local), (PySem.Str.ofString "are_orders", PySem.NameKind.globalImplicit), (PySem.Str.ofString "do_together", PySem.NameKind.globalImplicit)], isGenerator := false, isCoroutine := false, more := [ (PySem.Str.ofString "fast", (PySem.Const.str "world")), (PySem.Str.ofString "fast", (PySem.Const.str "numbers")), (PySem.Str.ofString "fast", (PySem.Const.str "lists")), (PySem.Str.ofString "fast", (PySem.Const.str "row")), (PySem.Str.ofString "fast", (PySem.Const.str "orders"))] : PySem.Scope }
def d_answer_together : He.DefD := ⟨("answer_together", none), "answer_together", "answer_together", a_answer_together, b_answer_together, sc_answer_together, [], []⟩
abbrev n_answer_together : List Str := ["world", "numbers", "lists", "orders", "row"]
abbrev p_answer_together : List Str := ["world", "numbers", "lists"]
theorem S_answer_together : FnScope n_answer_together p_answer_together sc_answer_together := ⟨rfl, rfl, rfl, by decide +kernel, rfl, by decide +kernel, by decide +kernel⟩
def a_answer_get : Arguments := { posonlyargs := [], args := [ { arg := "world", annotation := none, pos := ⟨439, 15, 439, 20⟩ : PySem.Arg }, { arg := "numbers", annotation := none, pos := ⟨439, 22, 439, 29⟩ : PySem.Arg }, { arg := "lists", annotation := none, pos := ⟨439, 31, 439, 36⟩ : PySem.Arg }], vararg := none, kwonlyargs := [], kw_defaults := [], kwarg := none, defaults := [] : PySem.Arguments }
def b_answer_get : List Stmt := [ (PySem.Stmt.Assign (targets := [(PySem.Expr.Name "path" ⟨440, 4, 440, 8⟩)]) (value := (PySem.Expr.Call (func := (PySem.Expr.Name "tuple" ⟨440, 11, 440, 16⟩)) (args := [ (PySem.Expr.Subscript
  (value := (PySem.Expr.Name "lists" ⟨440, 17, 440, 22⟩)) (slice := (PySem.Expr.Constant (PySem.Const.int 0) 0 ⟨440, 23, 440, 24⟩)) (pos := ⟨440, 17, 440, 25⟩))]) (keywords := [])
  (pos := ⟨440, 11, 440, 26⟩))) (pos := ⟨440, 4, 440, 26⟩)), (PySem.Stmt.If (test := (PySem.Expr.UnaryOp (op := PySem.UnaryOp.Not) (operand := (PySem.Expr.Call
  (func := (PySem.Expr.Name "is_path" ⟨441, 11, 441, 18⟩)) (args := [(PySem.Expr.Name "path" ⟨441, 19, 441, 23⟩)]) (keywords := []) (pos := ⟨441, 11, 441, 24⟩))) (pos := ⟨441, 7, 441, 24⟩))) (body := [
  (PySem.Stmt.Return (value := (some (PySem.Expr.List (elts := [ (PySem.Expr.UnaryOp (op := PySem.UnaryOp.USub) (operand := (PySem.Expr.Constant (PySem.Const.int 1) 0 ⟨442, 17, 442, 18⟩))
  (pos := ⟨442, 16, 442, 18⟩))]) (pos := ⟨442, 15, 442, 19⟩)))) (pos := ⟨442, 8, 442, 19⟩))]) (orelse := []) (pos := ⟨441, 4, 442, 19⟩)), (PySem.Stmt.If (test := (PySem.Expr.Compare
  (left := (PySem.Expr.Name "path" ⟨443, 7, 443, 11⟩)) (ops := [PySem.CmpOp.NotIn]) (comparators := [ (PySem.Expr.Attribute
  (value := (PySem.Expr.Attribute (PySem.Expr.Name "world" ⟨443, 19, 443, 24⟩) "house" ⟨443, 19, 443, 30⟩)) (attr := "nodes") (pos := ⟨443, 19, 443, 36⟩))]) (pos := ⟨443, 7, 443, 36⟩))) (body := [
  (PySem.Stmt.Return (value := (some (PySem.Expr.List (elts := [ (PySem.Expr.UnaryOp (op := PySem.UnaryOp.USub) (operand := (PySem.Expr.Constant (PySem.Const.int 2) 0 ⟨444, 17, 444, 18⟩))
  (pos := ⟨444, 16, 444, 18⟩))]) (pos := ⟨444, 15, 444, 19⟩)))) (pos := ⟨444, 8, 444, 19⟩))]) (orelse := []) (pos := ⟨443, 4, 444, 19⟩)), (PySem.Stmt.Assign
  (targets := [(PySem.Expr.Name "node" ⟨445, 4, 445, 8⟩)]) (value := (PySem.Expr.Subscript (value := (PySem.Expr.Attribute
  (value := (PySem.Expr.Attribute (PySem.Expr.Name "world" ⟨445, 11, 445, 16⟩) "house" ⟨445, 11, 445, 22⟩)) (attr := "nodes") (pos := ⟨445, 11, 445, 28⟩)))
  (slice := (PySem.Expr.Name "path" ⟨445, 29, 445, 33⟩)) (pos := ⟨445, 11, 445, 34⟩))) (pos := ⟨445, 4, 445, 34⟩)), (PySem.Stmt.Return (value := (some (PySem.Expr.List (elts := [
  (PySem.Expr.Attribute (PySem.Expr.Name "node" ⟨446, 12, 446, 16⟩) "value" ⟨446, 12, 446, 22⟩), (PySem.Expr.Attribute (PySem.Expr.Name "node" ⟨446, 24, 446, 28⟩) "version" ⟨446, 24, 446, 36⟩),
  (PySem.Expr.Attribute (PySem.Expr.Name "node" ⟨446, 38, 446, 42⟩) "made" ⟨446, 38, 446, 47⟩), (PySem.Expr.Attribute (PySem.Expr.Name "node" ⟨446, 49, 446, 53⟩) "changed" ⟨446, 49, 446, 61⟩),
  (PySem.Expr.Attribute (PySem.Expr.Name "node" ⟨446, 63, 446, 67⟩) "held" ⟨446, 63, 446, 72⟩)]) (pos := ⟨446, 11, 446, 73⟩)))) (pos := ⟨446, 4, 446, 73⟩))]
def sc_answer_get : Scope := { kind := PySem.ScopeKind.function, names := [ (PySem.Str.ofString "world", PySem.NameKind.local), (PySem.Str.ofString "numbers", PySem.NameKind.local), (PySem.Str.ofString "lists", PySem.NameKind.local), (PySem.Str.ofString "path", PySem.NameKind.local), (PySem.Str.ofString "node", PySem.NameKind.local), (PySem.Str.ofString "tuple", PySem.NameKind.globalImplicit), (PySem.Str.ofString "is_path", PySem.NameKind.globalImplicit)], isGenerator := false, isCoroutine := false, more := [] : PySem.Scope }
def d_answer_get : He.DefD := ⟨("answer_get", none), "answer_get", "answer_get", a_answer_get, b_answer_get, sc_answer_get, [], []⟩
abbrev n_answer_get : List Str := ["world", "numbers", "lists", "path", "node"]
abbrev p_answer_get : List Str := ["world", "numbers", "lists"]
theorem S_answer_get : FnScope n_answer_get p_answer_get sc_answer_get := ⟨rfl, rfl, rfl, by decide +kernel, rfl, by decide +kernel, by decide +kernel⟩
def a_answer_list : Arguments := { posonlyargs := [], args := [ { arg := "world", annotation := none, pos := ⟨447, 16, 447, 21⟩ : PySem.Arg }, { arg := "numbers", annotation := none, pos := ⟨447, 23, 447, 30⟩ : PySem.Arg }, { arg := "lists", annotation := none, pos := ⟨447, 32, 447, 37⟩ : PySem.Arg }], vararg := none, kwonlyargs := [], kw_defaults := [], kwarg := none, defaults := [] : PySem.Arguments }
def b_answer_list : List Stmt := [ (PySem.Stmt.Assign (targets := [(PySem.Expr.Name "top" ⟨448, 4, 448, 7⟩)]) (value := (PySem.Expr.Call (func := (PySem.Expr.Name "tuple" ⟨448, 10, 448, 15⟩)) (args := [ (PySem.Expr.Subscript
  (value := (PySem.Expr.Name "lists" ⟨448, 16, 448, 21⟩)) (slice := (PySem.Expr.Constant (PySem.Const.int 0) 0 ⟨448, 22, 448, 23⟩)) (pos := ⟨448, 16, 448, 24⟩))]) (keywords := [])
  (pos := ⟨448, 10, 448, 25⟩))) (pos := ⟨448, 4, 448, 25⟩)), (PySem.Stmt.Assign (targets := [(PySem.Expr.Name "nodes" ⟨449, 4, 449, 9⟩)]) (value := (PySem.Expr.Attribute
  (value := (PySem.Expr.Attribute (PySem.Expr.Name "world" ⟨449, 12, 449, 17⟩) "house" ⟨449, 12, 449, 23⟩)) (attr := "nodes") (pos := ⟨449, 12, 449, 29⟩))) (pos := ⟨449, 4, 449, 29⟩)), (PySem.Stmt.If
  (test := (PySem.Expr.UnaryOp (op := PySem.UnaryOp.Not) (operand := (PySem.Expr.Call (func := (PySem.Expr.Name "is_path_or_empty" ⟨450, 11, 450, 27⟩))
  (args := [(PySem.Expr.Name "top" ⟨450, 28, 450, 31⟩)]) (keywords := []) (pos := ⟨450, 11, 450, 32⟩))) (pos := ⟨450, 7, 450, 32⟩))) (body := [ (PySem.Stmt.Return (value := (some (PySem.Expr.List
  (elts := [ (PySem.Expr.UnaryOp (op := PySem.UnaryOp.USub) (operand := (PySem.Expr.Constant (PySem.Const.int 1) 0 ⟨451, 17, 451, 18⟩)) (pos := ⟨451, 16, 451, 18⟩))]) (pos := ⟨451, 15, 451, 19⟩))))
  (pos := ⟨451, 8, 451, 19⟩))]) (orelse := []) (pos := ⟨450, 4, 451, 19⟩)), (PySem.Stmt.If (test := (PySem.Expr.BoolOp (op := PySem.BoolOp.And) (values := [ (PySem.Expr.Compare (left := (PySem.Expr.Call
  (func := (PySem.Expr.Name "len" ⟨452, 7, 452, 10⟩)) (args := [(PySem.Expr.Name "top" ⟨452, 11, 452, 14⟩)]) (keywords := []) (pos := ⟨452, 7, 452, 15⟩))) (ops := [PySem.CmpOp.Gt])
  (comparators := [(PySem.Expr.Constant (PySem.Const.int 0) 0 ⟨452, 18, 452, 19⟩)]) (pos := ⟨452, 7, 452, 19⟩)), (PySem.Expr.Compare (left := (PySem.Expr.Name "top" ⟨452, 24, 452, 27⟩))
  (ops := [PySem.CmpOp.NotIn]) (comparators := [(PySem.Expr.Name "nodes" ⟨452, 35, 452, 40⟩)]) (pos := ⟨452, 24, 452, 40⟩))]) (pos := ⟨452, 7, 452, 40⟩))) (body := [ (PySem.Stmt.Return (value := (some
  (PySem.Expr.List (elts := [ (PySem.Expr.UnaryOp (op := PySem.UnaryOp.USub) (operand := (PySem.Expr.Constant (PySem.Const.int 2) 0 ⟨453, 17, 453, 18⟩)) (pos := ⟨453, 16, 453, 18⟩))])
  (pos := ⟨453, 15, 453, 19⟩)))) (pos := ⟨453, 8, 453, 19⟩))]) (orelse := []) (pos := ⟨452, 4, 453, 19⟩)), (PySem.Stmt.Return (value := (some (PySem.Expr.Call
  (func := (PySem.Expr.Name "tell_row" ⟨454, 11, 454, 19⟩)) (args := [ (PySem.Expr.Call (func := (PySem.Expr.Name "sorted" ⟨454, 20, 454, 26⟩)) (args := [ (PySem.Expr.ListComp
  (elt := (PySem.Expr.Subscript (value := (PySem.Expr.Name "path" ⟨454, 28, 454, 32⟩)) (slice := (PySem.Expr.UnaryOp (op := PySem.UnaryOp.USub)
  (operand := (PySem.Expr.Constant (PySem.Const.int 1) 0 ⟨454, 34, 454, 35⟩)) (pos := ⟨454, 33, 454, 35⟩))) (pos := ⟨454, 28, 454, 36⟩))) (generators := [ { target := (PySem.Expr.Name "path" ⟨454, 41, 454, 45⟩), iter := (PySem.Expr.Name "nodes" ⟨454, 49, 454, 54⟩), ifs := [ (PySem.Expr.Compare (left := (PySem.Expr.Subscript (value := (PySem.Expr.Name "path" ⟨454, 58, 454, 62⟩)) (slice := (PySem.Expr.Slice (lower := none) (upper := (some (PySem.Expr.UnaryOp (op := PySem.UnaryOp.USub) (operand := (PySem.Expr.Constant (PySem.Const.int 1) 0 ⟨454, 65, 454, 66⟩)) (pos := ⟨454, 64, 454, 66⟩)))) (step := none) (pos := ⟨454, 63, 454, 66⟩))) (pos := ⟨454, 58, 454, 67⟩))) (ops := [PySem.CmpOp.Eq]) (comparators := [(PySem.Expr.Name "top" ⟨454, 71, 454, 74⟩)]) (pos := ⟨454, 58, 454, 74⟩))], is_async := 0 : PySem.Comprehension }])
  (scope := { kind := PySem.ScopeKind.function, names := [ (PySem.Str.ofString ".0", PySem.NameKind.local), (PySem.Str.ofString "path", PySem.NameKind.local), (PySem.Str.ofString "top", PySem.NameKind.free)], isGenerator := false, isCoroutine := false, more := [] : PySem.Scope })
  (pos := ⟨454, 27, 454, 75⟩))]) (keywords := []) (pos := ⟨454, 20, 454, 76⟩))]) (keywords := []) (pos := ⟨454, 11, 454, 77⟩)))) (pos := ⟨454, 4, 454, 77⟩))]
def sc_answer_list : Scope := { kind := PySem.ScopeKind.function, names := [ (PySem.Str.ofString "world", PySem.NameKind.local), (PySem.Str.ofString "numbers", PySem.NameKind.local), (PySem.Str.ofString "lists", PySem.NameKind.local), (PySem.Str.ofString "top", PySem.NameKind.cell), (PySem.Str.ofString "nodes", PySem.NameKind.local), (PySem.Str.ofString "tuple", PySem.NameKind.globalImplicit), (PySem.Str.ofString "is_path_or_empty", PySem.NameKind.globalImplicit), (PySem.Str.ofString "len", PySem.NameKind.globalImplicit), (PySem.Str.ofString "tell_row", PySem.NameKind.globalImplicit), (PySem.Str.ofString "sorted", PySem.NameKind.globalImplicit)], isGenerator := false, isCoroutine := false, more := [ (PySem.Str.ofString "fast", (PySem.Const.str "world")), (PySem.Str.ofString "fast", (PySem.Const.str "numbers")), (PySem.Str.ofString "fast", (PySem.Const.str "lists")), (PySem.Str.ofString "fast", (PySem.Const.str "top")), (PySem.Str.ofString "fast", (PySem.Const.str "nodes")), (PySem.Str.ofString "fast", (PySem.Const.str "path"))] : PySem.Scope }
def d_answer_list : He.DefD := ⟨("answer_list", none), "answer_list", "answer_list", a_answer_list, b_answer_list, sc_answer_list, [], []⟩
abbrev n_answer_list : List Str := ["world", "numbers", "lists", "top", "nodes", "path"]
abbrev p_answer_list : List Str := ["world", "numbers", "lists"]
theorem S_answer_list : FnScope n_answer_list p_answer_list sc_answer_list := ⟨rfl, rfl, rfl, by decide +kernel, rfl, by decide +kernel, by decide +kernel⟩
def a_answer_watch : Arguments := { posonlyargs := [], args := [ { arg := "world", annotation := none, pos := ⟨455, 17, 455, 22⟩ : PySem.Arg }, { arg := "numbers", annotation := none, pos := ⟨455, 24, 455, 31⟩ : PySem.Arg }, { arg := "lists", annotation := none, pos := ⟨455, 33, 455, 38⟩ : PySem.Arg }], vararg := none, kwonlyargs := [], kw_defaults := [], kwarg := none, defaults := [] : PySem.Arguments }
def b_answer_watch : List Stmt := [ (PySem.Stmt.Assign (targets := [(PySem.Expr.Name "path" ⟨456, 4, 456, 8⟩)]) (value := (PySem.Expr.Call (func := (PySem.Expr.Name "tuple" ⟨456, 11, 456, 16⟩)) (args := [ (PySem.Expr.Subscript
  (value := (PySem.Expr.Name "lists" ⟨456, 17, 456, 22⟩)) (slice := (PySem.Expr.Constant (PySem.Const.int 0) 0 ⟨456, 23, 456, 24⟩)) (pos := ⟨456, 17, 456, 25⟩))]) (keywords := [])
  (pos := ⟨456, 11, 456, 26⟩))) (pos := ⟨456, 4, 456, 26⟩)), (PySem.Stmt.If (test := (PySem.Expr.BoolOp (op := PySem.BoolOp.Or) (values := [ (PySem.Expr.UnaryOp (op := PySem.UnaryOp.Not)
  (operand := (PySem.Expr.Call (func := (PySem.Expr.Attribute (PySem.Expr.Name "world" ⟨457, 11, 457, 16⟩) "has_client" ⟨457, 11, 457, 27⟩)) (args := [ (PySem.Expr.Subscript
  (value := (PySem.Expr.Name "numbers" ⟨457, 28, 457, 35⟩)) (slice := (PySem.Expr.Constant (PySem.Const.int 0) 0 ⟨457, 36, 457, 37⟩)) (pos := ⟨457, 28, 457, 38⟩))]) (keywords := [])
  (pos := ⟨457, 11, 457, 39⟩))) (pos := ⟨457, 7, 457, 39⟩)), (PySem.Expr.UnaryOp (op := PySem.UnaryOp.Not) (operand := (PySem.Expr.Call (func := (PySem.Expr.Name "is_path_or_empty" ⟨457, 47, 457, 63⟩))
  (args := [(PySem.Expr.Name "path" ⟨457, 64, 457, 68⟩)]) (keywords := []) (pos := ⟨457, 47, 457, 69⟩))) (pos := ⟨457, 43, 457, 69⟩))]) (pos := ⟨457, 7, 457, 69⟩))) (body := [ (PySem.Stmt.Return
  (value := (some (PySem.Expr.List (elts := [ (PySem.Expr.UnaryOp (op := PySem.UnaryOp.USub) (operand := (PySem.Expr.Constant (PySem.Const.int 1) 0 ⟨458, 17, 458, 18⟩)) (pos := ⟨458, 16, 458, 18⟩))])
  (pos := ⟨458, 15, 458, 19⟩)))) (pos := ⟨458, 8, 458, 19⟩))]) (orelse := []) (pos := ⟨457, 4, 458, 19⟩)), (PySem.Stmt.Assign (targets := [(PySem.Expr.Name "client" ⟨459, 4, 459, 10⟩)])
  (value := (PySem.Expr.Subscript (value := (PySem.Expr.Attribute (PySem.Expr.Name "world" ⟨459, 13, 459, 18⟩) "clients" ⟨459, 13, 459, 26⟩)) (slice := (PySem.Expr.Subscript
  (value := (PySem.Expr.Name "numbers" ⟨459, 27, 459, 34⟩)) (slice := (PySem.Expr.Constant (PySem.Const.int 0) 0 ⟨459, 35, 459, 36⟩)) (pos := ⟨459, 27, 459, 37⟩))) (pos := ⟨459, 13, 459, 38⟩)))
  (pos := ⟨459, 4, 459, 38⟩)), (PySem.Stmt.Expr (value := (PySem.Expr.Call (func := (PySem.Expr.Attribute (PySem.Expr.Name "client" ⟨460, 4, 460, 10⟩) "start_watch" ⟨460, 4, 460, 22⟩)) (args := [
  (PySem.Expr.Name "path" ⟨460, 23, 460, 27⟩), (PySem.Expr.Attribute (PySem.Expr.Name "world" ⟨460, 29, 460, 34⟩) "net" ⟨460, 29, 460, 38⟩)]) (keywords := []) (pos := ⟨460, 4, 460, 39⟩)))
  (pos := ⟨460, 4, 460, 39⟩)), (PySem.Stmt.Return (value := (some (PySem.Expr.List (elts := [(PySem.Expr.Attribute (PySem.Expr.Name "client" ⟨461, 12, 461, 18⟩) "number" ⟨461, 12, 461, 25⟩)])
  (pos := ⟨461, 11, 461, 26⟩)))) (pos := ⟨461, 4, 461, 26⟩))]
def sc_answer_watch : Scope := { kind := PySem.ScopeKind.function, names := [ (PySem.Str.ofString "world", PySem.NameKind.local), (PySem.Str.ofString "numbers", PySem.NameKind.local), (PySem.Str.ofString "lists", PySem.NameKind.local), (PySem.Str.ofString "path", PySem.NameKind.local), (PySem.Str.ofString "client", PySem.NameKind.local), (PySem.Str.ofString "tuple", PySem.NameKind.globalImplicit), (PySem.Str.ofString "is_path_or_empty", PySem.NameKind.globalImplicit)], isGenerator := false, isCoroutine := false, more := [] : PySem.Scope }
def d_answer_watch : He.DefD := ⟨("answer_watch", none), "answer_watch", "answer_watch", a_answer_watch, b_answer_watch, sc_answer_watch, [], []⟩
abbrev n_answer_watch : List Str := ["world", "numbers", "lists", "path", "client"]
abbrev p_answer_watch : List Str := ["world", "numbers", "lists"]
theorem S_answer_watch : FnScope n_answer_watch p_answer_watch sc_answer_watch := ⟨rfl, rfl, rfl, by decide +kernel, rfl, by decide +kernel, by decide +kernel⟩
def a_answer_ask : Arguments := { posonlyargs := [], args := [ { arg := "world", annotation := none, pos := ⟨462, 15, 462, 20⟩ : PySem.Arg }, { arg := "numbers", annotation := none, pos := ⟨462, 22, 462, 29⟩ : PySem.Arg }, { arg := "lists", annotation := none, pos := ⟨462, 31, 462, 36⟩ : PySem.Arg }], vararg := none, kwonlyargs := [], kw_defaults := [], kwarg := none, defaults := [] : PySem.Arguments }
def b_answer_ask : List Stmt := [ (PySem.Stmt.If (test := (PySem.Expr.UnaryOp (op := PySem.UnaryOp.Not) (operand := (PySem.Expr.Call
  (func := (PySem.Expr.Attribute (PySem.Expr.Name "world" ⟨463, 11, 463, 16⟩) "has_client" ⟨463, 11, 463, 27⟩)) (args := [ (PySem.Expr.Subscript (value := (PySem.Expr.Name "numbers" ⟨463, 28, 463, 35⟩))
  (slice := (PySem.Expr.Constant (PySem.Const.int 0) 0 ⟨463, 36, 463, 37⟩)) (pos := ⟨463, 28, 463, 38⟩))]) (keywords := []) (pos := ⟨463, 11, 463, 39⟩))) (pos := ⟨463, 7, 463, 39⟩))) (body := [
  (PySem.Stmt.Return (value := (some (PySem.Expr.List (elts := [ (PySem.Expr.UnaryOp (op := PySem.UnaryOp.USub) (operand := (PySem.Expr.Constant (PySem.Const.int 1) 0 ⟨464, 17, 464, 18⟩))
  (pos := ⟨464, 16, 464, 18⟩))]) (pos := ⟨464, 15, 464, 19⟩)))) (pos := ⟨464, 8, 464, 19⟩))]) (orelse := []) (pos := ⟨463, 4, 464, 19⟩)), (PySem.Stmt.Assign
  (targets := [(PySem.Expr.Name "client" ⟨465, 4, 465, 10⟩)]) (value := (PySem.Expr.Subscript (value := (PySem.Expr.Attribute (PySem.Expr.Name "world" ⟨465, 13, 465, 18⟩) "clients" ⟨465, 13, 465, 26⟩))
  (slice := (PySem.Expr.Subscript (value := (PySem.Expr.Name "numbers" ⟨465, 27, 465, 34⟩)) (slice := (PySem.Expr.Constant (PySem.Const.int 0) 0 ⟨465, 35, 465, 36⟩)) (pos := ⟨465, 27, 465, 37⟩)))
  (pos := ⟨465, 13, 465, 38⟩))) (pos := ⟨465, 4, 465, 38⟩)), (PySem.Stmt.If (test := (PySem.Expr.UnaryOp (op := PySem.UnaryOp.Not) (operand := (PySem.Expr.Call
  (func := (PySem.Expr.Attribute (PySem.Expr.Name "client" ⟨466, 11, 466, 17⟩) "watches" ⟨466, 11, 466, 25⟩)) (args := []) (keywords := []) (pos := ⟨466, 11, 466, 27⟩))) (pos := ⟨466, 7, 466, 27⟩)))
  (body := [ (PySem.Stmt.Return (value := (some (PySem.Expr.List (elts := [ (PySem.Expr.UnaryOp (op := PySem.UnaryOp.USub) (operand := (PySem.Expr.Constant (PySem.Const.int 2) 0 ⟨467, 17, 467, 18⟩))
  (pos := ⟨467, 16, 467, 18⟩))]) (pos := ⟨467, 15, 467, 19⟩)))) (pos := ⟨467, 8, 467, 19⟩))]) (orelse := []) (pos := ⟨466, 4, 467, 19⟩)), (PySem.Stmt.Expr (value := (PySem.Expr.Call
  (func := (PySem.Expr.Attribute (PySem.Expr.Name "client" ⟨468, 4, 468, 10⟩) "ask_house" ⟨468, 4, 468, 20⟩))
  (args := [(PySem.Expr.Attribute (PySem.Expr.Name "world" ⟨468, 21, 468, 26⟩) "net" ⟨468, 21, 468, 30⟩)]) (keywords := []) (pos := ⟨468, 4, 468, 31⟩))) (pos := ⟨468, 4, 468, 31⟩)), (PySem.Stmt.Return
  (value := (some (PySem.Expr.List (elts := [ (PySem.Expr.Call (func := (PySem.Expr.Name "tell_turn" ⟨469, 12, 469, 21⟩))
  (args := [(PySem.Expr.Attribute (PySem.Expr.Name "client" ⟨469, 22, 469, 28⟩) "up_to" ⟨469, 22, 469, 34⟩)]) (keywords := []) (pos := ⟨469, 12, 469, 35⟩))]) (pos := ⟨469, 11, 469, 36⟩))))
  (pos := ⟨469, 4, 469, 36⟩))]
def sc_answer_ask : Scope := { kind := PySem.ScopeKind.function, names := [ (PySem.Str.ofString "world", PySem.NameKind.local), (PySem.Str.ofString "numbers", PySem.NameKind.local), (PySem.Str.ofString "lists", PySem.NameKind.local), (PySem.Str.ofString "client", PySem.NameKind.local), (PySem.Str.ofString "tell_turn", PySem.NameKind.globalImplicit)], isGenerator := false, isCoroutine := false, more := [] : PySem.Scope }
def d_answer_ask : He.DefD := ⟨("answer_ask", none), "answer_ask", "answer_ask", a_answer_ask, b_answer_ask, sc_answer_ask, [], []⟩
abbrev n_answer_ask : List Str := ["world", "numbers", "lists", "client"]
abbrev p_answer_ask : List Str := ["world", "numbers", "lists"]
theorem S_answer_ask : FnScope n_answer_ask p_answer_ask sc_answer_ask := ⟨rfl, rfl, rfl, by decide +kernel, rfl, by decide +kernel, by decide +kernel⟩
def a_answer_compact : Arguments := { posonlyargs := [], args := [ { arg := "world", annotation := none, pos := ⟨470, 19, 470, 24⟩ : PySem.Arg }, { arg := "numbers", annotation := none, pos := ⟨470, 26, 470, 33⟩ : PySem.Arg }, { arg := "lists", annotation := none, pos := ⟨470, 35, 470, 40⟩ : PySem.Arg }], vararg := none, kwonlyargs := [], kw_defaults := [], kwarg := none, defaults := [] : PySem.Arguments }
def b_answer_compact : List Stmt := [ (PySem.Stmt.Assign (targets := [(PySem.Expr.Name "house" ⟨471, 4, 471, 9⟩)]) (value := (PySem.Expr.Attribute (PySem.Expr.Name "world" ⟨471, 12, 471, 17⟩) "house" ⟨471, 12, 471, 23⟩))
  (pos := ⟨471, 4, 471, 23⟩)), (PySem.Stmt.If (test := (PySem.Expr.Compare (left := (PySem.Expr.Subscript (value := (PySem.Expr.Name "numbers" ⟨472, 7, 472, 14⟩))
  (slice := (PySem.Expr.Constant (PySem.Const.int 0) 0 ⟨472, 15, 472, 16⟩)) (pos := ⟨472, 7, 472, 17⟩))) (ops := [PySem.CmpOp.Gt]) (comparators := [ (PySem.Expr.Call
  (func := (PySem.Expr.Attribute (PySem.Expr.Name "house" ⟨472, 20, 472, 25⟩) "last_turn" ⟨472, 20, 472, 35⟩)) (args := []) (keywords := []) (pos := ⟨472, 20, 472, 37⟩))]) (pos := ⟨472, 7, 472, 37⟩)))
  (body := [ (PySem.Stmt.Return (value := (some (PySem.Expr.List (elts := [ (PySem.Expr.UnaryOp (op := PySem.UnaryOp.USub) (operand := (PySem.Expr.Constant (PySem.Const.int 1) 0 ⟨473, 17, 473, 18⟩))
  (pos := ⟨473, 16, 473, 18⟩))]) (pos := ⟨473, 15, 473, 19⟩)))) (pos := ⟨473, 8, 473, 19⟩))]) (orelse := []) (pos := ⟨472, 4, 473, 19⟩)), (PySem.Stmt.If (test := (PySem.Expr.Compare
  (left := (PySem.Expr.Subscript (value := (PySem.Expr.Name "numbers" ⟨474, 7, 474, 14⟩)) (slice := (PySem.Expr.Constant (PySem.Const.int 0) 0 ⟨474, 15, 474, 16⟩)) (pos := ⟨474, 7, 474, 17⟩)))
  (ops := [PySem.CmpOp.Lt]) (comparators := [(PySem.Expr.Attribute (PySem.Expr.Name "house" ⟨474, 20, 474, 25⟩) "base" ⟨474, 20, 474, 30⟩)]) (pos := ⟨474, 7, 474, 30⟩))) (body := [ (PySem.Stmt.Return
  (value := (some (PySem.Expr.List (elts := [ (PySem.Expr.UnaryOp (op := PySem.UnaryOp.USub) (operand := (PySem.Expr.Constant (PySem.Const.int 2) 0 ⟨475, 17, 475, 18⟩)) (pos := ⟨475, 16, 475, 18⟩))])
  (pos := ⟨475, 15, 475, 19⟩)))) (pos := ⟨475, 8, 475, 19⟩))]) (orelse := []) (pos := ⟨474, 4, 475, 19⟩)), (PySem.Stmt.Assign
  (targets := [(PySem.Expr.Attribute (PySem.Expr.Name "house" ⟨476, 4, 476, 9⟩) "base" ⟨476, 4, 476, 14⟩)]) (value := (PySem.Expr.Subscript (value := (PySem.Expr.Name "numbers" ⟨476, 17, 476, 24⟩))
  (slice := (PySem.Expr.Constant (PySem.Const.int 0) 0 ⟨476, 25, 476, 26⟩)) (pos := ⟨476, 17, 476, 27⟩))) (pos := ⟨476, 4, 476, 27⟩)), (PySem.Stmt.Return
  (value := (some (PySem.Expr.List [(PySem.Expr.Constant (PySem.Const.int 0) 0 ⟨477, 12, 477, 13⟩)] ⟨477, 11, 477, 14⟩))) (pos := ⟨477, 4, 477, 14⟩))]
def sc_answer_compact : Scope := { kind := PySem.ScopeKind.function, names := [ (PySem.Str.ofString "world", PySem.NameKind.local), (PySem.Str.ofString "numbers", PySem.NameKind.local), (PySem.Str.ofString "lists", PySem.NameKind.local), (PySem.Str.ofString "house", PySem.NameKind.local)], isGenerator := false, isCoroutine := false, more := [] : PySem.Scope }
def d_answer_compact : He.DefD := ⟨("answer_compact", none), "answer_compact", "answer_compact", a_answer_compact, b_answer_compact, sc_answer_compact, [], []⟩
abbrev n_answer_compact : List Str := ["world", "numbers", "lists", "house"]
abbrev p_answer_compact : List Str := ["world", "numbers", "lists"]
theorem S_answer_compact : FnScope n_answer_compact p_answer_compact sc_answer_compact := ⟨rfl, rfl, rfl, by decide +kernel, rfl, by decide +kernel, by decide +kernel⟩
def a_answer_take : Arguments := { posonlyargs := [], args := [ { arg := "world", annotation := none, pos := ⟨478, 16, 478, 21⟩ : PySem.Arg }, { arg := "numbers", annotation := none, pos := ⟨478, 23, 478, 30⟩ : PySem.Arg }, { arg := "lists", annotation := none, pos := ⟨478, 32, 478, 37⟩ : PySem.Arg }], vararg := none, kwonlyargs := [], kw_defaults := [], kwarg := none, defaults := [] : PySem.Arguments }
def b_answer_take : List Stmt := [ (PySem.Stmt.If (test := (PySem.Expr.UnaryOp (op := PySem.UnaryOp.Not) (operand := (PySem.Expr.Call (func := (PySem.Expr.Attribute
  (value := (PySem.Expr.Attribute (PySem.Expr.Name "world" ⟨479, 11, 479, 16⟩) "net" ⟨479, 11, 479, 20⟩)) (attr := "has_letter") (pos := ⟨479, 11, 479, 31⟩))) (args := [ (PySem.Expr.Subscript
  (value := (PySem.Expr.Name "numbers" ⟨479, 32, 479, 39⟩)) (slice := (PySem.Expr.Constant (PySem.Const.int 0) 0 ⟨479, 40, 479, 41⟩)) (pos := ⟨479, 32, 479, 42⟩))]) (keywords := [])
  (pos := ⟨479, 11, 479, 43⟩))) (pos := ⟨479, 7, 479, 43⟩))) (body := [ (PySem.Stmt.Return (value := (some (PySem.Expr.List (elts := [ (PySem.Expr.UnaryOp (op := PySem.UnaryOp.USub)
  (operand := (PySem.Expr.Constant (PySem.Const.int 1) 0 ⟨480, 17, 480, 18⟩)) (pos := ⟨480, 16, 480, 18⟩))]) (pos := ⟨480, 15, 480, 19⟩)))) (pos := ⟨480, 8, 480, 19⟩))]) (orelse := [])
  (pos := ⟨479, 4, 480, 19⟩)), (PySem.Stmt.Assign (targets := [(PySem.Expr.Name "letter" ⟨481, 4, 481, 10⟩)]) (value := (PySem.Expr.Call (func := (PySem.Expr.Attribute
  (value := (PySem.Expr.Attribute (PySem.Expr.Name "world" ⟨481, 13, 481, 18⟩) "net" ⟨481, 13, 481, 22⟩)) (attr := "take_out") (pos := ⟨481, 13, 481, 31⟩))) (args := [ (PySem.Expr.Subscript
  (value := (PySem.Expr.Name "numbers" ⟨481, 32, 481, 39⟩)) (slice := (PySem.Expr.Constant (PySem.Const.int 0) 0 ⟨481, 40, 481, 41⟩)) (pos := ⟨481, 32, 481, 42⟩))]) (keywords := [])
  (pos := ⟨481, 13, 481, 43⟩))) (pos := ⟨481, 4, 481, 43⟩)), (PySem.Stmt.Return (value := (some (PySem.Expr.List (elts := [ (PySem.Expr.Call
  (func := (PySem.Expr.Attribute (PySem.Expr.Name "world" ⟨482, 12, 482, 17⟩) "hand_over" ⟨482, 12, 482, 27⟩)) (args := [(PySem.Expr.Name "letter" ⟨482, 28, 482, 34⟩)]) (keywords := [])
  (pos := ⟨482, 12, 482, 35⟩))]) (pos := ⟨482, 11, 482, 36⟩)))) (pos := ⟨482, 4, 482, 36⟩))]
def sc_answer_take : Scope := { kind := PySem.ScopeKind.function, names := [ (PySem.Str.ofString "world", PySem.NameKind.local), (PySem.Str.ofString "numbers", PySem.NameKind.local), (PySem.Str.ofString "lists", PySem.NameKind.local), (PySem.Str.ofString "letter", PySem.NameKind.local)], isGenerator := false, isCoroutine := false, more := [] : PySem.Scope }
def d_answer_take : He.DefD := ⟨("answer_take", none), "answer_take", "answer_take", a_answer_take, b_answer_take, sc_answer_take, [], []⟩
abbrev n_answer_take : List Str := ["world", "numbers", "lists", "letter"]
abbrev p_answer_take : List Str := ["world", "numbers", "lists"]
theorem S_answer_take : FnScope n_answer_take p_answer_take sc_answer_take := ⟨rfl, rfl, rfl, by decide +kernel, rfl, by decide +kernel, by decide +kernel⟩
def a_answer_keep : Arguments := { posonlyargs := [], args := [ { arg := "world", annotation := none, pos := ⟨483, 16, 483, 21⟩ : PySem.Arg }, { arg := "numbers", annotation := none, pos := ⟨483, 23, 483, 30⟩ : PySem.Arg }, { arg := "lists", annotation := none, pos := ⟨483, 32, 483, 37⟩ : PySem.Arg }], vararg := none, kwonlyargs := [], kw_defaults := [], kwarg := none, defaults := [] : PySem.Arguments }
def b_answer_keep : List Stmt := [ (PySem.Stmt.If (test := (PySem.Expr.UnaryOp (op := PySem.UnaryOp.Not) (operand := (PySem.Expr.Call (func := (PySem.Expr.Attribute
  (value := (PySem.Expr.Attribute (PySem.Expr.Name "world" ⟨484, 11, 484, 16⟩) "net" ⟨484, 11, 484, 20⟩)) (attr := "has_letter") (pos := ⟨484, 11, 484, 31⟩))) (args := [ (PySem.Expr.Subscript
  (value := (PySem.Expr.Name "numbers" ⟨484, 32, 484, 39⟩)) (slice := (PySem.Expr.Constant (PySem.Const.int 0) 0 ⟨484, 40, 484, 41⟩)) (pos := ⟨484, 32, 484, 42⟩))]) (keywords := [])
  (pos := ⟨484, 11, 484, 43⟩))) (pos := ⟨484, 7, 484, 43⟩))) (body := [ (PySem.Stmt.Return (value := (some (PySem.Expr.List (elts := [ (PySem.Expr.UnaryOp (op := PySem.UnaryOp.USub)
  (operand := (PySem.Expr.Constant (PySem.Const.int 1) 0 ⟨485, 17, 485, 18⟩)) (pos := ⟨485, 16, 485, 18⟩))]) (pos := ⟨485, 15, 485, 19⟩)))) (pos := ⟨485, 8, 485, 19⟩))]) (orelse := [])
  (pos := ⟨484, 4, 485, 19⟩)), (PySem.Stmt.Return (value := (some (PySem.Expr.List (elts := [ (PySem.Expr.Call
  (func := (PySem.Expr.Attribute (PySem.Expr.Name "world" ⟨486, 12, 486, 17⟩) "hand_over" ⟨486, 12, 486, 27⟩)) (args := [ (PySem.Expr.Subscript (value := (PySem.Expr.Attribute
  (value := (PySem.Expr.Attribute (PySem.Expr.Name "world" ⟨486, 28, 486, 33⟩) "net" ⟨486, 28, 486, 37⟩)) (attr := "letters") (pos := ⟨486, 28, 486, 45⟩))) (slice := (PySem.Expr.Subscript
  (value := (PySem.Expr.Name "numbers" ⟨486, 46, 486, 53⟩)) (slice := (PySem.Expr.Constant (PySem.Const.int 0) 0 ⟨486, 54, 486, 55⟩)) (pos := ⟨486, 46, 486, 56⟩))) (pos := ⟨486, 28, 486, 57⟩))])
  (keywords := []) (pos := ⟨486, 12, 486, 58⟩))]) (pos := ⟨486, 11, 486, 59⟩)))) (pos := ⟨486, 4, 486, 59⟩))]
def sc_answer_keep : Scope := { kind := PySem.ScopeKind.function, names := [ (PySem.Str.ofString "world", PySem.NameKind.local), (PySem.Str.ofString "numbers", PySem.NameKind.local), (PySem.Str.ofString "lists", PySem.NameKind.local)], isGenerator := false, isCoroutine := false, more := [] : PySem.Scope }
def d_answer_keep : He.DefD := ⟨("answer_keep", none), "answer_keep", "answer_keep", a_answer_keep, b_answer_keep, sc_answer_keep, [], []⟩
abbrev n_answer_keep : List Str := ["world", "numbers", "lists"]
abbrev p_answer_keep : List Str := ["world", "numbers", "lists"]
theorem S_answer_keep : FnScope n_answer_keep p_answer_keep sc_answer_keep := ⟨rfl, rfl, rfl, by decide +kernel, rfl, by decide +kernel, by decide +kernel⟩
def a_answer_lose : Arguments := { posonlyargs := [], args := [ { arg := "world", annotation := none, pos := ⟨487, 16, 487, 21⟩ : PySem.Arg }, { arg := "numbers", annotation := none, pos := ⟨487, 23, 487, 30⟩ : PySem.Arg }, { arg := "lists", annotation := none, pos := ⟨487, 32, 487, 37⟩ : PySem.Arg }], vararg := none, kwonlyargs := [], kw_defaults := [], kwarg := none, defaults := [] : PySem.Arguments }
def b_answer_lose : List Stmt := [ (PySem.Stmt.If (test := (PySem.Expr.UnaryOp (op := PySem.UnaryOp.Not) (operand := (PySem.Expr.Call (func := (PySem.Expr.Attribute
  (value := (PySem.Expr.Attribute (PySem.Expr.Name "world" ⟨488, 11, 488, 16⟩) "net" ⟨488, 11, 488, 20⟩)) (attr := "has_letter") (pos := ⟨488, 11, 488, 31⟩))) (args := [ (PySem.Expr.Subscript
  (value := (PySem.Expr.Name "numbers" ⟨488, 32, 488, 39⟩)) (slice := (PySem.Expr.Constant (PySem.Const.int 0) 0 ⟨488, 40, 488, 41⟩)) (pos := ⟨488, 32, 488, 42⟩))]) (keywords := [])
  (pos := ⟨488, 11, 488, 43⟩))) (pos := ⟨488, 7, 488, 43⟩))) (body := [ (PySem.Stmt.Return (value := (some (PySem.Expr.List (elts := [ (PySem.Expr.UnaryOp (op := PySem.UnaryOp.USub)
  (operand := (PySem.Expr.Constant (PySem.Const.int 1) 0 ⟨489, 17, 489, 18⟩)) (pos := ⟨489, 16, 489, 18⟩))]) (pos := ⟨489, 15, 489, 19⟩)))) (pos := ⟨489, 8, 489, 19⟩))]) (orelse := [])
  (pos := ⟨488, 4, 489, 19⟩)), (PySem.Stmt.Expr (value := (PySem.Expr.Call (func := (PySem.Expr.Attribute
  (value := (PySem.Expr.Attribute (PySem.Expr.Name "world" ⟨490, 4, 490, 9⟩) "net" ⟨490, 4, 490, 13⟩)) (attr := "take_out") (pos := ⟨490, 4, 490, 22⟩))) (args := [ (PySem.Expr.Subscript
  (value := (PySem.Expr.Name "numbers" ⟨490, 23, 490, 30⟩)) (slice := (PySem.Expr.Constant (PySem.Const.int 0) 0 ⟨490, 31, 490, 32⟩)) (pos := ⟨490, 23, 490, 33⟩))]) (keywords := [])
  (pos := ⟨490, 4, 490, 34⟩))) (pos := ⟨490, 4, 490, 34⟩)), (PySem.Stmt.Return (value := (some (PySem.Expr.List [(PySem.Expr.Constant (PySem.Const.int 0) 0 ⟨491, 12, 491, 13⟩)] ⟨491, 11, 491, 14⟩)))
  (pos := ⟨491, 4, 491, 14⟩))]
def sc_answer_lose : Scope := { kind := PySem.ScopeKind.function, names := [ (PySem.Str.ofString "world", PySem.NameKind.local), (PySem.Str.ofString "numbers", PySem.NameKind.local), (PySem.Str.ofString "lists", PySem.NameKind.local)], isGenerator := false, isCoroutine := false, more := [] : PySem.Scope }
def d_answer_lose : He.DefD := ⟨("answer_lose", none), "answer_lose", "answer_lose", a_answer_lose, b_answer_lose, sc_answer_lose, [], []⟩
abbrev n_answer_lose : List Str := ["world", "numbers", "lists"]
abbrev p_answer_lose : List Str := ["world", "numbers", "lists"]
theorem S_answer_lose : FnScope n_answer_lose p_answer_lose sc_answer_lose := ⟨rfl, rfl, rfl, by decide +kernel, rfl, by decide +kernel, by decide +kernel⟩
def a_answer_letters : Arguments := { posonlyargs := [], args := [ { arg := "world", annotation := none, pos := ⟨492, 19, 492, 24⟩ : PySem.Arg }, { arg := "numbers", annotation := none, pos := ⟨492, 26, 492, 33⟩ : PySem.Arg }, { arg := "lists", annotation := none, pos := ⟨492, 35, 492, 40⟩ : PySem.Arg }], vararg := none, kwonlyargs := [], kw_defaults := [], kwarg := none, defaults := [] : PySem.Arguments }
def b_answer_letters : List Stmt := [ (PySem.Stmt.Return (value := (some (PySem.Expr.Call (func := (PySem.Expr.Name "tell_letters" ⟨493, 11, 493, 23⟩)) (args := [ (PySem.Expr.Attribute
  (value := (PySem.Expr.Attribute (PySem.Expr.Name "world" ⟨493, 24, 493, 29⟩) "net" ⟨493, 24, 493, 33⟩)) (attr := "letters") (pos := ⟨493, 24, 493, 41⟩))]) (keywords := [])
  (pos := ⟨493, 11, 493, 42⟩)))) (pos := ⟨493, 4, 493, 42⟩))]
def sc_answer_letters : Scope := { kind := PySem.ScopeKind.function, names := [ (PySem.Str.ofString "world", PySem.NameKind.local), (PySem.Str.ofString "numbers", PySem.NameKind.local), (PySem.Str.ofString "lists", PySem.NameKind.local), (PySem.Str.ofString "tell_letters", PySem.NameKind.globalImplicit)], isGenerator := false, isCoroutine := false, more := [] : PySem.Scope }
def d_answer_letters : He.DefD := ⟨("answer_letters", none), "answer_letters", "answer_letters", a_answer_letters, b_answer_letters, sc_answer_letters, [], []⟩
abbrev n_answer_letters : List Str := ["world", "numbers", "lists"]
abbrev p_answer_letters : List Str := ["world", "numbers", "lists"]
theorem S_answer_letters : FnScope n_answer_letters p_answer_letters sc_answer_letters := ⟨rfl, rfl, rfl, by decide +kernel, rfl, by decide +kernel, by decide +kernel⟩
def a_answer_client : Arguments := { posonlyargs := [], args := [ { arg := "world", annotation := none, pos := ⟨494, 18, 494, 23⟩ : PySem.Arg }, { arg := "numbers", annotation := none, pos := ⟨494, 25, 494, 32⟩ : PySem.Arg }, { arg := "lists", annotation := none, pos := ⟨494, 34, 494, 39⟩ : PySem.Arg }], vararg := none, kwonlyargs := [], kw_defaults := [], kwarg := none, defaults := [] : PySem.Arguments }
def b_answer_client : List Stmt := [ (PySem.Stmt.If (test := (PySem.Expr.UnaryOp (op := PySem.UnaryOp.Not) (operand := (PySem.Expr.Call
  (func := (PySem.Expr.Attribute (PySem.Expr.Name "world" ⟨495, 11, 495, 16⟩) "has_client" ⟨495, 11, 495, 27⟩)) (args := [ (PySem.Expr.Subscript (value := (PySem.Expr.Name "numbers" ⟨495, 28, 495, 35⟩))
  (slice := (PySem.Expr.Constant (PySem.Const.int 0) 0 ⟨495, 36, 495, 37⟩)) (pos := ⟨495, 28, 495, 38⟩))]) (keywords := []) (pos := ⟨495, 11, 495, 39⟩))) (pos := ⟨495, 7, 495, 39⟩))) (body := [
  (PySem.Stmt.Return (value := (some (PySem.Expr.List (elts := [ (PySem.Expr.UnaryOp (op := PySem.UnaryOp.USub) (operand := (PySem.Expr.Constant (PySem.Const.int 1) 0 ⟨496, 17, 496, 18⟩))
  (pos := ⟨496, 16, 496, 18⟩))]) (pos := ⟨496, 15, 496, 19⟩)))) (pos := ⟨496, 8, 496, 19⟩))]) (orelse := []) (pos := ⟨495, 4, 496, 19⟩)), (PySem.Stmt.Return (value := (some (PySem.Expr.Call
  (func := (PySem.Expr.Name "tell_client" ⟨497, 11, 497, 22⟩)) (args := [ (PySem.Expr.Subscript
  (value := (PySem.Expr.Attribute (PySem.Expr.Name "world" ⟨497, 23, 497, 28⟩) "clients" ⟨497, 23, 497, 36⟩)) (slice := (PySem.Expr.Subscript (value := (PySem.Expr.Name "numbers" ⟨497, 37, 497, 44⟩))
  (slice := (PySem.Expr.Constant (PySem.Const.int 0) 0 ⟨497, 45, 497, 46⟩)) (pos := ⟨497, 37, 497, 47⟩))) (pos := ⟨497, 23, 497, 48⟩))]) (keywords := []) (pos := ⟨497, 11, 497, 49⟩))))
  (pos := ⟨497, 4, 497, 49⟩))]
def sc_answer_client : Scope := { kind := PySem.ScopeKind.function, names := [ (PySem.Str.ofString "world", PySem.NameKind.local), (PySem.Str.ofString "numbers", PySem.NameKind.local), (PySem.Str.ofString "lists", PySem.NameKind.local), (PySem.Str.ofString "tell_client", PySem.NameKind.globalImplicit)], isGenerator := false, isCoroutine := false, more := [] : PySem.Scope }
def d_answer_client : He.DefD := ⟨("answer_client", none), "answer_client", "answer_client", a_answer_client, b_answer_client, sc_answer_client, [], []⟩
abbrev n_answer_client : List Str := ["world", "numbers", "lists"]
abbrev p_answer_client : List Str := ["world", "numbers", "lists"]
theorem S_answer_client : FnScope n_answer_client p_answer_client sc_answer_client := ⟨rfl, rfl, rfl, by decide +kernel, rfl, by decide +kernel, by decide +kernel⟩
def a_answer_house : Arguments := { posonlyargs := [], args := [ { arg := "world", annotation := none, pos := ⟨498, 17, 498, 22⟩ : PySem.Arg }, { arg := "numbers", annotation := none, pos := ⟨498, 24, 498, 31⟩ : PySem.Arg }, { arg := "lists", annotation := none, pos := ⟨498, 33, 498, 38⟩ : PySem.Arg }], vararg := none, kwonlyargs := [], kw_defaults := [], kwarg := none, defaults := [] : PySem.Arguments }
def b_answer_house : List Stmt := [ (PySem.Stmt.Return (value := (some (PySem.Expr.Call (func := (PySem.Expr.Name "tell_house" ⟨499, 11, 499, 21⟩))
  (args := [(PySem.Expr.Attribute (PySem.Expr.Name "world" ⟨499, 22, 499, 27⟩) "house" ⟨499, 22, 499, 33⟩)]) (keywords := []) (pos := ⟨499, 11, 499, 34⟩)))) (pos := ⟨499, 4, 499, 34⟩))]
def sc_answer_house : Scope := { kind := PySem.ScopeKind.function, names := [ (PySem.Str.ofString "world", PySem.NameKind.local), (PySem.Str.ofString "numbers", PySem.NameKind.local), (PySem.Str.ofString "lists", PySem.NameKind.local), (PySem.Str.ofString "tell_house", PySem.NameKind.globalImplicit)], isGenerator := false, isCoroutine := false, more := [] : PySem.Scope }
def d_answer_house : He.DefD := ⟨("answer_house", none), "answer_house", "answer_house", a_answer_house, b_answer_house, sc_answer_house, [], []⟩
abbrev n_answer_house : List Str := ["world", "numbers", "lists"]
abbrev p_answer_house : List Str := ["world", "numbers", "lists"]
theorem S_answer_house : FnScope n_answer_house p_answer_house sc_answer_house := ⟨rfl, rfl, rfl, by decide +kernel, rfl, by decide +kernel, by decide +kernel⟩
def a_answer_log : Arguments := { posonlyargs := [], args := [ { arg := "world", annotation := none, pos := ⟨500, 15, 500, 20⟩ : PySem.Arg }, { arg := "numbers", annotation := none, pos := ⟨500, 22, 500, 29⟩ : PySem.Arg }, { arg := "lists", annotation := none, pos := ⟨500, 31, 500, 36⟩ : PySem.Arg }], vararg := none, kwonlyargs := [], kw_defaults := [], kwarg := none, defaults := [] : PySem.Arguments }
def b_answer_log : List Stmt := [ (PySem.Stmt.Assign (targets := [(PySem.Expr.Name "house" ⟨501, 4, 501, 9⟩)]) (value := (PySem.Expr.Attribute (PySem.Expr.Name "world" ⟨501, 12, 501, 17⟩) "house" ⟨501, 12, 501, 23⟩))
  (pos := ⟨501, 4, 501, 23⟩)), (PySem.Stmt.If (test := (PySem.Expr.UnaryOp (op := PySem.UnaryOp.Not) (operand := (PySem.Expr.Call
  (func := (PySem.Expr.Attribute (PySem.Expr.Name "house" ⟨502, 11, 502, 16⟩) "has_turn" ⟨502, 11, 502, 25⟩)) (args := [ (PySem.Expr.Subscript (value := (PySem.Expr.Name "numbers" ⟨502, 26, 502, 33⟩))
  (slice := (PySem.Expr.Constant (PySem.Const.int 0) 0 ⟨502, 34, 502, 35⟩)) (pos := ⟨502, 26, 502, 36⟩))]) (keywords := []) (pos := ⟨502, 11, 502, 37⟩))) (pos := ⟨502, 7, 502, 37⟩))) (body := [
  (PySem.Stmt.Return (value := (some (PySem.Expr.List (elts := [ (PySem.Expr.UnaryOp (op := PySem.UnaryOp.USub) (operand := (PySem.Expr.Constant (PySem.Const.int 1) 0 ⟨503, 17, 503, 18⟩))
  (pos := ⟨503, 16, 503, 18⟩))]) (pos := ⟨503, 15, 503, 19⟩)))) (pos := ⟨503, 8, 503, 19⟩))]) (orelse := []) (pos := ⟨502, 4, 503, 19⟩)), (PySem.Stmt.If (test := (PySem.Expr.Compare
  (left := (PySem.Expr.Subscript (value := (PySem.Expr.Name "numbers" ⟨504, 7, 504, 14⟩)) (slice := (PySem.Expr.Constant (PySem.Const.int 0) 0 ⟨504, 15, 504, 16⟩)) (pos := ⟨504, 7, 504, 17⟩)))
  (ops := [PySem.CmpOp.LtE]) (comparators := [(PySem.Expr.Attribute (PySem.Expr.Name "house" ⟨504, 21, 504, 26⟩) "base" ⟨504, 21, 504, 31⟩)]) (pos := ⟨504, 7, 504, 31⟩))) (body := [ (PySem.Stmt.Return
  (value := (some (PySem.Expr.List (elts := [ (PySem.Expr.UnaryOp (op := PySem.UnaryOp.USub) (operand := (PySem.Expr.Constant (PySem.Const.int 2) 0 ⟨505, 17, 505, 18⟩)) (pos := ⟨505, 16, 505, 18⟩))])
  (pos := ⟨505, 15, 505, 19⟩)))) (pos := ⟨505, 8, 505, 19⟩))]) (orelse := []) (pos := ⟨504, 4, 505, 19⟩)), (PySem.Stmt.Return (value := (some (PySem.Expr.Call
  (func := (PySem.Expr.Name "tell_events" ⟨506, 11, 506, 22⟩)) (args := [ (PySem.Expr.Call (func := (PySem.Expr.Attribute (PySem.Expr.Name "house" ⟨506, 23, 506, 28⟩) "events_of" ⟨506, 23, 506, 38⟩))
  (args := [ (PySem.Expr.Subscript (value := (PySem.Expr.Name "numbers" ⟨506, 39, 506, 46⟩)) (slice := (PySem.Expr.Constant (PySem.Const.int 0) 0 ⟨506, 47, 506, 48⟩)) (pos := ⟨506, 39, 506, 49⟩))])
  (keywords := []) (pos := ⟨506, 23, 506, 50⟩))]) (keywords := []) (pos := ⟨506, 11, 506, 51⟩)))) (pos := ⟨506, 4, 506, 51⟩))]
def sc_answer_log : Scope := { kind := PySem.ScopeKind.function, names := [ (PySem.Str.ofString "world", PySem.NameKind.local), (PySem.Str.ofString "numbers", PySem.NameKind.local), (PySem.Str.ofString "lists", PySem.NameKind.local), (PySem.Str.ofString "house", PySem.NameKind.local), (PySem.Str.ofString "tell_events", PySem.NameKind.globalImplicit)], isGenerator := false, isCoroutine := false, more := [] : PySem.Scope }
def d_answer_log : He.DefD := ⟨("answer_log", none), "answer_log", "answer_log", a_answer_log, b_answer_log, sc_answer_log, [], []⟩
abbrev n_answer_log : List Str := ["world", "numbers", "lists", "house"]
abbrev p_answer_log : List Str := ["world", "numbers", "lists"]
theorem S_answer_log : FnScope n_answer_log p_answer_log sc_answer_log := ⟨rfl, rfl, rfl, by decide +kernel, rfl, by decide +kernel, by decide +kernel⟩
def a_answer_call : Arguments := { posonlyargs := [], args := [ { arg := "world", annotation := none, pos := ⟨508, 16, 508, 21⟩ : PySem.Arg }, { arg := "call", annotation := none, pos := ⟨508, 23, 508, 27⟩ : PySem.Arg }, { arg := "numbers", annotation := none, pos := ⟨508, 29, 508, 36⟩ : PySem.Arg }, { arg := "lists", annotation := none, pos := ⟨508, 38, 508, 43⟩ : PySem.Arg }], vararg := none, kwonlyargs := [], kw_defaults := [], kwarg := none, defaults := [] : PySem.Arguments }
def b_answer_call : List Stmt := [ (PySem.Stmt.Assign (targets := [(PySem.Expr.Name "answer" ⟨509, 4, 509, 10⟩)]) (value := (PySem.Expr.Subscript (value := (PySem.Expr.Name "CALLS" ⟨509, 13, 509, 18⟩))
  (slice := (PySem.Expr.Name "call" ⟨509, 19, 509, 23⟩)) (pos := ⟨509, 13, 509, 24⟩))) (pos := ⟨509, 4, 509, 24⟩)), (PySem.Stmt.Return (value := (some (PySem.Expr.Call
  (func := (PySem.Expr.Name "answer" ⟨510, 11, 510, 17⟩)) (args := [ (PySem.Expr.Name "world" ⟨510, 18, 510, 23⟩), (PySem.Expr.Name "numbers" ⟨510, 25, 510, 32⟩),
  (PySem.Expr.Name "lists" ⟨510, 34, 510, 39⟩)]) (keywords := []) (pos := ⟨510, 11, 510, 40⟩)))) (pos := ⟨510, 4, 510, 40⟩))]
def sc_answer_call : Scope := { kind := PySem.ScopeKind.function, names := [ (PySem.Str.ofString "world", PySem.NameKind.local), (PySem.Str.ofString "call", PySem.NameKind.local), (PySem.Str.ofString "numbers", PySem.NameKind.local), (PySem.Str.ofString "lists", PySem.NameKind.local), (PySem.Str.ofString "answer", PySem.NameKind.local), (PySem.Str.ofString "CALLS", PySem.NameKind.globalImplicit)], isGenerator := false, isCoroutine := false, more := [] : PySem.Scope }
def d_answer_call : He.DefD := ⟨("answer_call", none), "answer_call", "answer_call", a_answer_call, b_answer_call, sc_answer_call, [], []⟩
abbrev n_answer_call : List Str := ["world", "call", "numbers", "lists", "answer"]
abbrev p_answer_call : List Str := ["world", "call", "numbers", "lists"]
theorem S_answer_call : FnScope n_answer_call p_answer_call sc_answer_call := ⟨rfl, rfl, rfl, by decide +kernel, rfl, by decide +kernel, by decide +kernel⟩
def a_Reader_init : Arguments := { posonlyargs := [], args := [ { arg := "self", annotation := none, pos := ⟨516, 17, 516, 21⟩ : PySem.Arg }, { arg := "calls", annotation := none, pos := ⟨516, 23, 516, 28⟩ : PySem.Arg }], vararg := none, kwonlyargs := [], kw_defaults := [], kwarg := none, defaults := [] : PySem.Arguments }
def b_Reader_init : List Stmt := [ (PySem.Stmt.Assign (targets := [(PySem.Expr.Attribute (PySem.Expr.Name "self" ⟨517, 8, 517, 12⟩) "calls" ⟨517, 8, 517, 18⟩)]) (value := (PySem.Expr.Name "calls" ⟨517, 21, 517, 26⟩))
  (pos := ⟨517, 8, 517, 26⟩)), (PySem.Stmt.Assign (targets := [(PySem.Expr.Attribute (PySem.Expr.Name "self" ⟨518, 8, 518, 12⟩) "place" ⟨518, 8, 518, 18⟩)])
  (value := (PySem.Expr.Constant (PySem.Const.int 0) 0 ⟨518, 21, 518, 22⟩)) (pos := ⟨518, 8, 518, 22⟩))]
def sc_Reader_init : Scope := { kind := PySem.ScopeKind.function, names := [(PySem.Str.ofString "self", PySem.NameKind.local), (PySem.Str.ofString "calls", PySem.NameKind.local)], isGenerator := false, isCoroutine := false, more := [] : PySem.Scope }
def d_Reader_init : He.DefD := ⟨("Reader", some "__init__"), "__init__", "Reader.__init__", a_Reader_init, b_Reader_init, sc_Reader_init, [], []⟩
abbrev n_Reader_init : List Str := ["self", "calls"]
abbrev p_Reader_init : List Str := ["self", "calls"]
theorem S_Reader_init : FnScope n_Reader_init p_Reader_init sc_Reader_init := ⟨rfl, rfl, rfl, by decide +kernel, rfl, by decide +kernel, by decide +kernel⟩
def a_Reader_has_more : Arguments := { posonlyargs := [], args := [{ arg := "self", annotation := none, pos := ⟨520, 17, 520, 21⟩ : PySem.Arg }], vararg := none, kwonlyargs := [], kw_defaults := [], kwarg := none, defaults := [] : PySem.Arguments }
def b_Reader_has_more : List Stmt := [ (PySem.Stmt.Return (value := (some (PySem.Expr.Compare (left := (PySem.Expr.Attribute (PySem.Expr.Name "self" ⟨521, 15, 521, 19⟩) "place" ⟨521, 15, 521, 25⟩)) (ops := [PySem.CmpOp.Lt])
  (comparators := [ (PySem.Expr.Call (func := (PySem.Expr.Name "len" ⟨521, 28, 521, 31⟩)) (args := [(PySem.Expr.Attribute (PySem.Expr.Name "self" ⟨521, 32, 521, 36⟩) "calls" ⟨521, 32, 521, 42⟩)])
  (keywords := []) (pos := ⟨521, 28, 521, 43⟩))]) (pos := ⟨521, 15, 521, 43⟩)))) (pos := ⟨521, 8, 521, 43⟩))]
def sc_Reader_has_more : Scope := { kind := PySem.ScopeKind.function, names := [(PySem.Str.ofString "self", PySem.NameKind.local), (PySem.Str.ofString "len", PySem.NameKind.globalImplicit)], isGenerator := false, isCoroutine := false, more := [] : PySem.Scope }
def d_Reader_has_more : He.DefD := ⟨("Reader", some "has_more"), "has_more", "Reader.has_more", a_Reader_has_more, b_Reader_has_more, sc_Reader_has_more, [], []⟩
abbrev n_Reader_has_more : List Str := ["self"]
abbrev p_Reader_has_more : List Str := ["self"]
theorem S_Reader_has_more : FnScope n_Reader_has_more p_Reader_has_more sc_Reader_has_more := ⟨rfl, rfl, rfl, by decide +kernel, rfl, by decide +kernel, by decide +kernel⟩
def a_Reader_read_number : Arguments := { posonlyargs := [], args := [{ arg := "self", annotation := none, pos := ⟨523, 20, 523, 24⟩ : PySem.Arg }], vararg := none, kwonlyargs := [], kw_defaults := [], kwarg := none, defaults := [] : PySem.Arguments }
def b_Reader_read_number : List Stmt := [ (PySem.Stmt.Assign (targets := [(PySem.Expr.Name "number" ⟨524, 8, 524, 14⟩)]) (value := (PySem.Expr.Subscript
  (value := (PySem.Expr.Attribute (PySem.Expr.Name "self" ⟨524, 17, 524, 21⟩) "calls" ⟨524, 17, 524, 27⟩))
  (slice := (PySem.Expr.Attribute (PySem.Expr.Name "self" ⟨524, 28, 524, 32⟩) "place" ⟨524, 28, 524, 38⟩)) (pos := ⟨524, 17, 524, 39⟩))) (pos := ⟨524, 8, 524, 39⟩)), (PySem.Stmt.AugAssign
  (target := (PySem.Expr.Attribute (PySem.Expr.Name "self" ⟨525, 8, 525, 12⟩) "place" ⟨525, 8, 525, 18⟩)) (op := PySem.Operator.Add)
  (value := (PySem.Expr.Constant (PySem.Const.int 1) 0 ⟨525, 22, 525, 23⟩)) (pos := ⟨525, 8, 525, 23⟩)), (PySem.Stmt.Return (some (PySem.Expr.Name "number" ⟨526, 15, 526, 21⟩)) ⟨526, 8, 526, 21⟩)]
def sc_Reader_read_number : Scope := { kind := PySem.ScopeKind.function, names := [(PySem.Str.ofString "self", PySem.NameKind.local), (PySem.Str.ofString "number", PySem.NameKind.local)], isGenerator := false, isCoroutine := false, more := [] : PySem.Scope }
def d_Reader_read_number : He.DefD := ⟨("Reader", some "read_number"), "read_number", "Reader.read_number", a_Reader_read_number, b_Reader_read_number, sc_Reader_read_number, [], []⟩
abbrev n_Reader_read_number : List Str := ["self", "number"]
abbrev p_Reader_read_number : List Str := ["self"]
theorem S_Reader_read_number : FnScope n_Reader_read_number p_Reader_read_number sc_Reader_read_number := ⟨rfl, rfl, rfl, by decide +kernel, rfl, by decide +kernel, by decide +kernel⟩
def a_Reader_read_row : Arguments := { posonlyargs := [], args := [{ arg := "self", annotation := none, pos := ⟨528, 17, 528, 21⟩ : PySem.Arg }], vararg := none, kwonlyargs := [], kw_defaults := [], kwarg := none, defaults := [] : PySem.Arguments }
def b_Reader_read_row : List Stmt := [ (PySem.Stmt.Assign (targets := [(PySem.Expr.Name "row" ⟨529, 8, 529, 11⟩)]) (value := (PySem.Expr.List [] ⟨529, 14, 529, 16⟩)) (pos := ⟨529, 8, 529, 16⟩)), (PySem.Stmt.For
  (target := (PySem.Expr.Name "place" ⟨530, 12, 530, 17⟩)) (iter := (PySem.Expr.Call (func := (PySem.Expr.Name "range" ⟨530, 21, 530, 26⟩)) (args := [ (PySem.Expr.Call
  (func := (PySem.Expr.Attribute (PySem.Expr.Name "self" ⟨530, 27, 530, 31⟩) "read_number" ⟨530, 27, 530, 43⟩)) (args := []) (keywords := []) (pos := ⟨530, 27, 530, 45⟩))]) (keywords := [])
  (pos := ⟨530, 21, 530, 46⟩))) (body := [ (PySem.Stmt.Expr (value := (PySem.Expr.Call (func := (PySem.Expr.Attribute (PySem.Expr.Name "row" ⟨531, 12, 531, 15⟩) "append" ⟨531, 12, 531, 22⟩)) (args := [
  (PySem.Expr.Call (func := (PySem.Expr.Attribute (PySem.Expr.Name "self" ⟨531, 23, 531, 27⟩) "read_number" ⟨531, 23, 531, 39⟩)) (args := []) (keywords := []) (pos := ⟨531, 23, 531, 41⟩))])
  (keywords := []) (pos := ⟨531, 12, 531, 42⟩))) (pos := ⟨531, 12, 531, 42⟩))]) (orelse := []) (pos := ⟨530, 8, 531, 42⟩)),
  (PySem.Stmt.Return (some (PySem.Expr.Name "row" ⟨532, 15, 532, 18⟩)) ⟨532, 8, 532, 18⟩)]
def sc_Reader_read_row : Scope := { kind := PySem.ScopeKind.function, names := [ (PySem.Str.ofString "self", PySem.NameKind.local), (PySem.Str.ofString "row", PySem.NameKind.local), (PySem.Str.ofString "place", PySem.NameKind.local), (PySem.Str.ofString "range", PySem.NameKind.globalImplicit)], isGenerator := false, isCoroutine := false, more := [] : PySem.Scope }
def d_Reader_read_row : He.DefD := ⟨("Reader", some "read_row"), "read_row", "Reader.read_row", a_Reader_read_row, b_Reader_read_row, sc_Reader_read_row, [], []⟩
abbrev n_Reader_read_row : List Str := ["self", "row", "place"]
abbrev p_Reader_read_row : List Str := ["self"]
theorem S_Reader_read_row : FnScope n_Reader_read_row p_Reader_read_row sc_Reader_read_row := ⟨rfl, rfl, rfl, by decide +kernel, rfl, by decide +kernel, by decide +kernel⟩
def a_Reader_read_rows : Arguments := { posonlyargs := [], args := [{ arg := "self", annotation := none, pos := ⟨534, 18, 534, 22⟩ : PySem.Arg }], vararg := none, kwonlyargs := [], kw_defaults := [], kwarg := none, defaults := [] : PySem.Arguments }
def b_Reader_read_rows : List Stmt := [ (PySem.Stmt.Assign (targets := [(PySem.Expr.Name "rows" ⟨535, 8, 535, 12⟩)]) (value := (PySem.Expr.List [] ⟨535, 15, 535, 17⟩)) (pos := ⟨535, 8, 535, 17⟩)), (PySem.Stmt.For
  (target := (PySem.Expr.Name "place" ⟨536, 12, 536, 17⟩)) (iter := (PySem.Expr.Call (func := (PySem.Expr.Name "range" ⟨536, 21, 536, 26⟩)) (args := [ (PySem.Expr.Call
  (func := (PySem.Expr.Attribute (PySem.Expr.Name "self" ⟨536, 27, 536, 31⟩) "read_number" ⟨536, 27, 536, 43⟩)) (args := []) (keywords := []) (pos := ⟨536, 27, 536, 45⟩))]) (keywords := [])
  (pos := ⟨536, 21, 536, 46⟩))) (body := [ (PySem.Stmt.Expr (value := (PySem.Expr.Call (func := (PySem.Expr.Attribute (PySem.Expr.Name "rows" ⟨537, 12, 537, 16⟩) "append" ⟨537, 12, 537, 23⟩)) (args := [
  (PySem.Expr.Call (func := (PySem.Expr.Attribute (PySem.Expr.Name "self" ⟨537, 24, 537, 28⟩) "read_row" ⟨537, 24, 537, 37⟩)) (args := []) (keywords := []) (pos := ⟨537, 24, 537, 39⟩))])
  (keywords := []) (pos := ⟨537, 12, 537, 40⟩))) (pos := ⟨537, 12, 537, 40⟩))]) (orelse := []) (pos := ⟨536, 8, 537, 40⟩)),
  (PySem.Stmt.Return (some (PySem.Expr.Name "rows" ⟨538, 15, 538, 19⟩)) ⟨538, 8, 538, 19⟩)]
def sc_Reader_read_rows : Scope := { kind := PySem.ScopeKind.function, names := [ (PySem.Str.ofString "self", PySem.NameKind.local), (PySem.Str.ofString "rows", PySem.NameKind.local), (PySem.Str.ofString "place", PySem.NameKind.local), (PySem.Str.ofString "range", PySem.NameKind.globalImplicit)], isGenerator := false, isCoroutine := false, more := [] : PySem.Scope }
def d_Reader_read_rows : He.DefD := ⟨("Reader", some "read_rows"), "read_rows", "Reader.read_rows", a_Reader_read_rows, b_Reader_read_rows, sc_Reader_read_rows, [], []⟩
abbrev n_Reader_read_rows : List Str := ["self", "rows", "place"]
abbrev p_Reader_read_rows : List Str := ["self"]
theorem S_Reader_read_rows : FnScope n_Reader_read_rows p_Reader_read_rows sc_Reader_read_rows := ⟨rfl, rfl, rfl, by decide +kernel, rfl, by decide +kernel, by decide +kernel⟩
def a_Line_init : Arguments := { posonlyargs := [], args := [{ arg := "self", annotation := none, pos := ⟨541, 17, 541, 21⟩ : PySem.Arg }], vararg := none, kwonlyargs := [], kw_defaults := [], kwarg := none, defaults := [] : PySem.Arguments }
def b_Line_init : List Stmt := [ (PySem.Stmt.Assign (targets := [(PySem.Expr.Attribute (PySem.Expr.Name "self" ⟨542, 8, 542, 12⟩) "world" ⟨542, 8, 542, 18⟩)]) (value := (PySem.Expr.Constant PySem.Const.none 0 ⟨542, 21, 542, 25⟩))
  (pos := ⟨542, 8, 542, 25⟩))]
def sc_Line_init : Scope := { kind := PySem.ScopeKind.function, names := [(PySem.Str.ofString "self", PySem.NameKind.local)], isGenerator := false, isCoroutine := false, more := [] : PySem.Scope }
def d_Line_init : He.DefD := ⟨("Line", some "__init__"), "__init__", "Line.__init__", a_Line_init, b_Line_init, sc_Line_init, [], []⟩
abbrev n_Line_init : List Str := ["self"]
abbrev p_Line_init : List Str := ["self"]
theorem S_Line_init : FnScope n_Line_init p_Line_init sc_Line_init := ⟨rfl, rfl, rfl, by decide +kernel, rfl, by decide +kernel, by decide +kernel⟩
def a_Line_begin_world : Arguments := { posonlyargs := [], args := [ { arg := "self", annotation := none, pos := ⟨544, 20, 544, 24⟩ : PySem.Arg }, { arg := "life", annotation := none, pos := ⟨544, 26, 544, 30⟩ : PySem.Arg }], vararg := none, kwonlyargs := [], kw_defaults := [], kwarg := none, defaults := [] : PySem.Arguments }
def b_Line_begin_world : List Stmt := [ (PySem.Stmt.If (test := (PySem.Expr.Compare (left := (PySem.Expr.Name "life" ⟨545, 11, 545, 15⟩)) (ops := [PySem.CmpOp.Gt]) (comparators := [(PySem.Expr.Name "LONGEST_LIFE" ⟨545, 18, 545, 30⟩)])
  (pos := ⟨545, 11, 545, 30⟩))) (body := [ (PySem.Stmt.Return (value := (some (PySem.Expr.List (elts := [ (PySem.Expr.UnaryOp (op := PySem.UnaryOp.USub)
  (operand := (PySem.Expr.Constant (PySem.Const.int 1) 0 ⟨546, 21, 546, 22⟩)) (pos := ⟨546, 20, 546, 22⟩))]) (pos := ⟨546, 19, 546, 23⟩)))) (pos := ⟨546, 12, 546, 23⟩))]) (orelse := [])
  (pos := ⟨545, 8, 546, 23⟩)), (PySem.Stmt.Assign (targets := [(PySem.Expr.Attribute (PySem.Expr.Name "self" ⟨547, 8, 547, 12⟩) "world" ⟨547, 8, 547, 18⟩)]) (value := (PySem.Expr.Call
  (func := (PySem.Expr.Name "World" ⟨547, 21, 547, 26⟩)) (args := [(PySem.Expr.Name "life" ⟨547, 27, 547, 31⟩)]) (keywords := []) (pos := ⟨547, 21, 547, 32⟩))) (pos := ⟨547, 8, 547, 32⟩)),
  (PySem.Stmt.Return (value := (some (PySem.Expr.List [(PySem.Expr.Constant (PySem.Const.int 0) 0 ⟨548, 16, 548, 17⟩)] ⟨548, 15, 548, 18⟩))) (pos := ⟨548, 8, 548, 18⟩))]
def sc_Line_begin_world : Scope := { kind := PySem.ScopeKind.function, names := [ (PySem.Str.ofString "self", PySem.NameKind.local), (PySem.Str.ofString "life", PySem.NameKind.local), (PySem.Str.ofString "LONGEST_LIFE", PySem.NameKind.globalImplicit), (PySem.Str.ofString "World", PySem.NameKind.globalImplicit)], isGenerator := false, isCoroutine := false, more := [] : PySem.Scope }
def d_Line_begin_world : He.DefD := ⟨("Line", some "begin_world"), "begin_world", "Line.begin_world", a_Line_begin_world, b_Line_begin_world, sc_Line_begin_world, [], []⟩
abbrev n_Line_begin_world : List Str := ["self", "life"]
abbrev p_Line_begin_world : List Str := ["self", "life"]
theorem S_Line_begin_world : FnScope n_Line_begin_world p_Line_begin_world sc_Line_begin_world := ⟨rfl, rfl, rfl, by decide +kernel, rfl, by decide +kernel, by decide +kernel⟩
def a_Line_answer : Arguments := { posonlyargs := [], args := [ { arg := "self", annotation := none, pos := ⟨550, 15, 550, 19⟩ : PySem.Arg }, { arg := "call", annotation := none, pos := ⟨550, 21, 550, 25⟩ : PySem.Arg }, { arg := "numbers", annotation := none, pos := ⟨550, 27, 550, 34⟩ : PySem.Arg }, { arg := "lists", annotation := none, pos := ⟨550, 36, 550, 41⟩ : PySem.Arg }], vararg := none, kwonlyargs := [], kw_defaults := [], kwarg := none, defaults := [] : PySem.Arguments }
def b_Line_answer : List Stmt := [ (PySem.Stmt.If (test := (PySem.Expr.Compare (left := (PySem.Expr.Name "call" ⟨551, 11, 551, 15⟩)) (ops := [PySem.CmpOp.Eq]) (comparators := [(PySem.Expr.Name "BEGIN" ⟨551, 19, 551, 24⟩)])
  (pos := ⟨551, 11, 551, 24⟩))) (body := [ (PySem.Stmt.Return (value := (some (PySem.Expr.Call
  (func := (PySem.Expr.Attribute (PySem.Expr.Name "self" ⟨552, 19, 552, 23⟩) "begin_world" ⟨552, 19, 552, 35⟩)) (args := [ (PySem.Expr.Subscript (value := (PySem.Expr.Name "numbers" ⟨552, 36, 552, 43⟩))
  (slice := (PySem.Expr.Constant (PySem.Const.int 0) 0 ⟨552, 44, 552, 45⟩)) (pos := ⟨552, 36, 552, 46⟩))]) (keywords := []) (pos := ⟨552, 19, 552, 47⟩)))) (pos := ⟨552, 12, 552, 47⟩))]) (orelse := [])
  (pos := ⟨551, 8, 552, 47⟩)), (PySem.Stmt.If (test := (PySem.Expr.Compare (left := (PySem.Expr.Attribute (PySem.Expr.Name "self" ⟨553, 11, 553, 15⟩) "world" ⟨553, 11, 553, 21⟩))
  (ops := [PySem.CmpOp.Is]) (comparators := [(PySem.Expr.Constant PySem.Const.none 0 ⟨553, 25, 553, 29⟩)]) (pos := ⟨553, 11, 553, 29⟩))) (body := [ (PySem.Stmt.Return (value := (some (PySem.Expr.List
  (elts := [ (PySem.Expr.UnaryOp (op := PySem.UnaryOp.USub) (operand := (PySem.Expr.Constant (PySem.Const.int 9) 0 ⟨554, 21, 554, 22⟩)) (pos := ⟨554, 20, 554, 22⟩))]) (pos := ⟨554, 19, 554, 23⟩))))
  (pos := ⟨554, 12, 554, 23⟩))]) (orelse := []) (pos := ⟨553, 8, 554, 23⟩)), (PySem.Stmt.Return (value := (some (PySem.Expr.Call (func := (PySem.Expr.Name "answer_call" ⟨555, 15, 555, 26⟩)) (args := [
  (PySem.Expr.Attribute (PySem.Expr.Name "self" ⟨555, 27, 555, 31⟩) "world" ⟨555, 27, 555, 37⟩), (PySem.Expr.Name "call" ⟨555, 39, 555, 43⟩), (PySem.Expr.Name "numbers" ⟨555, 45, 555, 52⟩),
  (PySem.Expr.Name "lists" ⟨555, 54, 555, 59⟩)]) (keywords := []) (pos := ⟨555, 15, 555, 60⟩)))) (pos := ⟨555, 8, 555, 60⟩))]
def sc_Line_answer : Scope := { kind := PySem.ScopeKind.function, names := [ (PySem.Str.ofString "self", PySem.NameKind.local), (PySem.Str.ofString "call", PySem.NameKind.local), (PySem.Str.ofString "numbers", PySem.NameKind.local), (PySem.Str.ofString "lists", PySem.NameKind.local), (PySem.Str.ofString "BEGIN", PySem.NameKind.globalImplicit), (PySem.Str.ofString "answer_call", PySem.NameKind.globalImplicit)], isGenerator := false, isCoroutine := false, more := [] : PySem.Scope }
def d_Line_answer : He.DefD := ⟨("Line", some "answer"), "answer", "Line.answer", a_Line_answer, b_Line_answer, sc_Line_answer, [], []⟩
abbrev n_Line_answer : List Str := ["self", "call", "numbers", "lists"]
abbrev p_Line_answer : List Str := ["self", "call", "numbers", "lists"]
theorem S_Line_answer : FnScope n_Line_answer p_Line_answer sc_Line_answer := ⟨rfl, rfl, rfl, by decide +kernel, rfl, by decide +kernel, by decide +kernel⟩
def a_answers : Arguments := { posonlyargs := [], args := [{ arg := "calls", annotation := none, pos := ⟨556, 12, 556, 17⟩ : PySem.Arg }], vararg := none, kwonlyargs := [], kw_defaults := [], kwarg := none, defaults := [] : PySem.Arguments }
def b_answers : List Stmt := [ (PySem.Stmt.Assign (targets := [(PySem.Expr.Name "reader" ⟨557, 4, 557, 10⟩)]) (value := (PySem.Expr.Call (func := (PySem.Expr.Name "Reader" ⟨557, 13, 557, 19⟩))
  (args := [(PySem.Expr.Name "calls" ⟨557, 20, 557, 25⟩)]) (keywords := []) (pos := ⟨557, 13, 557, 26⟩))) (pos := ⟨557, 4, 557, 26⟩)), (PySem.Stmt.Assign
  (targets := [(PySem.Expr.Name "line" ⟨558, 4, 558, 8⟩)]) (value := (PySem.Expr.Call (PySem.Expr.Name "Line" ⟨558, 11, 558, 15⟩) [] [] ⟨558, 11, 558, 17⟩)) (pos := ⟨558, 4, 558, 17⟩)),
  (PySem.Stmt.Assign (targets := [(PySem.Expr.Name "told" ⟨559, 4, 559, 8⟩)]) (value := (PySem.Expr.List [] ⟨559, 11, 559, 13⟩)) (pos := ⟨559, 4, 559, 13⟩)), (PySem.Stmt.While (test := (PySem.Expr.Call
  (func := (PySem.Expr.Attribute (PySem.Expr.Name "reader" ⟨560, 10, 560, 16⟩) "has_more" ⟨560, 10, 560, 25⟩)) (args := []) (keywords := []) (pos := ⟨560, 10, 560, 27⟩))) (body := [ (PySem.Stmt.Assign
  (targets := [(PySem.Expr.Name "call" ⟨561, 8, 561, 12⟩)]) (value := (PySem.Expr.Call (func := (PySem.Expr.Attribute (PySem.Expr.Name "reader" ⟨561, 15, 561, 21⟩) "read_number" ⟨561, 15, 561, 33⟩))
  (args := []) (keywords := []) (pos := ⟨561, 15, 561, 35⟩))) (pos := ⟨561, 8, 561, 35⟩)), (PySem.Stmt.Assign (targets := [(PySem.Expr.Name "numbers" ⟨562, 8, 562, 15⟩)]) (value := (PySem.Expr.Call
  (func := (PySem.Expr.Attribute (PySem.Expr.Name "reader" ⟨562, 18, 562, 24⟩) "read_row" ⟨562, 18, 562, 33⟩)) (args := []) (keywords := []) (pos := ⟨562, 18, 562, 35⟩))) (pos := ⟨562, 8, 562, 35⟩)),
  (PySem.Stmt.Assign (targets := [(PySem.Expr.Name "lists" ⟨563, 8, 563, 13⟩)]) (value := (PySem.Expr.Call
  (func := (PySem.Expr.Attribute (PySem.Expr.Name "reader" ⟨563, 16, 563, 22⟩) "read_rows" ⟨563, 16, 563, 32⟩)) (args := []) (keywords := []) (pos := ⟨563, 16, 563, 34⟩))) (pos := ⟨563, 8, 563, 34⟩)),
  (PySem.Stmt.Assign (targets := [(PySem.Expr.Name "answer" ⟨564, 8, 564, 14⟩)]) (value := (PySem.Expr.Call
  (func := (PySem.Expr.Attribute (PySem.Expr.Name "line" ⟨564, 17, 564, 21⟩) "answer" ⟨564, 17, 564, 28⟩)) (args := [ (PySem.Expr.Name "call" ⟨564, 29, 564, 33⟩),
  (PySem.Expr.Name "numbers" ⟨564, 35, 564, 42⟩), (PySem.Expr.Name "lists" ⟨564, 44, 564, 49⟩)]) (keywords := []) (pos := ⟨564, 17, 564, 50⟩))) (pos := ⟨564, 8, 564, 50⟩)), (PySem.Stmt.Expr
  (value := (PySem.Expr.Call (func := (PySem.Expr.Attribute (PySem.Expr.Name "told" ⟨565, 8, 565, 12⟩) "append" ⟨565, 8, 565, 19⟩)) (args := [ (PySem.Expr.Call
  (func := (PySem.Expr.Name "len" ⟨565, 20, 565, 23⟩)) (args := [(PySem.Expr.Name "answer" ⟨565, 24, 565, 30⟩)]) (keywords := []) (pos := ⟨565, 20, 565, 31⟩))]) (keywords := [])
  (pos := ⟨565, 8, 565, 32⟩))) (pos := ⟨565, 8, 565, 32⟩)), (PySem.Stmt.Expr (value := (PySem.Expr.Call
  (func := (PySem.Expr.Attribute (PySem.Expr.Name "told" ⟨566, 8, 566, 12⟩) "extend" ⟨566, 8, 566, 19⟩)) (args := [(PySem.Expr.Name "answer" ⟨566, 20, 566, 26⟩)]) (keywords := [])
  (pos := ⟨566, 8, 566, 27⟩))) (pos := ⟨566, 8, 566, 27⟩))]) (orelse := []) (pos := ⟨560, 4, 566, 27⟩)), (PySem.Stmt.Return (some (PySem.Expr.Name "told" ⟨567, 11, 567, 15⟩)) ⟨567, 4, 567, 15⟩)]
def sc_answers : Scope := { kind := PySem.ScopeKind.function, names := [ (PySem.Str.ofString "calls", PySem.NameKind.local), (PySem.Str.ofString "reader", PySem.NameKind.local), (PySem.Str.ofString "line", PySem.NameKind.local), (PySem.Str.ofString "told", PySem.NameKind.local), (PySem.Str.ofString "call", PySem.NameKind.local), (PySem.Str.ofString "numbers", PySem.NameKind.local), (PySem.Str.ofString "lists", PySem.NameKind.local), (PySem.Str.ofString "answer", PySem.NameKind.local), (PySem.Str.ofString "Reader", PySem.NameKind.globalImplicit), (PySem.Str.ofString "Line", PySem.NameKind.globalImplicit), (PySem.Str.ofString "len", PySem.NameKind.globalImplicit)], isGenerator := false, isCoroutine := false, more := [] : PySem.Scope }
def d_answers : He.DefD := ⟨("answers", none), "answers", "answers", a_answers, b_answers, sc_answers, [], []⟩
abbrev n_answers : List Str := ["calls", "reader", "line", "told", "call", "numbers", "lists", "answer"]
abbrev p_answers : List Str := ["calls"]
theorem S_answers : FnScope n_answers p_answers sc_answers := ⟨rfl, rfl, rfl, by decide +kernel, rfl, by decide +kernel, by decide +kernel⟩
def fn : List He.DefD := [d_Event_init, d_Letter_init, d_Net_init, d_Net_send, d_Net_has_letter, d_Net_take_out, d_asking_letter, d_news_letter, d_picture_letter, d_Client_init, d_Client_forget_copy, d_Client_watches, d_Client_start_watch, d_Client_ask_house, d_Client_goes_up_to, d_Client_hear_news, d_Client_go_on, d_Client_see_picture, d_Client_entries_in_order, d_is_path_or_empty, d_is_path, d_is_below, d_Node_init, d_Watcher_init, d_House_init, d_House_last_turn, d_House_has_turn, d_House_events_of, d_House_lasts, d_House_start_session, d_House_see_session, d_House_end_session, d_House_pass_time, d_House_end_turn, d_House_tell_watcher, d_House_hear_asking, d_House_has_later_watcher, d_House_can_tell_from, d_House_tell_from, d_House_show_picture, d_House_put_last, d_Order_init, d_is_order, d_are_orders, d_why_not, d_why_not_make, d_why_not_under, d_why_not_set_or_drop, d_has_others_below, d_why_not_check, d_do_order, d_copy_nodes, d_do_together, d_tell_turn, d_tell_row, d_tell_events, d_tell_entries, d_tell_letter, d_tell_letters, d_tell_client, d_tell_sessions, d_tell_watchers, d_tell_house, d_World_init, d_World_has_client, d_World_hand_over, d_answer_open, d_answer_close, d_answer_touch, d_answer_tick, d_answer_together, d_answer_get, d_answer_list, d_answer_watch, d_answer_ask, d_answer_compact, d_answer_take, d_answer_keep, d_answer_lose, d_answer_letters, d_answer_client, d_answer_house, d_answer_log, d_answer_call, d_Reader_init, d_Reader_has_more, d_Reader_read_number, d_Reader_read_row, d_Reader_read_rows, d_Line_init, d_Line_begin_world, d_Line_answer, d_answers]
def fa0 : List He.Fa := [.int "GONE" (0), .int "MADE" (1), .int "CHANGED" (2), .glo "Event", .int "ASKS" (0), .int "NEWS" (1), .int "PICTURE" (2), .int "NO_USE" (0), .int "NEWS_SENT" (1), .int "PICTURE_SENT" (2), .int "COPY_GOES_ON" (3), .int "HAS_PICTURE" (4), .int "LACKS_SOMETHING" (5), .int "ROOM" (100), .glo "Letter", .glo "Net", .glo "asking_letter", .glo "news_letter", .glo "picture_letter", .glo "Client", .int "LONGEST" (3), .int "GREATEST" (9), .glo "is_path_or_empty", .glo "is_path", .glo "is_below", .glo "Node", .glo "Watcher", .glo "House", .int "MAKE" (0), .int "SET" (1)]
def fa1 : List He.Fa := [.int "DROP" (2), .int "CHECK" (3), .int "CAN_BE_DONE" (0), .int "NO_NODE" (1), .int "NODE_THERE" (2), .int "NOTHING_ABOVE" (3), .int "HELD_ABOVE" (4), .int "NODE_BELOW" (5), .int "OTHER_VERSION" (6), .int "NO_SESSION" (7), .int "NO_ROOM" (8), .int "MOST_NODES" (20), .int "MOST_ORDERS" (6), .int "MOST_VALUE" (99), .glo "Order", .glo "is_order", .glo "are_orders", .glo "why_not", .glo "why_not_make", .glo "why_not_under", .glo "why_not_set_or_drop", .glo "has_others_below", .glo "why_not_check", .glo "do_order", .glo "copy_nodes", .glo "do_together", .int "NONE" (-1), .glo "tell_turn", .glo "tell_row", .glo "tell_events"]
def fa2 : List He.Fa := [.glo "tell_entries", .glo "tell_letter", .glo "tell_letters", .glo "tell_client", .glo "tell_sessions", .glo "tell_watchers", .glo "tell_house", .int "CLIENTS" (3), .int "LATEST" (9999), .glo "World", .glo "answer_open", .glo "answer_close", .glo "answer_touch", .glo "answer_tick", .glo "answer_together", .glo "answer_get", .glo "answer_list", .glo "answer_watch", .glo "answer_ask", .glo "answer_compact", .glo "answer_take", .glo "answer_keep", .glo "answer_lose", .glo "answer_letters", .glo "answer_client", .glo "answer_house", .glo "answer_log", .glo "CALLS", .glo "answer_call", .int "BEGIN" (0)]
def fa3 : List He.Fa := [.int "LONGEST_LIFE" (999), .glo "Reader", .glo "Line", .glo "answers", .cls "Event", .mkr "Event", .noat "Event" "what", .noat "Event" "value", .noat "Event" "path", .cls "Letter", .mkr "Letter", .noat "Letter" "kind", .noat "Letter" "client", .noat "Letter" "number", .noat "Letter" "path", .noat "Letter" "behind", .noat "Letter" "turn", .noat "Letter" "events", .noat "Letter" "entries", .cls "Net", .mkr "Net", .noat "Net" "letters", .meth "Net" "send", .meth "Net" "has_letter", .meth "Net" "take_out", .cls "Client", .mkr "Client", .noat "Client" "client", .noat "Client" "number", .noat "Client" "path"]
def fa4 : List He.Fa := [.noat "Client" "up_to", .noat "Client" "since", .noat "Client" "copied", .noat "Client" "events_had", .noat "Client" "pictures_had", .meth "Client" "forget_copy", .meth "Client" "watches", .meth "Client" "start_watch", .meth "Client" "ask_house", .meth "Client" "goes_up_to", .meth "Client" "hear_news", .meth "Client" "go_on", .meth "Client" "see_picture", .meth "Client" "entries_in_order", .cls "Node", .mkr "Node", .noat "Node" "value", .noat "Node" "version", .noat "Node" "made", .noat "Node" "changed", .noat "Node" "held", .cls "Watcher", .mkr "Watcher", .noat "Watcher" "client", .noat "Watcher" "number", .noat "Watcher" "path", .noat "Watcher" "last", .cls "House", .mkr "House", .noat "House" "life"]
def fa5 : List He.Fa := [.noat "House" "net", .noat "House" "time", .noat "House" "opened", .noat "House" "seen", .noat "House" "nodes", .noat "House" "turns", .noat "House" "base", .noat "House" "watchers", .meth "House" "last_turn", .meth "House" "has_turn", .meth "House" "events_of", .meth "House" "lasts", .meth "House" "start_session", .meth "House" "see_session", .meth "House" "end_session", .meth "House" "pass_time", .meth "House" "end_turn", .meth "House" "tell_watcher", .meth "House" "hear_asking", .meth "House" "has_later_watcher", .meth "House" "can_tell_from", .meth "House" "tell_from", .meth "House" "show_picture", .meth "House" "put_last", .cls "Order", .mkr "Order", .noat "Order" "kind", .noat "Order" "version", .noat "Order" "value", .noat "Order" "session"]
def fa6 : List He.Fa := [.noat "Order" "path", .cls "World", .mkr "World", .noat "World" "net", .noat "World" "house", .noat "World" "clients", .meth "World" "has_client", .meth "World" "hand_over", .cls "Reader", .mkr "Reader", .noat "Reader" "calls", .noat "Reader" "place", .meth "Reader" "has_more", .meth "Reader" "read_number", .meth "Reader" "read_row", .meth "Reader" "read_rows", .cls "Line", .mkr "Line", .noat "Line" "world", .meth "Line" "begin_world", .meth "Line" "answer", .free "len", .free "sorted", .free "list", .free "tuple", .free "range", .free "enumerate", .free "max", .free "all", .free "any"]
def fa : List He.Fa := fa0 ++ fa1 ++ fa2 ++ fa3 ++ fa4 ++ fa5 ++ fa6
def names0 : List PySem.Str := ["__name__", "GONE", "MADE", "CHANGED", "Event", "ASKS", "NEWS", "PICTURE", "NO_USE", "NEWS_SENT", "PICTURE_SENT", "COPY_GOES_ON", "HAS_PICTURE", "LACKS_SOMETHING", "ROOM", "Letter", "Net", "asking_letter", "news_letter", "picture_letter", "Client", "LONGEST", "GREATEST", "is_path_or_empty", "is_path", "is_below", "Node", "Watcher", "House", "MAKE"]
def names1 : List PySem.Str := ["SET", "DROP", "CHECK", "CAN_BE_DONE", "NO_NODE", "NODE_THERE", "NOTHING_ABOVE", "HELD_ABOVE", "NODE_BELOW", "OTHER_VERSION", "NO_SESSION", "NO_ROOM", "MOST_NODES", "MOST_ORDERS", "MOST_VALUE", "Order", "is_order", "are_orders", "why_not", "why_not_make", "why_not_under", "why_not_set_or_drop", "has_others_below", "why_not_check", "do_order", "copy_nodes", "do_together", "NONE", "tell_turn", "tell_row"]
def names2 : List PySem.Str := ["tell_events", "tell_entries", "tell_letter", "tell_letters", "tell_client", "tell_sessions", "tell_watchers", "tell_house", "CLIENTS", "LATEST", "World", "answer_open", "answer_close", "answer_touch", "answer_tick", "answer_together", "answer_get", "answer_list", "answer_watch", "answer_ask", "answer_compact", "answer_take", "answer_keep", "answer_lose", "answer_letters", "answer_client", "answer_house", "answer_log", "CALLS", "answer_call"]
def names3 : List PySem.Str := ["BEGIN", "LONGEST_LIFE", "Reader", "Line"]
def names : List PySem.Str := names0 ++ names1 ++ names2 ++ names3
abbrev R : PySem.W.OpenSpec := PySem.Challenge.rw_watchedtree_s01_answers
abbrev qv : Program := PySem.W.view Prog [102]
def tab_CALLS : List (Int × PySem.Str) := [(1, "answer_open"), (2, "answer_close"), (3, "answer_touch"), (4, "answer_tick"), (5, "answer_together"), (6, "answer_get"), (7, "answer_list"), (8, "answer_watch"), (9, "answer_ask"), (10, "answer_compact"), (11, "answer_take"), (12, "answer_keep"), (13, "answer_lose"), (14, "answer_letters"), (15, "answer_client"), (16, "answer_house"), (17, "answer_log")]
def exB (K : PySem.W.Frag) : Bool := tabB K "CALLS" tab_CALLS && true
def asL0 : List Addr := [3, 6, 4, 31, 52, 94, 105, 112, 119, 197, 206, 213, 220, 237, 258, 381, 402, 413, 418, 425, 432, 439, 446, 451, 458, 465, 472, 479, 486, 493, 500, 507, 514, 521, 528, 535, 542, 549, 578, 589]
def asL1 : List Addr := [596, 603, 610, 615, 622, 627, 634, 641, 648, 655, 662, 669, 676, 683, 690, 697, 698, 705, 750, 785, 796, 0, 30, 51, 93, 104, 111, 118, 196, 205, 212, 219, 236, 257, 380, 401, 412, 417, 424, 431]
def asL2 : List Addr := [438, 445, 450, 457, 464, 471, 478, 485, 492, 499, 506, 513, 520, 527, 534, 541, 548, 577, 588, 595, 602, 609, 614, 621, 626, 633, 640, 647, 654, 661, 668, 675, 682, 689, 696, 704, 749, 784, 795, 28]
def asL3 : List Addr := [29, 32, 33, 49, 50, 53, 54, 70, 77, 84, 91, 92, 95, 96, 99, 100, 101, 102, 103, 106, 107, 108, 109, 110, 113, 114, 115, 116, 117, 133, 140, 147, 154, 161, 168, 175, 182, 189, 194, 195]
def asL4 : List Addr := [198, 199, 202, 203, 204, 207, 208, 209, 210, 211, 214, 215, 216, 217, 218, 234, 235, 238, 239, 255, 256, 259, 260, 276, 283, 290, 297, 304, 311, 318, 323, 330, 337, 342, 349, 354, 361, 368, 373, 378]
def asL5 : List Addr := [379, 382, 383, 399, 400, 403, 404, 407, 408, 409, 410, 411, 414, 415, 416, 419, 420, 421, 422, 423, 426, 427, 428, 429, 430, 433, 434, 435, 436, 437, 440, 441, 442, 443, 444, 447, 448, 449, 452, 453]
def asL6 : List Addr := [454, 455, 456, 459, 460, 461, 462, 463, 466, 467, 468, 469, 470, 473, 474, 475, 476, 477, 480, 481, 482, 483, 484, 487, 488, 489, 490, 491, 494, 495, 496, 497, 498, 501, 502, 503, 504, 505, 508, 509]
def asL7 : List Addr := [510, 511, 512, 515, 516, 517, 518, 519, 522, 523, 524, 525, 526, 529, 530, 531, 532, 533, 536, 537, 538, 539, 540, 543, 544, 545, 546, 547, 561, 568, 575, 576, 579, 580, 583, 584, 585, 586, 587, 590]
def asL8 : List Addr := [591, 592, 593, 594, 597, 598, 599, 600, 601, 604, 605, 606, 607, 608, 611, 612, 613, 616, 617, 618, 619, 620, 623, 624, 625, 628, 629, 630, 631, 632, 635, 636, 637, 638, 639, 642, 643, 644, 645, 646]
def asL9 : List Addr := [649, 650, 651, 652, 653, 656, 657, 658, 659, 660, 663, 664, 665, 666, 667, 670, 671, 672, 673, 674, 677, 678, 679, 680, 681, 684, 685, 686, 687, 688, 691, 692, 693, 694, 695, 699, 700, 701, 702, 703]
def asL10 : List Addr := [719, 726, 733, 740, 747, 748, 751, 752, 768, 775, 782, 783, 786, 787, 790, 791, 792, 793, 794, 27, 48, 69, 76, 83, 90, 132, 139, 146, 153, 160, 167, 174, 181, 188, 193, 233, 254, 275, 282, 289]
def asL11 : List Addr := [296, 303, 310, 317, 322, 329, 336, 341, 348, 353, 360, 367, 372, 377, 398, 560, 567, 574, 718, 725, 732, 739, 746, 767, 774, 781, 22, 23, 24, 25, 26, 43, 44, 45, 46, 47, 64, 65, 66, 67]
def asL12 : List Addr := [68, 71, 72, 73, 74, 75, 78, 79, 80, 81, 82, 85, 86, 87, 88, 89, 127, 128, 129, 130, 131, 134, 135, 136, 137, 138, 141, 142, 143, 144, 145, 148, 149, 150, 151, 152, 155, 156, 157, 158]
def asL13 : List Addr := [159, 162, 163, 164, 165, 166, 169, 170, 171, 172, 173, 176, 177, 178, 179, 180, 183, 184, 185, 186, 187, 190, 191, 192, 228, 229, 230, 231, 232, 249, 250, 251, 252, 253, 270, 271, 272, 273, 274, 277]
def asL14 : List Addr := [278, 279, 280, 281, 284, 285, 286, 287, 288, 291, 292, 293, 294, 295, 298, 299, 300, 301, 302, 305, 306, 307, 308, 309, 312, 313, 314, 315, 316, 319, 320, 321, 324, 325, 326, 327, 328, 331, 332, 333]
def asL15 : List Addr := [334, 335, 338, 339, 340, 343, 344, 345, 346, 347, 350, 351, 352, 355, 356, 357, 358, 359, 362, 363, 364, 365, 366, 369, 370, 371, 374, 375, 376, 393, 394, 395, 396, 397, 557, 558, 559, 562, 563, 564]
def asL16 : List Addr := [565, 566, 569, 570, 571, 572, 573, 713, 714, 715, 716, 717, 720, 721, 722, 723, 724, 727, 728, 729, 730, 731, 734, 735, 736, 737, 738, 741, 742, 743, 744, 745, 762, 763, 764, 765, 766, 769, 770, 771]
def asL17 : List Addr := [772, 773, 776, 777, 778, 779, 780]
/-- what the names reach of the heap behind the head -/
def asL : List Addr := asL0 ++ (asL1 ++ (asL2 ++ (asL3 ++ (asL4 ++ (asL5 ++ (asL6 ++ (asL7 ++ (asL8 ++ (asL9 ++ (asL10 ++ (asL11 ++ (asL12 ++ (asL13 ++ (asL14 ++ (asL15 ++ (asL16 ++ (asL17)))))))))))))))))
abbrev hk : PySem.W.Hook := hookY asL fa fn exB
def ob (s : PySem.W.SharedT) : He.AlD × Bool := (He.obsD fa fn (He.frT (HeadRun.getT s) asL), exB (He.frT (HeadRun.getT s) asL))
theorem ob_eq (s : PySem.W.SharedT) : ob s = hk.obs s.abs := by
  have e : HeadRun.getT s = s.abs.heap.get? := funext (HeadRun.getT_eq s)
  unfold ob
  rw [e]; rfl
def dA : DefRec := HeadRun.topDef Prog 102
/-- what the head tells of the written part and of the module's names -/
structure Tx (K : PySem.W.Frag) (mg : Str → Option Value) : Prop where
  ex : ∃ h : Heap, K.In h ∧ h.Ns mainGlobals mg
  says : He.SaysD fa fn K
  more : exB K = true
noncomputable def Tx.h {K : PySem.W.Frag} {mg : Str → Option Value} (T : Tx K mg) : Heap := Classical.choose T.ex
theorem Tx.kin {K : PySem.W.Frag} {mg : Str → Option Value} (T : Tx K mg) : K.In T.h := (Classical.choose_spec T.ex).1
theorem Tx.ns {K : PySem.W.Frag} {mg : Str → Option Value} (T : Tx K mg) : T.h.Ns mainGlobals mg := (Classical.choose_spec T.ex).2
section
variable {K : PySem.W.Frag} {mg : Str → Option Value}
theorem Tx.int_GONE (T : Tx K mg) : ∃ t, mg "GONE" = some (.int (0) t) := He.int_ok T.kin T.ns (T.says.fact 0 (f := .int "GONE" (0)) rfl)
theorem Tx.int_MADE (T : Tx K mg) : ∃ t, mg "MADE" = some (.int (1) t) := He.int_ok T.kin T.ns (T.says.fact 1 (f := .int "MADE" (1)) rfl)
theorem Tx.int_CHANGED (T : Tx K mg) : ∃ t, mg "CHANGED" = some (.int (2) t) := He.int_ok T.kin T.ns (T.says.fact 2 (f := .int "CHANGED" (2)) rfl)
theorem Tx.glo_Event (T : Tx K mg) : mg "Event" = some (.ref (He.ga K "Event")) := He.glo_ok T.kin T.ns (T.says.fact 3 (f := .glo "Event") rfl)
theorem Tx.int_ASKS (T : Tx K mg) : ∃ t, mg "ASKS" = some (.int (0) t) := He.int_ok T.kin T.ns (T.says.fact 4 (f := .int "ASKS" (0)) rfl)
theorem Tx.int_NEWS (T : Tx K mg) : ∃ t, mg "NEWS" = some (.int (1) t) := He.int_ok T.kin T.ns (T.says.fact 5 (f := .int "NEWS" (1)) rfl)
theorem Tx.int_PICTURE (T : Tx K mg) : ∃ t, mg "PICTURE" = some (.int (2) t) := He.int_ok T.kin T.ns (T.says.fact 6 (f := .int "PICTURE" (2)) rfl)
theorem Tx.int_NO_USE (T : Tx K mg) : ∃ t, mg "NO_USE" = some (.int (0) t) := He.int_ok T.kin T.ns (T.says.fact 7 (f := .int "NO_USE" (0)) rfl)
theorem Tx.int_NEWS_SENT (T : Tx K mg) : ∃ t, mg "NEWS_SENT" = some (.int (1) t) := He.int_ok T.kin T.ns (T.says.fact 8 (f := .int "NEWS_SENT" (1)) rfl)
theorem Tx.int_PICTURE_SENT (T : Tx K mg) : ∃ t, mg "PICTURE_SENT" = some (.int (2) t) := He.int_ok T.kin T.ns (T.says.fact 9 (f := .int "PICTURE_SENT" (2)) rfl)
theorem Tx.int_COPY_GOES_ON (T : Tx K mg) : ∃ t, mg "COPY_GOES_ON" = some (.int (3) t) := He.int_ok T.kin T.ns (T.says.fact 10 (f := .int "COPY_GOES_ON" (3)) rfl)
theorem Tx.int_HAS_PICTURE (T : Tx K mg) : ∃ t, mg "HAS_PICTURE" = some (.int (4) t) := He.int_ok T.kin T.ns (T.says.fact 11 (f := .int "HAS_PICTURE" (4)) rfl)
theorem Tx.int_LACKS_SOMETHING (T : Tx K mg) : ∃ t, mg "LACKS_SOMETHING" = some (.int (5) t) := He.int_ok T.kin T.ns (T.says.fact 12 (f := .int "LACKS_SOMETHING" (5)) rfl)
theorem Tx.int_ROOM (T : Tx K mg) : ∃ t, mg "ROOM" = some (.int (100) t) := He.int_ok T.kin T.ns (T.says.fact 13 (f := .int "ROOM" (100)) rfl)
theorem Tx.glo_Letter (T : Tx K mg) : mg "Letter" = some (.ref (He.ga K "Letter")) := He.glo_ok T.kin T.ns (T.says.fact 14 (f := .glo "Letter") rfl)
theorem Tx.glo_Net (T : Tx K mg) : mg "Net" = some (.ref (He.ga K "Net")) := He.glo_ok T.kin T.ns (T.says.fact 15 (f := .glo "Net") rfl)
theorem Tx.glo_asking_letter (T : Tx K mg) : mg "asking_letter" = some (.ref (He.ga K "asking_letter")) := He.glo_ok T.kin T.ns (T.says.fact 16 (f := .glo "asking_letter") rfl)
theorem Tx.glo_news_letter (T : Tx K mg) : mg "news_letter" = some (.ref (He.ga K "news_letter")) := He.glo_ok T.kin T.ns (T.says.fact 17 (f := .glo "news_letter") rfl)
theorem Tx.glo_picture_letter (T : Tx K mg) : mg "picture_letter" = some (.ref (He.ga K "picture_letter")) := He.glo_ok T.kin T.ns (T.says.fact 18 (f := .glo "picture_letter") rfl)
theorem Tx.glo_Client (T : Tx K mg) : mg "Client" = some (.ref (He.ga K "Client")) := He.glo_ok T.kin T.ns (T.says.fact 19 (f := .glo "Client") rfl)
theorem Tx.int_LONGEST (T : Tx K mg) : ∃ t, mg "LONGEST" = some (.int (3) t) := He.int_ok T.kin T.ns (T.says.fact 20 (f := .int "LONGEST" (3)) rfl)
theorem Tx.int_GREATEST (T : Tx K mg) : ∃ t, mg "GREATEST" = some (.int (9) t) := He.int_ok T.kin T.ns (T.says.fact 21 (f := .int "GREATEST" (9)) rfl)
theorem Tx.glo_is_path_or_empty (T : Tx K mg) : mg "is_path_or_empty" = some (.ref (He.ga K "is_path_or_empty")) := He.glo_ok T.kin T.ns (T.says.fact 22 (f := .glo "is_path_or_empty") rfl)
theorem Tx.glo_is_path (T : Tx K mg) : mg "is_path" = some (.ref (He.ga K "is_path")) := He.glo_ok T.kin T.ns (T.says.fact 23 (f := .glo "is_path") rfl)
theorem Tx.glo_is_below (T : Tx K mg) : mg "is_below" = some (.ref (He.ga K "is_below")) := He.glo_ok T.kin T.ns (T.says.fact 24 (f := .glo "is_below") rfl)
theorem Tx.glo_Node (T : Tx K mg) : mg "Node" = some (.ref (He.ga K "Node")) := He.glo_ok T.kin T.ns (T.says.fact 25 (f := .glo "Node") rfl)
theorem Tx.glo_Watcher (T : Tx K mg) : mg "Watcher" = some (.ref (He.ga K "Watcher")) := He.glo_ok T.kin T.ns (T.says.fact 26 (f := .glo "Watcher") rfl)
theorem Tx.glo_House (T : Tx K mg) : mg "House" = some (.ref (He.ga K "House")) := He.glo_ok T.kin T.ns (T.says.fact 27 (f := .glo "House") rfl)
theorem Tx.int_MAKE (T : Tx K mg) : ∃ t, mg "MAKE" = some (.int (0) t) := He.int_ok T.kin T.ns (T.says.fact 28 (f := .int "MAKE" (0)) rfl)
theorem Tx.int_SET (T : Tx K mg) : ∃ t, mg "SET" = some (.int (1) t) := He.int_ok T.kin T.ns (T.says.fact 29 (f := .int "SET" (1)) rfl)
theorem Tx.int_DROP (T : Tx K mg) : ∃ t, mg "DROP" = some (.int (2) t) := He.int_ok T.kin T.ns (T.says.fact 30 (f := .int "DROP" (2)) rfl)
theorem Tx.int_CHECK (T : Tx K mg) : ∃ t, mg "CHECK" = some (.int (3) t) := He.int_ok T.kin T.ns (T.says.fact 31 (f := .int "CHECK" (3)) rfl)
theorem Tx.int_CAN_BE_DONE (T : Tx K mg) : ∃ t, mg "CAN_BE_DONE" = some (.int (0) t) := He.int_ok T.kin T.ns (T.says.fact 32 (f := .int "CAN_BE_DONE" (0)) rfl)
theorem Tx.int_NO_NODE (T : Tx K mg) : ∃ t, mg "NO_NODE" = some (.int (1) t) := He.int_ok T.kin T.ns (T.says.fact 33 (f := .int "NO_NODE" (1)) rfl)
theorem Tx.int_NODE_THERE (T : Tx K mg) : ∃ t, mg "NODE_THERE" = some (.int (2) t) := He.int_ok T.kin T.ns (T.says.fact 34 (f := .int "NODE_THERE" (2)) rfl)
theorem Tx.int_NOTHING_ABOVE (T : Tx K mg) : ∃ t, mg "NOTHING_ABOVE" = some (.int (3) t) := He.int_ok T.kin T.ns (T.says.fact 35 (f := .int "NOTHING_ABOVE" (3)) rfl)
theorem Tx.int_HELD_ABOVE (T : Tx K mg) : ∃ t, mg "HELD_ABOVE" = some (.int (4) t) := He.int_ok T.kin T.ns (T.says.fact 36 (f := .int "HELD_ABOVE" (4)) rfl)
theorem Tx.int_NODE_BELOW (T : Tx K mg) : ∃ t, mg "NODE_BELOW" = some (.int (5) t) := He.int_ok T.kin T.ns (T.says.fact 37 (f := .int "NODE_BELOW" (5)) rfl)
theorem Tx.int_OTHER_VERSION (T : Tx K mg) : ∃ t, mg "OTHER_VERSION" = some (.int (6) t) := He.int_ok T.kin T.ns (T.says.fact 38 (f := .int "OTHER_VERSION" (6)) rfl)
theorem Tx.int_NO_SESSION (T : Tx K mg) : ∃ t, mg "NO_SESSION" = some (.int (7) t) := He.int_ok T.kin T.ns (T.says.fact 39 (f := .int "NO_SESSION" (7)) rfl)
theorem Tx.int_NO_ROOM (T : Tx K mg) : ∃ t, mg "NO_ROOM" = some (.int (8) t) := He.int_ok T.kin T.ns (T.says.fact 40 (f := .int "NO_ROOM" (8)) rfl)
theorem Tx.int_MOST_NODES (T : Tx K mg) : ∃ t, mg "MOST_NODES" = some (.int (20) t) := He.int_ok T.kin T.ns (T.says.fact 41 (f := .int "MOST_NODES" (20)) rfl)
theorem Tx.int_MOST_ORDERS (T : Tx K mg) : ∃ t, mg "MOST_ORDERS" = some (.int (6) t) := He.int_ok T.kin T.ns (T.says.fact 42 (f := .int "MOST_ORDERS" (6)) rfl)
theorem Tx.int_MOST_VALUE (T : Tx K mg) : ∃ t, mg "MOST_VALUE" = some (.int (99) t) := He.int_ok T.kin T.ns (T.says.fact 43 (f := .int "MOST_VALUE" (99)) rfl)
theorem Tx.glo_Order (T : Tx K mg) : mg "Order" = some (.ref (He.ga K "Order")) := He.glo_ok T.kin T.ns (T.says.fact 44 (f := .glo "Order") rfl)
theorem Tx.glo_is_order (T : Tx K mg) : mg "is_order" = some (.ref (He.ga K "is_order")) := He.glo_ok T.kin T.ns (T.says.fact 45 (f := .glo "is_order") rfl)
theorem Tx.glo_are_orders (T : Tx K mg) : mg "are_orders" = some (.ref (He.ga K "are_orders")) := He.glo_ok T.kin T.ns (T.says.fact 46 (f := .glo "are_orders") rfl)
theorem Tx.glo_why_not (T : Tx K mg) : mg "why_not" = some (.ref (He.ga K "why_not")) := He.glo_ok T.kin T.ns (T.says.fact 47 (f := .glo "why_not") rfl)
theorem Tx.glo_why_not_make (T : Tx K mg) : mg "why_not_make" = some (.ref (He.ga K "why_not_make")) := He.glo_ok T.kin T.ns (T.says.fact 48 (f := .glo "why_not_make") rfl)
theorem Tx.glo_why_not_under (T : Tx K mg) : mg "why_not_under" = some (.ref (He.ga K "why_not_under")) := He.glo_ok T.kin T.ns (T.says.fact 49 (f := .glo "why_not_under") rfl)
theorem Tx.glo_why_not_set_or_drop (T : Tx K mg) : mg "why_not_set_or_drop" = some (.ref (He.ga K "why_not_set_or_drop")) := He.glo_ok T.kin T.ns (T.says.fact 50 (f := .glo "why_not_set_or_drop") rfl)
theorem Tx.glo_has_others_below (T : Tx K mg) : mg "has_others_below" = some (.ref (He.ga K "has_others_below")) := He.glo_ok T.kin T.ns (T.says.fact 51 (f := .glo "has_others_below") rfl)
theorem Tx.glo_why_not_check (T : Tx K mg) : mg "why_not_check" = some (.ref (He.ga K "why_not_check")) := He.glo_ok T.kin T.ns (T.says.fact 52 (f := .glo "why_not_check") rfl)
theorem Tx.glo_do_order (T : Tx K mg) : mg "do_order" = some (.ref (He.ga K "do_order")) := He.glo_ok T.kin T.ns (T.says.fact 53 (f := .glo "do_order") rfl)
theorem Tx.glo_copy_nodes (T : Tx K mg) : mg "copy_nodes" = some (.ref (He.ga K "copy_nodes")) := He.glo_ok T.kin T.ns (T.says.fact 54 (f := .glo "copy_nodes") rfl)
theorem Tx.glo_do_together (T : Tx K mg) : mg "do_together" = some (.ref (He.ga K "do_together")) := He.glo_ok T.kin T.ns (T.says.fact 55 (f := .glo "do_together") rfl)
theorem Tx.int_NONE (T : Tx K mg) : ∃ t, mg "NONE" = some (.int (-1) t) := He.int_ok T.kin T.ns (T.says.fact 56 (f := .int "NONE" (-1)) rfl)
theorem Tx.glo_tell_turn (T : Tx K mg) : mg "tell_turn" = some (.ref (He.ga K "tell_turn")) := He.glo_ok T.kin T.ns (T.says.fact 57 (f := .glo "tell_turn") rfl)
theorem Tx.glo_tell_row (T : Tx K mg) : mg "tell_row" = some (.ref (He.ga K "tell_row")) := He.glo_ok T.kin T.ns (T.says.fact 58 (f := .glo "tell_row") rfl)
theorem Tx.glo_tell_events (T : Tx K mg) : mg "tell_events" = some (.ref (He.ga K "tell_events")) := He.glo_ok T.kin T.ns (T.says.fact 59 (f := .glo "tell_events") rfl)
theorem Tx.glo_tell_entries (T : Tx K mg) : mg "tell_entries" = some (.ref (He.ga K "tell_entries")) := He.glo_ok T.kin T.ns (T.says.fact 60 (f := .glo "tell_entries") rfl)
theorem Tx.glo_tell_letter (T : Tx K mg) : mg "tell_letter" = some (.ref (He.ga K "tell_letter")) := He.glo_ok T.kin T.ns (T.says.fact 61 (f := .glo "tell_letter") rfl)
theorem Tx.glo_tell_letters (T : Tx K mg) : mg "tell_letters" = some (.ref (He.ga K "tell_letters")) := He.glo_ok T.kin T.ns (T.says.fact 62 (f := .glo "tell_letters") rfl)
theorem Tx.glo_tell_client (T : Tx K mg) : mg "tell_client" = some (.ref (He.ga K "tell_client")) := He.glo_ok T.kin T.ns (T.says.fact 63 (f := .glo "tell_client") rfl)
theorem Tx.glo_tell_sessions (T : Tx K mg) : mg "tell_sessions" = some (.ref (He.ga K "tell_sessions")) := He.glo_ok T.kin T.ns (T.says.fact 64 (f := .glo "tell_sessions") rfl)
theorem Tx.glo_tell_watchers (T : Tx K mg) : mg "tell_watchers" = some (.ref (He.ga K "tell_watchers")) := He.glo_ok T.kin T.ns (T.says.fact 65 (f := .glo "tell_watchers") rfl)
theorem Tx.glo_tell_house (T : Tx K mg) : mg "tell_house" = some (.ref (He.ga K "tell_house")) := He.glo_ok T.kin T.ns (T.says.fact 66 (f := .glo "tell_house") rfl)
theorem Tx.int_CLIENTS (T : Tx K mg) : ∃ t, mg "CLIENTS" = some (.int (3) t) := He.int_ok T.kin T.ns (T.says.fact 67 (f := .int "CLIENTS" (3)) rfl)
theorem Tx.int_LATEST (T : Tx K mg) : ∃ t, mg "LATEST" = some (.int (9999) t) := He.int_ok T.kin T.ns (T.says.fact 68 (f := .int "LATEST" (9999)) rfl)
theorem Tx.glo_World (T : Tx K mg) : mg "World" = some (.ref (He.ga K "World")) := He.glo_ok T.kin T.ns (T.says.fact 69 (f := .glo "World") rfl)
theorem Tx.glo_answer_open (T : Tx K mg) : mg "answer_open" = some (.ref (He.ga K "answer_open")) := He.glo_ok T.kin T.ns (T.says.fact 70 (f := .glo "answer_open") rfl)
theorem Tx.glo_answer_close (T : Tx K mg) : mg "answer_close" = some (.ref (He.ga K "answer_close")) := He.glo_ok T.kin T.ns (T.says.fact 71 (f := .glo "answer_close") rfl)
theorem Tx.glo_answer_touch (T : Tx K mg) : mg "answer_touch" = some (.ref (He.ga K "answer_touch")) := He.glo_ok T.kin T.ns (T.says.fact 72 (f := .glo "answer_touch") rfl)
theorem Tx.glo_answer_tick (T : Tx K mg) : mg "answer_tick" = some (.ref (He.ga K "answer_tick")) := He.glo_ok T.kin T.ns (T.says.fact 73 (f := .glo "answer_tick") rfl)
theorem Tx.glo_answer_together (T : Tx K mg) : mg "answer_together" = some (.ref (He.ga K "answer_together")) := He.glo_ok T.kin T.ns (T.says.fact 74 (f := .glo "answer_together") rfl)
theorem Tx.glo_answer_get (T : Tx K mg) : mg "answer_get" = some (.ref (He.ga K "answer_get")) := He.glo_ok T.kin T.ns (T.says.fact 75 (f := .glo "answer_get") rfl)
theorem Tx.glo_answer_list (T : Tx K mg) : mg "answer_list" = some (.ref (He.ga K "answer_list")) := He.glo_ok T.kin T.ns (T.says.fact 76 (f := .glo "answer_list") rfl)
theorem Tx.glo_answer_watch (T : Tx K mg) : mg "answer_watch" = some (.ref (He.ga K "answer_watch")) := He.glo_ok T.kin T.ns (T.says.fact 77 (f := .glo "answer_watch") rfl)
theorem Tx.glo_answer_ask (T : Tx K mg) : mg "answer_ask" = some (.ref (He.ga K "answer_ask")) := He.glo_ok T.kin T.ns (T.says.fact 78 (f := .glo "answer_ask") rfl)
theorem Tx.glo_answer_compact (T : Tx K mg) : mg "answer_compact" = some (.ref (He.ga K "answer_compact")) := He.glo_ok T.kin T.ns (T.says.fact 79 (f := .glo "answer_compact") rfl)
theorem Tx.glo_answer_take (T : Tx K mg) : mg "answer_take" = some (.ref (He.ga K "answer_take")) := He.glo_ok T.kin T.ns (T.says.fact 80 (f := .glo "answer_take") rfl)
theorem Tx.glo_answer_keep (T : Tx K mg) : mg "answer_keep" = some (.ref (He.ga K "answer_keep")) := He.glo_ok T.kin T.ns (T.says.fact 81 (f := .glo "answer_keep") rfl)
theorem Tx.glo_answer_lose (T : Tx K mg) : mg "answer_lose" = some (.ref (He.ga K "answer_lose")) := He.glo_ok T.kin T.ns (T.says.fact 82 (f := .glo "answer_lose") rfl)
theorem Tx.glo_answer_letters (T : Tx K mg) : mg "answer_letters" = some (.ref (He.ga K "answer_letters")) := He.glo_ok T.kin T.ns (T.says.fact 83 (f := .glo "answer_letters") rfl)
theorem Tx.glo_answer_client (T : Tx K mg) : mg "answer_client" = some (.ref (He.ga K "answer_client")) := He.glo_ok T.kin T.ns (T.says.fact 84 (f := .glo "answer_client") rfl)
theorem Tx.glo_answer_house (T : Tx K mg) : mg "answer_house" = some (.ref (He.ga K "answer_house")) := He.glo_ok T.kin T.ns (T.says.fact 85 (f := .glo "answer_house") rfl)
theorem Tx.glo_answer_log (T : Tx K mg) : mg "answer_log" = some (.ref (He.ga K "answer_log")) := He.glo_ok T.kin T.ns (T.says.fact 86 (f := .glo "answer_log") rfl)
theorem Tx.glo_CALLS (T : Tx K mg) : mg "CALLS" = some (.ref (He.ga K "CALLS")) := He.glo_ok T.kin T.ns (T.says.fact 87 (f := .glo "CALLS") rfl)
theorem Tx.glo_answer_call (T : Tx K mg) : mg "answer_call" = some (.ref (He.ga K "answer_call")) := He.glo_ok T.kin T.ns (T.says.fact 88 (f := .glo "answer_call") rfl)
theorem Tx.int_BEGIN (T : Tx K mg) : ∃ t, mg "BEGIN" = some (.int (0) t) := He.int_ok T.kin T.ns (T.says.fact 89 (f := .int "BEGIN" (0)) rfl)
theorem Tx.int_LONGEST_LIFE (T : Tx K mg) : ∃ t, mg "LONGEST_LIFE" = some (.int (999) t) := He.int_ok T.kin T.ns (T.says.fact 90 (f := .int "LONGEST_LIFE" (999)) rfl)
theorem Tx.glo_Reader (T : Tx K mg) : mg "Reader" = some (.ref (He.ga K "Reader")) := He.glo_ok T.kin T.ns (T.says.fact 91 (f := .glo "Reader") rfl)
theorem Tx.glo_Line (T : Tx K mg) : mg "Line" = some (.ref (He.ga K "Line")) := He.glo_ok T.kin T.ns (T.says.fact 92 (f := .glo "Line") rfl)
theorem Tx.glo_answers (T : Tx K mg) : mg "answers" = some (.ref (He.ga K "answers")) := He.glo_ok T.kin T.ns (T.says.fact 93 (f := .glo "answers") rfl)
theorem Tx.cls_Event (T : Tx K mg) : Cls K (He.ga K "Event") := He.cls_ok (T.says.fact 94 (f := .cls "Event") rfl)
theorem Tx.mkr_Event (T : Tx K mg) : Mk K (He.ga K "Event") (He.ma K (He.ga K "Event") "__init__") := He.mkr_ok (T.says.fact 95 (f := .mkr "Event") rfl)
theorem Tx.no_Event_what (T : Tx K mg) : NoAttr K (He.ga K "Event") "what" := He.noat_ok (T.says.fact 96 (f := .noat "Event" "what") rfl)
theorem Tx.no_Event_value (T : Tx K mg) : NoAttr K (He.ga K "Event") "value" := He.noat_ok (T.says.fact 97 (f := .noat "Event" "value") rfl)
theorem Tx.no_Event_path (T : Tx K mg) : NoAttr K (He.ga K "Event") "path" := He.noat_ok (T.says.fact 98 (f := .noat "Event" "path") rfl)
theorem Tx.cls_Letter (T : Tx K mg) : Cls K (He.ga K "Letter") := He.cls_ok (T.says.fact 99 (f := .cls "Letter") rfl)
theorem Tx.mkr_Letter (T : Tx K mg) : Mk K (He.ga K "Letter") (He.ma K (He.ga K "Letter") "__init__") := He.mkr_ok (T.says.fact 100 (f := .mkr "Letter") rfl)
theorem Tx.no_Letter_kind (T : Tx K mg) : NoAttr K (He.ga K "Letter") "kind" := He.noat_ok (T.says.fact 101 (f := .noat "Letter" "kind") rfl)
theorem Tx.no_Letter_client (T : Tx K mg) : NoAttr K (He.ga K "Letter") "client" := He.noat_ok (T.says.fact 102 (f := .noat "Letter" "client") rfl)
theorem Tx.no_Letter_number (T : Tx K mg) : NoAttr K (He.ga K "Letter") "number" := He.noat_ok (T.says.fact 103 (f := .noat "Letter" "number") rfl)
theorem Tx.no_Letter_path (T : Tx K mg) : NoAttr K (He.ga K "Letter") "path" := He.noat_ok (T.says.fact 104 (f := .noat "Letter" "path") rfl)
theorem Tx.no_Letter_behind (T : Tx K mg) : NoAttr K (He.ga K "Letter") "behind" := He.noat_ok (T.says.fact 105 (f := .noat "Letter" "behind") rfl)
theorem Tx.no_Letter_turn (T : Tx K mg) : NoAttr K (He.ga K "Letter") "turn" := He.noat_ok (T.says.fact 106 (f := .noat "Letter" "turn") rfl)
theorem Tx.no_Letter_events (T : Tx K mg) : NoAttr K (He.ga K "Letter") "events" := He.noat_ok (T.says.fact 107 (f := .noat "Letter" "events") rfl)
theorem Tx.no_Letter_entries (T : Tx K mg) : NoAttr K (He.ga K "Letter") "entries" := He.noat_ok (T.says.fact 108 (f := .noat "Letter" "entries") rfl)
theorem Tx.cls_Net (T : Tx K mg) : Cls K (He.ga K "Net") := He.cls_ok (T.says.fact 109 (f := .cls "Net") rfl)
theorem Tx.mkr_Net (T : Tx K mg) : Mk K (He.ga K "Net") (He.ma K (He.ga K "Net") "__init__") := He.mkr_ok (T.says.fact 110 (f := .mkr "Net") rfl)
theorem Tx.no_Net_letters (T : Tx K mg) : NoAttr K (He.ga K "Net") "letters" := He.noat_ok (T.says.fact 111 (f := .noat "Net" "letters") rfl)
theorem Tx.me_Net_send (T : Tx K mg) : Meth K (He.ga K "Net") "send" (He.ma K (He.ga K "Net") "send") := He.meth_ok (T.says.fact 112 (f := .meth "Net" "send") rfl)
theorem Tx.me_Net_has_letter (T : Tx K mg) : Meth K (He.ga K "Net") "has_letter" (He.ma K (He.ga K "Net") "has_letter") := He.meth_ok (T.says.fact 113 (f := .meth "Net" "has_letter") rfl)
theorem Tx.me_Net_take_out (T : Tx K mg) : Meth K (He.ga K "Net") "take_out" (He.ma K (He.ga K "Net") "take_out") := He.meth_ok (T.says.fact 114 (f := .meth "Net" "take_out") rfl)
theorem Tx.cls_Client (T : Tx K mg) : Cls K (He.ga K "Client") := He.cls_ok (T.says.fact 115 (f := .cls "Client") rfl)
theorem Tx.mkr_Client (T : Tx K mg) : Mk K (He.ga K "Client") (He.ma K (He.ga K "Client") "__init__") := He.mkr_ok (T.says.fact 116 (f := .mkr "Client") rfl)
theorem Tx.no_Client_client (T : Tx K mg) : NoAttr K (He.ga K "Client") "client" := He.noat_ok (T.says.fact 117 (f := .noat "Client" "client") rfl)
theorem Tx.no_Client_number (T : Tx K mg) : NoAttr K (He.ga K "Client") "number" := He.noat_ok (T.says.fact 118 (f := .noat "Client" "number") rfl)
theorem Tx.no_Client_path (T : Tx K mg) : NoAttr K (He.ga K "Client") "path" := He.noat_ok (T.says.fact 119 (f := .noat "Client" "path") rfl)
theorem Tx.no_Client_up_to (T : Tx K mg) : NoAttr K (He.ga K "Client") "up_to" := He.noat_ok (T.says.fact 120 (f := .noat "Client" "up_to") rfl)
theorem Tx.no_Client_since (T : Tx K mg) : NoAttr K (He.ga K "Client") "since" := He.noat_ok (T.says.fact 121 (f := .noat "Client" "since") rfl)
theorem Tx.no_Client_copied (T : Tx K mg) : NoAttr K (He.ga K "Client") "copied" := He.noat_ok (T.says.fact 122 (f := .noat "Client" "copied") rfl)
theorem Tx.no_Client_events_had (T : Tx K mg) : NoAttr K (He.ga K "Client") "events_had" := He.noat_ok (T.says.fact 123 (f := .noat "Client" "events_had") rfl)
theorem Tx.no_Client_pictures_had (T : Tx K mg) : NoAttr K (He.ga K "Client") "pictures_had" := He.noat_ok (T.says.fact 124 (f := .noat "Client" "pictures_had") rfl)
theorem Tx.me_Client_forget_copy (T : Tx K mg) : Meth K (He.ga K "Client") "forget_copy" (He.ma K (He.ga K "Client") "forget_copy") := He.meth_ok (T.says.fact 125 (f := .meth "Client" "forget_copy") rfl)
theorem Tx.me_Client_watches (T : Tx K mg) : Meth K (He.ga K "Client") "watches" (He.ma K (He.ga K "Client") "watches") := He.meth_ok (T.says.fact 126 (f := .meth "Client" "watches") rfl)
theorem Tx.me_Client_start_watch (T : Tx K mg) : Meth K (He.ga K "Client") "start_watch" (He.ma K (He.ga K "Client") "start_watch") := He.meth_ok (T.says.fact 127 (f := .meth "Client" "start_watch") rfl)
theorem Tx.me_Client_ask_house (T : Tx K mg) : Meth K (He.ga K "Client") "ask_house" (He.ma K (He.ga K "Client") "ask_house") := He.meth_ok (T.says.fact 128 (f := .meth "Client" "ask_house") rfl)
theorem Tx.me_Client_goes_up_to (T : Tx K mg) : Meth K (He.ga K "Client") "goes_up_to" (He.ma K (He.ga K "Client") "goes_up_to") := He.meth_ok (T.says.fact 129 (f := .meth "Client" "goes_up_to") rfl)
theorem Tx.me_Client_hear_news (T : Tx K mg) : Meth K (He.ga K "Client") "hear_news" (He.ma K (He.ga K "Client") "hear_news") := He.meth_ok (T.says.fact 130 (f := .meth "Client" "hear_news") rfl)
theorem Tx.me_Client_go_on (T : Tx K mg) : Meth K (He.ga K "Client") "go_on" (He.ma K (He.ga K "Client") "go_on") := He.meth_ok (T.says.fact 131 (f := .meth "Client" "go_on") rfl)
theorem Tx.me_Client_see_picture (T : Tx K mg) : Meth K (He.ga K "Client") "see_picture" (He.ma K (He.ga K "Client") "see_picture") := He.meth_ok (T.says.fact 132 (f := .meth "Client" "see_picture") rfl)
theorem Tx.me_Client_entries_in_order (T : Tx K mg) : Meth K (He.ga K "Client") "entries_in_order" (He.ma K (He.ga K "Client") "entries_in_order") := He.meth_ok (T.says.fact 133 (f := .meth "Client" "entries_in_order") rfl)
theorem Tx.cls_Node (T : Tx K mg) : Cls K (He.ga K "Node") := He.cls_ok (T.says.fact 134 (f := .cls "Node") rfl)
theorem Tx.mkr_Node (T : Tx K mg) : Mk K (He.ga K "Node") (He.ma K (He.ga K "Node") "__init__") := He.mkr_ok (T.says.fact 135 (f := .mkr "Node") rfl)
theorem Tx.no_Node_value (T : Tx K mg) : NoAttr K (He.ga K "Node") "value" := He.noat_ok (T.says.fact 136 (f := .noat "Node" "value") rfl)
theorem Tx.no_Node_version (T : Tx K mg) : NoAttr K (He.ga K "Node") "version" := He.noat_ok (T.says.fact 137 (f := .noat "Node" "version") rfl)
theorem Tx.no_Node_made (T : Tx K mg) : NoAttr K (He.ga K "Node") "made" := He.noat_ok (T.says.fact 138 (f := .noat "Node" "made") rfl)
theorem Tx.no_Node_changed (T : Tx K mg) : NoAttr K (He.ga K "Node") "changed" := He.noat_ok (T.says.fact 139 (f := .noat "Node" "changed") rfl)
theorem Tx.no_Node_held (T : Tx K mg) : NoAttr K (He.ga K "Node") "held" := He.noat_ok (T.says.fact 140 (f := .noat "Node" "held") rfl)
theorem Tx.cls_Watcher (T : Tx K mg) : Cls K (He.ga K "Watcher") := He.cls_ok (T.says.fact 141 (f := .cls "Watcher") rfl)
theorem Tx.mkr_Watcher (T : Tx K mg) : Mk K (He.ga K "Watcher") (He.ma K (He.ga K "Watcher") "__init__") := He.mkr_ok (T.says.fact 142 (f := .mkr "Watcher") rfl)
theorem Tx.no_Watcher_client (T : Tx K mg) : NoAttr K (He.ga K "Watcher") "client" := He.noat_ok (T.says.fact 143 (f := .noat "Watcher" "client") rfl)
theorem Tx.no_Watcher_number (T : Tx K mg) : NoAttr K (He.ga K "Watcher") "number" := He.noat_ok (T.says.fact 144 (f := .noat "Watcher" "number") rfl)
theorem Tx.no_Watcher_path (T : Tx K mg) : NoAttr K (He.ga K "Watcher") "path" := He.noat_ok (T.says.fact 145 (f := .noat "Watcher" "path") rfl)
theorem Tx.no_Watcher_last (T : Tx K mg) : NoAttr K (He.ga K "Watcher") "last" := He.noat_ok (T.says.fact 146 (f := .noat "Watcher" "last") rfl)
theorem Tx.cls_House (T : Tx K mg) : Cls K (He.ga K "House") := He.cls_ok (T.says.fact 147 (f := .cls "House") rfl)
theorem Tx.mkr_House (T : Tx K mg) : Mk K (He.ga K "House") (He.ma K (He.ga K "House") "__init__") := He.mkr_ok (T.says.fact 148 (f := .mkr "House") rfl)
theorem Tx.no_House_life (T : Tx K mg) : NoAttr K (He.ga K "House") "life" := He.noat_ok (T.says.fact 149 (f := .noat "House" "life") rfl)
theorem Tx.no_House_net (T : Tx K mg) : NoAttr K (He.ga K "House") "net" := He.noat_ok (T.says.fact 150 (f := .noat "House" "net") rfl)
theorem Tx.no_House_time (T : Tx K mg) : NoAttr K (He.ga K "House") "time" := He.noat_ok (T.says.fact 151 (f := .noat "House" "time") rfl)
theorem Tx.no_House_opened (T : Tx K mg) : NoAttr K (He.ga K "House") "opened" := He.noat_ok (T.says.fact 152 (f := .noat "House" "opened") rfl)
theorem Tx.no_House_seen (T : Tx K mg) : NoAttr K (He.ga K "House") "seen" := He.noat_ok (T.says.fact 153 (f := .noat "House" "seen") rfl)
theorem Tx.no_House_nodes (T : Tx K mg) : NoAttr K (He.ga K "House") "nodes" := He.noat_ok (T.says.fact 154 (f := .noat "House" "nodes") rfl)
theorem Tx.no_House_turns (T : Tx K mg) : NoAttr K (He.ga K "House") "turns" := He.noat_ok (T.says.fact 155 (f := .noat "House" "turns") rfl)
theorem Tx.no_House_base (T : Tx K mg) : NoAttr K (He.ga K "House") "base" := He.noat_ok (T.says.fact 156 (f := .noat "House" "base") rfl)
theorem Tx.no_House_watchers (T : Tx K mg) : NoAttr K (He.ga K "House") "watchers" := He.noat_ok (T.says.fact 157 (f := .noat "House" "watchers") rfl)
theorem Tx.me_House_last_turn (T : Tx K mg) : Meth K (He.ga K "House") "last_turn" (He.ma K (He.ga K "House") "last_turn") := He.meth_ok (T.says.fact 158 (f := .meth "House" "last_turn") rfl)
theorem Tx.me_House_has_turn (T : Tx K mg) : Meth K (He.ga K "House") "has_turn" (He.ma K (He.ga K "House") "has_turn") := He.meth_ok (T.says.fact 159 (f := .meth "House" "has_turn") rfl)
theorem Tx.me_House_events_of (T : Tx K mg) : Meth K (He.ga K "House") "events_of" (He.ma K (He.ga K "House") "events_of") := He.meth_ok (T.says.fact 160 (f := .meth "House" "events_of") rfl)
theorem Tx.me_House_lasts (T : Tx K mg) : Meth K (He.ga K "House") "lasts" (He.ma K (He.ga K "House") "lasts") := He.meth_ok (T.says.fact 161 (f := .meth "House" "lasts") rfl)
theorem Tx.me_House_start_session (T : Tx K mg) : Meth K (He.ga K "House") "start_session" (He.ma K (He.ga K "House") "start_session") := He.meth_ok (T.says.fact 162 (f := .meth "House" "start_session") rfl)
theorem Tx.me_House_see_session (T : Tx K mg) : Meth K (He.ga K "House") "see_session" (He.ma K (He.ga K "House") "see_session") := He.meth_ok (T.says.fact 163 (f := .meth "House" "see_session") rfl)
theorem Tx.me_House_end_session (T : Tx K mg) : Meth K (He.ga K "House") "end_session" (He.ma K (He.ga K "House") "end_session") := He.meth_ok (T.says.fact 164 (f := .meth "House" "end_session") rfl)
theorem Tx.me_House_pass_time (T : Tx K mg) : Meth K (He.ga K "House") "pass_time" (He.ma K (He.ga K "House") "pass_time") := He.meth_ok (T.says.fact 165 (f := .meth "House" "pass_time") rfl)
theorem Tx.me_House_end_turn (T : Tx K mg) : Meth K (He.ga K "House") "end_turn" (He.ma K (He.ga K "House") "end_turn") := He.meth_ok (T.says.fact 166 (f := .meth "House" "end_turn") rfl)
theorem Tx.me_House_tell_watcher (T : Tx K mg) : Meth K (He.ga K "House") "tell_watcher" (He.ma K (He.ga K "House") "tell_watcher") := He.meth_ok (T.says.fact 167 (f := .meth "House" "tell_watcher") rfl)
theorem Tx.me_House_hear_asking (T : Tx K mg) : Meth K (He.ga K "House") "hear_asking" (He.ma K (He.ga K "House") "hear_asking") := He.meth_ok (T.says.fact 168 (f := .meth "House" "hear_asking") rfl)
theorem Tx.me_House_has_later_watcher (T : Tx K mg) : Meth K (He.ga K "House") "has_later_watcher" (He.ma K (He.ga K "House") "has_later_watcher") := He.meth_ok (T.says.fact 169 (f := .meth "House" "has_later_watcher") rfl)
theorem Tx.me_House_can_tell_from (T : Tx K mg) : Meth K (He.ga K "House") "can_tell_from" (He.ma K (He.ga K "House") "can_tell_from") := He.meth_ok (T.says.fact 170 (f := .meth "House" "can_tell_from") rfl)
theorem Tx.me_House_tell_from (T : Tx K mg) : Meth K (He.ga K "House") "tell_from" (He.ma K (He.ga K "House") "tell_from") := He.meth_ok (T.says.fact 171 (f := .meth "House" "tell_from") rfl)
theorem Tx.me_House_show_picture (T : Tx K mg) : Meth K (He.ga K "House") "show_picture" (He.ma K (He.ga K "House") "show_picture") := He.meth_ok (T.says.fact 172 (f := .meth "House" "show_picture") rfl)
theorem Tx.me_House_put_last (T : Tx K mg) : Meth K (He.ga K "House") "put_last" (He.ma K (He.ga K "House") "put_last") := He.meth_ok (T.says.fact 173 (f := .meth "House" "put_last") rfl)
theorem Tx.cls_Order (T : Tx K mg) : Cls K (He.ga K "Order") := He.cls_ok (T.says.fact 174 (f := .cls "Order") rfl)
theorem Tx.mkr_Order (T : Tx K mg) : Mk K (He.ga K "Order") (He.ma K (He.ga K "Order") "__init__") := He.mkr_ok (T.says.fact 175 (f := .mkr "Order") rfl)
theorem Tx.no_Order_kind (T : Tx K mg) : NoAttr K (He.ga K "Order") "kind" := He.noat_ok (T.says.fact 176 (f := .noat "Order" "kind") rfl)
theorem Tx.no_Order_version (T : Tx K mg) : NoAttr K (He.ga K "Order") "version" := He.noat_ok (T.says.fact 177 (f := .noat "Order" "version") rfl)
theorem Tx.no_Order_value (T : Tx K mg) : NoAttr K (He.ga K "Order") "value" := He.noat_ok (T.says.fact 178 (f := .noat "Order" "value") rfl)
theorem Tx.no_Order_session (T : Tx K mg) : NoAttr K (He.ga K "Order") "session" := He.noat_ok (T.says.fact 179 (f := .noat "Order" "session") rfl)
theorem Tx.no_Order_path (T : Tx K mg) : NoAttr K (He.ga K "Order") "path" := He.noat_ok (T.says.fact 180 (f := .noat "Order" "path") rfl)
theorem Tx.cls_World (T : Tx K mg) : Cls K (He.ga K "World") := He.cls_ok (T.says.fact 181 (f := .cls "World") rfl)
theorem Tx.mkr_World (T : Tx K mg) : Mk K (He.ga K "World") (He.ma K (He.ga K "World") "__init__") := He.mkr_ok (T.says.fact 182 (f := .mkr "World") rfl)
theorem Tx.no_World_net (T : Tx K mg) : NoAttr K (He.ga K "World") "net" := He.noat_ok (T.says.fact 183 (f := .noat "World" "net") rfl)
theorem Tx.no_World_house (T : Tx K mg) : NoAttr K (He.ga K "World") "house" := He.noat_ok (T.says.fact 184 (f := .noat "World" "house") rfl)
theorem Tx.no_World_clients (T : Tx K mg) : NoAttr K (He.ga K "World") "clients" := He.noat_ok (T.says.fact 185 (f := .noat "World" "clients") rfl)
theorem Tx.me_World_has_client (T : Tx K mg) : Meth K (He.ga K "World") "has_client" (He.ma K (He.ga K "World") "has_client") := He.meth_ok (T.says.fact 186 (f := .meth "World" "has_client") rfl)
theorem Tx.me_World_hand_over (T : Tx K mg) : Meth K (He.ga K "World") "hand_over" (He.ma K (He.ga K "World") "hand_over") := He.meth_ok (T.says.fact 187 (f := .meth "World" "hand_over") rfl)
theorem Tx.cls_Reader (T : Tx K mg) : Cls K (He.ga K "Reader") := He.cls_ok (T.says.fact 188 (f := .cls "Reader") rfl)
theorem Tx.mkr_Reader (T : Tx K mg) : Mk K (He.ga K "Reader") (He.ma K (He.ga K "Reader") "__init__") := He.mkr_ok (T.says.fact 189 (f := .mkr "Reader") rfl)
theorem Tx.no_Reader_calls (T : Tx K mg) : NoAttr K (He.ga K "Reader") "calls" := He.noat_ok (T.says.fact 190 (f := .noat "Reader" "calls") rfl)
theorem Tx.no_Reader_place (T : Tx K mg) : NoAttr K (He.ga K "Reader") "place" := He.noat_ok (T.says.fact 191 (f := .noat "Reader" "place") rfl)
theorem Tx.me_Reader_has_more (T : Tx K mg) : Meth K (He.ga K "Reader") "has_more" (He.ma K (He.ga K "Reader") "has_more") := He.meth_ok (T.says.fact 192 (f := .meth "Reader" "has_more") rfl)
theorem Tx.me_Reader_read_number (T : Tx K mg) : Meth K (He.ga K "Reader") "read_number" (He.ma K (He.ga K "Reader") "read_number") := He.meth_ok (T.says.fact 193 (f := .meth "Reader" "read_number") rfl)
theorem Tx.me_Reader_read_row (T : Tx K mg) : Meth K (He.ga K "Reader") "read_row" (He.ma K (He.ga K "Reader") "read_row") := He.meth_ok (T.says.fact 194 (f := .meth "Reader" "read_row") rfl)
theorem Tx.me_Reader_read_rows (T : Tx K mg) : Meth K (He.ga K "Reader") "read_rows" (He.ma K (He.ga K "Reader") "read_rows") := He.meth_ok (T.says.fact 195 (f := .meth "Reader" "read_rows") rfl)
theorem Tx.cls_Line (T : Tx K mg) : Cls K (He.ga K "Line") := He.cls_ok (T.says.fact 196 (f := .cls "Line") rfl)
theorem Tx.mkr_Line (T : Tx K mg) : Mk K (He.ga K "Line") (He.ma K (He.ga K "Line") "__init__") := He.mkr_ok (T.says.fact 197 (f := .mkr "Line") rfl)
theorem Tx.no_Line_world (T : Tx K mg) : NoAttr K (He.ga K "Line") "world" := He.noat_ok (T.says.fact 198 (f := .noat "Line" "world") rfl)
theorem Tx.me_Line_begin_world (T : Tx K mg) : Meth K (He.ga K "Line") "begin_world" (He.ma K (He.ga K "Line") "begin_world") := He.meth_ok (T.says.fact 199 (f := .meth "Line" "begin_world") rfl)
theorem Tx.me_Line_answer (T : Tx K mg) : Meth K (He.ga K "Line") "answer" (He.ma K (He.ga K "Line") "answer") := He.meth_ok (T.says.fact 200 (f := .meth "Line" "answer") rfl)
theorem Tx.free_len (T : Tx K mg) : mg "len" = none := He.free_ok T.kin T.ns (T.says.fact 201 (f := .free "len") rfl)
theorem Tx.free_sorted (T : Tx K mg) : mg "sorted" = none := He.free_ok T.kin T.ns (T.says.fact 202 (f := .free "sorted") rfl)
theorem Tx.free_list (T : Tx K mg) : mg "list" = none := He.free_ok T.kin T.ns (T.says.fact 203 (f := .free "list") rfl)
theorem Tx.free_tuple (T : Tx K mg) : mg "tuple" = none := He.free_ok T.kin T.ns (T.says.fact 204 (f := .free "tuple") rfl)
theorem Tx.free_range (T : Tx K mg) : mg "range" = none := He.free_ok T.kin T.ns (T.says.fact 205 (f := .free "range") rfl)
theorem Tx.free_enumerate (T : Tx K mg) : mg "enumerate" = none := He.free_ok T.kin T.ns (T.says.fact 206 (f := .free "enumerate") rfl)
theorem Tx.free_max (T : Tx K mg) : mg "max" = none := He.free_ok T.kin T.ns (T.says.fact 207 (f := .free "max") rfl)
theorem Tx.free_all (T : Tx K mg) : mg "all" = none := He.free_ok T.kin T.ns (T.says.fact 208 (f := .free "all") rfl)
theorem Tx.free_any (T : Tx K mg) : mg "any" = none := He.free_ok T.kin T.ns (T.says.fact 209 (f := .free "any") rfl)
theorem Tx.tab_CALLS (T : Tx K mg) : KTab K (He.ga K "CALLS") (tab_CALLS.map fun p => (p.1, He.ga K p.2)) := tabB_ok (by have h := T.more; unfold exB at h; simp only [Bool.and_eq_true] at h; exact h.1)
theorem Tx.fun_Event_init (T : Tx K mg) : ∃ fd, FunD K d_Event_init.name d_Event_init.qual d_Event_init.params d_Event_init.body d_Event_init.scope [] [] (He.fAd K d_Event_init.at_) fd := T.says.def_ 0 (d := d_Event_init) rfl
theorem Tx.fun_Letter_init (T : Tx K mg) : ∃ fd, FunD K d_Letter_init.name d_Letter_init.qual d_Letter_init.params d_Letter_init.body d_Letter_init.scope [] [] (He.fAd K d_Letter_init.at_) fd := T.says.def_ 1 (d := d_Letter_init) rfl
theorem Tx.fun_Net_init (T : Tx K mg) : ∃ fd, FunD K d_Net_init.name d_Net_init.qual d_Net_init.params d_Net_init.body d_Net_init.scope [] [] (He.fAd K d_Net_init.at_) fd := T.says.def_ 2 (d := d_Net_init) rfl
theorem Tx.fun_Net_send (T : Tx K mg) : ∃ fd, FunD K d_Net_send.name d_Net_send.qual d_Net_send.params d_Net_send.body d_Net_send.scope [] [] (He.fAd K d_Net_send.at_) fd := T.says.def_ 3 (d := d_Net_send) rfl
theorem Tx.fun_Net_has_letter (T : Tx K mg) : ∃ fd, FunD K d_Net_has_letter.name d_Net_has_letter.qual d_Net_has_letter.params d_Net_has_letter.body d_Net_has_letter.scope [] [] (He.fAd K d_Net_has_letter.at_) fd := T.says.def_ 4 (d := d_Net_has_letter) rfl
theorem Tx.fun_Net_take_out (T : Tx K mg) : ∃ fd, FunD K d_Net_take_out.name d_Net_take_out.qual d_Net_take_out.params d_Net_take_out.body d_Net_take_out.scope [] [] (He.fAd K d_Net_take_out.at_) fd := T.says.def_ 5 (d := d_Net_take_out) rfl
theorem Tx.fun_asking_letter (T : Tx K mg) : ∃ fd, FunD K d_asking_letter.name d_asking_letter.qual d_asking_letter.params d_asking_letter.body d_asking_letter.scope [] [] (He.fAd K d_asking_letter.at_) fd := T.says.def_ 6 (d := d_asking_letter) rfl
theorem Tx.fun_news_letter (T : Tx K mg) : ∃ fd, FunD K d_news_letter.name d_news_letter.qual d_news_letter.params d_news_letter.body d_news_letter.scope [] [] (He.fAd K d_news_letter.at_) fd := T.says.def_ 7 (d := d_news_letter) rfl
theorem Tx.fun_picture_letter (T : Tx K mg) : ∃ fd, FunD K d_picture_letter.name d_picture_letter.qual d_picture_letter.params d_picture_letter.body d_picture_letter.scope [] [] (He.fAd K d_picture_letter.at_) fd := T.says.def_ 8 (d := d_picture_letter) rfl
theorem Tx.fun_Client_init (T : Tx K mg) : ∃ fd, FunD K d_Client_init.name d_Client_init.qual d_Client_init.params d_Client_init.body d_Client_init.scope [] [] (He.fAd K d_Client_init.at_) fd := T.says.def_ 9 (d := d_Client_init) rfl
theorem Tx.fun_Client_forget_copy (T : Tx K mg) : ∃ fd, FunD K d_Client_forget_copy.name d_Client_forget_copy.qual d_Client_forget_copy.params d_Client_forget_copy.body d_Client_forget_copy.scope [] [] (He.fAd K d_Client_forget_copy.at_) fd := T.says.def_ 10 (d := d_Client_forget_copy) rfl
theorem Tx.fun_Client_watches (T : Tx K mg) : ∃ fd, FunD K d_Client_watches.name d_Client_watches.qual d_Client_watches.params d_Client_watches.body d_Client_watches.scope [] [] (He.fAd K d_Client_watches.at_) fd := T.says.def_ 11 (d := d_Client_watches) rfl
theorem Tx.fun_Client_start_watch (T : Tx K mg) : ∃ fd, FunD K d_Client_start_watch.name d_Client_start_watch.qual d_Client_start_watch.params d_Client_start_watch.body d_Client_start_watch.scope [] [] (He.fAd K d_Client_start_watch.at_) fd := T.says.def_ 12 (d := d_Client_start_watch) rfl
theorem Tx.fun_Client_ask_house (T : Tx K mg) : ∃ fd, FunD K d_Client_ask_house.name d_Client_ask_house.qual d_Client_ask_house.params d_Client_ask_house.body d_Client_ask_house.scope [] [] (He.fAd K d_Client_ask_house.at_) fd := T.says.def_ 13 (d := d_Client_ask_house) rfl
theorem Tx.fun_Client_goes_up_to (T : Tx K mg) : ∃ fd, FunD K d_Client_goes_up_to.name d_Client_goes_up_to.qual d_Client_goes_up_to.params d_Client_goes_up_to.body d_Client_goes_up_to.scope [] [] (He.fAd K d_Client_goes_up_to.at_) fd := T.says.def_ 14 (d := d_Client_goes_up_to) rfl
theorem Tx.fun_Client_hear_news (T : Tx K mg) : ∃ fd, FunD K d_Client_hear_news.name d_Client_hear_news.qual d_Client_hear_news.params d_Client_hear_news.body d_Client_hear_news.scope [] [] (He.fAd K d_Client_hear_news.at_) fd := T.says.def_ 15 (d := d_Client_hear_news) rfl
theorem Tx.fun_Client_go_on (T : Tx K mg) : ∃ fd, FunD K d_Client_go_on.name d_Client_go_on.qual d_Client_go_on.params d_Client_go_on.body d_Client_go_on.scope [] [] (He.fAd K d_Client_go_on.at_) fd := T.says.def_ 16 (d := d_Client_go_on) rfl
theorem Tx.fun_Client_see_picture (T : Tx K mg) : ∃ fd, FunD K d_Client_see_picture.name d_Client_see_picture.qual d_Client_see_picture.params d_Client_see_picture.body d_Client_see_picture.scope [] [] (He.fAd K d_Client_see_picture.at_) fd := T.says.def_ 17 (d := d_Client_see_picture) rfl
theorem Tx.fun_Client_entries_in_order (T : Tx K mg) : ∃ fd, FunD K d_Client_entries_in_order.name d_Client_entries_in_order.qual d_Client_entries_in_order.params d_Client_entries_in_order.body d_Client_entries_in_order.scope [] [] (He.fAd K d_Client_entries_in_order.at_) fd := T.says.def_ 18 (d := d_Client_entries_in_order) rfl
theorem Tx.fun_is_path_or_empty (T : Tx K mg) : ∃ fd, FunD K d_is_path_or_empty.name d_is_path_or_empty.qual d_is_path_or_empty.params d_is_path_or_empty.body d_is_path_or_empty.scope [] [] (He.fAd K d_is_path_or_empty.at_) fd := T.says.def_ 19 (d := d_is_path_or_empty) rfl
theorem Tx.fun_is_path (T : Tx K mg) : ∃ fd, FunD K d_is_path.name d_is_path.qual d_is_path.params d_is_path.body d_is_path.scope [] [] (He.fAd K d_is_path.at_) fd := T.says.def_ 20 (d := d_is_path) rfl
theorem Tx.fun_is_below (T : Tx K mg) : ∃ fd, FunD K d_is_below.name d_is_below.qual d_is_below.params d_is_below.body d_is_below.scope [] [] (He.fAd K d_is_below.at_) fd := T.says.def_ 21 (d := d_is_below) rfl
theorem Tx.fun_Node_init (T : Tx K mg) : ∃ fd, FunD K d_Node_init.name d_Node_init.qual d_Node_init.params d_Node_init.body d_Node_init.scope [] [] (He.fAd K d_Node_init.at_) fd := T.says.def_ 22 (d := d_Node_init) rfl
theorem Tx.fun_Watcher_init (T : Tx K mg) : ∃ fd, FunD K d_Watcher_init.name d_Watcher_init.qual d_Watcher_init.params d_Watcher_init.body d_Watcher_init.scope [] [] (He.fAd K d_Watcher_init.at_) fd := T.says.def_ 23 (d := d_Watcher_init) rfl
theorem Tx.fun_House_init (T : Tx K mg) : ∃ fd, FunD K d_House_init.name d_House_init.qual d_House_init.params d_House_init.body d_House_init.scope [] [] (He.fAd K d_House_init.at_) fd := T.says.def_ 24 (d := d_House_init) rfl
theorem Tx.fun_House_last_turn (T : Tx K mg) : ∃ fd, FunD K d_House_last_turn.name d_House_last_turn.qual d_House_last_turn.params d_House_last_turn.body d_House_last_turn.scope [] [] (He.fAd K d_House_last_turn.at_) fd := T.says.def_ 25 (d := d_House_last_turn) rfl
theorem Tx.fun_House_has_turn (T : Tx K mg) : ∃ fd, FunD K d_House_has_turn.name d_House_has_turn.qual d_House_has_turn.params d_House_has_turn.body d_House_has_turn.scope [] [] (He.fAd K d_House_has_turn.at_) fd := T.says.def_ 26 (d := d_House_has_turn) rfl
theorem Tx.fun_House_events_of (T : Tx K mg) : ∃ fd, FunD K d_House_events_of.name d_House_events_of.qual d_House_events_of.params d_House_events_of.body d_House_events_of.scope [] [] (He.fAd K d_House_events_of.at_) fd := T.says.def_ 27 (d := d_House_events_of) rfl
theorem Tx.fun_House_lasts (T : Tx K mg) : ∃ fd, FunD K d_House_lasts.name d_House_lasts.qual d_House_lasts.params d_House_lasts.body d_House_lasts.scope [] [] (He.fAd K d_House_lasts.at_) fd := T.says.def_ 28 (d := d_House_lasts) rfl
theorem Tx.fun_House_start_session (T : Tx K mg) : ∃ fd, FunD K d_House_start_session.name d_House_start_session.qual d_House_start_session.params d_House_start_session.body d_House_start_session.scope [] [] (He.fAd K d_House_start_session.at_) fd := T.says.def_ 29 (d := d_House_start_session) rfl
theorem Tx.fun_House_see_session (T : Tx K mg) : ∃ fd, FunD K d_House_see_session.name d_House_see_session.qual d_House_see_session.params d_House_see_session.body d_House_see_session.scope [] [] (He.fAd K d_House_see_session.at_) fd := T.says.def_ 30 (d := d_House_see_session) rfl
theorem Tx.fun_House_end_session (T : Tx K mg) : ∃ fd, FunD K d_House_end_session.name d_House_end_session.qual d_House_end_session.params d_House_end_session.body d_House_end_session.scope [] [] (He.fAd K d_House_end_session.at_) fd := T.says.def_ 31 (d := d_House_end_session) rfl
theorem Tx.fun_House_pass_time (T : Tx K mg) : ∃ fd, FunD K d_House_pass_time.name d_House_pass_time.qual d_House_pass_time.params d_House_pass_time.body d_House_pass_time.scope [] [] (He.fAd K d_House_pass_time.at_) fd := T.says.def_ 32 (d := d_House_pass_time) rfl
theorem Tx.fun_House_end_turn (T : Tx K mg) : ∃ fd, FunD K d_House_end_turn.name d_House_end_turn.qual d_House_end_turn.params d_House_end_turn.body d_House_end_turn.scope [] [] (He.fAd K d_House_end_turn.at_) fd := T.says.def_ 33 (d := d_House_end_turn) rfl
theorem Tx.fun_House_tell_watcher (T : Tx K mg) : ∃ fd, FunD K d_House_tell_watcher.name d_House_tell_watcher.qual d_House_tell_watcher.params d_House_tell_watcher.body d_House_tell_watcher.scope [] [] (He.fAd K d_House_tell_watcher.at_) fd := T.says.def_ 34 (d := d_House_tell_watcher) rfl
theorem Tx.fun_House_hear_asking (T : Tx K mg) : ∃ fd, FunD K d_House_hear_asking.name d_House_hear_asking.qual d_House_hear_asking.params d_House_hear_asking.body d_House_hear_asking.scope [] [] (He.fAd K d_House_hear_asking.at_) fd := T.says.def_ 35 (d := d_House_hear_asking) rfl
theorem Tx.fun_House_has_later_watcher (T : Tx K mg) : ∃ fd, FunD K d_House_has_later_watcher.name d_House_has_later_watcher.qual d_House_has_later_watcher.params d_House_has_later_watcher.body d_House_has_later_watcher.scope [] [] (He.fAd K d_House_has_later_watcher.at_) fd := T.says.def_ 36 (d := d_House_has_later_watcher) rfl
theorem Tx.fun_House_can_tell_from (T : Tx K mg) : ∃ fd, FunD K d_House_can_tell_from.name d_House_can_tell_from.qual d_House_can_tell_from.params d_House_can_tell_from.body d_House_can_tell_from.scope [] [] (He.fAd K d_House_can_tell_from.at_) fd := T.says.def_ 37 (d := d_House_can_tell_from) rfl
theorem Tx.fun_House_tell_from (T : Tx K mg) : ∃ fd, FunD K d_House_tell_from.name d_House_tell_from.qual d_House_tell_from.params d_House_tell_from.body d_House_tell_from.scope [] [] (He.fAd K d_House_tell_from.at_) fd := T.says.def_ 38 (d := d_House_tell_from) rfl
theorem Tx.fun_House_show_picture (T : Tx K mg) : ∃ fd, FunD K d_House_show_picture.name d_House_show_picture.qual d_House_show_picture.params d_House_show_picture.body d_House_show_picture.scope [] [] (He.fAd K d_House_show_picture.at_) fd := T.says.def_ 39 (d := d_House_show_picture) rfl
theorem Tx.fun_House_put_last (T : Tx K mg) : ∃ fd, FunD K d_House_put_last.name d_House_put_last.qual d_House_put_last.params d_House_put_last.body d_House_put_last.scope [] [] (He.fAd K d_House_put_last.at_) fd := T.says.def_ 40 (d := d_House_put_last) rfl
theorem Tx.fun_Order_init (T : Tx K mg) : ∃ fd, FunD K d_Order_init.name d_Order_init.qual d_Order_init.params d_Order_init.body d_Order_init.scope [] [] (He.fAd K d_Order_init.at_) fd := T.says.def_ 41 (d := d_Order_init) rfl
theorem Tx.fun_is_order (T : Tx K mg) : ∃ fd, FunD K d_is_order.name d_is_order.qual d_is_order.params d_is_order.body d_is_order.scope [] [] (He.fAd K d_is_order.at_) fd := T.says.def_ 42 (d := d_is_order) rfl
theorem Tx.fun_are_orders (T : Tx K mg) : ∃ fd, FunD K d_are_orders.name d_are_orders.qual d_are_orders.params d_are_orders.body d_are_orders.scope [] [] (He.fAd K d_are_orders.at_) fd := T.says.def_ 43 (d := d_are_orders) rfl
theorem Tx.fun_why_not (T : Tx K mg) : ∃ fd, FunD K d_why_not.name d_why_not.qual d_why_not.params d_why_not.body d_why_not.scope [] [] (He.fAd K d_why_not.at_) fd := T.says.def_ 44 (d := d_why_not) rfl
theorem Tx.fun_why_not_make (T : Tx K mg) : ∃ fd, FunD K d_why_not_make.name d_why_not_make.qual d_why_not_make.params d_why_not_make.body d_why_not_make.scope [] [] (He.fAd K d_why_not_make.at_) fd := T.says.def_ 45 (d := d_why_not_make) rfl
theorem Tx.fun_why_not_under (T : Tx K mg) : ∃ fd, FunD K d_why_not_under.name d_why_not_under.qual d_why_not_under.params d_why_not_under.body d_why_not_under.scope [] [] (He.fAd K d_why_not_under.at_) fd := T.says.def_ 46 (d := d_why_not_under) rfl
theorem Tx.fun_why_not_set_or_drop (T : Tx K mg) : ∃ fd, FunD K d_why_not_set_or_drop.name d_why_not_set_or_drop.qual d_why_not_set_or_drop.params d_why_not_set_or_drop.body d_why_not_set_or_drop.scope [] [] (He.fAd K d_why_not_set_or_drop.at_) fd := T.says.def_ 47 (d := d_why_not_set_or_drop) rfl
theorem Tx.fun_has_others_below (T : Tx K mg) : ∃ fd, FunD K d_has_others_below.name d_has_others_below.qual d_has_others_below.params d_has_others_below.body d_has_others_below.scope [] [] (He.fAd K d_has_others_below.at_) fd := T.says.def_ 48 (d := d_has_others_below) rfl
theorem Tx.fun_why_not_check (T : Tx K mg) : ∃ fd, FunD K d_why_not_check.name d_why_not_check.qual d_why_not_check.params d_why_not_check.body d_why_not_check.scope [] [] (He.fAd K d_why_not_check.at_) fd := T.says.def_ 49 (d := d_why_not_check) rfl
theorem Tx.fun_do_order (T : Tx K mg) : ∃ fd, FunD K d_do_order.name d_do_order.qual d_do_order.params d_do_order.body d_do_order.scope [] [] (He.fAd K d_do_order.at_) fd := T.says.def_ 50 (d := d_do_order) rfl
theorem Tx.fun_copy_nodes (T : Tx K mg) : ∃ fd, FunD K d_copy_nodes.name d_copy_nodes.qual d_copy_nodes.params d_copy_nodes.body d_copy_nodes.scope [] [] (He.fAd K d_copy_nodes.at_) fd := T.says.def_ 51 (d := d_copy_nodes) rfl
theorem Tx.fun_do_together (T : Tx K mg) : ∃ fd, FunD K d_do_together.name d_do_together.qual d_do_together.params d_do_together.body d_do_together.scope [] [] (He.fAd K d_do_together.at_) fd := T.says.def_ 52 (d := d_do_together) rfl
theorem Tx.fun_tell_turn (T : Tx K mg) : ∃ fd, FunD K d_tell_turn.name d_tell_turn.qual d_tell_turn.params d_tell_turn.body d_tell_turn.scope [] [] (He.fAd K d_tell_turn.at_) fd := T.says.def_ 53 (d := d_tell_turn) rfl
theorem Tx.fun_tell_row (T : Tx K mg) : ∃ fd, FunD K d_tell_row.name d_tell_row.qual d_tell_row.params d_tell_row.body d_tell_row.scope [] [] (He.fAd K d_tell_row.at_) fd := T.says.def_ 54 (d := d_tell_row) rfl
theorem Tx.fun_tell_events (T : Tx K mg) : ∃ fd, FunD K d_tell_events.name d_tell_events.qual d_tell_events.params d_tell_events.body d_tell_events.scope [] [] (He.fAd K d_tell_events.at_) fd := T.says.def_ 55 (d := d_tell_events) rfl
theorem Tx.fun_tell_entries (T : Tx K mg) : ∃ fd, FunD K d_tell_entries.name d_tell_entries.qual d_tell_entries.params d_tell_entries.body d_tell_entries.scope [] [] (He.fAd K d_tell_entries.at_) fd := T.says.def_ 56 (d := d_tell_entries) rfl
theorem Tx.fun_tell_letter (T : Tx K mg) : ∃ fd, FunD K d_tell_letter.name d_tell_letter.qual d_tell_letter.params d_tell_letter.body d_tell_letter.scope [] [] (He.fAd K d_tell_letter.at_) fd := T.says.def_ 57 (d := d_tell_letter) rfl
theorem Tx.fun_tell_letters (T : Tx K mg) : ∃ fd, FunD K d_tell_letters.name d_tell_letters.qual d_tell_letters.params d_tell_letters.body d_tell_letters.scope [] [] (He.fAd K d_tell_letters.at_) fd := T.says.def_ 58 (d := d_tell_letters) rfl
theorem Tx.fun_tell_client (T : Tx K mg) : ∃ fd, FunD K d_tell_client.name d_tell_client.qual d_tell_client.params d_tell_client.body d_tell_client.scope [] [] (He.fAd K d_tell_client.at_) fd := T.says.def_ 59 (d := d_tell_client) rfl
theorem Tx.fun_tell_sessions (T : Tx K mg) : ∃ fd, FunD K d_tell_sessions.name d_tell_sessions.qual d_tell_sessions.params d_tell_sessions.body d_tell_sessions.scope [] [] (He.fAd K d_tell_sessions.at_) fd := T.says.def_ 60 (d := d_tell_sessions) rfl
theorem Tx.fun_tell_watchers (T : Tx K mg) : ∃ fd, FunD K d_tell_watchers.name d_tell_watchers.qual d_tell_watchers.params d_tell_watchers.body d_tell_watchers.scope [] [] (He.fAd K d_tell_watchers.at_) fd := T.says.def_ 61 (d := d_tell_watchers) rfl
theorem Tx.fun_tell_house (T : Tx K mg) : ∃ fd, FunD K d_tell_house.name d_tell_house.qual d_tell_house.params d_tell_house.body d_tell_house.scope [] [] (He.fAd K d_tell_house.at_) fd := T.says.def_ 62 (d := d_tell_house) rfl
theorem Tx.fun_World_init (T : Tx K mg) : ∃ fd, FunD K d_World_init.name d_World_init.qual d_World_init.params d_World_init.body d_World_init.scope [] [] (He.fAd K d_World_init.at_) fd := T.says.def_ 63 (d := d_World_init) rfl
theorem Tx.fun_World_has_client (T : Tx K mg) : ∃ fd, FunD K d_World_has_client.name d_World_has_client.qual d_World_has_client.params d_World_has_client.body d_World_has_client.scope [] [] (He.fAd K d_World_has_client.at_) fd := T.says.def_ 64 (d := d_World_has_client) rfl
theorem Tx.fun_World_hand_over (T : Tx K mg) : ∃ fd, FunD K d_World_hand_over.name d_World_hand_over.qual d_World_hand_over.params d_World_hand_over.body d_World_hand_over.scope [] [] (He.fAd K d_World_hand_over.at_) fd := T.says.def_ 65 (d := d_World_hand_over) rfl
theorem Tx.fun_answer_open (T : Tx K mg) : ∃ fd, FunD K d_answer_open.name d_answer_open.qual d_answer_open.params d_answer_open.body d_answer_open.scope [] [] (He.fAd K d_answer_open.at_) fd := T.says.def_ 66 (d := d_answer_open) rfl
theorem Tx.fun_answer_close (T : Tx K mg) : ∃ fd, FunD K d_answer_close.name d_answer_close.qual d_answer_close.params d_answer_close.body d_answer_close.scope [] [] (He.fAd K d_answer_close.at_) fd := T.says.def_ 67 (d := d_answer_close) rfl
theorem Tx.fun_answer_touch (T : Tx K mg) : ∃ fd, FunD K d_answer_touch.name d_answer_touch.qual d_answer_touch.params d_answer_touch.body d_answer_touch.scope [] [] (He.fAd K d_answer_touch.at_) fd := T.says.def_ 68 (d := d_answer_touch) rfl
theorem Tx.fun_answer_tick (T : Tx K mg) : ∃ fd, FunD K d_answer_tick.name d_answer_tick.qual d_answer_tick.params d_answer_tick.body d_answer_tick.scope [] [] (He.fAd K d_answer_tick.at_) fd := T.says.def_ 69 (d := d_answer_tick) rfl
theorem Tx.fun_answer_together (T : Tx K mg) : ∃ fd, FunD K d_answer_together.name d_answer_together.qual d_answer_together.params d_answer_together.body d_answer_together.scope [] [] (He.fAd K d_answer_together.at_) fd := T.says.def_ 70 (d := d_answer_together) rfl
theorem Tx.fun_answer_get (T : Tx K mg) : ∃ fd, FunD K d_answer_get.name d_answer_get.qual d_answer_get.params d_answer_get.body d_answer_get.scope [] [] (He.fAd K d_answer_get.at_) fd := T.says.def_ 71 (d := d_answer_get) rfl
theorem Tx.fun_answer_list (T : Tx K mg) : ∃ fd, FunD K d_answer_list.name d_answer_list.qual d_answer_list.params d_answer_list.body d_answer_list.scope [] [] (He.fAd K d_answer_list.at_) fd := T.says.def_ 72 (d := d_answer_list) rfl
theorem Tx.fun_answer_watch (T : Tx K mg) : ∃ fd, FunD K d_answer_watch.name d_answer_watch.qual d_answer_watch.params d_answer_watch.body d_answer_watch.scope [] [] (He.fAd K d_answer_watch.at_) fd := T.says.def_ 73 (d := d_answer_watch) rfl
theorem Tx.fun_answer_ask (T : Tx K mg) : ∃ fd, FunD K d_answer_ask.name d_answer_ask.qual d_answer_ask.params d_answer_ask.body d_answer_ask.scope [] [] (He.fAd K d_answer_ask.at_) fd := T.says.def_ 74 (d := d_answer_ask) rfl
theorem Tx.fun_answer_compact (T : Tx K mg) : ∃ fd, FunD K d_answer_compact.name d_answer_compact.qual d_answer_compact.params d_answer_compact.body d_answer_compact.scope [] [] (He.fAd K d_answer_compact.at_) fd := T.says.def_ 75 (d := d_answer_compact) rfl
theorem Tx.fun_answer_take (T : Tx K mg) : ∃ fd, FunD K d_answer_take.name d_answer_take.qual d_answer_take.params d_answer_take.body d_answer_take.scope [] [] (He.fAd K d_answer_take.at_) fd := T.says.def_ 76 (d := d_answer_take) rfl
theorem Tx.fun_answer_keep (T : Tx K mg) : ∃ fd, FunD K d_answer_keep.name d_answer_keep.qual d_answer_keep.params d_answer_keep.body d_answer_keep.scope [] [] (He.fAd K d_answer_keep.at_) fd := T.says.def_ 77 (d := d_answer_keep) rfl
theorem Tx.fun_answer_lose (T : Tx K mg) : ∃ fd, FunD K d_answer_lose.name d_answer_lose.qual d_answer_lose.params d_answer_lose.body d_answer_lose.scope [] [] (He.fAd K d_answer_lose.at_) fd := T.says.def_ 78 (d := d_answer_lose) rfl
theorem Tx.fun_answer_letters (T : Tx K mg) : ∃ fd, FunD K d_answer_letters.name d_answer_letters.qual d_answer_letters.params d_answer_letters.body d_answer_letters.scope [] [] (He.fAd K d_answer_letters.at_) fd := T.says.def_ 79 (d := d_answer_letters) rfl
theorem Tx.fun_answer_client (T : Tx K mg) : ∃ fd, FunD K d_answer_client.name d_answer_client.qual d_answer_client.params d_answer_client.body d_answer_client.scope [] [] (He.fAd K d_answer_client.at_) fd := T.says.def_ 80 (d := d_answer_client) rfl
theorem Tx.fun_answer_house (T : Tx K mg) : ∃ fd, FunD K d_answer_house.name d_answer_house.qual d_answer_house.params d_answer_house.body d_answer_house.scope [] [] (He.fAd K d_answer_house.at_) fd := T.says.def_ 81 (d := d_answer_house) rfl
theorem Tx.fun_answer_log (T : Tx K mg) : ∃ fd, FunD K d_answer_log.name d_answer_log.qual d_answer_log.params d_answer_log.body d_answer_log.scope [] [] (He.fAd K d_answer_log.at_) fd := T.says.def_ 82 (d := d_answer_log) rfl
theorem Tx.fun_answer_call (T : Tx K mg) : ∃ fd, FunD K d_answer_call.name d_answer_call.qual d_answer_call.params d_answer_call.body d_answer_call.scope [] [] (He.fAd K d_answer_call.at_) fd := T.says.def_ 83 (d := d_answer_call) rfl
theorem Tx.fun_Reader_init (T : Tx K mg) : ∃ fd, FunD K d_Reader_init.name d_Reader_init.qual d_Reader_init.params d_Reader_init.body d_Reader_init.scope [] [] (He.fAd K d_Reader_init.at_) fd := T.says.def_ 84 (d := d_Reader_init) rfl
theorem Tx.fun_Reader_has_more (T : Tx K mg) : ∃ fd, FunD K d_Reader_has_more.name d_Reader_has_more.qual d_Reader_has_more.params d_Reader_has_more.body d_Reader_has_more.scope [] [] (He.fAd K d_Reader_has_more.at_) fd := T.says.def_ 85 (d := d_Reader_has_more) rfl
theorem Tx.fun_Reader_read_number (T : Tx K mg) : ∃ fd, FunD K d_Reader_read_number.name d_Reader_read_number.qual d_Reader_read_number.params d_Reader_read_number.body d_Reader_read_number.scope [] [] (He.fAd K d_Reader_read_number.at_) fd := T.says.def_ 86 (d := d_Reader_read_number) rfl
theorem Tx.fun_Reader_read_row (T : Tx K mg) : ∃ fd, FunD K d_Reader_read_row.name d_Reader_read_row.qual d_Reader_read_row.params d_Reader_read_row.body d_Reader_read_row.scope [] [] (He.fAd K d_Reader_read_row.at_) fd := T.says.def_ 87 (d := d_Reader_read_row) rfl
theorem Tx.fun_Reader_read_rows (T : Tx K mg) : ∃ fd, FunD K d_Reader_read_rows.name d_Reader_read_rows.qual d_Reader_read_rows.params d_Reader_read_rows.body d_Reader_read_rows.scope [] [] (He.fAd K d_Reader_read_rows.at_) fd := T.says.def_ 88 (d := d_Reader_read_rows) rfl
theorem Tx.fun_Line_init (T : Tx K mg) : ∃ fd, FunD K d_Line_init.name d_Line_init.qual d_Line_init.params d_Line_init.body d_Line_init.scope [] [] (He.fAd K d_Line_init.at_) fd := T.says.def_ 89 (d := d_Line_init) rfl
theorem Tx.fun_Line_begin_world (T : Tx K mg) : ∃ fd, FunD K d_Line_begin_world.name d_Line_begin_world.qual d_Line_begin_world.params d_Line_begin_world.body d_Line_begin_world.scope [] [] (He.fAd K d_Line_begin_world.at_) fd := T.says.def_ 90 (d := d_Line_begin_world) rfl
theorem Tx.fun_Line_answer (T : Tx K mg) : ∃ fd, FunD K d_Line_answer.name d_Line_answer.qual d_Line_answer.params d_Line_answer.body d_Line_answer.scope [] [] (He.fAd K d_Line_answer.at_) fd := T.says.def_ 91 (d := d_Line_answer) rfl
theorem Tx.fun_answers (T : Tx K mg) : ∃ fd, FunD K d_answers.name d_answers.qual d_answers.params d_answers.body d_answers.scope [] [] (He.fAd K d_answers.at_) fd := T.says.def_ 92 (d := d_answers) rfl
end
end Wt

set_option Elab.async false
set_option linter.all false
set_option maxRecDepth 100000
set_option maxHeartbeats 0
namespace Wt
open PySem PySem.Spec PyProof.Rows L2
noncomputable abbrev endS (w : World) (os : OsState) : Option PySem.W.SharedT := HeadRun.endF (HeadRun.stepQ (HeadRun.denQ HeadRun.tabQ) R.prog w) 9000 R.prog w os
noncomputable abbrev lookA (w : World) (s : PySem.W.SharedT) : Bool := HeadRun.looksF R.prog (PySem.W.boot_heap w.params) s.abs
noncomputable abbrev seenA (s : PySem.W.SharedT) := HeadRun.seenQ qv names (importedModules R.prog.main.body) (fun s => PySem.W.xlAt qv [] s && PySem.W.recOk [] s) s.abs
theorem runFA (w : World) (os : OsState) : (endS (w.withFollow "special-get-raises" false) os).map (fun s => (lookA (w.withFollow "special-get-raises" false) s, seenA s)) = some (true, PySem.W.openGood qv names) := by
  kernel_rfl
theorem runTA (w : World) (os : OsState) : (endS (w.withFollow "special-get-raises" true) os).map (fun s => (lookA (w.withFollow "special-get-raises" true) s, seenA s)) = some (true, PySem.W.openGood qv names) := by
  kernel_rfl
theorem runFB (w : World) (os : OsState) : (endS (w.withFollow "special-get-raises" false) os).map ob = some (He.valD fn, true) := by
  kernel_rfl
theorem runTB (w : World) (os : OsState) : (endS (w.withFollow "special-get-raises" true) os).map ob = some (He.valD fn, true) := by
  kernel_rfl
theorem map3 {α β γ δ : Type} {x : Option α} {f : α → β} {g : α → γ} {h : α → δ} {a : β} {b : γ} {c : δ} (h1 : x.map (fun s => (f s, g s)) = some (a, b)) (h2 : x.map h = some c) : x.map (fun s => (f s, g s, h s)) = some (a, b, c) := by
  cases x with
  | none => cases h1
  | some s =>
    have e1 := Option.some.inj h1
    have e2 : h s = c := Option.some.inj h2
    have e3 : f s = a := congrArg Prod.fst e1
    have e4 : g s = b := congrArg Prod.snd e1
    show some (f s, g s, h s) = _
    rw [e2, e3, e4]
theorem runF (w : World) : HeadRun.RunEqS R qv hk ob 9000 names (w.withFollow "special-get-raises" false) := fun os =>
  map3 (x := endS (w.withFollow "special-get-raises" false) os) (f := lookA (w.withFollow "special-get-raises" false)) (g := seenA) (h := ob) (runFA w os) (runFB w os)
theorem runT (w : World) : HeadRun.RunEqS R qv hk ob 9000 names (w.withFollow "special-get-raises" true) := fun os =>
  map3 (x := endS (w.withFollow "special-get-raises" true) os) (f := lookA (w.withFollow "special-get-raises" true)) (g := seenA) (h := ob) (runTA w os) (runTB w os)
theorem run (w : World) : HeadRun.RunEqS R qv hk ob 9000 names w := PySem.W.byRow2 "special-get-raises" runF runT w
end Wt

set_option Elab.async false
set_option linter.all false
set_option maxRecDepth 100000
set_option maxHeartbeats 2000000
namespace Wt
open PySem PySem.Spec PyProof.Rows L2
section
variable {K : PySem.W.Frag} {H H' : Hp} {M : List Addr} {W : WAd} {s : Ag07.State}
theorem ClientAt.keep {i : Nat} {a d : Addr} {c : Ag07.Client} (k : Kp M H H') (na : a ∉ M) (nd : d ∉ M) (h : ClientAt K H i a d c) : ClientAt K H' i a d c := by
  obtain ⟨dx, pa, kvs, h1, h2, h3, h4⟩ := h
  exact ⟨dx, pa, kvs, k.at_ h1 na, k.tup h2, k.at_ h3 nd, h4⟩
theorem NodesAt.keep {d : Addr} {ns : List Ag07.Node} (k : Kp M H H') (n : d ∉ M) (h : NodesAt K H d ns) : NodesAt K H' d ns := by
  obtain ⟨kvs, h1, h2⟩ := h
  exact ⟨kvs, k.at_ h1 n, Paired.imp h2 fun _ _ h => ⟨h.1, h.2.keep k⟩⟩
namespace WAt
theorem out (A : WAt K H W s) : W.wd ∉ W.mu ∧ W.net ∉ W.mu ∧ W.cl ∉ W.mu := by
  have h := A.nd
  simp only [WAd.all, List.nodup_cons, List.mem_cons, not_or] at h
  grind
theorem k_world (A : WAt K H W s) (k : Kp M H H') (u : ∀ a ∈ M, a ∈ W.mu) : ∃ dx, H' W.wd = some (.ins (C_World K) dx [("net", .ref W.net), ("house", .ref W.hs), ("clients", .ref W.cl)]) := by
  obtain ⟨dx, h⟩ := A.world
  exact ⟨dx, k.at_ h fun z => A.out.1 (u _ z)⟩
theorem k_neto (A : WAt K H W s) (k : Kp M H H') (u : ∀ a ∈ M, a ∈ W.mu) : ∃ dx, H' W.net = some (.ins (C_Net K) dx [("letters", .ref W.ll)]) := by
  obtain ⟨dx, h⟩ := A.neto
  exact ⟨dx, k.at_ h fun z => A.out.2.1 (u _ z)⟩
theorem k_lets (A : WAt K H W s) (k : Kp M H H') (u : ∀ a ∈ M, a ∈ W.mu) (n : W.ll ∉ M) : ∃ vs, H' W.ll = some (.lst vs) ∧ Paired (LetterAt K W.mu H') vs s.letters := by
  obtain ⟨vs, h, p⟩ := A.lets
  exact ⟨vs, k.at_ h n, Paired.imp p fun _ _ h => h.keep k u⟩
theorem k_house (A : WAt K H W s) (k : Kp M H H') (n : W.hs ∉ M) : ∃ dx, H' W.hs = some (.ins (C_House K) dx (HoF.fs ⟨.int (s.life : Nat), .ref W.net, .int (s.time : Nat), .int (s.opened : Nat), .ref W.ds, .ref W.dn, .ref W.lt, .int (s.base : Nat), .ref W.lw⟩)) := by
  obtain ⟨dx, h⟩ := A.house
  exact ⟨dx, k.at_ h n⟩
theorem k_nodes (A : WAt K H W s) (k : Kp M H H') (n : W.dn ∉ M) : ∃ ns, NodesAt K H' W.dn ns ∧ ns.Perm s.nodes := by
  obtain ⟨ns, h, p⟩ := A.nodes
  exact ⟨ns, h.keep k n, p⟩
theorem k_turns (A : WAt K H W s) (k : Kp M H H') (u : ∀ a ∈ M, a ∈ W.mu) (n : W.lt ∉ M) : ∃ vs, H' W.lt = some (.lst vs) ∧ Paired (EventsAt K W.mu H') vs s.log := by
  obtain ⟨vs, h, p⟩ := A.turns
  exact ⟨vs, k.at_ h n, Paired.imp p fun _ _ h => h.keep k u⟩
theorem pw_keep {ws : List Addr} {l : List Ag07.Watcher} (k : Kp M H H') (p : Paired (WatcherAt K H) ws l) (n : ∀ a ∈ ws, a ∉ M) : Paired (WatcherAt K H') ws l := by
  induction p with
  | nil => exact .nil
  | cons x _ ih => exact .cons (x.keep k (n _ List.mem_cons_self)) (ih fun a h => n a (List.mem_cons_of_mem _ h))
theorem k_watch (A : WAt K H W s) (k : Kp M H H') (n : W.lw ∉ M) (n2 : ∀ a ∈ W.ws, a ∉ M) : H' W.lw = some (.lst (W.ws.map V.ref)) ∧ Paired (WatcherAt K H') W.ws s.watchers :=
  ⟨k.at_ A.watch.1 n, pw_keep k A.watch.2 n2⟩
theorem k_clis (A : WAt K H W s) (k : Kp M H H') (u : ∀ a ∈ M, a ∈ W.mu) (n1 : ∀ a ∈ W.cs, a ∉ M) (n2 : ∀ a ∈ W.es, a ∉ M) : H' W.cl = some (.lst (W.cs.map V.ref)) ∧ W.cs.length = 3 ∧ W.es.length = 3 ∧ s.clients.length = 3 ∧
    ∀ i a d c, W.cs[i]? = some a → W.es[i]? = some d → s.clients[i]? = some c → ClientAt K H' i a d c := by
  obtain ⟨h1, h2, h3, h4, h5⟩ := A.clis
  exact ⟨k.at_ h1 fun z => A.out.2.2 (u _ z), h2, h3, h4, fun i a d c e1 e2 e3 => (h5 i a d c e1 e2 e3).keep k (n1 _ (List.mem_of_getElem? e1)) (n2 _ (List.mem_of_getElem? e2))⟩
theorem nds (A : WAt K H W s) : W.hs ∉ W.ll :: W.ds :: W.dn :: W.lt :: W.lw :: (W.ws ++ (W.cs ++ W.es)) ∧ W.ll ∉ W.ds :: W.dn :: W.lt :: W.lw :: (W.ws ++ (W.cs ++ W.es)) ∧ W.ds ∉ W.dn :: W.lt :: W.lw :: (W.ws ++ (W.cs ++ W.es)) ∧
    W.dn ∉ W.lt :: W.lw :: (W.ws ++ (W.cs ++ W.es)) ∧ W.lt ∉ W.lw :: (W.ws ++ (W.cs ++ W.es)) ∧ W.lw ∉ (W.ws ++ (W.cs ++ W.es)) ∧ (W.ws ++ (W.cs ++ W.es)).Nodup := by
  have h := A.nd
  simp only [WAd.all, WAd.mu, List.nodup_cons] at h
  exact ⟨h.2.2.2.1, h.2.2.2.2.1, h.2.2.2.2.2.1, h.2.2.2.2.2.2.1, h.2.2.2.2.2.2.2.1, h.2.2.2.2.2.2.2.2.1, h.2.2.2.2.2.2.2.2.2⟩
/-- objects are made, nothing that stood changes -/
theorem keep (A : WAt K H W s) (k : Kp [] H H') : WAt K H' W s :=
  have u : ∀ a ∈ ([] : List Addr), a ∈ W.mu := fun a h => by cases h
  have n : ∀ a : Addr, a ∉ ([] : List Addr) := fun a h => by cases h
  ⟨A.nd, A.k_world k u, A.k_neto k u, A.k_lets k u (n _), A.k_house k (n _), k.at_ A.seen (n _), A.k_nodes k (n _), A.k_turns k u (n _), A.k_watch k (n _) (fun _ _ => n _), A.k_clis k u (fun _ _ => n _) (fun _ _ => n _)⟩
/-- something far off changes -/
theorem far (A : WAt K H W s) (k : Kp M H H') (n : ∀ a ∈ W.all, a ∉ M) (nl : ∀ a xs, H a = some (.lst xs) → a ∈ M → (∃ z, V.int z ∈ xs) ∨ (s.log = [] ∧ s.letters = []) := by intro a xs e m; simp_all) : WAt K H' W s := by
  have ni : ∀ a ∈ W.mu, a ∉ M := fun a ha => n a (by simp only [WAd.all, List.mem_cons]; grind)
  obtain ⟨dw, hw⟩ := A.world
  obtain ⟨dn, hn⟩ := A.neto
  obtain ⟨lv, hl, pl⟩ := A.lets
  obtain ⟨dh, hh⟩ := A.house
  obtain ⟨tv, ht, pt⟩ := A.turns
  have refs : ∀ {β : Type} {P : V → β → Prop} {vs : List V} {l : List β}, Paired P vs l → (∀ v x, P v x → ∃ a, v = .ref a) → ¬ ∃ z, V.int z ∈ vs := by
    rintro β P vs l p hP ⟨z, hz⟩
    obtain ⟨i, hi⟩ := List.mem_iff_getElem?.mp hz
    obtain ⟨b, _, hb⟩ := Paired.get p hi
    obtain ⟨a, e⟩ := hP _ _ hb
    cases e
  have ev : ¬ (s.log = [] ∧ s.letters = []) → ∀ v es, EventsAt K W.mu H v es → EventsAt K W.mu H' v es := by
    rintro no v es ⟨a, vs, e, na, h, p⟩
    exact ⟨a, vs, e, na, k.at_ h (fun m => (nl a vs h m).elim (refs p fun _ _ h => by obtain ⟨a, _, _, e, _⟩ := h; exact ⟨a, e⟩) no), Paired.imp p fun _ _ h => h.keep k⟩
  have en : ¬ (s.log = [] ∧ s.letters = []) → ∀ v es, EntriesAt K W.mu H v es → EntriesAt K W.mu H' v es := by
    rintro no v es ⟨a, vs, e, na, h, p⟩
    exact ⟨a, vs, e, na, k.at_ h (fun m => (nl a vs h m).elim (refs p fun _ _ h => EntryAt.ref h) no), Paired.imp p fun _ _ h => h.keep k⟩
  have all : Paired (LetterAt K W.mu H') lv s.letters ∧ Paired (EventsAt K W.mu H') tv s.log := by
    by_cases no : s.log = [] ∧ s.letters = []
    · rw [no.1] at pt; rw [no.2] at pl
      cases pt; cases pl
      rw [no.1, no.2]
      exact ⟨.nil, .nil⟩
    · refine ⟨Paired.imp pl ?_, Paired.imp pt (ev no)⟩
      rintro v l ⟨a, dx, pa, e1, e2, e, h, hp, he, hz⟩
      exact ⟨a, dx, pa, e1, e2, e, k.imm h, k.tup hp, ev no _ _ he, en no _ _ hz⟩
  refine ⟨A.nd, ⟨dw, k.at_ hw (n _ (by simp [WAd.all]))⟩, ⟨dn, k.at_ hn (n _ (by simp [WAd.all]))⟩, ⟨lv, k.at_ hl (ni _ (by simp [WAd.mu])), all.1⟩, ⟨dh, k.at_ hh (ni _ (by simp [WAd.mu]))⟩, k.at_ A.seen (ni _ (by simp [WAd.mu])), A.k_nodes k (ni _ (by simp [WAd.mu])),
    ⟨tv, k.at_ ht (ni _ (by simp [WAd.mu])), all.2⟩, A.k_watch k (ni _ (by simp [WAd.mu])) (fun a ha => ni a (by simp [WAd.mu, ha])), ?_⟩
  obtain ⟨h1, h2, h3, h4, h5⟩ := A.clis
  exact ⟨k.at_ h1 (n _ (by simp [WAd.all])), h2, h3, h4, fun i a d c e1 e2 e3 => (h5 i a d c e1 e2 e3).keep k (ni _ (by simp [WAd.mu, List.mem_of_getElem? e1])) (ni _ (by simp [WAd.mu, List.mem_of_getElem? e2]))⟩
/-- what may change is there -/
theorem mu_there (A : WAt K H W s) : ∀ a ∈ W.mu, H a ≠ none := by
  intro a h
  obtain ⟨dx, hh⟩ := A.house
  obtain ⟨ns, ⟨kvs, hn, _⟩, _⟩ := A.nodes
  obtain ⟨v1, hl, _⟩ := A.lets
  obtain ⟨v2, ht, _⟩ := A.turns
  have hw : ∀ a ∈ W.ws, H a ≠ none := fun a ha => by
    obtain ⟨i, hi⟩ := List.mem_iff_getElem?.mp ha
    obtain ⟨b, _, dx, pa, h, _⟩ := Paired.get A.watch.2 hi
    rw [h]; simp
  obtain ⟨c1, c2, c3, c4, c5⟩ := A.clis
  have hc : ∀ a ∈ W.cs, H a ≠ none := fun a ha => by
    obtain ⟨i, hi⟩ := List.mem_iff_getElem?.mp ha
    have li : i < 3 := by have := (List.getElem?_eq_some_iff.mp hi).1; omega
    obtain ⟨dx, pa, kv, h, _⟩ := c5 i a _ _ hi (List.getElem?_eq_getElem (by omega)) (List.getElem?_eq_getElem (by omega))
    rw [h]; simp
  have he : ∀ a ∈ W.es, H a ≠ none := fun a ha => by
    obtain ⟨i, hi⟩ := List.mem_iff_getElem?.mp ha
    have li : i < 3 := by have := (List.getElem?_eq_some_iff.mp hi).1; omega
    obtain ⟨dx, pa, kv, _, _, h, _⟩ := c5 i _ a _ (List.getElem?_eq_getElem (by omega)) hi (List.getElem?_eq_getElem (by omega))
    rw [h]; simp
  have hw1 := A.watch.1
  have hs := A.seen
  simp only [WAd.mu, List.mem_cons, List.mem_append] at h
  rcases h with rfl | rfl | rfl | rfl | rfl | rfl | h | h | h
  · rw [hh]; simp
  · rw [hl]; simp
  · rw [hs]; simp
  · rw [hn]; simp
  · rw [ht]; simp
  · rw [hw1]; simp
  · exact hw a h
  · exact hc a h
  · exact he a h
/-- the row of letters, changed -/
theorem put_ll (A : WAt K H W s) {vs : List V} {ls : List Ag07.Letter} (p : Paired (LetterAt K W.mu H) vs ls) :
    WAt K (upd H W.ll (.lst vs)) W { s with letters := ls } ∧ Kp [W.ll] H (upd H W.ll (.lst vs)) := by
  obtain ⟨v0, h0, _⟩ := A.lets
  have k : Kp [W.ll] H (upd H W.ll (.lst vs)) := (Kp.refl _ _).put (by simp) h0
  have u : ∀ a ∈ [W.ll], a ∈ W.mu := by simp [WAd.mu]
  have nd := A.nds
  refine ⟨⟨A.nd, A.k_world k u, A.k_neto k u, ⟨vs, upd_same, Paired.imp p fun _ _ h => h.keep k u⟩, A.k_house k ?_, k.at_ A.seen ?_, A.k_nodes k ?_, A.k_turns k u ?_, A.k_watch k ?_ ?_, A.k_clis k u ?_ ?_⟩, k⟩ <;> grind
/-- the house's own attributes, changed -/
theorem put_hs (A : WAt K H W s) {dx : Addr} {life time opened bs : Nat} (h0 : ∃ fs, H W.hs = some (.ins (C_House K) dx (HoF.fs fs))) :
    WAt K (upd H W.hs (.ins (C_House K) dx (HoF.fs ⟨.int life, .ref W.net, .int time, .int opened, .ref W.ds, .ref W.dn, .ref W.lt, .int bs, .ref W.lw⟩))) W { s with life := life, time := time, opened := opened, base := bs } ∧
    Kp [W.hs] H (upd H W.hs (.ins (C_House K) dx (HoF.fs ⟨.int life, .ref W.net, .int time, .int opened, .ref W.ds, .ref W.dn, .ref W.lt, .int bs, .ref W.lw⟩))) := by
  obtain ⟨fs, h0⟩ := h0
  have k : Kp [W.hs] H (upd H W.hs (.ins (C_House K) dx (HoF.fs ⟨.int life, .ref W.net, .int time, .int opened, .ref W.ds, .ref W.dn, .ref W.lt, .int bs, .ref W.lw⟩))) := (Kp.refl _ _).put (by simp) h0
  have u : ∀ a ∈ [W.hs], a ∈ W.mu := by simp [WAd.mu]
  have nd := A.nds
  refine ⟨⟨A.nd, A.k_world k u, A.k_neto k u, A.k_lets k u ?_, ⟨dx, upd_same⟩, k.at_ A.seen ?_, A.k_nodes k ?_, A.k_turns k u ?_, A.k_watch k ?_ ?_, A.k_clis k u ?_ ?_⟩, k⟩ <;> grind
theorem put_ds (A : WAt K H W s) (l : List Ag07.Session) :
    WAt K (upd H W.ds (.dK (seenOf l))) W { s with sessions := l } ∧ Kp [W.ds] H (upd H W.ds (.dK (seenOf l))) := by
  have k : Kp [W.ds] H (upd H W.ds (.dK (seenOf l))) := (Kp.refl _ _).put (by simp) A.seen
  have u : ∀ a ∈ [W.ds], a ∈ W.mu := by simp [WAd.mu]
  have nd := A.nds
  refine ⟨⟨A.nd, A.k_world k u, A.k_neto k u, A.k_lets k u ?_, A.k_house k ?_, upd_same, A.k_nodes k ?_, A.k_turns k u ?_, A.k_watch k ?_ ?_, A.k_clis k u ?_ ?_⟩, k⟩ <;> grind
theorem put_dn (A : WAt K H W s) {kvs : List (List Key × V)} {ns l : List Ag07.Node} (p : Paired (fun (kv : List Key × V) (n : Ag07.Node) => kv.1 = pkey n.path ∧ NodeAt K H kv.2 n) kvs ns) (pm : ns.Perm l) :
    WAt K (upd H W.dn (.dT kvs)) W { s with nodes := l } ∧ Kp [W.dn] H (upd H W.dn (.dT kvs)) := by
  obtain ⟨ns0, ⟨kvs0, h0, _⟩, _⟩ := A.nodes
  have k : Kp [W.dn] H (upd H W.dn (.dT kvs)) := (Kp.refl _ _).put (by simp) h0
  have u : ∀ a ∈ [W.dn], a ∈ W.mu := by simp [WAd.mu]
  have nd := A.nds
  refine ⟨⟨A.nd, A.k_world k u, A.k_neto k u, A.k_lets k u ?_, A.k_house k ?_, k.at_ A.seen ?_, ⟨ns, ⟨kvs, upd_same, Paired.imp p fun _ _ h => ⟨h.1, h.2.keep k⟩⟩, pm⟩, A.k_turns k u ?_, A.k_watch k ?_ ?_, A.k_clis k u ?_ ?_⟩, k⟩ <;> grind
theorem put_lt (A : WAt K H W s) {vs : List V} {ls : List (List Ag07.Event)} (p : Paired (EventsAt K W.mu H) vs ls) :
    WAt K (upd H W.lt (.lst vs)) W { s with log := ls } ∧ Kp [W.lt] H (upd H W.lt (.lst vs)) := by
  obtain ⟨v0, h0, _⟩ := A.turns
  have k : Kp [W.lt] H (upd H W.lt (.lst vs)) := (Kp.refl _ _).put (by simp) h0
  have u : ∀ a ∈ [W.lt], a ∈ W.mu := by simp [WAd.mu]
  have nd := A.nds
  refine ⟨⟨A.nd, A.k_world k u, A.k_neto k u, A.k_lets k u ?_, A.k_house k ?_, k.at_ A.seen ?_, A.k_nodes k ?_, ⟨vs, upd_same, Paired.imp p fun _ _ h => h.keep k u⟩, A.k_watch k ?_ ?_, A.k_clis k u ?_ ?_⟩, k⟩ <;> grind
theorem pw_set {ws : List Addr} {l : List Ag07.Watcher} {a : Addr} {x : Ag07.Watcher} (k : Kp [a] H H') (p : Paired (WatcherAt K H) ws l) (nd : ws.Nodup) : ∀ (i : Nat), ws[i]? = some a → WatcherAt K H' a x → Paired (WatcherAt K H') ws (l.set i x) := by
  induction p with
  | nil => intro i h; simp at h
  | @cons b y bs ys h t ih =>
    intro i hi hx
    rw [List.nodup_cons] at nd
    cases i with
    | zero =>
      simp at hi; subst hi
      exact .cons hx (pw_keep k t fun c hc z => nd.1 (by rw [← List.mem_singleton.mp z]; exact hc))
    | succ i =>
      have hm : a ∈ bs := List.mem_of_getElem? (by simpa using hi)
      refine .cons (h.keep k fun z => nd.1 ?_) (ih nd.2 i (by simpa using hi) hx)
      rw [List.mem_singleton.mp z]; exact hm
/-- a watcher, changed -/
theorem put_w (A : WAt K H W s) {o : HO} {a : Addr} {i : Nat} {x : Ag07.Watcher} (hi : W.ws[i]? = some a) (hx : WatcherAt K (upd H a o) a x) :
    WAt K (upd H a o) W { s with watchers := s.watchers.set i x } ∧ Kp [a] H (upd H a o) := by
  obtain ⟨y, hy, dx, pa, h0, _⟩ := Paired.get A.watch.2 hi
  have k : Kp [a] H (upd H a o) := (Kp.refl _ _).put (by simp) h0
  have ma : a ∈ W.ws := List.mem_of_getElem? hi
  have u : ∀ b ∈ [a], b ∈ W.mu := by intro b hb; rw [List.mem_singleton.mp hb]; simp [WAd.mu, ma]
  have nd := A.nds
  have nw : W.ws.Nodup := (List.nodup_append.mp nd.2.2.2.2.2.2).1
  have dj := (List.nodup_append.mp nd.2.2.2.2.2.2).2.2
  refine ⟨⟨A.nd, A.k_world k u, A.k_neto k u, A.k_lets k u ?_, A.k_house k ?_, k.at_ A.seen ?_, A.k_nodes k ?_, A.k_turns k u ?_, ⟨k.at_ A.watch.1 ?_, pw_set k A.watch.2 nw i hi hx⟩, A.k_clis k u ?_ ?_⟩, k⟩ <;> grind
end WAt
end
end Wt

set_option Elab.async false
set_option linter.all false
set_option maxRecDepth 100000
set_option maxHeartbeats 2000000
namespace Wt
open PySem PySem.Spec PyProof.Rows L2
section
variable {w : World} {K : PySem.W.Frag} {mg : Str → Option Value} {base : Heap}
theorem sizeLine_big {n : Nat} (h : n ≤ 1000000) : n < sizeLine := Nat.lt_of_le_of_lt h (by decide)
theorem take_snoc {α : Type} {l : List α} {j : Nat} {x : α} (h : l[j]? = some x) : l.take (j + 1) = l.take j ++ [x] := by
  rw [List.take_succ, h]; rfl
theorem map_get {α β : Type} {f : α → β} {l : List α} {j : Nat} {y : β} (h : (l.map f)[j]? = some y) : ∃ x, l[j]? = some x ∧ y = f x := by
  rw [List.getElem?_map] at h
  cases e : l[j]? with
  | none => rw [e] at h; cases h
  | some x => rw [e] at h; exact ⟨x, rfl, (Option.some.inj h).symm⟩
theorem tYes_if {σ : L2.St} {H : Hp} {P Q : Hp → Prop} (h : P H) : tYes σ H (fun b H3 => if b = true then P H3 else Q H3) := by
  unfold tYes; exact iteT h
/-! ### paths -/
/-- numbers (a tuple of whole numbers from 0 on) are a path of so many numbers at least -/
def pm_is_path_or_empty (K : PySem.W.Frag) : Pm := fun vs H Q => ∃ a, ∃ p : List Nat, vs = [.ref a] ∧ H a = some (.tup (pvs p)) ∧ p.length ≤ 1000 ∧
  ∀ H', Kp [] H H' → Q (.bl (Ag07.isPath 0 p)) H'
theorem ok_is_path_or_empty (T : Tx K mg) : HasFn Prog w K mg base 1 (He.fAd K d_is_path_or_empty.at_) p_is_path_or_empty (pm_is_path_or_empty K) := by
  refine mkFn T.fun_is_path_or_empty S_is_path_or_empty (fun _ _ _ _ _ _ us hl => match us, hl with | [_], _ => rfl) ?_ fun cdv A outer s H E hr => ⟨_,
    (pss_one (ps_ret (pe_and (pe_cmpR op_le (pe_callB call_len (by rfl) T.free_len PySem.boot_len (pa_cons (pv 0) pa_nil)) (pe_gint (by rfl) T.int_LONGEST) (nomark _)) (pe_one (pe_callB (cr_all rfl) (by rfl) T.free_all (by decide +kernel) (pa_cons (pe_lc (own := [("number", 1)]) (g := gName 1) (tt := tYes) (te := (tOp (rI0 fun i j => .bl (decide (i ≤ j))) (tVar 1) (tC (.int (9))))) rfl S_is_path_or_empty.nd (pi_tup (pv 0)) (blkOk_by (own := [("number", 1)]) (N := n_is_path_or_empty) (sc := sc_is_path_or_empty) (by decide +kernel)) (fun _ _ _ _ _ => pg_name (i := 1) S_is_path_or_empty.nd rfl (Or.inl rfl)) (fun _ _ _ _ _ => pts_nil) (fun _ _ _ _ _ => (pe_cmpR op_le (pv 1) (pe_gint (by rfl) T.int_GREATEST) (nomark _)))) pa_nil)))))), ?_⟩
  · rintro vs H Q ⟨a, p, rfl, _⟩; rfl
  · rintro vs Q ⟨a, p, rfl, ha, hl, q⟩
    refine ⟨_, rfl, _, p.length, rfl, Or.inr ⟨_, SqT.of ha, by simp⟩, _, _, rfl, rfl, _, rfl, ite2 (fun h => ?_) (fun h => ?_)⟩
    · have h3 : p.length ≤ 3 := by have := of_decide_eq_true h; omega
      refine ⟨_, rfl, a, rfl, ⟨_, SqT.of ha⟩, fun D hD => lc_tup (K := K) (a := a) (xs := pvs p) (fun i H' => Kp [] H H' ∧ H' D = some (.lst ((p.take i).map fun n => V.bl (decide (n ≤ 9))))) ⟨(Kp.refl _ _).new hD, upd_same⟩ (fun i H' _ h => SqT.of (h.1.tup ha)) ?_ ?_⟩
      · rintro i x H' hx ⟨k, hd⟩
        obtain ⟨n, hn, rfl⟩ := map_get hx
        refine ⟨rfl, tYes_if ?_⟩
        refine ⟨_, rfl, _, _, rfl, rfl, _, hd, ?_, k.own hD, ?_⟩
        · rw [List.length_map, List.length_take]; exact sizeLine_big (by omega)
        · rw [upd_same, take_snoc hn, List.map_append]
          have e : decide ((n : Int) ≤ 9) = decide (n ≤ 9) := decide_eq_decide.mpr (by omega)
          show some (HO.lst (_ ++ [V.bl (decide ((n : Int) ≤ 9))])) = _
          rw [e]; rfl
      · rintro H' ⟨k, hd⟩
        rw [List.length_map, List.take_length] at hd
        refine ⟨D, p.map fun n => decide (n ≤ 9), rfl, SqL.of (by rw [hd, List.map_map]; rfl), ?_⟩
        have e : ((p.map fun n => decide (n ≤ 9)).all id) = Ag07.isPath 0 p := by
          unfold Ag07.isPath
          rw [List.all_map]
          simp [h3]
          first | done | rfl | (congr 1)
        rw [e]; exact q H' k
    · have h3 : ¬ p.length ≤ 3 := fun z => h (decide_eq_true (by omega))
      have e : Ag07.isPath 0 p = false := by unfold Ag07.isPath; simp [h3]
      rw [e] at q; exact q H (Kp.refl _ _)
def pm_is_path (K : PySem.W.Frag) : Pm := fun vs H Q => ∃ a, ∃ p : List Nat, vs = [.ref a] ∧ H a = some (.tup (pvs p)) ∧ p.length ≤ 1000 ∧
  ∀ H', Kp [] H H' → Q (.bl (Ag07.isPath 1 p)) H'
theorem isPath_one {p : List Nat} (h : 0 < p.length) : Ag07.isPath 1 p = Ag07.isPath 0 p := by
  unfold Ag07.isPath
  have e : decide (1 ≤ p.length) = true := decide_eq_true h
  rw [e]; simp
theorem ok_is_path (T : Tx K mg) : HasFn Prog w K mg base 2 (He.fAd K d_is_path.at_) p_is_path (pm_is_path K) := by
  refine mkFn T.fun_is_path S_is_path (fun _ _ _ _ _ _ us hl => match us, hl with | [_], _ => rfl) ?_ fun cdv A outer s H E hr => ⟨_,
    (pss_one (ps_ret (pe_and (pe_cmpR op_gt (pe_callB call_len (by rfl) T.free_len PySem.boot_len (pa_cons (pv 0) pa_nil)) pe_int (nomark _)) (pe_one (pe_callH (ok_is_path_or_empty T) (hr.mono (by decide)) (by rfl) T.glo_is_path_or_empty (pa_cons (pv 0) pa_nil)))))), ?_⟩
  · rintro vs H Q ⟨a, p, rfl, _⟩; rfl
  · rintro vs Q ⟨a, p, rfl, ha, hl, q⟩
    refine ⟨_, rfl, _, p.length, rfl, Or.inr ⟨_, SqT.of ha, by simp⟩, _, _, rfl, rfl, _, rfl, ite2 (fun h => ?_) (fun h => ?_)⟩
    · have h1 : 0 < p.length := by have := of_decide_eq_true h; omega
      refine ⟨_, rfl, a, p, rfl, ha, hl, fun H' k => ?_⟩
      rw [← isPath_one h1]; exact q H' k
    · have h1 : ¬ 0 < p.length := fun z => h (decide_eq_true (by omega))
      have e : Ag07.isPath 1 p = false := by unfold Ag07.isPath; simp; intro z; omega
      rw [e] at q; exact q H (Kp.refl _ _)
theorem below_take : ∀ (p t : List Nat), decide (p.take t.length = t) = Ag07.below p t := by
  unfold Ag07.below
  intro p t
  induction t generalizing p with
  | nil => simp
  | cons a t ih => cases p with
    | nil => simp
    | cons b p =>
      have := ih p
      simp only [List.length_cons, List.take_succ_cons, List.isPrefixOf, ← this]
      by_cases h : a = b
      · subst h; simp
      · have h2 : ¬ b = a := fun z => h z.symm
        simp [h, h2]
/-- whether the first path begins with the second -/
def pm_is_below (K : PySem.W.Frag) : Pm := fun vs H Q => ∃ a b, ∃ p t : List Nat, vs = [.ref a, .ref b] ∧ H a = some (.tup (pvs p)) ∧ H b = some (.tup (pvs t)) ∧
  ∀ H', Kp [] H H' → Q (.bl (Ag07.below p t)) H'
theorem depth_path (p : List Nat) : (pData p).depth = 1 := by
  have e1 : (p.map fun (n : Nat) => PyData.int (n : Int)) = (p.map fun (n : Nat) => (n : Int)).map .int := by simp [Function.comp_def]
  simp only [pData, PyData.depth]
  rw [e1, PySem.W.depth_ints]
theorem shaped_path (p : List Nat) : SeqAt.shaped (pData p) = true := by
  have e : ∀ p : List Nat, PyData.canLayAll0 (p.map fun (n : Nat) => PyData.int (n : Int)) = true := by
    intro p; induction p with
    | nil => simp [PyData.canLayAll0]
    | cons a p ih => simp [PyData.canLayAll0, PyData.canLay0, ih]
  unfold SeqAt.shaped
  rw [depth_path]
  simp only [pData, PyData.canLay0, e]; decide
theorem ok_is_below (T : Tx K mg) : HasFn Prog w K mg base 1 (He.fAd K d_is_below.at_) p_is_below (pm_is_below K) := by
  refine mkFn T.fun_is_below S_is_below (fun _ _ _ _ _ _ us hl => match us, hl with | [_, _], _ => rfl) ?_ fun cdv A outer s H E hr => ⟨_,
    (pss_one (ps_ret (pe_cmpR (op_eqD hr.units) (pe_slice sl_tupA (pv 0) po_none (po_some (pe_callB call_len (by rfl) T.free_len PySem.boot_len (pa_cons (pv 1) pa_nil)))) (pv 1) (nomark _)))), ?_⟩
  · rintro vs H Q ⟨a, b, p, t, rfl, _⟩; rfl
  · rintro vs Q ⟨a, b, p, t, rfl, ha, hb, q⟩
    refine ⟨_, rfl, _, rfl, _, t.length, rfl, Or.inr ⟨_, SqT.of hb, by simp⟩, _, rfl, ?_⟩
    have hw : HT.sIx (pvs p).length (pvs p).length (some (t.length : Int)) = min t.length p.length := by rw [HT.sIx_nat, List.length_map]
    have fin : ∀ x H1, Kp [] H H1 → H1 x = some (.tup (pvs (p.take t.length))) → ∃ v, (L2.start n_is_below [V.ref a, V.ref b])[1]? = some (some v) ∧ rEqD K (.ref x) v H1 Q := by
      intro x H1 k hx
      refine ⟨.ref b, rfl, _, _, dp_path (SqT.of hx), dp_path (SqT.of (k.tup hb)), shaped_path _, shaped_path _, ?_⟩
      rw [eqv_paths, below_take]; exact q H1 k
    refine ⟨a, _, rfl, SqT.of ha, fun h => ?_, fun h x hx => ?_⟩
    · have e : p.take t.length = p := List.take_of_length_le (by have := h.2; rw [hw, List.length_map] at this; omega)
      exact fin a H (Kp.refl _ _) (by rw [e]; exact ha)
    · refine fin x _ ((Kp.refl _ _).new hx) ?_
      rw [upd_same]
      have e : cutV (pvs p) none (some (t.length : Int)) = pvs (p.take t.length) := by
        unfold cutV
        rw [hw, HT.sIx_none, List.drop_zero, Nat.sub_zero, pvs, pvs, ← List.map_take]
        rcases Nat.le_total t.length p.length with z | z
        · rw [Nat.min_eq_left z]
        · rw [Nat.min_eq_right z, List.take_length, List.take_of_length_le z]
      rw [e]
end
end Wt

set_option Elab.async false
set_option linter.all false
set_option maxRecDepth 100000
set_option maxHeartbeats 2000000
namespace Wt
open PySem PySem.Spec PyProof.Rows L2
section
variable {w : World} {K : PySem.W.Frag} {mg : Str → Option Value} {base : Heap}
/-- an empty letter is filled in at x -/
def pm_Letter_init (K : PySem.W.Frag) : Pm := fun vs H Q => ∃ x dx a b c, vs = [.ref x, a, b, c] ∧ H x = some (.ins (C_Letter K) dx []) ∧
  ∀ H' pa ev en, H' x = some (.ins (C_Letter K) dx (F_Letter a b c (.ref pa) .non (.int 0) (.ref ev) (.ref en))) → H' pa = some (.tup []) → H' ev = some (.lst []) → H' en = some (.lst []) →
    H pa = none → H ev = none → H en = none → Kp [x] H H' → Q .non H'
theorem ok_Letter_init (T : Tx K mg) : HasFn Prog w K mg base 1 (He.fAd K d_Letter_init.at_) p_Letter_init (pm_Letter_init K) := by
  refine mkFn T.fun_Letter_init S_Letter_init (fun _ _ _ _ _ _ us hl => match us, hl with | [_, _, _, _], _ => rfl) ?_ fun cdv A outer s H E hr => ⟨_,
    (pss_cons (ps_fld (pv 0) (pv 1) rfl)
    (pss_cons (ps_fld (pv 0) (pv 2) rfl)
    (pss_cons (ps_fld (pv 0) (pv 3) rfl)
    (pss_cons (ps_fld (pv 0) (pe_tup pa_nil) rfl)
    (pss_cons (ps_fld (pv 0) pe_non rfl)
    (pss_cons (ps_fld (pv 0) pe_int rfl)
    (pss_cons (ps_fld (pv 0) (pe_lst pa_nil) rfl)
    (pss_one (ps_fld (pv 0) (pe_lst pa_nil) rfl))))))))), ?_⟩
  · rintro vs H Q ⟨x, dx, a, b, c, rfl, _⟩; rfl
  · rintro vs Q ⟨x, dx, a, b, c, rfl, hx, q⟩
    refine ⟨_, rfl, _, rfl, x, _, dx, _, rfl, hx, T.cls_Letter, T.no_Letter_kind, (by show (0 : Nat) < 1000; decide), ?_⟩
    refine ⟨_, rfl, _, rfl, x, _, dx, _, rfl, upd_same, T.cls_Letter, T.no_Letter_client, (by show (1 : Nat) < 1000; decide), ?_⟩
    refine ⟨_, rfl, _, rfl, x, _, dx, _, rfl, upd_same, T.cls_Letter, T.no_Letter_number, (by show (2 : Nat) < 1000; decide), ?_⟩
    rw [upd_upd, upd_upd]
    refine ⟨Nat.zero_le _, fun pa hpa => ?_⟩
    have n1 : x ≠ pa := ne_of_none upd_same hpa
    refine ⟨_, rfl, x, _, dx, _, rfl, (by rw [upd_ne n1]; exact upd_same), T.cls_Letter, T.no_Letter_path, (by show (3 : Nat) < 1000; decide), ?_⟩
    refine ⟨_, rfl, x, _, dx, _, rfl, upd_same, T.cls_Letter, T.no_Letter_behind, (by show (4 : Nat) < 1000; decide), ?_⟩
    refine ⟨_, rfl, x, _, dx, _, rfl, upd_same, T.cls_Letter, T.no_Letter_turn, (by show (5 : Nat) < 1000; decide), ?_⟩
    rw [upd_upd, upd_upd]
    refine ⟨Nat.zero_le _, fun ev hev => ?_⟩
    have n2 : x ≠ ev := ne_of_none upd_same hev
    refine ⟨_, rfl, x, _, dx, _, rfl, (by rw [upd_ne n2]; exact upd_same), T.cls_Letter, T.no_Letter_events, (by show (6 : Nat) < 1000; decide), ?_⟩
    refine ⟨Nat.zero_le _, fun en hen => ?_⟩
    have n3 : x ≠ en := ne_of_none upd_same hen
    refine ⟨_, rfl, x, _, dx, _, rfl, (by rw [upd_ne n3]; exact upd_same), T.cls_Letter, T.no_Letter_entries, (by show (7 : Nat) < 1000; decide), ?_⟩
    rw [upd_ne n1.symm] at hpa
    rw [upd_ne n2.symm] at hev
    rw [upd_ne n3.symm] at hen
    have m1 : pa ≠ ev := ne_of_none upd_same hev
    rw [upd_ne m1.symm, upd_ne n2.symm] at hev
    have m2 : ev ≠ en := ne_of_none upd_same hen
    rw [upd_ne m2.symm, upd_ne n3.symm] at hen
    have m3 : pa ≠ en := ne_of_none upd_same hen
    rw [upd_ne m3.symm, upd_ne n3.symm] at hen
    refine q _ pa ev en upd_same ?_ ?_ ?_ hpa hev hen ?_
    · rw [upd_ne n1.symm, upd_ne m3, upd_ne n1.symm, upd_ne m1, upd_ne n1.symm, upd_same]
    · rw [upd_ne n2.symm, upd_ne m2, upd_ne n2.symm, upd_same]
    · rw [upd_ne n3.symm, upd_same]
    · refine fun b o e n => ?_
      have nx : b ≠ x := fun z => by
        rcases n with n | n
        · exact n (by rw [z]; exact List.mem_singleton.mpr rfl)
        · rw [z, hx] at e; cases e; cases n
      rw [upd_ne nx, upd_ne (ne_of_none e hen), upd_ne nx, upd_ne (ne_of_none e hev), upd_ne nx, upd_ne (ne_of_none e hpa), upd_ne nx]; exact e
/-- a letter is sent: it lies behind the others, if there's room -/
def pm_Net_send (K : PySem.W.Frag) : Pm := fun vs H Q => ∃ n dx ll v, ∃ xs : List V, vs = [.ref n, v] ∧ H n = some (.ins (C_Net K) dx [("letters", .ref ll)]) ∧ H ll = some (.lst xs) ∧ xs.length ≤ 100 ∧
  Q .non (upd H ll (.lst ((xs ++ [v]).take 100)))
theorem upd_back {H : Hp} {a : Addr} {o : HO} (h : H a = some o) : upd H a o = H := by
  funext b; unfold L2.upd; split
  · rename_i e; rw [e, h]
  · rfl
theorem ok_Net_send (T : Tx K mg) : HasFn Prog w K mg base 1 (He.fAd K d_Net_send.at_) p_Net_send (pm_Net_send K) := by
  refine mkFn T.fun_Net_send S_Net_send (fun _ _ _ _ _ _ us hl => match us, hl with | [_, _], _ => rfl) ?_ fun cdv A outer s H E hr => ⟨_,
    (pss_one (ps_if (pt_cmpR op_lt (pe_callB call_len (by rfl) T.free_len PySem.boot_len (pa_cons (pe_fld (pv 0) rfl) pa_nil)) (pe_gint (by rfl) T.int_ROOM) (nomark _)) (pss_one (ps_expr (pe_bm PySem.F.plainAttrs_list PySem.F.slot_list_append PySem.F.type_list_append mt_append (pe_fld (pv 0) rfl) (pa_cons (pv 1) pa_nil)))) pss_nil)), ?_⟩
  · rintro vs H Q ⟨n, dx, ll, v, xs, rfl, _⟩; rfl
  · rintro vs Q ⟨n, dx, ll, v, xs, rfl, hn, hl, h100, q⟩
    refine ⟨_, rfl, n, _, dx, _, _, rfl, hn, T.cls_Net, T.no_Net_letters, rfl, ?_⟩
    refine ⟨_, xs.length, rfl, Or.inl ⟨_, SqL.of hl, rfl⟩, _, _, rfl, rfl, _, rfl, ite2 (fun h => ?_) (fun h => ?_)⟩
    · have h1 : xs.length < 100 := by have := of_decide_eq_true h; omega
      refine ⟨_, rfl, n, _, dx, _, _, rfl, hn, T.cls_Net, T.no_Net_letters, rfl, ?_⟩
      refine ⟨.inl ⟨rfl, _, SqL.of hl⟩, _, rfl, ll, xs, _, rfl, rfl, hl, sizeLine_big (by omega), ?_⟩
      rw [List.take_of_length_le (by simp; omega)] at q; exact q
    · have h1 : ¬ xs.length < 100 := fun z => h (decide_eq_true (by omega))
      have e : (xs ++ [v]).take 100 = xs := by
        rw [List.take_append_of_le_length (by omega), List.take_of_length_le h100]
      rw [e, upd_back hl] at q; exact q
/-- a letter that's told to be of a form, new -/
def NewLetter (K : PySem.W.Frag) (M : List Addr) (H H' : Hp) (x : Addr) (l : Ag07.Letter) : Prop := LetterAt K M H' (.ref x) l ∧ H x = none ∧ Kp [] H H'
def pm_asking_letter (K : PySem.W.Frag) : Pm := fun vs H Q => ∃ M, ∃ c n pa, ∃ (p : List Nat) (r : Option Nat), vs = [.int (c : Nat), .int (n : Nat), .ref pa, optV r] ∧ H pa = some (.tup (pvs p)) ∧ (∀ a ∈ M, H a ≠ none) ∧
  ∀ H' x, NewLetter K M H H' x ⟨0, c, n, p, r, 0, [], []⟩ → Q (.ref x) H'
theorem made_kp {H H1 H' : Hp} {x dx C : Addr} (hx : H x = none) (hdx : H dx = none) (k : Kp [x] (upd (upd H dx (.own x)) x (.ins C dx [])) H') : Kp [] H H' := fun b o e n => by
  have n1 : b ≠ x := ne_of_none e hx
  have n2 : b ≠ dx := ne_of_none e hdx
  refine k b o ?_ (.inl ?_)
  · rw [upd_ne n1, upd_ne n2]; exact e
  · intro z; exact n1 (List.mem_singleton.mp z)
theorem free_made {H : Hp} {x dx C a : Addr} (h : upd (upd H dx (.own x)) x (.ins C dx []) a = none) : H a = none := by
  unfold L2.upd at h
  split at h
  · cases h
  · split at h
    · cases h
    · exact h
theorem ok_asking_letter (T : Tx K mg) : HasFn Prog w K mg base 3 (He.fAd K d_asking_letter.at_) p_asking_letter (pm_asking_letter K) := by
  refine mkFn T.fun_asking_letter S_asking_letter (fun _ _ _ _ _ _ us hl => match us, hl with | [_, _, _, _], _ => rfl) ?_ fun cdv A outer s H E hr => ⟨_,
    (pss_cons (ps_set (i := 4) S_asking_letter.nd rfl (Or.inl rfl) (pe_makeH T.mkr_Letter (ok_Letter_init T) (hr.mono (by decide)) (by rfl) T.glo_Letter (pa_cons (pe_gint (by rfl) T.int_ASKS) (pa_cons (pv 0) (pa_cons (pv 1) pa_nil)))))
    (pss_cons (ps_fld (pv 4) (pv 2) rfl)
    (pss_cons (ps_fld (pv 4) (pv 3) rfl)
    (pss_one (ps_ret (pv 4)))))), ?_⟩
  · rintro vs H Q ⟨M, c, n, pa, p, r, rfl, _⟩; rfl
  · rintro vs Q ⟨M, c, n, pa, p, r, rfl, hp, hM, q⟩
    refine ⟨_, rfl, _, rfl, fun x dx hx hdx hne => ?_⟩
    refine ⟨x, dx, _, _, _, rfl, upd_same, fun H1 pa0 ev en h1 h2 h3 h4 e2 e3 e4 k1 => ⟨rfl, ?_⟩⟩
    have k0 : Kp [] H H1 := made_kp (H1 := H1) hx hdx k1
    refine ⟨_, rfl, _, rfl, x, _, dx, _, rfl, h1, T.cls_Letter, T.no_Letter_path, (by show (8 : Nat) < 1000; decide), ?_⟩
    refine ⟨_, rfl, _, rfl, x, _, dx, _, rfl, upd_same, T.cls_Letter, T.no_Letter_behind, (by show (8 : Nat) < 1000; decide), ?_⟩
    rw [upd_upd]
    refine ⟨_, rfl, q _ x ⟨?_, hx, k0.own hx⟩⟩
    have out : ∀ a, H a = none → a ∉ M := fun a ha z => hM a z ha
    have nv : ev ≠ x := fun z => by rw [z, h1] at h3; cases h3
    have nn : en ≠ x := fun z => by rw [z, h1] at h4; cases h4
    refine ⟨x, dx, pa, .ref ev, .ref en, rfl, upd_same, ?_, ⟨ev, [], rfl, out _ (free_made e3), ?_, .nil⟩, ⟨en, [], rfl, out _ (free_made e4), ?_, .nil⟩⟩
    · rw [upd_ne (ne_of_none hp hx)]; exact k0.tup hp
    · rw [upd_ne nv]; exact h3
    · rw [upd_ne nn]; exact h4
def pm_news_letter (K : PySem.W.Frag) : Pm := fun vs H Q => ∃ M, ∃ c n b t ev, ∃ es : List Ag07.Event, vs = [.int (c : Nat), .int (n : Nat), .int (b : Nat), .int (t : Nat), ev] ∧ EventsAt K M H ev es ∧ (∀ a ∈ M, H a ≠ none) ∧
  ∀ H' x, NewLetter K M H H' x ⟨1, c, n, [], some b, t, es, []⟩ → Q (.ref x) H'
theorem ok_news_letter (T : Tx K mg) : HasFn Prog w K mg base 3 (He.fAd K d_news_letter.at_) p_news_letter (pm_news_letter K) := by
  refine mkFn T.fun_news_letter S_news_letter (fun _ _ _ _ _ _ us hl => match us, hl with | [_, _, _, _, _], _ => rfl) ?_ fun cdv A outer s H E hr => ⟨_,
    (pss_cons (ps_set (i := 5) S_news_letter.nd rfl (Or.inl rfl) (pe_makeH T.mkr_Letter (ok_Letter_init T) (hr.mono (by decide)) (by rfl) T.glo_Letter (pa_cons (pe_gint (by rfl) T.int_NEWS) (pa_cons (pv 0) (pa_cons (pv 1) pa_nil)))))
    (pss_cons (ps_fld (pv 5) (pv 2) rfl)
    (pss_cons (ps_fld (pv 5) (pv 3) rfl)
    (pss_cons (ps_fld (pv 5) (pv 4) rfl)
    (pss_one (ps_ret (pv 5))))))), ?_⟩
  · rintro vs H Q ⟨M, c, n, b, t, ev, es, rfl, _⟩; rfl
  · rintro vs Q ⟨M, c, n, b, t, ev, es, rfl, hv, hM, q⟩
    refine ⟨_, rfl, _, rfl, fun x dx hx hdx hne => ?_⟩
    refine ⟨x, dx, _, _, _, rfl, upd_same, fun H1 pa0 ev0 en h1 h2 h3 h4 e2 e3 e4 k1 => ⟨rfl, ?_⟩⟩
    have k0 : Kp [] H H1 := made_kp (H1 := H1) hx hdx k1
    refine ⟨_, rfl, _, rfl, x, _, dx, _, rfl, h1, T.cls_Letter, T.no_Letter_behind, (by show (8 : Nat) < 1000; decide), ?_⟩
    refine ⟨_, rfl, _, rfl, x, _, dx, _, rfl, upd_same, T.cls_Letter, T.no_Letter_turn, (by show (8 : Nat) < 1000; decide), ?_⟩
    refine ⟨_, rfl, _, rfl, x, _, dx, _, rfl, upd_same, T.cls_Letter, T.no_Letter_events, (by show (8 : Nat) < 1000; decide), ?_⟩
    rw [upd_upd, upd_upd]
    have k : Kp [] H (upd H1 x (.ins (C_Letter K) dx (F_Letter (.int 1) (.int (c : Nat)) (.int (n : Nat)) (.ref pa0) (.int (b : Nat)) (.int (t : Nat)) ev (.ref en)))) := k0.own hx
    refine ⟨_, rfl, q _ x ⟨?_, hx, k⟩⟩
    have out : ∀ a, H a = none → a ∉ M := fun a ha z => hM a z ha
    have np : pa0 ≠ x := fun z => by rw [z, h1] at h2; cases h2
    have nn : en ≠ x := fun z => by rw [z, h1] at h4; cases h4
    refine ⟨x, dx, pa0, ev, .ref en, rfl, upd_same, ?_, hv.keep k (fun a z => absurd z (List.not_mem_nil)), ⟨en, [], rfl, out _ (free_made e4), ?_, .nil⟩⟩
    · rw [upd_ne np]; exact h2
    · rw [upd_ne nn]; exact h4
def pm_picture_letter (K : PySem.W.Frag) : Pm := fun vs H Q => ∃ M, ∃ c n t en, ∃ es : List (List Nat × Nat), vs = [.int (c : Nat), .int (n : Nat), .int (t : Nat), en] ∧ EntriesAt K M H en es ∧ (∀ a ∈ M, H a ≠ none) ∧
  ∀ H' x, NewLetter K M H H' x ⟨2, c, n, [], none, t, [], es⟩ → Q (.ref x) H'
theorem ok_picture_letter (T : Tx K mg) : HasFn Prog w K mg base 3 (He.fAd K d_picture_letter.at_) p_picture_letter (pm_picture_letter K) := by
  refine mkFn T.fun_picture_letter S_picture_letter (fun _ _ _ _ _ _ us hl => match us, hl with | [_, _, _, _], _ => rfl) ?_ fun cdv A outer s H E hr => ⟨_,
    (pss_cons (ps_set (i := 4) S_picture_letter.nd rfl (Or.inl rfl) (pe_makeH T.mkr_Letter (ok_Letter_init T) (hr.mono (by decide)) (by rfl) T.glo_Letter (pa_cons (pe_gint (by rfl) T.int_PICTURE) (pa_cons (pv 0) (pa_cons (pv 1) pa_nil)))))
    (pss_cons (ps_fld (pv 4) (pv 2) rfl)
    (pss_cons (ps_fld (pv 4) (pv 3) rfl)
    (pss_one (ps_ret (pv 4)))))), ?_⟩
  · rintro vs H Q ⟨M, c, n, t, en, es, rfl, _⟩; rfl
  · rintro vs Q ⟨M, c, n, t, en, es, rfl, hv, hM, q⟩
    refine ⟨_, rfl, _, rfl, fun x dx hx hdx hne => ?_⟩
    refine ⟨x, dx, _, _, _, rfl, upd_same, fun H1 pa0 ev0 en0 h1 h2 h3 h4 e2 e3 e4 k1 => ⟨rfl, ?_⟩⟩
    have k0 : Kp [] H H1 := made_kp (H1 := H1) hx hdx k1
    refine ⟨_, rfl, _, rfl, x, _, dx, _, rfl, h1, T.cls_Letter, T.no_Letter_turn, (by show (8 : Nat) < 1000; decide), ?_⟩
    refine ⟨_, rfl, _, rfl, x, _, dx, _, rfl, upd_same, T.cls_Letter, T.no_Letter_entries, (by show (8 : Nat) < 1000; decide), ?_⟩
    rw [upd_upd]
    have k : Kp [] H (upd H1 x (.ins (C_Letter K) dx (F_Letter (.int 2) (.int (c : Nat)) (.int (n : Nat)) (.ref pa0) .non (.int (t : Nat)) (.ref ev0) en))) := k0.own hx
    refine ⟨_, rfl, q _ x ⟨?_, hx, k⟩⟩
    have out : ∀ a, H a = none → a ∉ M := fun a ha z => hM a z ha
    have np : pa0 ≠ x := fun z => by rw [z, h1] at h2; cases h2
    have nn : ev0 ≠ x := fun z => by rw [z, h1] at h3; cases h3
    refine ⟨x, dx, pa0, .ref ev0, en, rfl, upd_same, ?_, ⟨ev0, [], rfl, out _ (free_made e3), ?_, .nil⟩, hv.keep k (fun a z => absurd z (List.not_mem_nil))⟩
    · rw [upd_ne np]; exact h2
    · rw [upd_ne nn]; exact h3
def pm_Net_has_letter (K : PySem.W.Frag) : Pm := fun vs H Q => ∃ n dx ll, ∃ k : Nat, ∃ xs : List V, vs = [.ref n, .int k] ∧ H n = some (.ins (C_Net K) dx [("letters", .ref ll)]) ∧ H ll = some (.lst xs) ∧ Q (.bl (decide (k < xs.length))) H
theorem ok_Net_has_letter (T : Tx K mg) : HasFn Prog w K mg base 1 (He.fAd K d_Net_has_letter.at_) p_Net_has_letter (pm_Net_has_letter K) := by
  refine mkFn T.fun_Net_has_letter S_Net_has_letter (fun _ _ _ _ _ _ us hl => match us, hl with | [_, _], _ => rfl) ?_ fun cdv A outer s H E hr => ⟨_,
    (pss_one (ps_ret (pe_cmpR op_lt (pv 1) (pe_callB call_len (by rfl) T.free_len PySem.boot_len (pa_cons (pe_fld (pv 0) rfl) pa_nil)) (nomark _)))), ?_⟩
  · rintro vs H Q ⟨n, dx, ll, k, xs, rfl, _⟩; rfl
  · rintro vs Q ⟨n, dx, ll, k, xs, rfl, hn, hl, q⟩
    refine ⟨_, rfl, _, rfl, n, _, dx, _, _, rfl, hn, T.cls_Net, T.no_Net_letters, rfl, _, xs.length, rfl, Or.inl ⟨_, SqL.of hl, rfl⟩, _, _, rfl, rfl, ?_⟩
    have e : decide ((k : Int) < (xs.length : Int)) = decide (k < xs.length) := decide_eq_decide.mpr (by omega)
    show Q (.bl (decide ((k : Int) < (xs.length : Int)))) H
    rw [e]; exact q
/-- the letter at place k is taken out -/
def pm_Net_take_out (K : PySem.W.Frag) : Pm := fun vs H Q => ∃ n dx ll v, ∃ k : Nat, ∃ xs : List V, vs = [.ref n, .int k] ∧ H n = some (.ins (C_Net K) dx [("letters", .ref ll)]) ∧ H ll = some (.lst xs) ∧ xs.length ≤ 100 ∧ xs[k]? = some v ∧ Q v (upd H ll (.lst (xs.eraseIdx k)))
theorem ok_Net_take_out (T : Tx K mg) : HasFn Prog w K mg base 1 (He.fAd K d_Net_take_out.at_) p_Net_take_out (pm_Net_take_out K) := by
  refine mkFn T.fun_Net_take_out S_Net_take_out (fun _ _ _ _ _ _ us hl => match us, hl with | [_, _], _ => rfl) ?_ fun cdv A outer s H E hr => ⟨_,
    (pss_one (ps_ret (pe_bm PySem.F.plainAttrs_list PySem.F.slot_list_pop PySem.F.type_list_pop mt_popAt (pe_fld (pv 0) rfl) (pa_cons (pv 1) pa_nil)))), ?_⟩
  · rintro vs H Q ⟨n, dx, ll, v, k, xs, rfl, _⟩; rfl
  · rintro vs Q ⟨n, dx, ll, v, k, xs, rfl, hn, hl, h100, hv, q⟩
    refine ⟨_, rfl, n, _, dx, _, _, rfl, hn, T.cls_Net, T.no_Net_letters, rfl, .inl ⟨rfl, _, SqL.of hl⟩, _, rfl, ?_⟩
    have hk : k < xs.length := (List.getElem?_eq_some_iff.mp hv).1
    exact ⟨ll, xs, k, k, v, rfl, rfl, hl, by omega, by omega, by rw [seqIndex_of (by omega) (by omega)]; rfl, hv, q⟩
end
end Wt

set_option Elab.async false
set_option linter.all false
set_option maxRecDepth 100000
set_option maxHeartbeats 2000000
namespace Wt
open PySem PySem.Spec PyProof.Rows L2
/-- a session is seen: it's put in, or its time is another -/
def see (l : List Ag07.Session) (n t : Nat) : List Ag07.Session := if l.any (fun x => x.sid == n) = true then l.map fun y => if y.sid = n then { y with seen := t } else y else l ++ [⟨n, t⟩]
theorem val_seen (l : List Ag07.Session) (n : Nat) : valV (seenOf l) (Sum.inl (n : Int)) = (l.find? fun x => x.sid == n).map fun x => V.int (x.seen : Int) := by
  induction l with
  | nil => rfl
  | cons x l ih =>
    by_cases h : x.sid = n
    · rw [show seenOf (x :: l) = (Sum.inl (x.sid : Int), V.int (x.seen : Int)) :: seenOf l from rfl, valV_pos (by show Sum.inl (x.sid : Int) = _; rw [h])]
      simp [h]
    · rw [show seenOf (x :: l) = (Sum.inl (x.sid : Int), V.int (x.seen : Int)) :: seenOf l from rfl, valV_neg (by intro z; exact h (Int.ofNat.inj (Sum.inl.inj z))), ih]
      simp [h]
theorem val_seen_some (l : List Ag07.Session) (n : Nat) : (valV (seenOf l) (Sum.inl (n : Int))).isSome = l.any fun x => x.sid == n := by
  rw [val_seen, Option.isSome_map]
  induction l with
  | nil => rfl
  | cons x l ih =>
    rw [List.find?_cons, List.any_cons, ← ih]
    cases x.sid == n <;> rfl
theorem put_seen (l : List Ag07.Session) (n t : Nat) : putK (seenOf l) (Sum.inl (n : Int)) (V.int (t : Int)) = seenOf (see l n t) := by
  unfold putK see
  rw [valV_any, val_seen_some]
  split
  · unfold seenOf
    rw [List.map_map, List.map_map]
    refine List.map_congr_left fun x _ => ?_
    by_cases h : x.sid = n
    · simp [h]
    · have : ¬ (Sum.inl (x.sid : Int) : Key) = Sum.inl (n : Int) := fun z => h (Int.ofNat.inj (Sum.inl.inj z))
      show (if (Sum.inl (x.sid : Int) : Key) = Sum.inl (n : Int) then _ else _) = _
      rw [if_neg this]
      simp [h]
  · unfold seenOf; rw [List.map_append]; rfl
section
variable {w : World} {K : PySem.W.Frag} {mg : Str → Option Value} {base : Heap}
def pm_House_last_turn (K : PySem.W.Frag) : Pm := fun vs H Q => ∃ W s, vs = [.ref W.hs] ∧ WAt K H W s ∧ Q (.int (Ag07.turn s : Nat)) H
theorem ok_House_last_turn (T : Tx K mg) : HasFn Prog w K mg base 1 (He.fAd K d_House_last_turn.at_) p_House_last_turn (pm_House_last_turn K) := by
  refine mkFn T.fun_House_last_turn S_House_last_turn (fun _ _ _ _ _ _ us hl => match us, hl with | [_], _ => rfl) ?_ fun cdv A outer s H E hr => ⟨_,
    (pss_one (ps_ret (pe_callB call_len (by rfl) T.free_len PySem.boot_len (pa_cons (pe_fld (pv 0) rfl) pa_nil)))), ?_⟩
  · rintro vs H Q ⟨W, s, rfl, _⟩; rfl
  · rintro vs Q ⟨W, s, rfl, A, q⟩
    obtain ⟨dx, hh⟩ := A.house
    obtain ⟨tv, ht, pt⟩ := A.turns
    refine ⟨_, rfl, W.hs, _, dx, _, _, rfl, hh, T.cls_House, T.no_House_turns, rfl, _, tv.length, rfl, Or.inl ⟨_, SqL.of ht, rfl⟩, ?_⟩
    rw [Paired.len pt]; exact q
def pm_House_lasts (K : PySem.W.Frag) : Pm := fun vs H Q => ∃ W s, ∃ n : Nat, vs = [.ref W.hs, .int n] ∧ WAt K H W s ∧ Q (.bl (Ag07.lasts s n)) H
theorem ok_House_lasts (T : Tx K mg) : HasFn Prog w K mg base 1 (He.fAd K d_House_lasts.at_) p_House_lasts (pm_House_lasts K) := by
  refine mkFn T.fun_House_lasts S_House_lasts (fun _ _ _ _ _ _ us hl => match us, hl with | [_, _], _ => rfl) ?_ fun cdv A outer s H E hr => ⟨_,
    (pss_one (ps_ret (pe_cmp (pc_din (hu_of hr) (pv 1) (pe_fld (pv 0) rfl)) rfl))), ?_⟩
  · rintro vs H Q ⟨W, s, n, rfl, _⟩; rfl
  · rintro vs Q ⟨W, s, n, rfl, A, q⟩
    obtain ⟨dx, hh⟩ := A.house
    refine ⟨_, rfl, _, rfl, W.hs, _, dx, _, _, rfl, hh, T.cls_House, T.no_House_seen, rfl, W.ds, _, rfl, DGet.k (k := Sum.inl (n : Int)) A.seen, ?_⟩
    rw [val_seen_some]; exact q
def pm_House_see_session (K : PySem.W.Frag) : Pm := fun vs H Q => ∃ W s, ∃ n : Nat, vs = [.ref W.hs, .int n] ∧ WAt K H W s ∧ s.sessions.length ≤ 1000 ∧
  ∀ H', WAt K H' W { s with sessions := see s.sessions n s.time } → Kp W.mu H H' → Q .non H'
theorem ok_House_see_session (T : Tx K mg) : HasFn Prog w K mg base 1 (He.fAd K d_House_see_session.at_) p_House_see_session (pm_House_see_session K) := by
  refine mkFn T.fun_House_see_session S_House_see_session (fun _ _ _ _ _ _ us hl => match us, hl with | [_, _], _ => rfl) ?_ fun cdv A outer s H E hr => ⟨_,
    (pss_one (ps_dput (hu_of hr) (pe_fld (pv 0) rfl) (pv 1) (pe_fld (pv 0) rfl) rfl)), ?_⟩
  · rintro vs H Q ⟨W, s, n, rfl, _⟩; rfl
  · rintro vs Q ⟨W, s, n, rfl, A, hl, q⟩
    obtain ⟨dx, hh⟩ := A.house
    refine ⟨_, rfl, W.hs, _, dx, _, _, rfl, hh, T.cls_House, T.no_House_time, rfl, _, rfl, W.hs, _, dx, _, _, rfl, hh, T.cls_House, T.no_House_seen, rfl, _, rfl, W.ds, _, rfl,
      DPut.k (k := Sum.inl (n : Int)) A.seen (sizeLine_big (by unfold seenOf; rw [List.length_map]; omega)), ?_⟩
    have p := A.put_ds (see s.sessions n s.time)
    rw [put_seen]
    exact q _ p.1 (p.2.sub (by simp [WAd.mu]))
def pm_House_start_session (K : PySem.W.Frag) : Pm := fun vs H Q => ∃ W s, vs = [.ref W.hs] ∧ WAt K H W s ∧ s.sessions.length ≤ 1000 ∧
  ∀ H', WAt K H' W { s with opened := s.opened + 1, sessions := see s.sessions (s.opened + 1) s.time } → Kp W.mu H H' → Q (.int (s.opened + 1 : Nat)) H'
theorem ok_House_start_session (T : Tx K mg) : HasFn Prog w K mg base 2 (He.fAd K d_House_start_session.at_) p_House_start_session (pm_House_start_session K) := by
  refine mkFn T.fun_House_start_session S_House_start_session (fun _ _ _ _ _ _ us hl => match us, hl with | [_], _ => rfl) ?_ fun cdv A outer s H E hr => ⟨_,
    (pss_cons (ps_fldaug (pv 0) pe_int in_add)
    (pss_cons (ps_expr (pe_methH (pv 0) T.cls_House T.me_House_see_session (ok_House_see_session T) (hr.mono (by decide)) (pa_cons (pe_fld (pv 0) rfl) pa_nil)))
    (pss_one (ps_ret (pe_fld (pv 0) rfl))))), ?_⟩
  · rintro vs H Q ⟨W, s, rfl, _⟩; rfl
  · rintro vs Q ⟨W, s, rfl, A, hl, q⟩
    obtain ⟨dx, hh⟩ := A.house
    refine ⟨_, rfl, W.hs, _, dx, _, _, rfl, hh, T.cls_House, T.no_House_opened, rfl, _, _, rfl, rfl, dx, _, hh, (by show (9 : Nat) < 1000; decide), ?_⟩
    have p := A.put_hs (dx := dx) (life := s.life) (time := s.time) (opened := s.opened + 1) (bs := s.base) ⟨_, hh⟩
    refine ⟨_, rfl, W.hs, dx, _, rfl, upd_same, rfl, _, rfl, W.hs, _, dx, _, _, rfl, upd_same, T.cls_House, T.no_House_opened, rfl, ?_⟩
    refine ⟨W, _, s.opened + 1, rfl, p.1, hl, fun H2 A2 k2 => ?_⟩
    obtain ⟨dx2, hh2⟩ := A2.house
    refine ⟨_, rfl, W.hs, _, dx2, _, _, rfl, hh2, T.cls_House, T.no_House_opened, rfl, ?_⟩
    exact q H2 A2 ((p.2.sub (by simp [WAd.mu])).trans k2)
/-- one watcher is told of a turn -/
def tellOne (s : Ag07.State) (i : Nat) (x : Ag07.Watcher) (es : List Ag07.Event) : Ag07.State := if (Ag07.under x.path es).isEmpty = true then s else
  { s with letters := (s.letters ++ [Ag07.news x (Ag07.turn s) (Ag07.under x.path es)]).take 100, watchers := s.watchers.set i { x with last := Ag07.turn s } }
def pm_House_has_turn (K : PySem.W.Frag) : Pm := fun vs H Q => ∃ W s, ∃ t : Nat, vs = [.ref W.hs, .int t] ∧ WAt K H W s ∧ Q (.bl (decide (1 ≤ t ∧ t ≤ Ag07.turn s))) H
theorem ok_House_has_turn (T : Tx K mg) : HasFn Prog w K mg base 2 (He.fAd K d_House_has_turn.at_) p_House_has_turn (pm_House_has_turn K) := by
  refine mkFn T.fun_House_has_turn S_House_has_turn (fun _ _ _ _ _ _ us hl => match us, hl with | [_, _], _ => rfl) ?_ fun cdv A outer s H E hr => ⟨_,
    (pss_one (ps_ret (pe_chain op_le op_le pe_int (pv 1) (pe_methH0 (pv 0) T.cls_House T.me_House_last_turn (ok_House_last_turn T) (hr.mono (by decide)))))), ?_⟩
  · rintro vs H Q ⟨W, s, t, rfl, _⟩; rfl
  · rintro vs Q ⟨W, s, t, rfl, A, q⟩
    obtain ⟨dx, hh⟩ := A.house
    refine ⟨_, rfl, _, _, rfl, rfl, _, rfl, ite2 (fun h => ?_) (fun h => ?_)⟩
    · have h1 : 1 ≤ t := by have := of_decide_eq_true h; omega
      refine ⟨_, rfl, W.hs, dx, _, rfl, hh, rfl, W, s, rfl, A, _, _, rfl, rfl, ?_⟩
      have e : decide ((t : Int) ≤ (Ag07.turn s : Int)) = decide (1 ≤ t ∧ t ≤ Ag07.turn s) := decide_eq_decide.mpr (by omega)
      show Q (.bl (decide ((t : Int) ≤ (Ag07.turn s : Int)))) H
      rw [e]; exact q
    · have h1 : ¬ 1 ≤ t := fun z => h (decide_eq_true (by omega))
      rw [decide_eq_false (fun z => h1 z.1)] at q; exact q
def pm_House_events_of (K : PySem.W.Frag) : Pm := fun vs H Q => ∃ W s, ∃ (j : Nat) (es : List Ag07.Event), vs = [.ref W.hs, .int (j + 1 : Nat)] ∧ WAt K H W s ∧ s.log[j]? = some es ∧ ∀ v, EventsAt K W.mu H v es → Q v H
theorem ok_House_events_of (T : Tx K mg) : HasFn Prog w K mg base 1 (He.fAd K d_House_events_of.at_) p_House_events_of (pm_House_events_of K) := by
  refine mkFn T.fun_House_events_of S_House_events_of (fun _ _ _ _ _ _ us hl => match us, hl with | [_, _], _ => rfl) ?_ fun cdv A outer s H E hr => ⟨_,
    (pss_one (ps_ret (pe_ix ix_list (pe_fld (pv 0) rfl) (pe_op op_sub (pv 1) pe_int) (fun _ _ => rfl)))), ?_⟩
  · rintro vs H Q ⟨W, s, j, es, rfl, _⟩; rfl
  · rintro vs Q ⟨W, s, j, es, rfl, A, hes, q⟩
    obtain ⟨dx, hh⟩ := A.house
    obtain ⟨tv, ht, pt⟩ := A.turns
    obtain ⟨v, hv, he⟩ := Paired.get' pt hes
    have e : ((j + 1 : Nat) : Int) - 1 = (j : Int) := by omega
    refine ⟨_, rfl, W.hs, _, dx, _, _, rfl, hh, T.cls_House, T.no_House_turns, rfl, _, rfl, _, _, rfl, rfl, W.lt, _, _, _, rfl, rfl, SqL.of ht, (by rw [e]; exact atI_nat hv), q v he⟩
def pm_Watcher_init (K : PySem.W.Frag) : Pm := fun vs H Q => ∃ x dx a b c d, vs = [.ref x, a, b, c, d] ∧ H x = some (.ins (C_Watcher K) dx []) ∧ Q .non (upd H x (.ins (C_Watcher K) dx (F_Watcher a b c d)))
theorem ok_Watcher_init (T : Tx K mg) : HasFn Prog w K mg base 1 (He.fAd K d_Watcher_init.at_) p_Watcher_init (pm_Watcher_init K) := by
  refine mkFn T.fun_Watcher_init S_Watcher_init (fun _ _ _ _ _ _ us hl => match us, hl with | [_, _, _, _, _], _ => rfl) ?_ fun cdv A outer s H E hr => ⟨_,
    (pss_cons (ps_fld (pv 0) (pv 1) rfl)
    (pss_cons (ps_fld (pv 0) (pv 2) rfl)
    (pss_cons (ps_fld (pv 0) (pv 3) rfl)
    (pss_one (ps_fld (pv 0) (pv 4) rfl))))), ?_⟩
  · rintro vs H Q ⟨x, dx, a, b, c, d, rfl, _⟩; rfl
  · rintro vs Q ⟨x, dx, a, b, c, d, rfl, hx, q⟩
    refine ⟨_, rfl, _, rfl, x, _, dx, _, rfl, hx, T.cls_Watcher, T.no_Watcher_client, (by show (0 : Nat) < 1000; decide), ?_⟩
    refine ⟨_, rfl, _, rfl, x, _, dx, _, rfl, upd_same, T.cls_Watcher, T.no_Watcher_number, (by show (1 : Nat) < 1000; decide), ?_⟩
    refine ⟨_, rfl, _, rfl, x, _, dx, _, rfl, upd_same, T.cls_Watcher, T.no_Watcher_path, (by show (2 : Nat) < 1000; decide), ?_⟩
    refine ⟨_, rfl, _, rfl, x, _, dx, _, rfl, upd_same, T.cls_Watcher, T.no_Watcher_last, (by show (3 : Nat) < 1000; decide), ?_⟩
    rw [upd_upd, upd_upd, upd_upd]; exact q
/-- a watcher's attributes -/
abbrev wFs (pa : Addr) (x : Ag07.Watcher) : List (Str × V) := F_Watcher (.int (x.client : Nat)) (.int (x.num : Nat)) (.ref pa) (.int (x.last : Nat))
def pm_House_tell_watcher (K : PySem.W.Frag) : Pm := fun vs H Q => ∃ W s, ∃ (j : Nat) (a dx pa : Addr) (x : Ag07.Watcher) (es : List Ag07.Event), vs = [.ref W.hs, .ref a, .int (j + 1 : Nat)] ∧ WAt K H W s ∧
  H a = some (.ins (C_Watcher K) dx (wFs pa x)) ∧ H pa = some (.tup (pvs x.path)) ∧ s.log[j]? = some es ∧ es.length ≤ 1000 ∧ s.letters.length ≤ 100 ∧
  ((Ag07.under x.path es).isEmpty = true → ∀ H', Kp [] H H' → Q .non H') ∧
  ((Ag07.under x.path es).isEmpty = false → ∀ H' vs', Kp [] H H' → Paired (LetterAt K W.mu H') vs' ((s.letters ++ [Ag07.news x (j + 1) (Ag07.under x.path es)]).take 100) →
    Q .non (upd (upd H' W.ll (.lst vs')) a (.ins (C_Watcher K) dx (wFs pa { x with last := j + 1 }))))
theorem ok_House_tell_watcher (T : Tx K mg) : HasFn Prog w K mg base 4 (He.fAd K d_House_tell_watcher.at_) p_House_tell_watcher (pm_House_tell_watcher K) := by
  refine mkFn T.fun_House_tell_watcher S_House_tell_watcher (fun _ _ _ _ _ _ us hl => match us, hl with | [_, _, _], _ => rfl) ?_ fun cdv A outer s H E hr => ⟨_,
    (pss_cons (ps_setLc (i := 3) (own := [("event", 4)]) (g := gName 4) (tt := (tB (tCallH (pm_is_below K) (tCons (tFld K (tVar 4) "path") (tCons (tFld K (tVar 1) "path") tNil))))) (te := (tVar 4)) rfl S_House_tell_watcher.nd rfl rfl (sw_true rfl rfl rfl (by decide +kernel)) (pi_list (pe_methH (pv 0) T.cls_House T.me_House_events_of (ok_House_events_of T) (hr.mono (by decide)) (pa_cons (pv 2) pa_nil))) (blkOk_by (own := [("event", 4)]) (N := n_House_tell_watcher) (sc := sc_House_tell_watcher) (by decide +kernel)) (fun _ _ _ _ _ => pg_name (i := 4) S_House_tell_watcher.nd rfl (Or.inl rfl)) (fun _ _ _ _ _ => (pts_one (pt_call (pe_callH (ok_is_below T) (hr.mono (by decide)) (by rfl) T.glo_is_below (pa_cons (pe_fld (pv 4) rfl) (pa_cons (pe_fld (pv 1) rfl) pa_nil)))))) (fun _ _ _ _ _ => (pv 4)))
    (pss_cons (ps_if (pt_cmpR op_eq (pe_callB call_len (by rfl) T.free_len PySem.boot_len (pa_cons (pv 3) pa_nil)) pe_int (nomark _)) (pss_one ps_retN) pss_nil)
    (pss_cons (ps_expr (pe_methH (pe_fld (pv 0) rfl) T.cls_Net T.me_Net_send (ok_Net_send T) (hr.mono (by decide)) (pa_cons (pe_callH (ok_news_letter T) (hr.mono (by decide)) (by rfl) T.glo_news_letter (pa_cons (pe_fld (pv 1) rfl) (pa_cons (pe_fld (pv 1) rfl) (pa_cons (pe_fld (pv 1) rfl) (pa_cons (pv 2) (pa_cons (pv 3) pa_nil)))))) pa_nil)))
    (pss_one (ps_fld (pv 1) (pv 2) rfl))))), ?_⟩
  · rintro vs H Q ⟨W, s, j, a, dx, pa, x, es, rfl, _⟩; rfl
  · rintro vs Q ⟨W, s, j0, a, dxw, pa, x, es, rfl, A, hw, hpa, hes, hle, h100, q1, q2⟩
    obtain ⟨dxh0, hh0⟩ := A.house
    refine ⟨_, rfl, W.hs, dxh0, _, rfl, hh0, rfl, _, rfl, W, s, j0, es, rfl, A, hes, fun ev he => ?_⟩
    obtain ⟨eva, evs, rfl, hev, hl, pe⟩ := he
    refine ⟨eva, rfl, ⟨_, SqL.of hl⟩, fun D hD => lc_list (K := K) (a := eva) (xs := evs) (fun j H' => Kp [] H H' ∧ ∃ acc, H' D = some (.lst acc) ∧ Paired (EventAt K H) acc (Ag07.under x.path (es.take j))) ⟨(Kp.refl _ _).new hD, [], upd_same, .nil⟩ (fun j H' _ h => SqL.of (h.1.at_ hl (by simp))) ?_ ?_⟩
    · rintro j v H' hv ⟨k, acc, hd, pacc⟩
      obtain ⟨e, hej, ea, edx, epa, rfl, hea, hepa⟩ := Paired.get pe hv
      refine ⟨rfl, ?_⟩
      have hwa := k.at_ hw (by simp)
      refine ⟨_, rfl, ea, _, edx, _, _, rfl, k.imm hea, T.cls_Event, T.no_Event_path, rfl, ?_⟩
      refine ⟨_, rfl, a, _, dxw, _, _, rfl, hwa, T.cls_Watcher, T.no_Watcher_path, rfl, ?_⟩
      refine ⟨epa, pa, e.path, x.path, rfl, k.tup hepa, k.tup hpa, fun H2 k2 => ⟨_, rfl, ?_⟩⟩
      have k3 : Kp [] H H2 := k.trans k2
      have hd2 := k2.at_ hd (by simp)
      have et : Ag07.under x.path (es.take (j + 1)) = if Ag07.below e.path x.path = true then Ag07.under x.path (es.take j) ++ [e] else Ag07.under x.path (es.take j) := by
        unfold Ag07.under
        rw [take_snoc hej, List.filter_append, List.filter_cons]
        split <;> simp
      refine ite2 (fun hb => ?_) (fun hb => ?_)
      · refine ⟨_, rfl, acc, hd2, ?_, k3.own hD, acc ++ [.ref ea], upd_same, ?_⟩
        · have := Paired.len pacc
          have h2 : (Ag07.under x.path (es.take j)).length ≤ (es.take j).length := List.length_filter_le _ _
          rw [List.length_take] at h2
          exact sizeLine_big (by omega)
        · rw [et, if_pos hb]
          exact Paired.app pacc (.cons ⟨ea, edx, epa, rfl, hea, hepa⟩ .nil)
      · refine ⟨k3, acc, hd2, ?_⟩
        rw [et, if_neg hb]; exact pacc
    · rintro H1 ⟨k1, acc, hd, pacc⟩
      have hlen : es.take evs.length = es := List.take_of_length_le (by rw [Paired.len pe]; exact Nat.le_refl _)
      rw [hlen] at pacc
      have A1 := A.keep k1
      have hal := Paired.len pacc
      refine ⟨_, rfl, _, acc.length, rfl, Or.inl ⟨_, SqL.of hd, rfl⟩, rfl, _, rfl, ite2 (fun hz => ?_) (fun hz => ?_)⟩
      · have h0 : acc.length = 0 := by have := of_decide_eq_true hz; injection this with this; omega
        have e0 : (Ag07.under x.path es).isEmpty = true := by rw [List.isEmpty_iff_length_eq_zero]; omega
        exact q1 e0 H1 k1
      · have h0 : ¬ acc.length = 0 := fun z => hz (decide_eq_true (by rw [z]; rfl))
        have e0 : (Ag07.under x.path es).isEmpty = false := by rw [Bool.eq_false_iff, ne_eq, List.isEmpty_iff_length_eq_zero]; omega
        obtain ⟨dxh, hh⟩ := A1.house
        obtain ⟨dxn, hn⟩ := A1.neto
        have hwa := k1.at_ hw (by simp)
        refine ⟨_, rfl, W.hs, _, dxh, _, _, rfl, hh, T.cls_House, T.no_House_net, rfl, W.net, dxn, _, rfl, hn, rfl, ?_⟩
        refine ⟨_, rfl, a, _, dxw, _, _, rfl, hwa, T.cls_Watcher, T.no_Watcher_client, rfl, ?_⟩
        refine ⟨_, rfl, a, _, dxw, _, _, rfl, hwa, T.cls_Watcher, T.no_Watcher_number, rfl, ?_⟩
        refine ⟨_, rfl, a, _, dxw, _, _, rfl, hwa, T.cls_Watcher, T.no_Watcher_last, rfl, ?_⟩
        refine ⟨_, rfl, _, rfl, W.mu, _, _, _, _, _, Ag07.under x.path es, rfl, ⟨D, acc, rfl, ?_, hd, Paired.imp pacc fun _ _ h => h.keep k1⟩, A1.mu_there, fun H2 l ⟨L2, hl2, k2⟩ => ?_⟩
        · intro z; exact A.mu_there D z hD
        have A2 := A1.keep k2
        obtain ⟨dxn2, hn2⟩ := A2.neto
        obtain ⟨lv, hlv, plv⟩ := A2.lets
        have hlvl := Paired.len plv
        refine ⟨W.net, dxn2, W.ll, _, lv, rfl, hn2, hlv, by omega, ?_⟩
        have pl3 : Paired (LetterAt K W.mu H2) ((lv ++ [V.ref l]).take 100) ((s.letters ++ [Ag07.news x (j0 + 1) (Ag07.under x.path es)]).take 100) :=
          Paired.takeP (Paired.app plv (.cons L2 .nil)) 100
        have hwa3 : upd H2 W.ll (.lst ((lv ++ [V.ref l]).take 100)) a = some (.ins (C_Watcher K) dxw (wFs pa x)) := by
          have := k2.at_ hwa (by simp)
          rw [upd_ne (ne_of this hlv (by intro z; cases z))]; exact this
        refine ⟨_, rfl, _, rfl, a, _, dxw, _, rfl, hwa3, T.cls_Watcher, T.no_Watcher_last, (by show (4 : Nat) < 1000; decide), ?_⟩
        exact q2 e0 H2 _ (k1.trans k2) pl3
/-- what a telling makes of a world whose watcher it is -/
theorem tellOne_at {H H' : Hp} {W : WAd} {s : Ag07.State} {i : Nat} {a dx pa : Addr} {x : Ag07.Watcher} {es : List Ag07.Event} {vs' : List V} (A : WAt K H W s) (hi : W.ws[i]? = some a) (hw : H a = some (.ins (C_Watcher K) dx (wFs pa x))) (hpa : H pa = some (.tup (pvs x.path)))
    (h0 : (Ag07.under x.path es).isEmpty = false) (k : Kp [] H H') (pl : Paired (LetterAt K W.mu H') vs' ((s.letters ++ [Ag07.news x (Ag07.turn s) (Ag07.under x.path es)]).take 100)) :
    WAt K (upd (upd H' W.ll (.lst vs')) a (.ins (C_Watcher K) dx (wFs pa { x with last := Ag07.turn s }))) W (tellOne s i x es) ∧ Kp W.mu H (upd (upd H' W.ll (.lst vs')) a (.ins (C_Watcher K) dx (wFs pa { x with last := Ag07.turn s }))) := by
  have A2 := A.keep k
  obtain ⟨lv, hlv, plv⟩ := A2.lets
  have p3 := A2.put_ll pl
  have hwa3 : upd H' W.ll (.lst vs') a = some (.ins (C_Watcher K) dx (wFs pa x)) := by
    have := k.at_ hw (by simp)
    rw [upd_ne (ne_of this hlv (by intro z; cases z))]; exact this
  have p4 := p3.1.put_w (x := { x with last := Ag07.turn s }) (o := .ins (C_Watcher K) dx (wFs pa { x with last := Ag07.turn s })) hi ⟨dx, pa, upd_same, by
    have h5 := p3.2.tup (k.tup hpa)
    rw [upd_ne (ne_of h5 hwa3 (by intro z; cases z))]; exact h5⟩
  refine ⟨?_, ?_⟩
  · unfold tellOne; rw [if_neg (by rw [h0]; decide)]; exact p4.1
  · have sub : ∀ b ∈ W.ll :: [a], b ∈ W.mu := by
      intro b hb; simp at hb
      rcases hb with rfl | rfl
      · simp [WAd.mu]
      · simp [WAd.mu, List.mem_of_getElem? hi]
    exact ((k.sub (by simp)).trans (p3.2.sub (by intro b hb; exact sub b (by simp at hb; simp [hb])))).trans (p4.2.sub (by intro b hb; exact sub b (by simp at hb; simp [hb])))
end
end Wt

set_option Elab.async false
set_option linter.all false
set_option maxRecDepth 100000
set_option maxHeartbeats 2000000
namespace Wt
open PySem PySem.Spec PyProof.Rows L2
/-- i watchers are told, one behind the other -/
def tells (s : Ag07.State) (es : List Ag07.Event) : Nat → Ag07.State
  | 0 => s
  | i + 1 => match s.watchers[i]? with
    | some x => tellOne (tells s es i) i x es
    | none => tells s es i
def toldW (t : Nat) (es : List Ag07.Event) (w : Ag07.Watcher) : Ag07.Watcher := if (Ag07.under w.path es).isEmpty = true then w else { w with last := t }
def newsOf (t : Nat) (es : List Ag07.Event) (ws : List Ag07.Watcher) : List Ag07.Letter := (ws.filter fun w => !(Ag07.under w.path es).isEmpty).map fun w => Ag07.news w t (Ag07.under w.path es)
theorem take_take_app {α : Type} (l m : List α) (n : Nat) : (l.take n ++ m).take n = (l ++ m).take n := by
  rw [List.take_append, List.take_append, List.take_take, Nat.min_self, List.length_take]
  congr 1
  rcases Nat.le_total n l.length with h | h
  · rw [Nat.min_eq_left h, Nat.sub_self]
    have : n - l.length = 0 := by omega
    rw [this]
  · rw [Nat.min_eq_right h]
theorem tells_eq (s : Ag07.State) (es : List Ag07.Event) (h : s.letters.length ≤ 100) : ∀ i, i ≤ s.watchers.length → tells s es i =
    { s with letters := (s.letters ++ newsOf (Ag07.turn s) es (s.watchers.take i)).take 100, watchers := (s.watchers.take i).map (toldW (Ag07.turn s) es) ++ s.watchers.drop i }
  | 0, _ => by
    simp only [tells, newsOf, List.take_zero, List.filter_nil, List.map_nil, List.append_nil, List.nil_append, List.drop_zero]
    rw [List.take_of_length_le h]
  | i + 1, hi => by
    have ih := tells_eq s es h i (by omega)
    have hx : s.watchers[i]? = some (s.watchers[i]'(by omega)) := List.getElem?_eq_getElem (by omega)
    simp only [tells, hx]
    have hd : s.watchers.drop i = s.watchers[i]'(by omega) :: s.watchers.drop (i + 1) := List.drop_eq_getElem_cons (by omega)
    generalize s.watchers[i]'(by omega) = x at hx hd
    have ht : s.watchers.take (i + 1) = s.watchers.take i ++ [x] := take_snoc hx
    have hlen : ((s.watchers.take i).map (toldW (Ag07.turn s) es)).length = i := by rw [List.length_map, List.length_take]; omega
    rw [ih]
    unfold tellOne
    by_cases he : (Ag07.under x.path es).isEmpty = true
    · rw [if_pos he, ht]
      have e1 : newsOf (Ag07.turn s) es (s.watchers.take i ++ [x]) = newsOf (Ag07.turn s) es (s.watchers.take i) := by
        unfold newsOf; rw [List.filter_append, List.filter_cons, if_neg (by simp [he])]; simp
      have e2 : toldW (Ag07.turn s) es x = x := by unfold toldW; rw [if_pos he]
      rw [e1, List.map_append, hd, List.map_cons, List.map_nil, e2, List.append_assoc]; rfl
    · rw [if_neg he, ht]
      have e1 : newsOf (Ag07.turn s) es (s.watchers.take i ++ [x]) = newsOf (Ag07.turn s) es (s.watchers.take i) ++ [Ag07.news x (Ag07.turn s) (Ag07.under x.path es)] := by
        unfold newsOf; rw [List.filter_append, List.filter_cons, if_pos (by simp [he])]; simp
      have e2 : toldW (Ag07.turn s) es x = { x with last := Ag07.turn s } := by unfold toldW; rw [if_neg he]
      have e3 : ((s.watchers.take i).map (toldW (Ag07.turn s) es) ++ s.watchers.drop i).set i { x with last := Ag07.turn s } = (s.watchers.take i).map (toldW (Ag07.turn s) es) ++ { x with last := Ag07.turn s } :: s.watchers.drop (i + 1) := by
        rw [List.set_append_right _ _ (by omega), hlen, Nat.sub_self, hd]; rfl
      show ({ s with letters := _, watchers := _ } : Ag07.State) = _
      rw [e1, List.map_append, List.map_cons, List.map_nil, e2]
      simp only [Ag07.turn] at *
      rw [take_take_app, List.append_assoc, e3, List.append_assoc]; rfl
/-- the turn's end: what happened stands, whoever watches is told -/
def endTurn (s : Ag07.State) (es : List Ag07.Event) : Ag07.State := Ag07.commit s s.nodes es
theorem endTurn_eq (s : Ag07.State) (es : List Ag07.Event) (h : s.letters.length ≤ 100) (he : es ≠ []) :
    endTurn s es = tells { s with log := s.log ++ [es] } es s.watchers.length := by
  rw [tells_eq { s with log := s.log ++ [es] } es h s.watchers.length (Nat.le_refl _)]
  unfold endTurn Ag07.commit
  have e0 : es.isEmpty = false := by cases es <;> simp_all
  rw [if_neg (by simp [e0])]
  simp only [Ag07.send, Ag07.turn, List.take_length, List.drop_length, List.append_nil, List.length_append, List.length_cons, List.length_nil, newsOf, Ag07.ROOM]
  rfl
section
variable {w : World} {K : PySem.W.Frag} {mg : Str → Option Value} {base : Heap}
theorem tells_w (s : Ag07.State) (es : List Ag07.Event) (h : s.letters.length ≤ 100) (i : Nat) (hi : i < s.watchers.length) : (tells s es i).watchers[i]? = s.watchers[i]? := by
  rw [tells_eq s es h i (by omega)]
  show (_ ++ _)[i]? = _
  have hlen : ((s.watchers.take i).map (toldW (Ag07.turn s) es)).length = i := by rw [List.length_map, List.length_take]; omega
  rw [List.getElem?_append_right (by omega), hlen, Nat.sub_self, List.getElem?_drop, Nat.add_zero]
def pm_House_end_turn (K : PySem.W.Frag) : Pm := fun vs H Q => ∃ W s, ∃ (ev : V) (es : List Ag07.Event), vs = [.ref W.hs, ev] ∧ WAt K H W s ∧ EventsAt K W.mu H ev es ∧ es.length ≤ 1000 ∧ s.letters.length ≤ 100 ∧ s.log.length ≤ 100000 ∧
  ∀ H', WAt K H' W (endTurn s es) → Kp W.mu H H' → Q .non H'
theorem ok_House_end_turn (T : Tx K mg) : HasFn Prog w K mg base 5 (He.fAd K d_House_end_turn.at_) p_House_end_turn (pm_House_end_turn K) := by
  refine mkFn T.fun_House_end_turn S_House_end_turn (fun _ _ _ _ _ _ us hl => match us, hl with | [_, _], _ => rfl) ?_ fun cdv A outer s H E hr => ⟨_,
    (pss_cons (ps_if (pt_cmpR op_eq (pe_callB call_len (by rfl) T.free_len PySem.boot_len (pa_cons (pv 1) pa_nil)) pe_int (nomark _)) (pss_one ps_retN) pss_nil)
    (pss_cons (ps_expr (pe_bm PySem.F.plainAttrs_list PySem.F.slot_list_append PySem.F.type_list_append mt_append (pe_fld (pv 0) rfl) (pa_cons (pv 1) pa_nil)))
    (pss_one (ps_for PassesOwn.never rfl (pi_list (pe_fld (pv 0) rfl)) (pg_name (i := 2) S_House_end_turn.nd rfl (Or.inl rfl)) (pss_one (ps_expr (pe_methH (pv 0) T.cls_House T.me_House_tell_watcher (ok_House_tell_watcher T) (hr.mono (by decide)) (pa_cons (pv 2) (pa_cons (pe_methH0 (pv 0) T.cls_House T.me_House_last_turn (ok_House_last_turn T) (hr.mono (by decide))) pa_nil))))))))), ?_⟩
  · rintro vs H Q ⟨W, s, ev, es, rfl, _⟩; rfl
  · rintro vs Q ⟨W, s, ev, es, rfl, A, he, hle, h100, hlog, q⟩
    obtain ⟨eva, evs, rfl, hev, hl, pe⟩ := id he
    have hel := Paired.len pe
    refine ⟨_, rfl, _, evs.length, rfl, Or.inl ⟨_, SqL.of hl, rfl⟩, rfl, _, rfl, ite2 (fun hz => ?_) (fun hz => ?_)⟩
    · have h0 : evs.length = 0 := by have := of_decide_eq_true hz; injection this with this; omega
      have e0 : es = [] := List.length_eq_zero_iff.mp (by omega)
      refine q H ?_ (Kp.refl _ _)
      unfold endTurn Ag07.commit; rw [if_pos (by rw [e0]; rfl)]; exact A
    · have h0 : ¬ evs.length = 0 := fun z => hz (decide_eq_true (by rw [z]; rfl))
      have e0 : es ≠ [] := fun z => h0 (by rw [hel, z]; rfl)
      obtain ⟨dxh, hh⟩ := A.house
      obtain ⟨tv, ht, pt⟩ := A.turns
      have htl := Paired.len pt
      refine ⟨_, rfl, W.hs, _, dxh, _, _, rfl, hh, T.cls_House, T.no_House_turns, rfl, .inl ⟨rfl, _, SqL.of ht⟩, _, rfl, W.lt, tv, _, rfl, rfl, ht, sizeLine_big (by omega), ?_⟩
      have p1 := A.put_lt (vs := tv ++ [.ref eva]) (ls := s.log ++ [es]) (Paired.app pt (.cons he .nil))
      have sub1 : ∀ b ∈ [W.lt], b ∈ W.mu := by simp [WAd.mu]
      obtain ⟨dx1, hh1⟩ := p1.1.house
      have hw1 := p1.1.watch
      have he1 := he.keep p1.2 sub1
      refine ⟨_, rfl, W.hs, _, dx1, _, _, rfl, hh1, T.cls_House, T.no_House_watchers, rfl, W.lw, rfl, ⟨_, SqL.of hw1.1⟩,
        for_list (K := K) (a := W.lw) (xs := W.ws.map V.ref) (fun i σ H' => ∃ v, σ = [some (.ref W.hs), some (.ref eva), v] ∧ WAt K H' W (tells { s with log := s.log ++ [es] } es i) ∧ Kp W.mu H H') ⟨none, rfl, p1.1, p1.2.sub sub1⟩ (fun i σ H' _ h => ?_) ?_ ?_⟩
      · obtain ⟨_, _, A2, _⟩ := h
        exact SqL.of A2.watch.1
      · rintro i y σ H' hy ⟨v, rfl, A2, k2⟩
        obtain ⟨a, ha, rfl⟩ := map_get hy
        obtain ⟨x, hx, _⟩ := Paired.get A.watch.2 ha
        have hi : i < s.watchers.length := (List.getElem?_eq_some_iff.mp hx).1
        obtain ⟨dx2, hh2⟩ := A2.house
        have hx2 : (tells { s with log := s.log ++ [es] } es i).watchers[i]? = some x := by rw [tells_w { s with log := s.log ++ [es] } es h100 i hi]; exact hx
        have hil : i ≤ ({ s with log := s.log ++ [es] } : Ag07.State).watchers.length := by show i ≤ s.watchers.length; omega
        have htn : (tells { s with log := s.log ++ [es] } es i).log = s.log ++ [es] := by rw [tells_eq { s with log := s.log ++ [es] } es h100 i hil]
        have hturn : Ag07.turn (tells { s with log := s.log ++ [es] } es i) = s.log.length + 1 := by unfold Ag07.turn; rw [htn, List.length_append]; rfl
        have hlet : (tells { s with log := s.log ++ [es] } es i).letters.length ≤ 100 := by
          rw [tells_eq { s with log := s.log ++ [es] } es h100 i hil]
          show (List.take 100 _).length ≤ 100
          rw [List.length_take]; omega
        have e : tells { s with log := s.log ++ [es] } es (i + 1) = tellOne (tells { s with log := s.log ++ [es] } es i) i x es := by
          show (match s.watchers[i]? with | some x => _ | none => _) = _
          rw [hx]
        obtain ⟨y, hy, dxw, pa, hw, hpa⟩ := Paired.get A2.watch.2 ha
        rw [hx2] at hy; cases hy
        rw [e]
        generalize tells { s with log := s.log ++ [es] } es i = s2 at A2 hx2 htn hturn hlet
        refine ⟨_, rfl, W.hs, dx2, _, rfl, hh2, rfl, _, rfl, _, rfl, W.hs, dx2, _, rfl, hh2, rfl, W, _, rfl, A2, ?_⟩
        refine ⟨W, s2, s.log.length, a, dxw, pa, x, es, by rw [hturn], A2, hw, hpa, by rw [htn]; simp, hle, hlet, fun h0 H3 k3 => ⟨_, rfl, ?_, k2.trans (k3.sub (by simp))⟩, fun h0 H3 vs' k3 pl3 => ?_⟩
        · unfold tellOne; rw [if_pos h0]; exact A2.keep k3
        · rw [← hturn] at pl3 ⊢
          have p := tellOne_at A2 ha hw hpa h0 k3 pl3
          exact ⟨_, rfl, p.1, k2.trans p.2⟩
      · rintro σ H' ⟨v, rfl, A2, k2⟩
        refine q H' ?_ k2
        rw [endTurn_eq s es h100 e0]
        have e : (W.ws.map V.ref).length = s.watchers.length := by rw [List.length_map]; exact Paired.len A.watch.2
        rw [e] at A2; exact A2
end
end Wt

set_option Elab.async false
set_option linter.all false
set_option maxRecDepth 100000
set_option maxHeartbeats 2000000
namespace Wt
open PySem PySem.Spec PyProof.Rows L2
section
variable {w : World} {K : PySem.W.Frag} {mg : Str → Option Value} {base : Heap}
def pm_Event_init (K : PySem.W.Frag) : Pm := fun vs H Q => ∃ x dx a b c, vs = [.ref x, a, b, c] ∧ H x = some (.ins (C_Event K) dx []) ∧ Q .non (upd H x (.ins (C_Event K) dx (F_Event a b c)))
theorem ok_Event_init (T : Tx K mg) : HasFn Prog w K mg base 1 (He.fAd K d_Event_init.at_) p_Event_init (pm_Event_init K) := by
  refine mkFn T.fun_Event_init S_Event_init (fun _ _ _ _ _ _ us hl => match us, hl with | [_, _, _, _], _ => rfl) ?_ fun cdv A outer s H E hr => ⟨_,
    (pss_cons (ps_fld (pv 0) (pv 1) rfl)
    (pss_cons (ps_fld (pv 0) (pv 2) rfl)
    (pss_one (ps_fld (pv 0) (pv 3) rfl)))), ?_⟩
  · rintro vs H Q ⟨x, dx, a, b, c, rfl, _⟩; rfl
  · rintro vs Q ⟨x, dx, a, b, c, rfl, hx, q⟩
    refine ⟨_, rfl, _, rfl, x, _, dx, _, rfl, hx, T.cls_Event, T.no_Event_what, (by show (0 : Nat) < 1000; decide), ?_⟩
    refine ⟨_, rfl, _, rfl, x, _, dx, _, rfl, upd_same, T.cls_Event, T.no_Event_value, (by show (1 : Nat) < 1000; decide), ?_⟩
    refine ⟨_, rfl, _, rfl, x, _, dx, _, rfl, upd_same, T.cls_Event, T.no_Event_path, (by show (2 : Nat) < 1000; decide), ?_⟩
    rw [upd_upd, upd_upd]; exact q
/-- a new event -/
theorem event_new {H : Hp} {x dx pa : Addr} {e : Ag07.Event} (hx : H x = none) (hdx : H dx = none) (hp : H pa = some (.tup (pvs e.path))) :
    EventAt K (upd (upd (upd H dx (.own x)) x (.ins (C_Event K) dx [])) x (.ins (C_Event K) dx (F_Event (.int (e.what : Nat)) (.int (e.value : Nat)) (.ref pa)))) (.ref x) e ∧
    Kp [] H (upd (upd (upd H dx (.own x)) x (.ins (C_Event K) dx [])) x (.ins (C_Event K) dx (F_Event (.int (e.what : Nat)) (.int (e.value : Nat)) (.ref pa)))) := by
  rw [upd_upd]
  refine ⟨⟨x, dx, pa, rfl, upd_same, ?_⟩, ((Kp.refl _ _).new hdx).own hx⟩
  rw [upd_ne (ne_of_none hp hx), upd_ne (ne_of_none hp hdx)]; exact hp
def pm_Node_init (K : PySem.W.Frag) : Pm := fun vs H Q => ∃ x dx, ∃ n : Ag07.Node, vs = [.ref x, .int (n.value : Nat), .int (n.version : Nat), .int (n.made : Nat), .int (n.changed : Nat), .int (n.holder : Nat)] ∧
  H x = some (.ins (C_Node K) dx []) ∧ Q .non (upd H x (.ins (C_Node K) dx (F_Node n)))
theorem ok_Node_init (T : Tx K mg) : HasFn Prog w K mg base 1 (He.fAd K d_Node_init.at_) p_Node_init (pm_Node_init K) := by
  refine mkFn T.fun_Node_init S_Node_init (fun _ _ _ _ _ _ us hl => match us, hl with | [_, _, _, _, _, _], _ => rfl) ?_ fun cdv A outer s H E hr => ⟨_,
    (pss_cons (ps_fld (pv 0) (pv 1) rfl)
    (pss_cons (ps_fld (pv 0) (pv 2) rfl)
    (pss_cons (ps_fld (pv 0) (pv 3) rfl)
    (pss_cons (ps_fld (pv 0) (pv 4) rfl)
    (pss_one (ps_fld (pv 0) (pv 5) rfl)))))), ?_⟩
  · rintro vs H Q ⟨x, dx, n, rfl, _⟩; rfl
  · rintro vs Q ⟨x, dx, n, rfl, hx, q⟩
    refine ⟨_, rfl, _, rfl, x, _, dx, _, rfl, hx, T.cls_Node, T.no_Node_value, (by show (0 : Nat) < 1000; decide), ?_⟩
    refine ⟨_, rfl, _, rfl, x, _, dx, _, rfl, upd_same, T.cls_Node, T.no_Node_version, (by show (1 : Nat) < 1000; decide), ?_⟩
    refine ⟨_, rfl, _, rfl, x, _, dx, _, rfl, upd_same, T.cls_Node, T.no_Node_made, (by show (2 : Nat) < 1000; decide), ?_⟩
    refine ⟨_, rfl, _, rfl, x, _, dx, _, rfl, upd_same, T.cls_Node, T.no_Node_changed, (by show (3 : Nat) < 1000; decide), ?_⟩
    refine ⟨_, rfl, _, rfl, x, _, dx, _, rfl, upd_same, T.cls_Node, T.no_Node_held, (by show (4 : Nat) < 1000; decide), ?_⟩
    rw [upd_upd, upd_upd, upd_upd, upd_upd]; exact q
end
/-! ### the nodes' dict -/
abbrev NP (K : PySem.W.Frag) (H : Hp) : (List Key × V) → Ag07.Node → Prop := fun kv n => kv.1 = pkey n.path ∧ NodeAt K H kv.2 n
section
variable {K : PySem.W.Frag} {H : Hp} {kvs : List (List Key × V)} {ns l : List Ag07.Node}
theorem np_val (p : Paired (NP K H) kvs ns) (q : List Nat) : (valV kvs (pkey q) = none ∧ Ag07.find ns q = none) ∨ ∃ v n, valV kvs (pkey q) = some v ∧ Ag07.find ns q = some n ∧ NodeAt K H v n := by
  induction p with
  | nil => exact .inl ⟨rfl, rfl⟩
  | @cons kv n kvs ns h t ih =>
    by_cases e : n.path = q
    · refine .inr ⟨kv.2, n, valV_pos (by rw [h.1, e]), ?_, h.2⟩
      unfold Ag07.find; rw [List.find?_cons]; simp [e]
    · have e1 : ¬ kv.1 = pkey q := fun z => e (pkey_inj (h.1.symm.trans z))
      have e3 : (n.path == q) = false := by simp [e]
      have e2 : Ag07.find (n :: ns) q = Ag07.find ns q := by unfold Ag07.find; rw [List.find?_cons, e3]
      rw [valV_neg e1, e2]; exact ih
theorem np_drop (p : Paired (NP K H) kvs ns) (q : List Nat) : Paired (NP K H) (dropK kvs (pkey q)) (ns.filter fun n => n.path != q) := by
  induction p with
  | nil => exact .nil
  | @cons kv n kvs ns h t ih =>
    by_cases e : n.path = q
    · have z1 : dropK (kv :: kvs) (pkey q) = dropK kvs (pkey q) := List.filter_cons_of_neg (by simp [h.1, e])
      rw [z1, List.filter_cons_of_neg (by simp [e])]; exact ih
    · have e1 : ¬ kv.1 = pkey q := fun z => e (pkey_inj (h.1.symm.trans z))
      have z1 : dropK (kv :: kvs) (pkey q) = kv :: dropK kvs (pkey q) := List.filter_cons_of_pos (by simp [e1])
      rw [z1, List.filter_cons_of_pos (by simp [e])]; exact .cons h ih
theorem np_put (p : Paired (NP K H) kvs ns) {n : Ag07.Node} {v : V} (hv : NodeAt K H v n) : Paired (NP K H) (putK kvs (pkey n.path) v) (putN n ns) := by
  have e : (kvs.any fun kv => decide (kv.1 = pkey n.path)) = ns.any fun m => decide (m.path = n.path) := by
    induction p with
    | nil => rfl
    | @cons kv m kvs ns h t ih =>
      rw [List.any_cons, List.any_cons, ih]
      congr 1
      rw [h.1]; exact decide_eq_decide.mpr ⟨pkey_inj, fun z => by rw [z]⟩
  unfold putK putN
  rw [e]
  split
  · rename_i hany
    clear e hany
    induction p with
    | nil => exact .nil
    | @cons kv m kvs ns h t ih =>
      rw [List.map_cons, List.map_cons]
      refine .cons ?_ ih
      by_cases z : m.path = n.path
      · rw [if_pos (by rw [h.1, z]), if_pos z]; exact ⟨by rw [h.1, z], hv⟩
      · rw [if_neg (fun y => z (pkey_inj (h.1.symm.trans y))), if_neg z]; exact h
  · exact Paired.app p (.cons ⟨rfl, hv⟩ .nil)
theorem np_keys (p : Paired (NP K H) kvs ns) : kvs.map (·.1) = ns.map fun n => pkey n.path := by
  induction p with
  | nil => rfl
  | cons h t ih => rw [List.map_cons, List.map_cons, ih, h.1]
theorem val_at {kvs : List (List Key × V)} : ∀ {i : Nat} {k : List Key} {v : V}, (kvs.map (·.1)).Nodup → kvs[i]? = some (k, v) → valV kvs k = some v := by
  induction kvs with
  | nil => intro i k v _ h; simp at h
  | cons x kvs ih =>
    intro i k v nd h
    rw [List.map_cons, List.nodup_cons] at nd
    cases i with
    | zero => simp at h; subst h; exact valV_pos rfl
    | succ i =>
      have h' : kvs[i]? = some (k, v) := by simpa using h
      rw [valV_neg (fun z => nd.1 (by rw [z]; exact List.mem_map.mpr ⟨_, List.mem_of_getElem? h', rfl⟩))]
      exact ih nd.2 h'
theorem keys_nodup (p : Paired (NP K H) kvs ns) (pm : ns.Perm l) (s : SrtN l) : (kvs.map (·.1)).Nodup := by
  rw [np_keys p]
  have h1 : (l.map fun n => n.path).Nodup := by
    rw [List.Nodup, List.pairwise_map]
    exact s.imp fun h e => by rw [e] at h; exact List.lt_irrefl _ h
  have h2 : (ns.map fun n => n.path).Nodup := (pm.map _).nodup_iff.mpr h1
  rw [show (ns.map fun n => pkey n.path) = (ns.map fun n => n.path).map pkey by rw [List.map_map]; rfl]
  rw [List.Nodup, List.pairwise_map]
  exact h2.imp fun h e => h (pkey_inj e)
end
end Wt

set_option Elab.async false
set_option linter.all false
set_option maxRecDepth 100000
set_option maxHeartbeats 4000000
namespace Wt
open PySem PySem.Spec PyProof.Rows L2
theorem drop_seen (l : List Ag07.Session) (n : Nat) : dropK (seenOf l) (Sum.inl (n : Int)) = seenOf (l.filter fun x => x.sid != n) := by
  induction l with
  | nil => rfl
  | cons x l ih =>
    by_cases e : x.sid = n
    · rw [List.filter_cons_of_neg (by simp [e]), ← ih]
      exact List.filter_cons_of_neg (by simp [e])
    · have e1 : ¬ (Sum.inl (x.sid : Int) : Key) = Sum.inl (n : Int) := fun z => e (Int.ofNat.inj (Sum.inl.inj z))
      rw [List.filter_cons_of_pos (by simp [e])]
      show dropK ((Sum.inl (x.sid : Int), V.int (x.seen : Int)) :: seenOf l) _ = (Sum.inl (x.sid : Int), V.int (x.seen : Int)) :: seenOf (l.filter fun x => x.sid != n)
      rw [← ih]
      exact List.filter_cons_of_pos (by simpa using e1)
theorem commit_nil (s : Ag07.State) (l : List Ag07.Node) : Ag07.commit s l [] = s := rfl
/-- what a session held -/
abbrev heldBy (l : List Ag07.Node) (n : Nat) : List Ag07.Node := l.filter fun x => x.holder == n
theorem over_eq (s : Ag07.State) (n : Nat) : Ag07.over s n = endTurn { s with sessions := s.sessions.filter fun x => x.sid != n, nodes := s.nodes.filter fun x => x.holder != n } ((heldBy s.nodes n).map fun x => ⟨0, x.path, 0⟩) := by
  unfold Ag07.over endTurn
  by_cases h : heldBy s.nodes n = []
  · have e : (s.nodes.filter fun x => x.holder != n) = s.nodes := by
      rw [List.filter_eq_self]
      intro a ha
      have := List.filter_eq_nil_iff.mp h a ha
      simpa using this
    show Ag07.commit _ _ ((heldBy s.nodes n).map _) = Ag07.commit _ _ ((heldBy s.nodes n).map _)
    rw [h, List.map_nil, commit_nil, commit_nil, e]
  · show Ag07.commit _ _ ((heldBy s.nodes n).map _) = Ag07.commit _ _ ((heldBy s.nodes n).map _)
    unfold Ag07.commit
    have e : ¬ ((heldBy s.nodes n).map fun x => (⟨0, x.path, 0⟩ : Ag07.Event)).isEmpty = true := by simp [h]
    rw [if_neg e, if_neg e]; rfl
/-- what is left, once the first j of the paths are dropped -/
def leftOf (ns : List Ag07.Node) (ps : List (List Nat)) : List Ag07.Node := ns.filter fun n => !ps.contains n.path
theorem leftOf_nil (ns : List Ag07.Node) : leftOf ns [] = ns := by unfold leftOf; simp
theorem leftOf_snoc (ns : List Ag07.Node) (ps : List (List Nat)) (p : List Nat) : leftOf ns (ps ++ [p]) = (leftOf ns ps).filter fun n => n.path != p := by
  unfold leftOf
  rw [List.filter_filter]
  congr 1
  funext n
  rw [List.contains_append]
  simp only [List.contains_cons, List.contains_nil, Bool.or_false, Bool.not_or]
  rw [Bool.and_comm]; rfl
theorem leftOf_eq {ns : List Ag07.Node} {l : List Ag07.Node} {n : Nat} (pm : ns.Perm l) (s : SrtN l) : leftOf ns ((heldBy l n).map fun x => x.path) = ns.filter fun x => x.holder != n := by
  have e : leftOf ns ((heldBy l n).map fun x => x.path) = ns.filter fun x => x.holder != n := by
    unfold leftOf
    apply List.filter_congr
    intro x hx
    have hx' := pm.mem_iff.mp hx
    by_cases h : x.holder = n
    · have : ((heldBy l n).map fun x => x.path).contains x.path = true := by
        rw [List.contains_iff_mem]
        exact List.mem_map.mpr ⟨x, List.mem_filter.mpr ⟨hx', by simp [h]⟩, rfl⟩
      rw [this]; simp [h]
    · have : ((heldBy l n).map fun x => x.path).contains x.path = false := by
        rw [Bool.eq_false_iff]
        intro z
        rw [List.contains_iff_mem] at z
        obtain ⟨y, hy, e⟩ := List.mem_map.mp z
        obtain ⟨hy1, hy2⟩ := List.mem_filter.mp hy
        have := s.inj hy1 hx' e
        rw [this] at hy2; exact h (by simpa using hy2)
      rw [this]; simp [h]
  exact e
section
variable {w : World} {K : PySem.W.Frag} {mg : Str → Option Value} {base : Heap}
/-- a heap while a thing is locked, and behind -/
theorem Kp.unlock {H H1 : Hp} {d : Addr} {o : Obj} {u : HO} (h : H d = some u) (k : ∀ b x, upd H d (.frz o u) b = some x → H1 b = some x) : Kp [] H (upd H1 d u) := fun b x e _ => by
  by_cases z : b = d
  · subst z; rw [h] at e; cases e; exact upd_same
  · rw [upd_ne z]; exact k b x (by rw [upd_ne z]; exact e)
def pm_House_end_session (K : PySem.W.Frag) : Pm := fun vs H Q => ∃ W s, ∃ n : Nat, vs = [.ref W.hs, .int n] ∧ WAt K H W s ∧ Ag07.lasts s n = true ∧ SrtN s.nodes ∧ (∀ x ∈ s.nodes, x.path ≠ []) ∧ s.nodes.length ≤ 1000 ∧
  s.letters.length ≤ 100 ∧ s.log.length ≤ 100000 ∧ ∀ H', WAt K H' W (Ag07.over s n) → Kp W.mu H H' → Q .non H'
theorem ok_House_end_session (T : Tx K mg) : HasFn Prog w K mg base 6 (He.fAd K d_House_end_session.at_) p_House_end_session (pm_House_end_session K) := by
  refine mkFn T.fun_House_end_session S_House_end_session (fun _ _ _ _ _ _ us hl => match us, hl with | [_, _], _ => rfl) ?_ fun cdv A outer s H E hr => ⟨_,
    (pss_cons (ps_expr (pe_dpop1 (pe_fld (pv 0) rfl) (pv 1) ⟨rfl, rfl, rfl, rfl⟩))
    (pss_cons (ps_set (i := 3) S_House_end_session.nd rfl (Or.inl rfl) (pe_callB (cr_sortP hr.units) (by rfl) T.free_sorted (by decide +kernel) (pa_cons (pe_lock (pe_lc (own := [("path", 2)]) (g := gName 2) (tt := (tTest (tOp rEq (tFld K (tDGet (tFld K (tVar 0) "nodes") (tVar 2)) "held") (tVar 1)))) (te := (tVar 2)) rfl S_House_end_session.nd (pi_keys (pe_fld (pv 0) rfl)) (blkOk_by (own := [("path", 2)]) (N := n_House_end_session) (sc := sc_House_end_session) (by decide +kernel)) (fun _ _ _ _ _ => pg_name (i := 2) S_House_end_session.nd rfl (Or.inl rfl)) (fun _ _ _ _ _ => (pts_one (pt_cmpR op_eq (pe_fld (pe_dget (hu_of hr) (pe_fld (pv 0) rfl) (pv 2) (fun _ _ => rfl)) rfl) (pv 1) (nomark _)))) (fun _ _ _ _ _ => (pv 2)))) pa_nil)))
    (pss_cons (ps_for PassesOwn.never rfl (pi_list (pv 3)) (pg_name (i := 2) S_House_end_session.nd rfl (Or.inl rfl)) (pss_one (ps_expr (pe_bm PySem.F.plainAttrs_dict PySem.F.slot_dict_pop PySem.F.type_dict_pop (mt_popT1 (hu_of hr) ) (pe_fld (pv 0) rfl) (pa_cons (pv 2) pa_nil)))))
    (pss_one (ps_expr (pe_methH (pv 0) T.cls_House T.me_House_end_turn (ok_House_end_turn T) (hr.mono (by decide)) (pa_cons (pe_lc (own := [("path", 2)]) (g := gName 2) (tt := tYes) (te := (tMakeH (He.ga K "Event") (pm_Event_init K) (tCons (tC (.int (0))) (tCons (tC (.int 0)) (tCons (tVar 2) tNil))))) rfl S_House_end_session.nd (pi_list (pv 3)) (blkOk_by (own := [("path", 2)]) (N := n_House_end_session) (sc := sc_House_end_session) (by decide +kernel)) (fun _ _ _ _ _ => pg_name (i := 2) S_House_end_session.nd rfl (Or.inl rfl)) (fun _ _ _ _ _ => pts_nil) (fun _ _ _ _ _ => (pe_makeH T.mkr_Event (ok_Event_init T) (hr.mono (by decide)) (by rfl) T.glo_Event (pa_cons (pe_gint (by rfl) T.int_GONE) (pa_cons pe_int (pa_cons (pv 2) pa_nil)))))) pa_nil))))))), ?_⟩
  · rintro vs H Q ⟨W, s, n, rfl, _⟩; rfl
  · rintro vs Q ⟨W, s, n, rfl, A, hlast, srt, hne, hn1000, h100, hlog, q⟩
    obtain ⟨dxh, hh⟩ := A.house
    obtain ⟨v0, hv0⟩ : ∃ v, valV (seenOf s.sessions) (Sum.inl (n : Int)) = some v := by
      have := val_seen_some s.sessions n
      rw [show (s.sessions.any fun x => x.sid == n) = true from hlast] at this
      exact Option.isSome_iff_exists.mp this
    refine ⟨_, rfl, W.hs, _, dxh, _, _, rfl, hh, T.cls_House, T.no_House_seen, rfl, W.ds, rfl, .inl ⟨_, .inl A.seen⟩, _, rfl, _, _, v0, A.seen, rfl, hv0, ?_⟩
    rw [drop_seen]
    have p1 := A.put_ds (s.sessions.filter fun x => x.sid != n)
    have k1 : Kp W.mu H _ := p1.2.sub (by simp [WAd.mu])
    generalize hH1 : upd H W.ds (.dK (seenOf (s.sessions.filter fun x => x.sid != n))) = H1 at p1 k1
    have A1 := p1.1
    clear hH1 p1
    obtain ⟨dx1, hh1⟩ := A1.house
    obtain ⟨ns, ⟨kvs, hdn, pn⟩, pm⟩ := A1.nodes
    have pm : ns.Perm s.nodes := pm
    have knd := keys_nodup pn pm srt
    have hds : W.dn ≠ W.hs := by have := A.nds; grind
    -- held = sorted([..])
    refine ⟨W.dn, _, hdn, True.intro, fun od => ?_⟩
    have hhl : upd H1 W.dn (.frz od (.dT kvs)) W.hs = _ := (upd_ne hds.symm).trans hh1
    have hdl : upd H1 W.dn (.frz od (.dT kvs)) W.dn = some (.frz od (.dT kvs)) := upd_same
    have immL : ∀ b o, isImm o = true → H1 b = some o → upd H1 W.dn (.frz od (.dT kvs)) b = some o := fun b o i e => by
      rw [upd_ne (fun z => by rw [z, hdn] at e; cases e; cases i)]; exact e
    generalize hHl : upd H1 W.dn (.frz od (.dT kvs)) = Hl at hhl hdl immL
    refine ⟨_, rfl, W.hs, _, dx1, _, _, rfl, hhl, T.cls_House, T.no_House_nodes, rfl, W.dn, od, rfl, .inr ⟨kvs, hdl, fun D hD => lc_it walk_keysT (fun i H' => (∀ b o, Hl b = some o → H' b = some o) ∧
      ∃ xs : List (V × List Nat), H' D = some (.lst (xs.map (·.1))) ∧ (∀ x ∈ xs, x.2 ≠ [] ∧ ∃ t, x.1 = .ref t ∧ H' t = some (.tup (pvs x.2))) ∧ xs.map (·.2) = (heldBy (ns.take i) n).map fun x => x.path)
      ⟨fun b o e => by rw [upd_ne (ne_of_none e hD)]; exact e, [], upd_same, (fun x hx => by cases hx), rfl⟩ (fun i H' _ h => h.1 _ _ hdl) ?_ ?_⟩⟩
    · rintro i x H' H2 hi ⟨kH, xs, hd, hxs, hpx⟩ hy
      obtain ⟨rfl, key, v, qa, hkv, rfl, hqa⟩ := hy
      obtain ⟨nd, hnd, hkey, na, ndx, rfl, hna⟩ := Paired.get pn hkv
      have hkey : key = pkey nd.path := hkey
      have hmem : nd ∈ s.nodes := pm.mem_iff.mp (List.mem_of_getElem? hnd)
      refine ⟨rfl, ?_⟩
      refine ⟨_, rfl, W.hs, _, dx1, _, _, rfl, kH _ _ hhl, T.cls_House, T.no_House_nodes, rfl, _, rfl, W.dn, _, rfl, .inr ⟨kvs, key, qa, .inr ⟨od, kH _ _ hdl⟩, rfl, hqa, (val_at knd hkv).symm⟩,
        na, _, ndx, _, _, rfl, kH _ _ (immL na _ rfl hna), T.cls_Node, T.no_Node_held, rfl, _, rfl, rfl, _, rfl, ?_⟩
      have ht : heldBy (ns.take (i + 1)) n = if nd.holder = n then heldBy (ns.take i) n ++ [nd] else heldBy (ns.take i) n := by
        unfold heldBy
        rw [take_snoc hnd, List.filter_append, List.filter_cons]
        by_cases z : nd.holder = n <;> simp [z]
      refine ite2 (fun hb => ?_) (fun hb => ?_)
      · have hz : nd.holder = n := by
          have := of_decide_eq_true hb
          injection this with this; exact Int.ofNat.inj this
        have hDn : D ≠ qa := fun z => by rw [← z, hd] at hqa; cases hqa
        refine ⟨_, rfl, xs.map (·.1), hd, ?_, fun b o e => ?_, xs ++ [(.ref qa, nd.path)], ?_, ?_, ?_⟩
        · rw [List.length_map]
          have e1 := congrArg List.length hpx
          rw [List.length_map, List.length_map] at e1
          have e2 : (heldBy (ns.take i) n).length ≤ (ns.take i).length := List.length_filter_le _ _
          have e3 := pm.length_eq
          rw [List.length_take] at e2
          exact sizeLine_big (by omega)
        · rw [upd_ne (ne_of_none e hD)]; exact kH b o e
        · rw [upd_same, List.map_append]; rfl
        · intro x hx
          rcases List.mem_append.mp hx with hx | hx
          · obtain ⟨h1, t, h2, h3⟩ := hxs x hx
            exact ⟨h1, t, h2, by rw [upd_ne (ne_of h3 hd (by intro z; cases z))]; exact h3⟩
          · rw [List.mem_singleton.mp hx]
            refine ⟨hne nd hmem, qa, rfl, ?_⟩
            rw [upd_ne hDn.symm, hqa, hkey, pkey_kV]
        · rw [List.map_append, hpx, ht, if_pos hz, List.map_append]; rfl
      · have hz : ¬ nd.holder = n := fun z => hb (decide_eq_true (by rw [z]))
        refine ⟨kH, xs, hd, hxs, ?_⟩
        rw [hpx, ht, if_neg hz]
    · rintro H2 ⟨kH, xs, hd, hxs, hpx⟩
      have hlen : ns.take kvs.length = ns := List.take_of_length_le (by rw [Paired.len pn]; exact Nat.le_refl _)
      rw [hlen] at hpx
      have hDd : D ≠ W.dn := fun z => by have := kH _ _ hdl; rw [← z, hd] at this; cases this
      refine ⟨kH _ _ hdl, ?_⟩
      have k2 : Kp [] H1 (upd H2 W.dn (.dT kvs)) := Kp.unlock hdn (by rw [hHl]; exact kH)
      have hd2 : upd H2 W.dn (.dT kvs) D = some (.lst (xs.map (·.1))) := by rw [upd_ne hDd]; exact hd
      have hxs2 : ∀ x ∈ xs, x.2 ≠ [] ∧ ∃ t, x.1 = .ref t ∧ upd H2 W.dn (.dT kvs) t = some (.tup (pvs x.2)) := fun x hx => by
        obtain ⟨h1, t, h2, h3⟩ := hxs x hx
        exact ⟨h1, t, h2, by rw [upd_ne (ne_of h3 (kH _ _ hdl) (by intro z; cases z))]; exact h3⟩
      generalize upd H2 W.dn (.dT kvs) = H3 at k2 hd2 hxs2
      refine ⟨D, xs, rfl, SqL.of hd2, (fun x hx => ?_), fun P hP => ?_⟩
      · obtain ⟨h1, t, h2, h3⟩ := hxs2 x hx
        exact ⟨h1, t, h2, SqT.of h3⟩
      -- the sorted list
      have hys : (xs.mergeSort fun x y => leP x.2 y.2).map (·.2) = (heldBy s.nodes n).map fun x => x.path := by
        refine sort_paths ?_ ?_ ?_
        · refine ((List.mergeSort_perm _ _).map _).trans ?_
          rw [hpx]
          exact (pm.filter _).map _
        · rw [List.pairwise_map]; exact srt.filter _
        · rw [List.pairwise_map]
          exact List.pairwise_mergeSort (le := fun x y : V × List Nat => leP x.2 y.2) (fun a b c h1 h2 => leP_trans h1 h2) (fun a b => leP_total a.2 b.2) xs
      have hyx : ∀ y ∈ xs.mergeSort fun x y => leP x.2 y.2, ∃ t, y.1 = .ref t ∧ H3 t = some (.tup (pvs y.2)) := fun y hy => (hxs2 y ((List.mergeSort_perm _ _).mem_iff.mp hy)).2
      have hylen : (xs.mergeSort fun x y => leP x.2 y.2).length ≤ 1000 := by
        have e1 := congrArg List.length hys
        rw [List.length_map, List.length_map] at e1
        have e2 : (heldBy s.nodes n).length ≤ s.nodes.length := List.length_filter_le _ _
        omega
      generalize xs.mergeSort (fun x y => leP x.2 y.2) = ys at hys hyx hylen
      have A3 := A1.keep k2
      have k3 : Kp [] H3 (upd H3 P (.lst (ys.map (·.1)))) := (Kp.refl _ _).new hP
      have A4 := A3.keep k3
      have hPP : upd H3 P (.lst (ys.map (·.1))) P = some (.lst (ys.map (·.1))) := upd_same
      have hPm : P ∉ W.mu := fun z => A3.mu_there P z hP
      have hyx4 : ∀ y ∈ ys, ∃ t, y.1 = .ref t ∧ upd H3 P (.lst (ys.map (·.1))) t = some (.tup (pvs y.2)) := fun y hy => by
        obtain ⟨t, h1, h2⟩ := hyx y hy
        exact ⟨t, h1, k3.tup h2⟩
      have k14 : Kp W.mu H (upd H3 P (.lst (ys.map (·.1)))) := k1.trans ((k2.trans k3).sub (by simp))
      generalize upd H3 P (.lst (ys.map (·.1))) = H4 at A4 hPP hyx4 k14
      -- for path in held: self.nodes.pop(path)
      refine ⟨_, rfl, P, rfl, ⟨_, SqL.of hPP⟩, for_list (K := K) (a := P) (xs := ys.map (·.1)) (fun j σ H' => ∃ v, σ = [some (.ref W.hs), some (.int n), v, some (.ref P)] ∧ Kp W.mu H4 H' ∧
        WAt K H' W { s with sessions := s.sessions.filter fun x => x.sid != n, nodes := leftOf s.nodes ((ys.take j).map (·.2)) }) ⟨none, rfl, Kp.refl _ _, ?_⟩ (fun j σ H' _ h => ?_) ?_ ?_⟩
      · rw [List.take_zero, List.map_nil, leftOf_nil]; exact A4
      · obtain ⟨_, _, kk, _⟩ := h
        exact SqL.of (kk.at_ hPP hPm)
      · rintro j y σ H' hy ⟨v, rfl, kk, A5⟩
        obtain ⟨y, hyj, rfl⟩ := map_get hy
        obtain ⟨t, ht1, ht2⟩ := hyx4 y (List.mem_of_getElem? hyj)
        obtain ⟨dx5, hh5⟩ := A5.house
        obtain ⟨ns5, ⟨kv5, hd5, pn5⟩, pm5⟩ := A5.nodes
        have pm5 : ns5.Perm (leftOf s.nodes ((ys.take j).map (·.2))) := pm5
        have hin : ∃ nd, Ag07.find ns5 y.2 = some nd := by
          have h1 : y.2 ∈ (heldBy s.nodes n).map fun x => x.path := by rw [← hys]; exact List.mem_map.mpr ⟨y, List.mem_of_getElem? hyj, rfl⟩
          obtain ⟨nd, hnd, e⟩ := List.mem_map.mp h1
          have hnd' : nd ∈ leftOf s.nodes ((ys.take j).map (·.2)) := by
            refine List.mem_filter.mpr ⟨(List.mem_filter.mp hnd).1, ?_⟩
            rw [Bool.not_eq_true', Bool.eq_false_iff]
            intro z
            rw [List.contains_iff_mem, e] at z
            have nd2 : (ys.map (·.2)).Nodup := by
              rw [hys, List.Nodup, List.pairwise_map]
              exact (srt.filter _).imp fun h e => by rw [e] at h; exact List.lt_irrefl _ h
            have h3 : (ys.map (·.2))[j]? = some y.2 := by rw [List.getElem?_map, hyj]; rfl
            rw [List.map_take] at z
            obtain ⟨m, hm⟩ := List.mem_iff_getElem?.mp z
            rw [List.getElem?_take] at hm
            split at hm
            · have := nd_ix nd2 hm h3
              omega
            · cases hm
          cases e2 : Ag07.find ns5 y.2 with
          | some x => exact ⟨x, rfl⟩
          | none => exact absurd e (find_none.mp e2 nd (pm5.mem_iff.mpr hnd'))
        obtain ⟨nd, hfd⟩ := hin
        rcases np_val pn5 y.2 with ⟨h1, h2⟩ | ⟨v5, n5, h1, h2, h3⟩
        · rw [hfd] at h2; cases h2
        refine ⟨_, rfl, W.hs, _, dx5, _, _, rfl, hh5, T.cls_House, T.no_House_nodes, rfl, .inr (.inr (.inl ⟨rfl, .inr ⟨_, hd5⟩⟩)), _, rfl, W.dn, kv5, pkey y.2, t, v5, rfl, by rw [ht1], hd5, ?_, h1, ?_⟩
        · rw [pkey_kV]; exact kk.tup ht2
        have p6 := A5.put_dn (np_drop pn5 y.2) (l := leftOf s.nodes ((ys.take (j + 1)).map (·.2))) (by
          rw [take_snoc hyj, List.map_append]
          show List.Perm _ (leftOf _ (_ ++ [y.2]))
          rw [leftOf_snoc]; exact pm5.filter _)
        exact ⟨_, rfl, kk.trans (p6.2.sub (by simp [WAd.mu])), p6.1⟩
      · rintro σ H5 ⟨v, rfl, kk, A5⟩
        rw [List.length_map, List.take_length, hys] at A5
        obtain ⟨dx5, hh5⟩ := A5.house
        have hP5 := kk.at_ hPP hPm
        refine ⟨_, rfl, W.hs, dx5, _, rfl, hh5, rfl, _, rfl, P, rfl, ⟨_, SqL.of hP5⟩, fun D2 hD2 => lc_list (K := K) (a := P) (xs := ys.map (·.1)) (fun j H' => Kp [] H5 H' ∧
          ∃ acc, H' D2 = some (.lst acc) ∧ Paired (EventAt K H') acc ((ys.take j).map fun y => (⟨0, y.2, 0⟩ : Ag07.Event))) ⟨(Kp.refl _ _).new hD2, [], upd_same, .nil⟩ (fun j H' _ h => SqL.of (h.1.at_ hP5 (by simp))) ?_ ?_⟩
        · rintro j y H' hy ⟨k6, acc, hacc, pacc⟩
          obtain ⟨y, hyj, rfl⟩ := map_get hy
          obtain ⟨t, ht1, ht2⟩ := hyx4 y (List.mem_of_getElem? hyj)
          refine ⟨rfl, tYes_if ?_⟩
          refine ⟨_, rfl, fun x dx hx hdx hxd => ⟨x, dx, _, _, _, rfl, upd_same, rfl, ?_⟩⟩
          have ht6 := k6.tup (kk.tup ht2)
          have ev := event_new (K := K) (e := ⟨0, y.2, 0⟩) hx hdx ht6
          rw [ht1]
          have k7 := k6.trans ev.2
          refine ⟨acc, ev.2.at_ hacc (by simp), ?_, k7.own hD2, acc ++ [.ref x], upd_same, ?_⟩
          · have := Paired.len pacc
            rw [List.length_map, List.length_take] at this
            exact sizeLine_big (by omega)
          · have hnx : D2 ≠ x := ne_of_none hacc hx
            have hx2 := ev.2.at_ hacc (by simp)
            have kD := (Kp.refl [D2] _).put (o := .lst (acc ++ [.ref x])) (by simp) hx2
            rw [take_snoc hyj, List.map_append]
            exact Paired.app (Paired.imp pacc fun _ _ h => (h.keep ev.2).keep kD) (.cons (ev.1.keep kD) .nil)
        · rintro H6 ⟨k6, acc, hacc, pacc⟩
          rw [List.length_map, List.take_length] at pacc
          have A6 := A5.keep k6
          refine ⟨W, _, .ref D2, _, rfl, A6, ⟨D2, acc, rfl, fun z => A5.mu_there D2 z hD2, hacc, pacc⟩, ?_, h100, hlog, fun H7 A7 k7 => ?_⟩
          · rw [List.length_map]; omega
          · refine q H7 ?_ (k14.trans ((kk.trans (k6.sub (by simp))).trans k7))
            rw [over_eq]
            have e1 : leftOf s.nodes ((heldBy s.nodes n).map fun x => x.path) = s.nodes.filter fun x => x.holder != n := leftOf_eq (List.Perm.refl _) srt
            have e2 : (ys.map fun y => (⟨0, y.2, 0⟩ : Ag07.Event)) = (heldBy s.nodes n).map fun x => (⟨0, x.path, 0⟩ : Ag07.Event) := by
              have e3 := congrArg (List.map fun p => (⟨0, p, 0⟩ : Ag07.Event)) hys
              rw [List.map_map, List.map_map] at e3; exact e3
            rw [e1, e2] at A7; exact A7
end
end Wt

set_option Elab.async false
set_option linter.all false
set_option maxRecDepth 100000
set_option maxHeartbeats 4000000
namespace Wt
open PySem PySem.Spec PyProof.Rows L2
section
variable {w : World} {K : PySem.W.Frag} {mg : Str → Option Value} {base : Heap}
theorem max_eq (a b : Nat) : (if (b : Int) > (a : Int) then (b : Int) else (a : Int)) = ((max a b : Nat) : Int) := by
  split <;> omega
def pm_House_pass_time (K : PySem.W.Frag) : Pm := fun vs H Q => ∃ W s, ∃ b t : Nat, vs = [.ref W.hs, .int t] ∧ WAt K H W s ∧ Good b s ∧ b ≤ 1000 ∧
  ∀ H', WAt K H' W (Ag07.tick s t) → Kp W.mu H H' → Q .non H'
theorem ok_House_pass_time (T : Tx K mg) : HasFn Prog w K mg base 7 (He.fAd K d_House_pass_time.at_) p_House_pass_time (pm_House_pass_time K) := by
  refine mkFn T.fun_House_pass_time S_House_pass_time (fun _ _ _ _ _ _ us hl => match us, hl with | [_, _], _ => rfl) ?_ fun cdv A outer s H E hr => ⟨_,
    (pss_cons (ps_fld (pv 0) (pe_callB (call_max2 rfl) (by rfl) T.free_max (by decide +kernel) (pa_cons (pe_fld (pv 0) rfl) (pa_cons (pv 1) pa_nil))) rfl)
    (pss_one (ps_for PassesOwn.never rfl (pi_list (pe_callTy (call_list_dK rfl) (by rfl) T.free_list (by decide +kernel) (pa_cons (pe_fld (pv 0) rfl) pa_nil))) (pg_name (i := 2) S_House_pass_time.nd rfl (Or.inl rfl)) (pss_one (ps_if (pt_cmpR op_lt (pe_op op_add (pe_dget (hu_of hr) (pe_fld (pv 0) rfl) (pv 2) (fun _ _ => rfl)) (pe_fld (pv 0) rfl)) (pe_fld (pv 0) rfl) (nomark _)) (pss_one (ps_expr (pe_methH (pv 0) T.cls_House T.me_House_end_session (ok_House_end_session T) (hr.mono (by decide)) (pa_cons (pv 2) pa_nil)))) pss_nil))))), ?_⟩
  · rintro vs H Q ⟨W, s, b, t, rfl, _⟩; rfl
  · rintro vs Q ⟨W, s, b, t, rfl, A, g, hb, q⟩
    obtain ⟨dxh, hh⟩ := A.house
    refine ⟨_, rfl, W.hs, _, dxh, _, _, rfl, hh, T.cls_House, T.no_House_time, rfl, _, rfl, _, _, rfl, _, rfl, W.hs, _, dxh, _, rfl, hh, T.cls_House, T.no_House_time, (by show (9 : Nat) < 1000; decide), ?_⟩
    rw [max_eq]
    have p1 := A.put_hs (dx := dxh) (life := s.life) (time := max s.time t) (opened := s.opened) (bs := s.base) ⟨_, hh⟩
    have k1 : Kp W.mu H _ := p1.2.sub (by simp [WAd.mu])
    have A1 := p1.1
    have e1 : upd H W.hs (.ins (C_House K) dxh (putF "time" (.int (max s.time t : Nat)) (HoF.fs ⟨.int (s.life : Nat), .ref W.net, .int (s.time : Nat), .int (s.opened : Nat), .ref W.ds, .ref W.dn, .ref W.lt, .int (s.base : Nat), .ref W.lw⟩))) =
      upd H W.hs (.ins (C_House K) dxh (HoF.fs ⟨.int (s.life : Nat), .ref W.net, .int (max s.time t : Nat), .int (s.opened : Nat), .ref W.ds, .ref W.dn, .ref W.lt, .int (s.base : Nat), .ref W.lw⟩)) := rfl
    rw [e1]
    generalize upd H W.hs (.ins (C_House K) dxh (HoF.fs ⟨.int (s.life : Nat), .ref W.net, .int (max s.time t : Nat), .int (s.opened : Nat), .ref W.ds, .ref W.dn, .ref W.lt, .int (s.base : Nat), .ref W.lw⟩)) = H1 at A1 k1
    clear p1 e1
    have g1 : Good b { s with time := max s.time t } := ⟨g.srt, g.pth, g.cnt, g.lts, g.sid, g.opn, g.bnd⟩
    have A1 : WAt K H1 W { s with time := max s.time t } := A1
    have eT : Ag07.tick s t = overs { s with time := max s.time t } (s.sessions.filter fun x => decide (x.seen + s.life < max s.time t)) := rfl
    obtain ⟨dx1, hh1⟩ := A1.house
    refine ⟨_, rfl, W.hs, _, dx1, _, _, rfl, hh1, T.cls_House, T.no_House_seen, rfl, W.ds, _, rfl, A1.seen, fun P hP => ?_⟩
    have k2 : Kp [] H1 (upd H1 P (.lst ((seenOf s.sessions).map fun kv => kV kv.1))) := (Kp.refl _ _).new hP
    have A2 := A1.keep k2
    have hPm : P ∉ W.mu := fun z => A1.mu_there P z hP
    have hPP : upd H1 P (.lst ((seenOf s.sessions).map fun kv => kV kv.1)) P = some (.lst (s.sessions.map fun x => V.int (x.sid : Int))) := by
      rw [upd_same]; unfold seenOf; rw [List.map_map]; rfl
    have k12 : Kp W.mu H _ := k1.trans (k2.sub (by simp))
    refine ⟨P, rfl, ⟨_, SqL.of hPP⟩, for_list (K := K) (a := P) (xs := s.sessions.map fun x => V.int (x.sid : Int)) (fun j σ H' => ∃ v, σ = [some (.ref W.hs), some (.int t), v] ∧
      WAt K H' W (overs { s with time := max s.time t } ((s.sessions.take j).filter fun x => decide (x.seen + s.life < max s.time t))) ∧ Kp W.mu H H' ∧ H' P = some (.lst (s.sessions.map fun x => V.int (x.sid : Int)))) ⟨none, rfl, A2, k12, hPP⟩ (fun j σ H' _ h => ?_) ?_ ?_⟩
    · obtain ⟨_, _, _, _, h⟩ := h
      exact SqL.of h
    · rintro j y σ H' hy ⟨v, rfl, A3, k3, hP3⟩
      obtain ⟨x, hx, rfl⟩ := map_get hy
      have hx : s.sessions[j]? = some x := hx
      have g3 := g1.overs (p := fun x => decide (x.seen + s.life < max s.time t)) j
      have hm := overs_at (s := { s with time := max s.time t }) g1.sid (p := fun x => decide (x.seen + s.life < max s.time t)) hx
      have htk : s.sessions.take (j + 1) = s.sessions.take j ++ [x] := take_snoc hx
      have hlife := overs_life { s with time := max s.time t } ((s.sessions.take j).filter fun x => decide (x.seen + s.life < max s.time t))
      have htime := overs_time { s with time := max s.time t } ((s.sessions.take j).filter fun x => decide (x.seen + s.life < max s.time t))
      have hst : overs { s with time := max s.time t } ((s.sessions.take (j + 1)).filter fun x => decide (x.seen + s.life < max s.time t)) =
          if x.seen + s.life < max s.time t then Ag07.over (overs { s with time := max s.time t } ((s.sessions.take j).filter fun x => decide (x.seen + s.life < max s.time t))) x.sid
          else overs { s with time := max s.time t } ((s.sessions.take j).filter fun x => decide (x.seen + s.life < max s.time t)) := by
        rw [htk, List.filter_append, List.filter_cons, List.filter_nil]
        by_cases z : x.seen + s.life < max s.time t
        · rw [if_pos (by simpa using z), if_pos z, overs_snoc]
        · rw [if_neg (by simpa using z), if_neg z, List.append_nil]
      have g3 : Good b (overs { s with time := max s.time t } ((s.sessions.take j).filter fun x => decide (x.seen + s.life < max s.time t))) := g3
      have hm : x ∈ (overs { s with time := max s.time t } ((s.sessions.take j).filter fun x => decide (x.seen + s.life < max s.time t))).sessions := hm
      rw [hst]
      generalize overs { s with time := max s.time t } ((s.sessions.take j).filter fun x => decide (x.seen + s.life < max s.time t)) = u at A3 g3 hm hlife htime
      have hlife : u.life = s.life := hlife
      have htime : u.time = max s.time t := htime
      obtain ⟨dx3, hh3⟩ := A3.house
      have hval : valV (seenOf u.sessions) (Sum.inl (x.sid : Int)) = some (.int (x.seen : Int)) := by rw [val_seen, find_sid g3.sid hm]; rfl
      refine ⟨_, rfl, W.hs, _, dx3, _, _, rfl, hh3, T.cls_House, T.no_House_seen, rfl, _, rfl, W.ds, _, rfl, .inl ⟨_, Sum.inl (x.sid : Int), .inl A3.seen, rfl, hval.symm⟩, ?_⟩
      refine ⟨_, rfl, W.hs, _, dx3, _, _, rfl, hh3, T.cls_House, T.no_House_life, rfl, _, _, rfl, rfl, ?_⟩
      refine ⟨_, rfl, W.hs, _, dx3, _, _, rfl, hh3, T.cls_House, T.no_House_time, rfl, _, _, rfl, rfl, _, rfl, ite2 (fun hz => ?_) (fun hz => ?_)⟩
      · have hz : x.seen + s.life < max s.time t := by
          have := of_decide_eq_true hz
          rw [hlife, htime] at this; omega
        rw [if_pos hz]
        refine ⟨_, rfl, W.hs, dx3, _, rfl, hh3, rfl, _, rfl, W, u, x.sid, rfl, A3, lasts_mem hm, g3.srt, (fun y hy => path_ne (g3.pth y hy)), Nat.le_trans g3.cnt (by decide), g3.lts, by have := g3.bnd; omega, fun H4 A4 k4 => ?_⟩
        exact ⟨_, rfl, A4, k3.trans k4, k4.at_ hP3 hPm⟩
      · have hz : ¬ x.seen + s.life < max s.time t := fun z => hz (decide_eq_true (by rw [hlife, htime]; omega))
        rw [if_neg hz]
        exact ⟨_, rfl, A3, k3, hP3⟩
    · rintro σ H' ⟨v, rfl, A3, k3, _⟩
      rw [List.length_map, List.take_length] at A3
      rw [eT] at q; exact q H' A3 k3
end
end Wt

set_option Elab.async false
set_option linter.all false
set_option maxRecDepth 100000
set_option maxHeartbeats 4000000
namespace Wt
open PySem PySem.Spec PyProof.Rows L2
abbrev C_Order (K : PySem.W.Frag) : Addr := He.ga K "Order"
def F_Order (kind version value session path : V) : List (Str × V) := [("kind", kind), ("version", version), ("value", value), ("session", session), ("path", path)]
def OrderAt (K : PySem.W.Frag) (H : Hp) (v : V) (o : Ag07.Order) : Prop := ∃ a dx pa, v = .ref a ∧
  H a = some (.ins (C_Order K) dx (F_Order (.int (o.kind : Nat)) (.int (o.version : Nat)) (.int (o.value : Nat)) (.int (o.holder : Nat)) (.ref pa))) ∧ H pa = some (.tup (pvs o.path))
theorem OrderAt.keep {K : PySem.W.Frag} {M : List Addr} {H H' : Hp} {v : V} {o : Ag07.Order} (k : Kp M H H') (h : OrderAt K H v o) : OrderAt K H' v o := by
  obtain ⟨a, dx, pa, e, h, hp⟩ := h
  exact ⟨a, dx, pa, e, k.imm h, k.tup hp⟩
/-- whether an order's form is as told -/
def okO (o : Ag07.Order) : Bool := decide (o.kind ≤ 3) && (decide (o.value ≤ 99) && Ag07.isPath 1 o.path)
theorem orderOf_eq (o : Ag07.Order) : Ag07.orderOf (o.kind :: o.version :: o.value :: o.holder :: o.path) = if okO o = true then some o else none := by
  show (if 3 < o.kind ∨ (99 < o.value ∨ Ag07.isPath 1 o.path = false) then none else some o) = _
  have e : (3 < o.kind ∨ (99 < o.value ∨ Ag07.isPath 1 o.path = false)) ↔ ¬ okO o = true := by
    unfold okO
    cases Ag07.isPath 1 o.path <;> simp <;> omega
  by_cases h : okO o = true
  · rw [if_neg (fun z => e.mp z h), if_pos h]
  · rw [if_pos (e.mpr h), if_neg h]
section
variable {w : World} {K : PySem.W.Frag} {mg : Str → Option Value} {base : Heap}
/-- an order of a row -/
def pm_Order_init (K : PySem.W.Frag) : Pm := fun vs H Q => ∃ x dx r, ∃ o : Ag07.Order, vs = [.ref x, .ref r] ∧ H x = some (.ins (C_Order K) dx []) ∧ H r = some (.lst (pvs (o.kind :: o.version :: o.value :: o.holder :: o.path))) ∧
  ∀ H', OrderAt K H' (.ref x) o → Kp [x] H H' → Q .non H'
theorem ok_Order_init (T : Tx K mg) : HasFn Prog w K mg base 1 (He.fAd K d_Order_init.at_) p_Order_init (pm_Order_init K) := by
  refine mkFn T.fun_Order_init S_Order_init (fun _ _ _ _ _ _ us hl => match us, hl with | [_, _], _ => rfl) ?_ fun cdv A outer s H E hr => ⟨_,
    (pss_cons (ps_fld (pv 0) (pe_ix ix_list (pv 1) pe_int (fun _ _ => rfl)) rfl)
    (pss_cons (ps_fld (pv 0) (pe_ix ix_list (pv 1) pe_int (fun _ _ => rfl)) rfl)
    (pss_cons (ps_fld (pv 0) (pe_ix ix_list (pv 1) pe_int (fun _ _ => rfl)) rfl)
    (pss_cons (ps_fld (pv 0) (pe_ix ix_list (pv 1) pe_int (fun _ _ => rfl)) rfl)
    (pss_one (ps_fld (pv 0) (pe_callTy call_tuple_of (by rfl) T.free_tuple (by decide +kernel) (pa_cons (pe_slice sl_list (pv 1) (po_some pe_int) po_none) pa_nil)) rfl)))))), ?_⟩
  · rintro vs H Q ⟨x, dx, r, o, rfl, _⟩; rfl
  · rintro vs Q ⟨x, dx, r, o, rfl, hx, hr, q⟩
    have nrx : r ≠ x := fun z => by rw [z, hx] at hr; cases hr
    have rd : ∀ u, upd H x u r = some (.lst (pvs (o.kind :: o.version :: o.value :: o.holder :: o.path))) := fun u => by rw [upd_ne nrx]; exact hr
    refine ⟨_, rfl, r, _, _, _, rfl, rfl, SqL.of hr, atI_nat (j := 0) rfl, _, rfl, x, _, dx, _, rfl, hx, T.cls_Order, T.no_Order_kind, (by show (0 : Nat) < 1000; decide), ?_⟩
    refine ⟨_, rfl, r, _, _, _, rfl, rfl, SqL.of (rd _), atI_nat (j := 1) rfl, _, rfl, x, _, dx, _, rfl, upd_same, T.cls_Order, T.no_Order_version, (by show (1 : Nat) < 1000; decide), ?_⟩
    rw [upd_upd]
    refine ⟨_, rfl, r, _, _, _, rfl, rfl, SqL.of (rd _), atI_nat (j := 2) rfl, _, rfl, x, _, dx, _, rfl, upd_same, T.cls_Order, T.no_Order_value, (by show (2 : Nat) < 1000; decide), ?_⟩
    rw [upd_upd]
    refine ⟨_, rfl, r, _, _, _, rfl, rfl, SqL.of (rd _), atI_nat (j := 3) rfl, _, rfl, x, _, dx, _, rfl, upd_same, T.cls_Order, T.no_Order_session, (by show (3 : Nat) < 1000; decide), ?_⟩
    rw [upd_upd]
    refine ⟨_, rfl, _, rfl, r, _, rfl, SqL.of (rd _), fun sl hsl => ?_⟩
    have ecut : cutV (pvs (o.kind :: o.version :: o.value :: o.holder :: o.path)) (some 4) none = pvs o.path := by
      unfold cutV
      have e1 : HT.sIx (pvs (o.kind :: o.version :: o.value :: o.holder :: o.path)).length 0 (some 4) = 4 := by
        rw [show (4 : Int) = ((4 : Nat) : Int) from rfl, HT.sIx_nat]; simp
      rw [e1, HT.sIx_none]
      show (pvs o.path).take _ = pvs o.path
      apply List.take_of_length_le; simp
    rw [ecut]
    refine ⟨sl, _, rfl, .inl ⟨SqL.of upd_same, fun pa hpa => ?_⟩⟩
    have nxs : x ≠ sl := ne_of_none upd_same hsl
    have nsp : sl ≠ pa := ne_of_none upd_same hpa
    rw [upd_ne nsp.symm] at hpa
    have nxp : x ≠ pa := ne_of_none upd_same hpa
    rw [upd_ne nxp.symm] at hpa
    rw [upd_ne nxs.symm] at hsl
    refine ⟨_, rfl, x, _, dx, _, rfl, (by rw [upd_ne nxp, upd_ne nxs]; exact upd_same), T.cls_Order, T.no_Order_path, (by show (4 : Nat) < 1000; decide), ?_⟩
    refine q _ ⟨x, dx, pa, rfl, upd_same, by rw [upd_ne nxp.symm, upd_same]⟩ ?_
    refine fun b o e n => ?_
    have nx : b ≠ x := fun z => by
      rcases n with n | n
      · exact n (by rw [z]; exact List.mem_singleton.mpr rfl)
      · rw [z, hx] at e; cases e; cases n
    rw [upd_ne nx, upd_ne (ne_of_none e hpa), upd_ne (ne_of_none e hsl), upd_ne nx]; exact e
def pm_is_order (K : PySem.W.Frag) : Pm := fun vs H Q => ∃ v, ∃ o : Ag07.Order, vs = [v] ∧ OrderAt K H v o ∧ o.path.length ≤ 1000 ∧ ∀ H', Kp [] H H' → Q (.bl (okO o)) H'
theorem ok_is_order (T : Tx K mg) : HasFn Prog w K mg base 3 (He.fAd K d_is_order.at_) p_is_order (pm_is_order K) := by
  refine mkFn T.fun_is_order S_is_order (fun _ _ _ _ _ _ us hl => match us, hl with | [_], _ => rfl) ?_ fun cdv A outer s H E hr => ⟨_,
    (pss_one (ps_ret (pe_and (pe_cmpR op_le (pe_fld (pv 0) rfl) (pe_gint (by rfl) T.int_CHECK) (nomark _)) (pe_and (pe_cmpR op_le (pe_fld (pv 0) rfl) (pe_gint (by rfl) T.int_MOST_VALUE) (nomark _)) (pe_one (pe_callH (ok_is_path T) (hr.mono (by decide)) (by rfl) T.glo_is_path (pa_cons (pe_fld (pv 0) rfl) pa_nil))))))), ?_⟩
  · rintro vs H Q ⟨v, o, rfl, _⟩; rfl
  · rintro vs Q ⟨v, o, rfl, ⟨a, dx, pa, rfl, ha, hpa⟩, hlen, q⟩
    refine ⟨_, rfl, a, _, dx, _, _, rfl, ha, T.cls_Order, T.no_Order_kind, rfl, _, _, rfl, rfl, _, rfl, ite2 (fun h => ?_) (fun h => ?_)⟩
    · have h1 : o.kind ≤ 3 := by have := of_decide_eq_true h; omega
      refine ⟨_, rfl, a, _, dx, _, _, rfl, ha, T.cls_Order, T.no_Order_value, rfl, _, _, rfl, rfl, _, rfl, ite2 (fun h => ?_) (fun h => ?_)⟩
      · have h2 : o.value ≤ 99 := by have := of_decide_eq_true h; omega
        refine ⟨_, rfl, a, _, dx, _, _, rfl, ha, T.cls_Order, T.no_Order_path, rfl, pa, o.path, rfl, hpa, hlen, fun H' k => ?_⟩
        have e : Ag07.isPath 1 o.path = okO o := by unfold okO; simp [h1, h2]
        rw [e]; exact q H' k
      · have h2 : ¬ o.value ≤ 99 := fun z => h (decide_eq_true (by omega))
        have e : okO o = false := by unfold okO; simp [h2]
        rw [e] at q; exact q H (Kp.refl _ _)
    · have h1 : ¬ o.kind ≤ 3 := fun z => h (decide_eq_true (by omega))
      have e : okO o = false := by unfold okO; simp [h1]
      rw [e] at q; exact q H (Kp.refl _ _)
def pm_are_orders (K : PySem.W.Frag) : Pm := fun vs H Q => ∃ l ovs, ∃ os : List Ag07.Order, vs = [.ref l] ∧ H l = some (.lst ovs) ∧ Paired (OrderAt K H) ovs os ∧ (∀ o ∈ os, o.path.length ≤ 1000) ∧ os.length ≤ 1000 ∧
  ∀ H', Kp [] H H' → Q (.bl (decide (1 ≤ os.length) && decide (os.length ≤ 6) && os.all okO)) H'
theorem ok_are_orders (T : Tx K mg) : HasFn Prog w K mg base 4 (He.fAd K d_are_orders.at_) p_are_orders (pm_are_orders K) := by
  refine mkFn T.fun_are_orders S_are_orders (fun _ _ _ _ _ _ us hl => match us, hl with | [_], _ => rfl) ?_ fun cdv A outer s H E hr => ⟨_,
    (pss_one (ps_ret (pe_and (pe_chain op_le op_le pe_int (pe_callB call_len (by rfl) T.free_len PySem.boot_len (pa_cons (pv 0) pa_nil)) (pe_gint (by rfl) T.int_MOST_ORDERS)) (pe_one (pe_callB (cr_all rfl) (by rfl) T.free_all (by decide +kernel) (pa_cons (pe_lc (own := [("order", 1)]) (g := gName 1) (tt := tYes) (te := (tCallH (pm_is_order K) (tCons (tVar 1) tNil))) rfl S_are_orders.nd (pi_list (pv 0)) (blkOk_by (own := [("order", 1)]) (N := n_are_orders) (sc := sc_are_orders) (by decide +kernel)) (fun _ _ _ _ _ => pg_name (i := 1) S_are_orders.nd rfl (Or.inl rfl)) (fun _ _ _ _ _ => pts_nil) (fun _ _ _ _ _ => (pe_callH (ok_is_order T) (hr.mono (by decide)) (by rfl) T.glo_is_order (pa_cons (pv 1) pa_nil)))) pa_nil)))))), ?_⟩
  · rintro vs H Q ⟨l, ovs, os, rfl, _⟩; rfl
  · rintro vs Q ⟨l, ovs, os, rfl, hl, po, hp, hlen, q⟩
    have hol := Paired.len po
    have fin : (decide (1 ≤ os.length) && decide (os.length ≤ 6)) = true → tCB (rAll K) (tCons (tLc (iList K (tVar 0)) (gName 1) tYes (tCallH (pm_is_order K) (tCons (tVar 1) tNil)) [1]) tNil) (L2.start n_are_orders [V.ref l]) H Q := by
      intro hc
      refine ⟨_, rfl, l, rfl, ⟨_, SqL.of hl⟩, fun D hD => lc_list (K := K) (a := l) (xs := ovs) (fun i H' => Kp [] H H' ∧ H' D = some (.lst ((os.take i).map fun o => V.bl (okO o)))) ⟨(Kp.refl _ _).new hD, upd_same⟩ (fun i H' _ h => SqL.of (h.1.at_ hl (by simp))) ?_ ?_⟩
      · rintro i x H' hx ⟨k, hd⟩
        obtain ⟨o, ho, oa⟩ := Paired.get po hx
        refine ⟨rfl, tYes_if ?_⟩
        refine ⟨_, rfl, x, o, rfl, oa.keep k, hp o (List.mem_of_getElem? ho), fun H2 k2 => ⟨_, k2.at_ hd (by simp), ?_, (k.trans k2).own hD, ?_⟩⟩
        · rw [List.length_map, List.length_take]; exact sizeLine_big (by omega)
        · rw [upd_same, take_snoc ho, List.map_append]; rfl
      · rintro H' ⟨k, hd⟩
        have e0 : os.take ovs.length = os := List.take_of_length_le (by omega)
        rw [e0] at hd
        refine ⟨D, os.map okO, rfl, SqL.of (by rw [hd, List.map_map]; rfl), ?_⟩
        have e : (os.map okO).all id = (decide (1 ≤ os.length) && decide (os.length ≤ 6) && os.all okO) := by rw [hc, List.all_map]; rfl
        rw [e]; exact q H' k
    refine ⟨_, rfl, _, ovs.length, rfl, Or.inl ⟨_, SqL.of hl, rfl⟩, _, _, rfl, rfl, _, rfl, ?_⟩
    have no : ¬ (decide (1 ≤ os.length) && decide (os.length ≤ 6)) = true → Q (.bl false) H := fun z => by
      have e : (decide (1 ≤ os.length) && decide (os.length ≤ 6) && os.all okO) = false := by rw [Bool.eq_false_iff.mpr z]; rfl
      rw [e] at q; exact q H (Kp.refl _ _)
    refine ite2 (fun h => ?_) (fun h => ?_)
    · have h1 : 1 ≤ os.length := by have := of_decide_eq_true h; omega
      refine ⟨_, _, rfl, rfl, _, rfl, ite2 (fun h => ?_) (fun h => ?_)⟩
      · have h2 : os.length ≤ 6 := by have := of_decide_eq_true h; omega
        exact fin (by simp [h1, h2])
      · have h2 : ¬ os.length ≤ 6 := fun z => h (decide_eq_true (by omega))
        exact no (by simp [h2])
    · have h1 : ¬ 1 ≤ os.length := fun z => h (decide_eq_true (by omega))
      refine ⟨_, rfl, ?_⟩
      refine iteF ?_
      exact no (by simp [h1])
end
end Wt

set_option Elab.async false
set_option linter.all false
set_option maxRecDepth 100000
set_option maxHeartbeats 4000000
namespace Wt
open PySem PySem.Spec PyProof.Rows L2
section
variable {w : World} {K : PySem.W.Frag} {mg : Str → Option Value} {base : Heap}
theorem decV {a b : Nat} : decide (V.int (a : Int) = V.int (b : Int)) = decide (a = b) := decide_eq_decide.mpr ⟨fun h => Int.ofNat.inj (V.int.inj h), fun h => by rw [h]⟩
/-- what the dict at d holds at a path -/
theorem nodes_get {H : Hp} {d b : Addr} {ns : List Ag07.Node} {p : List Nat} (h : NodesAt K H d ns) (hb : H b = some (.tup (pvs p))) :
    (DGet H d (.ref b) none ∧ Ag07.find ns p = none) ∨ ∃ v n, DGet H d (.ref b) (some v) ∧ Ag07.find ns p = some n ∧ NodeAt K H v n := by
  obtain ⟨kvs, hd, pn⟩ := h
  have hb' : H b = some (.tup ((pkey p).map kV)) := by rw [pkey_kV]; exact hb
  rcases np_val pn p with ⟨h1, h2⟩ | ⟨v, n, h1, h2, h3⟩
  · refine .inl ⟨?_, h2⟩
    have := DGet.t (k := pkey p) hd hb'
    rw [h1] at this; exact this
  · refine .inr ⟨v, n, ?_, h2, h3⟩
    have := DGet.t (k := pkey p) hd hb'
    rw [h1] at this; exact this
def underW (ns : List Ag07.Node) (p : List Nat) : Nat := if p = [] then 0 else match Ag07.find ns p with
  | none => 3
  | some n => if n.holder = 0 then 0 else 4
def pm_why_not_under (K : PySem.W.Frag) : Pm := fun vs H Q => ∃ a d p ns, vs = [.ref a, .ref d] ∧ H a = some (.tup (pvs p)) ∧ NodesAt K H d ns ∧ Q (.int (underW ns p : Nat)) H
theorem ok_why_not_under (T : Tx K mg) : HasFn Prog w K mg base 1 (He.fAd K d_why_not_under.at_) p_why_not_under (pm_why_not_under K) := by
  refine mkFn T.fun_why_not_under S_why_not_under (fun _ _ _ _ _ _ us hl => match us, hl with | [_, _], _ => rfl) ?_ fun cdv A outer s H E hr => ⟨_,
    (pss_cons (ps_if (pt_cmpR op_eq (pe_callB call_len (by rfl) T.free_len PySem.boot_len (pa_cons (pv 0) pa_nil)) pe_int (nomark _)) (pss_one (ps_ret (pe_gint (by rfl) T.int_CAN_BE_DONE))) pss_nil)
    (pss_cons (ps_if (pt_cmp (pc_dnotin (hu_of hr) (pv 0) (pv 1)) rfl) (pss_one (ps_ret (pe_gint (by rfl) T.int_NOTHING_ABOVE))) pss_nil)
    (pss_cons (ps_if (pt_cmpR op_ne (pe_fld (pe_dget (hu_of hr) (pv 1) (pv 0) (fun _ _ => rfl)) rfl) pe_int (nomark _)) (pss_one (ps_ret (pe_gint (by rfl) T.int_HELD_ABOVE))) pss_nil)
    (pss_one (ps_ret (pe_gint (by rfl) T.int_CAN_BE_DONE)))))), ?_⟩
  · rintro vs H Q ⟨a, d, p, ns, rfl, _⟩; rfl
  · rintro vs Q ⟨a, d, p, ns, rfl, ha, hn, q⟩
    refine ⟨_, rfl, _, p.length, rfl, Or.inr ⟨_, SqT.of ha, by simp⟩, rfl, _, rfl, ite2 (fun h => ?_) (fun h => ?_)⟩
    · have h0 : p = [] := by
        have := of_decide_eq_true h
        injection this with this
        exact List.length_eq_zero_iff.mp (by omega)
      have e : underW ns p = 0 := by unfold underW; rw [if_pos h0]
      rw [e] at q; exact q
    · have h0 : ¬ p = [] := fun z => h (decide_eq_true (by rw [z]; rfl))
      rcases nodes_get hn ha with ⟨g, hf⟩ | ⟨v, n, g, hf, na, ndx, rfl, hna⟩
      · have e : underW ns p = 3 := by unfold underW; rw [if_neg h0, hf]
        rw [e] at q
        exact ⟨_, rfl, _, rfl, d, _, rfl, g, _, rfl, iteT q⟩
      · refine ⟨_, rfl, _, rfl, d, _, rfl, g, _, rfl, iteF ?_⟩
        refine ⟨_, rfl, _, rfl, d, _, rfl, g, na, _, ndx, _, _, rfl, hna, T.cls_Node, T.no_Node_held, rfl, rfl, _, rfl, ite2 (fun h => ?_) (fun h => ?_)⟩
        · have h1 : ¬ n.holder = 0 := fun z => by rw [z] at h; cases h
          have e : underW ns p = 4 := by unfold underW; rw [if_neg h0, hf]; simp [h1]
          rw [e] at q; exact q
        · have h1 : n.holder = 0 := by
            by_cases z : n.holder = 0
            · exact z
            · exfalso; apply h
              have := decV (a := n.holder) (b := 0)
              show (!decide (V.int (n.holder : Int) = V.int ((0 : Nat) : Int))) = true
              rw [this]; simp [z]
          have e : underW ns p = 0 := by unfold underW; rw [if_neg h0, hf]; simp [h1]
          rw [e] at q; exact q
theorem cut_last {p : List Nat} (h : p ≠ []) : cutV (pvs p) none (some (-1)) = pvs p.dropLast ∧ ¬ (HT.sIx (pvs p).length 0 none = 0 ∧ HT.sIx (pvs p).length (pvs p).length (some (-1)) = (pvs p).length) := by
  have hl : 0 < p.length := List.length_pos_iff.mpr h
  have e : HT.sIx (pvs p).length (pvs p).length (some (-1)) = p.length - 1 := by
    unfold HT.sIx
    simp only [List.length_map]
    rw [if_pos (by decide)]; omega
  refine ⟨?_, fun z => ?_⟩
  · unfold cutV
    rw [e, HT.sIx_none, List.drop_zero, Nat.sub_zero, pvs, pvs, ← List.map_take, List.dropLast_eq_take]
  · have := z.2
    rw [e, List.length_map] at this; omega
theorem why_make {s : Ag07.State} {ns : List Ag07.Node} {o : Ag07.Order} (h : o.kind = 0) (hp : o.path ≠ []) : Ag07.why s ns o = if (Ag07.find ns o.path).isSome = true then 2 else if o.holder ≠ 0 ∧ Ag07.lasts s o.holder = false then 7 else if 20 ≤ ns.length then 8 else underW ns o.path.dropLast := by
  unfold Ag07.why
  rw [h]
  cases Ag07.find ns o.path with
  | some n => simp
  | none =>
    simp only [Option.isSome_none, Bool.false_eq_true, if_false]
    have hd : o.path.dropLast = [] ↔ o.path.length = 1 := by
      constructor
      · intro z
        have := congrArg List.length z
        rw [List.length_dropLast] at this
        have := List.length_pos_iff.mpr hp
        simp at *; omega
      · intro z
        apply List.length_eq_zero_iff.mp
        rw [List.length_dropLast]; omega
    by_cases h7 : o.holder ≠ 0 ∧ Ag07.lasts s o.holder = false
    · rw [if_pos h7, if_pos h7]
    · rw [if_neg h7, if_neg h7]
      by_cases h8 : 20 ≤ ns.length
      · rw [if_pos (show Ag07.NODES ≤ ns.length from h8), if_pos h8]
      · rw [if_neg (show ¬ Ag07.NODES ≤ ns.length from h8), if_neg h8]
        unfold underW
        by_cases z : o.path.length = 1
        · rw [if_pos z, if_pos (hd.mpr z)]
        · rw [if_neg z, if_neg (fun y => z (hd.mp y))]
          cases Ag07.find ns o.path.dropLast <;> rfl
/-- why an order can't be done -/
def PWhy (K : PySem.W.Frag) (H : Hp) (v : V) (d : Addr) (o : Ag07.Order) (ns : List Ag07.Node) : Prop := OrderAt K H v o ∧ NodesAt K H d ns ∧ o.path ≠ []
def pm_why_not_make (K : PySem.W.Frag) : Pm := fun vs H Q => ∃ W s v d o ns, vs = [v, .ref d, .ref W.hs] ∧ WAt K H W s ∧ PWhy K H v d o ns ∧ o.kind = 0 ∧ ∀ H', Kp [] H H' → Q (.int (Ag07.why s ns o : Nat)) H'
theorem ok_why_not_make (T : Tx K mg) : HasFn Prog w K mg base 2 (He.fAd K d_why_not_make.at_) p_why_not_make (pm_why_not_make K) := by
  refine mkFn T.fun_why_not_make S_why_not_make (fun _ _ _ _ _ _ us hl => match us, hl with | [_, _, _], _ => rfl) ?_ fun cdv A outer s H E hr => ⟨_,
    (pss_cons (ps_if (pt_cmp (pc_din (hu_of hr) (pe_fld (pv 0) rfl) (pv 1)) rfl) (pss_one (ps_ret (pe_gint (by rfl) T.int_NODE_THERE))) pss_nil)
    (pss_cons (ps_if (PW.pt (pw_and (pt_cmpR op_ne (pe_fld (pv 0) rfl) pe_int (nomark _)) (pw_and1 (pt_not (pt_call (pe_methH (pv 2) T.cls_House T.me_House_lasts (ok_House_lasts T) (hr.mono (by decide)) (pa_cons (pe_fld (pv 0) rfl) pa_nil))))))) (pss_one (ps_ret (pe_gint (by rfl) T.int_NO_SESSION))) pss_nil)
    (pss_cons (ps_if (pt_cmpR op_ge (pe_callB call_len_dT (by rfl) T.free_len PySem.boot_len (pa_cons (pv 1) pa_nil)) (pe_gint (by rfl) T.int_MOST_NODES) (nomark _)) (pss_one (ps_ret (pe_gint (by rfl) T.int_NO_ROOM))) pss_nil)
    (pss_one (ps_ret (pe_callH (ok_why_not_under T) (hr.mono (by decide)) (by rfl) T.glo_why_not_under (pa_cons (pe_slice sl_tupA (pe_fld (pv 0) rfl) po_none (po_some (pe_un un_neg pe_int))) (pa_cons (pv 1) pa_nil)))))))), ?_⟩
  · rintro vs H Q ⟨W, s, v, d, o, ns, rfl, _⟩; rfl
  · rintro vs Q ⟨W, s, v, d, o, ns, rfl, A, ⟨⟨a, dx, pa, rfl, ha, hpa⟩, hn, hp⟩, hk, q⟩
    have hw := why_make (s := s) (ns := ns) hk hp
    have q0 : ∀ m, Ag07.why s ns o = m → Q (.int (m : Nat)) H := fun m e => by rw [← e]; exact q H (Kp.refl _ _)
    rcases nodes_get hn hpa with ⟨g, hf⟩ | ⟨v, n, g, hf, _⟩
    · refine ⟨_, rfl, a, _, dx, _, _, rfl, ha, T.cls_Order, T.no_Order_path, rfl, _, rfl, d, _, rfl, g, _, rfl, iteF ?_⟩
      rw [hf] at hw
      simp only [Option.isSome_none, Bool.false_eq_true, if_false] at hw
      have go : ¬ (o.holder ≠ 0 ∧ Ag07.lasts s o.holder = false) → tSeq (tIfS (tTest (tOp (rI0 fun i j => .bl (decide (j ≤ i))) (tCB rLenT (tCons (tVar 1) tNil)) (tC (.int 20)))) (tRet (tC (.int 8))) tNext)
          (tRet (tCallH (pm_why_not_under K) (tCons (tSl (rSlA K) (tFld K (tVar 0) "path") tNoPart (tPart (tUn (rU fun i => .int (-i)) (tC (.int 1))))) (tCons (tVar 1) tNil)))) { nx := fun _ H' => Q .non H', rt := Q } (L2.start n_why_not_make [.ref a, .ref d, .ref W.hs]) H := by
        intro h7
        rw [if_neg h7] at hw
        obtain ⟨kvs, hd, pn⟩ := id hn
        have hnl := Paired.len pn
        refine ⟨_, rfl, d, kvs, rfl, hd, _, _, rfl, rfl, _, rfl, ite2 (fun h => ?_) (fun h => ?_)⟩
        · have h8 : 20 ≤ ns.length := by have := of_decide_eq_true h; omega
          rw [if_pos h8] at hw
          exact q0 8 hw
        · have h8 : ¬ 20 ≤ ns.length := fun z => h (decide_eq_true (by omega))
          rw [if_neg h8] at hw
          refine ⟨_, rfl, a, _, dx, _, _, rfl, ha, T.cls_Order, T.no_Order_path, rfl, _, rfl, _, rfl, pa, _, rfl, SqT.of hpa, fun z => absurd z (cut_last hp).2, fun _ p hfp => ?_⟩
          have k : Kp [] H (upd H p (.tup (cutV (pvs o.path) none (some (-1))))) := (Kp.refl _ _).new hfp
          refine ⟨_, rfl, p, d, o.path.dropLast, ns, rfl, (by rw [upd_same]; exact congrArg some (congrArg HO.tup (cut_last hp).1)), hn.keep k (by simp), ?_⟩
          rw [← hw]; exact q _ k
      refine ⟨_, rfl, a, _, dx, _, _, rfl, ha, T.cls_Order, T.no_Order_session, rfl, rfl, _, rfl, ite2 (fun h => ?_) (fun h => ?_)⟩
      · have h0 : o.holder ≠ 0 := fun z => by rw [z] at h; cases h
        obtain ⟨dxh, hh⟩ := A.house
        refine ⟨_, rfl, W.hs, dxh, _, rfl, hh, rfl, _, rfl, a, _, dx, _, _, rfl, ha, T.cls_Order, T.no_Order_session, rfl, W, s, o.holder, rfl, A, _, rfl, ite2 (fun h => ?_) (fun h => ?_)⟩
        · have hl : Ag07.lasts s o.holder = false := by simpa using h
          rw [if_pos ⟨h0, hl⟩] at hw
          exact q0 7 hw
        · have hl : ¬ Ag07.lasts s o.holder = false := by simpa using h
          exact go fun z => hl z.2
      · have h0 : o.holder = 0 := by
          by_cases z : o.holder = 0
          · exact z
          · exfalso; apply h
            have := decV (a := o.holder) (b := 0)
            show (!decide (V.int (o.holder : Int) = V.int ((0 : Nat) : Int))) = true
            rw [this]; simp [z]
        exact iteF (go fun z => z.1 h0)
    · refine ⟨_, rfl, a, _, dx, _, _, rfl, ha, T.cls_Order, T.no_Order_path, rfl, _, rfl, d, _, rfl, g, _, rfl, iteT ?_⟩
      rw [hf] at hw
      exact q0 2 hw
def pm_has_others_below (K : PySem.W.Frag) : Pm := fun vs H Q => ∃ a d p ns, vs = [.ref a, .ref d] ∧ H a = some (.tup (pvs p)) ∧ NodesAt K H d ns ∧ ns.length ≤ 1000 ∧
  ∀ H', Kp [] H H' → Q (.bl (ns.any fun m => m.path != p && Ag07.below m.path p)) H'
theorem ok_has_others_below (T : Tx K mg) : HasFn Prog w K mg base 2 (He.fAd K d_has_others_below.at_) p_has_others_below (pm_has_others_below K) := by
  refine mkFn T.fun_has_others_below S_has_others_below (fun _ _ _ _ _ _ us hl => match us, hl with | [_, _], _ => rfl) ?_ fun cdv A outer s H E hr => ⟨_,
    (pss_one (ps_ret (pe_callB (cr_any rfl) (by rfl) T.free_any (by decide +kernel) (pa_cons (pe_lock (pe_lc (own := [("path", 2)]) (g := gName 2) (tt := tYes) (te := (tAndV (tOp (rNeD K) (tVar 2) (tVar 0)) (tCallH (pm_is_below K) (tCons (tVar 2) (tCons (tVar 0) tNil))))) rfl S_has_others_below.nd (pi_keys (pv 1)) (blkOk_by (own := [("path", 2)]) (N := n_has_others_below) (sc := sc_has_others_below) (by decide +kernel)) (fun _ _ _ _ _ => pg_name (i := 2) S_has_others_below.nd rfl (Or.inl rfl)) (fun _ _ _ _ _ => pts_nil) (fun _ _ _ _ _ => (pe_and (pe_cmpR (op_neD hr.units) (pv 2) (pv 0) (nomark _)) (pe_one (pe_callH (ok_is_below T) (hr.mono (by decide)) (by rfl) T.glo_is_below (pa_cons (pv 2) (pa_cons (pv 0) pa_nil)))))))) pa_nil)))), ?_⟩
  · rintro vs H Q ⟨a, d, p, ns, rfl, _⟩; rfl
  · rintro vs Q ⟨a, d, p, ns, rfl, ha, ⟨kvs, hd, pn⟩, hl, q⟩
    refine ⟨d, _, hd, True.intro, fun od => ?_⟩
    have hdl : upd H d (.frz od (.dT kvs)) d = some (.frz od (.dT kvs)) := upd_same
    have hal : upd H d (.frz od (.dT kvs)) a = some (.tup (pvs p)) := by rw [upd_ne (ne_of ha hd (by intro z; cases z))]; exact ha
    generalize hHl : upd H d (.frz od (.dT kvs)) = Hl at hdl hal
    refine ⟨_, rfl, d, od, rfl, .inr ⟨kvs, hdl, fun D hD => lc_it walk_keysT (fun i H' => (∀ b o, Hl b = some o → H' b = some o) ∧
      H' D = some (.lst ((ns.take i).map fun m => V.bl (m.path != p && Ag07.below m.path p)))) ⟨fun b o e => by rw [upd_ne (ne_of_none e hD)]; exact e, upd_same⟩ (fun i H' _ h => h.1 _ _ hdl) ?_ ?_⟩⟩
    · rintro i x H' H2 hi ⟨kH, hD2⟩ hy
      obtain ⟨rfl, key, v, qa, hkv, rfl, hqa⟩ := hy
      obtain ⟨nd, hnd, hkey, _⟩ := Paired.get pn hkv
      have hkey : key = pkey nd.path := hkey
      rw [hkey, pkey_kV] at hqa
      refine ⟨rfl, tYes_if ?_⟩
      have fin : ∀ H3, (∀ b o, H2 b = some o → H3 b = some o) → ∃ acc, H3 D = some (.lst acc) ∧ acc.length < sizeLine ∧ ((∀ b o, Hl b = some o → upd H3 D (.lst (acc ++ [V.bl (nd.path != p && Ag07.below nd.path p)])) b = some o) ∧
          upd H3 D (.lst (acc ++ [V.bl (nd.path != p && Ag07.below nd.path p)])) D = some (.lst ((ns.take (i + 1)).map fun m => V.bl (m.path != p && Ag07.below m.path p)))) := by
        intro H3 h3
        refine ⟨_, h3 _ _ hD2, ?_, fun b o e => ?_, ?_⟩
        · rw [List.length_map, List.length_take]; exact sizeLine_big (by omega)
        · rw [upd_ne (ne_of_none e hD)]; exact h3 _ _ (kH b o e)
        · rw [upd_same, take_snoc hnd, List.map_append]; rfl
      refine ⟨_, rfl, _, rfl, _, _, dp_path (SqT.of hqa), dp_path (SqT.of (kH _ _ hal)), shaped_path _, shaped_path _, _, rfl, ?_⟩
      rw [eqv_paths]
      by_cases z : nd.path = p
      · rw [decide_eq_true z]
        refine iteF ?_
        have e : (nd.path != p && Ag07.below nd.path p) = false := by simp [z]
        rw [e] at fin
        exact fin H2 fun _ _ e => e
      · rw [decide_eq_false z]
        refine iteT ?_
        refine ⟨_, rfl, _, rfl, qa, a, nd.path, p, rfl, hqa, kH _ _ hal, fun H3 k3 => ?_⟩
        have e : (nd.path != p && Ag07.below nd.path p) = Ag07.below nd.path p := by simp [z]
        rw [e] at fin
        exact fin H3 fun b o e => k3.at_ e (by simp)
    · rintro H2 ⟨kH, hD2⟩
      have e0 : ns.take kvs.length = ns := List.take_of_length_le (by rw [Paired.len pn]; exact Nat.le_refl _)
      rw [e0] at hD2
      have hDd : D ≠ d := fun z => by have := kH _ _ hdl; rw [← z, hD2] at this; cases this
      have k2 : Kp [] H (upd H2 d (.dT kvs)) := Kp.unlock hd (by rw [hHl]; exact kH)
      refine ⟨kH _ _ hdl, D, ns.map fun m => m.path != p && Ag07.below m.path p, rfl, SqL.of (by rw [upd_ne hDd, hD2, List.map_map]; rfl), ?_⟩
      have e : ((ns.map fun m => m.path != p && Ag07.below m.path p).any id) = ns.any fun m => m.path != p && Ag07.below m.path p := by rw [List.any_map]; rfl
      rw [e]; exact q _ k2
theorem neV {a b : Nat} : (!decide (V.int (a : Int) = V.int (b : Int))) = true ↔ a ≠ b := by rw [decV]; simp
theorem eqV' {a b : Nat} : decide (V.int (a : Int) = V.int (b : Int)) = true ↔ a = b := by rw [decV]; simp
def pm_why_not_check (K : PySem.W.Frag) : Pm := fun vs H Q => ∃ v d o ns, ∃ s : Ag07.State, vs = [v, .ref d] ∧ PWhy K H v d o ns ∧ o.kind = 3 ∧ Q (.int (Ag07.why s ns o : Nat)) H
theorem ok_why_not_check (T : Tx K mg) : HasFn Prog w K mg base 1 (He.fAd K d_why_not_check.at_) p_why_not_check (pm_why_not_check K) := by
  refine mkFn T.fun_why_not_check S_why_not_check (fun _ _ _ _ _ _ us hl => match us, hl with | [_, _], _ => rfl) ?_ fun cdv A outer s H E hr => ⟨_,
    (pss_cons (ps_if (pt_cmpR op_eq (pe_fld (pv 0) rfl) pe_int (nomark _)) (pss_one (ps_ret (pe_ifExp (pt_cmp (pc_din (hu_of hr) (pe_fld (pv 0) rfl) (pv 1)) rfl) (pe_gint (by rfl) T.int_NODE_THERE) (pe_gint (by rfl) T.int_CAN_BE_DONE)))) pss_nil)
    (pss_cons (ps_if (pt_cmp (pc_dnotin (hu_of hr) (pe_fld (pv 0) rfl) (pv 1)) rfl) (pss_one (ps_ret (pe_gint (by rfl) T.int_NO_NODE))) pss_nil)
    (pss_cons (ps_if (pt_cmpR op_ne (pe_fld (pv 0) rfl) (pe_fld (pe_dget (hu_of hr) (pv 1) (pe_fld (pv 0) rfl) (fun _ _ => rfl)) rfl) (nomark _)) (pss_one (ps_ret (pe_gint (by rfl) T.int_OTHER_VERSION))) pss_nil)
    (pss_one (ps_ret (pe_gint (by rfl) T.int_CAN_BE_DONE)))))), ?_⟩
  · rintro vs H Q ⟨v, d, o, ns, s, rfl, _⟩; rfl
  · rintro vs Q ⟨v, d, o, ns, s, rfl, ⟨⟨a, dx, pa, rfl, ha, hpa⟩, hn, hp⟩, hk, q⟩
    have hw : Ag07.why s ns o = match Ag07.find ns o.path with
      | none => if o.version = 0 then 0 else 1
      | some n => if o.version = 0 then 2 else if n.version = o.version then 0 else 6 := by
      unfold Ag07.why; rw [hk]; cases Ag07.find ns o.path <;> rfl
    rw [hw] at q
    refine ⟨_, rfl, a, _, dx, _, _, rfl, ha, T.cls_Order, T.no_Order_version, rfl, rfl, _, rfl, ite2 (fun h => ?_) (fun h => ?_)⟩
    · have h0 : o.version = 0 := eqV'.mp h
      rcases nodes_get hn hpa with ⟨g, hf⟩ | ⟨v, n, g, hf, _⟩
      · rw [hf] at q
        simp only [h0, if_true] at q
        exact ⟨_, rfl, a, _, dx, _, _, rfl, ha, T.cls_Order, T.no_Order_path, rfl, _, rfl, d, _, rfl, g, _, rfl, iteF q⟩
      · rw [hf] at q
        simp only [h0, if_true] at q
        exact ⟨_, rfl, a, _, dx, _, _, rfl, ha, T.cls_Order, T.no_Order_path, rfl, _, rfl, d, _, rfl, g, _, rfl, iteT q⟩
    · have h0 : ¬ o.version = 0 := fun z => h (eqV'.mpr z)
      rcases nodes_get hn hpa with ⟨g, hf⟩ | ⟨v, n, g, hf, na, ndx, rfl, hna⟩
      · rw [hf] at q
        simp only [h0, if_false] at q
        exact ⟨_, rfl, a, _, dx, _, _, rfl, ha, T.cls_Order, T.no_Order_path, rfl, _, rfl, d, _, rfl, g, _, rfl, iteT q⟩
      · rw [hf] at q
        simp only [h0, if_false] at q
        refine ⟨_, rfl, a, _, dx, _, _, rfl, ha, T.cls_Order, T.no_Order_path, rfl, _, rfl, d, _, rfl, g, _, rfl, iteF ?_⟩
        refine ⟨_, rfl, a, _, dx, _, _, rfl, ha, T.cls_Order, T.no_Order_version, rfl, _, rfl, _, rfl, a, _, dx, _, _, rfl, ha, T.cls_Order, T.no_Order_path, rfl, d, _, rfl, g, na, _, ndx, _, _, rfl, hna, T.cls_Node, T.no_Node_version, rfl, rfl, _, rfl, ite2 (fun h => ?_) (fun h => ?_)⟩
        · have h1 : o.version ≠ n.version := neV.mp h
          rw [if_neg (fun z => h1 z.symm)] at q; exact q
        · have h1 : n.version = o.version := by
            by_cases z : o.version = n.version
            · exact z.symm
            · exact absurd (neV.mpr z) h
          rw [if_pos h1] at q; exact q
def pm_why_not_set_or_drop (K : PySem.W.Frag) : Pm := fun vs H Q => ∃ v d o ns, ∃ s : Ag07.State, vs = [v, .ref d] ∧ PWhy K H v d o ns ∧ ns.length ≤ 1000 ∧ (o.kind = 1 ∨ o.kind = 2) ∧ ∀ H', Kp [] H H' → Q (.int (Ag07.why s ns o : Nat)) H'
theorem ok_why_not_set_or_drop (T : Tx K mg) : HasFn Prog w K mg base 3 (He.fAd K d_why_not_set_or_drop.at_) p_why_not_set_or_drop (pm_why_not_set_or_drop K) := by
  refine mkFn T.fun_why_not_set_or_drop S_why_not_set_or_drop (fun _ _ _ _ _ _ us hl => match us, hl with | [_, _], _ => rfl) ?_ fun cdv A outer s H E hr => ⟨_,
    (pss_cons (ps_if (pt_cmp (pc_dnotin (hu_of hr) (pe_fld (pv 0) rfl) (pv 1)) rfl) (pss_one (ps_ret (pe_gint (by rfl) T.int_NO_NODE))) pss_nil)
    (pss_cons (ps_if (PW.pt (pw_and (pt_cmpR op_ne (pe_fld (pv 0) rfl) pe_int (nomark _)) (pw_and1 (pt_cmpR op_ne (pe_fld (pv 0) rfl) (pe_fld (pe_dget (hu_of hr) (pv 1) (pe_fld (pv 0) rfl) (fun _ _ => rfl)) rfl) (nomark _))))) (pss_one (ps_ret (pe_gint (by rfl) T.int_OTHER_VERSION))) pss_nil)
    (pss_cons (ps_if (PW.pt (pw_and (pt_cmpR op_eq (pe_fld (pv 0) rfl) (pe_gint (by rfl) T.int_DROP) (nomark _)) (pw_and1 (pt_call (pe_callH (ok_has_others_below T) (hr.mono (by decide)) (by rfl) T.glo_has_others_below (pa_cons (pe_fld (pv 0) rfl) (pa_cons (pv 1) pa_nil))))))) (pss_one (ps_ret (pe_gint (by rfl) T.int_NODE_BELOW))) pss_nil)
    (pss_one (ps_ret (pe_gint (by rfl) T.int_CAN_BE_DONE)))))), ?_⟩
  · rintro vs H Q ⟨v, d, o, ns, s, rfl, _⟩; rfl
  · rintro vs Q ⟨v, d, o, ns, s, rfl, ⟨⟨a, dx, pa, rfl, ha, hpa⟩, hn, hp⟩, hlen, hk, q⟩
    have hw : Ag07.why s ns o = match Ag07.find ns o.path with
      | none => 1
      | some n => if o.version ≠ 0 ∧ n.version ≠ o.version then 6 else if o.kind = 2 ∧ (ns.any fun m => m.path != o.path && Ag07.below m.path o.path) = true then 5 else 0 := by
      unfold Ag07.why
      rcases hk with hk | hk <;> rw [hk] <;> cases Ag07.find ns o.path <;> simp
    rw [hw] at q
    clear hw
    rcases nodes_get hn hpa with ⟨g, hf⟩ | ⟨v, n, g, hf, na, ndx, rfl, hna⟩
    · rw [hf] at q
      exact ⟨_, rfl, a, _, dx, _, _, rfl, ha, T.cls_Order, T.no_Order_path, rfl, _, rfl, d, _, rfl, g, _, rfl, iteT (q H (Kp.refl _ _))⟩
    · rw [hf] at q
      refine ⟨_, rfl, a, _, dx, _, _, rfl, ha, T.cls_Order, T.no_Order_path, rfl, _, rfl, d, _, rfl, g, _, rfl, iteF ?_⟩
      have q : ∀ H', Kp [] H H' → Q (.int ((if o.version ≠ 0 ∧ n.version ≠ o.version then 6 else if o.kind = 2 ∧ (ns.any fun m => m.path != o.path && Ag07.below m.path o.path) = true then 5 else 0 : Nat) : Int)) H' := q
      have go : ¬ (o.version ≠ 0 ∧ n.version ≠ o.version) → tSeq (tIfS (tAnd (tTest (tOp rEq (tFld K (tVar 0) "kind") (tC (.int 2)))) (tB (tCallH (pm_has_others_below K) (tCons (tFld K (tVar 0) "path") (tCons (tVar 1) tNil))))) (tRet (tC (.int 5))) tNext) (tRet (tC (.int 0)))
          { nx := fun _ H' => Q .non H', rt := Q } (L2.start n_why_not_set_or_drop [.ref a, .ref d]) H := by
        intro h6
        rw [if_neg h6] at q
        refine ⟨_, rfl, a, _, dx, _, _, rfl, ha, T.cls_Order, T.no_Order_kind, rfl, rfl, _, rfl, ite2 (fun h => ?_) (fun h => ?_)⟩
        · have h2 : o.kind = 2 := eqV'.mp h
          refine ⟨_, rfl, a, _, dx, _, _, rfl, ha, T.cls_Order, T.no_Order_path, rfl, _, rfl, pa, d, o.path, ns, rfl, hpa, hn, hlen, fun H' k => ⟨_, rfl, ite2 (fun h => ?_) (fun h => ?_)⟩⟩
          · rw [if_pos ⟨h2, h⟩] at q; exact q H' k
          · rw [if_neg (fun z => h z.2)] at q; exact q H' k
        · have h2 : ¬ o.kind = 2 := fun z => h (eqV'.mpr z)
          rw [if_neg (fun z => h2 z.1)] at q
          exact iteF (q H (Kp.refl _ _))
      refine ⟨_, rfl, a, _, dx, _, _, rfl, ha, T.cls_Order, T.no_Order_version, rfl, rfl, _, rfl, ite2 (fun h => ?_) (fun h => ?_)⟩
      · have h0 : o.version ≠ 0 := neV.mp h
        refine ⟨_, rfl, a, _, dx, _, _, rfl, ha, T.cls_Order, T.no_Order_version, rfl, _, rfl, _, rfl, a, _, dx, _, _, rfl, ha, T.cls_Order, T.no_Order_path, rfl, d, _, rfl, g, na, _, ndx, _, _, rfl, hna, T.cls_Node, T.no_Node_version, rfl, rfl, _, rfl, ite2 (fun h => ?_) (fun h => ?_)⟩
        · have h1 : o.version ≠ n.version := neV.mp h
          rw [if_pos ⟨h0, fun z => h1 z.symm⟩] at q; exact q H (Kp.refl _ _)
        · exact go fun z => h (neV.mpr fun y => z.2 y.symm)
      · exact iteF (go fun z => h (neV.mpr z.1))
def pm_why_not (K : PySem.W.Frag) : Pm := fun vs H Q => ∃ W s v d o ns, vs = [v, .ref d, .ref W.hs] ∧ WAt K H W s ∧ PWhy K H v d o ns ∧ ns.length ≤ 1000 ∧ o.kind ≤ 3 ∧ ∀ H', Kp [] H H' → Q (.int (Ag07.why s ns o : Nat)) H'
theorem ok_why_not (T : Tx K mg) : HasFn Prog w K mg base 4 (He.fAd K d_why_not.at_) p_why_not (pm_why_not K) := by
  refine mkFn T.fun_why_not S_why_not (fun _ _ _ _ _ _ us hl => match us, hl with | [_, _, _], _ => rfl) ?_ fun cdv A outer s H E hr => ⟨_,
    (pss_cons (ps_if (pt_cmpR op_eq (pe_fld (pv 0) rfl) (pe_gint (by rfl) T.int_MAKE) (nomark _)) (pss_one (ps_ret (pe_callH (ok_why_not_make T) (hr.mono (by decide)) (by rfl) T.glo_why_not_make (pa_cons (pv 0) (pa_cons (pv 1) (pa_cons (pv 2) pa_nil)))))) pss_nil)
    (pss_cons (ps_if (pt_cmpR op_eq (pe_fld (pv 0) rfl) (pe_gint (by rfl) T.int_CHECK) (nomark _)) (pss_one (ps_ret (pe_callH (ok_why_not_check T) (hr.mono (by decide)) (by rfl) T.glo_why_not_check (pa_cons (pv 0) (pa_cons (pv 1) pa_nil))))) pss_nil)
    (pss_one (ps_ret (pe_callH (ok_why_not_set_or_drop T) (hr.mono (by decide)) (by rfl) T.glo_why_not_set_or_drop (pa_cons (pv 0) (pa_cons (pv 1) pa_nil))))))), ?_⟩
  · rintro vs H Q ⟨W, s, v, d, o, ns, rfl, _⟩; rfl
  · rintro vs Q ⟨W, s, v, d, o, ns, rfl, A, hP, hlen, hk, q⟩
    obtain ⟨⟨a, dx, pa, rfl, ha, hpa⟩, hn, hp⟩ := id hP
    refine ⟨_, rfl, a, _, dx, _, _, rfl, ha, T.cls_Order, T.no_Order_kind, rfl, rfl, _, rfl, ite2 (fun h => ?_) (fun h => ?_)⟩
    · exact ⟨_, rfl, _, rfl, _, rfl, W, s, _, d, o, ns, rfl, A, hP, eqV'.mp h, q⟩
    · have h0 : ¬ o.kind = 0 := fun z => h (eqV'.mpr z)
      refine ⟨_, rfl, a, _, dx, _, _, rfl, ha, T.cls_Order, T.no_Order_kind, rfl, rfl, _, rfl, ite2 (fun h => ?_) (fun h => ?_)⟩
      · exact ⟨_, rfl, _, rfl, _, d, o, ns, s, rfl, hP, eqV'.mp h, q H (Kp.refl _ _)⟩
      · have h3 : ¬ o.kind = 3 := fun z => h (eqV'.mpr z)
        exact ⟨_, rfl, _, rfl, _, d, o, ns, s, rfl, hP, hlen, by omega, q⟩
end
end Wt

set_option Elab.async false
set_option linter.all false
set_option maxRecDepth 100000
set_option maxHeartbeats 4000000
namespace Wt
open PySem PySem.Spec PyProof.Rows L2
section
variable {w : World} {K : PySem.W.Frag} {mg : Str → Option Value} {base : Heap}
/-! ### a copy of the nodes -/
def pm_copy_nodes (K : PySem.W.Frag) : Pm := fun vs H Q => ∃ d ns l, vs = [.ref d] ∧ NodesAt K H d ns ∧ ns.Perm l ∧ SrtN l ∧ ns.length ≤ 1000 ∧ ∀ H' d2, H d2 = none → NodesAt K H' d2 ns → Kp [] H H' → Q (.ref d2) H'
theorem val_take {kvs : List (List Key × V)} {i : Nat} {k : List Key} {v : V} (nd : (kvs.map (·.1)).Nodup) (h : kvs[i]? = some (k, v)) : valV (kvs.take i) k = none := by
  cases e : valV (kvs.take i) k with
  | none => rfl
  | some u =>
    exfalso
    have h2 := valV_any k (kvs.take i)
    rw [e] at h2
    obtain ⟨x, hx, hk⟩ := List.any_eq_true.mp h2
    obtain ⟨m, hm⟩ := List.mem_iff_getElem?.mp hx
    rw [List.getElem?_take] at hm
    split at hm
    · have h3 : (kvs.map (·.1))[m]? = some k := by rw [List.getElem?_map, hm]; exact congrArg some (of_decide_eq_true hk)
      have h4 : (kvs.map (·.1))[i]? = some k := by rw [List.getElem?_map, h]; rfl
      obtain ⟨a1, b1⟩ := List.getElem?_eq_some_iff.mp h3
      obtain ⟨a2, b2⟩ := List.getElem?_eq_some_iff.mp h4
      have := (List.getElem_inj nd).mp (b1.trans b2.symm)
      omega
    · cases hm
theorem ok_copy_nodes (T : Tx K mg) : HasFn Prog w K mg base 1 (He.fAd K d_copy_nodes.at_) p_copy_nodes (pm_copy_nodes K) := by
  refine mkFn T.fun_copy_nodes S_copy_nodes (fun _ _ _ _ _ _ us hl => match us, hl with | [_], _ => rfl) ?_ fun cdv A outer s H E hr => ⟨_,
    (pss_cons (ps_set (i := 1) S_copy_nodes.nd rfl (Or.inl rfl) pe_dnewT)
    (pss_cons (ps_lock (ps_for PassesOwn.never rfl (pi_keys (pv 0)) (pg_name (i := 2) S_copy_nodes.nd rfl (Or.inl rfl)) (pss_one (ps_dput (hu_of hr) (pv 1) (pv 2) (pe_dget (hu_of hr) (pv 0) (pv 2) (fun _ _ => rfl)) rfl))))
    (pss_one (ps_ret (pv 1))))), ?_⟩
  · rintro vs H Q ⟨d, ns, l, rfl, _⟩; rfl
  · rintro vs Q ⟨d, ns, l, rfl, ⟨kvs, hd, pn⟩, pm, srt, hlen, q⟩
    have knd := keys_nodup pn pm srt
    have hkl := Paired.len pn
    refine fun d2 hd2 => ?_
    have n2 : d ≠ d2 := ne_of_none hd hd2
    have hd' : upd H d2 (.dT []) d = some (.dT kvs) := by rw [upd_ne n2]; exact hd
    refine ⟨d, _, hd', True.intro, fun od => ?_⟩
    have hdl : upd (upd H d2 (.dT [])) d (.frz od (.dT kvs)) d = some (.frz od (.dT kvs)) := upd_same
    have hd2l : upd (upd H d2 (.dT [])) d (.frz od (.dT kvs)) d2 = some (.dT []) := by rw [upd_ne n2.symm, upd_same]
    have keep : ∀ b o, H b = some o → b ≠ d → upd (upd H d2 (.dT [])) d (.frz od (.dT kvs)) b = some o := fun b o e n => by rw [upd_ne n, upd_ne (ne_of_none e hd2)]; exact e
    generalize upd (upd H d2 (.dT [])) d (.frz od (.dT kvs)) = Hl at hdl hd2l keep
    refine ⟨_, rfl, d, od, rfl, .inr ⟨kvs, hdl, for_it walk_keysT (fun i σ H' => ∃ v, σ = [some (.ref d), some (.ref d2), v] ∧ (∀ b o, H b = some o → b ≠ d → H' b = some o) ∧ H' d = some (.frz od (.dT kvs)) ∧ H' d2 = some (.dT (kvs.take i)))
      ⟨none, rfl, keep, hdl, hd2l⟩ (fun i σ H' _ h => by obtain ⟨_, _, _, h, _⟩ := h; exact h) ?_ ?_⟩⟩
    · rintro i x σ H' H2 hi ⟨v, rfl, kH, hf, h2⟩ ⟨rfl, key, u, qa, hkv, rfl, hqa⟩
      refine ⟨_, rfl, _, rfl, d, u, rfl, .inr ⟨kvs, key, qa, .inr ⟨od, hf⟩, rfl, hqa, (val_at knd hkv).symm⟩, _, rfl, _, rfl, d2, _, rfl, DPut.t (k := key) h2 hqa ?_, ?_⟩
      · rw [List.length_take]; exact sizeLine_big (by omega)
      · refine ⟨_, rfl, fun b o e n => ?_, ?_, ?_⟩
        · rw [upd_ne (ne_of_none e hd2)]; exact kH b o e n
        · rw [upd_ne n2]; exact hf
        · rw [upd_same, putK_new _ (val_take knd hkv), take_snoc hkv]
    · rintro σ H2 ⟨v, rfl, kH, hf, h2⟩
      rw [List.take_length] at h2
      refine ⟨hf, _, rfl, ?_⟩
      have k2 : Kp [] H (upd H2 d (.dT kvs)) := fun b o e _ => by
        by_cases z : b = d
        · subst z; rw [hd] at e; cases e; exact upd_same
        · rw [upd_ne z]; exact kH b o e z
      refine q _ d2 hd2 ⟨kvs, by rw [upd_ne n2.symm]; exact h2, Paired.imp pn fun _ _ h => ⟨h.1, h.2.keep k2⟩⟩ k2
/-! ### one order, done -/
/-- the order is done on the dict at d; p: the list of what happened -/
def pm_do_order (K : PySem.W.Frag) : Pm := fun vs H Q => ∃ v d o ns l t, ∃ s : Ag07.State, vs = [v, .ref d, .int (t : Nat)] ∧ OrderAt K H v o ∧ NodesAt K H d ns ∧ ns.Perm l ∧ SrtN l ∧ ns.length ≤ 1000 ∧ o.kind ≤ 3 ∧ Ag07.why s l o = 0 ∧
  ∀ H' p ns' evs, H p = none → Kp [d] H H' → NodesAt K H' d ns' → ns'.Perm (Ag07.doOne t l o).1 → H' p = some (.lst evs) → Paired (EventAt K H') evs (Ag07.doOne t l o).2 → Q (.ref p) H'
theorem ev_list {H H1 : Hp} {d x dx pa : Addr} {e : Ag07.Event} (hx : H1 x = none) (hdx : H1 dx = none) (hp : H1 pa = some (.tup (pvs e.path))) {Q : V → Hp → Prop}
    (h : ∀ H' p, H1 p = none → Kp [] H1 H' → H' p = some (.lst [.ref x]) → EventAt K H' (.ref x) e → Q (.ref p) H') :
    ∀ p, upd (upd (upd H1 dx (.own x)) x (.ins (C_Event K) dx [])) x (.ins (C_Event K) dx (F_Event (.int (e.what : Nat)) (.int (e.value : Nat)) (.ref pa))) p = none →
      Q (.ref p) (upd (upd (upd (upd H1 dx (.own x)) x (.ins (C_Event K) dx [])) x (.ins (C_Event K) dx (F_Event (.int (e.what : Nat)) (.int (e.value : Nat)) (.ref pa)))) p (.lst [.ref x])) := by
  intro p hpf
  have ev := event_new (K := K) (e := e) hx hdx hp
  have kp := (Kp.refl [] _).new (o := .lst [V.ref x]) hpf
  exact h _ p (ev.2.free (by simp) hpf) (ev.2.trans kp) upd_same (ev.1.keep kp)
theorem node_new {H : Hp} {x dx : Addr} {n : Ag07.Node} (hx : H x = none) (hdx : H dx = none) :
    NodeAt K (upd (upd (upd H dx (.own x)) x (.ins (C_Node K) dx [])) x (.ins (C_Node K) dx (F_Node n))) (.ref x) n ∧ Kp [] H (upd (upd (upd H dx (.own x)) x (.ins (C_Node K) dx [])) x (.ins (C_Node K) dx (F_Node n))) := by
  rw [upd_upd]
  exact ⟨⟨x, dx, rfl, upd_same⟩, ((Kp.refl _ _).new hdx).own hx⟩
theorem ok_do_order (T : Tx K mg) : HasFn Prog w K mg base 3 (He.fAd K d_do_order.at_) p_do_order (pm_do_order K) := by
  refine mkFn T.fun_do_order S_do_order (fun _ _ _ _ _ _ us hl => match us, hl with | [_, _, _], _ => rfl) ?_ fun cdv A outer s H E hr => ⟨_,
    (pss_cons (ps_set (i := 3) S_do_order.nd rfl (Or.inl rfl) (pe_fld (pv 0) rfl))
    (pss_cons (ps_if (pt_cmpR op_eq (pe_fld (pv 0) rfl) (pe_gint (by rfl) T.int_MAKE) (nomark _)) (pss_cons (ps_dput (hu_of hr) (pv 1) (pv 3) (pe_makeH T.mkr_Node (ok_Node_init T) (hr.mono (by decide)) (by rfl) T.glo_Node (pa_cons (pe_fld (pv 0) rfl) (pa_cons pe_int (pa_cons (pv 2) (pa_cons (pv 2) (pa_cons (pe_fld (pv 0) rfl) pa_nil)))))) rfl)
    (pss_one (ps_ret (pe_lst (pa_cons (pe_makeH T.mkr_Event (ok_Event_init T) (hr.mono (by decide)) (by rfl) T.glo_Event (pa_cons (pe_gint (by rfl) T.int_MADE) (pa_cons (pe_fld (pv 0) rfl) (pa_cons (pv 3) pa_nil)))) pa_nil))))) pss_nil)
    (pss_cons (ps_if (pt_cmpR op_eq (pe_fld (pv 0) rfl) (pe_gint (by rfl) T.int_SET) (nomark _)) (pss_cons (ps_set (i := 4) S_do_order.nd rfl (Or.inl rfl) (pe_dget (hu_of hr) (pv 1) (pv 3) (fun _ _ => rfl)))
    (pss_cons (ps_dput (hu_of hr) (pv 1) (pv 3) (pe_makeH T.mkr_Node (ok_Node_init T) (hr.mono (by decide)) (by rfl) T.glo_Node (pa_cons (pe_fld (pv 0) rfl) (pa_cons (pe_op op_add (pe_fld (pv 4) rfl) pe_int) (pa_cons (pe_fld (pv 4) rfl) (pa_cons (pv 2) (pa_cons (pe_fld (pv 4) rfl) pa_nil)))))) rfl)
    (pss_one (ps_ret (pe_lst (pa_cons (pe_makeH T.mkr_Event (ok_Event_init T) (hr.mono (by decide)) (by rfl) T.glo_Event (pa_cons (pe_gint (by rfl) T.int_CHANGED) (pa_cons (pe_fld (pv 0) rfl) (pa_cons (pv 3) pa_nil)))) pa_nil)))))) pss_nil)
    (pss_cons (ps_if (pt_cmpR op_eq (pe_fld (pv 0) rfl) (pe_gint (by rfl) T.int_DROP) (nomark _)) (pss_cons (ps_expr (pe_bm PySem.F.plainAttrs_dict PySem.F.slot_dict_pop PySem.F.type_dict_pop (mt_popT1 (hu_of hr) ) (pv 1) (pa_cons (pv 3) pa_nil)))
    (pss_one (ps_ret (pe_lst (pa_cons (pe_makeH T.mkr_Event (ok_Event_init T) (hr.mono (by decide)) (by rfl) T.glo_Event (pa_cons (pe_gint (by rfl) T.int_GONE) (pa_cons pe_int (pa_cons (pv 3) pa_nil)))) pa_nil))))) pss_nil)
    (pss_one (ps_ret (pe_lst pa_nil))))))), ?_⟩
  · rintro vs H Q ⟨v, d, o, ns, l, t, s, rfl, _⟩; rfl
  · rintro vs Q ⟨v, d, o, ns, l, t, s, rfl, ⟨a, dx, pa, rfl, ha, hpa⟩, ⟨kvs, hd, pn⟩, pm, srt, hlen, hk, hwhy, q⟩
    have hkl := Paired.len pn
    -- what is put at the order's path, and the event
    have put : ∀ (n : Ag07.Node) (e : Ag07.Event) (xn dxn : Addr) (Hn : Hp), n.path = o.path → e.path = o.path → Ag07.doOne t l o = (Ag07.putIn n l, [e]) → NodeAt K Hn (.ref xn) n → Kp [] H Hn →
        ∃ a' H4, (V.ref d) = .ref a' ∧ DPut Hn a' (.ref pa) (.ref xn) H4 ∧ (∀ x dx, H4 x = none → H4 dx = none → dx ≠ x → ∀ p, upd (upd (upd H4 dx (.own x)) x (.ins (C_Event K) dx [])) x (.ins (C_Event K) dx (F_Event (.int (e.what : Nat)) (.int (e.value : Nat)) (.ref pa))) p = none →
          Q (.ref p) (upd (upd (upd (upd H4 dx (.own x)) x (.ins (C_Event K) dx [])) x (.ins (C_Event K) dx (F_Event (.int (e.what : Nat)) (.int (e.value : Nat)) (.ref pa)))) p (.lst [.ref x]))) ∧ Kp [d] H H4 := by
      intro n e xn dxn Hn hnp hep hdo hna kn
      have hdn := kn.at_ hd (by simp)
      have hpn := kn.tup hpa
      have kd : Kp [d] Hn (upd Hn d (.dT (putK kvs (pkey o.path) (.ref xn)))) := (Kp.refl _ _).put (by simp) hdn
      refine ⟨d, _, rfl, DPut.t (k := pkey o.path) hdn (by rw [pkey_kV]; exact hpn) (sizeLine_big (by omega)), fun x dx hx hdx hne => ?_, (kn.sub (by simp)).trans kd⟩
      refine ev_list (H := H) (d := d) hx hdx (by rw [hep]; exact kd.tup hpn) fun H' p hp k' hl he => ?_
      have pn2 : Paired (NP K Hn) kvs ns := Paired.imp pn fun _ _ h => ⟨h.1, h.2.keep kn⟩
      have pn3 := np_put pn2 hna
      rw [hnp] at pn3
      have kall : Kp [d] H H' := ((kn.sub (by simp)).trans kd).trans (k'.sub (by simp))
      refine q H' p (putN n ns) [.ref x] ?_ kall ⟨_, k'.at_ upd_same (by simp), Paired.imp pn3 fun _ _ h => ⟨h.1, (h.2.keep kd).keep k'⟩⟩ ?_ hl ?_
      · have h1 := hp
        rw [upd_ne (fun z => by rw [z, upd_same] at h1; cases h1)] at h1
        exact kn.free (by simp) h1
      · rw [hdo]; exact putN_perm pm srt
      · rw [hdo]; exact .cons he .nil
    refine ⟨_, rfl, a, _, dx, _, _, rfl, ha, T.cls_Order, T.no_Order_path, rfl, ?_⟩
    refine ⟨_, rfl, a, _, dx, _, _, rfl, ha, T.cls_Order, T.no_Order_kind, rfl, rfl, _, rfl, ite2 (fun h => ?_) (fun h => ?_)⟩
    · -- make
      have h0 : o.kind = 0 := eqV'.mp h
      refine ⟨_, rfl, a, _, dx, _, _, rfl, ha, T.cls_Order, T.no_Order_value, rfl, _, rfl, _, rfl, _, rfl, a, _, dx, _, _, rfl, ha, T.cls_Order, T.no_Order_session, rfl, fun xn dxn hxn hdxn hne => ?_⟩
      refine ⟨xn, dxn, ⟨o.path, o.value, 1, t, t, o.holder⟩, rfl, upd_same, rfl, ?_⟩
      have nn := node_new (K := K) (n := ⟨o.path, o.value, 1, t, t, o.holder⟩) hxn hdxn
      obtain ⟨a', H4, e1, e2, e3, k4⟩ := put ⟨o.path, o.value, 1, t, t, o.holder⟩ ⟨1, o.path, o.value⟩ xn dxn _ rfl rfl (by simp only [Ag07.doOne, h0]) nn.1 nn.2
      refine ⟨_, rfl, _, rfl, a', H4, e1, e2, ?_⟩
      refine ⟨_, rfl, a, _, dx, _, _, rfl, k4.imm ha, T.cls_Order, T.no_Order_value, rfl, _, rfl, fun x dx2 hx hdx2 hne2 => ?_⟩
      refine ⟨x, dx2, _, _, _, rfl, upd_same, rfl, ?_⟩
      exact ⟨by show (1 : Nat) ≤ sizeLine; decide, e3 x dx2 hx hdx2 hne2⟩
    · have h0 : ¬ o.kind = 0 := fun z => h (eqV'.mpr z)
      refine ⟨_, rfl, a, _, dx, _, _, rfl, ha, T.cls_Order, T.no_Order_kind, rfl, rfl, _, rfl, ite2 (fun h => ?_) (fun h => ?_)⟩
      · -- set
        have h1 : o.kind = 1 := eqV'.mp h
        obtain ⟨v0, n, hv0, hfn, na, ndx, rfl, hna⟩ : ∃ v n, valV kvs (pkey o.path) = some v ∧ Ag07.find l o.path = some n ∧ NodeAt K H v n := by
          rcases np_val pn o.path with ⟨_, e2⟩ | ⟨v, n, e1, e2, e3⟩
          · rw [find_perm pm srt] at e2
            unfold Ag07.why at hwhy; rw [h1, e2] at hwhy; cases hwhy
          · rw [find_perm pm srt] at e2
            exact ⟨v, n, e1, e2, e3⟩
        have hg : DGet H d (.ref pa) (some (.ref na)) := by
          have := DGet.t (k := pkey o.path) hd (by rw [pkey_kV]; exact hpa)
          rw [hv0] at this; exact this
        have hnp : n.path = o.path := (find_mem hfn).2
        refine ⟨_, rfl, _, rfl, d, _, rfl, hg, ?_⟩
        refine ⟨_, rfl, a, _, dx, _, _, rfl, ha, T.cls_Order, T.no_Order_value, rfl, ?_⟩
        refine ⟨_, rfl, na, _, ndx, _, _, rfl, hna, T.cls_Node, T.no_Node_version, rfl, _, _, rfl, rfl, ?_⟩
        refine ⟨_, rfl, na, _, ndx, _, _, rfl, hna, T.cls_Node, T.no_Node_made, rfl, _, rfl, ?_⟩
        refine ⟨_, rfl, na, _, ndx, _, _, rfl, hna, T.cls_Node, T.no_Node_held, rfl, fun xn dxn hxn hdxn hne => ?_⟩
        refine ⟨xn, dxn, { n with value := o.value, version := n.version + 1, changed := t }, rfl, upd_same, rfl, ?_⟩
        have nn := node_new (K := K) (n := { n with value := o.value, version := n.version + 1, changed := t }) hxn hdxn
        obtain ⟨a', H4, e1, e2, e3, k4⟩ := put { n with value := o.value, version := n.version + 1, changed := t } ⟨2, o.path, o.value⟩ xn dxn _ hnp rfl (by simp only [Ag07.doOne, h1, hfn]) nn.1 nn.2
        refine ⟨_, rfl, _, rfl, a', H4, e1, e2, ?_⟩
        refine ⟨_, rfl, a, _, dx, _, _, rfl, k4.imm ha, T.cls_Order, T.no_Order_value, rfl, _, rfl, fun x dx2 hx hdx2 hne2 => ?_⟩
        refine ⟨x, dx2, _, _, _, rfl, upd_same, rfl, ?_⟩
        exact ⟨by show (1 : Nat) ≤ sizeLine; decide, e3 x dx2 hx hdx2 hne2⟩
      · have h1 : ¬ o.kind = 1 := fun z => h (eqV'.mpr z)
        refine ⟨_, rfl, a, _, dx, _, _, rfl, ha, T.cls_Order, T.no_Order_kind, rfl, rfl, _, rfl, ite2 (fun h => ?_) (fun h => ?_)⟩
        · -- drop
          have h2 : o.kind = 2 := eqV'.mp h
          obtain ⟨v0, hv0⟩ : ∃ v, valV kvs (pkey o.path) = some v := by
            rcases np_val pn o.path with ⟨_, e2⟩ | ⟨v, n, e1, e2, e3⟩
            · rw [find_perm pm srt] at e2
              unfold Ag07.why at hwhy; rw [h2, e2] at hwhy; cases hwhy
            · exact ⟨v, e1⟩
          have kd : Kp [d] H (upd H d (.dT (dropK kvs (pkey o.path)))) := (Kp.refl _ _).put (by simp) hd
          refine ⟨_, rfl, .inr (.inr (.inl ⟨rfl, .inr ⟨_, hd⟩⟩)), _, rfl, d, kvs, pkey o.path, pa, v0, rfl, rfl, hd, by rw [pkey_kV]; exact hpa, hv0, ?_⟩
          refine ⟨_, rfl, fun x dx2 hx hdx2 hne2 => ?_⟩
          refine ⟨x, dx2, _, _, _, rfl, upd_same, rfl, by show (1 : Nat) ≤ sizeLine; decide, ?_⟩
          have hdo : Ag07.doOne t l o = (Ag07.drop l o.path, [⟨0, o.path, 0⟩]) := by simp only [Ag07.doOne, h2]
          refine ev_list (H := H) (d := d) (e := ⟨0, o.path, 0⟩) hx hdx2 (kd.tup hpa) fun H' p hp k' hl he => ?_
          refine q H' p (ns.filter fun n => n.path != o.path) [.ref x] ?_ (kd.trans (k'.sub (by simp))) ⟨_, k'.at_ upd_same (by simp), Paired.imp (np_drop pn o.path) fun _ _ h => ⟨h.1, (h.2.keep kd).keep k'⟩⟩ ?_ hl ?_
          · have h1 := hp
            rw [upd_ne (fun z => by rw [z, upd_same] at h1; cases h1)] at h1
            exact h1
          · rw [hdo]; exact pm.filter _
          · rw [hdo]; exact .cons he .nil
        · -- check
          have h2 : ¬ o.kind = 2 := fun z => h (eqV'.mpr z)
          have h3 : o.kind = 3 := by omega
          have hdo : Ag07.doOne t l o = (l, []) := by simp only [Ag07.doOne, h3]
          refine ⟨Nat.zero_le _, fun p hp => ?_⟩
          have k : Kp [] H (upd H p (.lst [])) := (Kp.refl _ _).new hp
          refine q _ p ns [] hp (k.sub (by simp)) ⟨kvs, k.at_ hd (by simp), Paired.imp pn fun _ _ h => ⟨h.1, h.2.keep k⟩⟩ ?_ upd_same ?_
          · rw [hdo]; exact pm
          · rw [hdo]; exact .nil
end
end Wt

set_option Elab.async false
set_option linter.all false
set_option maxRecDepth 100000
set_option maxHeartbeats 4000000
namespace Wt
open PySem PySem.Spec PyProof.Rows L2
section
variable {K : PySem.W.Frag} {H H' : Hp} {mu mu' : List Addr} {v : V}
theorem EventsAt.grow2 {es : List Ag07.Event} (g : ∀ a ∈ mu', a ∈ mu ∨ ∀ xs, H a ≠ some (.lst xs)) (h : EventsAt K mu H v es) : EventsAt K mu' H v es := by
  obtain ⟨a, vs, e, n, h, p⟩ := h
  refine ⟨a, vs, e, fun z => ?_, h, p⟩
  rcases g a z with q | q
  · exact n q
  · exact q _ h
theorem EntriesAt.grow2 {es : List (List Nat × Nat)} (g : ∀ a ∈ mu', a ∈ mu ∨ ∀ xs, H a ≠ some (.lst xs)) (h : EntriesAt K mu H v es) : EntriesAt K mu' H v es := by
  obtain ⟨a, vs, e, n, h, p⟩ := h
  refine ⟨a, vs, e, fun z => ?_, h, p⟩
  rcases g a z with q | q
  · exact n q
  · exact q _ h
theorem LetterAt.grow2 {l : Ag07.Letter} (g : ∀ a ∈ mu', a ∈ mu ∨ ∀ xs, H a ≠ some (.lst xs)) (h : LetterAt K mu H v l) : LetterAt K mu' H v l := by
  obtain ⟨a, dx, pa, ev, en, e, h, hp, he, hn⟩ := h
  exact ⟨a, dx, pa, ev, en, e, h, hp, he.grow2 g, hn.grow2 g⟩
/-- the house has another dict of nodes -/
theorem WAt.set_dn {W : WAd} {s : Ag07.State} {d2 dx : Addr} {ns l : List Ag07.Node} (A : WAt K H W s) (hd : d2 ∉ W.all) (hn : NodesAt K H d2 ns) (pm : ns.Perm l) (hh : ∃ fs, H W.hs = some (.ins (C_House K) dx (HoF.fs fs))) :
    WAt K (upd H W.hs (.ins (C_House K) dx (HoF.fs ⟨.int (s.life : Nat), .ref W.net, .int (s.time : Nat), .int (s.opened : Nat), .ref W.ds, .ref d2, .ref W.lt, .int (s.base : Nat), .ref W.lw⟩))) { W with dn := d2 } { s with nodes := l } ∧
    Kp [W.hs] H (upd H W.hs (.ins (C_House K) dx (HoF.fs ⟨.int (s.life : Nat), .ref W.net, .int (s.time : Nat), .int (s.opened : Nat), .ref W.ds, .ref d2, .ref W.lt, .int (s.base : Nat), .ref W.lw⟩))) := by
  obtain ⟨fs, h0⟩ := hh
  have k : Kp [W.hs] H (upd H W.hs (.ins (C_House K) dx (HoF.fs ⟨.int (s.life : Nat), .ref W.net, .int (s.time : Nat), .int (s.opened : Nat), .ref W.ds, .ref d2, .ref W.lt, .int (s.base : Nat), .ref W.lw⟩))) := (Kp.refl _ _).put (by simp) h0
  have u : ∀ a ∈ [W.hs], a ∈ W.mu := by simp [WAd.mu]
  have nd := A.nds
  obtain ⟨kvs, hd2, _⟩ := id hn
  have g : ∀ H1 : Hp, H1 d2 = some (.dT kvs) → ∀ a ∈ ({ W with dn := d2 } : WAd).mu, a ∈ W.mu ∨ ∀ xs, H1 a ≠ some (.lst xs) := by
    intro H1 h1 a ha
    simp only [WAd.mu, List.mem_cons, List.mem_append] at ha ⊢
    by_cases z : a = d2
    · right; intro xs e; rw [z, h1] at e; cases e
    · left; grind
  have nhs : d2 ≠ W.hs := by simp only [WAd.all, WAd.mu, List.mem_cons, not_or] at hd; grind
  have hd3 : upd H W.hs (.ins (C_House K) dx (HoF.fs ⟨.int (s.life : Nat), .ref W.net, .int (s.time : Nat), .int (s.opened : Nat), .ref W.ds, .ref d2, .ref W.lt, .int (s.base : Nat), .ref W.lw⟩)) d2 = some (.dT kvs) := by rw [upd_ne nhs]; exact hd2
  refine ⟨⟨?_, A.k_world k u, A.k_neto k u, ?_, ⟨dx, upd_same⟩, k.at_ A.seen ?_, ⟨ns, hn.keep k ?_, pm⟩, ?_, A.k_watch k ?_ ?_, A.k_clis k u ?_ ?_⟩, k⟩
  · have h := A.nd
    simp only [WAd.all, WAd.mu, List.nodup_cons, List.mem_cons, List.mem_append, not_or] at h hd ⊢
    grind
  · obtain ⟨vs, e1, e2⟩ := A.k_lets k u (by grind)
    exact ⟨vs, e1, Paired.imp e2 fun _ _ h => h.grow2 (g _ hd3)⟩
  · grind
  · simp; exact nhs
  · obtain ⟨vs, e1, e2⟩ := A.k_turns k u (by grind)
    exact ⟨vs, e1, Paired.imp e2 fun _ _ h => h.grow2 (g _ hd3)⟩
  · show W.lw ∉ [W.hs]; grind
  · show ∀ a ∈ W.ws, a ∉ [W.hs]; grind
  · show ∀ a ∈ W.cs, a ∉ [W.hs]; grind
  · show ∀ a ∈ W.es, a ∉ [W.hs]; grind
/-- all that a world's objects stand at, is there -/
theorem WAt.all_there {W : WAd} {s : Ag07.State} (A : WAt K H W s) : ∀ a ∈ W.all, H a ≠ none := by
  intro a ha
  obtain ⟨d1, h1⟩ := A.world
  obtain ⟨d2, h2⟩ := A.neto
  have h3 := A.clis.1
  simp only [WAd.all, List.mem_cons] at ha
  rcases ha with rfl | rfl | rfl | ha
  · rw [h1]; simp
  · rw [h2]; simp
  · rw [h3]; simp
  · exact A.mu_there a ha
end
/-! ### orders done together -/
theorem doAll_cons (s : Ag07.State) (t i : Nat) (l : List Ag07.Node) (o : Ag07.Order) (r : List Ag07.Order) : Ag07.doAll s t i l (o :: r) = if Ag07.why s l o ≠ 0 then .inl (i, Ag07.why s l o) else
    match Ag07.doAll s t (i + 1) (Ag07.doOne t l o).1 r with
    | .inl e => .inl e
    | .inr y => .inr (y.1, (Ag07.doOne t l o).2 ++ y.2) := rfl
/-- with what happened ahead -/
def withEv (ev : List Ag07.Event) : Sum (Nat × Nat) (List Ag07.Node × List Ag07.Event) → Sum (Nat × Nat) (List Ag07.Node × List Ag07.Event)
  | .inl e => .inl e
  | .inr y => .inr (y.1, ev ++ y.2)
theorem withEv_cons {s : Ag07.State} {t i : Nat} {l : List Ag07.Node} {o : Ag07.Order} {r : List Ag07.Order} (ev : List Ag07.Event) (h : Ag07.why s l o = 0) :
    withEv ev (Ag07.doAll s t i l (o :: r)) = withEv (ev ++ (Ag07.doOne t l o).2) (Ag07.doAll s t (i + 1) (Ag07.doOne t l o).1 r) := by
  rw [doAll_cons, if_neg (by simp [h])]
  cases Ag07.doAll s t (i + 1) (Ag07.doOne t l o).1 r with
  | inl e => rfl
  | inr y => simp [withEv]
theorem endTurn_nodes (s : Ag07.State) (l : List Ag07.Node) (ev : List Ag07.Event) (h : ev = [] → l = s.nodes) : endTurn { s with nodes := l } ev = Ag07.commit s l ev := by
  unfold endTurn
  by_cases e : ev = []
  · subst e
    rw [commit_nil, commit_nil, h rfl]
  · unfold Ag07.commit
    have e0 : ¬ ev.isEmpty = true := by simp [e]
    rw [if_neg e0, if_neg e0]; rfl
theorem not_mem2 {H : Hp} {d E b : Addr} {o : HO} (h1 : H d = none) (h2 : H E = none) (e : H b = some o) : b ∉ [d, E] := by
  simp only [List.mem_cons, List.not_mem_nil, or_false, not_or]
  exact ⟨ne_of_none e h1, ne_of_none e h2⟩
section
variable {w : World} {K : PySem.W.Frag} {mg : Str → Option Value} {base : Heap}
def pm_do_together (K : PySem.W.Frag) : Pm := fun vs H Q => ∃ W s l ovs, ∃ b : Nat, ∃ os : List Ag07.Order, vs = [.ref W.hs, .ref l] ∧ WAt K H W s ∧ Good b s ∧ b ≤ 1000 ∧ l ∉ W.mu ∧ H l = some (.lst ovs) ∧ Paired (OrderAt K H) ovs os ∧ (∀ o ∈ os, okO o = true) ∧ os.length ≤ 6 ∧
  match Ag07.doAll s (Ag07.turn s + 1) 0 s.nodes os with
  | .inl e => ∀ H' p, WAt K H' W s → Kp W.mu H H' → H p = none → H' p = some (.lst [.int (-2), .int (e.1 : Nat), .int (e.2 : Nat)]) → Q (.ref p) H'
  | .inr y => ∀ H' d2 p, H d2 = none → WAt K H' { W with dn := d2 } (Ag07.commit s y.1 y.2) → Ch W.mu ({ W with dn := d2 } : WAd).mu H H' → H p = none → H' p = some (.lst [.int (Ag07.turn (Ag07.commit s y.1 y.2) : Nat)]) → Q (.ref p) H'
theorem ok_do_together (T : Tx K mg) : HasFn Prog w K mg base 6 (He.fAd K d_do_together.at_) p_do_together (pm_do_together K) := by
  refine mkFn T.fun_do_together S_do_together (fun _ _ _ _ _ _ us hl => match us, hl with | [_, _], _ => rfl) ?_ fun cdv A outer s H E hr => ⟨_,
    (pss_cons (ps_set (i := 2) S_do_together.nd rfl (Or.inl rfl) (pe_callH (ok_copy_nodes T) (hr.mono (by decide)) (by rfl) T.glo_copy_nodes (pa_cons (pe_fld (pv 0) rfl) pa_nil)))
    (pss_cons (ps_set (i := 3) S_do_together.nd rfl (Or.inl rfl) (pe_lst pa_nil))
    (pss_cons (ps_for PassesOwn.never rfl (pi_enum (by rfl) T.free_enumerate (pa_cons (pv 1) pa_nil)) (pg_tup rfl (pgs_cons (pg_name (i := 4) S_do_together.nd rfl (Or.inl rfl)) (pgs_cons (pg_name (i := 5) S_do_together.nd rfl (Or.inl rfl)) pgs_nil))) (pss_cons (ps_set (i := 6) S_do_together.nd rfl (Or.inl rfl) (pe_callH (ok_why_not T) (hr.mono (by decide)) (by rfl) T.glo_why_not (pa_cons (pv 5) (pa_cons (pv 2) (pa_cons (pv 0) pa_nil)))))
    (pss_cons (ps_if (pt_cmpR op_ne (pv 6) (pe_gint (by rfl) T.int_CAN_BE_DONE) (nomark _)) (pss_one (ps_ret (pe_lst (pa_cons (pe_un un_neg pe_int) (pa_cons (pv 4) (pa_cons (pv 6) pa_nil)))))) pss_nil)
    (pss_one (ps_expr (pe_bm PySem.F.plainAttrs_list PySem.F.slot_list_extend PySem.F.type_list_extend mt_extend (pv 3) (pa_cons (pe_callH (ok_do_order T) (hr.mono (by decide)) (by rfl) T.glo_do_order (pa_cons (pv 5) (pa_cons (pv 2) (pa_cons (pe_op op_add (pe_methH0 (pv 0) T.cls_House T.me_House_last_turn (ok_House_last_turn T) (hr.mono (by decide))) pe_int) pa_nil)))) pa_nil)))))))
    (pss_cons (ps_fld (pv 0) (pv 2) rfl)
    (pss_cons (ps_expr (pe_methH (pv 0) T.cls_House T.me_House_end_turn (ok_House_end_turn T) (hr.mono (by decide)) (pa_cons (pv 3) pa_nil)))
    (pss_one (ps_ret (pe_lst (pa_cons (pe_methH0 (pv 0) T.cls_House T.me_House_last_turn (ok_House_last_turn T) (hr.mono (by decide))) pa_nil))))))))), ?_⟩
  · rintro vs H Q ⟨W, s, l, ovs, b, os, rfl, _⟩; rfl
  · rintro vs Q ⟨W, s, l, ovs, b, os, rfl, A, g, hb, hlm, hl, po, hok, h6, q⟩
    obtain ⟨dxh, hh⟩ := A.house
    obtain ⟨ns, hns, pm⟩ := A.nodes
    have hol := Paired.len po
    refine ⟨_, rfl, W.hs, _, dxh, _, _, rfl, hh, T.cls_House, T.no_House_nodes, rfl, W.dn, ns, s.nodes, rfl, hns, pm, g.srt, by rw [pm.length_eq]; exact Nat.le_trans g.cnt (by decide), fun H1 d2 hd2 hn1 k1 => ?_⟩
    refine ⟨Nat.zero_le _, fun E hE => ?_⟩
    have hE1 : upd H1 E (.lst []) E = some (.lst []) := upd_same
    have k2 : Kp [] H (upd H1 E (.lst [])) := k1.trans ((Kp.refl _ _).new hE)
    have hEH : H E = none := k1.free (by simp) hE
    have hn2 := hn1.keep ((Kp.refl [] H1).new (o := .lst []) hE) (by simp)
    generalize upd H1 E (.lst []) = H2 at hE1 k2 hn2
    clear hE hn1 k1
    have hEd : E ≠ d2 := fun z => by
      obtain ⟨kvs, hk, _⟩ := hn2
      rw [← z, hE1] at hk; cases hk
    have hd2all : d2 ∉ W.all := fun z => A.all_there d2 z hd2
    have hEall : E ∉ W.all := fun z => A.all_there E z hEH
    have hl2 := k2.at_ hl (by simp)
    refine ⟨_, rfl, l, ovs, rfl, SqL.of hl2, for_it (walk_enum (K := K) (a := l) (xs := ovs)) (fun j σ H' => ∃ v4 v5 v6, σ = [some (.ref W.hs), some (.ref l), some (.ref d2), some (.ref E), v4, v5, v6] ∧ Kp [d2, E] H H' ∧ ∃ lj ej nsj evs, GoodN lj ∧ (ej = [] → lj = s.nodes) ∧ ej.length ≤ j ∧
      NodesAt K H' d2 nsj ∧ nsj.Perm lj ∧ H' E = some (.lst evs) ∧ Paired (EventAt K H') evs ej ∧ Ag07.doAll s (Ag07.turn s + 1) 0 s.nodes os = withEv ej (Ag07.doAll s (Ag07.turn s + 1) j lj (os.drop j)))
      ⟨none, none, none, rfl, k2.sub (by simp), s.nodes, [], ns, [], g.n, fun _ => rfl, Nat.le_refl _, hn2, pm, hE1, .nil, ?_⟩ (fun j σ H' _ h => ?_) ?_ ?_⟩
    · rw [List.drop_zero]
      cases Ag07.doAll s (Ag07.turn s + 1) 0 s.nodes os <;> rfl
    · obtain ⟨_, _, _, _, k, _⟩ := h
      exact SqL.of (k.at_ hl (not_mem2 hd2 hEH hl))
    · rintro j x σ H' H3 hj ⟨v4, v5, v6, rfl, k, lj, ej, nsj, evs, gj, hej0, hejl, hnj, pmj, hEj, pej, hdo⟩ ⟨tp, i0, xo, rfl, htp, rfl, hi0, hxo⟩
      cases hi0
      obtain ⟨o, ho, oa⟩ := Paired.get po hxo
      have kt : Kp [] H' (upd H' tp (.tup [.int (j : Nat), xo])) := (Kp.refl _ _).new htp
      refine ⟨tp, _, rfl, SqT.of upd_same, rfl, _, _, rfl, _, _, rfl, rfl, ?_⟩
      have hEt := kt.at_ hEj (by simp)
      have hnt := hnj.keep kt (by simp)
      have pet : Paired (EventAt K (upd H' tp (.tup [.int (j : Nat), xo]))) evs ej := Paired.imp pej fun _ _ h => h.keep kt
      have k3 : Kp [d2, E] H (upd H' tp (.tup [.int (j : Nat), xo])) := k.trans (kt.sub (by simp))
      generalize upd H' tp (.tup [.int (j : Nat), xo]) = H4 at hEt hnt pet k3
      have wk : ∀ Hx, Kp [d2, E] H Hx → WAt K Hx W s := fun Hx kx => A.keep fun b o e _ => kx.at_ e (not_mem2 hd2 hEH e)
      have hokj := hok o (List.mem_of_getElem? ho)
      have hpo : Ag07.isPath 1 o.path = true := by unfold okO at hokj; simp at hokj; exact hokj.2.2
      have hko : o.kind ≤ 3 := by unfold okO at hokj; simp at hokj; exact hokj.1
      have hnl : nsj.length ≤ 1000 := by rw [pmj.length_eq]; exact Nat.le_trans gj.cnt (by decide)
      have hdrop : os.drop j = o :: os.drop (j + 1) := by
        obtain ⟨h1, h2⟩ := List.getElem?_eq_some_iff.mp ho
        rw [List.drop_eq_getElem_cons h1, h2]
      refine ⟨_, rfl, _, rfl, _, rfl, W, s, _, d2, o, nsj, rfl, wk _ k3, ⟨oa.keep k3, hnt, path_ne hpo⟩, hnl, hko, fun H5 k5 => ?_⟩
      have k35 : Kp [d2, E] H H5 := k3.trans (k5.sub (by simp))
      rw [why_perm pmj gj.srt]
      refine ⟨_, rfl, rfl, _, rfl, ite2 (fun h => ?_) (fun h => ?_)⟩
      · have hw : Ag07.why s lj o ≠ 0 := neV.mp h
        have hres : Ag07.doAll s (Ag07.turn s + 1) 0 s.nodes os = .inl (j, Ag07.why s lj o) := by
          rw [hdo, hdrop, doAll_cons, if_pos hw]; rfl
        rw [hres] at q
        refine ⟨_, rfl, _, rfl, _, rfl, (by show (3 : Nat) ≤ sizeLine; decide), fun p hp => ?_⟩
        have k6 : Kp [d2, E] H (upd H5 p (.lst [.int (-2), .int (j : Nat), .int (Ag07.why s lj o : Nat)])) := k35.new hp
        refine q _ p (wk _ k6) ?_ ?_ upd_same
        · intro b o e n
          refine k6 b o e (n.imp (fun _ => ?_) id)
          exact not_mem2 hd2 hEH e
        · cases e : H p with
          | none => rfl
          | some o =>
            rw [k35.at_ e (not_mem2 hd2 hEH e)] at hp
            cases hp
      · have hw : Ag07.why s lj o = 0 := by
          by_cases z : Ag07.why s lj o = 0
          · exact z
          · exact absurd (neV.mpr z) h
        have hE5 := k5.at_ hEt (by simp)
        have hn5 := hnt.keep k5 (by simp)
        have A5 := wk _ k35
        obtain ⟨dx5, hh5⟩ := A5.house
        refine ⟨_, rfl, .inl ⟨rfl, _, SqL.of hE5⟩, _, rfl, _, rfl, _, rfl, W.hs, dx5, _, rfl, hh5, rfl, W, s, rfl, A5, _, _, rfl, rfl, ?_⟩
        refine ⟨xo, d2, o, nsj, lj, Ag07.turn s + 1, s, rfl, oa.keep k35, hn5, pmj, gj.srt, hnl, hko, hw, fun H6 p ns' evs6 hp6 k6 hn6 pm6 hl6 pe6 => ?_⟩
        have hE6 := k6.at_ hE5 (by simpa using hEd)
        have k36 : Kp [d2, E] H H6 := k35.trans (k6.sub (by simp))
        have nEp : E ≠ p := ne_of_none hE5 hp6
        have hlen6 : ej.length + (Ag07.doOne (Ag07.turn s + 1) lj o).2.length ≤ j + 1 := by have := doOne_len (Ag07.turn s + 1) lj o; omega
        refine ⟨E, p, evs, evs6, rfl, rfl, hE6, hl6, ?_, ?_⟩
        · have e1 := Paired.len pej
          have e2 := Paired.len pe6
          have : ovs.length ≤ 6 := by omega
          exact Nat.le_of_lt (sizeLine_big (by omega))
        · have kE : Kp [E] H6 (upd H6 E (.lst (evs ++ evs6))) := (Kp.refl _ _).put (by simp) hE6
          refine ⟨_, _, _, rfl, k36.trans (kE.sub (by simp)), (Ag07.doOne (Ag07.turn s + 1) lj o).1, ej ++ (Ag07.doOne (Ag07.turn s + 1) lj o).2, ns', evs ++ evs6, doOne_good _ gj hw hpo, fun e => ?_, ?_, hn6.keep kE (by simpa using hEd.symm), pm6, upd_same, ?_, ?_⟩
          · have e1 := List.append_eq_nil_iff.mp e
            rw [doOne_none (st := s) e1.2]; exact hej0 e1.1
          · rw [List.length_append]; exact hlen6
          · refine Paired.app (Paired.imp pet fun _ _ h => ?_) (Paired.imp pe6 fun _ _ h => h.keep kE)
            exact ((h.keep k5).keep k6).keep kE
          · rw [hdo, hdrop, withEv_cons ej hw]
    · rintro σ H' ⟨v4, v5, v6, rfl, k, lj, ej, nsj, evs, gj, hej0, hejl, hnj, pmj, hEj, pej, hdo⟩
      have hres : Ag07.doAll s (Ag07.turn s + 1) 0 s.nodes os = .inr (lj, ej) := by
        rw [hdo, List.drop_of_length_le (by omega)]
        simp [Ag07.doAll, withEv]
      rw [hres] at q
      have wk : ∀ Hx, Kp [d2, E] H Hx → WAt K Hx W s := fun Hx kx => A.keep fun b o e _ => kx.at_ e (not_mem2 hd2 hEH e)
      have A3 := wk _ k
      obtain ⟨dx3, hh3⟩ := A3.house
      refine ⟨_, rfl, _, rfl, W.hs, _, dx3, _, rfl, hh3, T.cls_House, T.no_House_nodes, (by show (9 : Nat) < 1000; decide), ?_⟩
      have p4 := A3.set_dn hd2all hnj pmj ⟨_, hh3⟩
      have hE4 := p4.2.at_ hEj (by simp only [List.mem_singleton]; intro z; exact hEall (by rw [z]; simp [WAd.all, WAd.mu]))
      obtain ⟨dx4, hh4⟩ := p4.1.house
      have hEmu : E ∉ ({ W with dn := d2 } : WAd).mu := by
        simp only [WAd.all, WAd.mu, List.mem_cons, List.mem_append, not_or] at hEall ⊢
        grind
      refine ⟨_, rfl, W.hs, dx4, _, rfl, hh4, rfl, _, rfl, { W with dn := d2 }, _, .ref E, ej, rfl, p4.1, ⟨E, evs, rfl, hEmu, hE4, Paired.imp pej fun _ _ h => h.keep p4.2⟩, by omega, g.lts, by have := g.bnd; show s.log.length ≤ _; omega, fun H5 A5 k5 => ?_⟩
      rw [endTurn_nodes s lj ej hej0] at A5
      obtain ⟨dx5, hh5⟩ := A5.house
      refine ⟨_, rfl, W.hs, dx5, _, rfl, hh5, rfl, { W with dn := d2 }, _, rfl, A5, (by show (1 : Nat) ≤ sizeLine; decide), fun p hp => ?_⟩
      have k6 : Kp [] H5 (upd H5 p (.lst [.int (Ag07.turn (Ag07.commit s lj ej) : Nat)])) := (Kp.refl _ _).new hp
      have kk : ∀ b o, H b = some o → (b ∉ W.mu ∨ isImm o = true) → H5 b = some o := by
        intro b o e n
        have nb : b ∉ [d2, E] := not_mem2 hd2 hEH e
        have e1 := k.at_ e nb
        have e2 := p4.2 b o e1 (n.imp (fun z y => z (by rw [List.mem_singleton.mp y]; simp [WAd.mu])) id)
        refine k5 b o e2 (n.imp (fun z y => ?_) id)
        simp only [WAd.mu, List.mem_cons, List.mem_append, not_or] at z y nb
        grind
      refine q _ d2 p hd2 (A5.keep k6) ⟨fun b o e n => k6.at_ (kk b o e n) (by simp), fun a ha => ?_⟩ ?_ upd_same
      · by_cases z : a = d2
        · right; rw [z]; exact hd2
        · left
          simp only [WAd.mu, List.mem_cons, List.mem_append] at ha ⊢
          grind
      · cases e : H p with
        | none => rfl
        | some o =>
          exfalso
          by_cases n : p ∈ ({ W with dn := d2 } : WAd).mu
          · exact A5.mu_there p n hp
          · have nb : p ∉ [d2, E] := not_mem2 hd2 hEH e
            have e2 := p4.2.at_ (k.at_ e nb) (fun y => n (by rw [List.mem_singleton.mp y]; simp [WAd.mu]))
            rw [k5.at_ e2 n] at hp; cases hp
end
end Wt

set_option Elab.async false
set_option linter.all false
set_option maxRecDepth 100000
set_option maxHeartbeats 4000000
namespace Wt
open PySem PySem.Spec PyProof.Rows L2
def F_Reader (calls place : V) : List (Str × V) := [("calls", calls), ("place", place)]
abbrev C_Reader (K : PySem.W.Frag) : Addr := He.ga K "Reader"
/-- a Reader of the list at l, at place i -/
def RdAt (K : PySem.W.Frag) (H : Hp) (r l : Addr) (i : Nat) : Prop := ∃ dx, H r = some (.ins (C_Reader K) dx (F_Reader (.ref l) (.int (i : Nat))))
/-- a list that stays while r changes -/
def Lk (K : PySem.W.Frag) (H : Hp) (r l : Addr) (xs : List V) : Prop := ∀ H', Kp [r] H H' → SqL K H' l xs
theorem lk_of {K : PySem.W.Frag} {H H1 : Hp} {r l : Addr} {xs : List V} (h : SqL K H l xs) (hr : H r = none) (k : Kp [] H H1) : Lk K H1 r l xs := fun H' z => by
  rcases h with h | h
  · have n : l ≠ r := by
      rintro rfl
      rcases h with h | ⟨o, h⟩ <;> (rw [hr] at h; cases h)
    exact z.sq (by simpa using n) (k.sq (by simp) (.inl h))
  · exact .inr h
section
variable {w : World} {K : PySem.W.Frag} {mg : Str → Option Value} {base : Heap}
def pm_Reader_init (K : PySem.W.Frag) : Pm := fun vs H Q => ∃ x dx l, vs = [.ref x, .ref l] ∧ H x = some (.ins (C_Reader K) dx []) ∧ Q .non (upd H x (.ins (C_Reader K) dx (F_Reader (.ref l) (.int (0 : Nat)))))
theorem ok_Reader_init (T : Tx K mg) : HasFn Prog w K mg base 1 (He.fAd K d_Reader_init.at_) p_Reader_init (pm_Reader_init K) := by
  refine mkFn T.fun_Reader_init S_Reader_init (fun _ _ _ _ _ _ us hl => match us, hl with | [_, _], _ => rfl) ?_ fun cdv A outer s H E hr => ⟨_,
    (pss_cons (ps_fld (pv 0) (pv 1) rfl)
    (pss_one (ps_fld (pv 0) pe_int rfl))), ?_⟩
  · rintro vs H Q ⟨x, dx, l, rfl, _⟩; rfl
  · rintro vs Q ⟨x, dx, l, rfl, hx, q⟩
    refine ⟨_, rfl, _, rfl, x, _, dx, _, rfl, hx, T.cls_Reader, T.no_Reader_calls, (by show (0 : Nat) < 1000; decide), ?_⟩
    refine ⟨_, rfl, x, _, dx, _, rfl, upd_same, T.cls_Reader, T.no_Reader_place, (by show (1 : Nat) < 1000; decide), ?_⟩
    rw [upd_upd]; exact q
def pm_Reader_has_more (K : PySem.W.Frag) : Pm := fun vs H Q => ∃ r l i ns, vs = [.ref r] ∧ RdAt K H r l i ∧ SqL K H l (ns : List V) ∧ Q (.bl (decide (i < ns.length))) H
theorem ok_Reader_has_more (T : Tx K mg) : HasFn Prog w K mg base 1 (He.fAd K d_Reader_has_more.at_) p_Reader_has_more (pm_Reader_has_more K) := by
  refine mkFn T.fun_Reader_has_more S_Reader_has_more (fun _ _ _ _ _ _ us hl => match us, hl with | [_], _ => rfl) ?_ fun cdv A outer s H E hr => ⟨_,
    (pss_one (ps_ret (pe_cmpR op_lt (pe_fld (pv 0) rfl) (pe_callB call_len (by rfl) T.free_len PySem.boot_len (pa_cons (pe_fld (pv 0) rfl) pa_nil)) (nomark _)))), ?_⟩
  · rintro vs H Q ⟨r, l, i, ns, rfl, _⟩; rfl
  · rintro vs Q ⟨r, l, i, ns, rfl, ⟨dx, hr⟩, hl, q⟩
    refine ⟨_, rfl, r, _, dx, _, _, rfl, hr, T.cls_Reader, T.no_Reader_place, rfl, ?_⟩
    refine ⟨_, rfl, r, _, dx, _, _, rfl, hr, T.cls_Reader, T.no_Reader_calls, rfl, ?_⟩
    refine ⟨_, ns.length, rfl, Or.inl ⟨_, hl, rfl⟩, _, _, rfl, rfl, ?_⟩
    have e : decide ((i : Int) < (ns.length : Int)) = decide (i < ns.length) := decide_eq_decide.mpr (by omega)
    show Q (.bl (decide ((i : Int) < (ns.length : Int)))) H
    rw [e]; exact q
def pm_Reader_read_number (K : PySem.W.Frag) : Pm := fun vs H Q => ∃ r l dx i z, ∃ ns : List Int, vs = [.ref r] ∧ H r = some (.ins (C_Reader K) dx (F_Reader (.ref l) (.int (i : Nat)))) ∧
  SqL K H l (ns.map V.int) ∧ ns[i]? = some z ∧ Q (.int z) (upd H r (.ins (C_Reader K) dx (F_Reader (.ref l) (.int (i + 1 : Nat)))))
theorem ok_Reader_read_number (T : Tx K mg) : HasFn Prog w K mg base 1 (He.fAd K d_Reader_read_number.at_) p_Reader_read_number (pm_Reader_read_number K) := by
  refine mkFn T.fun_Reader_read_number S_Reader_read_number (fun _ _ _ _ _ _ us hl => match us, hl with | [_], _ => rfl) ?_ fun cdv A outer s H E hr => ⟨_,
    (pss_cons (ps_set (i := 1) S_Reader_read_number.nd rfl (Or.inl rfl) (pe_ix ix_list (pe_fld (pv 0) rfl) (pe_fld (pv 0) rfl) (fun _ _ => rfl)))
    (pss_cons (ps_fldaug (pv 0) pe_int in_add)
    (pss_one (ps_ret (pv 1))))), ?_⟩
  · rintro vs H Q ⟨r, l, dx, i, z, ns, rfl, _⟩; rfl
  · rintro vs Q ⟨r, l, dx, i, z, ns, rfl, hr, hl, hz, q⟩
    refine ⟨_, rfl, r, _, dx, _, _, rfl, hr, T.cls_Reader, T.no_Reader_calls, rfl, ?_⟩
    refine ⟨_, rfl, r, _, dx, _, _, rfl, hr, T.cls_Reader, T.no_Reader_place, rfl, ?_⟩
    refine ⟨l, _, _, _, rfl, rfl, hl, atI_nat (j := i) (v := V.int z) (by rw [List.getElem?_map, hz]; rfl), ?_⟩
    refine ⟨_, rfl, r, _, dx, _, _, rfl, hr, T.cls_Reader, T.no_Reader_place, rfl, ?_⟩
    refine ⟨_, _, rfl, rfl, dx, _, hr, (by show 2 < 1000; decide), ?_⟩
    exact ⟨_, rfl, q⟩
theorem drop_get {ns : List Int} {i : Nat} {z : Int} {r : List Int} (h : ns.drop i = z :: r) : ns[i]? = some z ∧ ns.drop (i + 1) = r := by
  refine ⟨?_, ?_⟩
  · have := congrArg (fun l => l[0]?) h
    simpa using this
  · have := congrArg (List.drop 1) h
    rw [List.drop_drop] at this
    simpa using this
/-- a number of the flat list is read, then as many -/
def pm_Reader_read_row (K : PySem.W.Frag) : Pm := fun vs H Q => ∃ r l dx i, ∃ ns row rest : List Int, vs = [.ref r] ∧ H r = some (.ins (C_Reader K) dx (F_Reader (.ref l) (.int (i : Nat)))) ∧
  Lk K H r l (ns.map V.int) ∧ ns.drop i = (row.length : Int) :: (row ++ rest) ∧ row.length ≤ 20000 ∧
  ∀ H' p, H p = none → H' p = some (.lst (row.map V.int)) → H' r = some (.ins (C_Reader K) dx (F_Reader (.ref l) (.int (i + 1 + row.length : Nat)))) → Kp [r] H H' → Q (.ref p) H'
theorem ok_Reader_read_row (T : Tx K mg) : HasFn Prog w K mg base 2 (He.fAd K d_Reader_read_row.at_) p_Reader_read_row (pm_Reader_read_row K) := by
  refine mkFn T.fun_Reader_read_row S_Reader_read_row (fun _ _ _ _ _ _ us hl => match us, hl with | [_], _ => rfl) ?_ fun cdv A outer s H E hr => ⟨_,
    (pss_cons (ps_set (i := 1) S_Reader_read_row.nd rfl (Or.inl rfl) (pe_lst pa_nil))
    (pss_cons (ps_for PassesOwn.never rfl (pi_range1 (by rfl) T.free_range (pa_cons (pe_methH0 (pv 0) T.cls_Reader T.me_Reader_read_number (ok_Reader_read_number T) (hr.mono (by decide))) pa_nil)) (pg_name (i := 2) S_Reader_read_row.nd rfl (Or.inl rfl)) (pss_one (ps_expr (pe_bm PySem.F.plainAttrs_list PySem.F.slot_list_append PySem.F.type_list_append mt_append (pv 1) (pa_cons (pe_methH0 (pv 0) T.cls_Reader T.me_Reader_read_number (ok_Reader_read_number T) (hr.mono (by decide))) pa_nil)))))
    (pss_one (ps_ret (pv 1))))), ?_⟩
  · rintro vs H Q ⟨r, l, dx, i, ns, row, rest, rfl, _⟩; rfl
  · rintro vs Q ⟨r, l, dx, i, ns, row, rest, rfl, hr, hl, hd, hlen, q⟩
    refine ⟨Nat.zero_le _, fun p hp => ?_⟩
    have npr : r ≠ p := ne_of_none hr hp
    obtain ⟨h0, hd1⟩ := drop_get hd
    have k0 : Kp [r] H (upd H p (.lst [])) := (Kp.refl _ _).new hp
    have hr0 : upd H p (.lst []) r = _ := (upd_ne npr).trans hr
    refine ⟨_, rfl, r, dx, _, rfl, hr0, rfl, ?_⟩
    refine ⟨r, l, dx, i, _, ns, rfl, hr0, hl _ k0, h0, ?_⟩
    refine ⟨_, rfl, by omega, by omega, for_range (lo := 0) (n := row.length) (fun j σ H' => ∃ v, σ = [some (.ref r), some (.ref p), v] ∧ Kp [r] H H' ∧ H' p = some (.lst ((row.take j).map V.int)) ∧
      H' r = some (.ins (C_Reader K) dx (F_Reader (.ref l) (.int (i + 1 + j : Nat))))) ⟨none, rfl, k0.put (by simp) hr0, ?_, upd_same⟩ ?_ ?_⟩
    · rw [upd_ne npr.symm, upd_same]; rfl
    · rintro j σ H' hj ⟨v, rfl, kp, h1, h2⟩
      have hz : ns[i + 1 + j]? = some row[j] := by
        have e : (ns.drop (i + 1))[j]? = some row[j] := by rw [hd1, List.getElem?_append_left hj]; exact List.getElem?_eq_getElem hj
        rw [List.getElem?_drop] at e; exact e
      refine ⟨_, rfl, .inl ⟨rfl, _, SqL.of h1⟩, _, rfl, r, dx, _, rfl, h2, rfl, ?_⟩
      refine ⟨r, l, dx, i + 1 + j, row[j], ns, rfl, h2, hl _ kp, hz, ?_⟩
      have n2 : p ≠ r := npr.symm
      refine ⟨p, _, _, rfl, rfl, (by rw [upd_ne n2]; exact h1), (by rw [List.length_map, List.length_take]; exact sizeLine_big (by omega)), ?_⟩
      refine ⟨_, rfl, (kp.put (by simp) h2).own hp, ?_, ?_⟩
      · rw [upd_same, take_snoc (List.getElem?_eq_getElem hj), List.map_append]; rfl
      · rw [upd_ne npr, upd_same]; rfl
    · rintro σ H' ⟨v, rfl, kp, h1, h2⟩
      rw [List.take_length] at h1
      exact ⟨_, rfl, q H' p hp h1 h2 kp⟩
theorem rows_keep {H H' : Hp} {as : List Addr} {rows : List (List Int)} (h : Paired (fun a (r : List Int) => H a = some (.lst (r.map V.int))) as rows) (k : ∀ a (y : List Int), a ∈ as → H a = some (.lst (y.map V.int)) → H' a = some (.lst (y.map V.int))) :
    Paired (fun a (r : List Int) => H' a = some (.lst (r.map V.int))) as rows := by
  induction h with
  | nil => exact .nil
  | @cons a y as ys e t ih => exact .cons (k a y List.mem_cons_self e) (ih fun c z hc => k c z (List.mem_cons_of_mem _ hc))
/-- a list of lists of whole numbers, which is not changed -/
def RowsAt (H : Hp) (p : Addr) (rows : List (List Int)) : Prop := ∃ as : List Addr, H p = some (.lst (as.map V.ref)) ∧ Paired (fun a r => H a = some (.lst (r.map V.int))) as rows
def pm_Reader_read_rows (K : PySem.W.Frag) : Pm := fun vs H Q => ∃ r l dx i, ∃ ns : List Int, ∃ rows : List (List Int), ∃ rest : List Int, vs = [.ref r] ∧ H r = some (.ins (C_Reader K) dx (F_Reader (.ref l) (.int (i : Nat)))) ∧
  Lk K H r l (ns.map V.int) ∧ ns.drop i = (rows.length : Int) :: (flatRows rows ++ rest) ∧ rows.length ≤ 20000 ∧ (∀ x ∈ rows, x.length ≤ 20000) ∧
  ∀ H' p as, H p = none → (∀ a ∈ as, H a = none) → H' p = some (.lst (as.map V.ref)) → Paired (fun a r => H' a = some (.lst (r.map V.int))) as rows →
    H' r = some (.ins (C_Reader K) dx (F_Reader (.ref l) (.int (i + 1 + (flatRows rows).length : Nat)))) → Kp [r] H H' → Q (.ref p) H'
theorem ok_Reader_read_rows (T : Tx K mg) : HasFn Prog w K mg base 3 (He.fAd K d_Reader_read_rows.at_) p_Reader_read_rows (pm_Reader_read_rows K) := by
  refine mkFn T.fun_Reader_read_rows S_Reader_read_rows (fun _ _ _ _ _ _ us hl => match us, hl with | [_], _ => rfl) ?_ fun cdv A outer s H E hr => ⟨_,
    (pss_cons (ps_set (i := 1) S_Reader_read_rows.nd rfl (Or.inl rfl) (pe_lst pa_nil))
    (pss_cons (ps_for PassesOwn.never rfl (pi_range1 (by rfl) T.free_range (pa_cons (pe_methH0 (pv 0) T.cls_Reader T.me_Reader_read_number (ok_Reader_read_number T) (hr.mono (by decide))) pa_nil)) (pg_name (i := 2) S_Reader_read_rows.nd rfl (Or.inl rfl)) (pss_one (ps_expr (pe_bm PySem.F.plainAttrs_list PySem.F.slot_list_append PySem.F.type_list_append mt_append (pv 1) (pa_cons (pe_methH0 (pv 0) T.cls_Reader T.me_Reader_read_row (ok_Reader_read_row T) (hr.mono (by decide))) pa_nil)))))
    (pss_one (ps_ret (pv 1))))), ?_⟩
  · rintro vs H Q ⟨r, l, dx, i, ns, rows, rest, rfl, _⟩; rfl
  · rintro vs Q ⟨r, l, dx, i, ns, rows, rest, rfl, hr, hl, hd, hlen, hrl, q⟩
    refine ⟨Nat.zero_le _, fun p hp => ?_⟩
    have npr : r ≠ p := ne_of_none hr hp
    obtain ⟨h0, hd1⟩ := drop_get hd
    have k0 : Kp [r] H (upd H p (.lst [])) := (Kp.refl _ _).new hp
    have hr0 : upd H p (.lst []) r = _ := (upd_ne npr).trans hr
    refine ⟨_, rfl, r, dx, _, rfl, hr0, rfl, ?_⟩
    refine ⟨r, l, dx, i, _, ns, rfl, hr0, hl _ k0, h0, ?_⟩
    refine ⟨_, rfl, by omega, by omega, for_range (lo := 0) (n := rows.length) (fun j σ H' => ∃ v, σ = [some (.ref r), some (.ref p), v] ∧ Kp [r] H H' ∧ ∃ as : List Addr, (∀ a ∈ as, H a = none ∧ a ≠ p) ∧ H' p = some (.lst (as.map V.ref)) ∧
      Paired (fun a r => H' a = some (.lst (r.map V.int))) as (rows.take j) ∧ H' r = some (.ins (C_Reader K) dx (F_Reader (.ref l) (.int (i + 1 + (flatRows (rows.take j)).length : Nat))))) ⟨none, rfl, k0.put (by simp) hr0, [], (fun a h => by cases h), ?_, .nil, upd_same⟩ ?_ ?_⟩
    · rw [upd_ne npr.symm, upd_same]; rfl
    · rintro j σ H' hj ⟨v, rfl, kp, as, has, h1, h2, h3⟩
      have hx : rows[j]? = some rows[j] := List.getElem?_eq_getElem hj
      have hm : rows[j] ∈ rows := List.getElem_mem hj
      generalize rows[j] = x at hx hm
      have hfl : flatRows (rows.take (j + 1)) = flatRows (rows.take j) ++ ((x.length : Int) :: x) := by
        unfold flatRows; rw [take_snoc hx, List.flatMap_append]; simp
      have hdr : ns.drop (i + 1 + (flatRows (rows.take j)).length) = (x.length : Int) :: (x ++ (flatRows (rows.drop (j + 1)) ++ rest)) := by
        rw [← List.drop_drop, hd1]
        have e1 : flatRows rows = flatRows (rows.take j) ++ (((x.length : Int) :: x) ++ flatRows (rows.drop (j + 1))) := by
          have e2 : rows = rows.take j ++ (x :: rows.drop (j + 1)) := by
            obtain ⟨a1, a2⟩ := List.getElem?_eq_some_iff.mp hx
            rw [← a2, ← List.drop_eq_getElem_cons a1, List.take_append_drop]
          rw [show flatRows rows = flatRows (rows.take j ++ (x :: rows.drop (j + 1))) by rw [← e2]]
          unfold flatRows; rw [List.flatMap_append, List.flatMap_cons]
        rw [e1, List.append_assoc, List.drop_left]
        simp
      refine ⟨_, rfl, .inl ⟨rfl, _, SqL.of h1⟩, _, rfl, r, dx, _, rfl, h3, rfl, ?_⟩
      refine ⟨r, l, dx, _, ns, x, _, rfl, h3, (fun H'' z => hl H'' (kp.trans z)), hdr, hrl x hm, fun H2 b hb hb2 hr2 k2 => ?_⟩
      have n2 : p ≠ r := npr.symm
      have hp2 := k2.at_ h1 (by simpa using n2)
      have nbp : p ≠ b := ne_of_none h1 hb
      have hbH : H b = none := by
        cases e : H b with
        | none => rfl
        | some o =>
          by_cases z : b = r
          · rw [z, h3] at hb; cases hb
          · rw [kp.at_ e (by simpa using z)] at hb; cases hb
      refine ⟨p, _, _, rfl, rfl, hp2, ?_, ?_⟩
      · have := Paired.len h2
        rw [List.length_take] at this
        rw [List.length_map]; exact sizeLine_big (by omega)
      · refine ⟨_, rfl, (kp.trans k2).own hp, as ++ [b], ?_, ?_, ?_, ?_⟩
        · intro a ha
          rcases List.mem_append.mp ha with ha | ha
          · exact has a ha
          · rw [List.mem_singleton.mp ha]; exact ⟨hbH, nbp.symm⟩
        · rw [upd_same, List.map_append]; rfl
        · rw [take_snoc hx]
          refine Paired.app ?_ (.cons ?_ .nil)
          · exact rows_keep h2 fun a y ha e => by
              rw [upd_ne (has a ha).2]
              exact k2.at_ e (by simp only [List.mem_singleton]; intro z; rw [z, h3] at e; cases e)
          · rw [upd_ne nbp.symm]; exact hb2
        · rw [upd_ne npr, hfl, hr2]
          have : i + 1 + (flatRows (rows.take j)).length + 1 + x.length = i + 1 + (flatRows (rows.take j) ++ ((x.length : Int) :: x)).length := by simp; omega
          rw [this]; rfl
    · rintro σ H' ⟨v, rfl, kp, as, has, h1, h2, h3⟩
      rw [List.take_length] at h2 h3
      exact ⟨_, rfl, q H' p as hp (fun a ha => (has a ha).1) h1 h2 h3 kp⟩
end
end Wt

set_option Elab.async false
set_option linter.all false
set_option maxRecDepth 100000
set_option maxHeartbeats 4000000
namespace Wt
open PySem PySem.Spec PyProof.Rows L2
section
variable {w : World} {K : PySem.W.Frag} {mg : Str → Option Value} {base : Heap}
/-- the attributes of a client without a copy -/
def forgot (d : Addr) (fs : List (Str × V)) : List (Str × V) := putF "pictures_had" (.int (0 : Nat)) (putF "events_had" (.int (0 : Nat)) (putF "copied" (.ref d) (putF "since" (.int (0 : Nat)) (putF "up_to" .non fs))))
def pm_Client_forget_copy (K : PySem.W.Frag) : Pm := fun vs H Q => ∃ x dx fs, vs = [.ref x] ∧ H x = some (.ins (C_Client K) dx fs) ∧ fs.length ≤ 20 ∧
  ∀ H' d, H d = none → H' x = some (.ins (C_Client K) dx (forgot d fs)) → H' d = some (.dT []) → (∀ b, b ≠ x → b ≠ d → H' b = H b) → Q .non H'
theorem ok_Client_forget_copy (T : Tx K mg) : HasFn Prog w K mg base 1 (He.fAd K d_Client_forget_copy.at_) p_Client_forget_copy (pm_Client_forget_copy K) := by
  refine mkFn T.fun_Client_forget_copy S_Client_forget_copy (fun _ _ _ _ _ _ us hl => match us, hl with | [_], _ => rfl) ?_ fun cdv A outer s H E hr => ⟨_,
    (pss_cons (ps_fld (pv 0) pe_non rfl)
    (pss_cons (ps_fld (pv 0) pe_int rfl)
    (pss_cons (ps_fld (pv 0) pe_dnewT rfl)
    (pss_cons (ps_fld (pv 0) pe_int rfl)
    (pss_one (ps_fld (pv 0) pe_int rfl)))))), ?_⟩
  · rintro vs H Q ⟨x, dx, fs, rfl, _⟩; rfl
  · rintro vs Q ⟨x, dx, fs, rfl, hx, hlen, q⟩
    have l1 := length_putF "up_to" .non fs
    have l2 := length_putF "since" (.int 0) (putF "up_to" .non fs)
    refine ⟨_, rfl, x, _, dx, _, rfl, hx, T.cls_Client, T.no_Client_up_to, (by omega), ?_⟩
    refine ⟨_, rfl, x, _, dx, _, rfl, upd_same, T.cls_Client, T.no_Client_since, (by omega), ?_⟩
    rw [upd_upd]
    refine fun d hd => ?_
    have nxd : x ≠ d := ne_of_none upd_same hd
    rw [upd_ne nxd.symm] at hd
    have l3 := length_putF "copied" (.ref d) (putF "since" (.int 0) (putF "up_to" .non fs))
    have l4 := length_putF "events_had" (.int 0) (putF "copied" (.ref d) (putF "since" (.int 0) (putF "up_to" .non fs)))
    refine ⟨_, rfl, x, _, dx, _, rfl, (by rw [upd_ne nxd]; exact upd_same), T.cls_Client, T.no_Client_copied, (by omega), ?_⟩
    refine ⟨_, rfl, x, _, dx, _, rfl, upd_same, T.cls_Client, T.no_Client_events_had, (by omega), ?_⟩
    refine ⟨_, rfl, x, _, dx, _, rfl, upd_same, T.cls_Client, T.no_Client_pictures_had, (by omega), ?_⟩
    rw [upd_upd, upd_upd]
    refine q _ d hd upd_same ?_ fun b h1 h2 => ?_
    · rw [upd_ne nxd.symm, upd_same]
    · rw [upd_ne h1, upd_ne h2, upd_ne h1]
def pm_Client_init (K : PySem.W.Frag) : Pm := fun vs H Q => ∃ x dx, ∃ i : Nat, vs = [.ref x, .int i] ∧ H x = some (.ins (C_Client K) dx []) ∧
  ∀ H' d pa, H d = none → H pa = none → d ≠ pa → H' x = some (.ins (C_Client K) dx (ClF.fs ⟨.int (i : Nat), .int (0 : Nat), .ref pa, .non, .int (0 : Nat), .ref d, .int (0 : Nat), .int (0 : Nat)⟩)) → H' d = some (.dT []) → H' pa = some (.tup []) →
    Kp [x] H H' → Q .non H'
theorem ok_Client_init (T : Tx K mg) : HasFn Prog w K mg base 2 (He.fAd K d_Client_init.at_) p_Client_init (pm_Client_init K) := by
  refine mkFn T.fun_Client_init S_Client_init (fun _ _ _ _ _ _ us hl => match us, hl with | [_, _], _ => rfl) ?_ fun cdv A outer s H E hr => ⟨_,
    (pss_cons (ps_fld (pv 0) (pv 1) rfl)
    (pss_cons (ps_fld (pv 0) pe_int rfl)
    (pss_cons (ps_fld (pv 0) (pe_tup pa_nil) rfl)
    (pss_one (ps_expr (pe_methH0 (pv 0) T.cls_Client T.me_Client_forget_copy (ok_Client_forget_copy T) (hr.mono (by decide)))))))), ?_⟩
  · rintro vs H Q ⟨x, dx, i, rfl, _⟩; rfl
  · rintro vs Q ⟨x, dx, i, rfl, hx, q⟩
    refine ⟨_, rfl, _, rfl, x, _, dx, _, rfl, hx, T.cls_Client, T.no_Client_client, (by show (0 : Nat) < 1000; decide), ?_⟩
    refine ⟨_, rfl, x, _, dx, _, rfl, upd_same, T.cls_Client, T.no_Client_number, (by show (1 : Nat) < 1000; decide), ?_⟩
    rw [upd_upd]
    refine ⟨Nat.zero_le _, fun pa hpa => ?_⟩
    have nxp : x ≠ pa := ne_of_none upd_same hpa
    rw [upd_ne nxp.symm] at hpa
    refine ⟨_, rfl, x, _, dx, _, rfl, (by rw [upd_ne nxp]; exact upd_same), T.cls_Client, T.no_Client_path, (by show (2 : Nat) < 1000; decide), ?_⟩
    refine ⟨_, rfl, x, dx, _, rfl, upd_same, rfl, x, dx, _, rfl, upd_same, (by show (3 : Nat) ≤ 20; decide), fun H' d hd hx' hd' ho => ?_⟩
    have hd0 := hd
    have nxd : d ≠ x := fun z => by rw [z, upd_same] at hd0; cases hd0
    rw [upd_ne nxd] at hd0
    have ndp : d ≠ pa := fun z => by rw [z, upd_same] at hd0; cases hd0
    rw [upd_ne ndp, upd_ne nxd] at hd0
    refine q H' d pa hd0 hpa ndp hx' hd' ?_ ?_
    · rw [ho pa nxp.symm ndp.symm, upd_ne nxp.symm, upd_same]
    · intro b o e n
      have nb : b ≠ x := fun z => by
        rcases n with n | n
        · exact n (by rw [z]; exact List.mem_singleton.mpr rfl)
        · rw [z, hx] at e; cases e; cases n
      rw [ho b nb (ne_of_none e hd0), upd_ne nb, upd_ne (ne_of_none e hpa), upd_ne nb]; exact e
/-- a letter that asks is sent -/
def pm_Client_ask_house (K : PySem.W.Frag) : Pm := fun vs H Q => ∃ W s, ∃ i : Nat, ∃ a c, vs = [.ref a, .ref W.net] ∧ WAt K H W s ∧ s.letters.length ≤ 100 ∧ W.cs[i]? = some a ∧ s.clients[i]? = some c ∧
  ∀ H', WAt K H' W (Ag07.askLetter s i c) → Kp W.mu H H' → Q .non H'
theorem WAt.client {H : Hp} {W : WAd} {s : Ag07.State} (A : WAt K H W s) {i : Nat} {a : Addr} {c : Ag07.Client} (ha : W.cs[i]? = some a) (hc : s.clients[i]? = some c) : ∃ d, W.es[i]? = some d ∧ ClientAt K H i a d c := by
  obtain ⟨h1, h2, h3, h4, h5⟩ := A.clis
  have hi : i < 3 := by have := (List.getElem?_eq_some_iff.mp ha).1; omega
  exact ⟨_, List.getElem?_eq_getElem (by omega), h5 i a _ c ha (List.getElem?_eq_getElem (by omega)) hc⟩
theorem ok_Client_ask_house (T : Tx K mg) : HasFn Prog w K mg base 4 (He.fAd K d_Client_ask_house.at_) p_Client_ask_house (pm_Client_ask_house K) := by
  refine mkFn T.fun_Client_ask_house S_Client_ask_house (fun _ _ _ _ _ _ us hl => match us, hl with | [_, _], _ => rfl) ?_ fun cdv A outer s H E hr => ⟨_,
    (pss_one (ps_expr (pe_methH (pv 1) T.cls_Net T.me_Net_send (ok_Net_send T) (hr.mono (by decide)) (pa_cons (pe_callH (ok_asking_letter T) (hr.mono (by decide)) (by rfl) T.glo_asking_letter (pa_cons (pe_fld (pv 0) rfl) (pa_cons (pe_fld (pv 0) rfl) (pa_cons (pe_fld (pv 0) rfl) (pa_cons (pe_fld (pv 0) rfl) pa_nil))))) pa_nil)))), ?_⟩
  · rintro vs H Q ⟨W, s, i, a, c, rfl, _⟩; rfl
  · rintro vs Q ⟨W, s, i, a, c, rfl, A, h100, ha, hc, q⟩
    obtain ⟨d, hd, dx, pa, kvs, hca, hpa, _⟩ := A.client ha hc
    obtain ⟨dxn, hn⟩ := A.neto
    refine ⟨_, rfl, W.net, dxn, _, rfl, hn, rfl, ?_⟩
    refine ⟨_, rfl, a, _, dx, _, _, rfl, hca, T.cls_Client, T.no_Client_client, rfl, ?_⟩
    refine ⟨_, rfl, a, _, dx, _, _, rfl, hca, T.cls_Client, T.no_Client_number, rfl, ?_⟩
    refine ⟨_, rfl, a, _, dx, _, _, rfl, hca, T.cls_Client, T.no_Client_path, rfl, ?_⟩
    refine ⟨_, rfl, a, _, dx, _, _, rfl, hca, T.cls_Client, T.no_Client_up_to, rfl, ?_⟩
    refine ⟨W.mu, i, c.num, pa, c.path, c.upto, rfl, hpa, A.mu_there, fun H2 l ⟨L2, hl2, k2⟩ => ?_⟩
    have A2 := A.keep k2
    obtain ⟨dxn2, hn2⟩ := A2.neto
    obtain ⟨lv, hlv, plv⟩ := A2.lets
    have hlvl := Paired.len plv
    refine ⟨W.net, dxn2, W.ll, _, lv, rfl, hn2, hlv, by omega, ?_⟩
    have p3 := A2.put_ll (Paired.takeP (Paired.app plv (.cons L2 .nil)) 100)
    exact q _ p3.1 ((k2.sub (by simp)).trans (p3.2.sub (by simp [WAd.mu])))
theorem nodup_set {pre es : List Addr} {i : Nat} {d2 : Addr} (h : (pre ++ es).Nodup) (n : d2 ∉ pre ++ es) : (pre ++ es.set i d2).Nodup := by
  rw [List.nodup_append] at h ⊢
  rw [List.mem_append, not_or] at n
  refine ⟨h.1, ?_, fun a ha b hb => ?_⟩
  · have h2 := h.2.1
    rw [List.nodup_iff_pairwise_ne, List.pairwise_iff_getElem] at h2 ⊢
    intro p q hp hq hpq
    rw [List.length_set] at hp hq
    rw [List.getElem_set, List.getElem_set]
    have n2 : ∀ j (hj : j < es.length), es[j] ≠ d2 := fun j hj e => n.2 (by rw [← e]; exact List.getElem_mem hj)
    split
    · split
      · omega
      · exact fun e => n2 q hq e.symm
    · split
      · exact n2 p hp
      · exact h2 p q hp hq hpq
  · rcases List.mem_or_eq_of_mem_set hb with hb | hb
    · exact h.2.2 a ha b hb
    · rw [hb]; intro e; exact n.1 (by rw [← e]; exact ha)
/-- a client's attributes and its copy's dict, changed; the dict may be a new one -/
theorem WAt.set_client {H H' : Hp} {W : WAd} {s : Ag07.State} {i : Nat} {a d d2 : Addr} {c' : Ag07.Client} (A : WAt K H W s) (ha : W.cs[i]? = some a) (hd : W.es[i]? = some d) (k : Kp [a, d] H H') (hd2 : d2 = d ∨ H d2 = none)
    (hc : ClientAt K H' i a d2 c') : WAt K H' { W with es := W.es.set i d2 } { s with clients := s.clients.set i c' } ∧ Ch W.mu ({ W with es := W.es.set i d2 } : WAd).mu H H' := by
  have nd := A.nds
  have nd7 := nd.2.2.2.2.2.2
  have hcn := A.clis
  have ma : a ∈ W.cs := List.mem_of_getElem? ha
  have md : d ∈ W.es := List.mem_of_getElem? hd
  have u : ∀ b ∈ [a, d], b ∈ W.mu := by
    intro b hb; simp at hb
    rcases hb with rfl | rfl
    · simp [WAd.mu, ma]
    · simp [WAd.mu, md]
  have ncs : W.cs.Nodup := ((List.nodup_append.mp ((List.nodup_append.mp nd7).2.1))).1
  have nes : W.es.Nodup := ((List.nodup_append.mp ((List.nodup_append.mp nd7).2.1))).2.1
  have dce : ∀ x ∈ W.cs, ∀ y ∈ W.es, x ≠ y := ((List.nodup_append.mp ((List.nodup_append.mp nd7).2.1))).2.2
  have dws : ∀ x ∈ W.ws, ∀ y ∈ W.cs ++ W.es, x ≠ y := (List.nodup_append.mp nd7).2.2
  have nw : ∀ b ∈ ({ W with es := W.es.set i d2 } : WAd).mu, b ∈ W.mu ∨ H b = none := by
    intro b hb
    simp only [WAd.mu, List.mem_cons, List.mem_append] at hb ⊢
    rcases hb with hb | hb | hb | hb | hb | hb | hb | hb | hb
    all_goals first
      | (left; grind)
      | skip
    rcases List.mem_or_eq_of_mem_set hb with hb | hb
    · left; grind
    · rcases hd2 with z | z
      · left; rw [hb, z]; grind
      · right; rw [hb]; exact z
  have g : ∀ b ∈ ({ W with es := W.es.set i d2 } : WAd).mu, b ∈ W.mu ∨ ∀ xs, H' b ≠ some (.lst xs) := by
    intro b hb
    simp only [WAd.mu, List.mem_cons, List.mem_append] at hb ⊢
    rcases hb with hb | hb | hb | hb | hb | hb | hb | hb | hb
    all_goals first
      | (left; grind)
      | skip
    rcases List.mem_or_eq_of_mem_set hb with hb | hb
    · left; grind
    · right
      obtain ⟨dx, pa, kvs, _, _, h3, _⟩ := hc
      intro xs e; rw [hb, h3] at e; cases e
  refine ⟨⟨?_, A.k_world k u, A.k_neto k u, ?_, A.k_house k ?_, k.at_ A.seen ?_, A.k_nodes k ?_, ?_, A.k_watch k ?_ ?_, ?_⟩, k.sub u, nw⟩
  · rcases hd2 with z | z
    · have e : W.es.set i d2 = W.es := by
        rw [z]
        apply List.ext_getElem?
        intro j
        rw [List.getElem?_set]
        split
        · rename_i e; subst e; split
          · rw [hd]
          · rename_i h; rw [List.getElem?_eq_none (by omega)] at hd; cases hd
        · rfl
      show (WAd.all { W with es := W.es.set i d2 }).Nodup
      rw [e]; exact A.nd
    · have nall : d2 ∉ W.all := fun y => A.all_there d2 y z
      have e : ∀ es, ({ W with es := es } : WAd).all = (W.wd :: W.net :: W.cl :: W.hs :: W.ll :: W.ds :: W.dn :: W.lt :: W.lw :: (W.ws ++ W.cs)) ++ es := fun es => by simp [WAd.all, WAd.mu]
      have h := A.nd
      rw [show W.all = ({ W with es := W.es } : WAd).all from rfl, e] at h nall
      rw [e]; exact nodup_set h nall
  · obtain ⟨vs, e1, e2⟩ := A.k_lets k u (by simp; grind)
    exact ⟨vs, e1, Paired.imp e2 fun _ _ h => h.grow2 g⟩
  · simp; grind
  · simp; grind
  · simp; grind
  · obtain ⟨vs, e1, e2⟩ := A.k_turns k u (by simp; grind)
    exact ⟨vs, e1, Paired.imp e2 fun _ _ h => h.grow2 g⟩
  · show W.lw ∉ [a, d]; simp; grind
  · show ∀ x ∈ W.ws, x ∉ [a, d]; intro x hx; simp; grind
  · obtain ⟨h1, h2, h3, h4, h5⟩ := A.clis
    refine ⟨k.at_ h1 fun z => A.out.2.2 (u _ z), h2, by simp [h3], by simp [h4], fun j a' d' c1 e1 e2 e3 => ?_⟩
    rw [List.getElem?_set] at e2 e3
    by_cases z : i = j
    · subst z
      have : i < 3 := by have := (List.getElem?_eq_some_iff.mp ha).1; omega
      rw [if_pos rfl, if_pos (by omega)] at e2 e3
      cases e2; cases e3
      have e1 : W.cs[i]? = some a' := e1
      rw [ha] at e1; cases e1
      exact hc
    · rw [if_neg z] at e2 e3
      have e1 : W.cs[j]? = some a' := e1
      refine (h5 j a' d' c1 e1 e2 e3).keep k ?_ ?_
      · simp only [List.mem_cons, List.not_mem_nil, or_false, not_or]
        refine ⟨fun y => ?_, dce a' (List.mem_of_getElem? e1) d md⟩
        rw [y] at e1
        obtain ⟨p1, p2⟩ := List.getElem?_eq_some_iff.mp ha
        obtain ⟨p3, p4⟩ := List.getElem?_eq_some_iff.mp e1
        exact z ((List.getElem_inj ncs).mp (p2.trans p4.symm))
      · simp only [List.mem_cons, List.not_mem_nil, or_false, not_or]
        refine ⟨(dce a ma d' (List.mem_of_getElem? e2)).symm, fun y => ?_⟩
        rw [y] at e2
        obtain ⟨p1, p2⟩ := List.getElem?_eq_some_iff.mp hd
        obtain ⟨p3, p4⟩ := List.getElem?_eq_some_iff.mp e2
        exact z ((List.getElem_inj nes).mp (p2.trans p4.symm))
/-- a client's next watch -/
def nextWatch (c : Ag07.Client) (p : List Nat) : Ag07.Client := ⟨c.num + 1, p, none, 0, [], 0, 0⟩
def pm_Client_start_watch (K : PySem.W.Frag) : Pm := fun vs H Q => ∃ W s, ∃ i : Nat, ∃ a c pa, ∃ p : List Nat, vs = [.ref a, .ref pa, .ref W.net] ∧ WAt K H W s ∧ s.letters.length ≤ 100 ∧ W.cs[i]? = some a ∧ s.clients[i]? = some c ∧ H pa = some (.tup (pvs p)) ∧
  ∀ H' d2, WAt K H' { W with es := W.es.set i d2 } (Ag07.askLetter { s with clients := s.clients.set i (nextWatch c p) } i (nextWatch c p)) → Ch W.mu ({ W with es := W.es.set i d2 } : WAd).mu H H' → Q .non H'
theorem ok_Client_start_watch (T : Tx K mg) : HasFn Prog w K mg base 5 (He.fAd K d_Client_start_watch.at_) p_Client_start_watch (pm_Client_start_watch K) := by
  refine mkFn T.fun_Client_start_watch S_Client_start_watch (fun _ _ _ _ _ _ us hl => match us, hl with | [_, _, _], _ => rfl) ?_ fun cdv A outer s H E hr => ⟨_,
    (pss_cons (ps_fldaug (pv 0) pe_int in_add)
    (pss_cons (ps_fld (pv 0) (pv 1) rfl)
    (pss_cons (ps_expr (pe_methH0 (pv 0) T.cls_Client T.me_Client_forget_copy (ok_Client_forget_copy T) (hr.mono (by decide))))
    (pss_one (ps_expr (pe_methH (pv 0) T.cls_Client T.me_Client_ask_house (ok_Client_ask_house T) (hr.mono (by decide)) (pa_cons (pv 2) pa_nil))))))), ?_⟩
  · rintro vs H Q ⟨W, s, i, a, c, pa, p, rfl, _⟩; rfl
  · rintro vs Q ⟨W, s, i, a, c, pa, p, rfl, A, h100, ha, hc, hpa, q⟩
    obtain ⟨d, hd, dx, pa0, kvs, hca, hpa0, hdd, hperm⟩ := A.client ha hc
    refine ⟨_, rfl, a, _, dx, _, _, rfl, hca, T.cls_Client, T.no_Client_number, rfl, _, _, rfl, rfl, dx, _, hca, (by show (8 : Nat) < 1000; decide), ?_⟩
    refine ⟨_, rfl, _, rfl, a, _, dx, _, rfl, upd_same, T.cls_Client, T.no_Client_path, (by show (8 : Nat) < 1000; decide), ?_⟩
    rw [upd_upd]
    refine ⟨_, rfl, a, dx, _, rfl, upd_same, rfl, a, dx, _, rfl, upd_same, (by show (8 : Nat) ≤ 20; decide), fun H' d2 hd2 hx' hd' ho => ?_⟩
    have nd2 : d2 ≠ a := fun z => by rw [z, upd_same] at hd2; cases hd2
    rw [upd_ne nd2] at hd2
    have npa : pa ≠ a := fun z => by rw [z, hca] at hpa; cases hpa
    have npd : pa ≠ d2 := ne_of_none hpa hd2
    have k : Kp [a, d] H H' := by
      intro b o e n
      have nb : b ≠ a := fun z => by
        rcases n with n | n
        · exact n (by rw [z]; simp)
        · rw [z, hca] at e; cases e; cases n
      rw [ho b nb (ne_of_none e hd2), upd_ne nb]; exact e
    have hcl : ClientAt K H' i a d2 (nextWatch c p) := by
      refine ⟨dx, pa, [], hx', ?_, hd', List.Perm.refl _⟩
      rw [ho pa npa npd, upd_ne npa]; exact hpa
    have p1 := A.set_client ha hd k (.inr hd2) hcl
    obtain ⟨dxa, _, _, hxa, _⟩ := id hcl
    refine ⟨_, rfl, a, dxa, _, rfl, hxa, rfl, _, rfl, { W with es := W.es.set i d2 }, _, i, a, nextWatch c p, rfl, p1.1, h100, ha, ?_, fun H2 A2 k2 => ?_⟩
    · show (s.clients.set i (nextWatch c p))[i]? = _
      have := (List.getElem?_eq_some_iff.mp hc).1
      rw [List.getElem?_set_self this]
    · exact q H2 d2 A2 (p1.2.trans (Ch.of k2))
end
end Wt

set_option Elab.async false
set_option linter.all false
set_option maxRecDepth 100000
set_option maxHeartbeats 4000000
namespace Wt
open PySem PySem.Spec PyProof.Rows L2
theorem few3 : ∀ {l : List Nat}, l.Nodup → (∀ x ∈ l, x < 3) → l.length ≤ 3
  | [], _, _ => by simp
  | [_], _, _ => by simp
  | [_, _], _, _ => by simp
  | [_, _, _], _, _ => by simp
  | a :: b :: c :: d :: r, h, h3 => by
    exfalso
    simp only [List.nodup_cons, List.mem_cons, not_or] at h
    have := h3 a (by simp)
    have := h3 b (by simp)
    have := h3 c (by simp)
    have := h3 d (by simp)
    omega
theorem More.few {b : Nat} {s : Ag07.State} (h : More b s) : s.watchers.length ≤ 3 := by
  have := few3 h.wnd (fun x hx => by obtain ⟨w, hw, rfl⟩ := List.mem_map.mp hx; exact (h.wat w hw).1)
  rwa [List.length_map] at this
section
variable {w : World} {K : PySem.W.Frag} {mg : Str → Option Value} {base : Heap}
/-- the house has another list of watchers -/
theorem WAt.set_lw {H H1 : Hp} {W : WAd} {s : Ag07.State} {l2 dx : Addr} {ws2 : List Addr} {wl : List Ag07.Watcher} (A : WAt K H W s) (k : Kp [] H H1) (hn : H l2 = none) (hl2 : H1 l2 = some (.lst (ws2.map V.ref))) (hp : Paired (WatcherAt K H1) ws2 wl)
    (nd2 : ws2.Nodup) (nl2 : l2 ∉ ws2) (hws : ∀ a ∈ ws2, a ∈ W.ws ∨ (a ∉ W.all ∧ ∀ xs, H a ≠ some (.lst xs))) (hh : ∃ fs, H1 W.hs = some (.ins (C_House K) dx (HoF.fs fs))) :
    WAt K (upd H1 W.hs (.ins (C_House K) dx (HoF.fs ⟨.int (s.life : Nat), .ref W.net, .int (s.time : Nat), .int (s.opened : Nat), .ref W.ds, .ref W.dn, .ref W.lt, .int (s.base : Nat), .ref l2⟩))) { W with lw := l2, ws := ws2 } { s with watchers := wl } ∧
    Kp [W.hs] H (upd H1 W.hs (.ins (C_House K) dx (HoF.fs ⟨.int (s.life : Nat), .ref W.net, .int (s.time : Nat), .int (s.opened : Nat), .ref W.ds, .ref W.dn, .ref W.lt, .int (s.base : Nat), .ref l2⟩))) := by
  obtain ⟨fs, h0⟩ := hh
  have k1 : Kp [W.hs] H1 (upd H1 W.hs (.ins (C_House K) dx (HoF.fs ⟨.int (s.life : Nat), .ref W.net, .int (s.time : Nat), .int (s.opened : Nat), .ref W.ds, .ref W.dn, .ref W.lt, .int (s.base : Nat), .ref l2⟩))) := (Kp.refl _ _).put (by simp) h0
  have kk : Kp [W.hs] H (upd H1 W.hs (.ins (C_House K) dx (HoF.fs ⟨.int (s.life : Nat), .ref W.net, .int (s.time : Nat), .int (s.opened : Nat), .ref W.ds, .ref W.dn, .ref W.lt, .int (s.base : Nat), .ref l2⟩))) := (k.sub (by simp)).trans k1
  have u : ∀ a ∈ [W.hs], a ∈ W.mu := by simp [WAd.mu]
  have nd := A.nds
  have l2all : l2 ∉ W.all := fun z => A.all_there l2 z hn
  have g : ∀ a ∈ ({ W with lw := l2, ws := ws2 } : WAd).mu, a ∈ W.mu ∨ ∀ xs, H a ≠ some (.lst xs) := by
    intro a ha
    simp only [WAd.mu, List.mem_cons, List.mem_append] at ha ⊢
    rcases ha with ha | ha | ha | ha | ha | ha | ha | ha | ha
    · left; grind
    · left; grind
    · left; grind
    · left; grind
    · left; grind
    · right; intro xs e; rw [ha, hn] at e; cases e
    · rcases hws a ha with q | q
      · left; grind
      · right; exact q.2
    · left; grind
    · left; grind
  have nhs : l2 ≠ W.hs := by simp only [WAd.all, WAd.mu, List.mem_cons, not_or] at l2all; grind
  have wsn : ∀ a ∈ ws2, a ∉ [W.hs] := by
    intro a ha
    rcases hws a ha with q | q
    · have := nd.1; simp only [List.mem_cons, List.mem_append, not_or] at this; grind
    · have := q.1; simp only [WAd.all, WAd.mu, List.mem_cons, not_or] at this; grind
  refine ⟨⟨?_, A.k_world kk u, A.k_neto kk u, ?_, ⟨dx, upd_same⟩, kk.at_ A.seen ?_, A.k_nodes kk ?_, ?_, ⟨k1.at_ hl2 (by simpa using nhs), WAt.pw_keep k1 hp wsn⟩, A.k_clis kk u ?_ ?_⟩, kk⟩
  · have h := A.nd
    have d7 := nd.2.2.2.2.2.2
    have dws : ∀ x ∈ W.ws, ∀ y ∈ W.cs ++ W.es, x ≠ y := (List.nodup_append.mp d7).2.2
    have dce : (W.cs ++ W.es).Nodup := (List.nodup_append.mp d7).2.1
    have e7 : (ws2 ++ (W.cs ++ W.es)).Nodup := by
      rw [List.nodup_append]
      refine ⟨nd2, dce, fun a ha b hb => ?_⟩
      rcases hws a ha with q | q
      · exact dws a q b hb
      · intro e; apply q.1; rw [e]; simp only [WAd.all, WAd.mu, List.mem_cons, List.mem_append]; grind
    have out2 : ∀ y, y ∈ W.all → y ∉ W.ws → y ∉ ws2 := by
      intro y hy hn z
      rcases hws y z with q | q
      · exact hn q
      · exact q.1 hy
    have a1 := out2 W.wd (by simp [WAd.all])
    have a2 := out2 W.net (by simp [WAd.all])
    have a3 := out2 W.cl (by simp [WAd.all])
    have a4 := out2 W.hs (by simp [WAd.all, WAd.mu])
    have a5 := out2 W.ll (by simp [WAd.all, WAd.mu])
    have a6 := out2 W.ds (by simp [WAd.all, WAd.mu])
    have a7 := out2 W.dn (by simp [WAd.all, WAd.mu])
    have a8 := out2 W.lt (by simp [WAd.all, WAd.mu])
    simp only [WAd.all, WAd.mu, List.nodup_cons, List.mem_cons, List.mem_append, not_or] at h l2all ⊢
    grind
  · obtain ⟨vs, h1, h2⟩ := A.lets
    refine ⟨vs, kk.at_ h1 (by grind), Paired.imp h2 fun _ _ h => (h.grow2 g).keep kk ?_⟩
    intro a ha; simp only [List.mem_singleton] at ha; rw [ha]; simp [WAd.mu]
  · grind
  · grind
  · obtain ⟨vs, h1, h2⟩ := A.turns
    refine ⟨vs, kk.at_ h1 (by grind), Paired.imp h2 fun _ _ h => (h.grow2 g).keep kk ?_⟩
    intro a ha; simp only [List.mem_singleton] at ha; rw [ha]; simp [WAd.mu]
  · grind
  · grind
def pm_House_has_later_watcher (K : PySem.W.Frag) : Pm := fun vs H Q => ∃ W s, ∃ c n : Nat, vs = [.ref W.hs, .int c, .int n] ∧ WAt K H W s ∧ s.watchers.length ≤ 1000 ∧
  ∀ H', Kp [] H H' → Q (.bl (s.watchers.any fun x => x.client == c && decide (n < x.num))) H'
theorem ok_House_has_later_watcher (T : Tx K mg) : HasFn Prog w K mg base 1 (He.fAd K d_House_has_later_watcher.at_) p_House_has_later_watcher (pm_House_has_later_watcher K) := by
  refine mkFn T.fun_House_has_later_watcher S_House_has_later_watcher (fun _ _ _ _ _ _ us hl => match us, hl with | [_, _, _], _ => rfl) ?_ fun cdv A outer s H E hr => ⟨_,
    (pss_one (ps_ret (pe_callB (cr_any rfl) (by rfl) T.free_any (by decide +kernel) (pa_cons (pe_lc (own := [("watcher", 3)]) (g := gName 3) (tt := tYes) (te := (tAndV (tOp rEq (tFld K (tVar 3) "client") (tVar 1)) (tOp (rI0 fun i j => .bl (decide (j < i))) (tFld K (tVar 3) "number") (tVar 2)))) rfl S_House_has_later_watcher.nd (pi_list (pe_fld (pv 0) rfl)) (blkOk_by (own := [("watcher", 3)]) (N := n_House_has_later_watcher) (sc := sc_House_has_later_watcher) (by decide +kernel)) (fun _ _ _ _ _ => pg_name (i := 3) S_House_has_later_watcher.nd rfl (Or.inl rfl)) (fun _ _ _ _ _ => pts_nil) (fun _ _ _ _ _ => (pe_and (pe_cmpR op_eq (pe_fld (pv 3) rfl) (pv 1) (nomark _)) (pe_one (pe_cmpR op_gt (pe_fld (pv 3) rfl) (pv 2) (nomark _)))))) pa_nil)))), ?_⟩
  · rintro vs H Q ⟨W, s, c, n, rfl, _⟩; rfl
  · rintro vs Q ⟨W, s, c, n, rfl, A, hl, q⟩
    obtain ⟨dxh, hh⟩ := A.house
    obtain ⟨hw1, hw2⟩ := A.watch
    refine ⟨_, rfl, W.hs, _, dxh, _, _, rfl, hh, T.cls_House, T.no_House_watchers, rfl, W.lw, rfl, ⟨_, SqL.of hw1⟩, fun D hD => lc_list (K := K) (a := W.lw) (xs := W.ws.map V.ref) (fun i H' => Kp [] H H' ∧ H' D = some (.lst ((s.watchers.take i).map fun x => V.bl (x.client == c && decide (n < x.num))))) ⟨(Kp.refl _ _).new hD, upd_same⟩ (fun i H' _ h => SqL.of (h.1.at_ hw1 (by simp))) ?_ ?_⟩
    · rintro i y H' hy ⟨k, hd⟩
      obtain ⟨a, ha, rfl⟩ := map_get hy
      obtain ⟨x, hx, dxw, pa, hwa, hpa⟩ := Paired.get hw2 ha
      have hwa := k.at_ hwa (by simp)
      refine ⟨rfl, tYes_if ?_⟩
      have fin : ∀ b, b = (x.client == c && decide (n < x.num)) → ∃ acc, H' D = some (.lst acc) ∧ acc.length < sizeLine ∧ Kp [] H (upd H' D (.lst (acc ++ [V.bl b]))) ∧ upd H' D (.lst (acc ++ [V.bl b])) D = some (.lst ((s.watchers.take (i + 1)).map fun x => V.bl (x.client == c && decide (n < x.num)))) := by
        intro b e
        refine ⟨_, hd, ?_, k.own hD, ?_⟩
        · rw [List.length_map, List.length_take]; exact sizeLine_big (by omega)
        · rw [upd_same, take_snoc hx, List.map_append, e]; rfl
      refine ⟨_, rfl, a, _, dxw, _, _, rfl, hwa, T.cls_Watcher, T.no_Watcher_client, rfl, _, rfl, rfl, _, rfl, ite2 (fun h => ?_) (fun h => ?_)⟩
      · have e1 : x.client = c := eqV'.mp h
        refine ⟨_, rfl, a, _, dxw, _, _, rfl, hwa, T.cls_Watcher, T.no_Watcher_number, rfl, _, rfl, _, _, rfl, rfl, fin _ ?_⟩
        rw [e1, beq_self_eq_true, Bool.true_and]
        exact decide_eq_decide.mpr (by omega)
      · have e1 : ¬ x.client = c := fun z => h (eqV'.mpr z)
        refine fin _ ?_
        have : (x.client == c) = false := by simp [e1]
        rw [this]; rfl
    · rintro H' ⟨k, hd⟩
      have e0 : s.watchers.take (W.ws.map V.ref).length = s.watchers := List.take_of_length_le (by rw [List.length_map, Paired.len hw2]; exact Nat.le_refl _)
      rw [e0] at hd
      refine ⟨D, s.watchers.map fun x => (x.client == c && decide (n < x.num)), rfl, SqL.of (by rw [hd, List.map_map]; rfl), ?_⟩
      rw [List.any_map]
      exact q H' k
/-- whether the house can tell what happened behind a turn -/
def canTell (s : Ag07.State) : Option Nat → Bool
  | none => false
  | some t => decide (s.base ≤ t ∧ t ≤ Ag07.turn s)
def pm_House_can_tell_from (K : PySem.W.Frag) : Pm := fun vs H Q => ∃ W s, ∃ r : Option Nat, vs = [.ref W.hs, optV r] ∧ WAt K H W s ∧ Q (.bl (canTell s r)) H
theorem ok_House_can_tell_from (T : Tx K mg) : HasFn Prog w K mg base 2 (He.fAd K d_House_can_tell_from.at_) p_House_can_tell_from (pm_House_can_tell_from K) := by
  refine mkFn T.fun_House_can_tell_from S_House_can_tell_from (fun _ _ _ _ _ _ us hl => match us, hl with | [_, _], _ => rfl) ?_ fun cdv A outer s H E hr => ⟨_,
    (pss_one (ps_ret (pe_and (pe_cmpR op_notN (pv 1) pe_non (nomark _)) (pe_one (pe_chain op_le op_le (pe_fld (pv 0) rfl) (pv 1) (pe_methH0 (pv 0) T.cls_House T.me_House_last_turn (ok_House_last_turn T) (hr.mono (by decide)))))))), ?_⟩
  · rintro vs H Q ⟨W, s, r, rfl, _⟩; rfl
  · rintro vs Q ⟨W, s, r, rfl, A, q⟩
    obtain ⟨dxh, hh⟩ := A.house
    cases r with
    | none => exact ⟨_, rfl, rfl, _, rfl, iteF q⟩
    | some t =>
      refine ⟨_, rfl, rfl, _, rfl, iteT ?_⟩
      refine ⟨_, rfl, W.hs, _, dxh, _, _, rfl, hh, T.cls_House, T.no_House_base, rfl, _, rfl, _, _, rfl, rfl, _, rfl, ite2 (fun h => ?_) (fun h => ?_)⟩
      · have h1 : s.base ≤ t := by have := of_decide_eq_true h; omega
        refine ⟨_, rfl, W.hs, dxh, _, rfl, hh, rfl, W, s, rfl, A, _, _, rfl, rfl, ?_⟩
        have e : decide ((t : Int) ≤ (Ag07.turn s : Int)) = decide (s.base ≤ t ∧ t ≤ Ag07.turn s) := decide_eq_decide.mpr (by omega)
        show Q (.bl (decide ((t : Int) ≤ (Ag07.turn s : Int)))) H
        rw [e]; exact q
      · have h1 : ¬ s.base ≤ t := fun z => h (decide_eq_true (by omega))
        have e : canTell s (some t) = false := decide_eq_false (fun z => h1 z.1)
        rw [e] at q; exact q
/-- a watcher that no list has is the last one; others of its client go -/
def pm_House_put_last (K : PySem.W.Frag) : Pm := fun vs H Q => ∃ W s, ∃ (a dx pa : Addr) (x : Ag07.Watcher), vs = [.ref W.hs, .ref a] ∧ WAt K H W s ∧ H a = some (.ins (C_Watcher K) dx (wFs pa x)) ∧ H pa = some (.tup (pvs x.path)) ∧ a ∉ W.all ∧ s.watchers.length ≤ 1000 ∧
  ∀ H' l2 ws2, H l2 = none → (∀ b ∈ ws2, b ∈ W.ws ∨ b = a) → WAt K H' { W with lw := l2, ws := ws2 } { s with watchers := (s.watchers.filter fun (y : Ag07.Watcher) => y.client != x.client) ++ [x] } → Kp [W.hs] H H' → Q .non H'
theorem ok_House_put_last (T : Tx K mg) : HasFn Prog w K mg base 1 (He.fAd K d_House_put_last.at_) p_House_put_last (pm_House_put_last K) := by
  refine mkFn T.fun_House_put_last S_House_put_last (fun _ _ _ _ _ _ us hl => match us, hl with | [_, _], _ => rfl) ?_ fun cdv A outer s H E hr => ⟨_,
    (pss_cons (ps_setLc (i := 2) (own := [("other", 3)]) (g := gName 3) (tt := (tTest (tOp rNe (tFld K (tVar 3) "client") (tFld K (tVar 1) "client")))) (te := (tVar 3)) rfl S_House_put_last.nd rfl rfl (sw_true rfl rfl rfl (by decide +kernel)) (pi_list (pe_fld (pv 0) rfl)) (blkOk_by (own := [("other", 3)]) (N := n_House_put_last) (sc := sc_House_put_last) (by decide +kernel)) (fun _ _ _ _ _ => pg_name (i := 3) S_House_put_last.nd rfl (Or.inl rfl)) (fun _ _ _ _ _ => (pts_one (pt_cmpR op_ne (pe_fld (pv 3) rfl) (pe_fld (pv 1) rfl) (nomark _)))) (fun _ _ _ _ _ => (pv 3)))
    (pss_one (ps_fld (pv 0) (pe_op op_cat (pv 2) (pe_lst (pa_cons (pv 1) pa_nil))) rfl))), ?_⟩
  · rintro vs H Q ⟨W, s, a, dx, pa, x, rfl, _⟩; rfl
  · rintro vs Q ⟨W, s, a, dx, pa, x, rfl, A, hwa, hpa, na, hl, q⟩
    obtain ⟨dxh, hh⟩ := A.house
    obtain ⟨hw1, hw2⟩ := A.watch
    refine ⟨_, rfl, W.hs, _, dxh, _, _, rfl, hh, T.cls_House, T.no_House_watchers, rfl, W.lw, rfl, ⟨_, SqL.of hw1⟩, fun D hD => lc_list (K := K) (a := W.lw) (xs := W.ws.map V.ref) (fun i H' => Kp [] H H' ∧ ∃ acc : List Addr, H' D = some (.lst (acc.map V.ref)) ∧ acc.Sublist (W.ws.take i) ∧
      Paired (WatcherAt K H) acc ((s.watchers.take i).filter fun (y : Ag07.Watcher) => y.client != x.client)) ⟨(Kp.refl _ _).new hD, [], upd_same, List.nil_sublist _, .nil⟩ (fun i H' _ h => SqL.of (h.1.at_ hw1 (by simp))) ?_ ?_⟩
    · rintro i y H' hy ⟨k, acc, hd, hsub, pacc⟩
      obtain ⟨b, hb, rfl⟩ := map_get hy
      obtain ⟨y, hyi, yat⟩ := Paired.get hw2 hb
      obtain ⟨dxw, pb, hwb, hpb⟩ := id yat
      refine ⟨rfl, ?_⟩
      refine ⟨_, rfl, b, _, dxw, _, _, rfl, k.at_ hwb (by simp), T.cls_Watcher, T.no_Watcher_client, rfl, _, rfl, a, _, dx, _, _, rfl, k.at_ hwa (by simp), T.cls_Watcher, T.no_Watcher_client, rfl, rfl, _, rfl, ?_⟩
      have et : (s.watchers.take (i + 1)).filter (fun (y : Ag07.Watcher) => y.client != x.client) = if y.client = x.client then (s.watchers.take i).filter (fun (y : Ag07.Watcher) => y.client != x.client) else (s.watchers.take i).filter (fun (y : Ag07.Watcher) => y.client != x.client) ++ [y] := by
        rw [take_snoc hyi, List.filter_append, List.filter_cons]
        by_cases z : y.client = x.client <;> simp [z]
      refine ite2 (fun h => ?_) (fun h => ?_)
      · have e1 : ¬ y.client = x.client := neV.mp h
        refine ⟨_, rfl, _, hd, ?_, k.own hD, acc ++ [b], ?_, ?_, ?_⟩
        · rw [List.length_map]
          have := hsub.length_le
          rw [List.length_take] at this
          have := Paired.len hw2
          exact sizeLine_big (by omega)
        · rw [upd_same, List.map_append]; rfl
        · rw [take_snoc hb]; exact hsub.append (List.Sublist.refl _)
        · rw [et, if_neg e1]; exact Paired.app pacc (.cons yat .nil)
      · have e1 : y.client = x.client := by
          by_cases z : y.client = x.client
          · exact z
          · exact absurd (neV.mpr z) h
        refine ⟨k, acc, hd, hsub.trans (List.take_sublist_take_left (Nat.le_succ _)), ?_⟩
        rw [et, if_pos e1]; exact pacc
    · rintro H1 ⟨k1, acc, hd, hsub, pacc⟩
      have e0 : s.watchers.take (W.ws.map V.ref).length = s.watchers := List.take_of_length_le (by rw [List.length_map, Paired.len hw2]; exact Nat.le_refl _)
      have e1 : W.ws.take (W.ws.map V.ref).length = W.ws := List.take_of_length_le (by rw [List.length_map]; exact Nat.le_refl _)
      rw [e0] at pacc
      rw [e1] at hsub
      refine ⟨_, rfl, _, rfl, (by show (1 : Nat) ≤ sizeLine; decide), fun L hL => ?_⟩
      have k2 : Kp [] H1 (upd H1 L (.lst [.ref a])) := (Kp.refl _ _).new hL
      have hL2 : upd H1 L (.lst [.ref a]) L = some (.lst [.ref a]) := upd_same
      have hD2 := k2.at_ hd (by simp)
      generalize upd H1 L (.lst [.ref a]) = H2 at k2 hL2 hD2
      have hlen : acc.length ≤ 1000 := by
        have := hsub.length_le
        have := Paired.len hw2
        omega
      refine ⟨D, L, _, _, rfl, rfl, hD2, hL2, ?_, fun P hP => ?_⟩
      · rw [List.length_map]; exact Nat.le_of_lt (sizeLine_big (by show acc.length + 1 ≤ _; omega))
      have k3 : Kp [] H2 (upd H2 P (.lst (acc.map V.ref ++ [.ref a]))) := (Kp.refl _ _).new hP
      have hP3 : upd H2 P (.lst (acc.map V.ref ++ [.ref a])) P = some (.lst ((acc ++ [a]).map V.ref)) := by rw [upd_same, List.map_append]; rfl
      generalize upd H2 P (.lst (acc.map V.ref ++ [.ref a])) = H3 at k3 hP3
      have k13 : Kp [] H H3 := (k1.trans k2).trans k3
      have hPH : H P = none := (k1.trans k2).free (by simp) hP
      have hh3 := k13.at_ hh (by simp)
      refine ⟨_, rfl, W.hs, _, dxh, _, rfl, hh3, T.cls_House, T.no_House_watchers, (by show (9 : Nat) < 1000; decide), ?_⟩
      have there : ∀ b ∈ acc ++ [a], H b ≠ none := by
        intro b hb
        rcases List.mem_append.mp hb with hb | hb
        · exact A.mu_there b (by simp [WAd.mu, hsub.subset hb])
        · rw [List.mem_singleton.mp hb, hwa]; simp
      have p4 := A.set_lw (l2 := P) (dx := dxh) (ws2 := acc ++ [a]) (wl := (s.watchers.filter fun (y : Ag07.Watcher) => y.client != x.client) ++ [x]) k13 hPH hP3
        (Paired.app (Paired.imp pacc fun _ _ h => h.keep k13 (by simp)) (.cons ⟨dx, pa, k13.at_ hwa (by simp), k13.tup hpa⟩ .nil)) ?_ (fun z => there P z hPH) ?_ ⟨_, hh3⟩
      · exact q _ P (acc ++ [a]) hPH (fun b hb => by
          rcases List.mem_append.mp hb with hb | hb
          · exact .inl (hsub.subset hb)
          · exact .inr (List.mem_singleton.mp hb)) p4.1 p4.2
      · have nw : W.ws.Nodup := (List.nodup_append.mp A.nds.2.2.2.2.2.2).1
        rw [List.nodup_append]
        refine ⟨nw.sublist hsub, by simp, fun b hb c hc e => ?_⟩
        rw [List.mem_singleton.mp hc] at e
        apply na
        rw [← e]
        simp [WAd.all, WAd.mu, hsub.subset hb]
      · intro b hb
        rcases List.mem_append.mp hb with hb | hb
        · exact .inl (hsub.subset hb)
        · rw [List.mem_singleton.mp hb]
          exact .inr ⟨na, fun xs e => by rw [hwa] at e; cases e⟩
theorem log_get {s : Ag07.State} {i : Nat} (h : i < s.log.length) : s.log[i]? = some (s.log.getD i []) := by
  rw [List.getD_eq_getElem?_getD, List.getElem?_eq_getElem h]; rfl
def pm_House_tell_from (K : PySem.W.Frag) : Pm := fun vs H Q => ∃ W s, ∃ (l : Addr) (x : Ag07.Letter) (r : Nat), vs = [.ref W.hs, .ref l] ∧ WAt K H W s ∧ LetterAt K W.mu H (.ref l) x ∧ x.after = some r ∧ r ≤ Ag07.turn s ∧ (∀ e ∈ s.log, e.length ≤ 1000) ∧ s.log.length ≤ 100000 ∧ s.letters.length ≤ 100 ∧ s.watchers.length ≤ 1000 ∧
  ∀ H' W', W'.wd = W.wd → WAt K H' W' (Ag07.catchUp s (Ag07.turn s) ⟨x.client, x.num, x.path, r⟩) → Ch W.mu W'.mu H H' → Q .non H'
theorem ok_House_tell_from (T : Tx K mg) : HasFn Prog w K mg base 5 (He.fAd K d_House_tell_from.at_) p_House_tell_from (pm_House_tell_from K) := by
  refine mkFn T.fun_House_tell_from S_House_tell_from (fun _ _ _ _ _ _ us hl => match us, hl with | [_, _], _ => rfl) ?_ fun cdv A outer s H E hr => ⟨_,
    (pss_cons (ps_set (i := 2) S_House_tell_from.nd rfl (Or.inl rfl) (pe_makeH T.mkr_Watcher (ok_Watcher_init T) (hr.mono (by decide)) (by rfl) T.glo_Watcher (pa_cons (pe_fld (pv 1) rfl) (pa_cons (pe_fld (pv 1) rfl) (pa_cons (pe_fld (pv 1) rfl) (pa_cons (pe_fld (pv 1) rfl) pa_nil))))))
    (pss_cons (ps_for PassesOwn.never rfl (pi_range2 (by rfl) T.free_range (pa_cons (pe_op op_add (pe_fld (pv 1) rfl) pe_int) (pa_cons (pe_op op_add (pe_methH0 (pv 0) T.cls_House T.me_House_last_turn (ok_House_last_turn T) (hr.mono (by decide))) pe_int) pa_nil))) (pg_name (i := 3) S_House_tell_from.nd rfl (Or.inl rfl)) (pss_one (ps_expr (pe_methH (pv 0) T.cls_House T.me_House_tell_watcher (ok_House_tell_watcher T) (hr.mono (by decide)) (pa_cons (pv 2) (pa_cons (pv 3) pa_nil))))))
    (pss_one (ps_expr (pe_methH (pv 0) T.cls_House T.me_House_put_last (ok_House_put_last T) (hr.mono (by decide)) (pa_cons (pv 2) pa_nil)))))), ?_⟩
  · rintro vs H Q ⟨W, s, l, x, r, rfl, _⟩; rfl
  · rintro vs Q ⟨W, s, l, x, r, rfl, A, hx, haf, hr, hev, hlog, h100, hwl, q⟩
    obtain ⟨l', dxl, pa, ev, en, e, hla, hpa, _⟩ := id hx
    cases e
    rw [haf] at hla
    refine ⟨_, rfl, l, _, dxl, _, _, rfl, hla, T.cls_Letter, T.no_Letter_client, rfl, _, rfl, l, _, dxl, _, _, rfl, hla, T.cls_Letter, T.no_Letter_number, rfl, _, rfl, l, _, dxl, _, _, rfl, hla, T.cls_Letter, T.no_Letter_path, rfl, _, rfl, l, _, dxl, _, _, rfl, hla, T.cls_Letter, T.no_Letter_behind, rfl, fun a da ha hda had => ?_⟩
    refine ⟨a, da, _, _, _, _, rfl, upd_same, rfl, ?_⟩
    have k1 : Kp [] H (upd (upd (upd H da (.own a)) a (.ins (C_Watcher K) da [])) a (.ins (C_Watcher K) da (F_Watcher (.int (x.client : Nat)) (.int (x.num : Nat)) (.ref pa) (.int (r : Nat))))) := made_kp (H1 := H) ha hda (Kp.refl _ _ |>.put (by simp) upd_same)
    have ha1 : upd (upd (upd H da (.own a)) a (.ins (C_Watcher K) da [])) a (.ins (C_Watcher K) da (F_Watcher (.int (x.client : Nat)) (.int (x.num : Nat)) (.ref pa) (.int (r : Nat)))) a = some (.ins (C_Watcher K) da (wFs pa ⟨x.client, x.num, x.path, r⟩)) := upd_same
    generalize hH1 : upd (upd (upd H da (.own a)) a (.ins (C_Watcher K) da [])) a (.ins (C_Watcher K) da (F_Watcher (.int (x.client : Nat)) (.int (x.num : Nat)) (.ref pa) (.int (r : Nat)))) = H1 at k1 ha1
    show gName 2 (V.ref a) _ (upd (upd (upd H da (.own a)) a (.ins (C_Watcher K) da [])) a (.ins (C_Watcher K) da (F_Watcher (.int (x.client : Nat)) (.int (x.num : Nat)) (.ref pa) (.int (r : Nat))))) _
    rw [hH1]
    clear hH1
    have A1 := A.keep k1
    obtain ⟨dxh1, hh1⟩ := A1.house
    have hla1 := k1.imm hla
    have naall : a ∉ W.all := fun z => A.all_there a z ha
    have hnn : ((Ag07.turn s : Int) + 1 - ((r : Int) + 1)).toNat = Ag07.turn s - r := by omega
    have hT : Ag07.turn s ≤ 100000 := hlog
    refine ⟨_, rfl, l, _, dxl, _, _, rfl, hla1, T.cls_Letter, T.no_Letter_behind, rfl, _, _, rfl, rfl, _, rfl, W.hs, dxh1, _, rfl, hh1, rfl, W, s, rfl, A1, _, _, rfl, rfl, _, _, rfl, ⟨by omega, by omega, by omega, by omega⟩,
      for_range (lo := (r : Int) + 1) (n := ((Ag07.turn s : Int) + 1 - ((r : Int) + 1)).toNat) (fun j σ H' => ∃ v s2 w2, σ = [some (.ref W.hs), some (.ref l), some (.ref a), v] ∧ Kp W.mu H H' ∧ WAt K H' W s2 ∧ H' a = some (.ins (C_Watcher K) da (wFs pa w2)) ∧
        w2.path = x.path ∧ w2.last ≤ r + j ∧ s2.log = s.log ∧ s2.watchers = s.watchers ∧ s2.letters.length ≤ 100 ∧ Ag07.catchUp s (Ag07.turn s) ⟨x.client, x.num, x.path, r⟩ = Ag07.catchUp s2 (Ag07.turn s - (r + j)) w2)
      ⟨none, s, ⟨x.client, x.num, x.path, r⟩, rfl, k1.sub (by simp), A1, ha1, rfl, Nat.le_refl _, rfl, rfl, h100, ?_⟩ ?_ ?_⟩
    · exact catchUp_skip (s := s) (w := ⟨x.client, x.num, x.path, r⟩) hr r (Nat.le_refl _)
    · rintro j σ H' hj ⟨v, s2, w2, rfl, k, A2, ha2, hwp, hwl2, hlog2, hwat2, h1002, hcu⟩
      rw [hnn] at hj
      obtain ⟨dx2, hh2⟩ := A2.house
      have e : (r : Int) + 1 + (j : Int) = ((r + j + 1 : Nat) : Int) := by omega
      have hlt : r + j < s2.log.length := by rw [hlog2]; show r + j < Ag07.turn s; omega
      have ht2 : Ag07.turn s2 = Ag07.turn s := by unfold Ag07.turn; rw [hlog2]
      have hes := log_get hlt
      have hle : (s2.log.getD (r + j) []).length ≤ 1000 := hev _ (by rw [← hlog2]; exact List.mem_of_getElem? hes)
      have hat := catchUp_at (s := s2) (w := w2) (i := r + j) (by rw [ht2]; omega) hwl2
      rw [ht2] at hat
      rw [hat] at hcu
      clear hat
      generalize s2.log.getD (r + j) [] = es at hes hle hcu
      have hpa2 : H' pa = some (.tup (pvs w2.path)) := by rw [hwp]; exact k.tup hpa
      refine ⟨_, rfl, W.hs, dx2, _, rfl, hh2, rfl, _, rfl, _, rfl, ?_⟩
      refine ⟨W, s2, r + j, a, da, pa, w2, es, by rw [e], A2, ha2, hpa2, hes, hle, h1002, fun h0 H3 k3 => ?_, fun h0 H3 vs' k3 pl3 => ?_⟩
      · rw [if_pos h0] at hcu
        exact ⟨_, s2, w2, rfl, k.trans (k3.sub (by simp)), A2.keep k3, k3.at_ ha2 (by simp), hwp, by omega, hlog2, hwat2, h1002, hcu⟩
      · rw [if_neg (by rw [h0]; decide)] at hcu
        have A3 := A2.keep k3
        obtain ⟨lv, hlv, _⟩ := A3.lets
        have p3 := A3.put_ll pl3
        have ha3 : upd H3 W.ll (.lst vs') a = some (.ins (C_Watcher K) da (wFs pa w2)) := by
          have := k3.at_ ha2 (by simp)
          rw [upd_ne (ne_of this hlv (by intro z; cases z))]; exact this
        have k4 := (Kp.refl [a] (upd H3 W.ll (.lst vs'))).put (o := .ins (C_Watcher K) da (wFs pa { w2 with last := r + j + 1 })) (by simp) ha3
        have A4 := p3.1.far k4 (fun b hb z => naall (by rw [← List.mem_singleton.mp z]; exact hb)) (fun b xs eb m => by rw [List.mem_singleton.mp m, ha3] at eb; cases eb)
        refine ⟨_, _, { w2 with last := r + j + 1 }, rfl, ?_, A4, upd_same, hwp, by show r + j + 1 ≤ r + (j + 1); omega, hlog2, hwat2, ?_, hcu⟩
        · exact ((k.trans (k3.sub (by simp))).trans (p3.2.sub (by simp [WAd.mu]))).own ha
        · show (List.take 100 _).length ≤ 100
          rw [List.length_take]; omega
    · rintro σ H' ⟨v, s2, w2, rfl, k, A2, ha2, hwp, hwl2, hlog2, hwat2, h1002, hcu⟩
      rw [hnn] at hcu
      have e0 : Ag07.turn s - (r + (Ag07.turn s - r)) = 0 := by omega
      rw [e0, catchUp_end] at hcu
      rw [hcu] at q
      obtain ⟨dx2, hh2⟩ := A2.house
      have hpa2 : H' pa = some (.tup (pvs w2.path)) := by rw [hwp]; exact k.tup hpa
      refine ⟨_, rfl, W.hs, dx2, _, rfl, hh2, rfl, _, rfl, ?_⟩
      refine ⟨W, s2, a, da, pa, w2, rfl, A2, ha2, hpa2, naall, by rw [hwat2]; exact hwl, fun H3 l2 ws2 hl2 hws2 A3 k3 => ?_⟩
      refine q H3 { W with lw := l2, ws := ws2 } rfl A3 ⟨k.trans (k3.sub (by simp [WAd.mu])), fun b hb => ?_⟩
      by_cases z : b ∈ W.mu
      · exact .inl z
      right
      simp only [WAd.mu, List.mem_cons, List.mem_append] at hb z
      rcases hb with hb | hb | hb | hb | hb | hb | hb | hb | hb
      · exact absurd (.inl hb) z
      · exact absurd (.inr (.inl hb)) z
      · grind
      · grind
      · grind
      · rw [hb]
        cases e : H l2 with
        | none => rfl
        | some o =>
          have nl : l2 ∉ W.mu := fun y => A2.mu_there l2 y hl2
          rw [k.at_ e nl] at hl2; cases hl2
      · rcases hws2 b hb with y | y
        · grind
        · rw [y]; exact ha
      · grind
      · grind
theorem pairs_snoc {l : List Ag07.Node} {j : Nat} {n : Ag07.Node} (h : l[j]? = some n) (p : List Nat) : Ag07.pairs (l.take (j + 1)) p = if Ag07.below n.path p = true then Ag07.pairs (l.take j) p ++ [(n.path, n.value)] else Ag07.pairs (l.take j) p := by
  unfold Ag07.pairs
  rw [take_snoc h, List.filter_append, List.filter_cons]
  split <;> simp
theorem find_self {l : List Ag07.Node} (s : SrtN l) {n : Ag07.Node} (h : n ∈ l) : Ag07.find l n.path = some n := by
  cases e : Ag07.find l n.path with
  | none => exact absurd rfl (find_none.mp e n h)
  | some m =>
    obtain ⟨h1, h2⟩ := find_mem e
    rw [s.inj h1 h h2]
def pm_House_show_picture (K : PySem.W.Frag) : Pm := fun vs H Q => ∃ W s, ∃ (l : Addr) (x : Ag07.Letter), vs = [.ref W.hs, .ref l] ∧ WAt K H W s ∧ LetterAt K W.mu H (.ref l) x ∧ SrtN s.nodes ∧ (∀ y ∈ s.nodes, y.path ≠ []) ∧ s.nodes.length ≤ 1000 ∧ s.letters.length ≤ 100 ∧ s.watchers.length ≤ 1000 ∧
  ∀ H' W', W'.wd = W.wd → WAt K H' W' (Ag07.hand.picture s x) → Ch W.mu W'.mu H H' → Q .non H'
theorem ok_House_show_picture (T : Tx K mg) : HasFn Prog w K mg base 4 (He.fAd K d_House_show_picture.at_) p_House_show_picture (pm_House_show_picture K) := by
  refine mkFn T.fun_House_show_picture S_House_show_picture (fun _ _ _ _ _ _ us hl => match us, hl with | [_, _], _ => rfl) ?_ fun cdv A outer s H E hr => ⟨_,
    (pss_cons (ps_set (i := 2) S_House_show_picture.nd rfl (Or.inl rfl) (pe_methH0 (pv 0) T.cls_House T.me_House_last_turn (ok_House_last_turn T) (hr.mono (by decide))))
    (pss_cons (ps_set (i := 3) S_House_show_picture.nd rfl (Or.inr rfl) (pe_fld (pv 0) rfl))
    (pss_cons (ps_setLc (i := 4) (own := [("path", 5)]) (g := gName 5) (tt := (tB (tCallH (pm_is_below K) (tCons (tVar 5) (tCons (tFld K (tVar 1) "path") tNil))))) (te := (tTup (tCons (tVar 5) (tCons (tFld K (tDGet (tVar 3) (tVar 5)) "value") tNil)))) rfl S_House_show_picture.nd rfl rfl (sw_true rfl rfl rfl (by decide +kernel)) (pi_list (pe_callB (cr_sortD hr.units rfl) (by rfl) T.free_sorted (by decide +kernel) (pa_cons (pv 3) pa_nil))) (blkOk_by (own := [("path", 5)]) (N := n_House_show_picture) (sc := sc_House_show_picture) (by decide +kernel)) (fun _ _ _ _ _ => pg_name (i := 5) S_House_show_picture.nd rfl (Or.inl rfl)) (fun _ _ _ _ _ => (pts_one (pt_call (pe_callH (ok_is_below T) (hr.mono (by decide)) (by rfl) T.glo_is_below (pa_cons (pv 5) (pa_cons (pe_fld (pv 1) rfl) pa_nil)))))) (fun _ _ _ _ _ => (pe_tup (pa_cons (pv 5) (pa_cons (pe_fld (pe_dget (hu_of hr) (pv 3) (pv 5) (fun _ _ => rfl)) rfl) pa_nil)))))
    (pss_cons (ps_expr (pe_methH (pe_fld (pv 0) rfl) T.cls_Net T.me_Net_send (ok_Net_send T) (hr.mono (by decide)) (pa_cons (pe_callH (ok_picture_letter T) (hr.mono (by decide)) (by rfl) T.glo_picture_letter (pa_cons (pe_fld (pv 1) rfl) (pa_cons (pe_fld (pv 1) rfl) (pa_cons (pv 2) (pa_cons (pv 4) pa_nil))))) pa_nil)))
    (pss_one (ps_expr (pe_methH (pv 0) T.cls_House T.me_House_put_last (ok_House_put_last T) (hr.mono (by decide)) (pa_cons (pe_makeH T.mkr_Watcher (ok_Watcher_init T) (hr.mono (by decide)) (by rfl) T.glo_Watcher (pa_cons (pe_fld (pv 1) rfl) (pa_cons (pe_fld (pv 1) rfl) (pa_cons (pe_fld (pv 1) rfl) (pa_cons (pv 2) pa_nil))))) pa_nil)))))))), ?_⟩
  · rintro vs H Q ⟨W, s, l, x, rfl, _⟩; rfl
  · rintro vs Q ⟨W, s, l, x, rfl, A, hx, srt, hne, hn1000, h100, hwl, q⟩
    obtain ⟨l', dxl, pa, ev, en, e, hla, hpa, _⟩ := id hx
    cases e
    obtain ⟨dxh, hh⟩ := A.house
    obtain ⟨ns, hns, pm⟩ := A.nodes
    obtain ⟨kvs, hd, pn⟩ := id hns
    refine ⟨_, rfl, W.hs, dxh, _, rfl, hh, rfl, W, s, rfl, A, ?_⟩
    refine ⟨_, rfl, W.hs, _, dxh, _, _, rfl, hh, T.cls_House, T.no_House_nodes, rfl, ?_⟩
    refine ⟨_, rfl, W.dn, kvs, ns.map fun n => n.path, rfl, .inl hd, by rw [np_keys pn, List.map_map]; rfl, ?_, fun xs P hP hxs perm lsrt => ?_⟩
    · intro p hp
      obtain ⟨n, hn, rfl⟩ := List.mem_map.mp hp
      exact hne n (pm.mem_iff.mp hn)
    have hxp : xs.map (·.2) = s.nodes.map fun n => n.path := by
      refine sort_paths (perm.trans (pm.map _)) ?_ lsrt
      rw [List.pairwise_map]; exact srt
    have k1 : Kp [] H (upd H P (.lst (xs.map fun y => V.ref y.1))) := (Kp.refl _ _).new hP
    have hP1 : upd H P (.lst (xs.map fun y => V.ref y.1)) P = some (.lst (xs.map fun y => V.ref y.1)) := upd_same
    generalize upd H P (.lst (xs.map fun y => V.ref y.1)) = H1 at k1 hP1
    have hxl : xs.length = s.nodes.length := by have := congrArg List.length hxp; rwa [List.length_map, List.length_map] at this
    refine ⟨P, rfl, ⟨_, SqL.of hP1⟩, fun D hD => lc_list (K := K) (a := P) (xs := xs.map fun y => V.ref y.1) (fun j H' => Kp [] H1 H' ∧ ∃ acc, H' D = some (.lst acc) ∧ Paired (EntryAt K H') acc (Ag07.pairs (s.nodes.take j) x.path)) ⟨(Kp.refl _ _).new hD, [], upd_same, .nil⟩ (fun j H' _ h => SqL.of (h.1.at_ hP1 (by simp))) ?_ ?_⟩
    · rintro j v H' hv ⟨k, acc, hdl, pacc⟩
      obtain ⟨y, hyj, rfl⟩ := map_get hv
      have h1 : (xs.map (·.2))[j]? = some y.2 := by rw [List.getElem?_map, hyj]; rfl
      rw [hxp] at h1
      obtain ⟨nd, hnd, hyp⟩ := map_get h1
      have hmem := List.mem_of_getElem? hnd
      have kk := k1.trans k
      have ht := kk.tup (hxs y (List.mem_of_getElem? hyj))
      rw [hyp] at ht
      refine ⟨rfl, ?_⟩
      refine ⟨_, rfl, _, rfl, l, _, dxl, _, _, rfl, kk.imm hla, T.cls_Letter, T.no_Letter_path, rfl, y.1, pa, nd.path, x.path, rfl, ht, kk.tup hpa, fun H2 k2 => ⟨_, rfl, ?_⟩⟩
      have kk2 := kk.trans k2
      have A2 := A.keep kk2
      have hd2 := k2.at_ hdl (by simp)
      have pacc2 : Paired (EntryAt K H2) acc (Ag07.pairs (s.nodes.take j) x.path) := Paired.imp pacc fun _ _ h => h.keep k2
      refine ite2 (fun hb => ?_) (fun hb => ?_)
      · have ht2 := k2.tup ht
        obtain ⟨ns2, hns2, pm2⟩ := A2.nodes
        rcases nodes_get hns2 ht2 with ⟨_, hf⟩ | ⟨v, n2, gt, hf, na, ndx, rfl, hna⟩
        · rw [find_perm pm2 srt, find_self srt hmem] at hf; cases hf
        rw [find_perm pm2 srt, find_self srt hmem] at hf
        cases hf
        refine ⟨_, rfl, _, rfl, _, rfl, W.dn, _, rfl, gt, na, _, ndx, _, _, rfl, hna, T.cls_Node, T.no_Node_value, rfl, (by show (2 : Nat) ≤ sizeLine; decide), fun tp htp => ?_⟩
        have k3 : Kp [] H2 (upd H2 tp (.tup [.ref y.1, .int (nd.value : Nat)])) := (Kp.refl _ _).new htp
        have htp3 : upd H2 tp (.tup [.ref y.1, .int (nd.value : Nat)]) tp = some (.tup [.ref y.1, .int (nd.value : Nat)]) := upd_same
        have hd3 := k3.at_ hd2 (by simp)
        have kD := (Kp.refl [D] (upd H2 tp (.tup [.ref y.1, .int (nd.value : Nat)]))).put (o := .lst (acc ++ [.ref tp])) (by simp) hd3
        refine ⟨acc, hd3, ?_, ((k.trans k2).trans k3).own hD, acc ++ [.ref tp], upd_same, ?_⟩
        · have e1 := Paired.len pacc
          have e2 : (Ag07.pairs (s.nodes.take j) x.path).length ≤ (s.nodes.take j).length := by unfold Ag07.pairs; rw [List.length_map]; exact List.length_filter_le _ _
          rw [List.length_take] at e2
          exact sizeLine_big (by omega)
        · rw [pairs_snoc hnd, if_pos hb]
          exact Paired.app (Paired.imp pacc2 fun _ _ h => (h.keep k3).keep kD) (.cons ⟨tp, y.1, rfl, kD.tup htp3, kD.tup (k3.tup ht2)⟩ .nil)
      · refine ⟨k.trans k2, acc, hd2, ?_⟩
        rw [pairs_snoc hnd, if_neg hb]; exact pacc2
    · rintro H2 ⟨k2, acc, hdl, pacc⟩
      have e0 : s.nodes.take (xs.map fun y => V.ref y.1).length = s.nodes := List.take_of_length_le (by rw [List.length_map]; omega)
      rw [e0] at pacc
      have kk := k1.trans k2
      have A2 := A.keep kk
      obtain ⟨dx2, hh2⟩ := A2.house
      obtain ⟨dxn, hn⟩ := A2.neto
      have hla2 := kk.imm hla
      have hDH : H D = none := k1.free (by simp) hD
      refine ⟨_, rfl, W.hs, _, dx2, _, _, rfl, hh2, T.cls_House, T.no_House_net, rfl, W.net, dxn, _, rfl, hn, rfl, ?_⟩
      refine ⟨_, rfl, l, _, dxl, _, _, rfl, hla2, T.cls_Letter, T.no_Letter_client, rfl, ?_⟩
      refine ⟨_, rfl, l, _, dxl, _, _, rfl, hla2, T.cls_Letter, T.no_Letter_number, rfl, ?_⟩
      refine ⟨_, rfl, _, rfl, W.mu, _, _, _, _, Ag07.pairs s.nodes x.path, rfl, ⟨D, acc, rfl, fun z => A.mu_there D z hDH, hdl, pacc⟩, A2.mu_there, fun H3 lt ⟨L3, hl3, k3⟩ => ?_⟩
      have A3 := A2.keep k3
      obtain ⟨dxn3, hn3⟩ := A3.neto
      obtain ⟨lv, hlv, plv⟩ := A3.lets
      have hlvl := Paired.len plv
      refine ⟨W.net, dxn3, W.ll, _, lv, rfl, hn3, hlv, by omega, ?_⟩
      have p4 := A3.put_ll (Paired.takeP (Paired.app plv (.cons L3 .nil)) 100)
      have k4 := (k3.sub (M' := [W.ll]) (by simp)).trans p4.2
      have k04 : Kp [W.ll] H _ := (kk.sub (by simp)).trans k4
      have A4 := p4.1
      have hla4 := k4.imm hla2
      generalize upd H3 W.ll (.lst ((lv ++ [V.ref lt]).take 100)) = H4 at A4 hla4 k04
      obtain ⟨dx4, hh4⟩ := A4.house
      refine ⟨_, rfl, W.hs, dx4, _, rfl, hh4, rfl, ?_⟩
      refine ⟨_, rfl, l, _, dxl, _, _, rfl, hla4, T.cls_Letter, T.no_Letter_client, rfl, _, rfl, l, _, dxl, _, _, rfl, hla4, T.cls_Letter, T.no_Letter_number, rfl, _, rfl, l, _, dxl, _, _, rfl, hla4, T.cls_Letter, T.no_Letter_path, rfl, _, rfl, fun a da ha hda had => ?_⟩
      refine ⟨a, da, _, _, _, _, rfl, upd_same, rfl, ?_⟩
      have k5 : Kp [] H4 (upd (upd (upd H4 da (.own a)) a (.ins (C_Watcher K) da [])) a (.ins (C_Watcher K) da (wFs pa ⟨x.client, x.num, x.path, Ag07.turn s⟩))) := made_kp (H1 := H4) ha hda (Kp.refl _ _ |>.put (by simp) upd_same)
      have A5 := A4.keep k5
      have haH : H a = none := k04.free (fun z => A4.mu_there a (by rw [List.mem_singleton.mp z]; simp [WAd.mu]) ha) ha
      have hpa5 : upd (upd (upd H4 da (.own a)) a (.ins (C_Watcher K) da [])) a (.ins (C_Watcher K) da (wFs pa ⟨x.client, x.num, x.path, Ag07.turn s⟩)) pa = some (.tup (pvs x.path)) := k5.tup (k04.tup hpa)
      refine ⟨W, _, a, da, pa, ⟨x.client, x.num, x.path, Ag07.turn s⟩, rfl, A5, upd_same, hpa5, fun z => A.all_there a z haH, hwl, fun H6 l2 ws2 hl2 hws2 A6 k6 => ?_⟩
      have k06 : Kp W.mu H H6 := ((k04.sub (by simp [WAd.mu])).trans (k5.sub (by simp))).trans (k6.sub (by simp [WAd.mu]))
      refine q H6 { W with lw := l2, ws := ws2 } rfl A6 ⟨k06, fun b hb => ?_⟩
      by_cases z : b ∈ W.mu
      · exact .inl z
      right
      simp only [WAd.mu, List.mem_cons, List.mem_append] at hb z
      rcases hb with hb | hb | hb | hb | hb | hb | hb | hb | hb
      · grind
      · grind
      · grind
      · grind
      · grind
      · rw [hb]
        exact ((k04.sub (M' := W.mu) (by simp [WAd.mu])).trans (k5.sub (by simp))).free (fun y => A5.mu_there l2 y hl2) hl2
      · rcases hws2 b hb with y | y
        · grind
        · rw [y]; exact haH
      · grind
      · grind
/-- a letter that asks is handed over to the house -/
def pm_House_hear_asking (K : PySem.W.Frag) : Pm := fun vs H Q => ∃ W s, ∃ (b c : Nat) (l : Addr) (x : Ag07.Letter), vs = [.ref W.hs, .ref l] ∧ WAt K H W s ∧ LetterAt K W.mu H (.ref l) x ∧ x.kind = 0 ∧ Good b s ∧ b ≤ 1000 ∧ More c s ∧
  ∀ H' W' z, W'.wd = W.wd → WAt K H' W' (Ag07.hand s x).1 → Ch W.mu W'.mu H H' → (Ag07.hand s x).2 = [z] → Q (.int z) H'
theorem ok_House_hear_asking (T : Tx K mg) : HasFn Prog w K mg base 6 (He.fAd K d_House_hear_asking.at_) p_House_hear_asking (pm_House_hear_asking K) := by
  refine mkFn T.fun_House_hear_asking S_House_hear_asking (fun _ _ _ _ _ _ us hl => match us, hl with | [_, _], _ => rfl) ?_ fun cdv A outer s H E hr => ⟨_,
    (pss_cons (ps_if (pt_call (pe_methH (pv 0) T.cls_House T.me_House_has_later_watcher (ok_House_has_later_watcher T) (hr.mono (by decide)) (pa_cons (pe_fld (pv 1) rfl) (pa_cons (pe_fld (pv 1) rfl) pa_nil)))) (pss_one (ps_ret (pe_gint (by rfl) T.int_NO_USE))) pss_nil)
    (pss_cons (ps_if (pt_call (pe_methH (pv 0) T.cls_House T.me_House_can_tell_from (ok_House_can_tell_from T) (hr.mono (by decide)) (pa_cons (pe_fld (pv 1) rfl) pa_nil))) (pss_cons (ps_expr (pe_methH (pv 0) T.cls_House T.me_House_tell_from (ok_House_tell_from T) (hr.mono (by decide)) (pa_cons (pv 1) pa_nil)))
    (pss_one (ps_ret (pe_gint (by rfl) T.int_NEWS_SENT)))) pss_nil)
    (pss_cons (ps_expr (pe_methH (pv 0) T.cls_House T.me_House_show_picture (ok_House_show_picture T) (hr.mono (by decide)) (pa_cons (pv 1) pa_nil)))
    (pss_one (ps_ret (pe_gint (by rfl) T.int_PICTURE_SENT)))))), ?_⟩
  · rintro vs H Q ⟨W, s, b, c, l, x, rfl, _⟩; rfl
  · rintro vs Q ⟨W, s, b, c, l, x, rfl, A, hx, hk, g, hb, hm, q⟩
    obtain ⟨l', dxl, pa, ev, en, e, hla, hpa, _⟩ := id hx
    cases e
    obtain ⟨dxh, hh⟩ := A.house
    have hwl : s.watchers.length ≤ 1000 := by have := hm.few; omega
    refine ⟨_, rfl, W.hs, dxh, _, rfl, hh, rfl, _, rfl, l, _, dxl, _, _, rfl, hla, T.cls_Letter, T.no_Letter_client, rfl, _, rfl, l, _, dxl, _, _, rfl, hla, T.cls_Letter, T.no_Letter_number, rfl, ?_⟩
    refine ⟨W, s, x.client, x.num, rfl, A, hwl, fun H1 k1 => ⟨_, rfl, ?_⟩⟩
    have A1 := A.keep k1
    have hx1 := hx.keep k1 (by simp)
    have hla1 := k1.imm hla
    obtain ⟨dx1, hh1⟩ := A1.house
    have c1 : Ch W.mu W.mu H H1 := Ch.of (k1.sub (by simp))
    refine ite2 (fun h => ?_) (fun h => ?_)
    · have e : Ag07.hand s x = (s, [0]) := by unfold Ag07.hand; rw [hk]; simp only; rw [if_pos h]
      rw [e] at q
      exact q H1 W 0 rfl A1 c1 rfl
    · have go : ∀ (r : Nat), x.after = some r → canTell s (some r) = true → Ag07.hand s x = (Ag07.catchUp s (Ag07.turn s) ⟨x.client, x.num, x.path, r⟩, [1]) := by
        intro r hr hc
        have hc : s.base ≤ r ∧ r ≤ Ag07.turn s := of_decide_eq_true hc
        unfold Ag07.hand; rw [hk]; simp only; rw [if_neg h, hr]; simp only
        rw [if_neg (by omega)]
      have no : canTell s x.after = false → Ag07.hand s x = (Ag07.hand.picture s x, [2]) := by
        intro hc
        unfold Ag07.hand; rw [hk]; simp only; rw [if_neg h]
        cases hr : x.after with
        | none => rfl
        | some r =>
          rw [hr] at hc
          have hc : ¬ (s.base ≤ r ∧ r ≤ Ag07.turn s) := of_decide_eq_false hc
          simp only
          rw [if_pos (by omega)]
      refine ⟨_, rfl, W.hs, dx1, _, rfl, hh1, rfl, _, rfl, l, _, dxl, _, _, rfl, hla1, T.cls_Letter, T.no_Letter_behind, rfl, W, s, x.after, rfl, A1, _, rfl, ite2 (fun h2 => ?_) (fun h2 => ?_)⟩
      · cases hr : x.after with
        | none => rw [hr] at h2; cases h2
        | some r =>
          rw [hr] at h2
          have hc : s.base ≤ r ∧ r ≤ Ag07.turn s := of_decide_eq_true h2
          rw [go r hr h2] at q
          refine ⟨_, rfl, W.hs, dx1, _, rfl, hh1, rfl, _, rfl, W, s, l, x, r, rfl, A1, hx1, hr, hc.2, (fun e he => Nat.le_trans (hm.evs e he).1 (by decide)), by have := g.bnd; omega, g.lts, hwl, fun H2 W2 hw A2 c2 => ?_⟩
          exact q H2 W2 1 hw A2 (c1.trans c2) rfl
      · rw [no (Bool.eq_false_iff.mpr h2)] at q
        refine ⟨_, rfl, W.hs, dx1, _, rfl, hh1, rfl, _, rfl, W, s, l, x, rfl, A1, hx1, g.srt, (fun y hy => path_ne (g.pth y hy)), Nat.le_trans g.cnt (by decide), g.lts, hwl, fun H2 W2 hw A2 c2 => ?_⟩
        exact q H2 W2 2 hw A2 (c1.trans c2) rfl
end
end Wt

set_option Elab.async false
set_option linter.all false
set_option maxRecDepth 100000
set_option maxHeartbeats 4000000
namespace Wt
open PySem PySem.Spec PyProof.Rows L2
/-! ### a copy as a dict -/
abbrev dc (kvs : List Pr) : List (List Key × V) := kvs.map fun x => (pkey x.1, V.int (x.2 : Nat))
theorem dc_val : ∀ (kvs : List Pr) (p : List Nat), (valV (dc kvs) (pkey p) = none ∧ ∀ x ∈ kvs, x.1 ≠ p) ∨ ∃ v, valV (dc kvs) (pkey p) = some (V.int (v : Nat)) ∧ (p, v) ∈ kvs
  | [], p => .inl ⟨rfl, fun x h => by cases h⟩
  | x :: kvs, p => by
    by_cases e : x.1 = p
    · refine .inr ⟨x.2, valV_pos (by show pkey x.1 = pkey p; rw [e]), ?_⟩
      rw [← e]; exact List.mem_cons_self
    · have e1 : ¬ (pkey x.1, V.int (x.2 : Nat)).1 = pkey p := fun z => e (pkey_inj z)
      rw [show dc (x :: kvs) = (pkey x.1, V.int (x.2 : Nat)) :: dc kvs from rfl, valV_neg e1]
      rcases dc_val kvs p with ⟨h1, h2⟩ | ⟨v, h1, h2⟩
      · refine .inl ⟨h1, fun y hy => ?_⟩
        rcases List.mem_cons.mp hy with rfl | hy
        · exact e
        · exact h2 y hy
      · exact .inr ⟨v, h1, List.mem_cons_of_mem _ h2⟩
theorem dc_drop (kvs : List Pr) (p : List Nat) : dropK (dc kvs) (pkey p) = dc (kvs.filter fun x => x.1 != p) := by
  induction kvs with
  | nil => rfl
  | cons x kvs ih =>
    by_cases e : x.1 = p
    · rw [List.filter_cons_of_neg (by simp [e]), ← ih]
      exact List.filter_cons_of_neg (by simp [e])
    · have e1 : ¬ pkey x.1 = pkey p := fun z => e (pkey_inj z)
      rw [List.filter_cons_of_pos (by simp [e])]
      show dropK ((pkey x.1, V.int (x.2 : Nat)) :: dc kvs) _ = (pkey x.1, V.int (x.2 : Nat)) :: dc (kvs.filter fun x => x.1 != p)
      rw [← ih]
      exact List.filter_cons_of_pos (by simpa using e1)
theorem filter_none {kvs : List Pr} {p : List Nat} (h : ∀ x ∈ kvs, x.1 ≠ p) : (kvs.filter fun x => x.1 != p) = kvs := by
  rw [List.filter_eq_self]
  intro x hx
  simpa using h x hx
theorem dc_put (kvs : List Pr) (p : List Nat) (v : Nat) : L2.putK (dc kvs) (pkey p) (V.int (v : Nat)) = dc (Wt.putKP p v kvs) := by
  have e : ((dc kvs).any fun kv => decide (kv.1 = pkey p)) = kvs.any fun m => decide (m.1 = p) := by
    rw [List.any_map]
    congr 1
    funext x
    exact decide_eq_decide.mpr ⟨pkey_inj, fun z => by show pkey x.1 = pkey p; rw [z]⟩
  unfold L2.putK Wt.putKP
  rw [e]
  split
  · show (kvs.map _).map _ = (kvs.map _).map _
    rw [List.map_map, List.map_map]
    refine List.map_congr_left fun x _ => ?_
    show (if pkey x.1 = pkey p then _ else _) = _
    by_cases z : x.1 = p
    · rw [if_pos (by rw [z])]; simp [z]
    · rw [if_neg (fun y => z (pkey_inj y))]; simp [z]
  · show _ = (kvs ++ [(p, v)]).map _
    rw [List.map_append]; rfl
theorem follow_gone {l : List Pr} {e : Ag07.Event} (h : e.what = 0) : Ag07.follow l e = l.filter fun x => x.1 != e.path := by unfold Ag07.follow; rw [if_pos h]
theorem follow_put {l : List Pr} {e : Ag07.Event} (h : ¬ e.what = 0) : Ag07.follow l e = Ag07.putPair e.path e.value l := by unfold Ag07.follow; rw [if_neg h]
theorem foldl_snoc {α β : Type} {f : β → α → β} {l : List α} {j : Nat} {x : α} {b : β} (h : l[j]? = some x) : (l.take (j + 1)).foldl f b = f ((l.take j).foldl f b) x := by
  rw [take_snoc h, List.foldl_append]; rfl
/-- whether a client's copy goes up to a turn -/
def goesTo (c : Ag07.Client) (t : Nat) : Bool := match c.upto with
  | some u => decide (t ≤ u)
  | none => false
section
variable {w : World} {K : PySem.W.Frag} {mg : Str → Option Value} {base : Heap}
def pm_Client_watches (K : PySem.W.Frag) : Pm := fun vs H Q => ∃ (i : Nat) (a d : Addr) (c : Ag07.Client), vs = [.ref a] ∧ ClientAt K H i a d c ∧ Q (.bl (decide (0 < c.num))) H
theorem ok_Client_watches (T : Tx K mg) : HasFn Prog w K mg base 1 (He.fAd K d_Client_watches.at_) p_Client_watches (pm_Client_watches K) := by
  refine mkFn T.fun_Client_watches S_Client_watches (fun _ _ _ _ _ _ us hl => match us, hl with | [_], _ => rfl) ?_ fun cdv A outer s H E hr => ⟨_,
    (pss_one (ps_ret (pe_cmpR op_gt (pe_fld (pv 0) rfl) pe_int (nomark _)))), ?_⟩
  · rintro vs H Q ⟨i, a, d, c, rfl, _⟩; rfl
  · rintro vs Q ⟨i, a, d, c, rfl, ⟨dx, pa, kvs, ha, _⟩, q⟩
    refine ⟨_, rfl, a, _, dx, _, _, rfl, ha, T.cls_Client, T.no_Client_number, rfl, _, _, rfl, rfl, ?_⟩
    have e : decide ((0 : Int) < (c.num : Int)) = decide (0 < c.num) := decide_eq_decide.mpr (by omega)
    show Q (.bl (decide ((0 : Int) < (c.num : Int)))) H
    rw [e]; exact q
def pm_Client_goes_up_to (K : PySem.W.Frag) : Pm := fun vs H Q => ∃ (i t : Nat) (a d : Addr) (c : Ag07.Client), vs = [.ref a, .int t] ∧ ClientAt K H i a d c ∧ Q (.bl (goesTo c t)) H
theorem ok_Client_goes_up_to (T : Tx K mg) : HasFn Prog w K mg base 1 (He.fAd K d_Client_goes_up_to.at_) p_Client_goes_up_to (pm_Client_goes_up_to K) := by
  refine mkFn T.fun_Client_goes_up_to S_Client_goes_up_to (fun _ _ _ _ _ _ us hl => match us, hl with | [_, _], _ => rfl) ?_ fun cdv A outer s H E hr => ⟨_,
    (pss_one (ps_ret (pe_and (pe_cmpR op_notN (pe_fld (pv 0) rfl) pe_non (nomark _)) (pe_one (pe_cmpR op_ge (pe_fld (pv 0) rfl) (pv 1) (nomark _)))))), ?_⟩
  · rintro vs H Q ⟨i, t, a, d, c, rfl, _⟩; rfl
  · rintro vs Q ⟨i, t, a, d, c, rfl, ⟨dx, pa, kvs, ha, _⟩, q⟩
    cases hu : c.upto with
    | none =>
      rw [hu] at ha
      have e : goesTo c t = false := by unfold goesTo; rw [hu]
      rw [e] at q
      exact ⟨_, rfl, a, _, dx, _, _, rfl, ha, T.cls_Client, T.no_Client_up_to, rfl, rfl, _, rfl, iteF q⟩
    | some u =>
      rw [hu] at ha
      have e : goesTo c t = decide ((t : Int) ≤ (u : Int)) := by unfold goesTo; rw [hu]; exact decide_eq_decide.mpr (by omega)
      rw [e] at q
      refine ⟨_, rfl, a, _, dx, _, _, rfl, ha, T.cls_Client, T.no_Client_up_to, rfl, rfl, _, rfl, iteT ?_⟩
      exact ⟨_, rfl, a, _, dx, _, _, rfl, ha, T.cls_Client, T.no_Client_up_to, rfl, _, rfl, _, _, rfl, rfl, q⟩
/-- a client's copy goes on -/
def goneOn (c : Ag07.Client) (t : Nat) (es : List Ag07.Event) : Ag07.Client := { c with upto := some t, copy := es.foldl Ag07.follow c.copy, events := c.events + es.length }
def pm_Client_go_on (K : PySem.W.Frag) : Pm := fun vs H Q => ∃ W s, ∃ (i t : Nat) (a : Addr) (c : Ag07.Client) (ev : V) (es : List Ag07.Event), vs = [.ref a, .int t, ev] ∧ WAt K H W s ∧ W.cs[i]? = some a ∧ s.clients[i]? = some c ∧ EventsAt K W.mu H ev es ∧ es.length ≤ 1000 ∧
  (∀ x ∈ es, EvOk x) ∧ SrtP c.copy ∧ (∀ y ∈ c.copy, Ag07.isPath 1 y.1 = true) ∧ c.copy.length ≤ 100000 ∧
  ∀ H' W', W'.wd = W.wd → WAt K H' W' { s with clients := s.clients.set i (goneOn c t es) } → Ch W.mu W'.mu H H' → Q .non H'
theorem ok_Client_go_on (T : Tx K mg) : HasFn Prog w K mg base 1 (He.fAd K d_Client_go_on.at_) p_Client_go_on (pm_Client_go_on K) := by
  refine mkFn T.fun_Client_go_on S_Client_go_on (fun _ _ _ _ _ _ us hl => match us, hl with | [_, _, _], _ => rfl) ?_ fun cdv A outer s H E hr => ⟨_,
    (pss_cons (ps_fld (pv 0) (pv 1) rfl)
    (pss_cons (ps_fldaug (pv 0) (pe_callB call_len (by rfl) T.free_len PySem.boot_len (pa_cons (pv 2) pa_nil)) in_add)
    (pss_one (ps_for PassesOwn.never rfl (pi_list (pv 2)) (pg_name (i := 3) S_Client_go_on.nd rfl (Or.inl rfl)) (pss_one (ps_if (pt_cmpR op_eq (pe_fld (pv 3) rfl) (pe_gint (by rfl) T.int_GONE) (nomark _)) (pss_one (ps_expr (pe_bm PySem.F.plainAttrs_dict PySem.F.slot_dict_pop PySem.F.type_dict_pop (L2.DX.mt_popT (hu_of hr) ) (pe_fld (pv 0) rfl) (pa_cons (pe_fld (pv 3) rfl) (pa_cons pe_non pa_nil))))) (pss_one (ps_dput (hu_of hr) (pe_fld (pv 0) rfl) (pe_fld (pv 3) rfl) (pe_fld (pv 3) rfl) rfl)))))))), ?_⟩
  · rintro vs H Q ⟨W, s, i, t, a, c, ev, es, rfl, _⟩; rfl
  · rintro vs Q ⟨W, s, i, t, a, c, ev, es, rfl, A, ha, hc, he, hel, heok, hsrt, hnds, hcl, q⟩
    obtain ⟨d, hd, dx, pa, kvs0, hca, hpa, hdd, hperm⟩ := A.client ha hc
    obtain ⟨eva, evs, rfl, hev, hl, pe⟩ := id he
    have hevl := Paired.len pe
    have ma : a ∈ W.mu := by simp [WAd.mu, List.mem_of_getElem? ha]
    have md : d ∈ W.mu := by simp [WAd.mu, List.mem_of_getElem? hd]
    have nad : d ≠ a := fun z => by rw [z, hca] at hdd; cases hdd
    refine ⟨_, rfl, _, rfl, a, _, dx, _, rfl, hca, T.cls_Client, T.no_Client_up_to, (by show (8 : Nat) < 1000; decide), ?_⟩
    have nea : eva ≠ a := fun z => hev (by rw [z]; exact ma)
    have ned : eva ≠ d := fun z => hev (by rw [z]; exact md)
    refine ⟨_, rfl, a, _, dx, _, _, rfl, upd_same, T.cls_Client, T.no_Client_events_had, rfl, _, rfl, _, evs.length, rfl, Or.inl ⟨_, SqL.of (by rw [upd_ne nea]; exact hl), rfl⟩, _, _, rfl, rfl, dx, _, upd_same, (by show (8 : Nat) < 1000; decide), ?_⟩
    rw [upd_upd]
    have hfs : putF "events_had" (.int ((c.events : Int) + (evs.length : Int))) (putF "up_to" (.int (t : Nat)) (ClF.fs ⟨.int (i : Nat), .int (c.num : Nat), .ref pa, optV c.upto, .int (c.since : Nat), .ref d, .int (c.events : Nat), .int (c.pictures : Nat)⟩)) =
      ClF.fs ⟨.int (i : Nat), .int (c.num : Nat), .ref pa, .int (t : Nat), .int (c.since : Nat), .ref d, .int (c.events + es.length : Nat), .int (c.pictures : Nat)⟩ := by
      rw [← hevl]; rfl
    rw [hfs]
    have k1 : Kp [a, d] H (upd H a (.ins (C_Client K) dx (ClF.fs ⟨.int (i : Nat), .int (c.num : Nat), .ref pa, .int (t : Nat), .int (c.since : Nat), .ref d, .int (c.events + es.length : Nat), .int (c.pictures : Nat)⟩))) := (Kp.refl _ _).put (by simp) hca
    have ha1 : upd H a (.ins (C_Client K) dx (ClF.fs ⟨.int (i : Nat), .int (c.num : Nat), .ref pa, .int (t : Nat), .int (c.since : Nat), .ref d, .int (c.events + es.length : Nat), .int (c.pictures : Nat)⟩)) a = some (.ins (C_Client K) dx (ClF.fs ⟨.int (i : Nat), .int (c.num : Nat), .ref pa, .int (t : Nat), .int (c.since : Nat), .ref d, .int (c.events + es.length : Nat), .int (c.pictures : Nat)⟩)) := upd_same
    have hd1 : upd H a (.ins (C_Client K) dx (ClF.fs ⟨.int (i : Nat), .int (c.num : Nat), .ref pa, .int (t : Nat), .int (c.since : Nat), .ref d, .int (c.events + es.length : Nat), .int (c.pictures : Nat)⟩)) d = some (.dT (dc kvs0)) := (upd_ne nad).trans hdd
    generalize upd H a (.ins (C_Client K) dx (ClF.fs ⟨.int (i : Nat), .int (c.num : Nat), .ref pa, .int (t : Nat), .int (c.since : Nat), .ref d, .int (c.events + es.length : Nat), .int (c.pictures : Nat)⟩)) = H1 at k1 ha1 hd1
    have hl1 := k1.at_ hl (by simp; exact ⟨nea, ned⟩)
    refine ⟨_, rfl, eva, rfl, ⟨_, SqL.of hl1⟩, for_list (K := K) (a := eva) (xs := evs) (fun j σ H' => ∃ v, σ = [some (.ref a), some (.int t), some (.ref eva), v] ∧ Kp [a, d] H H' ∧ H' a = some (.ins (C_Client K) dx (ClF.fs ⟨.int (i : Nat), .int (c.num : Nat), .ref pa, .int (t : Nat), .int (c.since : Nat), .ref d, .int (c.events + es.length : Nat), .int (c.pictures : Nat)⟩)) ∧
      ∃ kvs : List Pr, H' d = some (.dT (dc kvs)) ∧ kvs.Perm ((es.take j).foldl Ag07.follow c.copy)) ⟨none, rfl, k1, ha1, kvs0, hd1, hperm⟩ (fun j σ H' _ h => ?_) ?_ ?_⟩
    · obtain ⟨_, _, k, _⟩ := h
      exact SqL.of (k.at_ hl (by simp; exact ⟨nea, ned⟩))
    · rintro j v σ H' hv ⟨v0, rfl, k, ha2, kvs, hd2, hp2⟩
      obtain ⟨e, hej, ea, edx, epa, rfl, hea, hepa⟩ := Paired.get pe hv
      have hea2 := k.imm hea
      have hepa2 := k.tup hepa
      obtain ⟨f1, f2, f3⟩ := follow_ok (es := es.take j) (fun x hx => heok x (List.mem_of_mem_take hx)) hsrt hnds
      have hkl := hp2.length_eq
      rw [List.length_take] at f2
      refine ⟨_, rfl, ea, _, edx, _, _, rfl, hea2, T.cls_Event, T.no_Event_what, rfl, rfl, _, rfl, ite2 (fun h => ?_) (fun h => ?_)⟩
      · have h0 : e.what = 0 := eqV'.mp h
        have fin : ∀ kvs', kvs' = (kvs.filter fun x => x.1 != e.path) → ∃ v, [some (V.ref a), some (V.int t), some (V.ref eva), some (V.ref ea)] = [some (V.ref a), some (V.int t), some (V.ref eva), v] ∧ Kp [a, d] H (upd H' d (.dT (dc kvs'))) ∧ upd H' d (.dT (dc kvs')) a = some (.ins (C_Client K) dx (ClF.fs ⟨.int (i : Nat), .int (c.num : Nat), .ref pa, .int (t : Nat), .int (c.since : Nat), .ref d, .int (c.events + es.length : Nat), .int (c.pictures : Nat)⟩)) ∧
            ∃ kvs : List Pr, upd H' d (.dT (dc kvs')) d = some (.dT (dc kvs)) ∧ kvs.Perm ((es.take (j + 1)).foldl Ag07.follow c.copy) := by
          rintro kvs' rfl
          refine ⟨_, rfl, k.put (by simp) hd2, by rw [upd_ne nad.symm]; exact ha2, _, upd_same, ?_⟩
          rw [foldl_snoc hej, follow_gone h0]
          exact drop_perm hp2
        refine ⟨_, rfl, a, _, dx, _, _, rfl, ha2, T.cls_Client, T.no_Client_copied, rfl, .inr (.inr (.inl ⟨rfl, .inr ⟨_, hd2⟩⟩)), _, rfl, ea, _, edx, _, _, rfl, hea2, T.cls_Event, T.no_Event_path, rfl, d, dc kvs, pkey e.path, epa, .non, rfl, rfl, hd2, by rw [pkey_kV]; exact hepa2, fun v hv => ?_, fun hn => ?_⟩
        · rw [dc_drop]; exact fin _ rfl
        · rcases dc_val kvs e.path with ⟨_, h2⟩ | ⟨v, h1, _⟩
          · have := fin kvs (filter_none h2).symm
            rw [upd_back hd2] at this
            exact this
          · rw [hn] at h1; cases h1
      · have h0 : ¬ e.what = 0 := fun z => h (eqV'.mpr z)
        refine ⟨_, rfl, ea, _, edx, _, _, rfl, hea2, T.cls_Event, T.no_Event_value, rfl, _, rfl, a, _, dx, _, _, rfl, ha2, T.cls_Client, T.no_Client_copied, rfl, _, rfl, ea, _, edx, _, _, rfl, hea2, T.cls_Event, T.no_Event_path, rfl, d, _, rfl, DPut.t (k := pkey e.path) hd2 (by rw [pkey_kV]; exact hepa2) (sizeLine_big (by rw [List.length_map]; omega)), ?_⟩
        refine ⟨_, rfl, k.put (by simp) hd2, by rw [upd_ne nad.symm]; exact ha2, Wt.putKP e.path e.value kvs, by rw [upd_same, dc_put], ?_⟩
        rw [foldl_snoc hej, follow_put h0]
        exact putKP_perm hp2 f1
    · rintro σ H' ⟨v, rfl, k, ha2, kvs, hd2, hp2⟩
      rw [List.take_of_length_le (by omega)] at hp2
      have p := A.set_client (c' := goneOn c t es) ha hd k (.inl rfl) ⟨dx, pa, kvs, ha2, k.tup hpa, hd2, hp2⟩
      exact q H' { W with es := W.es.set i d } rfl p.1 p.2
/-- a letter to a client is handed over to it -/
def pm_hears (K : PySem.W.Frag) (kind : Nat) : Pm := fun vs H Q => ∃ W s, ∃ (b : Nat) (a l : Addr) (x : Ag07.Letter), vs = [.ref a, .ref l] ∧ WAt K H W s ∧ W.cs[x.client]? = some a ∧ LetterAt K W.mu H (.ref l) x ∧ x.kind = kind ∧ LetOk x ∧ More b s ∧ b ≤ 1000 ∧
  ∀ H' W' z, W'.wd = W.wd → WAt K H' W' (Ag07.hand s x).1 → Ch W.mu W'.mu H H' → (Ag07.hand s x).2 = [z] → Q (.int z) H'
theorem client_of {s : Ag07.State} {i : Nat} (h : i < s.clients.length) : s.clients[i]? = some (Ag07.client s i) := by
  unfold Ag07.client
  rw [List.getD_eq_getElem?_getD, List.getElem?_eq_getElem h]; rfl
abbrev pm_Client_hear_news (K : PySem.W.Frag) : Pm := pm_hears K 1
theorem ok_Client_hear_news (T : Tx K mg) : HasFn Prog w K mg base 2 (He.fAd K d_Client_hear_news.at_) p_Client_hear_news (pm_Client_hear_news K) := by
  refine mkFn T.fun_Client_hear_news S_Client_hear_news (fun _ _ _ _ _ _ us hl => match us, hl with | [_, _], _ => rfl) ?_ fun cdv A outer s H E hr => ⟨_,
    (pss_cons (ps_if (pt_cmpR op_ne (pe_fld (pv 1) rfl) (pe_fld (pv 0) rfl) (nomark _)) (pss_one (ps_ret (pe_gint (by rfl) T.int_NO_USE))) pss_nil)
    (pss_cons (ps_if (pt_cmpR op_isN (pe_fld (pv 0) rfl) pe_non (nomark _)) (pss_one (ps_ret (pe_gint (by rfl) T.int_LACKS_SOMETHING))) pss_nil)
    (pss_cons (ps_if (pt_call (pe_methH (pv 0) T.cls_Client T.me_Client_goes_up_to (ok_Client_goes_up_to T) (hr.mono (by decide)) (pa_cons (pe_fld (pv 1) rfl) pa_nil))) (pss_one (ps_ret (pe_gint (by rfl) T.int_NO_USE))) pss_nil)
    (pss_cons (ps_if (pt_cmpR op_lt (pe_fld (pv 0) rfl) (pe_fld (pv 1) rfl) (nomark _)) (pss_one (ps_ret (pe_gint (by rfl) T.int_LACKS_SOMETHING))) pss_nil)
    (pss_cons (ps_expr (pe_methH (pv 0) T.cls_Client T.me_Client_go_on (ok_Client_go_on T) (hr.mono (by decide)) (pa_cons (pe_fld (pv 1) rfl) (pa_cons (pe_fld (pv 1) rfl) pa_nil))))
    (pss_one (ps_ret (pe_gint (by rfl) T.int_COPY_GOES_ON)))))))), ?_⟩
  · rintro vs H Q ⟨W, s, b, a, l, x, rfl, _⟩; rfl
  · rintro vs Q ⟨W, s, b, a, l, x, rfl, A, ha, hx, hk, ok, hm, hb, q⟩
    obtain ⟨l', dxl, lpa, ev, en, e, hla, hlpa, hev, hen⟩ := id hx
    cases e
    have hi : x.client < 3 := ok.cli
    have hc := client_of (s := s) (i := x.client) (by rw [hm.len3]; exact hi)
    have hcok := client_ok hm hi
    have eq : Ag07.hand s x = ((if (Ag07.client s x.client).num ≠ x.num then (s, [0]) else match (Ag07.client s x.client).upto, x.after with
      | some u, some a => if x.turn ≤ u then (s, [0]) else if u < a then (s, [5]) else (Ag07.setClient s x.client { Ag07.client s x.client with upto := some x.turn, copy := x.events.foldl Ag07.follow (Ag07.client s x.client).copy, events := (Ag07.client s x.client).events + x.events.length }, [3])
      | _, _ => (s, [5])) : Ag07.State × List Int) := by unfold Ag07.hand; rw [hk]; rfl
    generalize Ag07.client s x.client = c at hc hcok eq
    obtain ⟨d, hd, cat⟩ := A.client ha hc
    obtain ⟨dx, pa, kvs, hca, hpa, _⟩ := id cat
    obtain ⟨_, _, r, hr⟩ := ok.k1 hk
    rw [hr] at eq hla
    refine ⟨_, rfl, l, _, dxl, _, _, rfl, hla, T.cls_Letter, T.no_Letter_number, rfl, _, rfl, a, _, dx, _, _, rfl, hca, T.cls_Client, T.no_Client_number, rfl, rfl, _, rfl, ite2 (fun h => ?_) (fun h => ?_)⟩
    · have h1 : x.num ≠ c.num := neV.mp h
      rw [if_pos h1.symm] at eq
      rw [eq] at q
      exact q H W 0 rfl A (Ch.refl _ _) rfl
    have h1 : x.num = c.num := by
      by_cases z : x.num = c.num
      · exact z
      · exact absurd (neV.mpr z) h
    rw [if_neg (by rw [h1]; simp)] at eq
    cases hu : c.upto with
    | none =>
      rw [hu] at eq hca
      rw [eq] at q
      exact ⟨_, rfl, a, _, dx, _, _, rfl, hca, T.cls_Client, T.no_Client_up_to, rfl, rfl, _, rfl, iteT (q H W 5 rfl A (Ch.refl _ _) rfl)⟩
    | some u =>
      rw [hu] at eq
      have hca' := hca
      rw [hu] at hca'
      refine ⟨_, rfl, a, _, dx, _, _, rfl, hca', T.cls_Client, T.no_Client_up_to, rfl, rfl, _, rfl, iteF ?_⟩
      refine ⟨_, rfl, a, dx, _, rfl, hca, rfl, _, rfl, l, _, dxl, _, _, rfl, hla, T.cls_Letter, T.no_Letter_turn, rfl, x.client, x.turn, a, d, c, rfl, cat, _, rfl, ?_⟩
      have eg : goesTo c x.turn = decide (x.turn ≤ u) := by unfold goesTo; rw [hu]
      rw [eg]
      simp only at eq
      refine ite2 (fun h => ?_) (fun h => ?_)
      · rw [if_pos (of_decide_eq_true h)] at eq
        rw [eq] at q
        exact q H W 0 rfl A (Ch.refl _ _) rfl
      rw [if_neg (fun z => h (decide_eq_true z))] at eq
      refine ⟨_, rfl, a, _, dx, _, _, rfl, hca', T.cls_Client, T.no_Client_up_to, rfl, _, rfl, l, _, dxl, _, _, rfl, hla, T.cls_Letter, T.no_Letter_behind, rfl, _, _, rfl, rfl, _, rfl, ite2 (fun h => ?_) (fun h => ?_)⟩
      · rw [if_pos (by have := of_decide_eq_true h; omega)] at eq
        rw [eq] at q
        exact q H W 5 rfl A (Ch.refl _ _) rfl
      rw [if_neg (fun z => h (decide_eq_true (by omega)))] at eq
      rw [eq] at q
      refine ⟨_, rfl, a, dx, _, rfl, hca, rfl, _, rfl, l, _, dxl, _, _, rfl, hla, T.cls_Letter, T.no_Letter_turn, rfl, _, rfl, l, _, dxl, _, _, rfl, hla, T.cls_Letter, T.no_Letter_events, rfl, ?_⟩
      refine ⟨W, s, x.client, x.turn, a, c, ev, x.events, rfl, A, ha, hc, hev, Nat.le_trans ok.evs.1 (by decide), ok.evs.2, hcok.srt, hcok.nds, by have := hcok.cnt; omega, fun H2 W2 hw A2 c2 => ?_⟩
      exact q H2 W2 3 hw A2 c2 rfl
theorem take_keys {l : List Pr} (s : SrtP l) {j : Nat} {x : Pr} (h : l[j]? = some x) : ∀ y ∈ l.take j, y.1 ≠ x.1 := by
  intro y hy e
  obtain ⟨i, hi⟩ := List.mem_iff_getElem?.mp hy
  rw [List.getElem?_take] at hi
  split at hi
  · rename_i lt
    obtain ⟨p1, p2⟩ := List.getElem?_eq_some_iff.mp hi
    obtain ⟨q1, q2⟩ := List.getElem?_eq_some_iff.mp h
    have := List.pairwise_iff_getElem.mp s i j p1 q1 lt
    rw [p2, q2, e] at this
    exact List.lt_irrefl _ this
  · cases hi
abbrev pm_Client_see_picture (K : PySem.W.Frag) : Pm := pm_hears K 2
theorem ok_Client_see_picture (T : Tx K mg) : HasFn Prog w K mg base 2 (He.fAd K d_Client_see_picture.at_) p_Client_see_picture (pm_Client_see_picture K) := by
  refine mkFn T.fun_Client_see_picture S_Client_see_picture (fun _ _ _ _ _ _ us hl => match us, hl with | [_, _], _ => rfl) ?_ fun cdv A outer s H E hr => ⟨_,
    (pss_cons (ps_if (PW.pt (pw_or (pt_cmpR op_ne (pe_fld (pv 1) rfl) (pe_fld (pv 0) rfl) (nomark _)) (pw_or1 (pt_call (pe_methH (pv 0) T.cls_Client T.me_Client_goes_up_to (ok_Client_goes_up_to T) (hr.mono (by decide)) (pa_cons (pe_fld (pv 1) rfl) pa_nil)))))) (pss_one (ps_ret (pe_gint (by rfl) T.int_NO_USE))) pss_nil)
    (pss_cons (ps_fld (pv 0) (pe_fld (pv 1) rfl) rfl)
    (pss_cons (ps_fld (pv 0) (pe_fld (pv 1) rfl) rfl)
    (pss_cons (ps_fld (pv 0) pe_dnewT rfl)
    (pss_cons (ps_for PassesOwn.never rfl (pi_list (pe_fld (pv 1) rfl)) (pg_tup rfl (pgs_cons (pg_name (i := 2) S_Client_see_picture.nd rfl (Or.inl rfl)) (pgs_cons (pg_name (i := 3) S_Client_see_picture.nd rfl (Or.inl rfl)) pgs_nil))) (pss_one (ps_dput (hu_of hr) (pe_fld (pv 0) rfl) (pv 2) (pv 3) rfl)))
    (pss_cons (ps_fld (pv 0) pe_int rfl)
    (pss_cons (ps_fldaug (pv 0) pe_int in_add)
    (pss_one (ps_ret (pe_gint (by rfl) T.int_HAS_PICTURE)))))))))), ?_⟩
  · rintro vs H Q ⟨W, s, b, a, l, x, rfl, _⟩; rfl
  · rintro vs Q ⟨W, s, b, a, l, x, rfl, A, ha, hx, hk, ok, hm, hb, q⟩
    obtain ⟨l', dxl, lpa, ev, en, e, hla, hlpa, hev, hen⟩ := id hx
    cases e
    have hi : x.client < 3 := ok.cli
    have hc := client_of (s := s) (i := x.client) (by rw [hm.len3]; exact hi)
    have eq : Ag07.hand s x = (if (Ag07.client s x.client).num ≠ x.num ∨ (goesTo (Ag07.client s x.client) x.turn) = true then (s, [0]) else
      (Ag07.setClient s x.client { Ag07.client s x.client with upto := some x.turn, since := x.turn, copy := x.nodes, events := 0, pictures := (Ag07.client s x.client).pictures + 1 }, [4])) := by unfold Ag07.hand; rw [hk]; rfl
    generalize Ag07.client s x.client = c at hc eq
    obtain ⟨d, hd, cat⟩ := A.client ha hc
    obtain ⟨dx, pa, kvs, hca, hpa, hdd, hperm⟩ := id cat
    refine ⟨_, rfl, l, _, dxl, _, _, rfl, hla, T.cls_Letter, T.no_Letter_number, rfl, _, rfl, a, _, dx, _, _, rfl, hca, T.cls_Client, T.no_Client_number, rfl, rfl, _, rfl, ite2 (fun h => ?_) (fun h => ?_)⟩
    · have h1 : x.num ≠ c.num := neV.mp h
      rw [if_pos (.inl h1.symm)] at eq
      rw [eq] at q
      exact iteT (q H W 0 rfl A (Ch.refl _ _) rfl)
    have h1 : x.num = c.num := by
      by_cases z : x.num = c.num
      · exact z
      · exact absurd (neV.mpr z) h
    refine ⟨_, rfl, a, dx, _, rfl, hca, rfl, _, rfl, l, _, dxl, _, _, rfl, hla, T.cls_Letter, T.no_Letter_turn, rfl, x.client, x.turn, a, d, c, rfl, cat, _, rfl, ite2 (fun h => ?_) (fun h => ?_)⟩
    · rw [if_pos (.inr h)] at eq
      rw [eq] at q
      exact q H W 0 rfl A (Ch.refl _ _) rfl
    rw [if_neg (by rintro (z | z); exact z h1.symm; exact h z)] at eq
    rw [eq] at q
    clear eq
    have ma : a ∈ W.mu := by simp [WAd.mu, List.mem_of_getElem? ha]
    obtain ⟨ena, evs, rfl, hena, hel, pe⟩ := hen
    have hevl := Paired.len pe
    have nla : l ≠ a := fun z => by
      rw [z, hca] at hla
      have h2 := Option.some.inj hla
      injection h2 with _ _ h3
      injection h3 with h4 _
      injection h4 with h5 _
      exact absurd h5 (by decide)
    refine ⟨_, rfl, l, _, dxl, _, _, rfl, hla, T.cls_Letter, T.no_Letter_turn, rfl, _, rfl, a, _, dx, _, rfl, hca, T.cls_Client, T.no_Client_up_to, (by show (8 : Nat) < 1000; decide), ?_⟩
    refine ⟨_, rfl, l, _, dxl, _, _, rfl, (upd_ne nla).trans hla, T.cls_Letter, T.no_Letter_turn, rfl, _, rfl, a, _, dx, _, rfl, upd_same, T.cls_Client, T.no_Client_since, (by show (8 : Nat) < 1000; decide), ?_⟩
    rw [upd_upd]
    refine fun d2 hd2 => ?_
    have nad : a ≠ d2 := ne_of_none upd_same hd2
    rw [upd_ne nad.symm] at hd2
    refine ⟨_, rfl, a, _, dx, _, rfl, (by rw [upd_ne nad]; exact upd_same), T.cls_Client, T.no_Client_copied, (by show (8 : Nat) < 1000; decide), ?_⟩
    generalize hF : putF "copied" (.ref d2) (putF "since" (.int (x.turn : Nat)) (putF "up_to" (.int (x.turn : Nat)) (ClF.fs ⟨.int (x.client : Nat), .int (c.num : Nat), .ref pa, optV c.upto, .int (c.since : Nat), .ref d, .int (c.events : Nat), .int (c.pictures : Nat)⟩))) = F
    have hF2 : F = ClF.fs ⟨.int (x.client : Nat), .int (c.num : Nat), .ref pa, .int (x.turn : Nat), .int (x.turn : Nat), .ref d2, .int (c.events : Nat), .int (c.pictures : Nat)⟩ := hF.symm
    rw [hF2]
    clear hF hF2
    have k2 : Kp [a, d] H (upd (upd (upd H a (.ins (C_Client K) dx (putF "since" (.int (x.turn : Nat)) (putF "up_to" (.int (x.turn : Nat)) (ClF.fs ⟨.int (x.client : Nat), .int (c.num : Nat), .ref pa, optV c.upto, .int (c.since : Nat), .ref d, .int (c.events : Nat), .int (c.pictures : Nat)⟩))))) d2 (.dT [])) a (.ins (C_Client K) dx (ClF.fs ⟨.int (x.client : Nat), .int (c.num : Nat), .ref pa, .int (x.turn : Nat), .int (x.turn : Nat), .ref d2, .int (c.events : Nat), .int (c.pictures : Nat)⟩))) := by
      intro y o e n
      have ny : y ≠ a := fun z => by
        rcases n with n | n
        · exact n (by rw [z]; simp)
        · rw [z, hca] at e; cases e; cases n
      rw [upd_ne ny, upd_ne (ne_of_none e hd2), upd_ne ny]; exact e
    have ha2 : upd (upd (upd H a (.ins (C_Client K) dx (putF "since" (.int (x.turn : Nat)) (putF "up_to" (.int (x.turn : Nat)) (ClF.fs ⟨.int (x.client : Nat), .int (c.num : Nat), .ref pa, optV c.upto, .int (c.since : Nat), .ref d, .int (c.events : Nat), .int (c.pictures : Nat)⟩))))) d2 (.dT [])) a (.ins (C_Client K) dx (ClF.fs ⟨.int (x.client : Nat), .int (c.num : Nat), .ref pa, .int (x.turn : Nat), .int (x.turn : Nat), .ref d2, .int (c.events : Nat), .int (c.pictures : Nat)⟩)) a = some (.ins (C_Client K) dx (ClF.fs ⟨.int (x.client : Nat), .int (c.num : Nat), .ref pa, .int (x.turn : Nat), .int (x.turn : Nat), .ref d2, .int (c.events : Nat), .int (c.pictures : Nat)⟩)) := upd_same
    have hd22 : upd (upd (upd H a (.ins (C_Client K) dx (putF "since" (.int (x.turn : Nat)) (putF "up_to" (.int (x.turn : Nat)) (ClF.fs ⟨.int (x.client : Nat), .int (c.num : Nat), .ref pa, optV c.upto, .int (c.since : Nat), .ref d, .int (c.events : Nat), .int (c.pictures : Nat)⟩))))) d2 (.dT [])) a (.ins (C_Client K) dx (ClF.fs ⟨.int (x.client : Nat), .int (c.num : Nat), .ref pa, .int (x.turn : Nat), .int (x.turn : Nat), .ref d2, .int (c.events : Nat), .int (c.pictures : Nat)⟩)) d2 = some (.dT (dc [])) := by rw [upd_ne nad.symm, upd_same]; rfl
    generalize upd (upd (upd H a (.ins (C_Client K) dx (putF "since" (.int (x.turn : Nat)) (putF "up_to" (.int (x.turn : Nat)) (ClF.fs ⟨.int (x.client : Nat), .int (c.num : Nat), .ref pa, optV c.upto, .int (c.since : Nat), .ref d, .int (c.events : Nat), .int (c.pictures : Nat)⟩))))) d2 (.dT [])) a (.ins (C_Client K) dx (ClF.fs ⟨.int (x.client : Nat), .int (c.num : Nat), .ref pa, .int (x.turn : Nat), .int (x.turn : Nat), .ref d2, .int (c.events : Nat), .int (c.pictures : Nat)⟩)) = H2 at k2 ha2 hd22
    have nea : ena ≠ a := fun z => hena (by rw [z]; exact ma)
    have ned : ena ≠ d := fun z => hena (by rw [z]; simp [WAd.mu, List.mem_of_getElem? hd])
    have nad3 : ena ∉ [a, d] := by simp; exact ⟨nea, ned⟩
    refine ⟨_, rfl, l, _, dxl, _, _, rfl, k2.imm hla, T.cls_Letter, T.no_Letter_entries, rfl, ena, rfl, ⟨_, SqL.of (k2.at_ hel nad3)⟩, for_list (K := K) (a := ena) (xs := evs) (fun j σ H' => ∃ v2 v3, σ = [some (.ref a), some (.ref l), v2, v3] ∧ Kp [a, d] H H' ∧ H' a = some (.ins (C_Client K) dx (ClF.fs ⟨.int (x.client : Nat), .int (c.num : Nat), .ref pa, .int (x.turn : Nat), .int (x.turn : Nat), .ref d2, .int (c.events : Nat), .int (c.pictures : Nat)⟩)) ∧
      H' d2 = some (.dT (dc (x.nodes.take j)))) ⟨none, none, rfl, k2, ha2, hd22⟩ (fun j σ H' _ h => ?_) ?_ ?_⟩
    · obtain ⟨_, _, _, k, _⟩ := h
      exact SqL.of (k.at_ hel nad3)
    · rintro j v σ H' hv ⟨v2, v3, rfl, k, ha3, hd3⟩
      obtain ⟨y, hyj, tp, epa, rfl, htp, hepa⟩ := Paired.get pe hv
      have hlt := (List.getElem?_eq_some_iff.mp hyj).1
      have hcnt := ok.cnt
      refine ⟨tp, _, rfl, SqT.of (k.tup htp), rfl, _, _, rfl, _, _, rfl, rfl, ?_⟩
      refine ⟨_, rfl, _, rfl, a, _, dx, _, _, rfl, ha3, T.cls_Client, T.no_Client_copied, rfl, _, rfl, d2, _, rfl, DPut.t (k := pkey y.1) hd3 (by rw [pkey_kV]; exact k.tup hepa) (sizeLine_big (by rw [List.length_map, List.length_take]; omega)), ?_⟩
      refine ⟨_, _, rfl, k.own hd2, by rw [upd_ne nad]; exact ha3, ?_⟩
      have e : Wt.putKP y.1 y.2 (x.nodes.take j) = x.nodes.take (j + 1) := by
        rw [take_snoc hyj]
        unfold Wt.putKP
        rw [if_neg]
        intro z
        obtain ⟨m, hm, hp⟩ := List.any_eq_true.mp z
        exact take_keys ok.srt hyj m hm (of_decide_eq_true hp)
      rw [upd_same, dc_put, e]
    · rintro σ H' ⟨v2, v3, rfl, k, ha3, hd3⟩
      rw [List.take_of_length_le (by omega)] at hd3
      refine ⟨_, rfl, a, _, dx, _, rfl, ha3, T.cls_Client, T.no_Client_events_had, (by show (8 : Nat) < 1000; decide), ?_⟩
      refine ⟨_, rfl, a, _, dx, _, _, rfl, upd_same, T.cls_Client, T.no_Client_pictures_had, rfl, _, _, rfl, rfl, dx, _, upd_same, (by show (8 : Nat) < 1000; decide), ?_⟩
      rw [upd_upd]
      have p := A.set_client (c' := { c with upto := some x.turn, since := x.turn, copy := x.nodes, events := 0, pictures := c.pictures + 1 }) ha hd (k.put (by simp) ha3) (.inr hd2) ⟨dx, pa, x.nodes, upd_same, (k.put (by simp) ha3).tup hpa, by rw [upd_ne nad.symm]; exact hd3, List.Perm.refl _⟩
      exact q _ { W with es := W.es.set x.client d2 } 4 rfl p.1 p.2 rfl
def pm_Client_entries_in_order (K : PySem.W.Frag) : Pm := fun vs H Q => ∃ (i : Nat) (a d : Addr) (c : Ag07.Client), vs = [.ref a] ∧ ClientAt K H i a d c ∧ SrtP c.copy ∧ (∀ y ∈ c.copy, y.1 ≠ []) ∧ c.copy.length ≤ 100000 ∧
  ∀ H' D vs', H D = none → H' D = some (.lst vs') → Paired (EntryAt K H') vs' c.copy → Kp [] H H' → Q (.ref D) H'
theorem SrtP.inj {l : List Pr} (h : SrtP l) : ∀ {a b : Pr}, a ∈ l → b ∈ l → a.1 = b.1 → a = b := by
  induction l with
  | nil => intro a b ha; cases ha
  | cons x l ih =>
    rw [SrtP, List.pairwise_cons] at h
    intro a b ha hb e
    rcases List.mem_cons.mp ha with rfl | ha' <;> rcases List.mem_cons.mp hb with rfl | hb'
    · rfl
    · have := h.1 b hb'; rw [e] at this; exact absurd this (List.lt_irrefl _)
    · have := h.1 a ha'; rw [e] at this; exact absurd this (List.lt_irrefl _)
    · exact ih h.2 ha' hb' e
theorem ok_Client_entries_in_order (T : Tx K mg) : HasFn Prog w K mg base 1 (He.fAd K d_Client_entries_in_order.at_) p_Client_entries_in_order (pm_Client_entries_in_order K) := by
  refine mkFn T.fun_Client_entries_in_order S_Client_entries_in_order (fun _ _ _ _ _ _ us hl => match us, hl with | [_], _ => rfl) ?_ fun cdv A outer s H E hr => ⟨_,
    (pss_one (ps_ret (pe_lc (own := [("path", 1)]) (g := gName 1) (tt := tYes) (te := (tTup (tCons (tVar 1) (tCons (tDGet (tFld K (tVar 0) "copied") (tVar 1)) tNil)))) rfl S_Client_entries_in_order.nd (pi_list (pe_callB (cr_sortD hr.units rfl) (by rfl) T.free_sorted (by decide +kernel) (pa_cons (pe_fld (pv 0) rfl) pa_nil))) (blkOk_by (own := [("path", 1)]) (N := n_Client_entries_in_order) (sc := sc_Client_entries_in_order) (by decide +kernel)) (fun _ _ _ _ _ => pg_name (i := 1) S_Client_entries_in_order.nd rfl (Or.inl rfl)) (fun _ _ _ _ _ => pts_nil) (fun _ _ _ _ _ => (pe_tup (pa_cons (pv 1) (pa_cons (pe_dget (hu_of hr) (pe_fld (pv 0) rfl) (pv 1) (fun _ _ => rfl)) pa_nil))))))), ?_⟩
  · rintro vs H Q ⟨i, a, d, c, rfl, _⟩; rfl
  · rintro vs Q ⟨i, a, d, c, rfl, ⟨dx, pa, kvs, hca, hpa, hdd, hperm⟩, srt, hne, hlen, q⟩
    refine ⟨_, rfl, a, _, dx, _, _, rfl, hca, T.cls_Client, T.no_Client_copied, rfl, d, dc kvs, kvs.map (·.1), rfl, .inl hdd, by rw [List.map_map, List.map_map]; rfl, ?_, fun xs P hP hxs perm lsrt => ?_⟩
    · intro p hp
      obtain ⟨n, hn, rfl⟩ := List.mem_map.mp hp
      exact hne n (hperm.mem_iff.mp hn)
    have hxp : xs.map (·.2) = c.copy.map (·.1) := by
      refine sort_paths (perm.trans (hperm.map _)) ?_ lsrt
      rw [List.pairwise_map]; exact srt
    have k1 : Kp [] H (upd H P (.lst (xs.map fun y => V.ref y.1))) := (Kp.refl _ _).new hP
    have hP1 : upd H P (.lst (xs.map fun y => V.ref y.1)) P = some (.lst (xs.map fun y => V.ref y.1)) := upd_same
    generalize upd H P (.lst (xs.map fun y => V.ref y.1)) = H1 at k1 hP1
    have hxl : xs.length = c.copy.length := by have := congrArg List.length hxp; rwa [List.length_map, List.length_map] at this
    refine ⟨P, rfl, ⟨_, SqL.of hP1⟩, fun D hD => lc_list (K := K) (a := P) (xs := xs.map fun y => V.ref y.1) (fun j H' => Kp [] H1 H' ∧ ∃ acc, H' D = some (.lst acc) ∧ Paired (EntryAt K H') acc (c.copy.take j)) ⟨(Kp.refl _ _).new hD, [], upd_same, .nil⟩ (fun j H' _ h => SqL.of (h.1.at_ hP1 (by simp))) ?_ ?_⟩
    · rintro j v H' hv ⟨k, acc, hdl, pacc⟩
      obtain ⟨y, hyj, rfl⟩ := map_get hv
      have h1 : (xs.map (·.2))[j]? = some y.2 := by rw [List.getElem?_map, hyj]; rfl
      rw [hxp] at h1
      obtain ⟨nd, hnd, hyp⟩ := map_get h1
      have hmem := List.mem_of_getElem? hnd
      have kk := k1.trans k
      have ht := kk.tup (hxs y (List.mem_of_getElem? hyj))
      rw [hyp] at ht
      have hdd' := kk.at_ hdd (by simp)
      have gt : DGet H' d (.ref y.1) (some (V.int (nd.2 : Nat))) := by
        have g := DGet.t (k := pkey nd.1) hdd' (by rw [pkey_kV]; exact ht)
        rcases dc_val kvs nd.1 with ⟨_, h2⟩ | ⟨v, h1, h2⟩
        · exact absurd rfl (h2 nd (hperm.mem_iff.mpr hmem))
        · have e := srt.inj (hperm.mem_iff.mp h2) hmem rfl
          have ev : v = nd.2 := congrArg Prod.snd e
          rw [h1, ev] at g
          exact g
      refine ⟨rfl, tYes_if ?_⟩
      refine ⟨_, rfl, _, rfl, a, _, dx, _, _, rfl, kk.at_ hca (by simp), T.cls_Client, T.no_Client_copied, rfl, _, rfl, d, _, rfl, gt, (by show (2 : Nat) ≤ sizeLine; decide), fun tp htp => ?_⟩
      have k3 : Kp [] H' (upd H' tp (.tup [.ref y.1, .int (nd.2 : Nat)])) := (Kp.refl _ _).new htp
      have htp3 : upd H' tp (.tup [.ref y.1, .int (nd.2 : Nat)]) tp = some (.tup [.ref y.1, .int (nd.2 : Nat)]) := upd_same
      have hd3 := k3.at_ hdl (by simp)
      have kD := (Kp.refl [D] (upd H' tp (.tup [.ref y.1, .int (nd.2 : Nat)]))).put (o := .lst (acc ++ [.ref tp])) (by simp) hd3
      refine ⟨acc, hd3, ?_, (k.trans k3).own hD, acc ++ [.ref tp], upd_same, ?_⟩
      · have e1 := Paired.len pacc
        rw [List.length_take] at e1
        exact sizeLine_big (by omega)
      · rw [take_snoc hnd]
        exact Paired.app (Paired.imp pacc fun _ _ h => (h.keep k3).keep kD) (.cons ⟨tp, y.1, rfl, kD.tup htp3, kD.tup (k3.tup ht)⟩ .nil)
    · rintro H2 ⟨k2, acc, hdl, pacc⟩
      rw [List.take_of_length_le (by rw [List.length_map]; omega)] at pacc
      exact q H2 D acc (k1.free (by simp) hD) hdl pacc (k1.trans k2)
end
end Wt

set_option Elab.async false
set_option linter.all false
set_option maxRecDepth 100000
set_option maxHeartbeats 4000000
namespace Wt
open PySem PySem.Spec PyProof.Rows L2
abbrev ivs (l : List Int) : List V := l.map V.int
theorem sizeLine_big2 {n : Nat} (h : n ≤ 10000000) : n < sizeLine := Nat.lt_of_le_of_lt h (by decide)
theorem flat_snoc {α β : Type} {f : α → List β} {l : List α} {j : Nat} {x : α} (h : l[j]? = some x) : (l.take (j + 1)).flatMap f = (l.take j).flatMap f ++ f x := by
  rw [take_snoc h, List.flatMap_append]; simp
theorem flat_take_le {α β : Type} (f : α → List β) (l : List α) (j : Nat) : ((l.take j).flatMap f).length ≤ (l.flatMap f).length := by
  have e : l.flatMap f = (l.take j).flatMap f ++ (l.drop j).flatMap f := by rw [← List.flatMap_append, List.take_append_drop]
  rw [e, List.length_append]; omega
theorem nums_app (a b : List Nat) : Ag07.nums (a ++ b) = Ag07.nums a ++ Ag07.nums b := by unfold Ag07.nums; rw [List.map_append]
theorem nums_cons (a : Nat) (b : List Nat) : Ag07.nums (a :: b) = (a : Int) :: Ag07.nums b := rfl
theorem nums_len (a : List Nat) : (Ag07.nums a).length = a.length := by unfold Ag07.nums; rw [List.length_map]
theorem ivs_nums (l : List Nat) : ivs (Ag07.nums l) = pvs l := by unfold ivs Ag07.nums pvs; rw [List.map_map]; rfl
theorem ivs_app (a b : List Int) : ivs (a ++ b) = ivs a ++ ivs b := List.map_append
theorem ivs_len (a : List Int) : (ivs a).length = a.length := List.length_map _
/-- a list of one's own grows -/
theorem ext_own {H H1 : Hp} {p : Addr} {z y : List Int} (k : Kp [] H H1) (hp : H p = none) : Kp [] H (upd H1 p (.lst (ivs z ++ ivs y))) ∧ upd H1 p (.lst (ivs z ++ ivs y)) p = some (.lst (ivs (z ++ y))) :=
  ⟨k.own hp, by rw [upd_same, ivs_app]⟩
/-- a def that tells numbers: a new list of them -/
abbrev Tells (H : Hp) (ans : List Int) (Q : VK) : Prop := ∀ H' p, H p = none → H' p = some (.lst (ivs ans)) → Kp [] H H' → Q (.ref p) H'
section
variable {w : World} {K : PySem.W.Frag} {mg : Str → Option Value} {base : Heap}
def pm_tell_turn (K : PySem.W.Frag) : Pm := fun vs H Q => ∃ r : Option Nat, vs = [optV r] ∧ Q (.int (Ag07.option r)) H
theorem ok_tell_turn (T : Tx K mg) : HasFn Prog w K mg base 1 (He.fAd K d_tell_turn.at_) p_tell_turn (pm_tell_turn K) := by
  refine mkFn T.fun_tell_turn S_tell_turn (fun _ _ _ _ _ _ us hl => match us, hl with | [_], _ => rfl) ?_ fun cdv A outer s H E hr => ⟨_,
    (pss_one (ps_ret (pe_ifExp (pt_cmpR op_isN (pv 0) pe_non (nomark _)) (pe_gint (by rfl) T.int_NONE) (pv 0)))), ?_⟩
  · rintro vs H Q ⟨r, rfl, _⟩; rfl
  · rintro vs Q ⟨r, rfl, q⟩
    cases r with
    | none => exact ⟨_, rfl, rfl, _, rfl, iteT q⟩
    | some t => exact ⟨_, rfl, rfl, _, rfl, iteF ⟨_, rfl, q⟩⟩
def pm_tell_row (K : PySem.W.Frag) : Pm := fun vs H Q => ∃ (a : Addr) (l : List Nat), vs = [.ref a] ∧ (H a = some (.tup (pvs l)) ∨ H a = some (.lst (pvs l))) ∧ l.length ≤ 1000000 ∧ Tells H (Ag07.nums (Ag07.row l)) Q
theorem ok_tell_row (T : Tx K mg) : HasFn Prog w K mg base 1 (He.fAd K d_tell_row.at_) p_tell_row (pm_tell_row K) := by
  refine mkFn T.fun_tell_row S_tell_row (fun _ _ _ _ _ _ us hl => match us, hl with | [_], _ => rfl) ?_ fun cdv A outer s H E hr => ⟨_,
    (pss_one (ps_ret (pe_op op_cat (pe_lst (pa_cons (pe_callB call_len (by rfl) T.free_len PySem.boot_len (pa_cons (pv 0) pa_nil)) pa_nil)) (pe_callTy call_list_of (by rfl) T.free_list (by decide +kernel) (pa_cons (pv 0) pa_nil))))), ?_⟩
  · rintro vs H Q ⟨a, l, rfl, _⟩; rfl
  · rintro vs Q ⟨a, l, rfl, ha, hlen, q⟩
    have hl : ∀ H', Kp [] H H' → SqL K H' a (pvs l) ∨ SqT K H' a (pvs l) := fun H' k => ha.symm.imp (fun h => SqL.of (k.at_ h (by simp))) (fun h => SqT.of (k.at_ h (by simp)))
    have hn : LenV K (.ref a) H l.length := by
      rcases hl H (Kp.refl _ _) with h | h
      · exact Or.inl ⟨_, h, by simp⟩
      · exact Or.inr ⟨_, h, by simp⟩
    refine ⟨_, rfl, _, l.length, rfl, hn, (by show (1 : Nat) ≤ sizeLine; decide), fun L hL => ?_⟩
    have k1 : Kp [] H (upd H L (.lst [.int (l.length : Nat)])) := (Kp.refl _ _).new hL
    refine ⟨_, rfl, a, pvs l, rfl, hl _ k1, fun M hM => ?_⟩
    have k2 : Kp [] (upd H L (.lst [.int (l.length : Nat)])) (upd (upd H L (.lst [.int (l.length : Nat)])) M (.lst (pvs l))) := (Kp.refl _ _).new hM
    refine ⟨L, M, _, _, rfl, rfl, k2.at_ upd_same (by simp), upd_same, ?_, fun p hp => ?_⟩
    · rw [List.length_map]; exact Nat.le_of_lt (sizeLine_big2 (by show 1 + l.length ≤ _; omega))
    · refine q _ p ((k1.trans k2).free (by simp) hp) ?_ ((k1.trans k2).new hp)
      rw [upd_same, ivs_nums]; rfl
def pm_tell_events (K : PySem.W.Frag) : Pm := fun vs H Q => ∃ (a : Addr) (ev : List V) (es : List Ag07.Event), vs = [.ref a] ∧ H a = some (.lst ev) ∧ Paired (EventAt K H) ev es ∧ (∀ x ∈ es, x.path.length ≤ 1000000) ∧ (es.length :: es.flatMap Ag07.eventOf).length ≤ 10000000 ∧ Tells H (Ag07.nums (es.length :: es.flatMap Ag07.eventOf)) Q
theorem ok_tell_events (T : Tx K mg) : HasFn Prog w K mg base 2 (He.fAd K d_tell_events.at_) p_tell_events (pm_tell_events K) := by
  refine mkFn T.fun_tell_events S_tell_events (fun _ _ _ _ _ _ us hl => match us, hl with | [_], _ => rfl) ?_ fun cdv A outer s H E hr => ⟨_,
    (pss_cons (ps_set (i := 1) S_tell_events.nd rfl (Or.inl rfl) (pe_lst (pa_cons (pe_callB call_len (by rfl) T.free_len PySem.boot_len (pa_cons (pv 0) pa_nil)) pa_nil)))
    (pss_cons (ps_for PassesOwn.never rfl (pi_list (pv 0)) (pg_name (i := 2) S_tell_events.nd rfl (Or.inl rfl)) (pss_cons (ps_expr (pe_bm PySem.F.plainAttrs_list PySem.F.slot_list_extend PySem.F.type_list_extend mt_extend (pv 1) (pa_cons (pe_lst (pa_cons (pe_fld (pv 2) rfl) (pa_cons (pe_fld (pv 2) rfl) pa_nil))) pa_nil)))
    (pss_one (ps_expr (pe_bm PySem.F.plainAttrs_list PySem.F.slot_list_extend PySem.F.type_list_extend mt_extend (pv 1) (pa_cons (pe_callH (ok_tell_row T) (hr.mono (by decide)) (by rfl) T.glo_tell_row (pa_cons (pe_fld (pv 2) rfl) pa_nil)) pa_nil))))))
    (pss_one (ps_ret (pv 1))))), ?_⟩
  · rintro vs H Q ⟨a, ev, es, rfl, _⟩; rfl
  · rintro vs Q ⟨a, ev, es, rfl, hl, pe, hpl, hlen, q⟩
    have hel := Paired.len pe
    refine ⟨_, rfl, _, ev.length, rfl, Or.inl ⟨_, SqL.of hl, rfl⟩, (by show (1 : Nat) ≤ sizeLine; decide), fun p hp => ?_⟩
    have k1 : Kp [] H (upd H p (.lst [.int (ev.length : Nat)])) := (Kp.refl _ _).new hp
    have hp1 : upd H p (.lst [.int (ev.length : Nat)]) p = some (.lst (ivs (Ag07.nums (es.length :: (es.take 0).flatMap Ag07.eventOf)))) := by rw [upd_same, hel]; rfl
    generalize upd H p (.lst [.int (ev.length : Nat)]) = H1 at k1 hp1
    refine ⟨_, rfl, a, rfl, ⟨_, SqL.of (k1.at_ hl (by simp))⟩, for_list (K := K) (a := a) (xs := ev) (fun j σ H' => ∃ v, σ = [some (.ref a), some (.ref p), v] ∧ Kp [] H H' ∧ H' p = some (.lst (ivs (Ag07.nums (es.length :: (es.take j).flatMap Ag07.eventOf))))) ⟨none, rfl, k1, hp1⟩ (fun j σ H' _ h => ?_) ?_ ?_⟩
    · obtain ⟨_, _, k, _⟩ := h
      exact SqL.of (k.at_ hl (by simp))
    · rintro j v σ H' hv ⟨v0, rfl, k, hp2⟩
      obtain ⟨e, hej, ea, edx, epa, rfl, hea, hepa⟩ := Paired.get pe hv
      have hb := flat_take_le Ag07.eventOf es (j + 1)
      rw [flat_snoc hej, List.length_append] at hb
      have hb2 : (Ag07.eventOf e).length = e.path.length + 3 := by unfold Ag07.eventOf Ag07.row; simp
      have hb3 : (es.flatMap Ag07.eventOf).length + 1 ≤ 10000000 := hlen
      refine ⟨_, rfl, .inl ⟨rfl, _, SqL.of hp2⟩, ?_⟩
      refine ⟨_, rfl, ea, _, edx, _, _, rfl, k.imm hea, T.cls_Event, T.no_Event_what, rfl, _, rfl, ea, _, edx, _, _, rfl, k.imm hea, T.cls_Event, T.no_Event_value, rfl, (by show (2 : Nat) ≤ sizeLine; decide), fun L hL => ?_⟩
      have k2 : Kp [] H' (upd H' L (.lst [.int (e.what : Nat), .int (e.value : Nat)])) := (Kp.refl _ _).new hL
      refine ⟨p, L, _, _, rfl, rfl, k2.at_ hp2 (by simp), upd_same, ?_, ?_⟩
      · rw [ivs_len, nums_len, List.length_cons]; exact Nat.le_of_lt (sizeLine_big2 (by show _ + 2 ≤ _; omega))
      have p3 := ext_own (z := Ag07.nums (es.length :: (es.take j).flatMap Ag07.eventOf)) (y := [(e.what : Int), (e.value : Int)]) (k.trans k2) hp
      show (fun _ H4 => _) _ (upd (upd H' L (.lst [.int (e.what : Nat), .int (e.value : Nat)])) p (.lst (ivs (Ag07.nums (es.length :: (es.take j).flatMap Ag07.eventOf)) ++ ivs [(e.what : Int), (e.value : Int)])))
      generalize upd (upd H' L (.lst [.int (e.what : Nat), .int (e.value : Nat)])) p (.lst (ivs (Ag07.nums (es.length :: (es.take j).flatMap Ag07.eventOf)) ++ ivs [(e.what : Int), (e.value : Int)])) = H3 at p3
      refine ⟨_, rfl, .inl ⟨rfl, _, SqL.of p3.2⟩, ?_⟩
      refine ⟨_, rfl, ea, _, edx, _, _, rfl, p3.1.imm hea, T.cls_Event, T.no_Event_path, rfl, epa, e.path, rfl, .inl (p3.1.tup hepa), hpl e (List.mem_of_getElem? hej), fun H4 q4 hq4 hq4' k4 => ?_⟩
      refine ⟨p, q4, _, _, rfl, rfl, k4.at_ p3.2 (by simp), hq4', ?_, ?_⟩
      · rw [ivs_len, ivs_len, List.length_append, nums_len, nums_len, List.length_cons]; exact Nat.le_of_lt (sizeLine_big2 (by show _ + 2 + (e.path.length + 1) ≤ _; omega))
      have p5 := ext_own (z := Ag07.nums (es.length :: (es.take j).flatMap Ag07.eventOf) ++ [(e.what : Int), (e.value : Int)]) (y := Ag07.nums (Ag07.row e.path)) (p3.1.trans k4) hp
      refine ⟨_, rfl, p5.1, ?_⟩
      rw [p5.2, flat_snoc hej]
      unfold Ag07.nums Ag07.eventOf
      simp
    · rintro σ H' ⟨v, rfl, k, hp2⟩
      rw [List.take_of_length_le (by omega)] at hp2
      exact ⟨_, rfl, q H' p hp hp2 k⟩
def pm_tell_entries (K : PySem.W.Frag) : Pm := fun vs H Q => ∃ (a : Addr) (ev : List V) (es : List (List Nat × Nat)), vs = [.ref a] ∧ H a = some (.lst ev) ∧ Paired (EntryAt K H) ev es ∧ (∀ x ∈ es, x.1.length ≤ 1000000) ∧ (es.length :: es.flatMap Ag07.pairOf).length ≤ 10000000 ∧ Tells H (Ag07.nums (es.length :: es.flatMap Ag07.pairOf)) Q
theorem ok_tell_entries (T : Tx K mg) : HasFn Prog w K mg base 2 (He.fAd K d_tell_entries.at_) p_tell_entries (pm_tell_entries K) := by
  refine mkFn T.fun_tell_entries S_tell_entries (fun _ _ _ _ _ _ us hl => match us, hl with | [_], _ => rfl) ?_ fun cdv A outer s H E hr => ⟨_,
    (pss_cons (ps_set (i := 1) S_tell_entries.nd rfl (Or.inl rfl) (pe_lst (pa_cons (pe_callB call_len (by rfl) T.free_len PySem.boot_len (pa_cons (pv 0) pa_nil)) pa_nil)))
    (pss_cons (ps_for PassesOwn.never rfl (pi_list (pv 0)) (pg_tup rfl (pgs_cons (pg_name (i := 2) S_tell_entries.nd rfl (Or.inl rfl)) (pgs_cons (pg_name (i := 3) S_tell_entries.nd rfl (Or.inl rfl)) pgs_nil))) (pss_cons (ps_expr (pe_bm PySem.F.plainAttrs_list PySem.F.slot_list_append PySem.F.type_list_append mt_append (pv 1) (pa_cons (pv 3) pa_nil)))
    (pss_one (ps_expr (pe_bm PySem.F.plainAttrs_list PySem.F.slot_list_extend PySem.F.type_list_extend mt_extend (pv 1) (pa_cons (pe_callH (ok_tell_row T) (hr.mono (by decide)) (by rfl) T.glo_tell_row (pa_cons (pv 2) pa_nil)) pa_nil))))))
    (pss_one (ps_ret (pv 1))))), ?_⟩
  · rintro vs H Q ⟨a, ev, es, rfl, _⟩; rfl
  · rintro vs Q ⟨a, ev, es, rfl, hl, pe, hpl, hlen, q⟩
    have hel := Paired.len pe
    refine ⟨_, rfl, _, ev.length, rfl, Or.inl ⟨_, SqL.of hl, rfl⟩, (by show (1 : Nat) ≤ sizeLine; decide), fun p hp => ?_⟩
    have k1 : Kp [] H (upd H p (.lst [.int (ev.length : Nat)])) := (Kp.refl _ _).new hp
    have hp1 : upd H p (.lst [.int (ev.length : Nat)]) p = some (.lst (ivs (Ag07.nums (es.length :: (es.take 0).flatMap Ag07.pairOf)))) := by rw [upd_same, hel]; rfl
    generalize upd H p (.lst [.int (ev.length : Nat)]) = H1 at k1 hp1
    refine ⟨_, rfl, a, rfl, ⟨_, SqL.of (k1.at_ hl (by simp))⟩, for_list (K := K) (a := a) (xs := ev) (fun j σ H' => ∃ v2 v3, σ = [some (.ref a), some (.ref p), v2, v3] ∧ Kp [] H H' ∧ H' p = some (.lst (ivs (Ag07.nums (es.length :: (es.take j).flatMap Ag07.pairOf))))) ⟨none, none, rfl, k1, hp1⟩ (fun j σ H' _ h => ?_) ?_ ?_⟩
    · obtain ⟨_, _, _, k, _⟩ := h
      exact SqL.of (k.at_ hl (by simp))
    · rintro j v σ H' hv ⟨v2, v3, rfl, k, hp2⟩
      obtain ⟨e, hej, tp, epa, rfl, htp, hepa⟩ := Paired.get pe hv
      have hb := flat_take_le Ag07.pairOf es (j + 1)
      rw [flat_snoc hej, List.length_append] at hb
      have hb2 : (Ag07.pairOf e).length = e.1.length + 2 := by unfold Ag07.pairOf Ag07.row; simp
      have hb3 : (es.flatMap Ag07.pairOf).length + 1 ≤ 10000000 := hlen
      refine ⟨tp, _, rfl, SqT.of (k.tup htp), rfl, _, _, rfl, _, _, rfl, rfl, ?_⟩
      refine ⟨_, rfl, .inl ⟨rfl, _, SqL.of hp2⟩, _, rfl, p, _, _, rfl, rfl, hp2, ?_, ?_⟩
      · rw [ivs_len, nums_len, List.length_cons]; exact sizeLine_big2 (by omega)
      have p3 := ext_own (z := Ag07.nums (es.length :: (es.take j).flatMap Ag07.pairOf)) (y := [(e.2 : Int)]) k hp
      show (fun _ H4 => _) _ (upd H' p (.lst (ivs (Ag07.nums (es.length :: (es.take j).flatMap Ag07.pairOf)) ++ ivs [(e.2 : Int)])))
      generalize upd H' p (.lst (ivs (Ag07.nums (es.length :: (es.take j).flatMap Ag07.pairOf)) ++ ivs [(e.2 : Int)])) = H3 at p3
      refine ⟨_, rfl, .inl ⟨rfl, _, SqL.of p3.2⟩, ?_⟩
      refine ⟨_, rfl, epa, e.1, rfl, .inl (p3.1.tup hepa), hpl e (List.mem_of_getElem? hej), fun H4 q4 hq4 hq4' k4 => ?_⟩
      refine ⟨p, q4, _, _, rfl, rfl, k4.at_ p3.2 (by simp), hq4', ?_, ?_⟩
      · rw [ivs_len, ivs_len, List.length_append, nums_len, nums_len, List.length_cons]; exact Nat.le_of_lt (sizeLine_big2 (by show _ + 1 + (e.1.length + 1) ≤ _; omega))
      have p5 := ext_own (z := Ag07.nums (es.length :: (es.take j).flatMap Ag07.pairOf) ++ [(e.2 : Int)]) (y := Ag07.nums (Ag07.row e.1)) (p3.1.trans k4) hp
      refine ⟨_, _, rfl, p5.1, ?_⟩
      rw [p5.2, flat_snoc hej]
      unfold Ag07.nums Ag07.pairOf
      simp
    · rintro σ H' ⟨v2, v3, rfl, k, hp2⟩
      rw [List.take_of_length_le (by omega)] at hp2
      exact ⟨_, rfl, q H' p hp hp2 k⟩
/-- a letter, told -/
def letNums (x : Ag07.Letter) : List Int := Ag07.nums ([x.kind, x.client, x.num] ++ Ag07.row x.path) ++ (Ag07.option x.after :: Ag07.nums (x.turn :: x.events.length :: (x.events.flatMap Ag07.eventOf ++ (x.nodes.length :: x.nodes.flatMap Ag07.pairOf))))
def pm_tell_letter (K : PySem.W.Frag) : Pm := fun vs H Q => ∃ (l : Addr) (mu : List Addr) (x : Ag07.Letter), vs = [.ref l] ∧ LetterAt K mu H (.ref l) x ∧ x.path.length ≤ 1000000 ∧ (∀ y ∈ x.events, y.path.length ≤ 1000000) ∧ (∀ y ∈ x.nodes, y.1.length ≤ 1000000) ∧ (letNums x).length ≤ 10000000 ∧ Tells H (letNums x) Q
theorem ok_tell_letter (T : Tx K mg) : HasFn Prog w K mg base 3 (He.fAd K d_tell_letter.at_) p_tell_letter (pm_tell_letter K) := by
  refine mkFn T.fun_tell_letter S_tell_letter (fun _ _ _ _ _ _ us hl => match us, hl with | [_], _ => rfl) ?_ fun cdv A outer s H E hr => ⟨_,
    (pss_cons (ps_set (i := 1) S_tell_letter.nd rfl (Or.inl rfl) (pe_lst (pa_cons (pe_fld (pv 0) rfl) (pa_cons (pe_fld (pv 0) rfl) (pa_cons (pe_fld (pv 0) rfl) pa_nil)))))
    (pss_cons (ps_expr (pe_bm PySem.F.plainAttrs_list PySem.F.slot_list_extend PySem.F.type_list_extend mt_extend (pv 1) (pa_cons (pe_callH (ok_tell_row T) (hr.mono (by decide)) (by rfl) T.glo_tell_row (pa_cons (pe_fld (pv 0) rfl) pa_nil)) pa_nil)))
    (pss_cons (ps_expr (pe_bm PySem.F.plainAttrs_list PySem.F.slot_list_extend PySem.F.type_list_extend mt_extend (pv 1) (pa_cons (pe_lst (pa_cons (pe_callH (ok_tell_turn T) (hr.mono (by decide)) (by rfl) T.glo_tell_turn (pa_cons (pe_fld (pv 0) rfl) pa_nil)) (pa_cons (pe_fld (pv 0) rfl) pa_nil))) pa_nil)))
    (pss_cons (ps_expr (pe_bm PySem.F.plainAttrs_list PySem.F.slot_list_extend PySem.F.type_list_extend mt_extend (pv 1) (pa_cons (pe_callH (ok_tell_events T) (hr.mono (by decide)) (by rfl) T.glo_tell_events (pa_cons (pe_fld (pv 0) rfl) pa_nil)) pa_nil)))
    (pss_cons (ps_expr (pe_bm PySem.F.plainAttrs_list PySem.F.slot_list_extend PySem.F.type_list_extend mt_extend (pv 1) (pa_cons (pe_callH (ok_tell_entries T) (hr.mono (by decide)) (by rfl) T.glo_tell_entries (pa_cons (pe_fld (pv 0) rfl) pa_nil)) pa_nil)))
    (pss_one (ps_ret (pv 1)))))))), ?_⟩
  · rintro vs H Q ⟨l, mu, x, rfl, _⟩; rfl
  · rintro vs Q ⟨l, mu, x, rfl, ⟨l', dx, pa, ev, en, e, hl, hpa, ⟨eva, evs, rfl, _, hev, pev⟩, ⟨ena, ens, rfl, _, hen, pen⟩⟩, hpl, hel, hnl, hlen, q⟩
    cases e
    have hn : (letNums x).length = 3 + (1 + x.path.length) + (2 + (x.events.flatMap Ag07.eventOf).length + 1 + (1 + (x.nodes.flatMap Ag07.pairOf).length)) := by
      unfold letNums Ag07.nums Ag07.row; simp; omega
    refine ⟨_, rfl, l, _, dx, _, _, rfl, hl, T.cls_Letter, T.no_Letter_kind, rfl, _, rfl, l, _, dx, _, _, rfl, hl, T.cls_Letter, T.no_Letter_client, rfl, _, rfl, l, _, dx, _, _, rfl, hl, T.cls_Letter, T.no_Letter_number, rfl, (by show (3 : Nat) ≤ sizeLine; decide), fun p hp => ?_⟩
    have k1 : Kp [] H (upd H p (.lst [.int (x.kind : Nat), .int (x.client : Nat), .int (x.num : Nat)])) := (Kp.refl _ _).new hp
    have hp1 : upd H p (.lst [.int (x.kind : Nat), .int (x.client : Nat), .int (x.num : Nat)]) p = some (.lst (ivs (Ag07.nums [x.kind, x.client, x.num]))) := by rw [upd_same]; rfl
    generalize upd H p (.lst [.int (x.kind : Nat), .int (x.client : Nat), .int (x.num : Nat)]) = H1 at k1 hp1
    -- path
    refine ⟨_, rfl, .inl ⟨rfl, _, SqL.of hp1⟩, _, rfl, l, _, dx, _, _, rfl, k1.imm hl, T.cls_Letter, T.no_Letter_path, rfl, pa, x.path, rfl, .inl (k1.tup hpa), hpl, fun H2 q2 hq2 hq2' k2 => ?_⟩
    refine ⟨p, q2, _, _, rfl, rfl, k2.at_ hp1 (by simp), hq2', ?_, ?_⟩
    · rw [ivs_len, ivs_len, nums_len, nums_len]; exact Nat.le_of_lt (sizeLine_big2 (by show 3 + (x.path.length + 1) ≤ _; omega))
    have p2 := ext_own (z := Ag07.nums [x.kind, x.client, x.num]) (y := Ag07.nums (Ag07.row x.path)) (k1.trans k2) hp
    have hz2 : (Ag07.nums [x.kind, x.client, x.num] ++ Ag07.nums (Ag07.row x.path)).length = 3 + (1 + x.path.length) := by rw [List.length_append, nums_len, nums_len]; unfold Ag07.row; simp; omega
    generalize upd H2 p (.lst (ivs (Ag07.nums [x.kind, x.client, x.num]) ++ ivs (Ag07.nums (Ag07.row x.path)))) = H3 at p2
    obtain ⟨k3, hp3⟩ := p2
    generalize hz2e : Ag07.nums [x.kind, x.client, x.num] ++ Ag07.nums (Ag07.row x.path) = z2 at hp3 hz2
    -- behind, turn
    refine ⟨_, rfl, .inl ⟨rfl, _, SqL.of hp3⟩, ?_⟩
    refine ⟨_, rfl, l, _, dx, _, _, rfl, k3.imm hl, T.cls_Letter, T.no_Letter_behind, rfl, x.after, rfl, _, rfl, l, _, dx, _, _, rfl, k3.imm hl, T.cls_Letter, T.no_Letter_turn, rfl, (by show (2 : Nat) ≤ sizeLine; decide), fun L hL => ?_⟩
    have k4 : Kp [] H3 (upd H3 L (.lst [.int (Ag07.option x.after), .int (x.turn : Nat)])) := (Kp.refl _ _).new hL
    refine ⟨p, L, _, _, rfl, rfl, k4.at_ hp3 (by simp), upd_same, ?_, ?_⟩
    · rw [ivs_len]; exact Nat.le_of_lt (sizeLine_big2 (by show _ + 2 ≤ _; omega))
    have p5 := ext_own (z := z2) (y := [Ag07.option x.after, (x.turn : Int)]) (k3.trans k4) hp
    have hz5 : (z2 ++ [Ag07.option x.after, (x.turn : Int)]).length = 3 + (1 + x.path.length) + 2 := by rw [List.length_append, hz2]; rfl
    show (fun _ H4 => _) _ (upd (upd H3 L (.lst [.int (Ag07.option x.after), .int (x.turn : Nat)])) p (.lst (ivs z2 ++ ivs [Ag07.option x.after, (x.turn : Int)])))
    generalize upd (upd H3 L (.lst [.int (Ag07.option x.after), .int (x.turn : Nat)])) p (.lst (ivs z2 ++ ivs [Ag07.option x.after, (x.turn : Int)])) = H5 at p5
    obtain ⟨k5, hp5⟩ := p5
    generalize hz5e : z2 ++ [Ag07.option x.after, (x.turn : Int)] = z5 at hp5 hz5
    -- events
    refine ⟨_, rfl, .inl ⟨rfl, _, SqL.of hp5⟩, _, rfl, l, _, dx, _, _, rfl, k5.imm hl, T.cls_Letter, T.no_Letter_events, rfl, eva, evs, x.events, rfl, k5.at_ hev (by simp), Paired.imp pev (fun _ _ h => h.keep k5), hel, by rw [List.length_cons]; omega, fun H6 q6 hq6 hq6' k6 => ?_⟩
    refine ⟨p, q6, _, _, rfl, rfl, k6.at_ hp5 (by simp), hq6', ?_, ?_⟩
    · rw [ivs_len, ivs_len, nums_len, List.length_cons]; exact Nat.le_of_lt (sizeLine_big2 (by omega))
    have p7 := ext_own (z := z5) (y := Ag07.nums (x.events.length :: x.events.flatMap Ag07.eventOf)) (k5.trans k6) hp
    have hz7 : (z5 ++ Ag07.nums (x.events.length :: x.events.flatMap Ag07.eventOf)).length = 3 + (1 + x.path.length) + 2 + ((x.events.flatMap Ag07.eventOf).length + 1) := by rw [List.length_append, hz5, nums_len, List.length_cons]
    generalize upd H6 p (.lst (ivs z5 ++ ivs (Ag07.nums (x.events.length :: x.events.flatMap Ag07.eventOf)))) = H7 at p7
    obtain ⟨k7, hp7⟩ := p7
    generalize hz7e : z5 ++ Ag07.nums (x.events.length :: x.events.flatMap Ag07.eventOf) = z7 at hp7 hz7
    -- entries
    refine ⟨_, rfl, .inl ⟨rfl, _, SqL.of hp7⟩, _, rfl, l, _, dx, _, _, rfl, k7.imm hl, T.cls_Letter, T.no_Letter_entries, rfl, ena, ens, x.nodes, rfl, k7.at_ hen (by simp), Paired.imp pen (fun _ _ h => h.keep k7), hnl, by rw [List.length_cons]; omega, fun H8 q8 hq8 hq8' k8 => ?_⟩
    refine ⟨p, q8, _, _, rfl, rfl, k8.at_ hp7 (by simp), hq8', ?_, ?_⟩
    · rw [ivs_len, ivs_len, nums_len, List.length_cons]; exact Nat.le_of_lt (sizeLine_big2 (by omega))
    have p9 := ext_own (z := z7) (y := Ag07.nums (x.nodes.length :: x.nodes.flatMap Ag07.pairOf)) (k7.trans k8) hp
    refine ⟨_, rfl, q _ p hp ?_ p9.1⟩
    rw [p9.2, ← hz7e, ← hz5e, ← hz2e]
    unfold letNums Ag07.nums
    simp
def pm_tell_letters (K : PySem.W.Frag) : Pm := fun vs H Q => ∃ (a : Addr) (mu : List Addr) (lv : List V) (ls : List Ag07.Letter), vs = [.ref a] ∧ H a = some (.lst lv) ∧ Paired (LetterAt K mu H) lv ls ∧
  (∀ x ∈ ls, x.path.length ≤ 1000000 ∧ (∀ y ∈ x.events, y.path.length ≤ 1000000) ∧ (∀ y ∈ x.nodes, y.1.length ≤ 1000000)) ∧ ((ls.length : Int) :: ls.flatMap letNums).length ≤ 10000000 ∧ Tells H ((ls.length : Int) :: ls.flatMap letNums) Q
theorem ok_tell_letters (T : Tx K mg) : HasFn Prog w K mg base 4 (He.fAd K d_tell_letters.at_) p_tell_letters (pm_tell_letters K) := by
  refine mkFn T.fun_tell_letters S_tell_letters (fun _ _ _ _ _ _ us hl => match us, hl with | [_], _ => rfl) ?_ fun cdv A outer s H E hr => ⟨_,
    (pss_cons (ps_set (i := 1) S_tell_letters.nd rfl (Or.inl rfl) (pe_lst (pa_cons (pe_callB call_len (by rfl) T.free_len PySem.boot_len (pa_cons (pv 0) pa_nil)) pa_nil)))
    (pss_cons (ps_for PassesOwn.never rfl (pi_list (pv 0)) (pg_name (i := 2) S_tell_letters.nd rfl (Or.inl rfl)) (pss_one (ps_expr (pe_bm PySem.F.plainAttrs_list PySem.F.slot_list_extend PySem.F.type_list_extend mt_extend (pv 1) (pa_cons (pe_callH (ok_tell_letter T) (hr.mono (by decide)) (by rfl) T.glo_tell_letter (pa_cons (pv 2) pa_nil)) pa_nil)))))
    (pss_one (ps_ret (pv 1))))), ?_⟩
  · rintro vs H Q ⟨a, mu, lv, ls, rfl, _⟩; rfl
  · rintro vs Q ⟨a, mu, lv, ls, rfl, hl, pl, hok, hlen, q⟩
    have hel := Paired.len pl
    refine ⟨_, rfl, _, lv.length, rfl, Or.inl ⟨_, SqL.of hl, rfl⟩, (by show (1 : Nat) ≤ sizeLine; decide), fun p hp => ?_⟩
    have k1 : Kp [] H (upd H p (.lst [.int (lv.length : Nat)])) := (Kp.refl _ _).new hp
    have hp1 : upd H p (.lst [.int (lv.length : Nat)]) p = some (.lst (ivs ((ls.length : Int) :: (ls.take 0).flatMap letNums))) := by rw [upd_same, hel]; rfl
    generalize upd H p (.lst [.int (lv.length : Nat)]) = H1 at k1 hp1
    refine ⟨_, rfl, a, rfl, ⟨_, SqL.of (k1.at_ hl (by simp))⟩, for_list (K := K) (a := a) (xs := lv) (fun j σ H' => ∃ v, σ = [some (.ref a), some (.ref p), v] ∧ Kp [] H H' ∧ H' p = some (.lst (ivs ((ls.length : Int) :: (ls.take j).flatMap letNums)))) ⟨none, rfl, k1, hp1⟩ (fun j σ H' _ h => ?_) ?_ ?_⟩
    · obtain ⟨_, _, k, _⟩ := h
      exact SqL.of (k.at_ hl (by simp))
    · rintro j v σ H' hv ⟨v0, rfl, k, hp2⟩
      obtain ⟨x, hxj, hx⟩ := Paired.get pl hv
      obtain ⟨l, _, _, _, _, e, _⟩ := id hx
      cases e
      have hb := flat_take_le letNums ls (j + 1)
      rw [flat_snoc hxj, List.length_append] at hb
      have hb3 : (ls.flatMap letNums).length + 1 ≤ 10000000 := hlen
      obtain ⟨o1, o2, o3⟩ := hok x (List.mem_of_getElem? hxj)
      refine ⟨_, rfl, .inl ⟨rfl, _, SqL.of hp2⟩, _, rfl, l, [], x, rfl, ?_, o1, o2, o3, by omega, fun H4 q4 hq4 hq4' k4 => ?_⟩
      · obtain ⟨a', dx', pa', ev', en', e', h1, h2, ⟨b1, b2, b3, _, b5, b6⟩, ⟨c1, c2, c3, _, c5, c6⟩⟩ := hx
        exact ⟨a', dx', pa', ev', en', e', k.imm h1, k.tup h2, ⟨b1, b2, b3, by simp, k.at_ b5 (by simp), Paired.imp b6 fun _ _ h => h.keep k⟩, ⟨c1, c2, c3, by simp, k.at_ c5 (by simp), Paired.imp c6 fun _ _ h => h.keep k⟩⟩
      refine ⟨p, q4, _, _, rfl, rfl, k4.at_ hp2 (by simp), hq4', ?_, ?_⟩
      · rw [ivs_len, ivs_len, List.length_cons]; exact Nat.le_of_lt (sizeLine_big2 (by omega))
      have p5 := ext_own (z := (ls.length : Int) :: (ls.take j).flatMap letNums) (y := letNums x) (k.trans k4) hp
      refine ⟨_, rfl, p5.1, ?_⟩
      rw [p5.2, flat_snoc hxj]; rfl
    · rintro σ H' ⟨v, rfl, k, hp2⟩
      rw [List.take_of_length_le (by omega)] at hp2
      exact ⟨_, rfl, q H' p hp hp2 k⟩
/-- a client, told -/
def cliNums (c : Ag07.Client) : List Int := Ag07.nums (c.num :: Ag07.row c.path) ++ (Ag07.option c.upto :: Ag07.nums ([c.since, c.events, c.pictures, c.copy.length] ++ c.copy.flatMap Ag07.pairOf))
def pm_tell_client (K : PySem.W.Frag) : Pm := fun vs H Q => ∃ (i : Nat) (a d : Addr) (c : Ag07.Client), vs = [.ref a] ∧ ClientAt K H i a d c ∧ SrtP c.copy ∧ (∀ y ∈ c.copy, y.1 ≠ [] ∧ y.1.length ≤ 1000000) ∧ c.copy.length ≤ 100000 ∧ c.path.length ≤ 1000000 ∧ (cliNums c).length ≤ 10000000 ∧ Tells H (cliNums c) Q
theorem ok_tell_client (T : Tx K mg) : HasFn Prog w K mg base 3 (He.fAd K d_tell_client.at_) p_tell_client (pm_tell_client K) := by
  refine mkFn T.fun_tell_client S_tell_client (fun _ _ _ _ _ _ us hl => match us, hl with | [_], _ => rfl) ?_ fun cdv A outer s H E hr => ⟨_,
    (pss_cons (ps_set (i := 1) S_tell_client.nd rfl (Or.inl rfl) (pe_lst (pa_cons (pe_fld (pv 0) rfl) pa_nil)))
    (pss_cons (ps_expr (pe_bm PySem.F.plainAttrs_list PySem.F.slot_list_extend PySem.F.type_list_extend mt_extend (pv 1) (pa_cons (pe_callH (ok_tell_row T) (hr.mono (by decide)) (by rfl) T.glo_tell_row (pa_cons (pe_fld (pv 0) rfl) pa_nil)) pa_nil)))
    (pss_cons (ps_expr (pe_bm PySem.F.plainAttrs_list PySem.F.slot_list_extend PySem.F.type_list_extend mt_extend (pv 1) (pa_cons (pe_lst (pa_cons (pe_callH (ok_tell_turn T) (hr.mono (by decide)) (by rfl) T.glo_tell_turn (pa_cons (pe_fld (pv 0) rfl) pa_nil)) (pa_cons (pe_fld (pv 0) rfl) (pa_cons (pe_fld (pv 0) rfl) (pa_cons (pe_fld (pv 0) rfl) pa_nil))))) pa_nil)))
    (pss_cons (ps_expr (pe_bm PySem.F.plainAttrs_list PySem.F.slot_list_extend PySem.F.type_list_extend mt_extend (pv 1) (pa_cons (pe_callH (ok_tell_entries T) (hr.mono (by decide)) (by rfl) T.glo_tell_entries (pa_cons (pe_methH0 (pv 0) T.cls_Client T.me_Client_entries_in_order (ok_Client_entries_in_order T) (hr.mono (by decide))) pa_nil)) pa_nil)))
    (pss_one (ps_ret (pv 1))))))), ?_⟩
  · rintro vs H Q ⟨i, a, d, c, rfl, _⟩; rfl
  · rintro vs Q ⟨i, a, d, c, rfl, hc, srt, hnd, hcl, hpl, hlen, q⟩
    obtain ⟨dx, pa, kvs, ha, hpa, hdd, hperm⟩ := id hc
    have hn : (cliNums c).length = 1 + (1 + c.path.length) + (1 + (4 + (c.copy.flatMap Ag07.pairOf).length)) := by
      unfold cliNums Ag07.nums Ag07.row; simp; omega
    refine ⟨_, rfl, a, _, dx, _, _, rfl, ha, T.cls_Client, T.no_Client_number, rfl, (by show (1 : Nat) ≤ sizeLine; decide), fun p hp => ?_⟩
    have k1 : Kp [] H (upd H p (.lst [.int (c.num : Nat)])) := (Kp.refl _ _).new hp
    have hp1 : upd H p (.lst [.int (c.num : Nat)]) p = some (.lst (ivs (Ag07.nums [c.num]))) := by rw [upd_same]; rfl
    generalize upd H p (.lst [.int (c.num : Nat)]) = H1 at k1 hp1
    refine ⟨_, rfl, .inl ⟨rfl, _, SqL.of hp1⟩, _, rfl, a, _, dx, _, _, rfl, k1.at_ ha (by simp), T.cls_Client, T.no_Client_path, rfl, pa, c.path, rfl, .inl (k1.tup hpa), hpl, fun H2 q2 hq2 hq2' k2 => ?_⟩
    refine ⟨p, q2, _, _, rfl, rfl, k2.at_ hp1 (by simp), hq2', ?_, ?_⟩
    · rw [ivs_len, ivs_len, nums_len, nums_len]; exact Nat.le_of_lt (sizeLine_big2 (by show 1 + (c.path.length + 1) ≤ _; omega))
    have p2 := ext_own (z := Ag07.nums [c.num]) (y := Ag07.nums (Ag07.row c.path)) (k1.trans k2) hp
    have hz2 : (Ag07.nums [c.num] ++ Ag07.nums (Ag07.row c.path)).length = 1 + (1 + c.path.length) := by rw [List.length_append, nums_len, nums_len]; unfold Ag07.row; simp; omega
    generalize upd H2 p (.lst (ivs (Ag07.nums [c.num]) ++ ivs (Ag07.nums (Ag07.row c.path)))) = H3 at p2
    obtain ⟨k3, hp3⟩ := p2
    generalize hz2e : Ag07.nums [c.num] ++ Ag07.nums (Ag07.row c.path) = z2 at hp3 hz2
    have ha3 := k3.at_ ha (by simp)
    refine ⟨_, rfl, .inl ⟨rfl, _, SqL.of hp3⟩, ?_⟩
    refine ⟨_, rfl, a, _, dx, _, _, rfl, ha3, T.cls_Client, T.no_Client_up_to, rfl, c.upto, rfl, _, rfl, a, _, dx, _, _, rfl, ha3, T.cls_Client, T.no_Client_since, rfl, _, rfl, a, _, dx, _, _, rfl, ha3, T.cls_Client, T.no_Client_events_had, rfl, _, rfl, a, _, dx, _, _, rfl, ha3, T.cls_Client, T.no_Client_pictures_had, rfl, (by show (4 : Nat) ≤ sizeLine; decide), fun L hL => ?_⟩
    have k4 : Kp [] H3 (upd H3 L (.lst [.int (Ag07.option c.upto), .int (c.since : Nat), .int (c.events : Nat), .int (c.pictures : Nat)])) := (Kp.refl _ _).new hL
    refine ⟨p, L, _, _, rfl, rfl, k4.at_ hp3 (by simp), upd_same, ?_, ?_⟩
    · rw [ivs_len]; exact Nat.le_of_lt (sizeLine_big2 (by show _ + 4 ≤ _; omega))
    have p5 := ext_own (z := z2) (y := [Ag07.option c.upto, (c.since : Int), (c.events : Int), (c.pictures : Int)]) (k3.trans k4) hp
    have hz5 : (z2 ++ [Ag07.option c.upto, (c.since : Int), (c.events : Int), (c.pictures : Int)]).length = 1 + (1 + c.path.length) + 4 := by rw [List.length_append, hz2]; rfl
    show (fun _ H4 => _) _ (upd (upd H3 L (.lst [.int (Ag07.option c.upto), .int (c.since : Nat), .int (c.events : Nat), .int (c.pictures : Nat)])) p (.lst (ivs z2 ++ ivs [Ag07.option c.upto, (c.since : Int), (c.events : Int), (c.pictures : Int)])))
    generalize upd (upd H3 L (.lst [.int (Ag07.option c.upto), .int (c.since : Nat), .int (c.events : Nat), .int (c.pictures : Nat)])) p (.lst (ivs z2 ++ ivs [Ag07.option c.upto, (c.since : Int), (c.events : Int), (c.pictures : Int)])) = H5 at p5
    obtain ⟨k5, hp5⟩ := p5
    generalize hz5e : z2 ++ [Ag07.option c.upto, (c.since : Int), (c.events : Int), (c.pictures : Int)] = z5 at hp5 hz5
    have hc5 := hc.keep k5 (by simp) (by simp)
    refine ⟨_, rfl, .inl ⟨rfl, _, SqL.of hp5⟩, _, rfl, a, dx, _, rfl, k5.at_ ha (by simp), rfl, i, a, d, c, rfl, hc5, srt, (fun y hy => (hnd y hy).1), hcl, fun H6 D dv hD hD' pD k6 => ?_⟩
    refine ⟨D, dv, c.copy, rfl, hD', pD, (fun y hy => (hnd y hy).2), by rw [List.length_cons]; omega, fun H7 q7 hq7 hq7' k7 => ?_⟩
    refine ⟨p, q7, _, _, rfl, rfl, (k6.trans k7).at_ hp5 (by simp), hq7', ?_, ?_⟩
    · rw [ivs_len, ivs_len, nums_len, List.length_cons]; exact Nat.le_of_lt (sizeLine_big2 (by omega))
    have p9 := ext_own (z := z5) (y := Ag07.nums (c.copy.length :: c.copy.flatMap Ag07.pairOf)) ((k5.trans k6).trans k7) hp
    refine ⟨_, rfl, q _ p hp ?_ p9.1⟩
    rw [p9.2, ← hz5e, ← hz2e]
    unfold cliNums Ag07.nums
    simp
theorem seen_at {l : List Ag07.Session} (nd : (l.map (·.sid)).Nodup) {i : Nat} {x : Ag07.Session} (h : l[i]? = some x) : valV (seenOf l) (Sum.inl (x.sid : Int)) = some (V.int (x.seen : Int)) := by
  rw [val_seen]
  have e : l.find? (fun y => y.sid == x.sid) = some x := by
    induction l generalizing i with
    | nil => simp at h
    | cons y l ih =>
      rw [List.map_cons, List.nodup_cons] at nd
      cases i with
      | zero => simp at h; subst h; simp
      | succ i =>
        have h' : l[i]? = some x := by simpa using h
        have ne : y.sid ≠ x.sid := fun z => nd.1 (by rw [z]; exact List.mem_map.mpr ⟨x, List.mem_of_getElem? h', rfl⟩)
        rw [List.find?_cons, show (y.sid == x.sid) = false by simp [ne]]
        exact ih nd.2 h'
  rw [e]; rfl
abbrev sesOf (x : Ag07.Session) : List Nat := [x.sid, x.seen]
def pm_tell_sessions (K : PySem.W.Frag) : Pm := fun vs H Q => ∃ (d : Addr) (ss : List Ag07.Session), vs = [.ref d] ∧ H d = some (.dK (seenOf ss)) ∧ (ss.map (·.sid)).Nodup ∧ (ss.length :: ss.flatMap sesOf).length ≤ 10000000 ∧ Tells H (Ag07.nums (ss.length :: ss.flatMap sesOf)) Q
theorem ok_tell_sessions (T : Tx K mg) : HasFn Prog w K mg base 1 (He.fAd K d_tell_sessions.at_) p_tell_sessions (pm_tell_sessions K) := by
  refine mkFn T.fun_tell_sessions S_tell_sessions (fun _ _ _ _ _ _ us hl => match us, hl with | [_], _ => rfl) ?_ fun cdv A outer s H E hr => ⟨_,
    (pss_cons (ps_set (i := 1) S_tell_sessions.nd rfl (Or.inl rfl) (pe_lst (pa_cons (pe_callB call_lenD (by rfl) T.free_len PySem.boot_len (pa_cons (pv 0) pa_nil)) pa_nil)))
    (pss_cons (ps_lock (ps_for PassesOwn.never rfl (pi_keys (pv 0)) (pg_name (i := 2) S_tell_sessions.nd rfl (Or.inl rfl)) (pss_one (ps_expr (pe_bm PySem.F.plainAttrs_list PySem.F.slot_list_extend PySem.F.type_list_extend mt_extend (pv 1) (pa_cons (pe_lst (pa_cons (pv 2) (pa_cons (pe_dget (hu_of hr) (pv 0) (pv 2) (fun _ _ => rfl)) pa_nil))) pa_nil))))))
    (pss_one (ps_ret (pv 1))))), ?_⟩
  · rintro vs H Q ⟨d, ss, rfl, _⟩; rfl
  · rintro vs Q ⟨d, ss, rfl, hd, nd, hlen, q⟩
    have hsl : (seenOf ss).length = ss.length := by unfold seenOf; rw [List.length_map]
    refine ⟨_, rfl, d, seenOf ss, rfl, hd, (by show (1 : Nat) ≤ sizeLine; decide), fun p hp => ?_⟩
    have npd : d ≠ p := ne_of_none hd hp
    have hd1 : upd H p (.lst [.int ((seenOf ss).length : Nat)]) d = some (.dK (seenOf ss)) := (upd_ne npd).trans hd
    have hp1 : upd H p (.lst [.int ((seenOf ss).length : Nat)]) p = some (.lst (ivs (Ag07.nums (ss.length :: (ss.take 0).flatMap sesOf)))) := by rw [upd_same, hsl]; rfl
    have kb : ∀ b o, H b = some o → upd H p (.lst [.int ((seenOf ss).length : Nat)]) b = some o := fun b o e => by rw [upd_ne (ne_of_none e hp)]; exact e
    show tSeq _ _ _ _ (upd H p (.lst [.int ((seenOf ss).length : Nat)]))
    generalize upd H p (.lst [.int ((seenOf ss).length : Nat)]) = H1 at hd1 hp1 kb
    refine ⟨d, _, hd1, True.intro, fun od => ?_⟩
    have hdl : upd H1 d (.frz od (.dK (seenOf ss))) d = some (.frz od (.dK (seenOf ss))) := upd_same
    have hpl : upd H1 d (.frz od (.dK (seenOf ss))) p = some (.lst (ivs (Ag07.nums (ss.length :: (ss.take 0).flatMap sesOf)))) := (upd_ne npd.symm).trans hp1
    have keep : ∀ b o, H b = some o → b ≠ d → upd H1 d (.frz od (.dK (seenOf ss))) b = some o := fun b o e n => by rw [upd_ne n]; exact kb b o e
    generalize upd H1 d (.frz od (.dK (seenOf ss))) = Hl at hdl hpl keep
    refine ⟨_, rfl, d, od, rfl, .inl ⟨seenOf ss, hdl, for_it walk_keys (fun j σ H' => ∃ v, σ = [some (.ref d), some (.ref p), v] ∧ (∀ b o, H b = some o → b ≠ d → H' b = some o) ∧ H' d = some (.frz od (.dK (seenOf ss))) ∧ H' p = some (.lst (ivs (Ag07.nums (ss.length :: (ss.take j).flatMap sesOf)))))
      ⟨none, rfl, keep, hdl, hpl⟩ (fun i σ H' _ h => by obtain ⟨_, _, _, h, _⟩ := h; exact h) ?_ ?_⟩⟩
    · rintro j x σ H' H2 hi ⟨v, rfl, kH, hf, h2⟩ ⟨rfl, key, u, hkv, rfl⟩
      obtain ⟨y, hyj, hy⟩ := map_get (show (ss.map _)[j]? = some (key, u) from hkv)
      cases hy
      have hb := flat_take_le sesOf ss (j + 1)
      rw [flat_snoc hyj, List.length_append] at hb
      have hb2 : (sesOf y).length = 2 := rfl
      have hb3 : (ss.flatMap sesOf).length + 1 ≤ 10000000 := hlen
      refine ⟨_, rfl, .inl ⟨rfl, _, SqL.of h2⟩, _, rfl, _, rfl, _, rfl, d, _, rfl, .inl ⟨seenOf ss, Sum.inl (y.sid : Int), .inr ⟨od, hf⟩, rfl, (seen_at nd hyj).symm⟩, (by show (2 : Nat) ≤ sizeLine; decide), fun L hL => ?_⟩
      have k2 : Kp [] H2 (upd H2 L (.lst [.int (y.sid : Nat), .int (y.seen : Nat)])) := (Kp.refl _ _).new hL
      refine ⟨p, L, _, _, rfl, rfl, k2.at_ h2 (by simp), upd_same, ?_, ?_⟩
      · rw [ivs_len, nums_len, List.length_cons]; exact Nat.le_of_lt (sizeLine_big2 (by show _ + 2 ≤ _; omega))
      refine ⟨_, rfl, fun b o e n => ?_, ?_, ?_⟩
      · rw [upd_ne (ne_of_none e hp)]; exact k2.at_ (kH b o e n) (by simp)
      · rw [upd_ne npd]; exact k2.at_ hf (by simp)
      · rw [upd_same, flat_snoc hyj]
        unfold Ag07.nums
        simp [kV]
    · rintro σ H2 ⟨v, rfl, kH, hf, h2⟩
      rw [hsl, List.take_length] at h2
      refine ⟨hf, _, rfl, ?_⟩
      refine q _ p hp ((upd_ne npd.symm).trans h2) fun b o e _ => ?_
      by_cases z : b = d
      · subst z; rw [hd] at e; cases e; exact upd_same
      · rw [upd_ne z]; exact kH b o e z
abbrev watOf (x : Ag07.Watcher) : List Nat := [x.client, x.num, x.last] ++ Ag07.row x.path
def pm_tell_watchers (K : PySem.W.Frag) : Pm := fun vs H Q => ∃ (a : Addr) (ws : List Addr) (wl : List Ag07.Watcher), vs = [.ref a] ∧ H a = some (.lst (ws.map V.ref)) ∧ Paired (WatcherAt K H) ws wl ∧ (∀ x ∈ wl, x.path.length ≤ 1000000) ∧ (wl.length :: wl.flatMap watOf).length ≤ 10000000 ∧ Tells H (Ag07.nums (wl.length :: wl.flatMap watOf)) Q
theorem ok_tell_watchers (T : Tx K mg) : HasFn Prog w K mg base 2 (He.fAd K d_tell_watchers.at_) p_tell_watchers (pm_tell_watchers K) := by
  refine mkFn T.fun_tell_watchers S_tell_watchers (fun _ _ _ _ _ _ us hl => match us, hl with | [_], _ => rfl) ?_ fun cdv A outer s H E hr => ⟨_,
    (pss_cons (ps_set (i := 1) S_tell_watchers.nd rfl (Or.inl rfl) (pe_lst (pa_cons (pe_callB call_len (by rfl) T.free_len PySem.boot_len (pa_cons (pv 0) pa_nil)) pa_nil)))
    (pss_cons (ps_for PassesOwn.never rfl (pi_list (pv 0)) (pg_name (i := 2) S_tell_watchers.nd rfl (Or.inl rfl)) (pss_cons (ps_expr (pe_bm PySem.F.plainAttrs_list PySem.F.slot_list_extend PySem.F.type_list_extend mt_extend (pv 1) (pa_cons (pe_lst (pa_cons (pe_fld (pv 2) rfl) (pa_cons (pe_fld (pv 2) rfl) (pa_cons (pe_fld (pv 2) rfl) pa_nil)))) pa_nil)))
    (pss_one (ps_expr (pe_bm PySem.F.plainAttrs_list PySem.F.slot_list_extend PySem.F.type_list_extend mt_extend (pv 1) (pa_cons (pe_callH (ok_tell_row T) (hr.mono (by decide)) (by rfl) T.glo_tell_row (pa_cons (pe_fld (pv 2) rfl) pa_nil)) pa_nil))))))
    (pss_one (ps_ret (pv 1))))), ?_⟩
  · rintro vs H Q ⟨a, ws, wl, rfl, _⟩; rfl
  · rintro vs Q ⟨a, ws, wl, rfl, hl, pw, hpl, hlen, q⟩
    have hel := Paired.len pw
    refine ⟨_, rfl, _, ws.length, rfl, Or.inl ⟨_, SqL.of hl, by rw [List.length_map]⟩, (by show (1 : Nat) ≤ sizeLine; decide), fun p hp => ?_⟩
    have k1 : Kp [] H (upd H p (.lst [.int (ws.length : Nat)])) := (Kp.refl _ _).new hp
    have hp1 : upd H p (.lst [.int (ws.length : Nat)]) p = some (.lst (ivs (Ag07.nums (wl.length :: (wl.take 0).flatMap watOf)))) := by rw [upd_same, hel]; rfl
    generalize upd H p (.lst [.int (ws.length : Nat)]) = H1 at k1 hp1
    refine ⟨_, rfl, a, rfl, ⟨_, SqL.of (k1.at_ hl (by simp))⟩, for_list (K := K) (a := a) (xs := ws.map V.ref) (fun j σ H' => ∃ v, σ = [some (.ref a), some (.ref p), v] ∧ Kp [] H H' ∧ H' p = some (.lst (ivs (Ag07.nums (wl.length :: (wl.take j).flatMap watOf))))) ⟨none, rfl, k1, hp1⟩ (fun j σ H' _ h => ?_) ?_ ?_⟩
    · obtain ⟨_, _, k, _⟩ := h
      exact SqL.of (k.at_ hl (by simp))
    · rintro j v σ H' hv ⟨v0, rfl, k, hp2⟩
      obtain ⟨b, hbj, rfl⟩ := map_get hv
      obtain ⟨x, hxj, dx, pa, hb0, hpa⟩ := Paired.get pw hbj
      have hb1 := k.at_ hb0 (by simp)
      have hb := flat_take_le watOf wl (j + 1)
      rw [flat_snoc hxj, List.length_append] at hb
      have hb2 : (watOf x).length = x.path.length + 4 := by unfold watOf Ag07.row; simp
      have hb3 : (wl.flatMap watOf).length + 1 ≤ 10000000 := hlen
      refine ⟨_, rfl, .inl ⟨rfl, _, SqL.of hp2⟩, ?_⟩
      refine ⟨_, rfl, b, _, dx, _, _, rfl, hb1, T.cls_Watcher, T.no_Watcher_client, rfl, _, rfl, b, _, dx, _, _, rfl, hb1, T.cls_Watcher, T.no_Watcher_number, rfl, _, rfl, b, _, dx, _, _, rfl, hb1, T.cls_Watcher, T.no_Watcher_last, rfl, (by show (3 : Nat) ≤ sizeLine; decide), fun L hL => ?_⟩
      have k2 : Kp [] H' (upd H' L (.lst [.int (x.client : Nat), .int (x.num : Nat), .int (x.last : Nat)])) := (Kp.refl _ _).new hL
      refine ⟨p, L, _, _, rfl, rfl, k2.at_ hp2 (by simp), upd_same, ?_, ?_⟩
      · rw [ivs_len, nums_len, List.length_cons]; exact Nat.le_of_lt (sizeLine_big2 (by show _ + 3 ≤ _; omega))
      have p3 := ext_own (z := Ag07.nums (wl.length :: (wl.take j).flatMap watOf)) (y := [(x.client : Int), (x.num : Int), (x.last : Int)]) (k.trans k2) hp
      show (fun _ H4 => _) _ (upd (upd H' L (.lst [.int (x.client : Nat), .int (x.num : Nat), .int (x.last : Nat)])) p (.lst (ivs (Ag07.nums (wl.length :: (wl.take j).flatMap watOf)) ++ ivs [(x.client : Int), (x.num : Int), (x.last : Int)])))
      generalize upd (upd H' L (.lst [.int (x.client : Nat), .int (x.num : Nat), .int (x.last : Nat)])) p (.lst (ivs (Ag07.nums (wl.length :: (wl.take j).flatMap watOf)) ++ ivs [(x.client : Int), (x.num : Int), (x.last : Int)])) = H3 at p3
      refine ⟨_, rfl, .inl ⟨rfl, _, SqL.of p3.2⟩, ?_⟩
      refine ⟨_, rfl, b, _, dx, _, _, rfl, p3.1.at_ hb0 (by simp), T.cls_Watcher, T.no_Watcher_path, rfl, pa, x.path, rfl, .inl (p3.1.tup hpa), hpl x (List.mem_of_getElem? hxj), fun H4 q4 hq4 hq4' k4 => ?_⟩
      refine ⟨p, q4, _, _, rfl, rfl, k4.at_ p3.2 (by simp), hq4', ?_, ?_⟩
      · rw [ivs_len, ivs_len, List.length_append, nums_len, nums_len, List.length_cons]; exact Nat.le_of_lt (sizeLine_big2 (by show _ + 3 + (x.path.length + 1) ≤ _; omega))
      have p5 := ext_own (z := Ag07.nums (wl.length :: (wl.take j).flatMap watOf) ++ [(x.client : Int), (x.num : Int), (x.last : Int)]) (y := Ag07.nums (Ag07.row x.path)) (p3.1.trans k4) hp
      refine ⟨_, rfl, p5.1, ?_⟩
      rw [p5.2, flat_snoc hxj]
      unfold Ag07.nums watOf
      simp
    · rintro σ H' ⟨v, rfl, k, hp2⟩
      rw [List.take_of_length_le (by rw [List.length_map]; omega)] at hp2
      exact ⟨_, rfl, q H' p hp hp2 k⟩
/-- the house, told -/
def houNums (s : Ag07.State) : List Nat := [s.time, Ag07.turn s, s.base, s.nodes.length, s.opened] ++ ((s.sessions.length :: s.sessions.flatMap sesOf) ++ (s.watchers.length :: s.watchers.flatMap watOf))
def pm_tell_house (K : PySem.W.Frag) : Pm := fun vs H Q => ∃ W s, vs = [.ref W.hs] ∧ WAt K H W s ∧ (s.sessions.map (·.sid)).Nodup ∧ (∀ x ∈ s.watchers, x.path.length ≤ 1000000) ∧ (houNums s).length ≤ 10000000 ∧ Tells H (Ag07.nums (houNums s)) Q
theorem ok_tell_house (T : Tx K mg) : HasFn Prog w K mg base 3 (He.fAd K d_tell_house.at_) p_tell_house (pm_tell_house K) := by
  refine mkFn T.fun_tell_house S_tell_house (fun _ _ _ _ _ _ us hl => match us, hl with | [_], _ => rfl) ?_ fun cdv A outer s H E hr => ⟨_,
    (pss_cons (ps_set (i := 1) S_tell_house.nd rfl (Or.inl rfl) (pe_lst (pa_cons (pe_fld (pv 0) rfl) (pa_cons (pe_methH0 (pv 0) T.cls_House T.me_House_last_turn (ok_House_last_turn T) (hr.mono (by decide))) (pa_cons (pe_fld (pv 0) rfl) (pa_cons (pe_callB call_len_dT (by rfl) T.free_len PySem.boot_len (pa_cons (pe_fld (pv 0) rfl) pa_nil)) (pa_cons (pe_fld (pv 0) rfl) pa_nil)))))))
    (pss_cons (ps_expr (pe_bm PySem.F.plainAttrs_list PySem.F.slot_list_extend PySem.F.type_list_extend mt_extend (pv 1) (pa_cons (pe_callH (ok_tell_sessions T) (hr.mono (by decide)) (by rfl) T.glo_tell_sessions (pa_cons (pe_fld (pv 0) rfl) pa_nil)) pa_nil)))
    (pss_cons (ps_expr (pe_bm PySem.F.plainAttrs_list PySem.F.slot_list_extend PySem.F.type_list_extend mt_extend (pv 1) (pa_cons (pe_callH (ok_tell_watchers T) (hr.mono (by decide)) (by rfl) T.glo_tell_watchers (pa_cons (pe_fld (pv 0) rfl) pa_nil)) pa_nil)))
    (pss_one (ps_ret (pv 1)))))), ?_⟩
  · rintro vs H Q ⟨W, s, rfl, _⟩; rfl
  · rintro vs Q ⟨W, s, rfl, A, nd, hpl, hlen, q⟩
    obtain ⟨dx, hh⟩ := A.house
    obtain ⟨ns, ⟨kvs, hdn, pn⟩, pm⟩ := A.nodes
    have hkl : kvs.length = s.nodes.length := (Paired.len pn).trans pm.length_eq
    have hn : (houNums s).length = 5 + ((s.sessions.flatMap sesOf).length + 1 + ((s.watchers.flatMap watOf).length + 1)) := by
      unfold houNums
      rw [List.length_append, List.length_append, List.length_cons, List.length_cons]; rfl
    refine ⟨_, rfl, W.hs, _, dx, _, _, rfl, hh, T.cls_House, T.no_House_time, rfl, _, rfl, W.hs, dx, _, rfl, hh, rfl, W, s, rfl, A, _, rfl, W.hs, _, dx, _, _, rfl, hh, T.cls_House, T.no_House_base, rfl,
      _, rfl, W.hs, _, dx, _, _, rfl, hh, T.cls_House, T.no_House_nodes, rfl, W.dn, kvs, rfl, hdn, _, rfl, W.hs, _, dx, _, _, rfl, hh, T.cls_House, T.no_House_opened, rfl, (by show (5 : Nat) ≤ sizeLine; decide), fun p hp => ?_⟩
    have k1 : Kp [] H (upd H p (.lst [.int (s.time : Nat), .int (Ag07.turn s : Nat), .int (s.base : Nat), .int (kvs.length : Nat), .int (s.opened : Nat)])) := (Kp.refl _ _).new hp
    have hp1 : upd H p (.lst [.int (s.time : Nat), .int (Ag07.turn s : Nat), .int (s.base : Nat), .int (kvs.length : Nat), .int (s.opened : Nat)]) p = some (.lst (ivs (Ag07.nums [s.time, Ag07.turn s, s.base, s.nodes.length, s.opened]))) := by rw [upd_same, hkl]; rfl
    generalize upd H p (.lst [.int (s.time : Nat), .int (Ag07.turn s : Nat), .int (s.base : Nat), .int (kvs.length : Nat), .int (s.opened : Nat)]) = H1 at k1 hp1
    have A1 := A.keep k1
    obtain ⟨dx1, hh1⟩ := A1.house
    refine ⟨_, rfl, .inl ⟨rfl, _, SqL.of hp1⟩, _, rfl, W.hs, _, dx1, _, _, rfl, hh1, T.cls_House, T.no_House_seen, rfl, W.ds, s.sessions, rfl, A1.seen, nd, by rw [List.length_cons]; omega, fun H2 q2 hq2 hq2' k2 => ?_⟩
    refine ⟨p, q2, _, _, rfl, rfl, k2.at_ hp1 (by simp), hq2', ?_, ?_⟩
    · rw [ivs_len, ivs_len, nums_len, nums_len]; exact Nat.le_of_lt (sizeLine_big2 (by show 5 + ((s.sessions.flatMap sesOf).length + 1) ≤ _; omega))
    have p3 := ext_own (z := Ag07.nums [s.time, Ag07.turn s, s.base, s.nodes.length, s.opened]) (y := Ag07.nums (s.sessions.length :: s.sessions.flatMap sesOf)) (k1.trans k2) hp
    have hz : (Ag07.nums [s.time, Ag07.turn s, s.base, s.nodes.length, s.opened] ++ Ag07.nums (s.sessions.length :: s.sessions.flatMap sesOf)).length = 5 + ((s.sessions.flatMap sesOf).length + 1) := by rw [List.length_append, nums_len, nums_len, List.length_cons]; rfl
    generalize upd H2 p (.lst (ivs (Ag07.nums [s.time, Ag07.turn s, s.base, s.nodes.length, s.opened]) ++ ivs (Ag07.nums (s.sessions.length :: s.sessions.flatMap sesOf)))) = H3 at p3
    obtain ⟨k3, hp3⟩ := p3
    have A3 := A.keep k3
    obtain ⟨dx3, hh3⟩ := A3.house
    refine ⟨_, rfl, .inl ⟨rfl, _, SqL.of hp3⟩, _, rfl, W.hs, _, dx3, _, _, rfl, hh3, T.cls_House, T.no_House_watchers, rfl, W.lw, W.ws, s.watchers, rfl, A3.watch.1, A3.watch.2, hpl, by rw [List.length_cons]; omega, fun H4 q4 hq4 hq4' k4 => ?_⟩
    refine ⟨p, q4, _, _, rfl, rfl, k4.at_ hp3 (by simp), hq4', ?_, ?_⟩
    · rw [ivs_len, ivs_len, hz, nums_len, List.length_cons]; exact Nat.le_of_lt (sizeLine_big2 (by omega))
    have p5 := ext_own (z := Ag07.nums [s.time, Ag07.turn s, s.base, s.nodes.length, s.opened] ++ Ag07.nums (s.sessions.length :: s.sessions.flatMap sesOf)) (y := Ag07.nums (s.watchers.length :: s.watchers.flatMap watOf)) (k3.trans k4) hp
    refine ⟨_, rfl, q _ p hp ?_ p5.1⟩
    rw [p5.2]
    unfold houNums
    rw [nums_app, nums_app, List.append_assoc]
end
end Wt

set_option Elab.async false
set_option linter.all false
set_option maxRecDepth 100000
set_option maxHeartbeats 4000000
namespace Wt
open PySem PySem.Spec PyProof.Rows L2
/-- numbers and lists that a call is handed, by their form: the call -/
abbrev Form := List Int → List (List Int) → Ag07.Call → Prop
def pm_ans (K : PySem.W.Frag) (F : Form) : Pm := fun vs H Q => ∃ (W : WAd) (s : Ag07.State) (b : Nat) (nu li : Addr) (numbers : List Int) (as : List Addr) (rows : List (List Int)) (c : Ag07.Call), vs = [.ref W.wd, .ref nu, .ref li] ∧
  WAt K H W s ∧ (Good b s ∧ More b s ∧ (stp s c).2.length ≤ 10000000) ∧ b ≤ 500 ∧ H nu = some (.lst (ivs numbers)) ∧ H li = some (.lst (as.map V.ref)) ∧ Paired (fun a (r : List Int) => H a = some (.lst (ivs r))) as rows ∧ nu ∉ W.mu ∧ li ∉ W.mu ∧ (∀ a ∈ as, a ∉ W.mu) ∧ F numbers rows c ∧
  ∀ H' W' p, W'.wd = W.wd → WAt K H' W' (stp s c).1 → Ch W.mu W'.mu H H' → (p ∉ W.mu → H p = none) → H' p = some (.lst (ivs (stp s c).2)) → Q (.ref p) H'
theorem pm_ans_len {K : PySem.W.Frag} {F : Form} {vs : List V} {H : Hp} {Q : VK} (h : pm_ans K F vs H Q) : vs.length = 3 := by
  obtain ⟨W, s, b, nu, li, numbers, as, rows, c, rfl, _⟩ := h; rfl
section
variable {w : World} {K : PySem.W.Frag} {mg : Str → Option Value} {base : Heap}
/-- the answer is a written list -/
theorem fin_ans {H H1 : Hp} {W W1 : WAd} {s1 : Ag07.State} {ans : List Int} {Q : VK} (A : WAt K H1 W1 s1) (ch : Ch W.mu W1.mu H H1) (hw : W1.wd = W.wd)
    (q : ∀ H' W' p, W'.wd = W.wd → WAt K H' W' s1 → Ch W.mu W'.mu H H' → (p ∉ W.mu → H p = none) → H' p = some (.lst (ivs ans)) → Q (.ref p) H') : ∀ p, H1 p = none → Q (.ref p) (upd H1 p (.lst (ivs ans))) := by
  intro p hp
  have k : Kp [] H1 (upd H1 p (.lst (ivs ans))) := (Kp.refl _ _).new hp
  exact q _ W1 p hw (A.keep k) (ch.trans (Ch.of (k.sub (by simp)))) (fun n => ch.kp.free n hp) upd_same
def fm_open : Form := fun _ _ c => c = .open_
theorem ok_answer_open (T : Tx K mg) : HasFn Prog w K mg base 3 (He.fAd K d_answer_open.at_) p_answer_open (pm_ans K fm_open) := by
  refine mkFn T.fun_answer_open S_answer_open (fun _ _ _ _ _ _ us hl => match us, hl with | [_, _, _], _ => rfl) ?_ fun cdv A outer s H E hr => ⟨_,
    (pss_one (ps_ret (pe_lst (pa_cons (pe_methH0 (pe_fld (pv 0) rfl) T.cls_House T.me_House_start_session (ok_House_start_session T) (hr.mono (by decide))) pa_nil)))), ?_⟩
  · rintro vs H Q h; exact pm_ans_len h
  · rintro vs Q ⟨W, s, b, nu, li, numbers, as, rows, c, rfl, A, ⟨g, hm, hz⟩, hb, hnu, hli, hro, nnu, nli, nas, rfl, q⟩
    obtain ⟨dxw, hw⟩ := A.world
    obtain ⟨dxh, hh⟩ := A.house
    refine ⟨_, rfl, W.wd, _, dxw, _, _, rfl, hw, T.cls_World, T.no_World_house, rfl, W.hs, dxh, _, rfl, hh, rfl, W, s, rfl, A, by have := g.bnd; omega, fun H1 A1 k1 => ?_⟩
    have e : stp s .open_ = ({ s with opened := s.opened + 1, sessions := see s.sessions (s.opened + 1) s.time }, [((s.opened + 1 : Nat) : Int)]) := by
      have e1 : see s.sessions (s.opened + 1) s.time = s.sessions ++ [⟨s.opened + 1, s.time⟩] := by
        unfold see
        rw [if_neg]
        intro z
        obtain ⟨x, hx, hz⟩ := List.any_eq_true.mp z
        have := (g.opn x hx).2
        have := eq_of_beq hz
        omega
      rw [e1]; rfl
    rw [e] at q
    exact ⟨by show (1 : Nat) ≤ sizeLine; decide, fin_ans (ans := [((s.opened + 1 : Nat) : Int)]) A1 (Ch.of k1) rfl q⟩
/-- one number from 0 on -/
def one (f : Nat → Ag07.Call) : Form := fun numbers _ c => ∃ n : Nat, numbers = [(n : Int)] ∧ c = f n
theorem ok_answer_close (T : Tx K mg) : HasFn Prog w K mg base 7 (He.fAd K d_answer_close.at_) p_answer_close (pm_ans K (one .close)) := by
  refine mkFn T.fun_answer_close S_answer_close (fun _ _ _ _ _ _ us hl => match us, hl with | [_, _, _], _ => rfl) ?_ fun cdv A outer s H E hr => ⟨_,
    (pss_cons (ps_set (i := 3) S_answer_close.nd rfl (Or.inl rfl) (pe_fld (pv 0) rfl))
    (pss_cons (ps_if (pt_not (pt_call (pe_methH (pv 3) T.cls_House T.me_House_lasts (ok_House_lasts T) (hr.mono (by decide)) (pa_cons (pe_ix ix_list (pv 1) pe_int (fun _ _ => rfl)) pa_nil)))) (pss_one (ps_ret (pe_lst (pa_cons (pe_un un_neg pe_int) pa_nil)))) pss_nil)
    (pss_cons (ps_expr (pe_methH (pv 3) T.cls_House T.me_House_end_session (ok_House_end_session T) (hr.mono (by decide)) (pa_cons (pe_ix ix_list (pv 1) pe_int (fun _ _ => rfl)) pa_nil)))
    (pss_one (ps_ret (pe_lst (pa_cons (pe_methH0 (pv 3) T.cls_House T.me_House_last_turn (ok_House_last_turn T) (hr.mono (by decide))) pa_nil))))))), ?_⟩
  · rintro vs H Q h; exact pm_ans_len h
  · rintro vs Q ⟨W, s, b, nu, li, numbers, as, rows, c, rfl, A, ⟨g, hm, hz⟩, hb, hnu, hli, hro, nnu, nli, nas, ⟨n, rfl, rfl⟩, q⟩
    obtain ⟨dxw, hw⟩ := A.world
    obtain ⟨dxh, hh⟩ := A.house
    refine ⟨_, rfl, W.wd, _, dxw, _, _, rfl, hw, T.cls_World, T.no_World_house, rfl, ?_⟩
    refine ⟨_, rfl, W.hs, dxh, _, rfl, hh, rfl, _, rfl, nu, _, _, _, rfl, rfl, SqL.of hnu, atI_nat (j := 0) rfl, W, s, n, rfl, A, _, rfl, ite2 (fun h => ?_) (fun h => ?_)⟩
    · have hl : Ag07.lasts s n = false := by simpa using h
      have e : stp s (.close n) = (s, [-1]) := by unfold stp; simp only [Ag07.step, hl, if_true]; rfl
      rw [e] at q
      exact ⟨_, rfl, by show (1 : Nat) ≤ sizeLine; decide, fin_ans (ans := [-1]) A (Ch.refl _ _) rfl q⟩
    · have hl : Ag07.lasts s n = true := by simpa using h
      have e : stp s (.close n) = (Ag07.over s n, [((Ag07.turn (Ag07.over s n) : Nat) : Int)]) := by
        unfold stp; simp only [Ag07.step, hl]; rfl
      rw [e] at q
      refine ⟨_, rfl, W.hs, dxh, _, rfl, hh, rfl, _, rfl, nu, _, _, _, rfl, rfl, SqL.of hnu, atI_nat (j := 0) rfl, W, s, n, rfl, A, hl, g.srt, (fun x hx => path_ne (g.pth x hx)), Nat.le_trans g.cnt (by decide), g.lts, by have := g.bnd; omega, fun H1 A1 k1 => ?_⟩
      obtain ⟨dx1, hh1⟩ := A1.house
      refine ⟨_, rfl, W.hs, dx1, _, rfl, hh1, rfl, W, _, rfl, A1, by show (1 : Nat) ≤ sizeLine; decide, ?_⟩
      exact fin_ans (ans := [((Ag07.turn (Ag07.over s n) : Nat) : Int)]) A1 (Ch.of k1) rfl q
theorem ok_answer_touch (T : Tx K mg) : HasFn Prog w K mg base 2 (He.fAd K d_answer_touch.at_) p_answer_touch (pm_ans K (one .touch)) := by
  refine mkFn T.fun_answer_touch S_answer_touch (fun _ _ _ _ _ _ us hl => match us, hl with | [_, _, _], _ => rfl) ?_ fun cdv A outer s H E hr => ⟨_,
    (pss_cons (ps_set (i := 3) S_answer_touch.nd rfl (Or.inl rfl) (pe_fld (pv 0) rfl))
    (pss_cons (ps_if (pt_not (pt_call (pe_methH (pv 3) T.cls_House T.me_House_lasts (ok_House_lasts T) (hr.mono (by decide)) (pa_cons (pe_ix ix_list (pv 1) pe_int (fun _ _ => rfl)) pa_nil)))) (pss_one (ps_ret (pe_lst (pa_cons (pe_un un_neg pe_int) pa_nil)))) pss_nil)
    (pss_cons (ps_expr (pe_methH (pv 3) T.cls_House T.me_House_see_session (ok_House_see_session T) (hr.mono (by decide)) (pa_cons (pe_ix ix_list (pv 1) pe_int (fun _ _ => rfl)) pa_nil)))
    (pss_one (ps_ret (pe_lst (pa_cons pe_int pa_nil))))))), ?_⟩
  · rintro vs H Q h; exact pm_ans_len h
  · rintro vs Q ⟨W, s, b, nu, li, numbers, as, rows, c, rfl, A, ⟨g, hm, hz⟩, hb, hnu, hli, hro, nnu, nli, nas, ⟨n, rfl, rfl⟩, q⟩
    obtain ⟨dxw, hw⟩ := A.world
    obtain ⟨dxh, hh⟩ := A.house
    refine ⟨_, rfl, W.wd, _, dxw, _, _, rfl, hw, T.cls_World, T.no_World_house, rfl, ?_⟩
    refine ⟨_, rfl, W.hs, dxh, _, rfl, hh, rfl, _, rfl, nu, _, _, _, rfl, rfl, SqL.of hnu, atI_nat (j := 0) rfl, W, s, n, rfl, A, _, rfl, ite2 (fun h => ?_) (fun h => ?_)⟩
    · have hl : Ag07.lasts s n = false := by simpa using h
      have e : stp s (.touch n) = (s, [-1]) := by unfold stp; simp only [Ag07.step, hl, if_true]; rfl
      rw [e] at q
      exact ⟨_, rfl, by show (1 : Nat) ≤ sizeLine; decide, fin_ans (ans := [-1]) A (Ch.refl _ _) rfl q⟩
    · have hl : Ag07.lasts s n = true := by simpa using h
      have e : stp s (.touch n) = ({ s with sessions := see s.sessions n s.time }, [0]) := by
        have e1 : see s.sessions n s.time = s.sessions.map fun (y : Ag07.Session) => if y.sid = n then { y with seen := s.time } else y := by
          unfold see; rw [if_pos (show (s.sessions.any fun x => x.sid == n) = true from hl)]
        unfold stp; simp only [Ag07.step, hl, e1]; rfl
      rw [e] at q
      refine ⟨_, rfl, W.hs, dxh, _, rfl, hh, rfl, _, rfl, nu, _, _, _, rfl, rfl, SqL.of hnu, atI_nat (j := 0) rfl, W, s, n, rfl, A, by have := g.bnd; omega, fun H1 A1 k1 => ?_⟩
      exact ⟨by show (1 : Nat) ≤ sizeLine; decide, fin_ans (ans := [0]) A1 (Ch.of k1) rfl q⟩
theorem ok_answer_tick (T : Tx K mg) : HasFn Prog w K mg base 8 (He.fAd K d_answer_tick.at_) p_answer_tick (pm_ans K (one .tick)) := by
  refine mkFn T.fun_answer_tick S_answer_tick (fun _ _ _ _ _ _ us hl => match us, hl with | [_, _, _], _ => rfl) ?_ fun cdv A outer s H E hr => ⟨_,
    (pss_cons (ps_if (pt_cmpR op_gt (pe_ix ix_list (pv 1) pe_int (fun _ _ => rfl)) (pe_gint (by rfl) T.int_LATEST) (nomark _)) (pss_one (ps_ret (pe_lst (pa_cons (pe_un un_neg pe_int) pa_nil)))) pss_nil)
    (pss_cons (ps_expr (pe_methH (pe_fld (pv 0) rfl) T.cls_House T.me_House_pass_time (ok_House_pass_time T) (hr.mono (by decide)) (pa_cons (pe_ix ix_list (pv 1) pe_int (fun _ _ => rfl)) pa_nil)))
    (pss_one (ps_ret (pe_lst (pa_cons (pe_methH0 (pe_fld (pv 0) rfl) T.cls_House T.me_House_last_turn (ok_House_last_turn T) (hr.mono (by decide))) pa_nil)))))), ?_⟩
  · rintro vs H Q h; exact pm_ans_len h
  · rintro vs Q ⟨W, s, b, nu, li, numbers, as, rows, c, rfl, A, ⟨g, hm, hz⟩, hb, hnu, hli, hro, nnu, nli, nas, ⟨n, rfl, rfl⟩, q⟩
    obtain ⟨dxw, hw⟩ := A.world
    obtain ⟨dxh, hh⟩ := A.house
    refine ⟨_, rfl, nu, _, _, _, rfl, rfl, SqL.of hnu, atI_nat (j := 0) rfl, _, _, rfl, rfl, _, rfl, ite2 (fun h => ?_) (fun h => ?_)⟩
    · have hl : 9999 < n := by have := of_decide_eq_true h; omega
      have e : stp s (.tick n) = (s, [-1]) := by unfold stp; simp only [Ag07.step, hl, if_true]; rfl
      rw [e] at q
      exact ⟨_, rfl, by show (1 : Nat) ≤ sizeLine; decide, fin_ans (ans := [-1]) A (Ch.refl _ _) rfl q⟩
    · have hl : ¬ 9999 < n := fun z => h (decide_eq_true (by omega))
      have e : stp s (.tick n) = (Ag07.tick s n, [((Ag07.turn (Ag07.tick s n) : Nat) : Int)]) := by
        unfold stp; simp only [Ag07.step, hl, if_false]; rfl
      rw [e] at q
      refine ⟨_, rfl, W.wd, _, dxw, _, _, rfl, hw, T.cls_World, T.no_World_house, rfl, W.hs, dxh, _, rfl, hh, rfl, _, rfl, nu, _, _, _, rfl, rfl, SqL.of hnu, atI_nat (j := 0) rfl, W, s, b, n, rfl, A, g, by omega, fun H1 A1 k1 => ?_⟩
      obtain ⟨dx1, hh1⟩ := A1.house
      obtain ⟨dxw1, hw1⟩ := A1.world
      refine ⟨_, rfl, W.wd, _, dxw1, _, _, rfl, hw1, T.cls_World, T.no_World_house, rfl, W.hs, dx1, _, rfl, hh1, rfl, W, _, rfl, A1, by show (1 : Nat) ≤ sizeLine; decide, ?_⟩
      exact fin_ans (ans := [((Ag07.turn (Ag07.tick s n) : Nat) : Int)]) A1 (Ch.of k1) rfl q
/-- a path that's handed over -/
def fm_path (f : List Nat → Ag07.Call) : Form := fun _ rows c => ∃ p : List Nat, rows = [p.map fun (n : Nat) => (n : Int)] ∧ p.length ≤ 1000 ∧ c = f p
theorem ivs_nat (p : List Nat) : ivs (p.map fun (n : Nat) => (n : Int)) = pvs p := by unfold ivs pvs; rw [List.map_map]; rfl
theorem ok_answer_get (T : Tx K mg) : HasFn Prog w K mg base 3 (He.fAd K d_answer_get.at_) p_answer_get (pm_ans K (fm_path .get)) := by
  refine mkFn T.fun_answer_get S_answer_get (fun _ _ _ _ _ _ us hl => match us, hl with | [_, _, _], _ => rfl) ?_ fun cdv A outer s H E hr => ⟨_,
    (pss_cons (ps_set (i := 3) S_answer_get.nd rfl (Or.inl rfl) (pe_callTy call_tuple_of (by rfl) T.free_tuple (by decide +kernel) (pa_cons (pe_ix ix_list (pv 2) pe_int (fun _ _ => rfl)) pa_nil)))
    (pss_cons (ps_if (pt_not (pt_call (pe_callH (ok_is_path T) (hr.mono (by decide)) (by rfl) T.glo_is_path (pa_cons (pv 3) pa_nil)))) (pss_one (ps_ret (pe_lst (pa_cons (pe_un un_neg pe_int) pa_nil)))) pss_nil)
    (pss_cons (ps_if (pt_cmp (pc_dnotin (hu_of hr) (pv 3) (pe_fld (pe_fld (pv 0) rfl) rfl)) rfl) (pss_one (ps_ret (pe_lst (pa_cons (pe_un un_neg pe_int) pa_nil)))) pss_nil)
    (pss_cons (ps_set (i := 4) S_answer_get.nd rfl (Or.inl rfl) (pe_dget (hu_of hr) (pe_fld (pe_fld (pv 0) rfl) rfl) (pv 3) (fun _ _ => rfl)))
    (pss_one (ps_ret (pe_lst (pa_cons (pe_fld (pv 4) rfl) (pa_cons (pe_fld (pv 4) rfl) (pa_cons (pe_fld (pv 4) rfl) (pa_cons (pe_fld (pv 4) rfl) (pa_cons (pe_fld (pv 4) rfl) pa_nil)))))))))))), ?_⟩
  · rintro vs H Q h; exact pm_ans_len h
  · rintro vs Q ⟨W, s, b, nu, li, numbers, as, rows, c, rfl, A, ⟨g, hm, hz⟩, hb, hnu, hli, hro, nnu, nli, nas, ⟨p, rfl, hpl, rfl⟩, q⟩
    cases hro with
    | @cons ra _ as' _ hra ht =>
    cases ht
    rw [ivs_nat] at hra
    refine ⟨_, rfl, li, _, _, _, rfl, rfl, SqL.of hli, atI_nat (j := 0) rfl, ra, _, rfl, .inl ⟨SqL.of hra, fun pa hpa => ?_⟩⟩
    have k1 : Kp [] H (upd H pa (.tup (pvs p))) := (Kp.refl _ _).new hpa
    have hp1 : upd H pa (.tup (pvs p)) pa = some (.tup (pvs p)) := upd_same
    generalize upd H pa (.tup (pvs p)) = H1 at k1 hp1
    refine ⟨_, rfl, pa, p, rfl, hp1, hpl, fun H2 k2 => ⟨_, rfl, ?_⟩⟩
    have A2 := (A.keep k1).keep k2
    have ch2 : Ch W.mu W.mu H H2 := Ch.of ((k1.trans k2).sub (by simp))
    have hp2 := k2.tup hp1
    obtain ⟨dxw, hw⟩ := A2.world
    obtain ⟨dxh, hh⟩ := A2.house
    refine ite2 (fun h => ?_) (fun h => ?_)
    · have hl : Ag07.isPath 1 p = false := by simpa using h
      have e : stp s (.get p) = (s, [-1]) := by unfold stp; simp only [Ag07.step, hl, if_true]; rfl
      rw [e] at q
      exact ⟨_, rfl, by show (1 : Nat) ≤ sizeLine; decide, fin_ans (ans := [-1]) A2 ch2 rfl q⟩
    · have hl : Ag07.isPath 1 p = true := by simpa using h
      obtain ⟨ns, hns, pm⟩ := A2.nodes
      have hfp := find_perm pm g.srt p
      rcases nodes_get hns hp2 with ⟨gt, hf⟩ | ⟨v, n, gt, hf, na, ndx, rfl, hna⟩
      · rw [hfp] at hf
        have e : stp s (.get p) = (s, [-2]) := by unfold stp; simp only [Ag07.step, hl, hf]; rfl
        rw [e] at q
        refine ⟨_, rfl, _, rfl, W.wd, _, dxw, _, _, rfl, hw, T.cls_World, T.no_World_house, rfl, W.hs, _, dxh, _, _, rfl, hh, T.cls_House, T.no_House_nodes, rfl, W.dn, _, rfl, gt, _, rfl, iteT ?_⟩
        exact ⟨_, rfl, by show (1 : Nat) ≤ sizeLine; decide, fin_ans (ans := [-2]) A2 ch2 rfl q⟩
      · rw [hfp] at hf
        have e : stp s (.get p) = (s, [(n.value : Int), (n.version : Int), (n.made : Int), (n.changed : Int), (n.holder : Int)]) := by unfold stp; simp only [Ag07.step, hl, hf]; rfl
        rw [e] at q
        refine ⟨_, rfl, _, rfl, W.wd, _, dxw, _, _, rfl, hw, T.cls_World, T.no_World_house, rfl, W.hs, _, dxh, _, _, rfl, hh, T.cls_House, T.no_House_nodes, rfl, W.dn, _, rfl, gt, _, rfl, iteF ?_⟩
        refine ⟨_, rfl, W.wd, _, dxw, _, _, rfl, hw, T.cls_World, T.no_World_house, rfl, W.hs, _, dxh, _, _, rfl, hh, T.cls_House, T.no_House_nodes, rfl, _, rfl, W.dn, _, rfl, gt, ?_⟩
        refine ⟨_, rfl, na, _, ndx, _, _, rfl, hna, T.cls_Node, T.no_Node_value, rfl, _, rfl, na, _, ndx, _, _, rfl, hna, T.cls_Node, T.no_Node_version, rfl, _, rfl, na, _, ndx, _, _, rfl, hna, T.cls_Node, T.no_Node_made, rfl,
          _, rfl, na, _, ndx, _, _, rfl, hna, T.cls_Node, T.no_Node_changed, rfl, _, rfl, na, _, ndx, _, _, rfl, hna, T.cls_Node, T.no_Node_held, rfl, by show (5 : Nat) ≤ sizeLine; decide, ?_⟩
        exact fin_ans (ans := [(n.value : Int), (n.version : Int), (n.made : Int), (n.changed : Int), (n.holder : Int)]) A2 ch2 rfl q
def pm_World_has_client (K : PySem.W.Frag) : Pm := fun vs H Q => ∃ (v : V) (i : Nat), vs = [v, .int i] ∧ Q (.bl (decide (i < 3))) H
theorem ok_World_has_client (T : Tx K mg) : HasFn Prog w K mg base 1 (He.fAd K d_World_has_client.at_) p_World_has_client (pm_World_has_client K) := by
  refine mkFn T.fun_World_has_client S_World_has_client (fun _ _ _ _ _ _ us hl => match us, hl with | [_, _], _ => rfl) ?_ fun cdv A outer s H E hr => ⟨_,
    (pss_one (ps_ret (pe_cmpR op_lt (pv 1) (pe_gint (by rfl) T.int_CLIENTS) (nomark _)))), ?_⟩
  · rintro vs H Q ⟨v, i, rfl, _⟩; rfl
  · rintro vs Q ⟨v, i, rfl, q⟩
    refine ⟨_, rfl, _, _, rfl, rfl, ?_⟩
    have e : decide ((i : Int) < 3) = decide (i < 3) := decide_eq_decide.mpr (by omega)
    show Q (.bl (decide ((i : Int) < 3))) H
    rw [e]; exact q
/-- a client and a path -/
def fm_watch : Form := fun numbers rows c => ∃ (i : Nat) (p : List Nat), numbers = [(i : Int)] ∧ rows = [p.map fun (n : Nat) => (n : Int)] ∧ p.length ≤ 1000 ∧ c = .watch i p
theorem ok_answer_watch (T : Tx K mg) : HasFn Prog w K mg base 6 (He.fAd K d_answer_watch.at_) p_answer_watch (pm_ans K fm_watch) := by
  refine mkFn T.fun_answer_watch S_answer_watch (fun _ _ _ _ _ _ us hl => match us, hl with | [_, _, _], _ => rfl) ?_ fun cdv A outer s H E hr => ⟨_,
    (pss_cons (ps_set (i := 3) S_answer_watch.nd rfl (Or.inl rfl) (pe_callTy call_tuple_of (by rfl) T.free_tuple (by decide +kernel) (pa_cons (pe_ix ix_list (pv 2) pe_int (fun _ _ => rfl)) pa_nil)))
    (pss_cons (ps_if (PW.pt (pw_or (pt_not (pt_call (pe_methH (pv 0) T.cls_World T.me_World_has_client (ok_World_has_client T) (hr.mono (by decide)) (pa_cons (pe_ix ix_list (pv 1) pe_int (fun _ _ => rfl)) pa_nil)))) (pw_or1 (pt_not (pt_call (pe_callH (ok_is_path_or_empty T) (hr.mono (by decide)) (by rfl) T.glo_is_path_or_empty (pa_cons (pv 3) pa_nil))))))) (pss_one (ps_ret (pe_lst (pa_cons (pe_un un_neg pe_int) pa_nil)))) pss_nil)
    (pss_cons (ps_set (i := 4) S_answer_watch.nd rfl (Or.inl rfl) (pe_ix ix_list (pe_fld (pv 0) rfl) (pe_ix ix_list (pv 1) pe_int (fun _ _ => rfl)) (fun _ _ => rfl)))
    (pss_cons (ps_expr (pe_methH (pv 4) T.cls_Client T.me_Client_start_watch (ok_Client_start_watch T) (hr.mono (by decide)) (pa_cons (pv 3) (pa_cons (pe_fld (pv 0) rfl) pa_nil))))
    (pss_one (ps_ret (pe_lst (pa_cons (pe_fld (pv 4) rfl) pa_nil)))))))), ?_⟩
  · rintro vs H Q h; exact pm_ans_len h
  · rintro vs Q ⟨W, s, b, nu, li, numbers, as, rows, c, rfl, A, ⟨g, hm, hz⟩, hb, hnu, hli, hro, nnu, nli, nas, ⟨i, p, rfl, rfl, hpl, rfl⟩, q⟩
    cases hro with
    | @cons ra _ as' _ hra ht =>
    cases ht
    rw [ivs_nat] at hra
    refine ⟨_, rfl, li, _, _, _, rfl, rfl, SqL.of hli, atI_nat (j := 0) rfl, ra, _, rfl, .inl ⟨SqL.of hra, fun pa hpa => ?_⟩⟩
    have k1 : Kp [] H (upd H pa (.tup (pvs p))) := (Kp.refl _ _).new hpa
    have hp1 : upd H pa (.tup (pvs p)) pa = some (.tup (pvs p)) := upd_same
    generalize upd H pa (.tup (pvs p)) = H1 at k1 hp1
    have hnu1 := k1.at_ hnu (by simp)
    obtain ⟨dxw1, hw1⟩ := (A.keep k1).world
    refine ⟨_, rfl, W.wd, dxw1, _, rfl, hw1, rfl, _, rfl, nu, _, _, _, rfl, rfl, SqL.of hnu1, atI_nat (j := 0) rfl, _, i, rfl, _, rfl, ite2 (fun h => ?_) (fun h => ?_)⟩
    · have hi : 3 ≤ i := by simpa using h
      have e : stp s (.watch i p) = (s, [-1]) := by unfold stp; simp only [Ag07.step]; rw [if_pos (.inl hi)]; rfl
      rw [e] at q
      exact iteT ⟨_, rfl, by show (1 : Nat) ≤ sizeLine; decide, fin_ans (ans := [-1]) (A.keep k1) (Ch.of (k1.sub (by simp))) rfl q⟩
    · have hi : ¬ 3 ≤ i := fun z => h (by simpa using z)
      refine ⟨_, rfl, pa, p, rfl, hp1, hpl, fun H2 k2 => ⟨_, rfl, ?_⟩⟩
      have A2 := (A.keep k1).keep k2
      have ch2 : Ch W.mu W.mu H H2 := Ch.of ((k1.trans k2).sub (by simp))
      have hp2 := k2.tup hp1
      obtain ⟨dxw, hw⟩ := A2.world
      refine ite2 (fun h => ?_) (fun h => ?_)
      · have hl : Ag07.isPath 0 p = false := by simpa using h
        have e : stp s (.watch i p) = (s, [-1]) := by unfold stp; simp only [Ag07.step]; rw [if_pos (.inr hl)]; rfl
        rw [e] at q
        exact ⟨_, rfl, by show (1 : Nat) ≤ sizeLine; decide, fin_ans (ans := [-1]) A2 ch2 rfl q⟩
      · have hl : Ag07.isPath 0 p = true := by simpa using h
        obtain ⟨hc1, hc2, hc3, hc4, hc5⟩ := A2.clis
        have hca : W.cs[i]? = some (W.cs[i]'(by omega)) := List.getElem?_eq_getElem (by omega)
        have hcc : s.clients[i]? = some (s.clients[i]'(by omega)) := List.getElem?_eq_getElem (by omega)
        generalize W.cs[i]'(by omega) = a at hca
        have hcl : Ag07.client s i = s.clients[i]'(by omega) := by unfold Ag07.client; rw [List.getD_eq_getElem?_getD, hcc]; rfl
        generalize s.clients[i]'(by omega) = cl at hcc hcl
        have e : stp s (.watch i p) = (Ag07.askLetter { s with clients := s.clients.set i (nextWatch cl p) } i (nextWatch cl p), [((cl.num + 1 : Nat) : Int)]) := by
          unfold stp; simp only [Ag07.step]
          rw [if_neg (by rw [hl]; simp; exact Nat.lt_of_not_le hi), hcl]; rfl
        rw [e] at q
        obtain ⟨d, hd, dx, pa0, kvs, hco, _⟩ := A2.client hca hcc
        have hnu2 := k2.at_ hnu1 (by simp)
        refine ⟨_, rfl, W.wd, _, dxw, _, _, rfl, hw, T.cls_World, T.no_World_clients, rfl, _, rfl, nu, _, _, _, rfl, rfl, SqL.of hnu2, atI_nat (j := 0) rfl, W.cl, _, _, _, rfl, rfl, SqL.of hc1, atI_nat (j := i) (v := V.ref a) (by rw [List.getElem?_map, hca]; rfl), ?_⟩
        refine ⟨_, rfl, a, dx, _, rfl, hco, rfl, _, rfl, _, rfl, W.wd, _, dxw, _, _, rfl, hw, T.cls_World, T.no_World_net, rfl, ?_⟩
        refine ⟨W, s, i, a, cl, pa, p, rfl, A2, g.lts, hca, hcc, hp2, fun H3 d2 A3 ch3 => ?_⟩
        have hcc3 : (Ag07.askLetter { s with clients := s.clients.set i (nextWatch cl p) } i (nextWatch cl p)).clients[i]? = some (nextWatch cl p) := by
          show (s.clients.set i (nextWatch cl p))[i]? = _
          rw [List.getElem?_set_self (by omega)]
        obtain ⟨d3, hd3, dx3, pa3, kvs3, hco3, _⟩ := A3.client hca hcc3
        refine ⟨_, rfl, a, _, dx3, _, _, rfl, hco3, T.cls_Client, T.no_Client_number, rfl, by show (1 : Nat) ≤ sizeLine; decide, ?_⟩
        exact fin_ans (W1 := { W with es := W.es.set i d2 }) (ans := [((cl.num + 1 : Nat) : Int)]) A3 (ch2.trans ch3) rfl q
end
end Wt

set_option Elab.async false
set_option linter.all false
set_option maxRecDepth 100000
set_option maxHeartbeats 4000000
namespace Wt
open PySem PySem.Spec PyProof.Rows L2
section
variable {w : World} {K : PySem.W.Frag} {mg : Str → Option Value} {base : Heap}
theorem LetterAt.ref {mu : List Addr} {H : Hp} {v : V} {x : Ag07.Letter} (h : LetterAt K mu H v x) : ∃ l, v = .ref l := by
  obtain ⟨a, _, _, _, _, e, _⟩ := h; exact ⟨a, e⟩
/-- a letter is handed over -/
def pm_World_hand_over (K : PySem.W.Frag) : Pm := fun vs H Q => ∃ W s, ∃ (b : Nat) (v : V) (x : Ag07.Letter), vs = [.ref W.wd, v] ∧ WAt K H W s ∧ LetterAt K W.mu H v x ∧ LetOk x ∧ Good b s ∧ More b s ∧ b ≤ 1000 ∧
  ∀ H' W' z, W'.wd = W.wd → WAt K H' W' (Ag07.hand s x).1 → Ch W.mu W'.mu H H' → (Ag07.hand s x).2 = [z] → Q (.int z) H'
theorem ok_World_hand_over (T : Tx K mg) : HasFn Prog w K mg base 7 (He.fAd K d_World_hand_over.at_) p_World_hand_over (pm_World_hand_over K) := by
  refine mkFn T.fun_World_hand_over S_World_hand_over (fun _ _ _ _ _ _ us hl => match us, hl with | [_, _], _ => rfl) ?_ fun cdv A outer s H E hr => ⟨_,
    (pss_cons (ps_if (pt_cmpR op_eq (pe_fld (pv 1) rfl) (pe_gint (by rfl) T.int_ASKS) (nomark _)) (pss_one (ps_ret (pe_methH (pe_fld (pv 0) rfl) T.cls_House T.me_House_hear_asking (ok_House_hear_asking T) (hr.mono (by decide)) (pa_cons (pv 1) pa_nil)))) pss_nil)
    (pss_cons (ps_set (i := 2) S_World_hand_over.nd rfl (Or.inl rfl) (pe_ix ix_list (pe_fld (pv 0) rfl) (pe_fld (pv 1) rfl) (fun _ _ => rfl)))
    (pss_cons (ps_if (pt_cmpR op_eq (pe_fld (pv 1) rfl) (pe_gint (by rfl) T.int_NEWS) (nomark _)) (pss_one (ps_ret (pe_methH (pv 2) T.cls_Client T.me_Client_hear_news (ok_Client_hear_news T) (hr.mono (by decide)) (pa_cons (pv 1) pa_nil)))) pss_nil)
    (pss_one (ps_ret (pe_methH (pv 2) T.cls_Client T.me_Client_see_picture (ok_Client_see_picture T) (hr.mono (by decide)) (pa_cons (pv 1) pa_nil))))))), ?_⟩
  · rintro vs H Q ⟨W, s, b, v, x, rfl, _⟩; rfl
  · rintro vs Q ⟨W, s, b, v, x, rfl, A, hx, ok, g, hm, hb, q⟩
    obtain ⟨l, dxl, pa, ev, en, rfl, hla, hpa, _⟩ := id hx
    obtain ⟨dxw, hw⟩ := A.world
    obtain ⟨dxh, hh⟩ := A.house
    refine ⟨_, rfl, l, _, dxl, _, _, rfl, hla, T.cls_Letter, T.no_Letter_kind, rfl, rfl, _, rfl, ite2 (fun h => ?_) (fun h => ?_)⟩
    · have hk : x.kind = 0 := eqV'.mp h
      refine ⟨_, rfl, W.wd, _, dxw, _, _, rfl, hw, T.cls_World, T.no_World_house, rfl, W.hs, dxh, _, rfl, hh, rfl, _, rfl, W, s, b, b, l, x, rfl, A, hx, hk, g, hb, hm, q⟩
    have hk0 : ¬ x.kind = 0 := fun z => h (eqV'.mpr z)
    obtain ⟨hc1, hc2, hc3, hc4, hc5⟩ := A.clis
    have hi := ok.cli
    have hca : W.cs[x.client]? = some (W.cs[x.client]'(by omega)) := List.getElem?_eq_getElem (by omega)
    generalize W.cs[x.client]'(by omega) = a at hca
    have hcc := client_of (s := s) (i := x.client) (by rw [hm.len3]; exact hi)
    obtain ⟨d, hd, dx, pa0, kvs, hco, _⟩ := A.client hca hcc
    refine ⟨_, rfl, W.wd, _, dxw, _, _, rfl, hw, T.cls_World, T.no_World_clients, rfl, _, rfl, l, _, dxl, _, _, rfl, hla, T.cls_Letter, T.no_Letter_client, rfl, W.cl, _, _, _, rfl, rfl, SqL.of hc1, atI_nat (j := x.client) (v := V.ref a) (by rw [List.getElem?_map, hca]; rfl), ?_⟩
    refine ⟨_, rfl, l, _, dxl, _, _, rfl, hla, T.cls_Letter, T.no_Letter_kind, rfl, rfl, _, rfl, ite2 (fun h => ?_) (fun h => ?_)⟩
    · have hk : x.kind = 1 := eqV'.mp h
      exact ⟨_, rfl, a, dx, _, rfl, hco, rfl, _, rfl, W, s, b, a, l, x, rfl, A, hca, hx, hk, ok, hm, hb, q⟩
    · have hk1 : ¬ x.kind = 1 := fun z => h (eqV'.mpr z)
      have hk : x.kind = 2 := by have := ok.kind; omega
      exact ⟨_, rfl, a, dx, _, rfl, hco, rfl, _, rfl, W, s, b, a, l, x, rfl, A, hca, hx, hk, ok, hm, hb, q⟩
theorem ok_answer_ask (T : Tx K mg) : HasFn Prog w K mg base 5 (He.fAd K d_answer_ask.at_) p_answer_ask (pm_ans K (one .ask)) := by
  refine mkFn T.fun_answer_ask S_answer_ask (fun _ _ _ _ _ _ us hl => match us, hl with | [_, _, _], _ => rfl) ?_ fun cdv A outer s H E hr => ⟨_,
    (pss_cons (ps_if (pt_not (pt_call (pe_methH (pv 0) T.cls_World T.me_World_has_client (ok_World_has_client T) (hr.mono (by decide)) (pa_cons (pe_ix ix_list (pv 1) pe_int (fun _ _ => rfl)) pa_nil)))) (pss_one (ps_ret (pe_lst (pa_cons (pe_un un_neg pe_int) pa_nil)))) pss_nil)
    (pss_cons (ps_set (i := 3) S_answer_ask.nd rfl (Or.inl rfl) (pe_ix ix_list (pe_fld (pv 0) rfl) (pe_ix ix_list (pv 1) pe_int (fun _ _ => rfl)) (fun _ _ => rfl)))
    (pss_cons (ps_if (pt_not (pt_call (pe_methH0 (pv 3) T.cls_Client T.me_Client_watches (ok_Client_watches T) (hr.mono (by decide))))) (pss_one (ps_ret (pe_lst (pa_cons (pe_un un_neg pe_int) pa_nil)))) pss_nil)
    (pss_cons (ps_expr (pe_methH (pv 3) T.cls_Client T.me_Client_ask_house (ok_Client_ask_house T) (hr.mono (by decide)) (pa_cons (pe_fld (pv 0) rfl) pa_nil)))
    (pss_one (ps_ret (pe_lst (pa_cons (pe_callH (ok_tell_turn T) (hr.mono (by decide)) (by rfl) T.glo_tell_turn (pa_cons (pe_fld (pv 3) rfl) pa_nil)) pa_nil)))))))), ?_⟩
  · rintro vs H Q h; exact pm_ans_len h
  · rintro vs Q ⟨W, s, b, nu, li, numbers, as, rows, c, rfl, A, ⟨g, hm, hz⟩, hb, hnu, hli, hro, nnu, nli, nas, ⟨i, rfl, rfl⟩, q⟩
    obtain ⟨dxw, hw⟩ := A.world
    refine ⟨_, rfl, W.wd, dxw, _, rfl, hw, rfl, _, rfl, nu, _, _, _, rfl, rfl, SqL.of hnu, atI_nat (j := 0) rfl, _, i, rfl, _, rfl, ite2 (fun h => ?_) (fun h => ?_)⟩
    · have hi : 3 ≤ i := by simpa using h
      have e : stp s (.ask i) = (s, [-1]) := by unfold stp; simp only [Ag07.step]; rw [if_pos (show Ag07.CLIENTS ≤ i from hi)]; rfl
      rw [e] at q
      exact ⟨_, rfl, by show (1 : Nat) ≤ sizeLine; decide, fin_ans (ans := [-1]) A (Ch.refl _ _) rfl q⟩
    have hi : ¬ 3 ≤ i := fun z => h (by simpa using z)
    obtain ⟨hc1, hc2, hc3, hc4, hc5⟩ := A.clis
    have hca : W.cs[i]? = some (W.cs[i]'(by omega)) := List.getElem?_eq_getElem (by omega)
    generalize W.cs[i]'(by omega) = a at hca
    have hcc := client_of (s := s) (i := i) (by omega)
    have e0 : stp s (.ask i) = if (Ag07.client s i).num = 0 then (s, [-2]) else (Ag07.askLetter s i (Ag07.client s i), [Ag07.option (Ag07.client s i).upto]) := by
      unfold stp; simp only [Ag07.step]; rw [if_neg (show ¬ Ag07.CLIENTS ≤ i from hi)]; split <;> rfl
    generalize Ag07.client s i = cl at hcc e0
    obtain ⟨d, hd, cat⟩ := A.client hca hcc
    obtain ⟨dx, pa0, kvs, hco, _⟩ := id cat
    refine ⟨_, rfl, W.wd, _, dxw, _, _, rfl, hw, T.cls_World, T.no_World_clients, rfl, _, rfl, nu, _, _, _, rfl, rfl, SqL.of hnu, atI_nat (j := 0) rfl, W.cl, _, _, _, rfl, rfl, SqL.of hc1, atI_nat (j := i) (v := V.ref a) (by rw [List.getElem?_map, hca]; rfl), ?_⟩
    refine ⟨_, rfl, a, dx, _, rfl, hco, rfl, i, a, d, cl, rfl, cat, _, rfl, ite2 (fun h => ?_) (fun h => ?_)⟩
    · have h0 : cl.num = 0 := by simpa using h
      rw [if_pos h0] at e0
      rw [e0] at q
      exact ⟨_, rfl, by show (1 : Nat) ≤ sizeLine; decide, fin_ans (ans := [-2]) A (Ch.refl _ _) rfl q⟩
    have h0 : ¬ cl.num = 0 := fun z => h (by simpa using z)
    rw [if_neg h0] at e0
    rw [e0] at q
    refine ⟨_, rfl, a, dx, _, rfl, hco, rfl, _, rfl, W.wd, _, dxw, _, _, rfl, hw, T.cls_World, T.no_World_net, rfl, W, s, i, a, cl, rfl, A, g.lts, hca, hcc, fun H1 A1 k1 => ?_⟩
    have hcc1 : (Ag07.askLetter s i cl).clients[i]? = some cl := hcc
    obtain ⟨d1, hd1, dx1, pa1, kvs1, hco1, _⟩ := A1.client hca hcc1
    refine ⟨_, rfl, a, _, dx1, _, _, rfl, hco1, T.cls_Client, T.no_Client_up_to, rfl, cl.upto, rfl, by show (1 : Nat) ≤ sizeLine; decide, ?_⟩
    exact fin_ans (ans := [Ag07.option cl.upto]) A1 (Ch.of k1) rfl q
theorem ok_answer_compact (T : Tx K mg) : HasFn Prog w K mg base 2 (He.fAd K d_answer_compact.at_) p_answer_compact (pm_ans K (one .compact)) := by
  refine mkFn T.fun_answer_compact S_answer_compact (fun _ _ _ _ _ _ us hl => match us, hl with | [_, _, _], _ => rfl) ?_ fun cdv A outer s H E hr => ⟨_,
    (pss_cons (ps_set (i := 3) S_answer_compact.nd rfl (Or.inl rfl) (pe_fld (pv 0) rfl))
    (pss_cons (ps_if (pt_cmpR op_gt (pe_ix ix_list (pv 1) pe_int (fun _ _ => rfl)) (pe_methH0 (pv 3) T.cls_House T.me_House_last_turn (ok_House_last_turn T) (hr.mono (by decide))) (nomark _)) (pss_one (ps_ret (pe_lst (pa_cons (pe_un un_neg pe_int) pa_nil)))) pss_nil)
    (pss_cons (ps_if (pt_cmpR op_lt (pe_ix ix_list (pv 1) pe_int (fun _ _ => rfl)) (pe_fld (pv 3) rfl) (nomark _)) (pss_one (ps_ret (pe_lst (pa_cons (pe_un un_neg pe_int) pa_nil)))) pss_nil)
    (pss_cons (ps_fld (pv 3) (pe_ix ix_list (pv 1) pe_int (fun _ _ => rfl)) rfl)
    (pss_one (ps_ret (pe_lst (pa_cons pe_int pa_nil)))))))), ?_⟩
  · rintro vs H Q h; exact pm_ans_len h
  · rintro vs Q ⟨W, s, b, nu, li, numbers, as, rows, c, rfl, A, ⟨g, hm, hz⟩, hb, hnu, hli, hro, nnu, nli, nas, ⟨t, rfl, rfl⟩, q⟩
    obtain ⟨dxw, hw⟩ := A.world
    obtain ⟨dxh, hh⟩ := A.house
    refine ⟨_, rfl, W.wd, _, dxw, _, _, rfl, hw, T.cls_World, T.no_World_house, rfl, ?_⟩
    refine ⟨_, rfl, nu, _, _, _, rfl, rfl, SqL.of hnu, atI_nat (j := 0) rfl, _, rfl, W.hs, dxh, _, rfl, hh, rfl, W, s, rfl, A, _, _, rfl, rfl, _, rfl, ite2 (fun h => ?_) (fun h => ?_)⟩
    · have hl : Ag07.turn s < t := by have := of_decide_eq_true h; omega
      have e : stp s (.compact t) = (s, [-1]) := by unfold stp; simp only [Ag07.step]; rw [if_pos hl]; rfl
      rw [e] at q
      exact ⟨_, rfl, by show (1 : Nat) ≤ sizeLine; decide, fin_ans (ans := [-1]) A (Ch.refl _ _) rfl q⟩
    have hl : ¬ Ag07.turn s < t := fun z => h (decide_eq_true (by omega))
    refine ⟨_, rfl, nu, _, _, _, rfl, rfl, SqL.of hnu, atI_nat (j := 0) rfl, _, rfl, W.hs, _, dxh, _, _, rfl, hh, T.cls_House, T.no_House_base, rfl, _, _, rfl, rfl, _, rfl, ite2 (fun h => ?_) (fun h => ?_)⟩
    · have hl2 : t < s.base := by have := of_decide_eq_true h; omega
      have e : stp s (.compact t) = (s, [-2]) := by unfold stp; simp only [Ag07.step]; rw [if_neg hl, if_pos hl2]; rfl
      rw [e] at q
      exact ⟨_, rfl, by show (1 : Nat) ≤ sizeLine; decide, fin_ans (ans := [-2]) A (Ch.refl _ _) rfl q⟩
    have hl2 : ¬ t < s.base := fun z => h (decide_eq_true (by omega))
    have e : stp s (.compact t) = ({ s with base := t }, [0]) := by unfold stp; simp only [Ag07.step]; rw [if_neg hl, if_neg hl2]; rfl
    rw [e] at q
    refine ⟨_, rfl, nu, _, _, _, rfl, rfl, SqL.of hnu, atI_nat (j := 0) rfl, _, rfl, W.hs, _, dxh, _, rfl, hh, T.cls_House, T.no_House_base, (by show (9 : Nat) < 1000; decide), ?_⟩
    have p := A.put_hs (dx := dxh) (life := s.life) (time := s.time) (opened := s.opened) (bs := t) ⟨_, hh⟩
    exact ⟨by show (1 : Nat) ≤ sizeLine; decide, fin_ans (ans := [0]) p.1 (Ch.of (p.2.sub (by simp [WAd.mu]))) rfl q⟩
theorem hand_one (s : Ag07.State) (x : Ag07.Letter) : ∃ z, (Ag07.hand s x).2 = [z] := by
  unfold Ag07.hand
  split
  · split
    · exact ⟨_, rfl⟩
    · split
      · split <;> exact ⟨_, rfl⟩
      · exact ⟨_, rfl⟩
  · simp only
    split
    · exact ⟨_, rfl⟩
    · split
      · split
        · exact ⟨_, rfl⟩
        · split <;> exact ⟨_, rfl⟩
      · exact ⟨_, rfl⟩
  · simp only
    split <;> split <;> exact ⟨_, rfl⟩
/-- without the letter at place k -/
theorem erase_both {b : Nat} {s : Ag07.State} (g : Good b s) (h : More b s) (k : Nat) : Good b { s with letters := s.letters.eraseIdx k } ∧ More b { s with letters := s.letters.eraseIdx k } :=
  ⟨g.same rfl (Nat.le_trans (List.length_eraseIdx_le _ _) g.lts) rfl rfl rfl, ⟨h.evs, fun x hx => h.lets x (List.mem_of_mem_eraseIdx hx), h.clis, h.len3, h.wat, h.wnd, h.bas⟩⟩
theorem ok_answer_take (T : Tx K mg) : HasFn Prog w K mg base 8 (He.fAd K d_answer_take.at_) p_answer_take (pm_ans K (one .take)) := by
  refine mkFn T.fun_answer_take S_answer_take (fun _ _ _ _ _ _ us hl => match us, hl with | [_, _, _], _ => rfl) ?_ fun cdv A outer s H E hr => ⟨_,
    (pss_cons (ps_if (pt_not (pt_call (pe_methH (pe_fld (pv 0) rfl) T.cls_Net T.me_Net_has_letter (ok_Net_has_letter T) (hr.mono (by decide)) (pa_cons (pe_ix ix_list (pv 1) pe_int (fun _ _ => rfl)) pa_nil)))) (pss_one (ps_ret (pe_lst (pa_cons (pe_un un_neg pe_int) pa_nil)))) pss_nil)
    (pss_cons (ps_set (i := 3) S_answer_take.nd rfl (Or.inl rfl) (pe_methH (pe_fld (pv 0) rfl) T.cls_Net T.me_Net_take_out (ok_Net_take_out T) (hr.mono (by decide)) (pa_cons (pe_ix ix_list (pv 1) pe_int (fun _ _ => rfl)) pa_nil)))
    (pss_one (ps_ret (pe_lst (pa_cons (pe_methH (pv 0) T.cls_World T.me_World_hand_over (ok_World_hand_over T) (hr.mono (by decide)) (pa_cons (pv 3) pa_nil)) pa_nil)))))), ?_⟩
  · rintro vs H Q h; exact pm_ans_len h
  · rintro vs Q ⟨W, s, b, nu, li, numbers, as, rows, c, rfl, A, ⟨g, hm, hz⟩, hb, hnu, hli, hro, nnu, nli, nas, ⟨k, rfl, rfl⟩, q⟩
    obtain ⟨dxw, hw⟩ := A.world
    obtain ⟨dxn, hn⟩ := A.neto
    obtain ⟨lv, hlv, pl⟩ := A.lets
    have hll := Paired.len pl
    have hlts := g.lts
    refine ⟨_, rfl, W.wd, _, dxw, _, _, rfl, hw, T.cls_World, T.no_World_net, rfl, W.net, dxn, _, rfl, hn, rfl, _, rfl, nu, _, _, _, rfl, rfl, SqL.of hnu, atI_nat (j := 0) rfl, W.net, dxn, W.ll, k, lv, rfl, hn, hlv, _, rfl, ite2 (fun h => ?_) (fun h => ?_)⟩
    · have hl : s.letters[k]? = none := by
        rw [List.getElem?_eq_none_iff]
        simp at h; omega
      have e : stp s (.take k) = (s, [-1]) := by unfold stp; simp only [Ag07.step, hl]; rfl
      rw [e] at q
      exact ⟨_, rfl, by show (1 : Nat) ≤ sizeLine; decide, fin_ans (ans := [-1]) A (Ch.refl _ _) rfl q⟩
    have hk : k < lv.length := by simp at h; omega
    have hv : lv[k]? = some lv[k] := List.getElem?_eq_getElem hk
    generalize lv[k] = v at hv
    obtain ⟨x, hx, lat⟩ := Paired.get pl hv
    have ok := hm.lets x (List.mem_of_getElem? hx)
    have e : stp s (.take k) = Ag07.hand { s with letters := s.letters.eraseIdx k } x := by unfold stp; simp only [Ag07.step, hx]; rfl
    rw [e] at q
    obtain ⟨ge, me⟩ := erase_both g hm k
    have p := A.put_ll (Paired.erase pl k)
    refine ⟨_, rfl, W.wd, _, dxw, _, _, rfl, hw, T.cls_World, T.no_World_net, rfl, W.net, dxn, _, rfl, hn, rfl, _, rfl, nu, _, _, _, rfl, rfl, SqL.of hnu, atI_nat (j := 0) rfl, W.net, dxn, W.ll, v, k, lv, rfl, hn, hlv, by omega, hv, ?_⟩
    have lat1 := lat.keep p.2 (by simp [WAd.mu])
    obtain ⟨dxw1, hw1⟩ := p.1.world
    refine ⟨_, rfl, W.wd, dxw1, _, rfl, hw1, rfl, _, rfl, W, _, b, v, x, rfl, p.1, lat1, ok, ge, me, by omega, fun H2 W2 z hwd A2 c2 hz2 => ?_⟩
    refine ⟨by show (1 : Nat) ≤ sizeLine; decide, ?_⟩
    rw [hz2] at q
    exact fin_ans (ans := [z]) A2 ((Ch.of (p.2.sub (by simp [WAd.mu]))).trans c2) hwd q
theorem ok_answer_keep (T : Tx K mg) : HasFn Prog w K mg base 8 (He.fAd K d_answer_keep.at_) p_answer_keep (pm_ans K (one .keep)) := by
  refine mkFn T.fun_answer_keep S_answer_keep (fun _ _ _ _ _ _ us hl => match us, hl with | [_, _, _], _ => rfl) ?_ fun cdv A outer s H E hr => ⟨_,
    (pss_cons (ps_if (pt_not (pt_call (pe_methH (pe_fld (pv 0) rfl) T.cls_Net T.me_Net_has_letter (ok_Net_has_letter T) (hr.mono (by decide)) (pa_cons (pe_ix ix_list (pv 1) pe_int (fun _ _ => rfl)) pa_nil)))) (pss_one (ps_ret (pe_lst (pa_cons (pe_un un_neg pe_int) pa_nil)))) pss_nil)
    (pss_one (ps_ret (pe_lst (pa_cons (pe_methH (pv 0) T.cls_World T.me_World_hand_over (ok_World_hand_over T) (hr.mono (by decide)) (pa_cons (pe_ix ix_list (pe_fld (pe_fld (pv 0) rfl) rfl) (pe_ix ix_list (pv 1) pe_int (fun _ _ => rfl)) (fun _ _ => rfl)) pa_nil)) pa_nil))))), ?_⟩
  · rintro vs H Q h; exact pm_ans_len h
  · rintro vs Q ⟨W, s, b, nu, li, numbers, as, rows, c, rfl, A, ⟨g, hm, hz⟩, hb, hnu, hli, hro, nnu, nli, nas, ⟨k, rfl, rfl⟩, q⟩
    obtain ⟨dxw, hw⟩ := A.world
    obtain ⟨dxn, hn⟩ := A.neto
    obtain ⟨lv, hlv, pl⟩ := A.lets
    have hll := Paired.len pl
    have hlts := g.lts
    refine ⟨_, rfl, W.wd, _, dxw, _, _, rfl, hw, T.cls_World, T.no_World_net, rfl, W.net, dxn, _, rfl, hn, rfl, _, rfl, nu, _, _, _, rfl, rfl, SqL.of hnu, atI_nat (j := 0) rfl, W.net, dxn, W.ll, k, lv, rfl, hn, hlv, _, rfl, ite2 (fun h => ?_) (fun h => ?_)⟩
    · have hl : s.letters[k]? = none := by
        rw [List.getElem?_eq_none_iff]
        simp at h; omega
      have e : stp s (.keep k) = (s, [-1]) := by unfold stp; simp only [Ag07.step, hl]; rfl
      rw [e] at q
      exact ⟨_, rfl, by show (1 : Nat) ≤ sizeLine; decide, fin_ans (ans := [-1]) A (Ch.refl _ _) rfl q⟩
    have hk : k < lv.length := by simp at h; omega
    have hv : lv[k]? = some lv[k] := List.getElem?_eq_getElem hk
    generalize lv[k] = v at hv
    obtain ⟨x, hx, lat⟩ := Paired.get pl hv
    have ok := hm.lets x (List.mem_of_getElem? hx)
    have e : stp s (.keep k) = Ag07.hand s x := by unfold stp; simp only [Ag07.step, hx]; rfl
    rw [e] at q
    refine ⟨_, rfl, W.wd, dxw, _, rfl, hw, rfl, _, rfl, W.wd, _, dxw, _, _, rfl, hw, T.cls_World, T.no_World_net, rfl, W.net, _, dxn, _, _, rfl, hn, T.cls_Net, T.no_Net_letters, rfl, _, rfl, nu, _, _, _, rfl, rfl, SqL.of hnu, atI_nat (j := 0) rfl, W.ll, _, _, _, rfl, rfl, SqL.of hlv, atI_nat (j := k) hv, ?_⟩
    refine ⟨W, s, b, v, x, rfl, A, lat, ok, g, hm, by omega, fun H2 W2 z hwd A2 c2 hz2 => ?_⟩
    refine ⟨by show (1 : Nat) ≤ sizeLine; decide, ?_⟩
    rw [hz2] at q
    exact fin_ans (ans := [z]) A2 c2 hwd q
theorem ok_answer_lose (T : Tx K mg) : HasFn Prog w K mg base 2 (He.fAd K d_answer_lose.at_) p_answer_lose (pm_ans K (one .lose)) := by
  refine mkFn T.fun_answer_lose S_answer_lose (fun _ _ _ _ _ _ us hl => match us, hl with | [_, _, _], _ => rfl) ?_ fun cdv A outer s H E hr => ⟨_,
    (pss_cons (ps_if (pt_not (pt_call (pe_methH (pe_fld (pv 0) rfl) T.cls_Net T.me_Net_has_letter (ok_Net_has_letter T) (hr.mono (by decide)) (pa_cons (pe_ix ix_list (pv 1) pe_int (fun _ _ => rfl)) pa_nil)))) (pss_one (ps_ret (pe_lst (pa_cons (pe_un un_neg pe_int) pa_nil)))) pss_nil)
    (pss_cons (ps_expr (pe_methH (pe_fld (pv 0) rfl) T.cls_Net T.me_Net_take_out (ok_Net_take_out T) (hr.mono (by decide)) (pa_cons (pe_ix ix_list (pv 1) pe_int (fun _ _ => rfl)) pa_nil)))
    (pss_one (ps_ret (pe_lst (pa_cons pe_int pa_nil)))))), ?_⟩
  · rintro vs H Q h; exact pm_ans_len h
  · rintro vs Q ⟨W, s, b, nu, li, numbers, as, rows, c, rfl, A, ⟨g, hm, hz⟩, hb, hnu, hli, hro, nnu, nli, nas, ⟨k, rfl, rfl⟩, q⟩
    obtain ⟨dxw, hw⟩ := A.world
    obtain ⟨dxn, hn⟩ := A.neto
    obtain ⟨lv, hlv, pl⟩ := A.lets
    have hll := Paired.len pl
    have hlts := g.lts
    refine ⟨_, rfl, W.wd, _, dxw, _, _, rfl, hw, T.cls_World, T.no_World_net, rfl, W.net, dxn, _, rfl, hn, rfl, _, rfl, nu, _, _, _, rfl, rfl, SqL.of hnu, atI_nat (j := 0) rfl, W.net, dxn, W.ll, k, lv, rfl, hn, hlv, _, rfl, ite2 (fun h => ?_) (fun h => ?_)⟩
    · have hl : s.letters.length ≤ k := by simp at h; omega
      have e : stp s (.lose k) = (s, [-1]) := by unfold stp; simp only [Ag07.step]; rw [if_pos hl]; rfl
      rw [e] at q
      exact ⟨_, rfl, by show (1 : Nat) ≤ sizeLine; decide, fin_ans (ans := [-1]) A (Ch.refl _ _) rfl q⟩
    have hk : k < lv.length := by simp at h; omega
    have hv : lv[k]? = some lv[k] := List.getElem?_eq_getElem hk
    generalize lv[k] = v at hv
    have e : stp s (.lose k) = ({ s with letters := s.letters.eraseIdx k }, [0]) := by unfold stp; simp only [Ag07.step]; rw [if_neg (by omega)]; rfl
    rw [e] at q
    have p := A.put_ll (Paired.erase pl k)
    refine ⟨_, rfl, W.wd, _, dxw, _, _, rfl, hw, T.cls_World, T.no_World_net, rfl, W.net, dxn, _, rfl, hn, rfl, _, rfl, nu, _, _, _, rfl, rfl, SqL.of hnu, atI_nat (j := 0) rfl, W.net, dxn, W.ll, v, k, lv, rfl, hn, hlv, by omega, hv, ?_⟩
    exact ⟨by show (1 : Nat) ≤ sizeLine; decide, fin_ans (ans := [0]) p.1 (Ch.of (p.2.sub (by simp [WAd.mu]))) rfl q⟩
end
end Wt

set_option Elab.async false
set_option linter.all false
set_option maxRecDepth 100000
set_option maxHeartbeats 4000000
namespace Wt
open PySem PySem.Spec PyProof.Rows L2
theorem path_short {n : Nat} {p : List Nat} (h : Ag07.isPath n p = true) : p.length ≤ 3 := by
  unfold Ag07.isPath at h
  simp only [Bool.and_eq_true, decide_eq_true_eq] at h
  exact h.2.1
/-- a call that's handed nothing -/
def fm_none (c0 : Ag07.Call) : Form := fun _ _ c => c = c0
section
variable {w : World} {K : PySem.W.Frag} {mg : Str → Option Value} {base : Heap}
theorem ok_answer_letters (T : Tx K mg) : HasFn Prog w K mg base 5 (He.fAd K d_answer_letters.at_) p_answer_letters (pm_ans K (fm_none .letters)) := by
  refine mkFn T.fun_answer_letters S_answer_letters (fun _ _ _ _ _ _ us hl => match us, hl with | [_, _, _], _ => rfl) ?_ fun cdv A outer s H E hr => ⟨_,
    (pss_one (ps_ret (pe_callH (ok_tell_letters T) (hr.mono (by decide)) (by rfl) T.glo_tell_letters (pa_cons (pe_fld (pe_fld (pv 0) rfl) rfl) pa_nil)))), ?_⟩
  · rintro vs H Q h; exact pm_ans_len h
  · rintro vs Q ⟨W, s, b, nu, li, numbers, as, rows, c, rfl, A, ⟨g, hm, hz⟩, hb, hnu, hli, hro, nnu, nli, nas, rfl, q⟩
    obtain ⟨dxw, hw⟩ := A.world
    obtain ⟨dxn, hn⟩ := A.neto
    obtain ⟨lv, hlv, pl⟩ := A.lets
    have e : stp s .letters = (s, (s.letters.length : Int) :: s.letters.flatMap letNums) := rfl
    rw [e] at q hz
    refine ⟨_, rfl, W.wd, _, dxw, _, _, rfl, hw, T.cls_World, T.no_World_net, rfl, W.net, _, dxn, _, _, rfl, hn, T.cls_Net, T.no_Net_letters, rfl, W.ll, W.mu, lv, s.letters, rfl, hlv, pl, ?_, hz, fun H1 p hp hp' k1 => ?_⟩
    · intro x hx
      have ok := hm.lets x hx
      exact ⟨Nat.le_trans (path_short ok.pth) (by decide), fun y hy => Nat.le_trans (path_short (ok.evs.2 y hy).1) (by decide), fun y hy => Nat.le_trans (path_short (ok.nds y hy)) (by decide)⟩
    · exact q H1 W p rfl (A.keep k1) (Ch.of (k1.sub (by simp))) (fun _ => hp) hp'
theorem ok_answer_client (T : Tx K mg) : HasFn Prog w K mg base 4 (He.fAd K d_answer_client.at_) p_answer_client (pm_ans K (one .client)) := by
  refine mkFn T.fun_answer_client S_answer_client (fun _ _ _ _ _ _ us hl => match us, hl with | [_, _, _], _ => rfl) ?_ fun cdv A outer s H E hr => ⟨_,
    (pss_cons (ps_if (pt_not (pt_call (pe_methH (pv 0) T.cls_World T.me_World_has_client (ok_World_has_client T) (hr.mono (by decide)) (pa_cons (pe_ix ix_list (pv 1) pe_int (fun _ _ => rfl)) pa_nil)))) (pss_one (ps_ret (pe_lst (pa_cons (pe_un un_neg pe_int) pa_nil)))) pss_nil)
    (pss_one (ps_ret (pe_callH (ok_tell_client T) (hr.mono (by decide)) (by rfl) T.glo_tell_client (pa_cons (pe_ix ix_list (pe_fld (pv 0) rfl) (pe_ix ix_list (pv 1) pe_int (fun _ _ => rfl)) (fun _ _ => rfl)) pa_nil))))), ?_⟩
  · rintro vs H Q h; exact pm_ans_len h
  · rintro vs Q ⟨W, s, b, nu, li, numbers, as, rows, c, rfl, A, ⟨g, hm, hz⟩, hb, hnu, hli, hro, nnu, nli, nas, ⟨i, rfl, rfl⟩, q⟩
    obtain ⟨dxw, hw⟩ := A.world
    refine ⟨_, rfl, W.wd, dxw, _, rfl, hw, rfl, _, rfl, nu, _, _, _, rfl, rfl, SqL.of hnu, atI_nat (j := 0) rfl, _, i, rfl, _, rfl, ite2 (fun h => ?_) (fun h => ?_)⟩
    · have hi : 3 ≤ i := by simpa using h
      have e : stp s (.client i) = (s, [-1]) := by unfold stp; simp only [Ag07.step]; rw [if_pos (show Ag07.CLIENTS ≤ i from hi)]; rfl
      rw [e] at q
      exact ⟨_, rfl, by show (1 : Nat) ≤ sizeLine; decide, fin_ans (ans := [-1]) A (Ch.refl _ _) rfl q⟩
    have hi : ¬ 3 ≤ i := fun z => h (by simpa using z)
    obtain ⟨hc1, hc2, hc3, hc4, hc5⟩ := A.clis
    have hca : W.cs[i]? = some (W.cs[i]'(by omega)) := List.getElem?_eq_getElem (by omega)
    generalize W.cs[i]'(by omega) = a at hca
    have hcc := client_of (s := s) (i := i) (by omega)
    have hok := client_ok hm (show i < 3 by omega)
    have e : stp s (.client i) = (s, cliNums (Ag07.client s i)) := by unfold stp; simp only [Ag07.step]; rw [if_neg (show ¬ Ag07.CLIENTS ≤ i from hi)]; rfl
    rw [e] at q hz
    generalize Ag07.client s i = cl at hcc hok q hz
    obtain ⟨d, hd, cat⟩ := A.client hca hcc
    refine ⟨_, rfl, W.wd, _, dxw, _, _, rfl, hw, T.cls_World, T.no_World_clients, rfl, _, rfl, nu, _, _, _, rfl, rfl, SqL.of hnu, atI_nat (j := 0) rfl, W.cl, _, _, _, rfl, rfl, SqL.of hc1, atI_nat (j := i) (v := V.ref a) (by rw [List.getElem?_map, hca]; rfl), ?_⟩
    refine ⟨i, a, d, cl, rfl, cat, hok.srt, (fun y hy => ⟨path_ne (hok.nds y hy), Nat.le_trans (path_short (hok.nds y hy)) (by decide)⟩), by have := hok.cnt; omega, Nat.le_trans (path_short hok.pth) (by decide), hz, fun H1 p hp hp' k1 => ?_⟩
    exact q H1 W p rfl (A.keep k1) (Ch.of (k1.sub (by simp))) (fun _ => hp) hp'
theorem ok_answer_house (T : Tx K mg) : HasFn Prog w K mg base 4 (He.fAd K d_answer_house.at_) p_answer_house (pm_ans K (fm_none .house)) := by
  refine mkFn T.fun_answer_house S_answer_house (fun _ _ _ _ _ _ us hl => match us, hl with | [_, _, _], _ => rfl) ?_ fun cdv A outer s H E hr => ⟨_,
    (pss_one (ps_ret (pe_callH (ok_tell_house T) (hr.mono (by decide)) (by rfl) T.glo_tell_house (pa_cons (pe_fld (pv 0) rfl) pa_nil)))), ?_⟩
  · rintro vs H Q h; exact pm_ans_len h
  · rintro vs Q ⟨W, s, b, nu, li, numbers, as, rows, c, rfl, A, ⟨g, hm, hz⟩, hb, hnu, hli, hro, nnu, nli, nas, rfl, q⟩
    obtain ⟨dxw, hw⟩ := A.world
    have e : stp s .house = (s, Ag07.nums (houNums s)) := rfl
    rw [e] at q hz
    have hz : (Ag07.nums (houNums s)).length ≤ 10000000 := hz
    rw [nums_len] at hz
    refine ⟨_, rfl, W.wd, _, dxw, _, _, rfl, hw, T.cls_World, T.no_World_house, rfl, W, s, rfl, A, g.sid, (fun x hx => Nat.le_trans (path_short (hm.wat x hx).2) (by decide)), hz, fun H1 p hp hp' k1 => ?_⟩
    exact q H1 W p rfl (A.keep k1) (Ch.of (k1.sub (by simp))) (fun _ => hp) hp'
theorem ok_answer_log (T : Tx K mg) : HasFn Prog w K mg base 3 (He.fAd K d_answer_log.at_) p_answer_log (pm_ans K (one .log)) := by
  refine mkFn T.fun_answer_log S_answer_log (fun _ _ _ _ _ _ us hl => match us, hl with | [_, _, _], _ => rfl) ?_ fun cdv A outer s H E hr => ⟨_,
    (pss_cons (ps_set (i := 3) S_answer_log.nd rfl (Or.inl rfl) (pe_fld (pv 0) rfl))
    (pss_cons (ps_if (pt_not (pt_call (pe_methH (pv 3) T.cls_House T.me_House_has_turn (ok_House_has_turn T) (hr.mono (by decide)) (pa_cons (pe_ix ix_list (pv 1) pe_int (fun _ _ => rfl)) pa_nil)))) (pss_one (ps_ret (pe_lst (pa_cons (pe_un un_neg pe_int) pa_nil)))) pss_nil)
    (pss_cons (ps_if (pt_cmpR op_le (pe_ix ix_list (pv 1) pe_int (fun _ _ => rfl)) (pe_fld (pv 3) rfl) (nomark _)) (pss_one (ps_ret (pe_lst (pa_cons (pe_un un_neg pe_int) pa_nil)))) pss_nil)
    (pss_one (ps_ret (pe_callH (ok_tell_events T) (hr.mono (by decide)) (by rfl) T.glo_tell_events (pa_cons (pe_methH (pv 3) T.cls_House T.me_House_events_of (ok_House_events_of T) (hr.mono (by decide)) (pa_cons (pe_ix ix_list (pv 1) pe_int (fun _ _ => rfl)) pa_nil)) pa_nil))))))), ?_⟩
  · rintro vs H Q h; exact pm_ans_len h
  · rintro vs Q ⟨W, s, b, nu, li, numbers, as, rows, c, rfl, A, ⟨g, hm, hz⟩, hb, hnu, hli, hro, nnu, nli, nas, ⟨t, rfl, rfl⟩, q⟩
    obtain ⟨dxw, hw⟩ := A.world
    obtain ⟨dxh, hh⟩ := A.house
    refine ⟨_, rfl, W.wd, _, dxw, _, _, rfl, hw, T.cls_World, T.no_World_house, rfl, ?_⟩
    refine ⟨_, rfl, W.hs, dxh, _, rfl, hh, rfl, _, rfl, nu, _, _, _, rfl, rfl, SqL.of hnu, atI_nat (j := 0) rfl, W, s, t, rfl, A, _, rfl, ite2 (fun h => ?_) (fun h => ?_)⟩
    · have hl : t = 0 ∨ Ag07.turn s < t := by simp at h; omega
      have e : stp s (.log t) = (s, [-1]) := by unfold stp; simp only [Ag07.step]; rw [if_pos hl]; rfl
      rw [e] at q
      exact ⟨_, rfl, by show (1 : Nat) ≤ sizeLine; decide, fin_ans (ans := [-1]) A (Ch.refl _ _) rfl q⟩
    have hl : ¬ (t = 0 ∨ Ag07.turn s < t) := by simp at h; omega
    refine ⟨_, rfl, nu, _, _, _, rfl, rfl, SqL.of hnu, atI_nat (j := 0) rfl, _, rfl, W.hs, _, dxh, _, _, rfl, hh, T.cls_House, T.no_House_base, rfl, _, _, rfl, rfl, _, rfl, ite2 (fun h => ?_) (fun h => ?_)⟩
    · have hl2 : t ≤ s.base := by have := of_decide_eq_true h; omega
      have e : stp s (.log t) = (s, [-2]) := by unfold stp; simp only [Ag07.step]; rw [if_neg hl, if_pos hl2]; rfl
      rw [e] at q
      exact ⟨_, rfl, by show (1 : Nat) ≤ sizeLine; decide, fin_ans (ans := [-2]) A (Ch.refl _ _) rfl q⟩
    have hl2 : ¬ t ≤ s.base := fun z => h (decide_eq_true (by omega))
    obtain ⟨j, rfl⟩ : ∃ j, t = j + 1 := ⟨t - 1, by omega⟩
    have hj : j < s.log.length := by have : ¬ s.log.length < j + 1 := fun z => hl (.inr z); omega
    have hes := log_get hj
    have e : stp s (.log (j + 1)) = (s, Ag07.nums ((s.log.getD j []).length :: (s.log.getD j []).flatMap Ag07.eventOf)) := by unfold stp; simp only [Ag07.step]; rw [if_neg hl, if_neg hl2]; rfl
    rw [e] at q hz
    have hz : (Ag07.nums ((s.log.getD j []).length :: (s.log.getD j []).flatMap Ag07.eventOf)).length ≤ 10000000 := hz
    rw [nums_len] at hz
    generalize s.log.getD j [] = es at hes q hz
    have hev := hm.evs es (List.mem_of_getElem? hes)
    refine ⟨_, rfl, W.hs, dxh, _, rfl, hh, rfl, _, rfl, nu, _, _, _, rfl, rfl, SqL.of hnu, atI_nat (j := 0) rfl, W, s, j, es, rfl, A, hes, fun v hv => ?_⟩
    obtain ⟨ea, evs, rfl, _, hea, pea⟩ := hv
    refine ⟨ea, evs, es, rfl, hea, pea, (fun x hx => Nat.le_trans (path_short (hev.2 x hx).1) (by decide)), hz, fun H1 p hp hp' k1 => ?_⟩
    exact q H1 W p rfl (A.keep k1) (Ch.of (k1.sub (by simp))) (fun _ => hp) hp'
end
end Wt

set_option Elab.async false
set_option linter.all false
set_option maxRecDepth 100000
set_option maxHeartbeats 4000000
namespace Wt
open PySem PySem.Spec PyProof.Rows L2
theorem drop_last_iff {p t : List Nat} (h : p ≠ []) : p.dropLast = t ↔ (p.length = t.length + 1 ∧ Ag07.below p t = true) := by
  have hl : 0 < p.length := List.length_pos_iff.mpr h
  rw [← below_take, decide_eq_true_eq, List.dropLast_eq_take]
  constructor
  · intro e
    have := congrArg List.length e
    rw [List.length_take] at this
    have e2 : p.length = t.length + 1 := by omega
    refine ⟨e2, ?_⟩
    rw [← e]; congr 1; rw [e]; omega
  · rintro ⟨e1, e2⟩
    rw [show p.length - 1 = t.length by omega]; exact e2
/-- those right below a path -/
abbrev kids (l : List Ag07.Node) (p : List Nat) : List Ag07.Node := l.filter fun n => n.path.length == p.length + 1 && Ag07.below n.path p
theorem kid_path {p t : List Nat} (h : p.length = t.length + 1) (b : Ag07.below p t = true) : p = t ++ [p.getLastD 0] := by
  have hne : p ≠ [] := fun z => by rw [z] at h; simp at h
  have e := (drop_last_iff hne).mpr ⟨h, b⟩
  conv => lhs; rw [← List.dropLast_concat_getLast hne]
  rw [e, List.getLastD_eq_getLast?, List.getLast?_eq_getLast hne]; rfl
theorem kids_rise {l : List Ag07.Node} (s : SrtN l) (p : List Nat) : ((kids l p).map fun n => n.path.getLastD 0).Pairwise (· < ·) := by
  rw [List.pairwise_map]
  have s2 : (kids l p).Pairwise fun a b => a.path < b.path := s.filter _
  refine List.Pairwise.imp_of_mem (fun {a b} ha hb h => ?_) s2
  obtain ⟨_, ha⟩ := List.mem_filter.mp ha
  obtain ⟨_, hb⟩ := List.mem_filter.mp hb
  simp only [Bool.and_eq_true, beq_iff_eq] at ha hb
  rw [kid_path ha.1 ha.2, kid_path hb.1 hb.2] at h
  have : ∀ (t : List Nat) (x y : Nat), t ++ [x] < t ++ [y] → x < y := by
    intro t x y
    induction t with
    | nil => intro h; rcases List.cons_lt_cons_iff.mp h with h | h; exact h; exact absurd h.2 (List.lt_irrefl _)
    | cons a t ih => intro h; rcases List.cons_lt_cons_iff.mp h with h | h; exact absurd h (Nat.lt_irrefl _); exact ih h.2
  exact this p _ _ h
section
variable {w : World} {K : PySem.W.Frag} {mg : Str → Option Value} {base : Heap}
theorem ok_answer_list (T : Tx K mg) : HasFn Prog w K mg base 2 (He.fAd K d_answer_list.at_) p_answer_list (pm_ans K (fm_path .list)) := by
  refine mkFn T.fun_answer_list S_answer_list (fun _ _ _ _ _ _ us hl => match us, hl with | [_, _, _], _ => rfl) ?_ fun cdv A outer s H E hr => ⟨_,
    (pss_cons (ps_set (i := 3) S_answer_list.nd rfl (Or.inr rfl) (pe_callTy call_tuple_of (by rfl) T.free_tuple (by decide +kernel) (pa_cons (pe_ix ix_list (pv 2) pe_int (fun _ _ => rfl)) pa_nil)))
    (pss_cons (ps_set (i := 4) S_answer_list.nd rfl (Or.inl rfl) (pe_fld (pe_fld (pv 0) rfl) rfl))
    (pss_cons (ps_if (pt_not (pt_call (pe_callH (ok_is_path_or_empty T) (hr.mono (by decide)) (by rfl) T.glo_is_path_or_empty (pa_cons (pv 3) pa_nil)))) (pss_one (ps_ret (pe_lst (pa_cons (pe_un un_neg pe_int) pa_nil)))) pss_nil)
    (pss_cons (ps_if (PW.pt (pw_and (pt_cmpR op_gt (pe_callB call_len (by rfl) T.free_len PySem.boot_len (pa_cons (pv 3) pa_nil)) pe_int (nomark _)) (pw_and1 (pt_cmp (pc_dnotin (hu_of hr) (pv 3) (pv 4)) rfl)))) (pss_one (ps_ret (pe_lst (pa_cons (pe_un un_neg pe_int) pa_nil)))) pss_nil)
    (pss_one (ps_ret (pe_callH (ok_tell_row T) (hr.mono (by decide)) (by rfl) T.glo_tell_row (pa_cons (pe_callB cr_sortedI (by rfl) T.free_sorted (by decide +kernel) (pa_cons (pe_lock (pe_lc (own := [("path", 5)]) (g := gName 5) (tt := (tTest (tOp (rEqD K) (tSl (rSlA K) (tVar 5) tNoPart (tPart (tUn (rU fun i => .int (-i)) (tC (.int 1))))) (tVar 3)))) (te := (tOp (rIxT K) (tVar 5) (tUn (rU fun i => .int (-i)) (tC (.int 1))))) rfl S_answer_list.nd (pi_keys (pv 4)) (blkOk_by (own := [("path", 5)]) (N := n_answer_list) (sc := sc_answer_list) (by decide +kernel)) (fun _ _ _ _ _ => pg_name (i := 5) S_answer_list.nd rfl (Or.inl rfl)) (fun _ _ _ _ _ => (pts_one (pt_cmpR (op_eqD hr.units) (pe_slice sl_tupA (pv 5) po_none (po_some (pe_un un_neg pe_int))) (pv 3) (nomark _)))) (fun _ _ _ _ _ => (pe_ix ix_tup (pv 5) (pe_un un_neg pe_int) (fun _ _ => rfl))))) pa_nil)) pa_nil)))))))), ?_⟩
  · rintro vs H Q h; exact pm_ans_len h
  · rintro vs Q ⟨W, s, b, nu, li, numbers, as, rows, c, rfl, A, ⟨g, hm, hz⟩, hb, hnu, hli, hro, nnu, nli, nas, ⟨p, rfl, hpl, rfl⟩, q⟩
    cases hro with
    | @cons ra _ as' _ hra ht =>
    cases ht
    rw [ivs_nat] at hra
    refine ⟨_, rfl, li, _, _, _, rfl, rfl, SqL.of hli, atI_nat (j := 0) rfl, ra, _, rfl, .inl ⟨SqL.of hra, fun pa hpa => ?_⟩⟩
    have k1 : Kp [] H (upd H pa (.tup (pvs p))) := (Kp.refl _ _).new hpa
    have hp1 : upd H pa (.tup (pvs p)) pa = some (.tup (pvs p)) := upd_same
    generalize upd H pa (.tup (pvs p)) = H1 at k1 hp1
    have A1 := A.keep k1
    obtain ⟨dxw1, hw1⟩ := A1.world
    obtain ⟨dxh1, hh1⟩ := A1.house
    refine ⟨_, rfl, W.wd, _, dxw1, _, _, rfl, hw1, T.cls_World, T.no_World_house, rfl, W.hs, _, dxh1, _, _, rfl, hh1, T.cls_House, T.no_House_nodes, rfl, ?_⟩
    refine ⟨_, rfl, pa, p, rfl, hp1, hpl, fun H2 k2 => ⟨_, rfl, ?_⟩⟩
    have A2 := A1.keep k2
    have ch2 : Ch W.mu W.mu H H2 := Ch.of ((k1.trans k2).sub (by simp))
    have hp2 := k2.tup hp1
    refine ite2 (fun h => ?_) (fun h => ?_)
    · have hl : Ag07.isPath 0 p = false := by simpa using h
      have e : stp s (.list p) = (s, [-1]) := by unfold stp; simp only [Ag07.step, hl, if_true]; rfl
      rw [e] at q
      exact ⟨_, rfl, by show (1 : Nat) ≤ sizeLine; decide, fin_ans (ans := [-1]) A2 ch2 rfl q⟩
    · have hl : Ag07.isPath 0 p = true := by simpa using h
      obtain ⟨ns, hns, pm⟩ := A2.nodes
      have hfp := find_perm pm g.srt p
      obtain ⟨kvs, hd, pn⟩ := id hns
      have knd := keys_nodup pn pm g.srt
      have go : ¬ (p ≠ [] ∧ (Ag07.find s.nodes p).isNone = true) → tRet (tCallH (pm_tell_row K) (tCons (tCB (rSortedI K) (tCons (tLockE (tLc (iKeys (tVar 4)) (gName 5) (tTest (tOp (rEqD K) (tSl (rSlA K) (tVar 5) tNoPart (tPart (tUn (rU fun i => .int (-i)) (tC (.int 1))))) (tVar 3)))
          (tOp (rIxT K) (tVar 5) (tUn (rU fun i => .int (-i)) (tC (.int 1)))) [5])) tNil)) tNil))
          { nx := fun _ H' => Q .non H', rt := Q } [some (.ref W.wd), some (.ref nu), some (.ref li), some (.ref pa), some (.ref W.dn), none] H2 := by
        intro hno
        have e : stp s (.list p) = (s, Ag07.nums (Ag07.row ((kids s.nodes p).map fun n => n.path.getLastD 0))) := by
          unfold stp; simp only [Ag07.step, hl]; rw [if_neg (by decide), if_neg hno]; rfl
        rw [e] at q
        refine ⟨W.dn, _, hd, True.intro, fun od => ?_⟩
        have hdl : upd H2 W.dn (.frz od (.dT kvs)) W.dn = some (.frz od (.dT kvs)) := upd_same
        have hpl2 : upd H2 W.dn (.frz od (.dT kvs)) pa = some (.tup (pvs p)) := by rw [upd_ne (ne_of hp2 hd (by intro z; cases z))]; exact hp2
        generalize hHl : upd H2 W.dn (.frz od (.dT kvs)) = Hl at hdl hpl2
        refine ⟨_, rfl, W.dn, od, rfl, .inr ⟨kvs, hdl, fun D hD => lc_it walk_keysT (fun i H' => (∀ b o, Hl b = some o → H' b = some o) ∧
          H' D = some (.lst (((kids (ns.take i) p).map fun n => ((n.path.getLastD 0 : Nat) : Int)).map V.int))) ⟨fun b o e => by rw [upd_ne (ne_of_none e hD)]; exact e, upd_same⟩ (fun i H' _ h => h.1 _ _ hdl) ?_ ?_⟩⟩
        · rintro i x H' H3 hi ⟨kH, hD2⟩ hy
          obtain ⟨rfl, key, v, qa, hkv, rfl, hqa⟩ := hy
          obtain ⟨nd, hnd, hkey, _⟩ := Paired.get pn hkv
          have hkey : key = pkey nd.path := hkey
          rw [hkey, pkey_kV] at hqa
          have hne : nd.path ≠ [] := path_ne (g.pth nd (pm.mem_iff.mp (List.mem_of_getElem? hnd)))
          refine ⟨rfl, ?_⟩
          refine ⟨_, rfl, _, rfl, _, rfl, qa, _, rfl, SqT.of hqa, fun z => absurd z (cut_last hne).2, fun _ sa hsa => ?_⟩
          have kS : ∀ b o, H3 b = some o → upd H3 sa (.tup (cutV (pvs nd.path) none (some (-1)))) b = some o := fun b o e => by rw [upd_ne (ne_of_none e hsa)]; exact e
          have hsa2 : upd H3 sa (.tup (cutV (pvs nd.path) none (some (-1)))) sa = some (.tup (pvs nd.path.dropLast)) := by rw [upd_same, (cut_last hne).1]
          generalize upd H3 sa (.tup (cutV (pvs nd.path) none (some (-1)))) = H4 at kS hsa2
          refine ⟨_, rfl, _, _, dp_path (SqT.of hsa2), dp_path (SqT.of (kS _ _ (kH _ _ hpl2))), shaped_path _, shaped_path _, _, rfl, ?_⟩
          rw [eqv_paths]
          have hkids : kids (ns.take (i + 1)) p = if nd.path.dropLast = p then kids (ns.take i) p ++ [nd] else kids (ns.take i) p := by
            unfold kids
            rw [take_snoc hnd, List.filter_append, List.filter_cons]
            by_cases z : nd.path.dropLast = p
            · rw [if_pos z, if_pos]; rfl
              have := (drop_last_iff hne).mp z
              simp [this.1, this.2]
            · rw [if_neg z, if_neg]; simp
              intro y
              simp only [Bool.and_eq_true, beq_iff_eq] at y
              exact z ((drop_last_iff hne).mpr y)
          refine ite2 (fun hz => ?_) (fun hz => ?_)
          · have hz := of_decide_eq_true hz
            have hlast : pvs nd.path = pvs nd.path.dropLast ++ [V.int ((nd.path.getLastD 0 : Nat) : Int)] := by
              have e2 := kid_path ((drop_last_iff hne).mp hz).1 ((drop_last_iff hne).mp hz).2
              rw [hz]
              conv => lhs; rw [e2]
              simp [pvs]
            have hqa4 := kS _ _ hqa
            refine ⟨_, rfl, _, rfl, qa, _, _, _, rfl, rfl, SqT.of hqa4, (by rw [hlast]; exact atI_last _ _), _, kS _ _ hD2, ?_, fun b o e => ?_, ?_⟩
            · rw [List.length_map, List.length_map]
              have e1 : (kids (ns.take i) p).length ≤ (ns.take i).length := List.length_filter_le _ _
              rw [List.length_take] at e1
              have e2 := pm.length_eq
              have := g.cnt
              exact sizeLine_big (by omega)
            · rw [upd_ne (ne_of_none e hD)]; exact kS _ _ (kH b o e)
            · rw [upd_same, hkids, if_pos hz, List.map_append, List.map_append]; rfl
          · have hz : ¬ nd.path.dropLast = p := fun z => hz (decide_eq_true z)
            refine ⟨fun b o e => kS _ _ (kH b o e), ?_⟩
            rw [hkids, if_neg hz]; exact kS _ _ hD2
        · rintro H3 ⟨kH, hD2⟩
          have e0 : ns.take kvs.length = ns := List.take_of_length_le (by rw [Paired.len pn]; exact Nat.le_refl _)
          rw [e0] at hD2
          have hDd : D ≠ W.dn := fun z => by have := kH _ _ hdl; rw [← z, hD2] at this; cases this
          have k3 : Kp [] H2 (upd H3 W.dn (.dT kvs)) := Kp.unlock hd (by rw [hHl]; exact kH)
          refine ⟨kH _ _ hdl, D, _, rfl, SqL.of (by rw [upd_ne hDd]; exact hD2), fun ns' P perm rise hP => ?_⟩
          have hns' : ns' = (kids s.nodes p).map fun n => ((n.path.getLastD 0 : Nat) : Int) := by
            refine List.Perm.eq_of_pairwise (le := fun a b : Int => a ≤ b) (fun a b _ _ x y => Int.le_antisymm x y) rise ?_ (perm.trans ((pm.filter _).map _))
            have := kids_rise g.srt p
            rw [List.pairwise_map] at this ⊢
            exact this.imp fun h => by omega
          have k4 : Kp [] (upd H3 W.dn (.dT kvs)) (upd (upd H3 W.dn (.dT kvs)) P (.lst (ns'.map V.int))) := (Kp.refl _ _).new hP
          have hPP : upd (upd H3 W.dn (.dT kvs)) P (.lst (ns'.map V.int)) P = some (.lst (ns'.map V.int)) := upd_same
          have A4 := (A2.keep k3).keep k4
          have ch4 : Ch W.mu W.mu H _ := ch2.trans (Ch.of ((k3.trans k4).sub (by simp)))
          generalize upd (upd H3 W.dn (.dT kvs)) P (.lst (ns'.map V.int)) = H5 at hPP A4 ch4
          have hPP2 : H5 P = some (.lst (pvs ((kids s.nodes p).map fun n => n.path.getLastD 0))) := by
            rw [hPP, hns']
            simp only [pvs, List.map_map]; rfl
          refine ⟨P, (kids s.nodes p).map fun n => n.path.getLastD 0, rfl, .inr hPP2, ?_, fun H6 p6 hp6 hp6' k6 => ?_⟩
          · rw [List.length_map]
            exact Nat.le_trans (Nat.le_trans (List.length_filter_le _ _) g.cnt) (by decide)
          · exact q H6 W p6 rfl (A4.keep k6) (ch4.trans (Ch.of (k6.sub (by simp)))) (fun n => ch4.kp.free n hp6) hp6'
      refine ⟨_, rfl, _, p.length, rfl, Or.inr ⟨_, SqT.of hp2, by simp⟩, _, _, rfl, rfl, _, rfl, ite2 (fun h => ?_) (fun h => ?_)⟩
      · have h0 : p ≠ [] := fun z => by rw [z] at h; cases h
        rcases nodes_get hns hp2 with ⟨gt, hf⟩ | ⟨v, n, gt, hf, _⟩
        · rw [hfp] at hf
          have e : stp s (.list p) = (s, [-2]) := by unfold stp; simp only [Ag07.step, hl, hf]; rw [if_neg (by decide), if_pos ⟨h0, rfl⟩]; rfl
          rw [e] at q
          refine ⟨_, rfl, _, rfl, W.dn, _, rfl, gt, _, rfl, iteT ?_⟩
          exact ⟨_, rfl, by show (1 : Nat) ≤ sizeLine; decide, fin_ans (ans := [-2]) A2 ch2 rfl q⟩
        · rw [hfp] at hf
          exact ⟨_, rfl, _, rfl, W.dn, _, rfl, gt, _, rfl, iteF (go (by rw [hf]; simp))⟩
      · have h0 : p = [] := by
          by_cases z : p = []
          · exact z
          · exfalso; apply h; apply decide_eq_true
            have := List.length_pos_iff.mpr z
            omega
        exact iteF (go (by rw [h0]; simp))
end
end Wt

set_option Elab.async false
set_option linter.all false
set_option maxRecDepth 100000
set_option maxHeartbeats 4000000
namespace Wt
open PySem PySem.Spec PyProof.Rows L2
abbrev rowOf (o : Ag07.Order) : List Nat := o.kind :: o.version :: o.value :: o.holder :: o.path
def fm_together : Form := fun _ rows c => ∃ os : List Ag07.Order, rows = os.map (fun o => (rowOf o).map fun (n : Nat) => (n : Int)) ∧ os.length ≤ 1000 ∧ (∀ o ∈ os, o.path.length ≤ 1000) ∧ c = .together (os.map rowOf)
theorem all_ok (os : List Ag07.Order) : (os.map rowOf).all (fun r => (Ag07.orderOf r).isSome) = os.all okO := by
  rw [List.all_map]
  congr 1; funext o
  show (Ag07.orderOf (rowOf o)).isSome = okO o
  rw [orderOf_eq]; cases okO o <;> rfl
theorem map_ok {os : List Ag07.Order} (h : os.all okO = true) : (os.map rowOf).filterMap Ag07.orderOf = os := by
  induction os with
  | nil => rfl
  | cons o os ih =>
    rw [List.all_cons, Bool.and_eq_true] at h
    rw [List.map_cons, List.filterMap_cons, orderOf_eq, if_pos h.1, ih h.2]
theorem notT {b : Bool} : (!b) = true ↔ ¬ b = true := by cases b <;> simp
theorem notF {b : Bool} : ¬ (!b) = true ↔ b = true := by cases b <;> simp
section
variable {w : World} {K : PySem.W.Frag} {mg : Str → Option Value} {base : Heap}
theorem stp_together {s : Ag07.State} {os : List Ag07.Order} : stp s (.together (os.map rowOf)) = if (decide (1 ≤ os.length) && decide (os.length ≤ 6) && os.all okO) = true then
    (match Ag07.doAll s (Ag07.turn s + 1) 0 s.nodes os with
      | .inl e => (s, [-2, (e.1 : Int), (e.2 : Int)])
      | .inr y => (Ag07.commit s y.1 y.2, [((Ag07.turn (Ag07.commit s y.1 y.2) : Nat) : Int)])) else (s, [-1]) := by
  unfold stp
  simp only [Ag07.step]
  by_cases h : (decide (1 ≤ os.length) && decide (os.length ≤ 6) && os.all okO) = true
  · rw [if_pos h]
    simp only [Bool.and_eq_true, decide_eq_true_eq] at h
    have e : ¬ ((os.map rowOf).isEmpty = true ∨ (6 < (os.map rowOf).length ∨ (os.map rowOf).all (fun (r : List Nat) => (Ag07.orderOf r).isSome) = false)) := by
      rw [all_ok, h.2, List.length_map, List.isEmpty_iff_length_eq_zero, List.length_map]
      rintro (z | z | z)
      · omega
      · omega
      · cases z
    rw [if_neg e, map_ok h.2]
    cases Ag07.doAll s (Ag07.turn s + 1) 0 s.nodes os <;> rfl
  · rw [if_neg h]
    have e : ((os.map rowOf).isEmpty = true ∨ (6 < (os.map rowOf).length ∨ (os.map rowOf).all (fun (r : List Nat) => (Ag07.orderOf r).isSome) = false)) := by
      rw [all_ok, List.length_map, List.isEmpty_iff_length_eq_zero, List.length_map]
      simp only [Bool.and_eq_true, decide_eq_true_eq, not_and] at h
      by_cases h1 : 1 ≤ os.length
      · by_cases h2 : os.length ≤ 6
        · right; right; exact Bool.eq_false_iff.mpr (h ⟨h1, h2⟩)
        · right; left; omega
      · left; omega
    rw [if_pos e]; rfl
theorem ok_answer_together (T : Tx K mg) : HasFn Prog w K mg base 7 (He.fAd K d_answer_together.at_) p_answer_together (pm_ans K fm_together) := by
  refine mkFn T.fun_answer_together S_answer_together (fun _ _ _ _ _ _ us hl => match us, hl with | [_, _, _], _ => rfl) ?_ fun cdv A outer s H E hr => ⟨_,
    (pss_cons (ps_setLc (i := 3) (own := [("row", 4)]) (g := gName 4) (tt := tYes) (te := (tMakeH (He.ga K "Order") (pm_Order_init K) (tCons (tVar 4) tNil))) rfl S_answer_together.nd rfl rfl (sw_true rfl rfl rfl (by decide +kernel)) (pi_list (pv 2)) (blkOk_by (own := [("row", 4)]) (N := n_answer_together) (sc := sc_answer_together) (by decide +kernel)) (fun _ _ _ _ _ => pg_name (i := 4) S_answer_together.nd rfl (Or.inl rfl)) (fun _ _ _ _ _ => pts_nil) (fun _ _ _ _ _ => (pe_makeH T.mkr_Order (ok_Order_init T) (hr.mono (by decide)) (by rfl) T.glo_Order (pa_cons (pv 4) pa_nil))))
    (pss_cons (ps_if (pt_not (pt_call (pe_callH (ok_are_orders T) (hr.mono (by decide)) (by rfl) T.glo_are_orders (pa_cons (pv 3) pa_nil)))) (pss_one (ps_ret (pe_lst (pa_cons (pe_un un_neg pe_int) pa_nil)))) pss_nil)
    (pss_one (ps_ret (pe_callH (ok_do_together T) (hr.mono (by decide)) (by rfl) T.glo_do_together (pa_cons (pe_fld (pv 0) rfl) (pa_cons (pv 3) pa_nil))))))), ?_⟩
  · rintro vs H Q h; exact pm_ans_len h
  · rintro vs Q ⟨W, s, b, nu, li, numbers, as, rows, c, rfl, A, ⟨g, hm, hz⟩, hb, hnu, hli, hro, nnu, nli, nas, ⟨os, rfl, hol, hop, rfl⟩, q⟩
    have hal : as.length = os.length := by rw [Paired.len hro, List.length_map]
    refine ⟨_, rfl, li, rfl, ⟨_, SqL.of hli⟩, fun D hD => lc_list (K := K) (a := li) (xs := as.map V.ref) (fun i H' => Kp [] H H' ∧ ∃ acc, H' D = some (.lst acc) ∧ Paired (OrderAt K H') acc (os.take i)) ⟨(Kp.refl _ _).new hD, [], upd_same, .nil⟩ (fun i H' _ h => SqL.of (h.1.at_ hli (by simp))) ?_ ?_⟩
    · rintro i x H' hx ⟨k, acc, hacc, pacc⟩
      obtain ⟨a, ha, rfl⟩ := map_get hx
      obtain ⟨r, hr, har⟩ := Paired.get hro ha
      obtain ⟨o, ho, rfl⟩ := map_get hr
      rw [ivs_nat] at har
      refine ⟨rfl, tYes_if ?_⟩
      refine ⟨_, rfl, fun x dx hx hdx hne => ?_⟩
      have hra : upd (upd H' dx (.own x)) x (.ins (C_Order K) dx []) a = some (.lst (pvs (rowOf o))) := by
        have := k.at_ har (by simp)
        rw [upd_ne (ne_of_none this hx), upd_ne (ne_of_none this hdx)]; exact this
      refine ⟨x, dx, a, o, rfl, upd_same, hra, fun H2 oa k2 => ⟨rfl, ?_⟩⟩
      have k3 : Kp [] H' H2 := made_kp (H1 := H2) hx hdx k2
      have hacc2 := k3.at_ hacc (by simp)
      refine ⟨acc, hacc2, ?_, (k.trans k3).own hD, acc ++ [.ref x], upd_same, ?_⟩
      · have := Paired.len pacc
        rw [List.length_take] at this
        exact sizeLine_big (by omega)
      · have kD := (Kp.refl [D] _).put (o := .lst (acc ++ [.ref x])) (by simp) hacc2
        rw [take_snoc ho]
        exact Paired.app (Paired.imp pacc fun _ _ h => (h.keep k3).keep kD) (.cons (oa.keep kD) .nil)
    · rintro H1 ⟨k1, acc, hacc, pacc⟩
      have e0 : os.take (as.map V.ref).length = os := List.take_of_length_le (by rw [List.length_map]; omega)
      rw [e0] at pacc
      have A1 := A.keep k1
      have hDm : D ∉ W.mu := fun z => A.mu_there D z hD
      rw [stp_together] at q
      refine ⟨_, rfl, D, acc, os, rfl, hacc, pacc, hop, hol, fun H2 k2 => ⟨_, rfl, ite2 (fun h => ?_) (fun h => ?_)⟩⟩
      · have h : ¬ (decide (1 ≤ os.length) && decide (os.length ≤ 6) && os.all okO) = true := notT.mp h
        rw [if_neg h] at q
        exact ⟨_, rfl, by show (1 : Nat) ≤ sizeLine; decide, fin_ans (ans := [-1]) (A1.keep k2) (Ch.of ((k1.trans k2).sub (by simp))) rfl q⟩
      · have h : (decide (1 ≤ os.length) && decide (os.length ≤ 6) && os.all okO) = true := notF.mp h
        rw [if_pos h] at q
        simp only [Bool.and_eq_true, decide_eq_true_eq] at h
        have A2 := A1.keep k2
        obtain ⟨dxw, hw⟩ := A2.world
        have ch2 : Ch W.mu W.mu H H2 := Ch.of ((k1.trans k2).sub (by simp))
        refine ⟨_, rfl, W.wd, _, dxw, _, _, rfl, hw, T.cls_World, T.no_World_house, rfl, _, rfl, W, s, D, acc, b, os, rfl, A2, g, by omega, hDm, k2.at_ hacc (by simp), Paired.imp pacc fun _ _ h => h.keep k2, (fun o ho => List.all_eq_true.mp h.2 o ho), h.1.2, ?_⟩
        cases e : Ag07.doAll s (Ag07.turn s + 1) 0 s.nodes os with
        | inl e1 =>
          rw [e] at q
          intro H3 p A3 k3 hf hp3
          exact q H3 W p rfl A3 (ch2.trans (Ch.of k3)) (fun n => ch2.kp.free n hf) hp3
        | inr y =>
          rw [e] at q
          intro H3 d2 p _ A3 ch3 hf hp3
          exact q H3 { W with dn := d2 } p rfl A3 (ch2.trans ch3) (fun n => ch2.kp.free n hf) hp3
end
end Wt

set_option Elab.async false
set_option linter.all false
set_option maxRecDepth 100000
set_option maxHeartbeats 4000000
namespace Wt
open PySem PySem.Spec PyProof.Rows L2
section
variable {w : World} {K : PySem.W.Frag} {mg : Str → Option Value} {base : Heap}
def pm_Net_init (K : PySem.W.Frag) : Pm := fun vs H Q => ∃ x dx, vs = [.ref x] ∧ H x = some (.ins (C_Net K) dx []) ∧
  ∀ H' ll, H ll = none → H' x = some (.ins (C_Net K) dx [("letters", .ref ll)]) → H' ll = some (.lst []) → Kp [x] H H' → Q .non H'
theorem ok_Net_init (T : Tx K mg) : HasFn Prog w K mg base 1 (He.fAd K d_Net_init.at_) p_Net_init (pm_Net_init K) := by
  refine mkFn T.fun_Net_init S_Net_init (fun _ _ _ _ _ _ us hl => match us, hl with | [_], _ => rfl) ?_ fun cdv A outer s H E hr => ⟨_,
    (pss_one (ps_fld (pv 0) (pe_lst pa_nil) rfl)), ?_⟩
  · rintro vs H Q ⟨x, dx, rfl, _⟩; rfl
  · rintro vs Q ⟨x, dx, rfl, hx, q⟩
    refine ⟨Nat.zero_le _, fun ll hll => ?_⟩
    refine ⟨_, rfl, x, _, dx, _, rfl, (by rw [upd_ne (ne_of_none hx hll)]; exact hx), T.cls_Net, T.no_Net_letters, (by show (0 : Nat) < 1000; decide), ?_⟩
    have nxl : x ≠ ll := ne_of_none hx hll
    refine q _ ll hll upd_same (by rw [upd_ne nxl.symm, upd_same]) fun b o e n => ?_
    have nb : b ≠ x := fun z => by
      rcases n with n | n
      · exact n (by rw [z]; exact List.mem_singleton.mpr rfl)
      · rw [z, hx] at e; cases e; cases n
    rw [upd_ne nb, upd_ne (ne_of_none e hll)]; exact e
def pm_House_init (K : PySem.W.Frag) : Pm := fun vs H Q => ∃ x dx n, ∃ life : Nat, vs = [.ref x, .int life, .ref n] ∧ H x = some (.ins (C_House K) dx []) ∧
  ∀ H' ds dn lt lw, [x, ds, dn, lt, lw].Nodup → H ds = none → H dn = none → H lt = none → H lw = none → H' x = some (.ins (C_House K) dx (HoF.fs ⟨.int life, .ref n, .int (0 : Nat), .int (0 : Nat), .ref ds, .ref dn, .ref lt, .int (0 : Nat), .ref lw⟩)) →
    H' ds = some (.dK []) → H' dn = some (.dT []) → H' lt = some (.lst []) → H' lw = some (.lst []) → Kp [x] H H' → Q .non H'
theorem ok_House_init (T : Tx K mg) : HasFn Prog w K mg base 1 (He.fAd K d_House_init.at_) p_House_init (pm_House_init K) := by
  refine mkFn T.fun_House_init S_House_init (fun _ _ _ _ _ _ us hl => match us, hl with | [_, _, _], _ => rfl) ?_ fun cdv A outer s H E hr => ⟨_,
    (pss_cons (ps_fld (pv 0) (pv 1) rfl)
    (pss_cons (ps_fld (pv 0) (pv 2) rfl)
    (pss_cons (ps_fld (pv 0) pe_int rfl)
    (pss_cons (ps_fld (pv 0) pe_int rfl)
    (pss_cons (ps_fld (pv 0) pe_dnewK rfl)
    (pss_cons (ps_fld (pv 0) pe_dnewT rfl)
    (pss_cons (ps_fld (pv 0) (pe_lst pa_nil) rfl)
    (pss_cons (ps_fld (pv 0) pe_int rfl)
    (pss_one (ps_fld (pv 0) (pe_lst pa_nil) rfl)))))))))), ?_⟩
  · rintro vs H Q ⟨x, dx, n, life, rfl, _⟩; rfl
  · rintro vs Q ⟨x, dx, n, life, rfl, hx, q⟩
    refine ⟨_, rfl, _, rfl, x, _, dx, _, rfl, hx, T.cls_House, T.no_House_life, (by show (0 : Nat) < 1000; decide), ?_⟩
    refine ⟨_, rfl, _, rfl, x, _, dx, _, rfl, upd_same, T.cls_House, T.no_House_net, (by show (1 : Nat) < 1000; decide), ?_⟩
    refine ⟨_, rfl, x, _, dx, _, rfl, upd_same, T.cls_House, T.no_House_time, (by show (2 : Nat) < 1000; decide), ?_⟩
    refine ⟨_, rfl, x, _, dx, _, rfl, upd_same, T.cls_House, T.no_House_opened, (by show (3 : Nat) < 1000; decide), ?_⟩
    rw [upd_upd, upd_upd, upd_upd]
    refine fun ds hds => ?_
    have n1 : x ≠ ds := ne_of_none upd_same hds
    rw [upd_ne n1.symm] at hds
    refine ⟨_, rfl, x, _, dx, _, rfl, (by rw [upd_ne n1]; exact upd_same), T.cls_House, T.no_House_seen, (by show (4 : Nat) < 1000; decide), ?_⟩
    refine fun dn hdn => ?_
    have n2 : x ≠ dn := ne_of_none upd_same hdn
    rw [upd_ne n2.symm] at hdn
    have m1 : ds ≠ dn := ne_of_none upd_same hdn
    rw [upd_ne m1.symm, upd_ne n2.symm] at hdn
    refine ⟨_, rfl, x, _, dx, _, rfl, (by rw [upd_ne n2]; exact upd_same), T.cls_House, T.no_House_nodes, (by show (5 : Nat) < 1000; decide), ?_⟩
    refine ⟨Nat.zero_le _, fun lt hlt => ?_⟩
    have n3 : x ≠ lt := ne_of_none upd_same hlt
    rw [upd_ne n3.symm] at hlt
    have m2 : dn ≠ lt := ne_of_none upd_same hlt
    rw [upd_ne m2.symm, upd_ne n3.symm] at hlt
    have m3 : ds ≠ lt := ne_of_none upd_same hlt
    rw [upd_ne m3.symm, upd_ne n3.symm] at hlt
    refine ⟨_, rfl, x, _, dx, _, rfl, (by rw [upd_ne n3]; exact upd_same), T.cls_House, T.no_House_turns, (by show (6 : Nat) < 1000; decide), ?_⟩
    refine ⟨_, rfl, x, _, dx, _, rfl, upd_same, T.cls_House, T.no_House_base, (by show (7 : Nat) < 1000; decide), ?_⟩
    rw [upd_upd]
    refine ⟨Nat.zero_le _, fun lw hlw => ?_⟩
    have n4 : x ≠ lw := ne_of_none upd_same hlw
    rw [upd_ne n4.symm] at hlw
    have m4 : lt ≠ lw := ne_of_none upd_same hlw
    rw [upd_ne m4.symm, upd_ne n4.symm] at hlw
    have m5 : dn ≠ lw := ne_of_none upd_same hlw
    rw [upd_ne m5.symm, upd_ne n4.symm] at hlw
    have m6 : ds ≠ lw := ne_of_none upd_same hlw
    rw [upd_ne m6.symm, upd_ne n4.symm] at hlw
    refine ⟨_, rfl, x, _, dx, _, rfl, (by rw [upd_ne n4]; exact upd_same), T.cls_House, T.no_House_watchers, (by show (8 : Nat) < 1000; decide), ?_⟩
    refine q _ ds dn lt lw ?_ hds hdn hlt hlw upd_same ?_ ?_ ?_ ?_ ?_
    · simp only [List.nodup_cons, List.mem_cons, List.not_mem_nil, or_false, not_or]
      exact ⟨⟨n1, n2, n3, n4⟩, ⟨m1, m3, m6⟩, ⟨m2, m5⟩, m4, not_false, List.nodup_nil⟩
    · rw [upd_ne n1.symm, upd_ne m6, upd_ne n1.symm, upd_ne m3, upd_ne n1.symm, upd_ne m1, upd_ne n1.symm, upd_same]
    · rw [upd_ne n2.symm, upd_ne m5, upd_ne n2.symm, upd_ne m2, upd_ne n2.symm, upd_same]
    · rw [upd_ne n3.symm, upd_ne m4, upd_ne n3.symm, upd_same]
    · rw [upd_ne n4.symm, upd_same]
    · intro b o e n
      have nb : b ≠ x := fun z => by
        rcases n with n | n
        · exact n (by rw [z]; exact List.mem_singleton.mpr rfl)
        · rw [z, hx] at e; cases e; cases n
      rw [upd_ne nb, upd_ne (ne_of_none e hlw), upd_ne nb, upd_ne (ne_of_none e hlt), upd_ne nb, upd_ne (ne_of_none e hdn), upd_ne nb, upd_ne (ne_of_none e hds), upd_ne nb]; exact e
/-- a world as at first -/
def newState (life : Nat) : Ag07.State := ⟨life, 0, [], [], 0, 0, [], [], List.replicate Ag07.CLIENTS ⟨0, [], none, 0, [], 0, 0⟩, []⟩
theorem fresh_out {H : Hp} {L : List Addr} {a : Addr} (h : ∀ b ∈ L, H b ≠ none) (ha : H a = none) : a ∉ L := fun z => h a z ha
def pm_World_init (K : PySem.W.Frag) : Pm := fun vs H Q => ∃ x dx, ∃ life : Nat, vs = [.ref x, .int life] ∧ H x = some (.ins (C_World K) dx []) ∧
  ∀ H' W, W.wd = x → WAt K H' W (newState life) → Kp [x] H H' → (∀ a ∈ W.mu, H a = none) → Q .non H'
theorem ok_World_init (T : Tx K mg) : HasFn Prog w K mg base 4 (He.fAd K d_World_init.at_) p_World_init (pm_World_init K) := by
  refine mkFn T.fun_World_init S_World_init (fun _ _ _ _ _ _ us hl => match us, hl with | [_, _], _ => rfl) ?_ fun cdv A outer s H E hr => ⟨_,
    (pss_cons (ps_fld (pv 0) (pe_makeH0 T.mkr_Net (ok_Net_init T) (hr.mono (by decide)) (by rfl) T.glo_Net) rfl)
    (pss_cons (ps_fld (pv 0) (pe_makeH T.mkr_House (ok_House_init T) (hr.mono (by decide)) (by rfl) T.glo_House (pa_cons (pv 1) (pa_cons (pe_fld (pv 0) rfl) pa_nil))) rfl)
    (pss_one (ps_fld (pv 0) (pe_lc (own := [("client", 2)]) (g := gName 2) (tt := tYes) (te := (tMakeH (He.ga K "Client") (pm_Client_init K) (tCons (tVar 2) tNil))) rfl S_World_init.nd (pi_range1 (by rfl) T.free_range (pa_cons (pe_gint (by rfl) T.int_CLIENTS) pa_nil)) (blkOk_by (own := [("client", 2)]) (N := n_World_init) (sc := sc_World_init) (by decide +kernel)) (fun _ _ _ _ _ => pg_name (i := 2) S_World_init.nd rfl (Or.inl rfl)) (fun _ _ _ _ _ => pts_nil) (fun _ _ _ _ _ => (pe_makeH T.mkr_Client (ok_Client_init T) (hr.mono (by decide)) (by rfl) T.glo_Client (pa_cons (pv 2) pa_nil)))) rfl)))), ?_⟩
  · rintro vs H Q ⟨x, dx, life, rfl, _⟩; rfl
  · rintro vs Q ⟨x, dx, life, rfl, hx, q⟩
    -- self.net = Net()
    refine fun n dn1 hn hdn1 hnn => ⟨n, dn1, rfl, upd_same, fun H1 ll hll hn1 hl1 kn => ⟨rfl, ?_⟩⟩
    have hllH : H ll = none := free_made hll
    have nxn : x ≠ n := ne_of_none hx hn
    have nxl : x ≠ ll := ne_of_none hx hllH
    have k1 : Kp [] H H1 := made_kp (H1 := H1) hn hdn1 kn
    have hx1 := k1.at_ hx (by simp)
    refine ⟨_, rfl, x, _, dx, _, rfl, hx1, T.cls_World, T.no_World_net, (by show (0 : Nat) < 1000; decide), ?_⟩
    have k2 : Kp [x] H1 (upd H1 x (.ins (C_World K) dx (putF "net" (.ref n) []))) := fun b o e nb => by
      have : b ≠ x := fun z => by
        rcases nb with nb | nb
        · exact nb (by rw [z]; simp)
        · rw [z, hx1] at e; cases e; cases nb
      rw [upd_ne this]; exact e
    have hx2 : upd H1 x (.ins (C_World K) dx (putF "net" (.ref n) [])) x = some (.ins (C_World K) dx [("net", .ref n)]) := upd_same
    have hn2 : upd H1 x (.ins (C_World K) dx (putF "net" (.ref n) [])) n = _ := (upd_ne nxn.symm).trans hn1
    have hl2 : upd H1 x (.ins (C_World K) dx (putF "net" (.ref n) [])) ll = _ := (upd_ne nxl.symm).trans hl1
    have kk2 : ∀ b o, H b = some o → b ≠ x → upd H1 x (.ins (C_World K) dx (putF "net" (.ref n) [])) b = some o := fun b o e nb => by rw [upd_ne nb]; exact k1.at_ e (by simp)
    generalize upd H1 x (.ins (C_World K) dx (putF "net" (.ref n) [])) = H2 at hx2 hn2 hl2 kk2
    clear k1 k2 hx1 hn1 hl1
    -- self.house = House(life, self.net)
    refine ⟨_, rfl, _, rfl, x, _, dx, _, _, rfl, hx2, T.cls_World, T.no_World_net, rfl, fun hs dh hhs hdh hhn => ?_⟩
    refine ⟨hs, dh, n, life, rfl, upd_same, fun H3 ds dn lt lw hnd f1 f2 f3 f4 g0 g1 g2 g3 g4 k3 => ⟨rfl, ?_⟩⟩
    have k3' : Kp [] H2 H3 := made_kp (H1 := H3) hhs hdh k3
    have f1 := free_made f1
    have f2 := free_made f2
    have f3 := free_made f3
    have f4 := free_made f4
    have hx3 := k3'.at_ hx2 (by simp)
    have hn3 := k3'.at_ hn2 (by simp)
    have hl3 := k3'.at_ hl2 (by simp)
    refine ⟨_, rfl, x, _, dx, _, rfl, hx3, T.cls_World, T.no_World_house, (by show (1 : Nat) < 1000; decide), ?_⟩
    have L2 : ∀ b ∈ [x, n, ll], H2 b ≠ none := by
      intro b hb; simp at hb
      rcases hb with rfl | rfl | rfl
      · rw [hx2]; simp
      · rw [hn2]; simp
      · rw [hl2]; simp
    have L2H : ∀ a, H2 a = none → H a = none := fun a h => by
      cases e : H a with
      | none => rfl
      | some o =>
        by_cases z : a = x
        · rw [z, hx2] at h; cases h
        · rw [kk2 a o e z] at h; cases h
    have o0 := fresh_out L2 hhs
    have o1 := fresh_out L2 f1
    have o2 := fresh_out L2 f2
    have o3 := fresh_out L2 f3
    have o4 := fresh_out L2 f4
    have hx4 : upd H3 x (.ins (C_World K) dx (putF "house" (.ref hs) [("net", .ref n)])) x = some (.ins (C_World K) dx [("net", .ref n), ("house", .ref hs)]) := upd_same
    have st : ∀ b o, H3 b = some o → b ≠ x → upd H3 x (.ins (C_World K) dx (putF "house" (.ref hs) [("net", .ref n)])) b = some o := fun b o e nb => by rw [upd_ne nb]; exact e
    generalize upd H3 x (.ins (C_World K) dx (putF "house" (.ref hs) [("net", .ref n)])) = H4 at hx4 st
    simp only [List.mem_cons, List.not_mem_nil, or_false, not_or] at o0 o1 o2 o3 o4
    have hn4 := st _ _ hn3 nxn.symm
    have hl4 := st _ _ hl3 nxl.symm
    have h40 := st _ _ g0 o0.1
    have h41 := st _ _ g1 o1.1
    have h42 := st _ _ g2 o2.1
    have h43 := st _ _ g3 o3.1
    have h44 := st _ _ g4 o4.1
    have kk4 : ∀ b o, H b = some o → b ≠ x → H4 b = some o := fun b o e nb => st _ _ (k3'.at_ (kk2 b o e nb) (by simp)) nb
    have L4H : ∀ a, H4 a = none → H a = none := fun a h => by
      cases e : H a with
      | none => rfl
      | some o =>
        by_cases z : a = x
        · rw [z, hx4] at h; cases h
        · rw [kk4 a o e z] at h; cases h
    clear st k3 k3' g0 g1 g2 g3 g4 hx3 hn3 hl3 L2
    -- self.clients = [Client(client) for client in range(CLIENTS)]
    refine ⟨3, rfl, by decide, by decide, fun D hD => lc_range (lo := 0) (n := 3) (fun i H' => Kp [] H4 H' ∧ ∃ cs es : List Addr, cs.length = i ∧ es.length = i ∧ (cs ++ es).Nodup ∧ (∀ a ∈ cs ++ es, H4 a = none ∧ a ≠ D) ∧ H' D = some (.lst (cs.map V.ref)) ∧
      ∀ j a d, cs[j]? = some a → es[j]? = some d → ClientAt K H' j a d ⟨0, [], none, 0, [], 0, 0⟩) ⟨(Kp.refl _ _).new hD, [], [], rfl, rfl, List.nodup_nil, (fun a h => by cases h), upd_same, (fun j a d h => by simp at h)⟩ ?_ ?_⟩
    · rintro i H' hi ⟨k, cs, es, hcs, hes, hnd2, hfr, hDl, hcl⟩
      refine ⟨rfl, tYes_if ?_⟩
      refine ⟨_, rfl, fun c dc hc hdc hcd => ?_⟩
      refine ⟨c, dc, i, (by show [V.ref c, V.int (0 + (i : Int))] = _; rw [Int.zero_add]), upd_same, fun H5 d pa hd hpa hdp e1 e2 e3 k5 => ⟨rfl, ?_⟩⟩
      have k5' : Kp [] H' H5 := made_kp (H1 := H5) hc hdc k5
      have hd := free_made hd
      have hpa := free_made hpa
      have hDl5 := k5'.at_ hDl (by simp)
      have ncd : c ≠ d := fun z => by rw [z, e2] at e1; cases e1
      have there : ∀ a ∈ cs ++ es, H' a ≠ none := by
        intro a ha
        rcases List.mem_append.mp ha with ha | ha
        · obtain ⟨j, hj⟩ := List.mem_iff_getElem?.mp ha
          have hjl := (List.getElem?_eq_some_iff.mp hj).1
          obtain ⟨_, _, _, h1, _⟩ := hcl j a _ hj (List.getElem?_eq_getElem (by omega))
          rw [h1]; simp
        · obtain ⟨j, hj⟩ := List.mem_iff_getElem?.mp ha
          have hjl := (List.getElem?_eq_some_iff.mp hj).1
          obtain ⟨_, _, _, _, _, h1, _⟩ := hcl j _ a (List.getElem?_eq_getElem (by omega)) hj
          rw [h1]; simp
      have oc := fresh_out there hc
      have od := fresh_out there hd
      have kD := (Kp.refl [D] H5).put (o := .lst (cs.map V.ref ++ [.ref c])) (by simp) hDl5
      have nDc : c ≠ D := fun z => by rw [z, hDl] at hc; cases hc
      have nDd : d ≠ D := fun z => by rw [z, hDl] at hd; cases hd
      refine ⟨_, hDl5, ?_, (k.trans k5').own hD, cs ++ [c], es ++ [d], by simp [hcs], by simp [hes], ?_, ?_, ?_, ?_⟩
      · rw [List.length_map]; exact sizeLine_big (by omega)
      · rw [List.mem_append, not_or] at oc od
        rw [List.nodup_append] at hnd2
        simp only [List.nodup_append, List.nodup_cons, List.mem_append, List.mem_cons, List.not_mem_nil, or_false]
        refine ⟨⟨hnd2.1, ⟨not_false, List.nodup_nil⟩, ?_⟩, ⟨hnd2.2.1, ⟨not_false, List.nodup_nil⟩, ?_⟩, ?_⟩
        · rintro a ha b rfl e; exact oc.1 (by rw [← e]; exact ha)
        · rintro a ha b rfl e; exact od.2 (by rw [← e]; exact ha)
        · rintro a (ha | rfl) b (hb | rfl)
          · exact hnd2.2.2 a ha b hb
          · intro e; exact od.1 (by rw [← e]; exact ha)
          · intro e; exact oc.2 (by rw [e]; exact hb)
          · exact ncd
      · intro a ha
        simp only [List.mem_append, List.mem_cons, List.not_mem_nil, or_false] at ha
        rcases ha with (ha | rfl) | ha | rfl
        · exact hfr a (List.mem_append.mpr (.inl ha))
        · exact ⟨k.free (by simp) hc, nDc⟩
        · exact hfr a (List.mem_append.mpr (.inr ha))
        · exact ⟨k.free (by simp) hd, nDd⟩
      · rw [upd_same, List.map_append]; rfl
      · intro j a d' h1 h2
        by_cases z : j < i
        · rw [List.getElem?_append_left (by omega)] at h1 h2
          have h3 := (hcl j a d' h1 h2).keep k5' (by simp) (by simp)
          refine h3.keep kD ?_ ?_
          · simp only [List.mem_singleton]; exact (hfr a (List.mem_append.mpr (.inl (List.mem_of_getElem? h1)))).2
          · simp only [List.mem_singleton]; exact (hfr d' (List.mem_append.mpr (.inr (List.mem_of_getElem? h2)))).2
        · rw [List.getElem?_append_right (by omega)] at h1 h2
          have : j = i := by
            have h4 := (List.getElem?_eq_some_iff.mp h1).1
            simp at h4; omega
          subst this
          rw [hcs, Nat.sub_self] at h1
          rw [hes, Nat.sub_self] at h2
          cases h1; cases h2
          refine ⟨dc, pa, [], ?_, kD.tup e3, ?_, List.Perm.refl _⟩
          · rw [upd_ne nDc]; exact e1
          · rw [upd_ne nDd]; exact e2
    · rintro H5 ⟨k5, cs, es, hcs, hes, hnd2, hfr, hDl, hcl⟩
      have hx5 := k5.at_ hx4 (by simp)
      refine ⟨_, rfl, x, _, dx, _, rfl, hx5, T.cls_World, T.no_World_clients, (by show (2 : Nat) < 1000; decide), ?_⟩
      have nD : ∀ a o, H4 a = some o → a ≠ D := fun a o e => ne_of_none e hD
      have L4 : ∀ b ∈ [x, n, ll, hs, ds, dn, lt, lw], H4 b ≠ none := by
        intro b hb; simp at hb
        rcases hb with rfl | rfl | rfl | rfl | rfl | rfl | rfl | rfl
        · rw [hx4]; simp
        · rw [hn4]; simp
        · rw [hl4]; simp
        · rw [h40]; simp
        · rw [h41]; simp
        · rw [h42]; simp
        · rw [h43]; simp
        · rw [h44]; simp
      have hxD : x ≠ D := nD _ _ hx4
      have kx : ∀ b o, H5 b = some o → b ≠ x → upd H5 x (.ins (C_World K) dx (putF "clients" (.ref D) [("net", .ref n), ("house", .ref hs)])) b = some o := fun b o e nb => by rw [upd_ne nb]; exact e
      have hx6 : upd H5 x (.ins (C_World K) dx (putF "clients" (.ref D) [("net", .ref n), ("house", .ref hs)])) x = some (.ins (C_World K) dx [("net", .ref n), ("house", .ref hs), ("clients", .ref D)]) := upd_same
      generalize upd H5 x (.ins (C_World K) dx (putF "clients" (.ref D) [("net", .ref n), ("house", .ref hs)])) = H6 at kx hx6
      have up : ∀ b o, H4 b = some o → b ≠ x → H6 b = some o := fun b o e nb => kx b o (k5.at_ e (by simp)) nb
      have frx : ∀ a ∈ cs ++ es, a ≠ x := fun a ha z => by have := (hfr a ha).1; rw [z, hx4] at this; cases this
      refine q H6 ⟨x, n, D, ll, hs, ds, dn, lt, lw, [], cs, es⟩ rfl ⟨?_, ⟨dx, hx6⟩, ⟨_, up _ _ hn4 nxn.symm⟩, ⟨[], up _ _ hl4 nxl.symm, .nil⟩, ⟨dh, up _ _ h40 o0.1⟩, up _ _ h41 o1.1, ⟨[], ⟨[], up _ _ h42 o2.1, .nil⟩, List.Perm.refl _⟩, ⟨[], up _ _ h43 o3.1, .nil⟩, ⟨up _ _ h44 o4.1, .nil⟩, ?_⟩ ?_ ?_
      · have d1 : ∀ a ∈ cs ++ es, a ∉ [x, n, ll, hs, ds, dn, lt, lw] := fun a ha => fresh_out L4 (hfr a ha).1
        have d2 : ∀ a ∈ cs ++ es, a ≠ D := fun a ha => (hfr a ha).2
        have d3 := fresh_out L4 hD
        simp only [WAd.all, WAd.mu, List.nil_append, List.nodup_cons, List.mem_cons, not_or]
        simp only [List.nodup_cons, List.mem_cons, List.not_mem_nil, or_false, not_or] at hnd d1 d3
        grind
      · refine ⟨kx _ _ hDl hxD.symm, hcs, hes, rfl, fun j a d c h1 h2 h3 => ?_⟩
        have hc0 : c = ⟨0, [], none, 0, [], 0, 0⟩ := by
          have h3 : (List.replicate 3 (⟨0, [], none, 0, [], 0, 0⟩ : Ag07.Client))[j]? = some c := h3
          rw [List.getElem?_replicate] at h3
          split at h3
          · exact (Option.some.inj h3).symm
          · cases h3
        rw [hc0]
        obtain ⟨dx7, pa7, kv7, e1, e2, e3, e4⟩ := hcl j a d h1 h2
        refine ⟨dx7, pa7, kv7, kx _ _ e1 (frx a (List.mem_append.mpr (.inl (List.mem_of_getElem? h1)))), kx _ _ e2 ?_, kx _ _ e3 (frx d (List.mem_append.mpr (.inr (List.mem_of_getElem? h2)))), e4⟩
        intro z; rw [z, hx5] at e2; cases e2
      · intro b o e nb
        have : b ≠ x := fun z => by
          rcases nb with nb | nb
          · exact nb (by rw [z]; simp)
          · rw [z, hx] at e; cases e; cases nb
        exact up b o (kk4 b o e this) this
      · intro a ha
        simp only [WAd.mu, List.nil_append, List.mem_cons, List.mem_append] at ha
        rcases ha with rfl | rfl | rfl | rfl | rfl | rfl | ha | ha
        · exact L2H _ hhs
        · exact hllH
        · exact L2H _ f1
        · exact L2H _ f2
        · exact L2H _ f3
        · exact L2H _ f4
        · exact L4H _ (hfr a (List.mem_append.mpr (.inl ha))).1
        · exact L4H _ (hfr a (List.mem_append.mpr (.inr ha))).1
end
end Wt

set_option Elab.async false
set_option linter.all false
set_option maxRecDepth 100000
set_option maxHeartbeats 4000000
namespace Wt
open PySem PySem.Spec PyProof.Rows L2
section
variable {X : Cx} {k i : Nat} {x : Str} {p pos : Pos} {e : Expr} {es : List Expr} {t : TA}
/-- a local name that holds one of several defs is called -/
def tCallF (i : Nat) (fam : Addr → Pm → Prop) (t : TA) : TE := fun σ H Q => ∃ f pm, σ[i]? = some (some (.ref f)) ∧ fam f pm ∧ t σ H fun vs H1 => pm vs H1 Q
theorem pe_callF {fam : Addr → Pm → Prop} (A : ∀ f pm, fam f pm → ∃ ps, HasFn X.prog X.w X.K X.mg X.base k f ps pm) (hr : Room k X.A) (hN : X.N[i]? = some x) (hv : Vis X.env.scope x) (ha : PA X (e :: es) t)
    (dbg : (x == ("__debug__" : Str)) = false := by decide) (cdk : (x == ("__classdict__" : Str)) = false := by decide)
    (he : starEach (e :: es) X.env = (false, eval e X.env) :: starEach es X.env := by rfl) (tailp : (backTo pos (starEach es X.env)).any (·.1) = false := by rfl) :
    PE X (.Call (.Name x p) (e :: es) [] pos) (tCallF i fam t) := by
  refine ⟨fun pins s σ H Q I h => ?_⟩
  obtain ⟨f, pm, hs, hf, ht⟩ := h
  obtain ⟨ps, hfn⟩ := A f pm hf
  obtain ⟨fd, F, hb, hk⟩ := hfn.ex
  refine (pe_callL (i := i) (f := f) (sp := pm.sp) (dvs := []) (E := E0) (p := p) (pos := pos) F hr hN hv hk hb .nil (fun _ _ _ _ _ _ _ z => z.elim) ha dbg cdk he tailp).run pins s σ H Q I ⟨hs, ?_⟩
  have e0 : (fun (vs : List V) (H1 : Hp) => pm.sp (vs ++ []) H1 Q E0) = fun vs H1 => pm vs H1 Q := by
    funext vs H1; rw [List.append_nil]
  show t σ H (fun vs H1 => pm.sp (vs ++ []) H1 Q E0)
  rw [e0]; exact ht
end
/-- the calls on a world: by their number the form of what they're handed -/
def forms : List (Int × Form) := [(1, fm_open), (2, one .close), (3, one .touch), (4, one .tick), (5, fm_together), (6, fm_path .get), (7, fm_path .list), (8, fm_watch), (9, one .ask), (10, one .compact), (11, one .take), (12, one .keep), (13, one .lose), (14, fm_none .letters), (15, one .client), (16, fm_none .house), (17, one .log)]
section
variable {w : World} {K : PySem.W.Frag} {mg : Str → Option Value} {base : Heap}
/-- the defs of the table, each with its promise -/
def famC (K : PySem.W.Frag) (f : Addr) (pm : Pm) : Prop := ∃ i F n, forms.lookup i = some F ∧ tab_CALLS.lookup i = some n ∧ f = He.ga K n ∧ pm = pm_ans K F
theorem fam_answer_call {X : Cx} (T : Tx X.K X.mg) (hP : X.prog = Prog := by rfl) : ∀ f pm, famC X.K f pm → ∃ ps, HasFn X.prog X.w X.K X.mg X.base 8 f ps pm := by
  rintro f pm ⟨i, F, n, h1, h2, rfl, rfl⟩
  rw [hP]
  simp only [forms, List.lookup_cons, List.lookup_nil] at h1
  simp only [tab_CALLS, List.lookup_cons, List.lookup_nil] at h2
  by_cases e1 : i = 1
  · subst e1; cases h1; cases h2; exact ⟨_, (ok_answer_open T).mono (by decide)⟩
  by_cases e2 : i = 2
  · subst e2; cases h1; cases h2; exact ⟨_, (ok_answer_close T).mono (by decide)⟩
  by_cases e3 : i = 3
  · subst e3; cases h1; cases h2; exact ⟨_, (ok_answer_touch T).mono (by decide)⟩
  by_cases e4 : i = 4
  · subst e4; cases h1; cases h2; exact ⟨_, (ok_answer_tick T).mono (by decide)⟩
  by_cases e5 : i = 5
  · subst e5; cases h1; cases h2; exact ⟨_, (ok_answer_together T).mono (by decide)⟩
  by_cases e6 : i = 6
  · subst e6; cases h1; cases h2; exact ⟨_, (ok_answer_get T).mono (by decide)⟩
  by_cases e7 : i = 7
  · subst e7; cases h1; cases h2; exact ⟨_, (ok_answer_list T).mono (by decide)⟩
  by_cases e8 : i = 8
  · subst e8; cases h1; cases h2; exact ⟨_, (ok_answer_watch T).mono (by decide)⟩
  by_cases e9 : i = 9
  · subst e9; cases h1; cases h2; exact ⟨_, (ok_answer_ask T).mono (by decide)⟩
  by_cases e10 : i = 10
  · subst e10; cases h1; cases h2; exact ⟨_, (ok_answer_compact T).mono (by decide)⟩
  by_cases e11 : i = 11
  · subst e11; cases h1; cases h2; exact ⟨_, (ok_answer_take T).mono (by decide)⟩
  by_cases e12 : i = 12
  · subst e12; cases h1; cases h2; exact ⟨_, (ok_answer_keep T).mono (by decide)⟩
  by_cases e13 : i = 13
  · subst e13; cases h1; cases h2; exact ⟨_, (ok_answer_lose T).mono (by decide)⟩
  by_cases e14 : i = 14
  · subst e14; cases h1; cases h2; exact ⟨_, (ok_answer_letters T).mono (by decide)⟩
  by_cases e15 : i = 15
  · subst e15; cases h1; cases h2; exact ⟨_, (ok_answer_client T).mono (by decide)⟩
  by_cases e16 : i = 16
  · subst e16; cases h1; cases h2; exact ⟨_, (ok_answer_house T).mono (by decide)⟩
  by_cases e17 : i = 17
  · subst e17; cases h1; cases h2; exact ⟨_, (ok_answer_log T).mono (by decide)⟩
  have ne : ∀ j : Int, ¬ i = j → (i == j) = false := fun j h => by simp [h]
  rw [ne 1 e1, ne 2 e2, ne 3 e3, ne 4 e4, ne 5 e5, ne 6 e6, ne 7 e7, ne 8 e8, ne 9 e9, ne 10 e10, ne 11 e11, ne 12 e12, ne 13 e13, ne 14 e14, ne 15 e15, ne 16 e16, ne 17 e17] at h1
  cases h1
theorem lookup_map {α : Type} {l : List (Int × Str)} {g : Str → α} (i : Int) : (l.map fun p => (p.1, g p.2)).lookup i = (l.lookup i).map g := by
  induction l with
  | nil => rfl
  | cons p l ih =>
    rw [List.map_cons, List.lookup_cons, List.lookup_cons]
    cases i == p.1
    · exact ih
    · rfl
def pm_answer_call (K : PySem.W.Frag) : Pm := fun vs H Q => ∃ a b c call F n, vs = [a, .int call, b, c] ∧ forms.lookup call = some F ∧ tab_CALLS.lookup call = some n ∧ pm_ans K F [a, b, c] H Q
theorem ok_answer_call (T : Tx K mg) : HasFn Prog w K mg base 9 (He.fAd K d_answer_call.at_) p_answer_call (pm_answer_call K) := by
  refine mkFn T.fun_answer_call S_answer_call (fun _ _ _ _ _ _ us hl => match us, hl with | [_, _, _, _], _ => rfl) ?_ fun cdv A outer s H E hr => ⟨_,
    (pss_cons (ps_set (i := 4) S_answer_call.nd rfl (Or.inl rfl) (pe_ix (ix_tab T.tab_CALLS) (pe_gref (by rfl) T.glo_CALLS) (pv 1) (fun _ _ => rfl)))
    (pss_one (ps_ret (pe_callF (i := 4) (fam_answer_call T) (hr.mono (by decide)) rfl (Or.inl rfl) (pa_cons (pv 0) (pa_cons (pv 2) (pa_cons (pv 3) pa_nil))))))), ?_⟩
  · rintro vs H Q ⟨a, b, c, call, F, n, rfl, _⟩; rfl
  · rintro vs Q ⟨a, b, c, call, F, n, rfl, hF, hn, q⟩
    have hl : (tab_CALLS.map fun p => (p.1, He.ga K p.2)).lookup call = some (He.ga K n) := by rw [lookup_map, hn]; rfl
    refine ⟨_, rfl, _, _, rfl, rfl, hl, ?_⟩
    exact ⟨_, _, rfl, ⟨call, F, n, hF, hn, rfl, rfl⟩, _, rfl, _, rfl, _, rfl, q⟩
end
end Wt

set_option Elab.async false
set_option linter.all false
set_option maxRecDepth 100000
set_option maxHeartbeats 4000000
namespace Wt
open PySem PySem.Spec PyProof.Rows L2
abbrev C_Line (K : PySem.W.Frag) : Addr := He.ga K "Line"
/-- a line at ln: its world, if there is one; M: where it changes -/
def LineAt (K : PySem.W.Frag) (H : Hp) (ln : Addr) (b : Nat) (o : Option Ag07.State) (M : List Addr) : Prop := ∃ dx v, H ln = some (.ins (C_Line K) dx [("world", v)]) ∧
  ((o = none ∧ v = .non ∧ M = [ln]) ∨ ∃ W s, o = some s ∧ v = .ref W.wd ∧ WAt K H W s ∧ (Good b s ∧ More b s) ∧ ln ∉ W.all ∧ M = ln :: W.mu)
theorem LineAt.keep {K : PySem.W.Frag} {H H' : Hp} {ln : Addr} {b : Nat} {o : Option Ag07.State} {M : List Addr} (h : LineAt K H ln b o M) (k : Kp [] H H') : LineAt K H' ln b o M := by
  obtain ⟨dx, v, h1, h2⟩ := h
  refine ⟨dx, v, k.at_ h1 (by simp), ?_⟩
  rcases h2 with h2 | ⟨W, s, e1, e2, A, g, n, e3⟩
  · exact .inl h2
  · exact .inr ⟨W, s, e1, e2, A.keep k, g, n, e3⟩
theorem LineAt.there {K : PySem.W.Frag} {H : Hp} {ln : Addr} {b : Nat} {o : Option Ag07.State} {M : List Addr} (h : LineAt K H ln b o M) : ∀ a ∈ M, H a ≠ none := by
  obtain ⟨dx, v, h1, h2⟩ := h
  intro a ha
  rcases h2 with ⟨_, _, rfl⟩ | ⟨W, s, _, _, A, _, _, rfl⟩
  · rw [List.mem_singleton.mp ha, h1]; simp
  · rcases List.mem_cons.mp ha with rfl | ha
    · rw [h1]; simp
    · exact A.mu_there a ha
section
variable {w : World} {K : PySem.W.Frag} {mg : Str → Option Value} {base : Heap}
def pm_Line_init (K : PySem.W.Frag) : Pm := fun vs H Q => ∃ x dx, vs = [.ref x] ∧ H x = some (.ins (C_Line K) dx []) ∧ Q .non (upd H x (.ins (C_Line K) dx [("world", .non)]))
theorem ok_Line_init (T : Tx K mg) : HasFn Prog w K mg base 1 (He.fAd K d_Line_init.at_) p_Line_init (pm_Line_init K) := by
  refine mkFn T.fun_Line_init S_Line_init (fun _ _ _ _ _ _ us hl => match us, hl with | [_], _ => rfl) ?_ fun cdv A outer s H E hr => ⟨_,
    (pss_one (ps_fld (pv 0) pe_non rfl)), ?_⟩
  · rintro vs H Q ⟨x, dx, rfl, _⟩; rfl
  · rintro vs Q ⟨x, dx, rfl, hx, q⟩
    exact ⟨_, rfl, x, _, dx, _, rfl, hx, T.cls_Line, T.no_Line_world, (by show (0 : Nat) < 1000; decide), q⟩
def pm_Line_begin_world (K : PySem.W.Frag) : Pm := fun vs H Q => ∃ ln b o M, ∃ life : Nat, vs = [.ref ln, .int life] ∧ LineAt K H ln b o M ∧
  ∀ H' M' p, LineAt K H' ln (b + 1) (Ag07.step o (.begin_ life)).1 M' → Ch M M' H H' → (p ∉ M → H p = none) → H' p = some (.lst (ivs (Ag07.step o (.begin_ life)).2)) → Q (.ref p) H'
theorem LineAt.mono {H : Hp} {ln : Addr} {b c : Nat} {o : Option Ag07.State} {M : List Addr} (h : LineAt K H ln b o M) (le : b ≤ c) : LineAt K H ln c o M := by
  obtain ⟨dx, v, h1, h2⟩ := h
  refine ⟨dx, v, h1, h2.imp id ?_⟩
  rintro ⟨W, s, e1, e2, A, g, n, e3⟩
  exact ⟨W, s, e1, e2, A, ⟨g.1.mono le, g.2.mono le⟩, n, e3⟩
theorem ok_Line_begin_world (T : Tx K mg) : HasFn Prog w K mg base 6 (He.fAd K d_Line_begin_world.at_) p_Line_begin_world (pm_Line_begin_world K) := by
  refine mkFn T.fun_Line_begin_world S_Line_begin_world (fun _ _ _ _ _ _ us hl => match us, hl with | [_, _], _ => rfl) ?_ fun cdv A outer s H E hr => ⟨_,
    (pss_cons (ps_if (pt_cmpR op_gt (pv 1) (pe_gint (by rfl) T.int_LONGEST_LIFE) (nomark _)) (pss_one (ps_ret (pe_lst (pa_cons (pe_un un_neg pe_int) pa_nil)))) pss_nil)
    (pss_cons (ps_fld (pv 0) (pe_makeH T.mkr_World (ok_World_init T) (hr.mono (by decide)) (by rfl) T.glo_World (pa_cons (pv 1) pa_nil)) rfl)
    (pss_one (ps_ret (pe_lst (pa_cons pe_int pa_nil)))))), ?_⟩
  · rintro vs H Q ⟨ln, b, o, M, life, rfl, _⟩; rfl
  · rintro vs Q ⟨ln, b, o, M, life, rfl, hL, q⟩
    refine ⟨_, rfl, _, _, rfl, rfl, _, rfl, ite2 (fun h => ?_) (fun h => ?_)⟩
    · have hl : 999 < life := by have := of_decide_eq_true h; omega
      have e : Ag07.step o (.begin_ life) = (o, [-1]) := by cases o <;> simp only [Ag07.step, hl, if_true]
      rw [e] at q
      refine ⟨_, rfl, by show (1 : Nat) ≤ sizeLine; decide, fun p hp => ?_⟩
      have k : Kp [] H (upd H p (.lst (ivs [-1]))) := (Kp.refl _ _).new hp
      exact q _ M p ((hL.keep k).mono (Nat.le_succ _)) (Ch.of (k.sub (by simp))) (fun _ => hp) upd_same
    · have hl : ¬ 999 < life := fun z => h (decide_eq_true (by omega))
      have e : Ag07.step o (.begin_ life) = (some (newState life), [0]) := by cases o <;> simp only [Ag07.step, hl, if_false] <;> rfl
      rw [e] at q
      refine ⟨_, rfl, fun x dx hx hdx hxd => ⟨x, dx, life, rfl, upd_same, fun H1 W hW A k1 hfr => ⟨rfl, ?_⟩⟩⟩
      have k1' : Kp [] H H1 := made_kp (H1 := H1) hx hdx k1
      obtain ⟨dl, v, hln, _⟩ := id hL
      have hln1 := k1'.at_ hln (by simp)
      refine ⟨_, rfl, ln, _, dl, _, rfl, hln1, T.cls_Line, T.no_Line_world, (by show (1 : Nat) < 1000; decide), ?_⟩
      have kl : Kp [ln] H1 (upd H1 ln (.ins (C_Line K) dl (putF "world" (.ref x) [("world", v)]))) := (Kp.refl _ _).put (by simp) hln1
      have hln2 : upd H1 ln (.ins (C_Line K) dl (putF "world" (.ref x) [("world", v)])) ln = some (.ins (C_Line K) dl [("world", .ref x)]) := upd_same
      have hlnall : ln ∉ W.all := by
        intro z
        simp only [WAd.all, List.mem_cons] at z
        rcases z with z | z | z | z
        · rw [z, hW] at hln; rw [hx] at hln; cases hln
        · obtain ⟨d1, h1⟩ := A.neto
          rw [← z, hln1] at h1
          have h2 := Option.some.inj h1
          injection h2 with _ _ h3
          injection h3 with h4 _
          injection h4 with h5 _
          exact absurd h5 (by decide)
        · have h1 := A.clis.1
          rw [← z, hln1] at h1; cases h1
        · have h1 := hfr ln z
          rw [upd_ne (ne_of_none hln hx), upd_ne (ne_of_none hln hdx), hln] at h1; cases h1
      have A2 : WAt K (upd H1 ln (.ins (C_Line K) dl (putF "world" (.ref x) [("world", v)]))) W (newState life) := by
        refine A.far kl ?_
        intro a ha z
        rw [List.mem_singleton.mp z] at ha
        exact hlnall ha
      generalize upd H1 ln (.ins (C_Line K) dl (putF "world" (.ref x) [("world", v)])) = H2 at kl hln2 A2
      refine ⟨by show (1 : Nat) ≤ sizeLine; decide, fun p hp => ?_⟩
      have k3 : Kp [] H2 (upd H2 p (.lst (ivs [0]))) := (Kp.refl _ _).new hp
      have hlM : ln ∈ M := by
        obtain ⟨_, _, _, h2⟩ := hL
        rcases h2 with ⟨_, _, rfl⟩ | ⟨_, _, _, _, _, _, _, rfl⟩ <;> simp
      refine q _ (ln :: W.mu) p ⟨dl, _, k3.at_ hln2 (by simp), .inr ⟨W, newState life, rfl, by rw [hW], A2.keep k3, ⟨(new_good life).mono (Nat.zero_le _), (new_more life).mono (Nat.zero_le _)⟩, hlnall, rfl⟩⟩ ⟨?_, ?_⟩ (fun n => ((k1'.sub (by simp)).trans (kl.sub (by simpa using hlM))).free n hp) upd_same
      · exact ((k1'.sub (by simp)).trans (kl.sub (by simpa using hlM))).trans (k3.sub (by simp))
      · intro a ha
        rcases List.mem_cons.mp ha with rfl | ha
        · left
          obtain ⟨_, _, _, h2⟩ := hL
          rcases h2 with ⟨_, _, rfl⟩ | ⟨_, _, _, _, _, _, _, rfl⟩ <;> simp
        · right; exact free_made (hfr a ha)
/-- what a call is handed, by its number -/
def Handed (call : Int) (numbers : List Int) (rows : List (List Int)) (c : Ag07.Call) : Prop := (call = 0 ∧ one .begin_ numbers rows c) ∨
  ∃ F n, call ≠ 0 ∧ forms.lookup call = some F ∧ tab_CALLS.lookup call = some n ∧ F numbers rows c ∧ Ag07.step none c = (none, [-9])
def pm_Line_answer (K : PySem.W.Frag) : Pm := fun vs H Q => ∃ (ln : Addr) (b : Nat) (o : Option Ag07.State) (M : List Addr) (call : Int) (nu li : Addr) (numbers : List Int) (as : List Addr) (rows : List (List Int)) (c : Ag07.Call),
  vs = [.ref ln, .int call, .ref nu, .ref li] ∧ LineAt K H ln b o M ∧ b ≤ 500 ∧ H nu = some (.lst (ivs numbers)) ∧ H li = some (.lst (as.map V.ref)) ∧ Paired (fun a (r : List Int) => H a = some (.lst (ivs r))) as rows ∧ nu ∉ M ∧ li ∉ M ∧ (∀ a ∈ as, a ∉ M) ∧ Handed call numbers rows c ∧ (Ag07.step o c).2.length ≤ 10000000 ∧
  ∀ H' M' p, LineAt K H' ln (b + 1) (Ag07.step o c).1 M' → Ch M M' H H' → (p ∉ M → H p = none) → H' p = some (.lst (ivs (Ag07.step o c).2)) → Q (.ref p) H'
theorem ok_Line_answer (T : Tx K mg) : HasFn Prog w K mg base 10 (He.fAd K d_Line_answer.at_) p_Line_answer (pm_Line_answer K) := by
  refine mkFn T.fun_Line_answer S_Line_answer (fun _ _ _ _ _ _ us hl => match us, hl with | [_, _, _, _], _ => rfl) ?_ fun cdv A outer s H E hr => ⟨_,
    (pss_cons (ps_if (pt_cmpR op_eq (pv 1) (pe_gint (by rfl) T.int_BEGIN) (nomark _)) (pss_one (ps_ret (pe_methH (pv 0) T.cls_Line T.me_Line_begin_world (ok_Line_begin_world T) (hr.mono (by decide)) (pa_cons (pe_ix ix_list (pv 2) pe_int (fun _ _ => rfl)) pa_nil)))) pss_nil)
    (pss_cons (ps_if (pt_cmpR op_isN (pe_fld (pv 0) rfl) pe_non (nomark _)) (pss_one (ps_ret (pe_lst (pa_cons (pe_un un_neg pe_int) pa_nil)))) pss_nil)
    (pss_one (ps_ret (pe_callH (ok_answer_call T) (hr.mono (by decide)) (by rfl) T.glo_answer_call (pa_cons (pe_fld (pv 0) rfl) (pa_cons (pv 1) (pa_cons (pv 2) (pa_cons (pv 3) pa_nil))))))))), ?_⟩
  · rintro vs H Q ⟨ln, b, o, M, call, nu, li, numbers, as, rows, c, rfl, _⟩; rfl
  · rintro vs Q ⟨ln, b, o, M, call, nu, li, numbers, as, rows, c, rfl, hL, hb, hnu, hli, hro, nnu, nli, nas, hh, hsz, q⟩
    obtain ⟨dl, v, hln, hv⟩ := id hL
    rcases hh with ⟨rfl, n, rfl, rfl⟩ | ⟨F, n, h0, hF, hn, hf, hnone⟩
    · refine ⟨_, rfl, rfl, _, rfl, iteT ?_⟩
      refine ⟨_, rfl, ln, dl, _, rfl, hln, rfl, _, rfl, nu, _, _, _, rfl, rfl, SqL.of hnu, atI_nat (j := 0) rfl, ?_⟩
      exact ⟨ln, b, o, M, n, rfl, hL, q⟩
    · refine ⟨_, rfl, rfl, _, rfl, ?_⟩
      have e0 : decide (V.int call = V.int 0) = false := decide_eq_false (fun z => h0 (V.int.inj z))
      rw [e0]
      refine iteF ?_
      refine ⟨_, rfl, ln, _, dl, _, _, rfl, hln, T.cls_Line, T.no_Line_world, rfl, rfl, _, rfl, ?_⟩
      rcases hv with ⟨rfl, rfl, rfl⟩ | ⟨W, s, rfl, rfl, A, g, hout, rfl⟩
      · refine iteT ?_
        rw [hnone] at q
        refine ⟨_, rfl, by show (1 : Nat) ≤ sizeLine; decide, fun p hp => ?_⟩
        have k : Kp [] H (upd H p (.lst (ivs [-9]))) := (Kp.refl _ _).new hp
        exact q _ [ln] p ((hL.keep k).mono (Nat.le_succ _)) (Ch.of (k.sub (by simp))) (fun _ => hp) upd_same
      · refine iteF ?_
        rw [stp_eq] at q hsz
        refine ⟨_, rfl, ln, _, dl, _, _, rfl, hln, T.cls_Line, T.no_Line_world, rfl, _, rfl, _, rfl, _, rfl, ?_⟩
        refine ⟨_, _, _, call, F, n, rfl, hF, hn, W, s, b, nu, li, numbers, as, rows, c, rfl, A, ⟨g.1, g.2, hsz⟩, hb, hnu, hli, hro, (fun z => nnu (List.mem_cons_of_mem _ z)), (fun z => nli (List.mem_cons_of_mem _ z)), (fun a ha z => nas a ha (List.mem_cons_of_mem _ z)), hf, fun H' W' p hW A' ch hpf hp => ?_⟩
        have hlm : ln ∉ W.mu := fun z => hout (by simp only [WAd.all, List.mem_cons]; grind)
        have hln' := ch.kp.at_ hln hlm
        refine q H' (ln :: W'.mu) p ⟨dl, _, hln', .inr ⟨W', _, rfl, by rw [hW], A', step_both g.1 g.2 c, ?_, rfl⟩⟩ ⟨ch.kp.sub (fun a ha => List.mem_cons_of_mem _ ha), fun a ha => ?_⟩ (fun n => hpf fun z => n (List.mem_cons_of_mem _ z)) hp
        · intro z
          simp only [WAd.all, List.mem_cons] at z hout
          have out := A'.out
          rcases z with z | z | z | z
          · exact hout (.inl (by rw [z, hW]))
          · obtain ⟨d1, h1⟩ := A'.neto
            rw [← z, hln'] at h1
            have h2 := Option.some.inj h1
            injection h2 with _ _ h3
            injection h3 with h4 _
            injection h4 with h5 _
            exact absurd h5 (by decide)
          · have h1 := A'.clis.1
            rw [← z, hln'] at h1; cases h1
          · exact ch.out hln hlm z
        · rcases List.mem_cons.mp ha with rfl | ha
          · exact .inl List.mem_cons_self
          · exact (ch.nw a ha).imp (List.mem_cons_of_mem _) id
end
end Wt

set_option Elab.async false
set_option linter.all false
set_option maxRecDepth 100000
set_option maxHeartbeats 4000000
namespace Wt
open PySem PySem.Spec PyProof.Rows L2
/-! ### what may be handed in -/
theorem nats_cast {l : List Int} {b : Int} (h : (l.all fun (z : Int) => NeutralIO.within z 0 b) = true) : l = (Ag07Neutral.nats l).map fun (n : Nat) => (n : Int) := by
  unfold Ag07Neutral.nats
  rw [List.map_map]
  conv => lhs; rw [← List.map_id l]
  apply List.map_congr_left
  intro z hz
  have := List.all_eq_true.mp h z hz
  unfold NeutralIO.within at this
  simp only [Bool.and_eq_true, decide_eq_true_eq] at this
  show z = ((z.toNat : Nat) : Int)
  omega
theorem cast_of {z b : Int} (h : NeutralIO.within z 0 b = true) : z = ((z.toNat : Nat) : Int) := by
  unfold NeutralIO.within at h
  simp only [Bool.and_eq_true, decide_eq_true_eq] at h
  omega
theorem path_of {l : List Int} (h : Ag07Neutral.path l = true) : l = (Ag07Neutral.nats l).map (fun (n : Nat) => (n : Int)) ∧ (Ag07Neutral.nats l).length ≤ 1000 := by
  unfold Ag07Neutral.path at h
  simp only [Bool.and_eq_true, decide_eq_true_eq] at h
  refine ⟨nats_cast (b := 20) h.2, ?_⟩
  unfold Ag07Neutral.nats; rw [List.length_map]; omega
theorem orders_of : ∀ {l : List (List Int)}, l.all Ag07Neutral.order = true → ∃ os : List Ag07.Order, l = os.map (fun o => (rowOf o).map fun (n : Nat) => (n : Int)) ∧ (∀ o ∈ os, o.path.length ≤ 1000) ∧ l.map Ag07Neutral.nats = os.map rowOf
  | [], _ => ⟨[], rfl, (fun o h => by cases h), rfl⟩
  | r :: l, h => by
    rw [List.all_cons, Bool.and_eq_true] at h
    obtain ⟨os, e1, e2, e3⟩ := orders_of h.2
    have hr := h.1
    unfold Ag07Neutral.order at hr
    simp only [Bool.and_eq_true, decide_eq_true_eq] at hr
    have hc := nats_cast (b := 200) hr.2.2
    have hl : (Ag07Neutral.nats r).length = r.length := by unfold Ag07Neutral.nats; rw [List.length_map]
    match hn : Ag07Neutral.nats r with
    | k :: v :: x :: y :: p =>
      refine ⟨⟨k, v, x, y, p⟩ :: os, ?_, ?_, ?_⟩
      · show r :: l = ((k :: v :: x :: y :: p).map fun (n : Nat) => (n : Int)) :: os.map _
        rw [← hn, ← hc, ← e1]
      · intro o ho
        rcases List.mem_cons.mp ho with rfl | ho
        · rw [hn] at hl
          simp at hl
          show p.length ≤ 1000
          omega
        · exact e2 o ho
      · rw [List.map_cons, List.map_cons, e3, hn]
    | [] => rw [hn] at hl; simp at hl; omega
    | [_] => rw [hn] at hl; simp at hl; omega
    | [_, _] => rw [hn] at hl; simp at hl; omega
    | [_, _, _] => rw [hn] at hl; simp at hl; omega
/-- a call that may be asked is of its form -/
theorem handed_of {x : RC} (h : Ag07Neutral.asked1 (toCall x) = true) : ∃ c, Ag07Neutral.callOf (toCall x) = some c ∧ Handed x.1 x.2.1 x.2.2 c := by
  obtain ⟨p, ns, rows⟩ := x
  unfold toCall at h ⊢
  simp only at h ⊢
  unfold Ag07Neutral.asked1 at h
  split at h
  all_goals rename_i heq
  all_goals simp only [List.cons.injEq, and_true, reduceCtorEq, and_false, false_and] at heq
  · obtain ⟨⟨rfl, rfl⟩, rfl⟩ := heq
    exact ⟨_, rfl, .inl ⟨rfl, _, by rw [← cast_of h], rfl⟩⟩
  · obtain ⟨⟨rfl, rfl⟩, rfl⟩ := heq
    exact ⟨_, rfl, .inr ⟨_, _, by decide, rfl, rfl, rfl, rfl⟩⟩
  all_goals first | (obtain ⟨⟨rfl, rfl⟩, rfl⟩ := heq; exact ⟨_, rfl, .inr ⟨_, _, by decide, rfl, rfl, ⟨_, by rw [← cast_of h], rfl⟩, rfl⟩⟩) | skip
  · obtain ⟨⟨rfl, rfl⟩, rfl⟩ := heq
    simp only [Bool.and_eq_true, decide_eq_true_eq] at h
    obtain ⟨os, e1, e2, e3⟩ := orders_of h.2
    refine ⟨_, rfl, .inr ⟨_, _, by decide, rfl, rfl, ⟨os, e1, ?_, e2, by rw [e3]⟩, rfl⟩⟩
    have := h.1
    rw [e1, List.length_map] at this
    omega
  · obtain ⟨⟨rfl, rfl⟩, rfl⟩ := heq
    obtain ⟨e1, e2⟩ := path_of h
    exact ⟨_, rfl, .inr ⟨_, _, by decide, rfl, rfl, ⟨_, by rw [← e1], e2, rfl⟩, rfl⟩⟩
  · obtain ⟨⟨rfl, rfl⟩, rfl⟩ := heq
    obtain ⟨e1, e2⟩ := path_of h
    exact ⟨_, rfl, .inr ⟨_, _, by decide, rfl, rfl, ⟨_, by rw [← e1], e2, rfl⟩, rfl⟩⟩
  · obtain ⟨⟨rfl, rfl⟩, rfl⟩ := heq
    unfold Ag07Neutral.nine at h
    rw [Bool.and_eq_true] at h
    obtain ⟨e1, e2⟩ := path_of h.2
    exact ⟨_, rfl, .inr ⟨_, _, by decide, rfl, rfl, ⟨_, _, by rw [← cast_of h.1], by rw [← e1], e2, rfl⟩, rfl⟩⟩
  all_goals first | (obtain ⟨⟨rfl, rfl⟩, rfl⟩ := heq; exact ⟨_, rfl, .inr ⟨_, _, by decide, rfl, rfl, rfl, rfl⟩⟩) | cases h
end Wt

set_option Elab.async false
set_option linter.all false
set_option maxRecDepth 100000
set_option maxHeartbeats 4000000
namespace Wt
open PySem PySem.Spec PyProof.Rows L2
abbrev toldOf (cs : List (List (List Int))) : List Int := PyFlat.told (PyFlat.played stepN none cs)
theorem short_len : ∀ {n : Nat} {l : List Int}, PyFlat.short n l = true → l.length ≤ n := by
  intro n l h
  unfold PyFlat.short at h
  simpa using h
theorem flat_le_rows {rows : List (List Int)} : rows.length ≤ (flatRows rows).length ∧ ∀ r ∈ rows, r.length ≤ (flatRows rows).length := by
  unfold flatRows
  induction rows with
  | nil => simp
  | cons a rows ih =>
    rw [List.flatMap_cons]
    refine ⟨by rw [List.length_append, List.length_cons, List.length_cons]; omega, fun r hr => ?_⟩
    rcases List.mem_cons.mp hr with rfl | hr
    · rw [List.length_append, List.length_cons]; omega
    · have := ih.2 r hr; rw [List.length_append]; omega
theorem flat_le {x : RC} : x.2.1.length ≤ (flatCall x).length ∧ x.2.2.length ≤ (flatCall x).length ∧ ∀ r ∈ x.2.2, r.length ≤ (flatCall x).length := by
  have h := flat_le_rows (rows := x.2.2)
  unfold flatCall
  simp only [List.length_cons, List.length_append]
  refine ⟨by omega, by omega, fun r hr => ?_⟩
  have := h.2 r hr
  omega
theorem flat_mem {xs : List RC} {x : RC} (h : x ∈ xs) : (flatCall x).length ≤ (xs.flatMap flatCall).length := by
  induction xs with
  | nil => cases h
  | cons y xs ih =>
    rw [List.flatMap_cons, List.length_append]
    rcases List.mem_cons.mp h with rfl | h
    · omega
    · have := ih h; omega
theorem flat_cut {xs : List RC} {j : Nat} {x : RC} (h : xs[j]? = some x) : xs.flatMap flatCall = (xs.take j).flatMap flatCall ++ (flatCall x ++ (xs.drop (j + 1)).flatMap flatCall) := by
  have e2 : xs = xs.take j ++ (x :: xs.drop (j + 1)) := by
    obtain ⟨a1, a2⟩ := List.getElem?_eq_some_iff.mp h
    rw [← a2, ← List.drop_eq_getElem_cons a1, List.take_append_drop]
  rw [show xs.flatMap flatCall = (xs.take j ++ (x :: xs.drop (j + 1))).flatMap flatCall by rw [← e2], List.flatMap_append, List.flatMap_cons]
theorem iteT2 {b : Bool} {p q : Prop} (h : b = true) (x : p) : if b = true then p else q := by rw [if_pos h]; exact x
theorem iteF2 {b : Bool} {p q : Prop} (h : b = false) (x : q) : if b = true then p else q := by rw [if_neg (by rw [h]; decide)]; exact x
/-- what a line is not made of changes -/
theorem LineAt.far {K : PySem.W.Frag} {H H' : Hp} {ln r : Addr} {b : Nat} {o : Option Ag07.State} {M : List Addr} (h : LineAt K H ln b o M) (nr : r ∉ M) (k : Kp [r] H H')
    (hr : (∃ C d v t, H r = some (.ins C d (("calls", v) :: t))) ∨ (∃ zs : List Int, H r = some (.lst (ivs zs)) ∧ (zs ≠ [] ∨ ∀ s, o = some s → s.log = [] ∧ s.letters = []))) : LineAt K H' ln b o M := by
  obtain ⟨dx, v, h1, h2⟩ := h
  have nl : ln ≠ r := by
    rintro rfl
    rcases h2 with ⟨_, _, rfl⟩ | ⟨_, _, _, _, _, _, _, rfl⟩ <;> exact nr List.mem_cons_self
  refine ⟨dx, v, k.at_ h1 (by simpa using nl), h2.imp id ?_⟩
  rintro ⟨W, s, e1, e2, A, g, n, e3⟩
  refine ⟨W, s, e1, e2, A.far k ?_ ?_, g, n, e3⟩
  · intro a ha z
    rw [List.mem_singleton.mp z] at ha
    subst e3
    simp only [WAd.all, List.mem_cons] at ha
    rcases ha with ha | ha | ha | ha
    · obtain ⟨d1, q1⟩ := A.world
      rw [← ha] at q1
      rcases hr with ⟨C, d, u, t, q⟩ | ⟨zs, q, _⟩
      · rw [q1] at q
        have q := Option.some.inj q
        injection q with _ _ q
        injection q with q _
        injection q with q _
        exact absurd q (by decide)
      · rw [q1] at q; cases q
    · obtain ⟨d1, q1⟩ := A.neto
      rw [← ha] at q1
      rcases hr with ⟨C, d, u, t, q⟩ | ⟨zs, q, _⟩
      · rw [q1] at q
        have q := Option.some.inj q
        injection q with _ _ q
        injection q with q _
        injection q with q _
        exact absurd q (by decide)
      · rw [q1] at q; cases q
    · obtain ⟨q1, q2, _⟩ := A.clis
      rw [← ha] at q1
      rcases hr with ⟨C, d, u, t, q⟩ | ⟨zs, q, _⟩
      · rw [q1] at q; cases q
      · rw [q1] at q
        have q := Option.some.inj q
        injection q with q
        cases hc : W.cs with
        | nil => rw [hc] at q2; cases q2
        | cons a l =>
          rw [hc] at q
          cases zs with
          | nil => cases q
          | cons z zs => injection q with q _; cases q
    · exact nr (List.mem_cons_of_mem _ ha)
  · intro a xs e m
    rw [List.mem_singleton.mp m] at e
    rcases hr with ⟨C, d, u, t, q⟩ | ⟨zs, q, hz⟩
    · rw [e] at q; cases q
    · rcases hz with hz | hz
      · left
        rw [e] at q
        have q := Option.some.inj q
        injection q with q
        cases zs with
        | nil => exact absurd rfl hz
        | cons z zs => exact ⟨z, by rw [q]; exact List.mem_cons_self⟩
      · exact .inr (hz s e1)
theorem Kp.fresh {M : List Addr} {H H1 H2 : Hp} (k : Kp [] H H1) (k2 : Kp M H1 H2) (hM : ∀ a ∈ M, H a = none) : Kp [] H H2 := fun b o e n =>
  k2 b o (k b o e n) (.inl fun z => by rw [hM b z] at e; cases e)
theorem told_ne {cs : List (List (List Int))} (h : cs ≠ []) : toldOf cs ≠ [] := by
  cases cs with
  | nil => exact absurd rfl h
  | cons c cs => exact List.cons_ne_nil _ _
theorem first_empty {x : RC} {c : Ag07.Call} (h : Handed x.1 x.2.1 x.2.2 c) : ∀ s, (Ag07.step none c).1 = some s → s.log = [] ∧ s.letters = [] := by
  intro s e
  rcases h with ⟨_, n, _, rfl⟩ | ⟨_, _, _, _, _, _, hn⟩
  · unfold Ag07.step at e
    simp only at e
    split at e
    · cases e
    · cases e; exact ⟨rfl, rfl⟩
  · rw [hn] at e; cases e
/-- where a reader is -/
def placeOf : Option HO → Nat
  | some (.ins _ _ [_, (_, .int i)]) => i.toNat
  | _ => 0
section
variable {w : World} {K : PySem.W.Frag} {mg : Str → Option Value} {base : Heap}
def pm_answers (K : PySem.W.Frag) : Pm := fun vs H Q => ∃ l, ∃ xs : List RC, vs = [.ref l] ∧ SqL K H l ((xs.flatMap flatCall).map V.int) ∧ (∀ x ∈ xs, Ag07Neutral.asked1 (toCall x) = true) ∧ xs.length ≤ 100 ∧
  (xs.flatMap flatCall).length ≤ 20000 ∧ (toldOf (xs.map toCall)).length ≤ 10000000 ∧ ∀ H' p, Kp [] H H' → H' p = some (.lst (ivs (toldOf (xs.map toCall)))) → Q (.ref p) H'
/-- a def whose record is at hand -/
theorem mkFnAt {P : Program} {w : World} {K : PySem.W.Frag} {mg : Str → Option Value} {base : Heap} {x qual : Str} {a : Arguments} {b : List Stmt} {sc : Scope} {f : Addr} {fd : FuncData} {N ps : List Str} {k : Nat} {p : Pm}
    (F : FunD K x qual a b sc [] [] f fd) (S : FnScope N ps sc) (hb : BindsEach x qual a b sc ps) (len : ∀ vs H Q, p vs H Q → vs.length = ps.length)
    (body : ∀ (cdv : Value) (A : Around) (outer : List Env) (s : Shared) (H : Hp) (E : XK), Room k (A.deeper (envOfC qual sc s.heap.objs.size f cdv)) →
      ∃ t, PSs (cxOf CX0 P w K mg base N qual sc f cdv A outer s H E).nox b t ∧ ∀ vs Q, p vs H Q → t { nx := fun _ H' => Q .non H', rt := Q } (start N vs) H) :
    FnOk P w K mg base CX0 (k + 1) f fd ps p.sp := by
  refine F.ok S (fun vs H Q _ h => len vs H Q h) (fun cdv A outer s H vs Q E hr h => ?_)
  obtain ⟨t, ht, q⟩ := body cdv A outer s H E hr
  exact ⟨t, ht.nox, q vs Q h⟩
theorem binds_answers : BindsEach d_answers.name d_answers.qual d_answers.params d_answers.body d_answers.scope p_answers := fun _ _ _ _ _ _ us hl => match us, hl with | [_], _ => rfl
theorem ok_answers (T : Tx K mg) {fd : FuncData} (F : FunD K d_answers.name d_answers.qual d_answers.params d_answers.body d_answers.scope [] [] (He.fAd K d_answers.at_) fd) : FnOk Prog w K mg base CX0 11 (He.fAd K d_answers.at_) fd p_answers (pm_answers K).sp := by
  refine mkFnAt F S_answers (fun _ _ _ _ _ _ us hl => match us, hl with | [_], _ => rfl) ?_ fun cdv A outer s H E hr => ⟨_,
    (pss_cons (ps_set (i := 1) S_answers.nd rfl (Or.inl rfl) (pe_makeH T.mkr_Reader (ok_Reader_init T) (hr.mono (by decide)) (by rfl) T.glo_Reader (pa_cons (pv 0) pa_nil)))
    (pss_cons (ps_set (i := 2) S_answers.nd rfl (Or.inl rfl) (pe_makeH0 T.mkr_Line (ok_Line_init T) (hr.mono (by decide)) (by rfl) T.glo_Line))
    (pss_cons (ps_set (i := 3) S_answers.nd rfl (Or.inl rfl) (pe_lst pa_nil))
    (pss_cons (ps_while PassesOwn.never (pt_call (pe_methH0 (pv 1) T.cls_Reader T.me_Reader_has_more (ok_Reader_has_more T) (hr.mono (by decide)))) (pss_cons (ps_set (i := 4) S_answers.nd rfl (Or.inl rfl) (pe_methH0 (pv 1) T.cls_Reader T.me_Reader_read_number (ok_Reader_read_number T) (hr.mono (by decide))))
    (pss_cons (ps_set (i := 5) S_answers.nd rfl (Or.inl rfl) (pe_methH0 (pv 1) T.cls_Reader T.me_Reader_read_row (ok_Reader_read_row T) (hr.mono (by decide))))
    (pss_cons (ps_set (i := 6) S_answers.nd rfl (Or.inl rfl) (pe_methH0 (pv 1) T.cls_Reader T.me_Reader_read_rows (ok_Reader_read_rows T) (hr.mono (by decide))))
    (pss_cons (ps_set (i := 7) S_answers.nd rfl (Or.inl rfl) (pe_methH (pv 2) T.cls_Line T.me_Line_answer (ok_Line_answer T) (hr.mono (by decide)) (pa_cons (pv 4) (pa_cons (pv 5) (pa_cons (pv 6) pa_nil)))))
    (pss_cons (ps_expr (pe_bm PySem.F.plainAttrs_list PySem.F.slot_list_append PySem.F.type_list_append mt_append (pv 3) (pa_cons (pe_callB call_len (by rfl) T.free_len PySem.boot_len (pa_cons (pv 7) pa_nil)) pa_nil)))
    (pss_one (ps_expr (pe_bm PySem.F.plainAttrs_list PySem.F.slot_list_extend PySem.F.type_list_extend mt_extend (pv 3) (pa_cons (pv 7) pa_nil))))))))))
    (pss_one (ps_ret (pv 3))))))), ?_⟩
  · rintro vs H Q ⟨l, xs, rfl, _⟩; rfl
  · rintro vs Q ⟨l, xs, rfl, hl, hx, hlen, hfl, htl, q⟩
    refine ⟨_, rfl, fun r dr hr hdr hrd => ⟨r, dr, l, rfl, upd_same, rfl, ?_⟩⟩
    have k1 : Kp [] H (upd (upd (upd H dr (.own r)) r (.ins (C_Reader K) dr [])) r (.ins (C_Reader K) dr (F_Reader (.ref l) (.int (0 : Nat))))) := made_kp (H1 := H) hr hdr (Kp.refl _ _ |>.put (by simp) upd_same)
    have hr1 : upd (upd (upd H dr (.own r)) r (.ins (C_Reader K) dr [])) r (.ins (C_Reader K) dr (F_Reader (.ref l) (.int (0 : Nat)))) r = some (.ins (C_Reader K) dr (F_Reader (.ref l) (.int (0 : Nat)))) := upd_same
    refine fun ln dl hln hdl hnd => ⟨ln, dl, rfl, upd_same, rfl, ?_⟩
    have k2 : Kp [] (upd (upd (upd H dr (.own r)) r (.ins (C_Reader K) dr [])) r (.ins (C_Reader K) dr (F_Reader (.ref l) (.int (0 : Nat))))) (upd (upd (upd (upd (upd (upd H dr (.own r)) r (.ins (C_Reader K) dr [])) r (.ins (C_Reader K) dr (F_Reader (.ref l) (.int (0 : Nat))))) dl (.own ln)) ln (.ins (C_Line K) dl [])) ln (.ins (C_Line K) dl [("world", .non)])) := made_kp (H1 := H) hln hdl (Kp.refl _ _ |>.put (by simp) upd_same)
    have hln2 : upd (upd (upd (upd (upd (upd H dr (.own r)) r (.ins (C_Reader K) dr [])) r (.ins (C_Reader K) dr (F_Reader (.ref l) (.int (0 : Nat))))) dl (.own ln)) ln (.ins (C_Line K) dl [])) ln (.ins (C_Line K) dl [("world", .non)]) ln = some (.ins (C_Line K) dl [("world", .non)]) := upd_same
    have hlnH : H ln = none := k1.free (by simp) hln
    have nrl : r ≠ ln := ne_of_none hr1 hln
    have hr2 := k2.at_ hr1 (by simp)
    refine ⟨Nat.zero_le _, fun p hp => ?_⟩
    have hpH : H p = none := k1.free (by simp) (k2.free (by simp) hp)
    have npr : p ≠ r := (ne_of_none hr2 hp).symm
    have npl : p ≠ ln := (ne_of_none hln2 hp).symm
    refine while_by (fun σ H' => ∃ j M v4 v5 v6 v7, j ≤ xs.length ∧ σ = [some (.ref l), some (.ref r), some (.ref ln), some (.ref p), v4, v5, v6, v7] ∧ Kp [] H H' ∧ (∀ a ∈ M, H a = none) ∧ r ∉ M ∧ p ∉ M ∧
      H' r = some (.ins (C_Reader K) dr (F_Reader (.ref l) (.int (((xs.take j).flatMap flatCall).length : Nat)))) ∧ H' p = some (.lst (ivs (toldOf ((xs.take j).map toCall)))) ∧ LineAt K H' ln j (runN none ((xs.take j).map toCall)) M)
      (fun _ H' => (xs.flatMap flatCall).length - placeOf (H' r)) ?_ ?_ ?_
    · refine ⟨0, [ln], none, none, none, none, Nat.zero_le _, rfl, (k1.trans k2).trans ((Kp.refl _ _).new hp), by simpa using hlnH, by simpa using nrl, by simpa using npl, ?_, upd_same, ?_⟩
      · rw [upd_ne npr.symm]; exact hr2
      · exact ⟨dl, .non, (upd_ne npl.symm).trans hln2, .inl ⟨rfl, rfl, rfl⟩⟩
    · rintro σ H' ⟨j, M, v4, v5, v6, v7, hj, rfl, kp, hM, nr, np, er, ep, hL⟩
      refine ⟨_, rfl, r, dr, _, rfl, er, rfl, ?_⟩
      refine ⟨r, l, _, _, rfl, ⟨dr, er⟩, kp.sq (by simp) hl, _, rfl, ?_⟩
      by_cases hjx : j < xs.length
      · have hxj : xs[j]? = some xs[j] := List.getElem?_eq_getElem hjx
        have hm : xs[j] ∈ xs := List.getElem_mem hjx
        generalize xs[j] = x at hxj hm
        have hcut := flat_cut hxj
        have hd : (xs.flatMap flatCall).drop ((xs.take j).flatMap flatCall).length = x.1 :: (x.2.1.length : Int) :: (x.2.1 ++ ((x.2.2.length : Int) :: (flatRows x.2.2 ++ (xs.drop (j + 1)).flatMap flatCall))) := by
          rw [hcut, List.drop_left]
          unfold flatCall
          simp
        have hlt : ((xs.take j).flatMap flatCall).length < (xs.flatMap flatCall).length := by
          rw [hcut, List.length_append, List.length_append]
          unfold flatCall; simp only [List.length_cons]; omega
        refine iteT2 (decide_eq_true (by rw [List.length_map]; exact hlt)) ?_
        obtain ⟨h0, hd1⟩ := drop_get hd
        have hd2 : (xs.flatMap flatCall).drop (((xs.take j).flatMap flatCall).length + 1 + 1 + x.2.1.length) = (x.2.2.length : Int) :: (flatRows x.2.2 ++ (xs.drop (j + 1)).flatMap flatCall) := by
          rw [← List.drop_drop, (drop_get hd1).2, List.drop_left]
        have hfx := flat_le (x := x)
        have hfm := flat_mem hm
        generalize hi : ((xs.take j).flatMap flatCall).length = i at er h0 hd1 hd2 hlt
        have nrl : r ≠ ln := fun z => nr (by
          obtain ⟨_, _, _, h2⟩ := hL
          rcases h2 with ⟨_, _, rfl⟩ | ⟨_, _, _, _, _, _, _, rfl⟩ <;> rw [z] <;> exact List.mem_cons_self)
        refine ⟨_, rfl, r, dr, _, rfl, er, rfl, r, l, dr, i, x.1, _, rfl, er, kp.sq (by simp) hl, h0, ?_⟩
        have ka : Kp [r] H' (upd H' r (.ins (C_Reader K) dr (F_Reader (.ref l) (.int (i + 1 : Nat))))) := (Kp.refl _ _).put (by simp) er
        have era : upd H' r (.ins (C_Reader K) dr (F_Reader (.ref l) (.int (i + 1 : Nat)))) r = some (.ins (C_Reader K) dr (F_Reader (.ref l) (.int (i + 1 : Nat)))) := upd_same
        refine ⟨_, rfl, r, dr, _, rfl, era, rfl, r, l, dr, i + 1, _, x.2.1, _, rfl, era, lk_of hl hr (kp.fresh ka (by simpa using hr)), hd1, by omega, fun Hb nu hnu hnb erb kb => ?_⟩
        have kb' := ka.trans kb
        refine ⟨_, rfl, r, dr, _, rfl, erb, rfl, r, l, dr, i + 1 + 1 + x.2.1.length, _, x.2.2, _, rfl, erb, lk_of hl hr (kp.fresh kb' (by simpa using hr)), hd2, by omega, (fun y hy => by have := hfx.2.2 y hy; omega), fun Hc li as hli has hlic hasc erc kc => ?_⟩
        have kc' := kb'.trans kc
        obtain ⟨c, hc, hh⟩ := handed_of (hx x hm)
        have hLc := hL.far nr kc' (.inl ⟨_, _, _, _, er⟩)
        obtain ⟨dl', vl, hlnc, _⟩ := id hLc
        have nuc : Hc nu = some (.lst (ivs x.2.1)) := kc.at_ hnb (fun z => ne_of_none era hnu (List.mem_singleton.mp z).symm)
        have fr : ∀ a ∈ M, H' a ≠ none := hL.there
        have frb : ∀ a ∈ M, a ≠ r := fun a ha z => nr (z ▸ ha)
        have th : ∀ {Hx : Hp} {a : Addr}, Kp [r] H' Hx → Hx a = none → a ∉ M := fun {Hx a} k e z => by
          cases q : H' a with
          | none => exact fr a z q
          | some o => rw [k.at_ q (by simpa using frb a z)] at e; cases e
        have hstep : stepN (runN none ((xs.take j).map toCall)) (toCall x) = Ag07.step (runN none ((xs.take j).map toCall)) c := by
          show Ag07Neutral.step _ _ = _
          unfold Ag07Neutral.step; rw [hc]
        have htk : (xs.take (j + 1)).map toCall = (xs.take j).map toCall ++ [toCall x] := by rw [take_snoc hxj, List.map_append]; rfl
        have hrun : runN none ((xs.take (j + 1)).map toCall) = (Ag07.step (runN none ((xs.take j).map toCall)) c).1 := by rw [htk, runN_snoc, hstep]
        have htold : toldOf ((xs.take (j + 1)).map toCall) = toldOf ((xs.take j).map toCall) ++ (((Ag07.step (runN none ((xs.take j).map toCall)) c).2.length : Int) :: (Ag07.step (runN none ((xs.take j).map toCall)) c).2) := by
          unfold toldOf; rw [htk, played_snoc, told_snoc, hstep]
        have hbound : (toldOf ((xs.take (j + 1)).map toCall)).length ≤ 10000000 := by
          refine Nat.le_trans ?_ htl
          rw [List.map_take]
          exact told_take _ _ _
        have hb1 := hbound
        rw [htold, List.length_append, List.length_cons] at hb1
        refine ⟨_, rfl, ln, dl', _, rfl, hlnc, rfl, _, rfl, _, rfl, _, rfl, ?_⟩
        refine ⟨ln, j, _, M, x.1, nu, li, x.2.1, as, x.2.2, c, rfl, hLc, by omega, nuc, hlic, hasc, th ka hnu, th kb' hli, (fun a ha => th kb' (has a ha)), hh, by omega, fun Hd M' ans hLd ch hfa had => ?_⟩
        have hne : toldOf ((xs.take j).map toCall) ≠ [] ∨ ∀ s, (Ag07.step (runN none ((xs.take j).map toCall)) c).1 = some s → s.log = [] ∧ s.letters = [] := by
          cases j with
          | zero => exact .inr (first_empty hh)
          | succ j =>
            left
            apply told_ne
            intro z
            have := congrArg List.length z
            simp at this
            rw [this] at hjx; simp at hjx
        rw [htold] at hbound
        have epc : Hc p = some (.lst (ivs (toldOf ((xs.take j).map toCall)))) := kc'.at_ ep (by simpa using npr)
        have epd := ch.kp.at_ epc np
        generalize Ag07.step (runN none ((xs.take j).map toCall)) c = so at hrun htold hbound hLd had hne
        generalize toldOf ((xs.take j).map toCall) = tl at ep epc epd htold hbound hne
        have nap : ans ≠ p := by
          rintro rfl
          rw [hfa np] at epc; cases epc
        have kd1 : Kp [p] Hd (upd Hd p (.lst (ivs tl ++ [.int (so.2.length : Nat)]))) := (Kp.refl _ _).put (by simp) epd
        have epe : upd Hd p (.lst (ivs tl ++ [.int (so.2.length : Nat)])) p = some (.lst (ivs tl ++ [.int (so.2.length : Nat)])) := upd_same
        have lens : tl.length + 1 + so.2.length ≤ 10000000 := by
          rw [List.length_append, List.length_cons] at hbound; omega
        refine ⟨_, rfl, .inl ⟨rfl, _, SqL.of epd⟩, ?_⟩
        refine ⟨_, rfl, _, so.2.length, rfl, Or.inl ⟨_, SqL.of had, by rw [List.length_map]⟩, p, _, _, rfl, rfl, epd, ?_, ?_⟩
        · rw [List.length_map]; exact sizeLine_big2 (by omega)
        have hae : upd Hd p (.lst (ivs tl ++ [.int (so.2.length : Nat)])) ans = some (.lst (ivs so.2)) := (upd_ne nap).trans had
        refine ⟨_, rfl, .inl ⟨rfl, _, SqL.of epe⟩, _, rfl, p, ans, _, _, rfl, rfl, epe, hae, ?_, ?_⟩
        · rw [List.length_append, List.length_map, List.length_map]; exact Nat.le_of_lt (sizeLine_big2 (by show tl.length + 1 + so.2.length ≤ _; omega))
        have kd2 := kd1.put (o := .lst (ivs tl ++ [.int (so.2.length : Nat)] ++ ivs so.2)) (by simp) epe
        have erd := ch.kp.at_ erc nr
        have kH : Kp [] H Hd := (kp.fresh kc' (by simpa using hr)).fresh ch.kp hM
        have hplace : ((xs.take (j + 1)).flatMap flatCall).length = i + 1 + 1 + x.2.1.length + 1 + (flatRows x.2.2).length := by
          rw [take_snoc hxj, List.flatMap_append, List.length_append, hi]
          simp only [List.flatMap_cons, List.flatMap_nil, flatCall, List.append_nil, List.length_cons, List.length_append]
          omega
        have erf : upd (upd Hd p (.lst (ivs tl ++ [.int (so.2.length : Nat)]))) p (.lst (ivs tl ++ [.int (so.2.length : Nat)] ++ ivs so.2)) r = some (.ins (C_Reader K) dr (F_Reader (.ref l) (.int (((xs.take (j + 1)).flatMap flatCall).length : Nat)))) := by
          rw [upd_ne npr.symm, upd_ne npr.symm, hplace]; exact erd
        refine ⟨⟨j + 1, M', _, _, _, _, by omega, rfl, kH.fresh kd2 (by simpa using hpH), ?_, ch.out erc nr, ch.out epc np, erf, ?_, ?_⟩, ?_⟩
        · intro a ha
          rcases ch.nw a ha with h | h
          · exact hM a h
          · exact (kp.fresh kc' (by simpa using hr)).free (by simp) h
        · rw [upd_same, htold]
          simp [ivs, List.map_append]
        · rw [hrun]
          exact hLd.far (ch.out epc np) kd2 (.inr ⟨tl, epd, hne⟩)
        · show (xs.flatMap flatCall).length - placeOf (upd (upd Hd p (.lst (ivs tl ++ [.int (so.2.length : Nat)]))) p (.lst (ivs tl ++ [.int (so.2.length : Nat)] ++ ivs so.2)) r) < (xs.flatMap flatCall).length - placeOf (H' r)
          rw [erf, er, hplace]
          show _ - (i + 1 + 1 + x.2.1.length + 1 + (flatRows x.2.2).length) < _ - i
          omega
      · have hje : j = xs.length := by omega
        subst hje
        rw [List.take_length] at er ep hL
        refine iteF2 (decide_eq_false (by rw [List.length_map, List.take_length]; omega)) ?_
        exact ⟨_, rfl, q H' p kp ep⟩
    · rintro σ H Q Q' hQ ⟨v, e, a, dx, fs, e1, h1, h2, r', l', i', ns', e3, h3, h4, b, e5, h5⟩
      exact ⟨v, e, a, dx, fs, e1, h1, h2, r', l', i', ns', e3, h3, h4, b, e5, hQ _ _ h5⟩
end
end Wt

set_option Elab.async false
set_option linter.all false
set_option maxRecDepth 100000
set_option maxHeartbeats 2000000
namespace Wt
open PySem PySem.Spec PyProof.Rows L2
open PySem.W (Codec OpenSpec Frag)
/-- what the head's end gives for the def that is called: a written part of the heap at hand, the def's record, its promise there -/
structure Given (row : OpenSpec) (lev : Nat) (names : List Str) (wd : World) (glob : Str → Option Value) (at_ : Addr) (hp : Heap) : Prop where
  ex : ∃ (part : Frag) (rec : FuncData) (prom : Sp), part.In hp ∧ (∀ (sh : Shared) (vals : List Value), vals.length = names.length → BindsTo sh rec ⟨vals, []⟩ (names.zip vals)) ∧
    (∀ bs : Heap, part.In bs → bs.Ns mainGlobals glob → FnOk row.prog wd part glob bs CX0 lev at_ rec names prom) ∧
    ∀ (H : Hp) (xs : List V) (arg : Codec.denoteAll row.args), OnlyF H → Codec.withinAll row.args arg = true → Codec.app row.args row.asked arg = true → DwAll part H xs (Codec.encAll row.args arg) →
      prom xs H (fun v H' => Dw part H' v (row.ret.enc (Codec.app row.args row.f arg))) fun _ _ _ => False
/-- the end of a Spec row over a head that tells its written part by facts, whichever part of the heap that is -/
theorem walk_specE {row : OpenSpec} {lev : Nat} {view : Program} {loose : List Str} {XP : (Str → Option Value) → Heap → Prop} {told : World → Heap → Prop} {dr : DefRec} {names : List Str}
    (well : row.wellSaid = true) (arity : row.args.length = names.length) (room : Room lev callerA)
    (given : ∀ (wd : World) (glob : Str → Option Value) (at_ : Addr) (hp : Heap), told wd hp → hp.Ns mainGlobals glob → glob dr.name = some (.ref at_) → Given row lev names wd glob at_ hp) :
    PySem.W.WalkOS view loose XP told row dr [] fun fn args => PySem.call fn args := by
  intro wd sA sB glob bl G Y at_ ob pm cd doc dV kV _ _ _ _ hname hg args vals ads pre lay _ wl _
  obtain ⟨arg, dec, ask⟩ := PySem.W.os_pre_some pre
  obtain ⟨rfl, inside⟩ := Codec.encAll_of_decAll row.args args arg dec
  obtain ⟨part, rec, prom, here, binds, fnok, promise⟩ := (given wd glob at_ _ Y G.T.g hname).ex
  have due := OpenSpec.post_iff (r := row) well inside (row.ret.enc (Codec.app row.args row.f arg))
  have called := spec_call (R := []) (cl := classAt sA.heap) (d0 := row.ret.enc (Codec.app row.args row.f arg)) here G.T.g G.T.b G.T.builtins G.T.nolimit hg wl (pl_encAll _ _) (layable_weight lay) room fnok binds
    (by rw [encAll_len]; exact arity) (fun H xs only all => promise H xs arg only inside ask all) (fun _ _ _ no => no)
  refine PySem.W.enter_call (codeAny_mono called fun res sC back => ?_)
  obtain ⟨val, new, rfl, b1, b2, b3, b4⟩ := back
  exact ⟨.inl ⟨val, _, new, rfl, fun _ => rfl, b1, (due _).mpr rfl, fun no => nomatch (show false = true from no)⟩, b2, b3, b4⟩
end Wt

set_option Elab.async false
set_option linter.all false
set_option maxRecDepth 100000
set_option maxHeartbeats 2000000
namespace Wt
open PySem PySem.Spec PyProof.Rows L2
theorem final_spec {K : PySem.W.Frag} {H : Hp} {l : Addr} {ns : List Int} (hs : SqL K H l (ns.map V.int)) (hlen : ns.length ≤ 11300) (hq : PyAg07.answers_asked ns = true) :
    (pm_answers K).sp [.ref l] H (fun v H' => Dw K H' v (.list ((PyAg07.answers ns).map PySem.W.WData.int))) fun _ _ _ => False := by
  unfold PyAg07.answers_asked at hq
  split at hq
  · cases hq
  · rename_i cs hcs
    simp only [Bool.and_eq_true] at hq
    obtain ⟨⟨⟨⟨hne, hfit⟩, hmost⟩, hasked⟩, hshort⟩ := hq
    have ea : PyAg07.answers ns = toldOf cs := by unfold PyAg07.answers; rw [hcs]; rfl
    obtain ⟨xs, rfl, rfl⟩ := calls_flat hcs
    unfold Ag07Neutral.asked at hasked
    simp only [Bool.and_eq_true, decide_eq_true_eq] at hasked
    have hsh := short_len hshort
    rw [ea] at hsh ⊢
    refine ⟨l, xs, rfl, hs, fun x hx => List.all_eq_true.mp hasked.2.2 _ (List.mem_map_of_mem hx), by have := hasked.2.1; rwa [List.length_map] at this, by omega, hsh, fun H' p _ hp => ?_⟩
    exact .lst (SqL.of hp) (dw_ints _)
end Wt
open PySem PySem.W PySem.Calls PyProof.Rows
theorem PySem.Challenge.cw_watchedtree_s01_answers_holds : PySem.Challenge.rw_watchedtree_s01_answers.Holds := by
  w_on
  refine HeadRun.head_spec (r := PySem.Challenge.rw_watchedtree_s01_answers) (q := Wt.qv) (H := Wt.hk) (ob := Wt.ob) (M := 9000) (loose := Wt.names) (d := Wt.dA) (kwd := []) Wt.ob_eq
    (by kernel_rfl) (fun s => by kernel_rfl) Wt.run (by kernel_rfl) (by kernel_rfl) (by kernel_rfl) os_shapes (by first | assumption | decide +kernel) (by decide +kernel) ⟨rfl, rfl, rfl, rfl, rfl, by decide +kernel⟩ ?hw ?hc
  case hw => exact ⟨[.list [.int 1, .int 0, .int 0]], by decide +kernel, by decide +kernel⟩
  case hc =>
    refine Wt.walk_specE (row := PySem.Challenge.rw_watchedtree_s01_answers) (lev := 20) (names := ["calls"]) (by decide +kernel) rfl ⟨rfl, by decide, by decide⟩ ?F
    intro w mg fa h Y G hmg
    obtain ⟨K, KX, c⟩ := Y
    have T : Wt.Tx K mg := ⟨⟨h, KX, G⟩, c.1, c.2⟩
    have efa : fa = He.ga K "answers" := by
      have h1 := T.glo_answers
      have h2 : mg "answers" = some (.ref fa) := hmg
      rw [h1] at h2
      cases h2; rfl
    obtain ⟨fd, F⟩ := T.fun_answers
    refine ⟨K, fd, (Wt.pm_answers K).sp, KX, Wt.HasFn.main F Wt.binds_answers, fun base _ _ => ?_, ?_⟩
    · rw [efa]
      exact (Wt.ok_answers T F).mono (by decide)
    intro H xs a hO hwi hask hx
    cases hx with
    | cons h1 h2 =>
      cases h2
      cases h1 with
      | lst hs ha =>
        have e := L2.ints_dw a.1 _ ha
        subst e
        have q : ((Codec.inLen 0 11300 a.1 && a.1.all (Codec.inInt 0 20000)) && true) = true := hwi
        rw [Bool.and_eq_true, Bool.and_eq_true] at q
        have hlen := (Codec.inNat_iff.mp q.1.1).2
        have hq : PyAg07.answers_asked a.1 = true := hask
        exact Wt.final_spec hs hlen hq


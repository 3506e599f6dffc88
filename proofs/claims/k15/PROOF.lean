import PyProof.Rows.All
import Wide.All
import OpenK.AllK
import Wide.FinOn
import HandS.ForMost
import HandS.Star
import HandS.IsInst
import HandS.Walk
import HandS.WideBits
import HandS.ForExc
import HandS.TryMany
import HandS.Dict
import HandS.Sort
import HandS.ExcCtx
import HandS.HotCalls
import HandS.ExcIs
import HandS.Text
import HandS.FStr
import HandS.StrMore
import PySem.Challenge.RW_ringlog_k15_refusals_stand_apart
set_option Elab.async false
set_option maxRecDepth 100000
set_option maxHeartbeats 1000000
set_option linter.all false
namespace RL
open PySem L2 StX
/-! ### range as a value; x not in range(n) for ints, None, texts -/
def rRng1 : List V → Hp → VK → Prop := fun vs H Q => ∃ j : Int, vs = [.int j] ∧ ∀ p, H p = none → Q (.ref p) (upd H p (.rng 0 j))
theorem cr_range1 {X : Cx} : CallR X (.type "range") rRng1 := by
  intro pins s σ H vs us Q I r h
  obtain ⟨j, rfl, q⟩ := h
  obtain ⟨u1, rfl, t, rfl⟩ : ∃ u1, us = [u1] ∧ ∃ t, u1 = Value.int j t := by
    cases r with
    | cons r1 r2 =>
      cases r2
      exact ⟨_, rfl, r1⟩
  refine call_range_1 ⟨.ref s.heap.objs.size, upd H s.heap.objs.size (.rng 0 j), ?_, rfl, q _ (I.hok.fresh (Nat.le_refl _))⟩
  exact Inv.laid I (fun b o e => Heap.get?_push_of_some _ e) (Nat.le_refl _) ⟨_, _, _, Heap.get?_push_size s.heap rfl⟩
theorem plain_rng_loop : plainId "range.__contains__.loop" = true := by decide +kernel
theorem entry_rng_loop : entryFor table "range.__contains__.loop" = some Builtin.«range.__contains__.loop» := entryFor_of_fast (by kernel_rfl)
def NoInt (x : Value) : Prop := x = .none ∨ ∃ z k, x = .str z k
theorem NoInt.eq {x : Value} (h : NoInt x) (A : Around) (s : Shared) (i : Int) (t : Tok) : SeqAt.EqAt A s (.int i t) x false := by
  rcases h with rfl | ⟨z, k, rfl⟩
  · exact SeqAt.EqAt.int_none i t
  · exact SeqAt.EqAt.int_str i t z k
theorem rng_loop (r : Addr) (n : Int) (t u v : Tok) (x : Value) (hx : NoInt x) (k : Nat) :
    ∀ i : Nat, n.toNat - i = k → Meets (Builtin.«range.__contains__.loop» ⟨[.ref r, x, rawInt i], []⟩)
      (fun _ R s => s.heap.get? r = some { cls := .type "range", dict := none, data := .fields #[.int 0 t, .int n u, .int 1 v], slots := #[] } ∧ ∀ t', R (.ok (.ret (.bool false))) { s with toks := t' }) := by
  have e : Builtin.Range.rangeSize 0 n 1 = n.toNat := by
    unfold Builtin.Range.rangeSize
    rw [if_pos (by decide)]
    split <;> omega
  induction k with
  | zero =>
    intro i hk prog w A R s h
    obtain ⟨hp, g, d, tk, os⟩ := s; obtain ⟨hl, h⟩ := h
    wp_walk
    rw [if_pos (by rw [e]; omega)]
    wp_walk
    exact h _
  | succ k ih =>
    intro i hk prog w A R s h
    obtain ⟨hp, g, d, tk, os⟩ := s; obtain ⟨hl, h⟩ := h
    wp_walk
    rw [if_neg (by rw [e]; omega)]
    generalize hE : eqBool = eB
    wp_walk
    subst hE
    refine hx.eq _ _ _ _ prog w _ _ ?_
    have hc : ((i : Int) + 1) = ((i + 1 : Nat) : Int) := by push_cast; rfl
    wp_walk
    rw [hc]
    exact ⟨plainId_quiet plain_rng_loop _, codeAny_builtin entry_rng_loop (by
      rw [Around.under_plainId plain_rng_loop _]
      exact ih (i + 1) (by omega) prog w A R _ ⟨hl, h⟩)⟩
theorem q_containsNo (r : Addr) (n : Int) (t u v : Tok) (x : Value) (hx : NoInt x) :
    Meets (Builtin.«range.__contains__» ⟨[.ref r, x], []⟩) (fun _ R s => s.heap.get? r = some { cls := .type "range", dict := none, data := .fields #[.int 0 t, .int n u, .int 1 v], slots := #[] } ∧ ∀ t', R (.ok (.ret (.bool false))) { s with toks := t' }) := by
  intro prog w A R s h
  obtain ⟨hp, g, d, tk, os⟩ := s; obtain ⟨hl, h⟩ := h
  have e : Builtin.Range.rangeExactInt? x = none := by
    rcases hx with rfl | ⟨z, k, rfl⟩ <;> rfl
  wp_walk
  rw [e]
  wp_walk
  exact ⟨plainId_quiet plain_rng_loop _, codeAny_builtin entry_rng_loop (by
    rw [Around.under_plainId plain_rng_loop _]
    exact rng_loop r n t u v x hx _ 0 rfl prog w A R _ ⟨hl, h⟩)⟩
def rNotRng : R2 := fun x y H Q => ∃ a n, y = .ref a ∧ H a = some (.rng 0 n) ∧ ((∃ i, x = .int i ∧ Q (.bl (!decide (0 ≤ i ∧ i < n))) H) ∨ ((x = .non ∨ ∃ z, x = .str z) ∧ Q (.bl true) H))
theorem op_notInRng {X : Cx} : OpR X (compareOp .NotIn) rNotRng := by
  intro pins s σ H x y v u Q I rx ry h
  obtain ⟨a, n, rfl, ha, h⟩ := h
  obtain rfl : u = Value.ref a := ry
  obtain ⟨t1, t2, t3, ho⟩ := I.hok a _ ha
  show wpAny _ _ (do return Value.bool (!(← contains (Value.ref a) v))) _ _ s
  rcases h with ⟨i, rfl, q⟩ | ⟨hx, q⟩
  · obtain ⟨k, rfl⟩ := rx
    refine wpAny_bind (wpAny_contains_slot (T := "range") ⟨_, ho, rfl⟩ F.slot_range_contains (call_meets F.slot_range_contains ⟨_, ho, rfl⟩ F.entry_range_contains (F.args_range_contains_2 _ _) (q_contains a 0 n i t1 t2 t3 k)
      ⟨ho, wpAny_truthy_bool (wpAny_pure ⟨.bl _, H, I, rfl, ?_⟩)⟩))
    rw [place1]
    exact q
  · have hn : NoInt v := by
      rcases hx with rfl | ⟨z, rfl⟩
      · exact .inl rx
      · obtain ⟨t, rfl⟩ := rx
        exact .inr ⟨_, _, rfl⟩
    refine wpAny_bind (wpAny_contains_slot (T := "range") ⟨_, ho, rfl⟩ F.slot_range_contains (call_meets F.slot_range_contains ⟨_, ho, rfl⟩ F.entry_range_contains (F.args_range_contains_2 _ _) (q_containsNo a n t1 t2 t3 v hn)
      ⟨ho, fun t' => wpAny_truthy_bool (wpAny_pure ⟨.bl _, H, I.tok t', rfl, ?_⟩)⟩))
    exact q
end RL
namespace RL
open PySem L2 StX

/-! ### heaps as lists of what stands where -/
structure Holds (H : Hp) (L : List (Addr × HO)) : Prop where
  nd : (L.map Prod.fst).Nodup
  at_ : ∀ x ∈ L, H x.1 = some x.2
theorem Holds.get {H : Hp} {L : List (Addr × HO)} {a : Addr} {o : HO} (h : Holds H L) (m : (a, o) ∈ L) : H a = some o := h.at_ _ m
theorem Holds.fresh {H : Hp} {L : List (Addr × HO)} (h : Holds H L) {p : Addr} (hp : H p = none) : p ∉ L.map Prod.fst := fun hm => by
  obtain ⟨x, hx, e⟩ := List.mem_map.mp hm
  have := h.at_ x hx
  rw [e, hp] at this
  cases this
theorem Holds.nil {H : Hp} : Holds H [] := ⟨List.nodup_nil, fun _ h => nomatch h⟩
theorem Holds.one {H : Hp} {a : Addr} {o : HO} (h : H a = some o) : Holds H [(a, o)] := ⟨by simp, fun x hx => by
  obtain rfl : x = (a, o) := by simpa using hx
  exact h⟩
theorem Holds.tl {H : Hp} {L : List (Addr × HO)} {x : Addr × HO} (h : Holds H (x :: L)) : Holds H L :=
  ⟨(List.nodup_cons.mp h.nd).2, fun y hy => h.at_ y (List.mem_cons_of_mem _ hy)⟩
/-- a new object -/
theorem Holds.new {H : Hp} {L : List (Addr × HO)} (h : Holds H L) {p : Addr} (hp : H p = none) (o : HO) : Holds (upd H p o) ((p, o) :: L) := by
  refine ⟨?_, fun x hx => ?_⟩
  · rw [List.map_cons, List.nodup_cons]
    exact ⟨h.fresh hp, h.nd⟩
  · rcases List.mem_cons.mp hx with e | hx
    · rw [e]
      exact upd_same
    · have := h.at_ x hx
      rw [upd_ne (ne_of_none this hp)]
      exact this
/-- a new object that is let go -/
theorem Holds.lost {H : Hp} {L : List (Addr × HO)} (h : Holds H L) {p : Addr} (hp : H p = none) (o : HO) : Holds (upd H p o) L := (h.new hp o).tl
theorem Holds.drop2 {H : Hp} {L : List (Addr × HO)} {x y : Addr × HO} (h : Holds H (x :: y :: L)) : Holds H (x :: L) := by
  refine ⟨?_, fun z hz => h.at_ z ?_⟩
  · have := h.nd
    simp only [List.map_cons, List.nodup_cons, List.mem_cons, not_or] at this ⊢
    exact ⟨this.1.2, this.2.2⟩
  · rcases List.mem_cons.mp hz with e | e
    · rw [e]; exact List.mem_cons_self
    · exact List.mem_cons_of_mem _ (List.mem_cons_of_mem _ e)
/-- L' is L with o' at a -/
inductive Rep : List (Addr × HO) → Addr → HO → List (Addr × HO) → Prop
  | here {a : Addr} {o o' : HO} {L : List (Addr × HO)} : Rep ((a, o) :: L) a o' ((a, o') :: L)
  | there {a : Addr} {o' : HO} {x : Addr × HO} {L L' : List (Addr × HO)} : Rep L a o' L' → Rep (x :: L) a o' (x :: L')
theorem Rep.fst {L L' : List (Addr × HO)} {a : Addr} {o' : HO} (r : Rep L a o' L') : L'.map Prod.fst = L.map Prod.fst := by
  induction r with
  | here => rfl
  | there _ ih => simp [ih]
theorem Rep.mem {L L' : List (Addr × HO)} {a : Addr} {o' : HO} (r : Rep L a o' L') : (a, o') ∈ L' := by
  induction r with
  | here => exact List.mem_cons_self
  | there _ ih => exact List.mem_cons_of_mem _ ih
theorem Rep.old {L L' : List (Addr × HO)} {a : Addr} {o' : HO} (r : Rep L a o' L') (nd : (L.map Prod.fst).Nodup) : ∀ x ∈ L', x = (a, o') ∨ (x ∈ L ∧ x.1 ≠ a) := by
  induction r with
  | @here a o o' L =>
    intro x hx
    rcases List.mem_cons.mp hx with e | hx
    · exact .inl e
    · refine .inr ⟨List.mem_cons_of_mem _ hx, fun e => ?_⟩
      rw [List.map_cons, List.nodup_cons] at nd
      exact nd.1 (List.mem_map.mpr ⟨x, hx, e⟩)
  | @there a o' y L L' r ih =>
    intro x hx
    rw [List.map_cons, List.nodup_cons] at nd
    rcases List.mem_cons.mp hx with e | hx
    · refine .inr ⟨e ▸ List.mem_cons_self, fun q => ?_⟩
      have hm : a ∈ L.map Prod.fst := r.fst ▸ List.mem_map_of_mem (f := Prod.fst) r.mem
      rw [e] at q
      exact nd.1 (q ▸ hm)
    · rcases ih nd.2 x hx with e | ⟨h1, h2⟩
      · exact .inl e
      · exact .inr ⟨List.mem_cons_of_mem _ h1, h2⟩
/-- a store -/
theorem Holds.put {H : Hp} {L L' : List (Addr × HO)} {a : Addr} {o' : HO} (h : Holds H L) (r : Rep L a o' L') : Holds (upd H a o') L' := by
  refine ⟨by rw [r.fst]; exact h.nd, fun x hx => ?_⟩
  rcases r.old h.nd x hx with e | ⟨h1, h2⟩
  · rw [e]
    exact upd_same
  · rw [upd_ne h2]
    exact h.at_ x h1
/-- what stood and is none of W stands as it was -/
def Upto (W : List Addr) (H H' : Hp) : Prop := ∀ b o, b ∉ W → H b = some o → H' b = some o
theorem Upto.refl (W : List Addr) (H : Hp) : Upto W H H := fun _ _ _ h => h
theorem Upto.trans {W : List Addr} {H H1 H2 : Hp} (a : Upto W H H1) (b : Upto W H1 H2) : Upto W H H2 := fun c o n h => b c o n (a c o n h)
theorem Upto.mono {W W' : List Addr} {H H1 : Hp} (a : Upto W H H1) (s : ∀ x ∈ W, x ∈ W') : Upto W' H H1 := fun c o n h => a c o (fun z => n (s c z)) h
theorem Upto.new {W : List Addr} {H : Hp} {p : Addr} {o : HO} (hp : H p = none) : Upto W H (upd H p o) := fun b u _ q => by rw [upd_ne (ne_of_none q hp)]; exact q
theorem Upto.put {W : List Addr} {H : Hp} {p : Addr} {o : HO} (hp : p ∈ W) : Upto W H (upd H p o) := fun b u n q => by
  have hb : b ≠ p := fun e => n (by rw [e]; exact hp)
  rw [upd_ne hb]
  exact q
theorem Same.upto {W : List Addr} {H H' : Hp} (s : Same H H') : Upto W H H' := fun b o _ h => s b o h
theorem Upto.same {H H' : Hp} (s : Upto [] H H') : Same H H' := fun b o h => s b o (by simp) h
theorem Holds.same {H H' : Hp} {L : List (Addr × HO)} (h : Holds H L) (s : Same H H') : Holds H' L := ⟨h.nd, fun x hx => s _ _ (h.at_ x hx)⟩
theorem Holds.away {H H' : Hp} {L : List (Addr × HO)} {W : List Addr} (h : Holds H L) (u : Upto W H H') (d : ∀ x ∈ L, x.1 ∉ W) : Holds H' L := ⟨h.nd, fun x hx => u _ _ (d x hx) (h.at_ x hx)⟩
/-- behind a call that changes a alone -/
theorem Holds.upto {H H' : Hp} {L L' : List (Addr × HO)} {a : Addr} {o' : HO} (h : Holds H L) (u : Upto [a] H H') (e : H' a = some o') (r : Rep L a o' L') : Holds H' L' := by
  refine ⟨by rw [r.fst]; exact h.nd, fun x hx => ?_⟩
  rcases r.old h.nd x hx with q | ⟨h1, h2⟩
  · rw [q]
    exact e
  · exact u _ _ (by simpa using h2) (h.at_ x h1)
theorem same_new {H : Hp} {p : Addr} (h : H p = none) (o : HO) : Same H (upd H p o) := fun b u q => by rw [upd_ne (ne_of_none q h)]; exact q
theorem Holds.uptoNew {H H' : Hp} {W : List Addr} {p : Addr} (h : Upto W H H') (n : H' p = none) (hw : p ∉ W) : H p = none := by
  cases q : H p with
  | none => rfl
  | some o =>
    rw [h p o hw q] at n
    cases n

/-! ### calls of the module's defs -/
structure DefOk (P : Program) (w : World) (K : PySem.W.Frag) (mg : Str → Option Value) (base : Heap) (CX : CXT) (k : Nat) (x : Str) (ps : List Str) (sp : Sp) : Prop where
  ex : ∃ (f : Addr) (fd : FuncData), FnOk P w K mg base CX k f fd ps sp ∧ Binds K fd ps [] ∧ PySem.W.keepIn K (.ref f) = true ∧ mg x = some (.ref f)
section
variable {X : Cx} {CX : CXT} {k n : Nat} {ps : List Str} {sp : Sp} {E : XK} {x : Str} {p pos : Pos} {e : Expr} {es : List Expr} {t : TA}
theorem pe_callD (D : DefOk X.prog X.w X.K X.mg X.base CX k x ps sp) (hr : Room n X.A) (hg : Gl X x) (hx : Passes CX X E)
    (ha : PA X (e :: es) t) (hk : k ≤ n := by first | decide | exact Nat.le_refl _) (hdb : (x == ("__debug__" : Str)) = false := by decide) (he : starEach (e :: es) X.env = (false, eval e X.env) :: starEach es X.env := by rfl) (hpl : (backTo pos (starEach es X.env)).any (·.1) = false := by rfl) :
    PE X (.Call (.Name x p) (e :: es) [] pos) (tCall sp [] E t) := by
  obtain ⟨f, fd, F, b, kp, m⟩ := D.ex
  exact pe_call F (hr.mono hk) hg m kp b .nil hx ha hdb he hpl
theorem pe_callD0 (D : DefOk X.prog X.w X.K X.mg X.base CX k x ps sp) (hr : Room n X.A) (hg : Gl X x) (hx : Passes CX X E)
    (hk : k ≤ n := by first | decide | exact Nat.le_refl _) (hdb : (x == ("__debug__" : Str)) = false := by decide) :
    PE X (.Call (.Name x p) [] [] pos) (tCall sp [] E tNil) := by
  obtain ⟨f, fd, F, b, kp, m⟩ := D.ex
  exact pe_call0 F (hr.mono hk) hg m kp b .nil hx hdb
end

/-! ### the state of a body: W may be written, H0 at the entry, H now; M what may be written (W's and what is new), I what is read -/
structure Hs (W : List Addr) (H0 H : Hp) (M I : List (Addr × HO)) : Prop where
  up : Upto W H0 H
  nd : ((M ++ I).map Prod.fst).Nodup
  at_ : ∀ x ∈ M ++ I, H x.1 = some x.2
  mu : ∀ x ∈ M, x.1 ∈ W ∨ H0 x.1 = none
section
variable {W : List Addr} {H0 H H' : Hp} {M M' I : List (Addr × HO)} {a p : Addr} {o o' : HO}
theorem Hs.holds (h : Hs W H0 H M I) : Holds H (M ++ I) := ⟨h.nd, h.at_⟩
theorem Hs.getM (h : Hs W H0 H M I) (m : (a, o) ∈ M) : H a = some o := h.at_ _ (List.mem_append_left _ m)
theorem Hs.getI (h : Hs W H0 H M I) (m : (a, o) ∈ I) : H a = some o := h.at_ _ (List.mem_append_right _ m)
theorem Hs.start {H : Hp} {M I : List (Addr × HO)} (nd : ((M ++ I).map Prod.fst).Nodup) (h : ∀ x ∈ M ++ I, H x.1 = some x.2) : Hs (M.map Prod.fst) H H M I :=
  ⟨Upto.refl _ _, nd, h, fun _ hx => .inl (List.mem_map_of_mem hx)⟩
theorem Hs.new (h : Hs W H0 H M I) (hp : H p = none) (o : HO) : Hs W H0 (upd H p o) ((p, o) :: M) I := by
  have q := h.holds.new hp o
  refine ⟨h.up.trans (Upto.new hp), q.nd, q.at_, fun x hx => ?_⟩
  rcases List.mem_cons.mp hx with e | hx
  · rw [e]
    by_cases hw : p ∈ W
    · exact .inl hw
    · exact .inr (Holds.uptoNew h.up hp hw)
  · exact h.mu x hx
theorem Hs.lost (h : Hs W H0 H M I) (hp : H p = none) (o : HO) : Hs W H0 (upd H p o) M I :=
  ⟨h.up.trans (Upto.new hp), h.nd, (h.holds.lost hp o).at_, h.mu⟩
theorem Rep.app {L L' : List (Addr × HO)} (r : Rep L a o' L') (I : List (Addr × HO)) : Rep (L ++ I) a o' (L' ++ I) := by
  induction r with
  | here => exact .here
  | there _ ih => exact .there ih
theorem Rep.memL {L L' : List (Addr × HO)} (r : Rep L a o' L') : ∃ o, (a, o) ∈ L := by
  induction r with
  | here => exact ⟨_, List.mem_cons_self⟩
  | there _ ih =>
    obtain ⟨o, ho⟩ := ih
    exact ⟨o, List.mem_cons_of_mem _ ho⟩
theorem Hs.mu' (h : Hs W H0 H M I) (r : Rep M a o' M') : ∀ x ∈ M', x.1 ∈ W ∨ H0 x.1 = none := fun x hx => by
  have : x.1 ∈ M.map Prod.fst := r.fst ▸ List.mem_map_of_mem hx
  obtain ⟨y, hy, e⟩ := List.mem_map.mp this
  rw [← e]
  exact h.mu y hy
theorem Hs.put (h : Hs W H0 H M I) (r : Rep M a o' M') : Hs W H0 (upd H a o') M' I := by
  have q := h.holds.put (r.app I)
  refine ⟨fun b u n e => ?_, q.nd, q.at_, h.mu' r⟩
  have e1 := h.up b u n e
  have hb : b ≠ a := fun z => by
    obtain ⟨o, hm⟩ := r.memL
    rcases h.mu _ hm with w | w
    · exact n (z ▸ w)
    · rw [z] at e
      rw [w] at e
      cases e
  rw [upd_ne hb]
  exact e1
/-- behind a call that changes a alone -/
theorem Hs.call1 (h : Hs W H0 H M I) (u : Upto [a] H H') (e : H' a = some o') (r : Rep M a o' M') : Hs W H0 H' M' I := by
  have q := h.holds.upto u e (r.app I)
  refine ⟨fun b v n eb => ?_, q.nd, q.at_, h.mu' r⟩
  have hb : b ≠ a := fun z => by
    obtain ⟨o, hm⟩ := r.memL
    rcases h.mu _ hm with w | w
    · exact n (z ▸ w)
    · rw [z] at eb
      rw [w] at eb
      cases eb
  exact u b v (by simpa using hb) (h.up b v n eb)
/-- behind a call that changes nothing -/
theorem Hs.call0 (h : Hs W H0 H M I) (u : Upto [] H H') : Hs W H0 H' M I :=
  ⟨h.up.trans (u.mono fun _ z => nomatch z), h.nd, fun x hx => u _ _ (by simp) (h.at_ x hx), h.mu⟩
/-- what stands at a place that was free ahead, too -/
theorem Hs.add (h : Hs W H0 H M I) (h' : Hs W H0 H' M' I) (e : M'.map Prod.fst = M.map Prod.fst) (hp : H p = none) (hq : H' p = some o) : Hs W H0 H' ((p, o) :: M') I := by
  have f := h.holds.fresh hp
  refine ⟨h'.up, ?_, fun x hx => ?_, fun x hx => ?_⟩
  · rw [List.cons_append, List.map_cons, List.nodup_cons]
    refine ⟨?_, h'.nd⟩
    rw [List.map_append, e, ← List.map_append]
    exact f
  · rw [List.cons_append] at hx
    rcases List.mem_cons.mp hx with z | hx
    · rw [z]
      exact hq
    · exact h'.at_ x hx
  · rcases List.mem_cons.mp hx with z | hx
    · rw [z]
      by_cases hw : p ∈ W
      · exact .inl hw
      · exact .inr (Holds.uptoNew h.up hp hw)
    · exact h'.mu x hx
theorem Hs.free (h : Hs W H0 H M I) (hp : H p = none) (hw : p ∉ W) : H0 p = none := Holds.uptoNew h.up hp hw
/-- forget -/
theorem Hs.tl {x : Addr × HO} (h : Hs W H0 H (x :: M) I) : Hs W H0 H M I :=
  ⟨h.up, by have := h.nd; rw [List.cons_append, List.map_cons, List.nodup_cons] at this; exact this.2, fun y hy => h.at_ y (List.mem_cons_of_mem _ hy), fun y hy => h.mu y (List.mem_cons_of_mem _ hy)⟩
theorem Hs.tl2 {x y : Addr × HO} (h : Hs W H0 H (x :: y :: M) I) : Hs W H0 H (x :: M) I := by
  refine ⟨h.up, ?_, fun z hz => h.at_ z ?_, fun z hz => h.mu z ?_⟩
  · have := h.nd
    simp only [List.cons_append, List.map_cons, List.nodup_cons, List.mem_cons, not_or] at this ⊢
    exact ⟨this.1.2, this.2.2⟩
  · rw [List.cons_append] at hz
    rcases List.mem_cons.mp hz with e | e
    · rw [e]; exact List.mem_cons_self
    · exact List.mem_cons_of_mem _ (List.mem_cons_of_mem _ e)
  · rcases List.mem_cons.mp hz with e | e
    · rw [e]; exact List.mem_cons_self
    · exact List.mem_cons_of_mem _ (List.mem_cons_of_mem _ e)
end

/-! ### constants of the module -/
theorem pe_globC {X : Cx} {x : Str} {i : Int} {pos : Pos} (m : ∃ t, X.mg x = some (.int i t)) (hg : Gl X x) (hd : (x == ("__debug__" : Str)) = false := by decide) : PE X (.Name x pos) (tC (.int i)) := by
  obtain ⟨t, m⟩ := m
  exact pe_glob hg m ⟨_, rfl⟩ hd

/-! ### readings by steps -/
inductive SetAt : St → Nat → V → St → Prop
  | here {x : Option V} {σ : St} {v : V} : SetAt (x :: σ) 0 v (some v :: σ)
  | there {x : Option V} {σ σ' : St} {v : V} {i : Nat} : SetAt σ i v σ' → SetAt (x :: σ) (i + 1) v (x :: σ')
theorem SetAt.eq {σ σ' : St} {i : Nat} {v : V} (h : SetAt σ i v σ') : σ.set i (some v) = σ' := by
  induction h with
  | here => rfl
  | there _ ih => rw [List.set_cons_succ, ih]
def SetI (xs : List V) (i : Int) (v : V) (zs : List V) : Prop := ∃ k, ixN xs.length i = some k ∧ xs.set k v = zs
theorem SetI.nat {xs : List V} {n : Nat} {v : V} (h : n < xs.length) : SetI xs (n : Int) v (xs.set n v) := ⟨n, by
  unfold ixN
  rw [if_pos (by omega), if_pos (by omega)]
  rfl, rfl⟩
theorem SetI.s0 {x v : V} {xs : List V} : SetI (x :: xs) 0 v (v :: xs) := SetI.nat (n := 0) (by simp)
theorem SetI.s1 {x y v : V} {xs : List V} : SetI (x :: y :: xs) 1 v (x :: v :: xs) := SetI.nat (n := 1) (by simp)
theorem SetI.s2 {x y z v : V} {xs : List V} : SetI (x :: y :: z :: xs) 2 v (x :: y :: v :: xs) := SetI.nat (n := 2) (by simp)
def kRng1 (R : It → Hp → Prop) : List V → Hp → Prop := fun vs H1 => ∃ j : Int, vs = [.int j] ∧ -(2 ^ 62) ≤ j ∧ j < 2 ^ 62 ∧ R (Itr 0 j.toNat) H1
def kRng2 (R : It → Hp → Prop) : List V → Hp → Prop := fun vs H1 => ∃ i j : Int, vs = [.int i, .int j] ∧ (-(2 ^ 62) ≤ i ∧ i < 2 ^ 62 ∧ -(2 ^ 62) ≤ j ∧ j < 2 ^ 62) ∧ R (Itr i (j - i).toNat) H1
def kLst (K : PySem.W.Frag) (R : It → Hp → Prop) : V → Hp → Prop := fun x H1 => ∃ a, x = .ref a ∧ (∃ xs, SqL K H1 a xs) ∧ R (Itl K a) H1
def kTup (K : PySem.W.Frag) (R : It → Hp → Prop) : V → Hp → Prop := fun x H1 => ∃ a, x = .ref a ∧ (∃ xs, SqT K H1 a xs) ∧ R (Itt K a) H1
def kFor (J : It) (g : TG) (tb : TS) (D : Ends) : St → Hp → Prop := fun σ H1 => ∃ W : Nat → Nat → St → Hp → Prop, (∃ m, W 0 m σ H1) ∧ ∀ i m σ H, W i m σ H →
  (J.stop i H ∧ D.nx σ H) ∨ (J.go i H ∧ ∃ N : St → Hp → Prop, (∀ σ' H', N σ' H' → ∃ m', m' < m ∧ W (i + 1) m' σ' H') ∧ ∀ x H', J.yld i H x H' → g x σ H' fun σ2 H2 => tb { D with nx := N, ct := N, bk := D.nx } σ2 H2)
def kLc (J : It) (g : TG) (tt : TT) (te : TE) (vs : List Nat) (σ : St) (Q : VK) : Hp → Prop := fun H1 => ∀ D, H1 D = none → ∃ W : Nat → Nat → Hp → Prop, (∃ m, W 0 m (upd H1 D (.lst []))) ∧ ∀ i m H, W i m H →
  (J.stop i H ∧ Q (.ref D) H) ∨ (J.go i H ∧ ∃ Nx : Hp → Prop, (∀ H', Nx H' → ∃ m', m' < m ∧ W (i + 1) m' H') ∧ ∀ x H', J.yld i H x H' → g x (wipe σ vs) H' fun σ2 H2 => wipe σ2 vs = wipe σ vs ∧ tt σ2 H2 fun b H3 =>
    if b = true then te σ2 H3 fun y H4 => ∃ acc, H4 D = some (.lst acc) ∧ acc.length < sizeLine ∧ Nx (upd H4 D (.lst (acc ++ [y]))) else Nx H3)
def newL (xs : List V) (H : Hp) (Q : VK) : Prop := xs.length ≤ sizeLine ∧ ∀ p, H p = none → Q (.ref p) (upd H p (.lst xs))
def newT (xs : List V) (H : Hp) (Q : VK) : Prop := xs.length ≤ sizeLine ∧ ∀ p, H p = none → Q (.ref p) (upd H p (.tup xs))
def kBl (Q : Bool → Hp → Prop) : VK := fun x H => ∃ k, x = .bl k ∧ Q k H
section
variable {D : Ends} {σ σ' : St} {H H' : Hp} {nx bk ct : St → Hp → Prop} {rt : VK} {t u : TS} {te ta tb tc : TE} {tt : TA} {c c2 : TT} {Q : VK} {QA : List V → Hp → Prop} {QB : Bool → Hp → Prop} {g : TG} {v x y : V} {vs : List V} {i j : Int} {n : Nat} {K : PySem.W.Frag}
theorem s_start {N : List Str} (e : start N vs = σ) (h : t D σ H) : t D (start N vs) H := by rw [e]; exact h
theorem s_seq (h : t ⟨u ⟨nx, rt, bk, ct⟩, rt, bk, ct⟩ σ H) : tSeq t u ⟨nx, rt, bk, ct⟩ σ H := h
theorem s_asg (h : te σ H fun x H1 => g x σ H1 nx) : tAsg te g ⟨nx, rt, bk, ct⟩ σ H := h
theorem s_next (h : nx σ H) : tNext ⟨nx, rt, bk, ct⟩ σ H := h
theorem s_ret (h : te σ H rt) : tRet te ⟨nx, rt, bk, ct⟩ σ H := h
theorem s_retN (h : rt .non H) : tRetN ⟨nx, rt, bk, ct⟩ σ H := h
theorem s_drop (h : te σ H fun _ H1 => nx σ H1) : tDrop te ⟨nx, rt, bk, ct⟩ σ H := h
theorem s_ifs (h : c σ H fun b H1 => if b = true then t D σ H1 else u D σ H1) : tIfS c t u D σ H := h
theorem s_gname (s : SetAt σ n v σ') (h : nx σ' H) : gName n v σ H nx := by
  show nx (σ.set n (some v)) H
  rw [s.eq]
  exact h
theorem s_var (e : σ[n]? = some (some v)) (h : Q v H) : tVar n σ H Q := ⟨v, e, h⟩
theorem s_c (h : Q v H) : tC v σ H Q := h
theorem s_op {r : R2} (h : ta σ H fun x H1 => tb σ H1 fun y H2 => r x y H2 Q) : tOp r ta tb σ H Q := h
theorem s_un {r : V → Hp → VK → Prop} (h : ta σ H fun x H1 => r x H1 Q) : tUn r ta σ H Q := h
theorem s_rU {g : Int → V} (h : Q (g i) H) : rU g (.int i) H Q := ⟨i, rfl, h⟩
theorem s_rI0 {g : Int → Int → V} (h : Q (g i j) H) : rI0 g (.int i) (.int j) H Q := ⟨i, j, rfl, rfl, h⟩
theorem s_rI {C : Int → Int → Prop} {g : Int → Int → V} (hc : C i j) (h : Q (g i j) H) : rI C g (.int i) (.int j) H Q := ⟨i, j, rfl, rfl, hc, h⟩
theorem s_eqI (h : Q (.bl (decide (i = j))) H) : rEq (.int i) (.int j) H Q := ⟨rfl, by
  have e : decide (V.int i = V.int j) = decide (i = j) := by rw [dec_int]; rfl
  rw [e]; exact h⟩
theorem s_neI (h : Q (.bl (decide (i ≠ j))) H) : rNe (.int i) (.int j) H Q := ⟨rfl, by
  have e : (!decide (V.int i = V.int j)) = decide (i ≠ j) := by rw [dec_int, decide_not]; rfl
  rw [e]; exact h⟩
theorem s_test (h : te σ H (kBl QB)) : tTest te σ H QB := h
theorem s_tB (h : te σ H (kBl QB)) : tB te σ H QB := h
theorem s_kBl {b : Bool} (h : QB b H) : kBl QB (.bl b) H := ⟨b, rfl, h⟩
theorem s_and (h : c σ H fun b H1 => if b = true then c2 σ H1 QB else QB false H1) : tAnd c c2 σ H QB := h
theorem s_or (h : c σ H fun b H1 => if b = true then QB true H1 else c2 σ H1 QB) : tOr c c2 σ H QB := h
theorem s_not (h : c σ H fun b H1 => QB (!b) H1) : tNot c σ H QB := h
theorem s_andV (h : ta σ H (kBl fun b H1 => if b = true then tb σ H1 Q else Q (.bl false) H1)) : tAndV ta tb σ H Q := h
theorem s_orV (h : ta σ H (kBl fun b H1 => if b = true then Q (.bl true) H1 else tb σ H1 Q)) : tOrV ta tb σ H Q := h
theorem s_notV (h : ta σ H (kBl fun b H1 => Q (.bl (!b)) H1)) : tNotV ta σ H Q := h
theorem s_ifE (h : c σ H fun b H1 => if b = true then ta σ H1 Q else tb σ H1 Q) : tIf c ta tb σ H Q := h
theorem s_chain {r r' : R2} (h : ta σ H fun x H1 => tb σ H1 fun y H2 => r x y H2 (kBl fun k H3 => if k = true then tc σ H3 fun w' H4 => r' y w' H4 Q else Q (.bl false) H3)) : tChain r r' ta tb tc σ H Q := h
theorem s_tup (h : tt σ H fun xs H1 => newT xs H1 Q) : tTup tt σ H Q := h
theorem s_lst (h : tt σ H fun xs H1 => newL xs H1 Q) : tLst tt σ H Q := h
theorem s_nil (h : QA [] H) : tNil σ H QA := h
theorem s_cons (h : ta σ H fun x H1 => tt σ H1 fun xs H2 => QA (x :: xs) H2) : tCons ta tt σ H QA := h
def kStar (K : PySem.W.Frag) (tt : TA) (σ : St) (QA : List V → Hp → Prop) : VK := fun x H1 => ∃ p xs, x = V.ref p ∧ (SqT K H1 p xs ∨ SqL K H1 p xs) ∧ tt σ H1 fun ys H2 => QA (xs ++ ys) H2
theorem s_star (h : te σ H (kStar K tt σ QA)) : StX.tStar K te tt σ H QA := h
theorem s_kStarL {a : Addr} {xs : List V} (hs : SqL K H a xs) (h : tt σ H fun ys H2 => QA (xs ++ ys) H2) : kStar K tt σ QA (.ref a) H := ⟨a, xs, rfl, .inr hs, h⟩
theorem s_call {sp : Sp} {E : XK} (h : tt σ H fun vs H1 => sp vs H1 Q E) : tCall sp [] E tt σ H Q := by
  show tt σ H fun vs H1 => sp (vs ++ []) H1 Q E
  have e : (fun (vs : List V) (H1 : Hp) => sp (vs ++ []) H1 Q E) = fun vs H1 => sp vs H1 Q E := by
    funext vs H1
    rw [List.append_nil]
  rw [e]
  exact h
theorem s_CB {r : List V → Hp → VK → Prop} (h : tt σ H fun vs H1 => r vs H1 Q) : tCB r tt σ H Q := h
theorem s_ixL {a : Addr} {xs : List V} (h1 : SqL K H a xs) (h2 : atI xs i = some v) (h : Q v H) : rIxL K (.ref a) (.int i) H Q := ⟨a, xs, i, v, rfl, rfl, h1, h2, h⟩
theorem s_ixT {a : Addr} {xs : List V} (h1 : SqT K H a xs) (h2 : atI xs i = some v) (h : Q v H) : rIxT K (.ref a) (.int i) H Q := ⟨a, xs, i, v, rfl, rfl, h1, h2, h⟩
theorem s_gSub {s : TSet} (h : ta σ H fun o H1 => tb σ H1 fun i H2 => s o i v H2 fun H3 => nx σ H3) : gSub ta tb s v σ H nx := h
theorem s_forR1 (h : tt σ H (kRng1 fun J H1 => kFor J g t D σ H1)) : tFor (iRng1 tt) g t D σ H := h
theorem s_forR2 (h : tt σ H (kRng2 fun J H1 => kFor J g t D σ H1)) : tFor (iRng2 tt) g t D σ H := h
theorem s_forL (h : te σ H (kLst K fun J H1 => kFor J g t D σ H1)) : tFor (iList K te) g t D σ H := h
theorem s_forT (h : te σ H (kTup K fun J H1 => kFor J g t D σ H1)) : tFor (iTup K te) g t D σ H := h
variable {ws : List Nat}
theorem s_lcR1 (h : tt σ H (kRng1 fun J H1 => kLc J g c te ws σ Q H1)) : tLc (iRng1 tt) g c te ws σ H Q := h
theorem s_lcR2 (h : tt σ H (kRng2 fun J H1 => kLc J g c te ws σ Q H1)) : tLc (iRng2 tt) g c te ws σ H Q := h
theorem s_lcL (h : ta σ H (kLst K fun J H1 => kLc J g c te ws σ Q H1)) : tLc (iList K ta) g c te ws σ H Q := h
theorem s_kRng1 {R : It → Hp → Prop} (h1 : -(2 ^ 62) ≤ i) (h2 : i < 2 ^ 62) (h : R (Itr 0 i.toNat) H) : kRng1 R [.int i] H := ⟨i, rfl, h1, h2, h⟩
theorem s_kRng2 {R : It → Hp → Prop} (h1 : -(2 ^ 62) ≤ i) (h2 : i < 2 ^ 62) (h3 : -(2 ^ 62) ≤ j) (h4 : j < 2 ^ 62) (h : R (Itr i (j - i).toNat) H) : kRng2 R [.int i, .int j] H := ⟨i, j, rfl, ⟨h1, h2, h3, h4⟩, h⟩
theorem s_kLst {R : It → Hp → Prop} {a : Addr} {xs : List V} (h1 : SqL K H a xs) (h : R (Itl K a) H) : kLst K R (.ref a) H := ⟨a, rfl, ⟨xs, h1⟩, h⟩
theorem s_kTup {R : It → Hp → Prop} {a : Addr} {xs : List V} (h1 : SqT K H a xs) (h : R (Itt K a) H) : kTup K R (.ref a) H := ⟨a, rfl, ⟨xs, h1⟩, h⟩
theorem s_iteT {A B : Prop} (h : A) : if true = true then A else B := iteT h
theorem s_iteF {A B : Prop} (h : B) : if false = true then A else B := iteF h
theorem s_iteP {p A B : Prop} [Decidable p] (hp : p) (h : A) : if decide p = true then A else B := by rw [if_pos (decide_eq_true hp)]; exact h
theorem s_iteN {p A B : Prop} [Decidable p] (hp : ¬ p) (h : B) : if decide p = true then A else B := by rw [if_neg (by simpa using hp)]; exact h
theorem s_iteD {p A B : Prop} [Decidable p] (h1 : p → A) (h2 : ¬ p → B) : if decide p = true then A else B := by
  by_cases hp : p
  · exact s_iteP hp (h1 hp)
  · exact s_iteN hp (h2 hp)
/-- what a def gives -/
theorem s_parE {n m : Nat} (h : tt σ H fun vs H1 => ∃ v w, vs = [v, w] ∧ nx ((σ.set n (some v)).set m (some w)) H1) : tPar n m tt ⟨nx, rt, bk, ct⟩ σ H := h
def kPar (n m : Nat) (σ : St) (nx : St → Hp → Prop) : List V → Hp → Prop := fun vs H1 => ∃ v w, vs = [v, w] ∧ nx ((σ.set n (some v)).set m (some w)) H1
theorem s_par {n m : Nat} (h : tt σ H (kPar n m σ nx)) : tPar n m tt ⟨nx, rt, bk, ct⟩ σ H := h
theorem s_kPar {n m : Nat} {w : V} {σ1 : St} (s1 : SetAt σ n v σ1) (s2 : SetAt σ1 m w σ') (h : nx σ' H) : kPar n m σ nx [v, w] H := ⟨v, w, rfl, by rw [s1.eq, s2.eq]; exact h⟩
variable {W : List Addr} {H0 : Hp} {M M' I : List (Addr × HO)} {a b p : Addr} {xs zs : List V}
theorem s_newL (hs : Hs W H0 H M I) (hz : xs.length ≤ sizeLine) (h : ∀ p H', Hs W H0 H' ((p, .lst xs) :: M) I → Upto [] H H' → H p = none → Q (.ref p) H') : newL xs H Q :=
  ⟨hz, fun p hp => h p _ (hs.new hp _) (Upto.new hp) hp⟩
theorem s_newT (hs : Hs W H0 H M I) (hz : xs.length ≤ sizeLine) (h : ∀ p H', Hs W H0 H' ((p, .tup xs) :: M) I → Upto [] H H' → H p = none → Q (.ref p) H') : newT xs H Q :=
  ⟨hz, fun p hp => h p _ (hs.new hp _) (Upto.new hp) hp⟩
theorem s_setL {QH : Hp → Prop} (hs : Hs W H0 H M I) (h1 : H a = some (.lst xs)) (h2 : SetI xs i v zs) (r : Rep M a (.lst zs) M') (h : ∀ H', Hs W H0 H' M' I → Upto [a] H H' → QH H') : rSetL (.ref a) (.int i) v H QH := by
  obtain ⟨k, h2, h3⟩ := h2
  exact ⟨a, xs, i, k, rfl, rfl, h1, h2, by rw [h3]; exact h _ (hs.put r) (Upto.put (by simp))⟩
theorem s_cat (hs : Hs W H0 H M I) (h1 : H a = some (.lst xs)) (h2 : H b = some (.lst zs)) (hz : xs.length + zs.length ≤ sizeLine) (h : ∀ p H', Hs W H0 H' ((p, .lst (xs ++ zs)) :: M) I → Upto [] H H' → H p = none → Q (.ref p) H') : rCat (.ref a) (.ref b) H Q :=
  ⟨a, b, xs, zs, rfl, rfl, h1, h2, hz, fun p hp => h p _ (hs.new hp _) (Upto.new hp) hp⟩
theorem s_rep {k : Int} (hs : Hs W H0 H M I) (h1 : H a = some (.lst xs)) (hk : -(2 ^ 63) ≤ k ∧ k < 2 ^ 63) (hz : xs.length * k.toNat ≤ sizeLine) (h : ∀ p H', Hs W H0 H' ((p, .lst (List.replicate k.toNat xs).flatten) :: M) I → Upto [] H H' → H p = none → Q (.ref p) H') : rRep (.ref a) (.int k) H Q :=
  ⟨a, k, xs, rfl, rfl, h1, hk.1, hk.2, hz, fun p hp => h p _ (hs.new hp _) (Upto.new hp) hp⟩
/-- a slice -/
theorem s_sl {r : V → Option Int → Option Int → Hp → VK → Prop} {tl th : TO} (h : te σ H fun x H1 => tl σ H1 fun l H2 => th σ H2 fun u H3 => r x l u H3 Q) : tSl r te tl th σ H Q := h
theorem s_noPart {QO : Option Int → Hp → Prop} (h : QO none H) : tNoPart σ H QO := h
def kPart (QO : Option Int → Hp → Prop) : VK := fun x H1 => ∃ i, x = .int i ∧ QO (some i) H1
theorem s_part {QO : Option Int → Hp → Prop} (h : te σ H (kPart QO)) : tPart te σ H QO := h
theorem s_kPart {QO : Option Int → Hp → Prop} (h : QO (some i) H) : kPart QO (.int i) H := ⟨i, rfl, h⟩
theorem s_slL {lo hi : Option Int} (hs : Hs W H0 H M I) (h1 : SqL K H a xs) (h : ∀ p H', Hs W H0 H' ((p, .lst (cutV xs lo hi)) :: M) I → Upto [] H H' → H p = none → Q (.ref p) H') : rSlL K (.ref a) lo hi H Q :=
  ⟨a, xs, rfl, h1, fun p hp => h p _ (hs.new hp _) (Upto.new hp) hp⟩
/-- built-ins by name -/
def rLenS (K : PySem.W.Frag) : List V → Hp → VK → Prop := fun xs H Q => ∃ p ys, xs = [.ref p] ∧ (SqL K H p ys ∨ SqT K H p ys) ∧ Q (.int ys.length) H
theorem call_lenS {X : Cx} : CallR X (.builtin "len") (rLenS X.K) := call_len_seq
theorem s_lenL (h1 : SqL K H a xs) (h : Q (.int xs.length) H) : rLenS K [.ref a] H Q := ⟨a, xs, rfl, .inl h1, h⟩
theorem s_lenT (h1 : SqT K H a xs) (h : Q (.int xs.length) H) : rLenS K [.ref a] H Q := ⟨a, xs, rfl, .inr h1, h⟩
def rMax2 : List V → Hp → VK → Prop := fun xs H Q => ∃ i j, xs = [.int i, .int j] ∧ Q (.int (if j > i then j else i)) H
theorem call_max2' {X : Cx} (hc : X.calm = true) : CallR X (.builtin "max") rMax2 := call_max2 hc
theorem s_max2 (h : ∀ k : Int, (i ≤ k ∧ j ≤ k ∧ (k = i ∨ k = j)) → Q (.int k) H) : rMax2 [.int i, .int j] H Q := ⟨i, j, rfl, by
  apply h
  split <;> omega⟩
def rListOf (K : PySem.W.Frag) : List V → Hp → VK → Prop := fun xs H Q => ∃ p ys, xs = [.ref p] ∧ (SqL K H p ys ∨ SqT K H p ys) ∧ ∀ l, H l = none → Q (.ref l) (upd H l (.lst ys))
theorem call_listOf {X : Cx} : CallR X (.type "list") (rListOf X.K) := call_list_of
theorem s_listOf (hs : Hs W H0 H M I) (h1 : SqL K H a xs) (h : ∀ p H', Hs W H0 H' ((p, .lst xs) :: M) I → Upto [] H H' → H p = none → Q (.ref p) H') : rListOf K [.ref a] H Q :=
  ⟨a, xs, rfl, .inl h1, fun p hp => h p _ (hs.new hp _) (Upto.new hp) hp⟩
theorem s_isi {x c : V} {b : Bool} {t u : Value} (hc : ClsV c u) (ht : TyX K H x t) (hk : PySem.W.kitOne K t u = some b) (h : Q (.bl b) H) : rIsi K [x, c] H Q := ⟨x, c, t, u, b, rfl, hc, ht, hk, h⟩
/-- methods of lists -/
theorem s_bm0 {T : String} {r : V → List V → Hp → VK → Prop} (h : te σ H fun x H1 => tyV K T x H1 ∧ r x [] H1 Q) : tBM0 K T r te σ H Q := h
theorem s_bm {T : String} {r : V → List V → Hp → VK → Prop} (h : te σ H fun x H1 => tyV K T x H1 ∧ tt σ H1 fun xs H2 => r x xs H2 Q) : tBM K T r te tt σ H Q := h
theorem s_tyL {A : Prop} (h1 : SqL K H a xs) (h : A) : tyV K "list" (.ref a) H ∧ A := ⟨.inl ⟨rfl, _, h1⟩, h⟩
theorem s_clear (hs : Hs W H0 H M I) (h1 : H a = some (.lst xs)) (r : Rep M a (.lst []) M') (h : ∀ H', Hs W H0 H' M' I → Upto [a] H H' → Q .non H') : rClear (.ref a) [] H Q :=
  ⟨a, xs, rfl, rfl, h1, h _ (hs.put r) (Upto.put (by simp))⟩
theorem s_append (hs : Hs W H0 H M I) (h1 : H a = some (.lst xs)) (hz : xs.length < sizeLine) (r : Rep M a (.lst (xs ++ [v])) M') (h : ∀ H', Hs W H0 H' M' I → Upto [a] H H' → Q .non H') : rAppend (.ref a) [v] H Q :=
  ⟨a, xs, v, rfl, rfl, h1, hz, h _ (hs.put r) (Upto.put (by simp))⟩
theorem s_extend (hs : Hs W H0 H M I) (h1 : H a = some (.lst xs)) (h2 : H b = some (.lst zs)) (hz : xs.length + zs.length ≤ sizeLine) (r : Rep M a (.lst (xs ++ zs)) M') (h : ∀ H', Hs W H0 H' M' I → Upto [a] H H' → Q .non H') : rExtend (.ref a) [.ref b] H Q :=
  ⟨a, b, xs, zs, rfl, rfl, h1, h2, hz, h _ (hs.put r) (Upto.put (by simp))⟩
/-- tuples as targets -/
theorem s_gTup {t : TGs} (h1 : SqT K H a xs) (hn : xs.length = n) (h : t xs σ H nx) : gTup K n t (.ref a) σ H nx := ⟨a, xs, rfl, h1, hn, h⟩
theorem s_gCons {t : TG} {u : TGs} (h : t v σ H fun σ' H' => u vs σ' H' nx) : gCons t u (v :: vs) σ H nx := ⟨v, vs, rfl, h⟩
theorem s_gNil (h : nx σ H) : gNil [] σ H nx := ⟨rfl, h⟩
/-- a for over a range, a list -/
theorem f_range {lo : Int} (Pv : Nat → St → Hp → Prop) (h0 : Pv 0 σ H)
    (hs : ∀ i σ H, i < n → Pv i σ H → g (.int (lo + i)) σ H fun σ2 H2 => t ⟨Pv (i + 1), rt, nx, Pv (i + 1)⟩ σ2 H2) (hd : ∀ σ H, Pv n σ H → nx σ H) : kFor (Itr lo n) g t ⟨nx, rt, bk, ct⟩ σ H := for_range Pv h0 hs hd
theorem f_list (Pv : Nat → St → Hp → Prop) (h0 : Pv 0 σ H) (hl : ∀ i σ H, i ≤ xs.length → Pv i σ H → SqL K H a xs)
    (hs : ∀ i x σ H, xs[i]? = some x → Pv i σ H → g x σ H fun σ2 H2 => t ⟨Pv (i + 1), rt, nx, Pv (i + 1)⟩ σ2 H2) (hd : ∀ σ H, Pv xs.length σ H → nx σ H) : kFor (Itl K a) g t ⟨nx, rt, bk, ct⟩ σ H := for_list Pv h0 hl hs hd
end

/-! ### the law's script, and how a body starts -/
def ScrL (K : PySem.W.Frag) (sc : Addr) (ns : List Int) (S : List (Addr × HO)) : Prop := ∀ H : Hp, Holds H S → SqL K H sc (ns.map V.int)
section
variable {W : List Addr} {H0 H H' : Hp} {M M' S I : List (Addr × HO)} {a p r sc : Addr} {o o' : HO} {K : PySem.W.Frag} {ns : List Int}
theorem ScrL.of (h : SqL K H sc (ns.map V.int)) : ∃ S, ScrL K sc ns S ∧ Holds H S := by
  rcases h with (h | ⟨o, h⟩) | h
  · exact ⟨[(sc, _)], fun H' hh => .inl (.inl (hh.at_ _ List.mem_cons_self)), Holds.one h⟩
  · exact ⟨[(sc, _)], fun H' hh => .inl (.inr ⟨o, hh.at_ _ List.mem_cons_self⟩), Holds.one h⟩
  · exact ⟨[], fun H' _ => .inr h, Holds.nil⟩
theorem Hs.holdsI (h : Hs W H0 H M I) : Holds H I :=
  ⟨by have := h.nd; rw [List.map_append, List.nodup_append] at this; exact this.2.1, fun x hx => h.at_ x (List.mem_append_right _ hx)⟩
theorem Hs.scr (h : Hs W H0 H M S) (s : ScrL K sc ns S) : SqL K H sc (ns.map V.int) := s H h.holdsI
theorem Hs.row (h : Hs W H0 H M S) (m : (r, o) ∈ M) : Holds H ((r, o) :: S) := by
  refine ⟨?_, fun x hx => ?_⟩
  · have nd := h.nd
    rw [List.map_append, List.nodup_append] at nd
    rw [List.map_cons, List.nodup_cons]
    refine ⟨fun z => nd.2.2 r (List.mem_map_of_mem (f := Prod.fst) m) r z rfl, nd.2.1⟩
  · rcases List.mem_cons.mp hx with e | hx
    · rw [e]
      exact h.at_ _ (List.mem_append_left _ m)
    · exact h.at_ x (List.mem_append_right _ hx)
theorem Hs.start0 : Hs [] H H [] [] := ⟨Upto.refl _ _, List.nodup_nil, fun _ h => (nomatch h), fun _ h => (nomatch h)⟩
theorem Hs.startI (h : Holds H I) : Hs [] H H [] I := ⟨Upto.refl _ _, h.nd, h.at_, fun _ h => (nomatch h)⟩
theorem Hs.start1 (h : Holds H ((r, o) :: I)) : Hs [r] H H [(r, o)] I := ⟨Upto.refl _ _, h.nd, h.at_, fun x hx => .inl (by
  obtain rfl : x = (r, o) := by simpa using hx
  simp)⟩
theorem Hs.startM {M : List (Addr × HO)} (h : Holds H (M ++ I)) : Hs (M.map Prod.fst) H H M I := ⟨Upto.refl _ _, h.nd, h.at_, fun _ hx => .inl (List.mem_map_of_mem hx)⟩
end

theorem atI_int {α : Type} {xs : List α} {i : Int} (h0 : 0 ≤ i) (h1 : i < xs.length) : ∃ x, atI xs i = some x ∧ xs[i.toNat]? = some x := by
  obtain ⟨n, rfl⟩ : ∃ n : Nat, i = (n : Int) := ⟨i.toNat, by omega⟩
  have hl : n < xs.length := by omega
  exact ⟨xs[n], atI_nat (List.getElem?_eq_getElem hl), List.getElem?_eq_getElem hl⟩
theorem atI_ints {ns : List Int} {i : Int} (h0 : 0 ≤ i) (h1 : i < ns.length) : ∃ v, atI (ns.map V.int) i = some (V.int v) := by
  obtain ⟨x, h, e⟩ := atI_int (xs := ns.map V.int) h0 (by rw [List.length_map]; exact h1)
  rw [List.getElem?_map] at e
  cases q : ns[i.toNat]? with
  | none => rw [q] at e; cases e
  | some u =>
    rw [q] at e
    exact ⟨u, by rw [h]; exact e.symm⟩

/-! ### data, types, comprehensions -/
theorem SqL.tyx {K : PySem.W.Frag} {H : Hp} {a : Addr} {xs : List V} (h : SqL K H a xs) : TyX K H (.ref a) (.type "list") := by
  rcases h with (h | ⟨o, h⟩) | ⟨o, its, n, hk, hc, _⟩
  · exact .base (.lst h)
  · exact .base (.frz h)
  · exact .kList hk hc
theorem SqT.tyx {K : PySem.W.Frag} {H : Hp} {a : Addr} {xs : List V} (h : SqT K H a xs) : TyX K H (.ref a) (.type "tuple") := by
  rcases h with (h | ⟨o, h⟩) | ⟨o, its, n, hk, hc, _⟩
  · exact .base (.tup h)
  · exact .fTuple h
  · exact .kTuple hk hc
theorem same_seqT {K : PySem.W.Frag} {H H' : Hp} {a : Addr} {xs : List V} (e : Same H H') (h : SqT K H a xs) : SqT K H' a xs := by
  rcases h with (h | ⟨o, h⟩) | h
  · exact .inl (.inl (e _ _ h))
  · exact .inl (.inr ⟨o, e _ _ h⟩)
  · exact .inr h
mutual
theorem Dp.same {K : PySem.W.Frag} {H H' : Hp} (e : Same H H') : ∀ {v : V} {d : PyData}, Dp K H v d → Dp K H' v d
  | _, _, .non => .non
  | _, _, .bl b => .bl b
  | _, _, .int i => .int i
  | _, _, .str x => .str x
  | _, _, .lst s a => .lst (e.seq s) (DpAll.same e a)
  | _, _, .tup s a => .tup (same_seqT e s) (DpAll.same e a)
theorem DpAll.same {K : PySem.W.Frag} {H H' : Hp} (e : Same H H') : ∀ {vs : List V} {ds : List PyData}, DpAll K H vs ds → DpAll K H' vs ds
  | _, _, .nil => .nil
  | _, _, .cons h t => .cons (Dp.same e h) (DpAll.same e t)
end
theorem DpAll.len {K : PySem.W.Frag} {H : Hp} : ∀ {vs : List V} {ds : List PyData}, DpAll K H vs ds → vs.length = ds.length
  | _, _, .nil => rfl
  | _, _, .cons _ t => by simp [DpAll.len t]
theorem DpAll.get {K : PySem.W.Frag} {H : Hp} : ∀ {vs : List V} {ds : List PyData} {i : Nat} {d : PyData}, DpAll K H vs ds → ds[i]? = some d → ∃ v, vs[i]? = some v ∧ Dp K H v d
  | _, _, _, _, .nil, e => by simp at e
  | _, _, 0, _, .cons h _, e => by
    simp at e
    subst e
    exact ⟨_, rfl, h⟩
  | _, _, i + 1, _, .cons _ t, e => by
    obtain ⟨v, h1, h2⟩ := DpAll.get (i := i) t (by simpa using e)
    exact ⟨v, by simpa using h1, h2⟩
theorem DpAll.ints {K : PySem.W.Frag} {H : Hp} : ∀ ns : List Int, DpAll K H (ns.map V.int) (ns.map PyData.int)
  | [] => .nil
  | n :: ns => .cons (.int n) (DpAll.ints ns)
theorem Dp.ints {K : PySem.W.Frag} {H : Hp} {a : Addr} {ns : List Int} (h : SqL K H a (ns.map V.int)) : Dp K H (.ref a) (.list (ns.map PyData.int)) := .lst h (DpAll.ints ns)
/-- data of a shape: n deep, no long lists -/
inductive Sh : Nat → PyData → Prop
  | non {n : Nat} : Sh (n + 1) .none
  | bl {n : Nat} (b : Bool) : Sh (n + 1) (.bool b)
  | int {n : Nat} (i : Int) : Sh (n + 1) (.int i)
  | str {n : Nat} (x : Str) : Sh (n + 1) (.str x)
  | lst {n : Nat} {ds : List PyData} (h : ds.length ≤ 100000) (a : ∀ d ∈ ds, Sh n d) : Sh (n + 1) (.list ds)
  | tup {n : Nat} {ds : List PyData} (h : ds.length ≤ 100000) (a : ∀ d ∈ ds, Sh n d) : Sh (n + 1) (.tuple ds)
theorem Sh.ints {n : Nat} {ns : List Int} (h : ns.length ≤ 100000) : Sh (n + 2) (.list (ns.map PyData.int)) := .lst (by rw [List.length_map]; exact h) fun d hd => by
  obtain ⟨i, _, rfl⟩ := List.mem_map.mp hd
  exact .int i
theorem eqv_ints (ns : List Int) : PyData.eqvAll (ns.map PyData.int) (ns.map PyData.int) = true := by
  induction ns with
  | nil => rfl
  | cons n ns ih =>
    rw [List.map_cons, PyData.eqvAll, ih]
    simp [PyData.eqv]
theorem lay_ints (ns : List Int) : PyData.canLayAll0 (ns.map PyData.int) = true := by
  induction ns with
  | nil => rfl
  | cons n ns ih =>
    rw [List.map_cons, PyData.canLayAll0, ih]
    rfl
theorem dep_ints (ns : List Int) : PyData.depthAll (ns.map PyData.int) = 0 := by
  induction ns with
  | nil => rfl
  | cons n ns ih =>
    rw [List.map_cons, PyData.depthAll, ih]
    rfl
theorem shaped_ints (ns : List Int) : SeqAt.shaped (.list (ns.map PyData.int)) = true := by
  unfold SeqAt.shaped
  rw [PyData.canLay0, lay_ints, PyData.depth, dep_ints]
  rfl
def kAcc (D : Addr) (P : Hp → Prop) : VK := fun y H4 => ∃ acc, H4 D = some (.lst acc) ∧ acc.length < sizeLine ∧ P (upd H4 D (.lst (acc ++ [y])))
section
variable {σ : St} {H H' : Hp} {g : TG} {tt : TT} {te : TE} {Q : VK} {n v : Nat} {lo : Int} {K : PySem.W.Frag} {a b D : Addr} {xs acc : List V} {P : Hp → Prop} {y : V} {W : List Addr} {H0 : Hp} {M M' I : List (Addr × HO)} {QB : Bool → Hp → Prop} {ns ms : List Int}
theorem wipe1 (σ : St) (v : Nat) (x : V) : (wipe σ [v]).set v (some x) = σ.set v (some x) := by
  show (σ.set v none).set v (some x) = _
  rw [List.set_set]
theorem wipe2 (σ : St) (v : Nat) (x : V) : wipe (σ.set v (some x)) [v] = wipe σ [v] := by
  show (σ.set v (some x)).set v none = σ.set v none
  rw [List.set_set]
theorem f_lcR (h : ∀ D, H D = none → ∃ Pv : Nat → Hp → Prop, Pv 0 (upd H D (.lst [])) ∧
    (∀ i H, i < n → Pv i H → gName v (.int (lo + i)) σ H fun σ2 H2 => tt σ2 H2 fun b H3 => if b = true then te σ2 H3 (kAcc D (Pv (i + 1))) else Pv (i + 1) H3) ∧ ∀ H, Pv n H → Q (.ref D) H) : kLc (Itr lo n) (gName v) tt te [v] σ Q H := by
  intro D hD
  obtain ⟨Pv, h0, hs, hd⟩ := h D hD
  refine lc_range (Qd := fun H => Q (.ref D) H) Pv h0 (fun i H hi p => ?_) hd
  have q := hs i H hi p
  unfold gName at q ⊢
  rw [wipe1]
  exact ⟨wipe2 _ _ _, q⟩
theorem f_lcL (h : ∀ D, H D = none → ∃ Pv : Nat → Hp → Prop, Pv 0 (upd H D (.lst [])) ∧ (∀ i H, i ≤ xs.length → Pv i H → SqL K H a xs) ∧
    (∀ i x H, xs[i]? = some x → Pv i H → gName v x σ H fun σ2 H2 => tt σ2 H2 fun b H3 => if b = true then te σ2 H3 (kAcc D (Pv (i + 1))) else Pv (i + 1) H3) ∧ ∀ H, Pv xs.length H → Q (.ref D) H) : kLc (Itl K a) (gName v) tt te [v] σ Q H := by
  intro D hD
  obtain ⟨Pv, h0, hl, hs, hd⟩ := h D hD
  refine lc_list (Qd := fun H => Q (.ref D) H) Pv h0 hl (fun i x H hx p => ?_) hd
  have q := hs i x H hx p
  unfold gName at q ⊢
  rw [wipe1]
  exact ⟨wipe2 _ _ _, q⟩
theorem s_acc (hs : Hs W H0 H M I) (h1 : H D = some (.lst acc)) (hz : acc.length < sizeLine) (r : Rep M D (.lst (acc ++ [y])) M') (h : ∀ H', Hs W H0 H' M' I → Upto [D] H H' → P H') : kAcc D P y H :=
  ⟨acc, h1, hz, h _ (hs.put r) (Upto.put (by simp))⟩
theorem s_yes (h : QB true H) : tYes σ H QB := h
theorem s_isiT {x : V} {tp : Addr} {cs : List V} {t : Value} {us : List Value} {b : Bool} (h1 : H tp = some (.tup cs)) (h2 : Paired ClsV cs us) (ht : TyX K H x t) (hk : PySem.W.kitAny K t us = some b) (h : Q (.bl b) H) : rIsiT K [x, .ref tp] H Q := ⟨x, tp, cs, t, us, b, rfl, h1, h2, ht, hk, h⟩
theorem s_neB {b c : Bool} (h : Q (.bl (decide (b ≠ c))) H) : rNe (.bl b) (.bl c) H Q := ⟨rfl, by
  have e : (!decide (V.bl b = V.bl c)) = decide (b ≠ c) := by cases b <;> cases c <;> rfl
  rw [e]; exact h⟩
theorem s_eqB {b c : Bool} (h : Q (.bl (decide (b = c))) H) : rEq (.bl b) (.bl c) H Q := ⟨rfl, by
  have e : decide (V.bl b = V.bl c) = decide (b = c) := by cases b <;> cases c <;> rfl
  rw [e]; exact h⟩
theorem s_eqS {x z : Str} (h : Q (.bl (decide (x = z))) H) : rEq (.str x) (.str z) H Q := ⟨rfl, by
  have e : decide (V.str x = V.str z) = decide (x = z) := by
    by_cases q : x = z
    · rw [q]; simp
    · rw [decide_eq_false q, decide_eq_false (fun z => q (V.str.inj z))]
  rw [e]; exact h⟩
theorem s_neS {x z : Str} (h : Q (.bl (decide (x ≠ z))) H) : rNe (.str x) (.str z) H Q := ⟨rfl, by
  have e : (!decide (V.str x = V.str z)) = decide (x ≠ z) := by
    by_cases q : x = z
    · rw [q]; simp
    · rw [decide_eq_true q, decide_eq_false (fun z => q (V.str.inj z))]; rfl
  rw [e]; exact h⟩
def rIsN' : R2 := fun x y H Q => y = .non ∧ Q (.bl (decide (x = .non))) H
theorem op_isN' {X : Cx} : OpR X (compareOp .Is) rIsN' := op_isN
def rNotN' : R2 := fun x y H Q => y = .non ∧ Q (.bl (!decide (x = .non))) H
theorem op_notN' {X : Cx} : OpR X (compareOp .IsNot) rNotN' := op_notN
theorem s_isN {x : V} (h : Q (.bl (decide (x = .non))) H) : rIsN' x .non H Q := ⟨rfl, h⟩
theorem s_notN {x : V} (h : Q (.bl (decide (x ≠ .non))) H) : rNotN' x .non H Q := ⟨rfl, by rw [← decide_not]; exact h⟩
theorem s_iteNP {p A B : Prop} [Decidable p] (hp : p) (h : B) : if (!decide p) = true then A else B := by rw [if_neg (by simpa using hp)]; exact h
theorem s_iteNN {p A B : Prop} [Decidable p] (hp : ¬ p) (h : A) : if (!decide p) = true then A else B := by rw [if_pos (by simpa using hp)]; exact h
theorem s_iteNT {A B : Prop} (h : B) : if (!true) = true then A else B := iteF h
theorem s_iteNF {A B : Prop} (h : A) : if (!false) = true then A else B := iteT h
/-- lists of ints that are equal, that are not -/
theorem s_eqDL (ha : SqL K H a (ns.map V.int)) (hb : SqL K H b (ns.map V.int)) (h : Q (.bl true) H) : rEqD K (.ref a) (.ref b) H Q :=
  ⟨_, _, Dp.ints ha, Dp.ints hb, shaped_ints ns, shaped_ints ns, by rw [PyData.eqv, eqv_ints]; exact h⟩
theorem s_neDL (ha : SqL K H a (ns.map V.int)) (hb : SqL K H b (ns.map V.int)) (h : Q (.bl false) H) : rNeD K (.ref a) (.ref b) H Q :=
  ⟨_, _, Dp.ints ha, Dp.ints hb, shaped_ints ns, shaped_ints ns, by rw [PyData.eqv, eqv_ints]; exact h⟩
end
/-- a new object comes back -/
def NewO (o : HO) (H : Hp) (Q : VK) : Prop := ∀ p H', Upto [] H H' → H p = none → H' p = some o → Q (.ref p) H'
section
variable {W : List Addr} {H0 H H' : Hp} {M I : List (Addr × HO)} {o : HO} {Q : VK} {p : Addr}
theorem Hs.newO (hs : Hs W H0 H M I) (h : ∀ p H', Hs W H0 H' ((p, o) :: M) I → Upto [] H H' → H p = none → Q (.ref p) H') : NewO o H Q :=
  fun p H' u hp hq => h p H' (hs.add (hs.call0 u) rfl hp hq) u hp
theorem NewO.end_ {Hq : Hp} (k : NewO o H0 Q) (hn : Hq p = none) (hs0 : Hs [] H0 Hq M I) {M' I' : List (Addr × HO)} (hs : Hs [] H0 H' M' I') (hp : H' p = some o) : Q (.ref p) H' :=
  k p H' hs.up (hs0.free hn (by simp)) hp
end

/-! ### the rules that read the written part, with that part as a letter -/
section
variable {X : Cx} {K : PySem.W.Frag} {e o value : Expr} {es : List Expr} {te ta tv to : TE} {t : TA} {f name : Str} {pos pos' tpos apos cpos : Pos} {tg l : Expr} {T id : String} {r : V → List V → Hp → VK → Prop}
theorem ix_listK (hK : X.K = K := by rfl) : IxR X (rIxL K) := by subst hK; exact ix_list
theorem ix_tupK (hK : X.K = K := by rfl) : IxR X (rIxT K) := by subst hK; exact ix_tup
theorem call_lenK (hK : X.K = K := by rfl) : CallR X (.builtin "len") (rLenS K) := by subst hK; exact call_lenS
theorem call_listOfK (hK : X.K = K := by rfl) : CallR X (.type "list") (rListOf K) := by subst hK; exact call_listOf
theorem call_isiK' (hK : X.K = K := by rfl) : CallR X (.builtin "isinstance") (rIsi K) := by subst hK; exact call_isi
theorem call_isiTK (hK : X.K = K := by rfl) : CallR X (.builtin "isinstance") (rIsiT K) := by subst hK; exact call_isiT
theorem op_eqDK (hu : X.A.units + 64 < cLine) (hK : X.K = K := by rfl) : OpR X (compareOp .Eq) (rEqD K) := by subst hK; exact op_eqD hu
theorem op_neDK (hu : X.A.units + 64 < cLine) (hK : X.K = K := by rfl) : OpR X (compareOp .NotEq) (rNeD K) := by subst hK; exact op_neD hu
theorem op_inK (hK : X.K = K := by rfl) : OpR X (compareOp .In) (rIn K false) := by subst hK; exact op_in_seq
theorem op_notInK (hK : X.K = K := by rfl) : OpR X (compareOp .NotIn) (rIn K true) := by subst hK; exact op_notIn_seq
theorem op_catTK (hK : X.K = K := by rfl) : OpR X (binaryOp .Add) (rCatT K) := by subst hK; exact op_catT
theorem sl_listK (hK : X.K = K := by rfl) : SlR X (rSlL K) := by subst hK; exact sl_list
theorem cr_maxK (hc : X.calm = true) (hK : X.K = K := by rfl) : CallR X (.builtin "max") (rMax K) := by subst hK; exact cr_max hc
theorem cr_minK (hc : X.calm = true) (hK : X.K = K := by rfl) : CallR X (.builtin "min") (rMin K) := by subst hK; exact cr_min hc
theorem cr_allK (hc : X.calm = true) (hK : X.K = K := by rfl) : CallR X (.builtin "all") (rAll K) := by subst hK; exact cr_all hc
theorem pi_listK (hl : PE X l te) (hK : X.K = K := by rfl) : PI X tg l (iList K te) := by subst hK; exact pi_list hl
theorem pi_tupK (hl : PE X l te) (hK : X.K = K := by rfl) : PI X tg l (iTup K te) := by subst hK; exact pi_tup hl
theorem pg_tupK {k : Nat} {tt : TGs} {n : Nat} (hc : X.calm = true) (h : PGs X es tt) (hK : X.K = K := by rfl)
    (hn : (assignEach es X.env).length = n := by rfl) (hst : (assignEach es X.env).findIdx? (·.1) = none := by rfl) : PG X (.Tuple es k pos) (gTup K n tt) := by subst hK; exact pg_tup hc h hn hst
theorem pa_starK {p : Pos} (he : PE X e te) (hr : PA X es t) (hK : X.K = K := by rfl) (hs : starEach (.Starred e p :: es) X.env = (true, eval e X.env) :: starEach es X.env := by rfl) : PA X (.Starred e p :: es) (tStar K te t) := by subst hK; exact pa_star he hr hs
theorem pe_fldK (he : PE X e ta) (hb : attributeBase e f X.env (eval e X.env) = eval e X.env) (hK : X.K = K := by rfl) : PE X (.Attribute e f pos) (tFld K ta f) := by subst hK; exact pe_fld he hb
theorem ps_fldK (ha : PE X o ta) (hv : PE X value tv) (hs : swapsWith value (some (.Attribute o f pos')) pos.line X.env = pure false) (hK : X.K = K := by rfl) : PS X (.Assign [.Attribute o f pos'] value pos) (sFld K ta tv f) := by subst hK; exact ps_fld ha hv hs
theorem ps_fldaugK {op : Operator} {rd : V → V → Hp → VK → Prop} (ha : PE X o ta) (hv : PE X value tv) (hop : InOp X op rd) (hK : X.K = K := by rfl) : PS X (.AugAssign (.Attribute o f tpos) op value pos) (sFldAug K ta tv rd f) := by subst hK; exact ps_fldaug ha hv hop
theorem pe_bm0K (pa : PlainAttrs T) (slot : Slot T name id) (hty : typeOf (.builtin id) = pure (.type "method_descriptor")) (hm : MtR X id r) (ho : PE X o to) (hK : X.K = K := by rfl)
    (hbase : attributeBase o name X.env (eval o X.env) = eval o X.env := by rfl) (hline : (apos.endLine == cpos.line) = true := by rfl) : PE X (.Call (.Attribute o name apos) [] [] cpos) (tBM0 K T r to) := by subst hK; exact pe_bm0 pa slot hty hm ho hbase hline
theorem pe_bmK (pa : PlainAttrs T) (slot : Slot T name id) (hty : typeOf (.builtin id) = pure (.type "method_descriptor")) (hm : MtR X id r) (ho : PE X o to) (ha : PA X (e :: es) t) (hK : X.K = K := by rfl)
    (hbase : attributeBase o name X.env (eval o X.env) = eval o X.env := by rfl)
    (hfew : ((backTo cpos (starEach (e :: es) X.env)).all (fun x => !x.1) && (backToKw cpos (keywordEach [] X.env)).all (fun x => x.1.isSome)
      && decide ((e :: es).length + ([] : List Keyword).length + (if ([] : List Keyword).isEmpty then 0 else 1) < 30)) = true := by rfl)
    (hline : (apos.endLine == cpos.line) = true := by rfl) (hs : starEach (e :: es) X.env = (false, eval e X.env) :: starEach es X.env := by rfl) (hplain : (backTo cpos (starEach es X.env)).any (·.1) = false := by rfl) :
    PE X (.Call (.Attribute o name apos) (e :: es) [] cpos) (tBM K T r to t) := by subst hK; exact pe_bm pa slot hty hm ho ha hbase hfew hline hs hplain
end

theorem kitTL_list {K : PySem.W.Frag} : PySem.W.kitAny K (.type "list") [.type "tuple", .type "list"] = some true :=
  kitAny_cons (b := false) (kit_ty (by decide +kernel)) (fun _ => kitAny_cons (b := true) (kit_ty (by decide +kernel)) (fun z => nomatch z) fun _ => rfl) fun z => nomatch z
theorem kitTL_tuple {K : PySem.W.Frag} : PySem.W.kitAny K (.type "tuple") [.type "tuple", .type "list"] = some true :=
  kitAny_cons (b := true) (kit_ty (by decide +kernel)) (fun z => nomatch z) fun _ => rfl
theorem s_eqDnil {K : PySem.W.Frag} {H : Hp} {a b : Addr} {Q : VK} (ha : H a = some (.lst [])) (hb : H b = some (.lst [])) (h : Q (.bl true) H) : rEqD K (.ref a) (.ref b) H Q :=
  s_eqDL (ns := []) (SqL.of ha) (SqL.of hb) h

/-- an item of a list or a tuple -/
def rIxA (K : PySem.W.Frag) : R2 := fun x y H Q => rIxL K x y H Q ∨ rIxT K x y H Q
theorem ix_anyK {X : Cx} {K : PySem.W.Frag} (hK : X.K = K := by rfl) : IxR X (rIxA K) := by subst hK; exact ix_list.or ix_tup
theorem s_ixAL {K : PySem.W.Frag} {H : Hp} {Q : VK} {a : Addr} {xs : List V} {i : Int} {v : V} (h1 : SqL K H a xs) (h2 : atI xs i = some v) (h : Q v H) : rIxA K (.ref a) (.int i) H Q := .inl ⟨a, xs, i, v, rfl, rfl, h1, h2, h⟩
theorem s_ixAT {K : PySem.W.Frag} {H : Hp} {Q : VK} {a : Addr} {xs : List V} {i : Int} {v : V} (h1 : SqT K H a xs) (h2 : atI xs i = some v) (h : Q v H) : rIxA K (.ref a) (.int i) H Q := .inr ⟨a, xs, i, v, rfl, rfl, h1, h2, h⟩

/-! ### what a callee leaves, seen by the caller -/
section
variable {W : List Addr} {H0 H H' : Hp} {M M' N I S : List (Addr × HO)} {r : Addr} {o' : HO}
theorem Hs.sub (h : Hs W H0 H M I) (s : M'.Sublist M) : Hs W H0 H M' I :=
  ⟨h.up, List.Nodup.sublist ((s.append (List.Sublist.refl I)).map Prod.fst) h.nd, fun x hx => h.at_ x ((s.append (List.Sublist.refl I)).subset hx), fun x hx => h.mu x (s.subset hx)⟩
theorem Hs.frame (hc : Hs [r] H H' (N ++ [(r, o')]) S) (h : Hs W H0 H M S) (rp : Rep M r o' M') : Hs W H0 H' (N ++ M') S := by
  have e : H' r = some o' := hc.at_ (r, o') (by simp)
  have h1 : Hs W H0 H' M' S := h.call1 hc.up e rp
  have nr : ∀ x ∈ N, x.1 ≠ r := fun x hx q => by
    have nd := hc.nd
    simp only [List.map_append, List.map_cons, List.map_nil, List.append_assoc, List.nodup_append] at nd
    exact nd.2.2 x.1 (List.mem_map_of_mem (f := Prod.fst) hx) r (by simp) q
  have fr : ∀ x ∈ N, H x.1 = none := fun x hx => by
    rcases hc.mu x (List.mem_append_left _ hx) with w | w
    · exact absurd (by simpa using w) (nr x hx)
    · exact w
  have hM := h.holds
  refine ⟨h1.up, ?_, fun x hx => ?_, fun x hx => ?_⟩
  · have n1 := hc.nd
    have n2 := h1.nd
    rw [List.append_assoc, List.map_append, List.nodup_append]
    refine ⟨?_, n2, fun a ha b hb q => ?_⟩
    · rw [List.append_assoc, List.map_append, List.nodup_append] at n1
      exact n1.1
    · obtain ⟨x, hx, rfl⟩ := List.mem_map.mp ha
      have hb' : b ∈ (M ++ S).map Prod.fst := by
        rw [List.map_append, ← rp.fst, ← List.map_append]
        exact hb
      rw [← q] at hb'
      exact hM.fresh (fr x hx) hb'
  · rw [List.append_assoc] at hx
    rcases List.mem_append.mp hx with hx | hx
    · exact hc.at_ x (List.mem_append_left _ (List.mem_append_left _ hx))
    · exact h1.at_ x hx
  · rcases List.mem_append.mp hx with hx | hx
    · by_cases hw : x.1 ∈ W
      · exact .inl hw
      · exact .inr (Holds.uptoNew h.up (fr x hx) hw)
    · exact h1.mu x hx
end
theorem s_ixPick {K : PySem.W.Frag} {H : Hp} {Q : VK} {a : Addr} {xs : List V} {i : Int} (h1 : SqL K H a xs) (h2 : 0 ≤ i) (h3 : i < xs.length) (h : ∀ x, x ∈ xs → Q x H) : rIxL K (.ref a) (.int i) H Q := by
  obtain ⟨x, e, ex⟩ := atI_int (xs := xs) h2 h3
  exact ⟨a, xs, i, x, rfl, rfl, h1, e, h x (List.mem_of_getElem? ex)⟩

/-! ### slices of lists of ints -/
def cutI (ns : List Int) (lo hi : Option Int) : List Int := (ns.drop (HT.sIx ns.length 0 lo)).take (HT.sIx ns.length ns.length hi - HT.sIx ns.length 0 lo)
theorem cutV_ints (ns : List Int) (lo hi : Option Int) : cutV (ns.map V.int) lo hi = (cutI ns lo hi).map V.int := by
  unfold cutV cutI
  rw [List.length_map, List.map_take, List.map_drop]
theorem sIx_in {n d : Nat} {p : Int} (h0 : 0 ≤ p) (h1 : p ≤ n) : HT.sIx n d (some p) = p.toNat := by
  obtain ⟨k, rfl⟩ : ∃ k : Nat, p = (k : Int) := ⟨p.toNat, by omega⟩
  rw [HT.sIx_nat]
  omega
theorem cutI_upto {ns : List Int} {p : Int} (h0 : 0 ≤ p) (h1 : p ≤ ns.length) : cutI ns none (some p) = ns.take p.toNat := by
  unfold cutI
  rw [sIx_in h0 h1, HT.sIx_none, List.drop_zero, Nat.sub_zero]
theorem cutI_from {ns : List Int} {p : Int} (h0 : 0 ≤ p) (h1 : p ≤ ns.length) : cutI ns (some p) none = ns.drop p.toNat := by
  unfold cutI
  rw [sIx_in h0 h1, HT.sIx_none]
  exact List.take_of_length_le (by rw [List.length_drop]; exact Nat.le_refl _)
theorem eight {ws : List Int} (h : ws.length = 8) : ∃ a b c d e f g i, ws = [a, b, c, d, e, f, g, i] :=
  match ws, h with
  | [a, b, c, d, e, f, g, i], _ => ⟨a, b, c, d, e, f, g, i, rfl⟩
theorem mix8 {ws zs : List Int} {p : Int} (h1 : ws.length = 8) (h2 : zs.length = 8) (h0 : 0 ≤ p) (hp : p ≤ 8) : ∃ a b c d e f g i, cutV (ws.map V.int) none (some p) ++ cutV (zs.map V.int) (some p) none = [V.int a, V.int b, V.int c, V.int d, V.int e, V.int f, V.int g, V.int i] := by
  have hl : (ws.take p.toNat ++ zs.drop p.toNat).length = 8 := by
    rw [List.length_append, List.length_take, List.length_drop]
    omega
  obtain ⟨a, b, c, d, e, f, g, i, q⟩ := eight hl
  refine ⟨a, b, c, d, e, f, g, i, ?_⟩
  rw [cutV_ints, cutV_ints, cutI_upto h0 (by omega), cutI_from h0 (by omega), ← List.map_append, q]
  rfl
theorem s_repI {W : List Addr} {H0 H : Hp} {M I : List (Addr × HO)} {a : Addr} {z k : Int} {Q : VK} (hs : Hs W H0 H M I) (h1 : H a = some (.lst [.int z])) (hk : 0 ≤ k ∧ k ≤ 100000) (h : ∀ p H', Hs W H0 H' ((p, .lst ((List.replicate k.toNat z).map V.int)) :: M) I → Upto [] H H' → H p = none → Q (.ref p) H') : rRep (.ref a) (.int k) H Q := by
  refine s_rep hs h1 (by omega) (by rw [sizeLine_eq]; simp; omega) ?_
  have e : (List.replicate k.toNat [V.int z]).flatten = (List.replicate k.toNat z).map V.int := by
    simp
  rw [e]
  exact h

theorem len_app {xs ys : List V} {a b : Nat} (h1 : xs.length ≤ a) (h2 : ys.length ≤ b) : (xs ++ ys).length ≤ a + b := by rw [List.length_append]; omega
theorem len_cut {xs : List V} {lo hi : Option Int} {a : Nat} (h1 : xs.length ≤ a) : (cutV xs lo hi).length ≤ a := Nat.le_trans (cutV_length _ _ _) h1

theorem none_left {P : Program} {w : World} {K : PySem.W.Frag} {mg : Str → Option Value} {base : Heap} {f : Addr} {fd : FuncData} {ps : List Str} {sp : Sp} (no : ∀ vs H Q E, ¬ sp vs H Q E) : FnOk P w K mg base CX0 0 f fd ps sp :=
  ⟨fun vs H Q E h => absurd h (no vs H Q E), fun A outer s H args us vs Q E _ _ _ _ h => absurd h (no vs H Q E)⟩

/-! ### while; ranges by a step; lists of lists -/
def kWh (m : Nat) (Pv : Nat → St → Hp → Prop) (t : TS) (nx : St → Hp → Prop) (rt : VK) : St → Hp → Prop := fun σ H1 => ∃ N : St → Hp → Prop, (∀ σ' H', N σ' H' → ∃ m', m' < m ∧ Pv m' σ' H') ∧ t ⟨N, rt, nx, N⟩ σ H1
def kRng3 (R : It → Hp → Prop) : List V → Hp → Prop := fun vs H1 => ∃ (i j c : Int) (n : Nat), vs = [.int i, .int j, .int c] ∧ RgC i j c n ∧ R (Itc i c n) H1
theorem rgc3 {j : Int} (h0 : 0 ≤ j) (h1 : j < 2 ^ 60) : RgC 0 j 3 ((j + 2) / 3).toNat := by
  have e : Builtin.Range.rangeSize 0 j 3 = (j + 2) / 3 := by
    rw [PyProof.Rows.rangeSize_pos (by omega) h0]
    congr 1
    omega
  refine ⟨by decide, by decide, ?_, by rw [e]; omega⟩
  unfold Builtin.Range.small
  rw [e]
  simp only [Builtin.Range.rangeFitsLong, Bool.and_eq_true, Bool.or_eq_true, decide_eq_true_eq, beq_iff_eq, show ((3 : Int) > 0) by decide, if_true]
  omega
section
variable {σ : St} {H : Hp} {nx bk ct : St → Hp → Prop} {rt : VK} {t : TS} {c : TT} {tt : TA} {te : TE} {g : TG} {Q : VK} {ws : List Nat} {D : Ends} {j lo st : Int} {n v : Nat}
theorem f_while (m : Nat) (Pv : Nat → St → Hp → Prop) (h0 : Pv m σ H) (hs : ∀ m σ H, Pv m σ H → c σ H fun b H1 => if b = true then kWh m Pv t nx rt σ H1 else nx σ H1) : tWhile c t ⟨nx, rt, bk, ct⟩ σ H := ⟨Pv, ⟨m, h0⟩, hs⟩
theorem s_kWh {m : Nat} {Pv : Nat → St → Hp → Prop} (h : t ⟨fun σ' H' => ∃ m', m' < m ∧ Pv m' σ' H', rt, nx, fun σ' H' => ∃ m', m' < m ∧ Pv m' σ' H'⟩ σ H) : kWh m Pv t nx rt σ H := ⟨_, fun _ _ q => q, h⟩
theorem s_forR3 (h : tt σ H (kRng3 fun J H1 => kFor J g t D σ H1)) : tFor (iRng3 tt) g t D σ H := h
theorem s_lcR3 (h : tt σ H (kRng3 fun J H1 => kLc J g c te ws σ Q H1)) : tLc (iRng3 tt) g c te ws σ H Q := h
theorem s_kRng3 {R : It → Hp → Prop} (h0 : 0 ≤ j) (h1 : j < 2 ^ 60) (h : R (Itc 0 3 ((j + 2) / 3).toNat) H) : kRng3 R [.int 0, .int j, .int 3] H := ⟨0, j, 3, _, rfl, rgc3 h0 h1, h⟩
theorem f_lcC (h : ∀ D, H D = none → ∃ Pv : Nat → Hp → Prop, Pv 0 (upd H D (.lst [])) ∧
    (∀ i H, i < n → Pv i H → gName v (.int (lo + (i : Nat) * st)) σ H fun σ2 H2 => c σ2 H2 fun b H3 => if b = true then te σ2 H3 (kAcc D (Pv (i + 1))) else Pv (i + 1) H3) ∧ ∀ H, Pv n H → Q (.ref D) H) : kLc (Itc lo st n) (gName v) c te [v] σ Q H := by
  intro D hD
  obtain ⟨Pv, h0, hs, hd⟩ := h D hD
  refine lc_it (Qd := fun H => Q (.ref D) H) walk_rangeC Pv h0 (fun _ _ _ _ => trivial) (fun i x H H' hi p y => ?_) hd
  obtain ⟨rfl, rfl⟩ := y
  have q := hs i _ hi p
  unfold gName at q ⊢
  rw [wipe1]
  exact ⟨wipe2 _ _ _, q⟩
end
def rowsL : List Addr → List (List Int) → List (Addr × HO)
  | q :: qs, xs :: xss => (q, .lst (xs.map V.int)) :: rowsL qs xss
  | [], _ => []
  | _ :: _, [] => []
theorem rowsL_nil (xss : List (List Int)) : rowsL [] xss = [] := rfl
theorem rowsL_get : ∀ {qs : List Addr} {xss : List (List Int)} {i : Nat} {q : Addr} {xs : List Int}, qs[i]? = some q → xss[i]? = some xs → (q, HO.lst (xs.map V.int)) ∈ rowsL qs xss
  | [], _, _, _, _, h, _ => by simp at h
  | _ :: _, [], _, _, _, _, h => by simp at h
  | q :: qs, x :: xss, 0, _, _, h, h' => by
    simp at h h'
    subst h h'
    exact List.mem_cons_self
  | q :: qs, x :: xss, i + 1, _, _, h, h' => List.mem_cons_of_mem _ (rowsL_get (i := i) (by simpa using h) (by simpa using h'))
theorem rowsL_snoc : ∀ {qs : List Addr} {xss : List (List Int)} (q : Addr) (xs : List Int), qs.length = xss.length → rowsL (qs ++ [q]) (xss ++ [xs]) = rowsL qs xss ++ [(q, HO.lst (xs.map V.int))]
  | [], [], _, _, _ => rfl
  | [], _ :: _, _, _, h => by simp at h
  | _ :: _, [], _, _, h => by simp at h
  | a :: qs, b :: xss, q, xs, h => by
    show _ :: rowsL (qs ++ [q]) (xss ++ [xs]) = _ :: (rowsL qs xss ++ _)
    rw [rowsL_snoc q xs (by simpa using h)]
theorem dp_rows {K : PySem.W.Frag} {H : Hp} : ∀ {qs : List Addr} {xss : List (List Int)}, (∀ x ∈ rowsL qs xss, H x.1 = some x.2) → qs.length = xss.length → DpAll K H (qs.map V.ref) (xss.map fun xs => PyData.list (xs.map PyData.int))
  | [], [], _, _ => .nil
  | [], _ :: _, _, h => by simp at h
  | _ :: _, [], _, h => by simp at h
  | q :: qs, x :: xss, hh, h => .cons (Dp.ints (SqL.of (hh _ List.mem_cons_self))) (dp_rows (fun y hy => hh y (List.mem_cons_of_mem _ hy)) (by simpa using h))
section
variable {W : List Addr} {H0 H H' : Hp} {M M' N A I I' : List (Addr × HO)} {a p D : Addr} {o oD : HO}
theorem Hs.perm (h : Hs W H0 H M I) (s : M'.Perm M) : Hs W H0 H M' I :=
  ⟨h.up, (((s.append (List.Perm.refl I)).map Prod.fst).nodup_iff).mpr h.nd, fun x hx => h.at_ x ((s.append (List.Perm.refl I)).mem_iff.mp hx), fun x hx => h.mu x (s.mem_iff.mp hx)⟩
theorem Hs.snoc (h : Hs W H0 H ((p, o) :: (D, oD) :: (A ++ M)) I) : Hs W H0 H ((D, oD) :: ((A ++ [(p, o)]) ++ M)) I := by
  refine h.perm ?_
  refine List.Perm.trans ?_ (List.Perm.swap _ _ _)
  refine List.Perm.cons _ ?_
  rw [List.append_assoc]
  exact List.perm_middle
theorem Hs.dropI (h : Hs W H0 H M I) : Hs W H0 H M [] :=
  ⟨h.up, by
    have := h.nd
    rw [List.map_append, List.nodup_append] at this
    rw [List.append_nil]
    exact this.1, fun x hx => h.at_ x (List.mem_append_left _ (by simpa using hx)), h.mu⟩
/-- what a callee that changes nothing has made -/
theorem Hs.frame0 (hc : Hs [] H H' N I') (h : Hs W H0 H M I) : Hs W H0 H' (N ++ M) I := by
  have h1 : Hs W H0 H' M I := h.call0 hc.up
  have fr : ∀ x ∈ N, H x.1 = none := fun x hx => by
    rcases hc.mu x hx with w | w
    · exact absurd w (by simp)
    · exact w
  refine ⟨h1.up, ?_, fun x hx => ?_, fun x hx => ?_⟩
  · have n1 := hc.nd
    rw [List.append_assoc, List.map_append, List.nodup_append]
    refine ⟨?_, h1.nd, fun a ha b hb q => ?_⟩
    · rw [List.map_append, List.nodup_append] at n1
      exact n1.1
    · obtain ⟨x, hx, rfl⟩ := List.mem_map.mp ha
      rw [← q] at hb
      exact h.holds.fresh (fr x hx) hb
  · rw [List.append_assoc] at hx
    rcases List.mem_append.mp hx with hx | hx
    · exact hc.at_ x (List.mem_append_left _ hx)
    · exact h1.at_ x hx
  · rcases List.mem_append.mp hx with hx | hx
    · by_cases hw : x.1 ∈ W
      · exact .inl hw
      · exact .inr (Holds.uptoNew h.up (fr x hx) hw)
    · exact h1.mu x hx
theorem Hs.part (h : Hs W H0 H M I) (s : N.Sublist M) : Holds H N := ⟨by
    have n1 := h.nd
    rw [List.map_append, List.nodup_append] at n1
    exact List.Nodup.sublist (s.map _) n1.1, fun x hx => h.at_ x (List.mem_append_left _ (s.subset hx))⟩
theorem Rep.skip {L L' : List (Addr × HO)} {a : Addr} {o' : HO} (r : Rep L a o' L') : ∀ A : List (Addr × HO), Rep (A ++ L) a o' (A ++ L')
  | [] => r
  | _ :: A => .there (Rep.skip r A)
end

theorem Hs.rows {W : List Addr} {H0 H : Hp} {M I N : List (Addr × HO)} (h : Hs W H0 H M I) (s : N.Sublist M) : ∀ x ∈ N, H x.1 = some x.2 := fun x hx => h.at_ x (List.mem_append_left _ (s.subset hx))
theorem Sh.lists {n : Nat} {xss : List (List Int)} (h : xss.length ≤ 100000) (h2 : ∀ xs ∈ xss, xs.length ≤ 100000) : Sh (n + 3) (.list (xss.map fun xs => PyData.list (xs.map PyData.int))) := .lst (by rw [List.length_map]; exact h) fun d hd => by
  obtain ⟨xs, hx, rfl⟩ := List.mem_map.mp hd
  exact Sh.ints (h2 xs hx)
theorem Rep.memOf {L : List (Addr × HO)} {a : Addr} {o o' : HO} (m : (a, o) ∈ L) : ∃ L', Rep L a o' L' := by
  induction L with
  | nil => cases m
  | cons x L ih =>
    rcases List.mem_cons.mp m with e | m
    · rw [← e]
      exact ⟨_, .here⟩
    · obtain ⟨L', r⟩ := ih m
      exact ⟨_, .there r⟩

theorem lk {H : Hp} {a : Addr} {o o' : HO} (h : H a = some o) (e : o = o') : H a = some o' := e ▸ h
theorem lkL {K : PySem.W.Frag} {H : Hp} {a : Addr} {o : HO} {xs : List V} (h : H a = some o) (e : o = .lst xs) : SqL K H a xs := SqL.of (e ▸ h)
theorem lkT {K : PySem.W.Frag} {H : Hp} {a : Addr} {o : HO} {xs : List V} (h : H a = some o) (e : o = .tup xs) : SqT K H a xs := SqT.of (e ▸ h)
end RL
namespace RL
open PySem L2 StX

/-! ### fields of objects -/
def kFld (K : PySem.W.Frag) (f : Str) (Q : VK) : VK := fun x H1 => ∃ a C dx fs v, x = .ref a ∧ H1 a = some (.ins C dx fs) ∧ Cls K C ∧ NoAttr K C f ∧ fs.lookup f = some v ∧ Q v H1
def kSet (K : PySem.W.Frag) (f : Str) (y : V) (R : Hp → Prop) : VK := fun x H2 => ∃ a C dx fs, x = .ref a ∧ H2 a = some (.ins C dx fs) ∧ Cls K C ∧ NoAttr K C f ∧ fs.length < 1000 ∧ R (upd H2 a (.ins C dx (putF f y fs)))
def kMeth (C : Addr) (m : Str) (sp : Sp) (E : XK) (t : TA) (σ : St) (Q : VK) : VK := fun x H1 => ∃ a dx fs, x = .ref a ∧ H1 a = some (.ins C dx fs) ∧ fs.lookup m = none ∧ t σ H1 fun vs H2 => sp (x :: (vs ++ [])) H2 Q E
def kMake (C : Addr) (sp : Sp) (E : XK) (Q : VK) : List V → Hp → Prop := fun vs H1 => ∀ x dx, H1 x = none → H1 dx = none → dx ≠ x → sp (.ref x :: (vs ++ [])) (upd (upd H1 dx (.own x)) x (.ins C dx [])) (fun v H2 => v = .non ∧ Q (.ref x) H2) E
def kRaise (C : Addr) (E : XK) : TS := fun _ _ H => E (.ref C) none H
theorem ps_raiseK {X : Cx} {C : Addr} {E : XK} {e : Expr} {pos : Pos} (hc : X.calm = true) (tk : Takes X (fun cls d _ H => E cls d H)) (mk : PMk X e (fun _ H Q => Q (.ref C) none H)) : PS X (.Raise (some e) none pos) (kRaise C E) := ps_raise hc tk mk
section
variable {σ : St} {H H' : Hp} {nx bk ct : St → Hp → Prop} {rt : VK} {ta tv te : TE} {tt : TA} {Q : VK} {K : PySem.W.Frag} {f m : Str} {sp : Sp} {E : XK} {a C dx p : Addr} {fs fs' : List (Str × V)} {v y : V} {W : List Addr} {H0 : Hp} {M M' I : List (Addr × HO)} {D : Ends} {R : Hp → Prop} {vs : List V} {i : Int} {n : Nat}
theorem s_fld (h : ta σ H (kFld K f Q)) : tFld K ta f σ H Q := h
theorem s_kFld (h1 : H a = some (.ins C dx fs)) (c : Cls K C) (na : NoAttr K C f) (l : fs.lookup f = some v) (h : Q v H) : kFld K f Q (.ref a) H := ⟨a, C, dx, fs, v, rfl, h1, c, na, l, h⟩
theorem s_sfld (h : tv σ H fun y H1 => ta σ H1 (kSet K f y (nx σ))) : sFld K ta tv f ⟨nx, rt, bk, ct⟩ σ H := h
theorem s_kSet (hs : Hs W H0 H M I) (h1 : H a = some (.ins C dx fs)) (c : Cls K C) (na : NoAttr K C f) (hl : fs.length < 1000) (e : putF f y fs = fs') (r : Rep M a (.ins C dx fs') M') (h : ∀ H', Hs W H0 H' M' I → Upto [a] H H' → R H') : kSet K f y R (.ref a) H :=
  ⟨a, C, dx, fs, rfl, h1, c, na, hl, by rw [e]; exact h _ (hs.put r) (Upto.put (by simp))⟩
theorem s_meth (h : ta σ H (kMeth C m sp E tt σ Q)) : tMeth C m sp [] E ta tt σ H Q := h
theorem s_kMeth (h1 : H a = some (.ins C dx fs)) (h2 : fs.lookup m = none) (h : tt σ H fun vs H2 => sp (.ref a :: vs) H2 Q E) : kMeth C m sp E tt σ Q (.ref a) H := by
  refine ⟨a, dx, fs, rfl, h1, h2, ?_⟩
  have e : (fun (vs : List V) (H2 : Hp) => sp (.ref a :: (vs ++ [])) H2 Q E) = fun vs H2 => sp (.ref a :: vs) H2 Q E := by
    funext vs H1
    rw [List.append_nil]
  rw [e]
  exact h
theorem s_make (h : tt σ H (kMake C sp E Q)) : tMake C sp [] E tt σ H Q := h
theorem s_kMake (hs : Hs W H0 H M I) (h : ∀ x dx H', Hs W H0 H' ((x, .ins C dx []) :: (dx, .own x) :: M) I → Upto [] H H' → H x = none → H dx = none → sp (.ref x :: vs) H' (fun v H2 => v = .non ∧ Q (.ref x) H2) E) : kMake C sp E Q vs H := by
  intro x dx hx hd ne
  rw [List.append_nil]
  have h1 := hs.new hd (.own x)
  have hx1 : upd H dx (.own x) x = none := by rw [upd_ne (Ne.symm ne)]; exact hx
  exact h x dx _ (h1.new hx1 _) ((Upto.new hd).trans (Upto.new hx1)) hx hd
theorem s_raise (h : E (.ref C) none H) : kRaise C E D σ H := h
/-- o.f += 1, o.f -= 1 -/
theorem s_aug1 (hs : Hs W H0 H M I) (e0 : σ[n]? = some (some (.ref a))) (h1 : H a = some (.ins C dx fs)) (c : Cls K C) (na : NoAttr K C f) (l : fs.lookup f = some (.int i)) (hl : fs.length < 1000) (e : putF f (.int (i + 1)) fs = fs') (r : Rep M a (.ins C dx fs') M') (h : ∀ H', Hs W H0 H' M' I → Upto [a] H H' → nx σ H') :
    sFldAug K (tVar n) (tC (.int 1)) rAdd f ⟨nx, rt, bk, ct⟩ σ H := ⟨_, e0, a, C, dx, fs, _, rfl, h1, c, na, l, i, 1, rfl, rfl, dx, fs, h1, hl, by rw [e]; exact h _ (hs.put r) (Upto.put (by simp))⟩
theorem s_sub1 (hs : Hs W H0 H M I) (e0 : σ[n]? = some (some (.ref a))) (h1 : H a = some (.ins C dx fs)) (c : Cls K C) (na : NoAttr K C f) (l : fs.lookup f = some (.int i)) (hl : fs.length < 1000) (e : putF f (.int (i - 1)) fs = fs') (r : Rep M a (.ins C dx fs') M') (h : ∀ H', Hs W H0 H' M' I → Upto [a] H H' → nx σ H') :
    sFldAug K (tVar n) (tC (.int 1)) rSub f ⟨nx, rt, bk, ct⟩ σ H := ⟨_, e0, a, C, dx, fs, _, rfl, h1, c, na, l, i, 1, rfl, rfl, dx, fs, h1, hl, by rw [e]; exact h _ (hs.put r) (Upto.put (by simp))⟩
end

/-! ### dicts -/
def kDGet (x : V) (Q : VK) : VK := fun y H2 => ∃ a v, x = .ref a ∧ DGet H2 a y (some v) ∧ Q v H2
def kDPut (x v : V) (R : Hp → Prop) : VK := fun y H3 => ∃ a H4, x = .ref a ∧ DPut H3 a y v H4 ∧ R H4
def kDisp (p : Addr) (Q : VK) : List (V × V) → Hp → Prop := fun ps H2 => H2 p = some (.dK []) ∧ ∃ kvs : List (Key × V), ps = kvs.map (fun kv => (kV kv.1, kv.2)) ∧ kvs.length ≤ 15 ∧ Q (.ref p) (upd H2 p (.dK (mergeK [] kvs)))
def unV : List (V × V) → Option (List (Key × V))
  | [] => some []
  | (.str x, v) :: r => (unV r).map fun l => (Sum.inr x, v) :: l
  | _ => none
theorem unV_eq : ∀ {ps : List (V × V)} {kvs : List (Key × V)}, unV ps = some kvs → ps = kvs.map fun kv => (kV kv.1, kv.2)
  | [], kvs, h => by
    simp [unV] at h
    subst h
    rfl
  | (.str x, v) :: r, kvs, h => by
    unfold unV at h
    cases e : unV r with
    | none => rw [e] at h; cases h
    | some l =>
      rw [e] at h
      obtain rfl := Option.some.inj h
      rw [unV_eq e]
      rfl
  | (.non, _) :: _, _, h => by simp [unV] at h
  | (.bl _, _) :: _, _, h => by simp [unV] at h
  | (.int _, _) :: _, _, h => by simp [unV] at h
  | (.byt _, _) :: _, _, h => by simp [unV] at h
  | (.flt _, _) :: _, _, h => by simp [unV] at h
  | (.ref _, _) :: _, _, h => by simp [unV] at h
  | (.ty _, _) :: _, _, h => by simp [unV] at h
def rUpd : V → List V → Hp → VK → Prop := fun x vs H Q => ∃ d e ks ls, x = .ref d ∧ vs = [.ref e] ∧ H d = some (.dK ks) ∧ H e = some (.dK ls) ∧ d ≠ e ∧ ks.length + ls.length ≤ sizeLine ∧ Q .non (upd H d (.dK (mergeK ks ls)))
theorem mt_update {X : Cx} : MtR X "dict.update" rUpd := by
  intro pins s σ H x vs v us Q I rx rv h
  obtain ⟨d, e, ks, ls, rfl, rfl, hd, he, hne, hz, q⟩ := h
  cases (show v = Value.ref d from rx)
  obtain rfl := Vals.ref1 rv
  obtain ⟨z1, y1, vs1, r1, D1⟩ := (show ObjOk X.prog X.w H s.heap d (.dK ks) from I.hok d _ hd)
  obtain ⟨z2, y2, vs2, r2, D2⟩ := (show ObjOk X.prog X.w H s.heap e (.dK ls) from I.hok e _ he)
  refine PySem.call_meetsIn PySem.F.slot_dict_update D1.typeIs PySem.F.entry_dict_update (PySem.F.args_dict_update_2 _ _) (PySem.meets_dict_update (L2.mixKind X.prog X.w) d e hne y2)
    ⟨vs1, vs2, D1, D2, by rw [← r1.length, ← r2.length]; exact hz, fun h' hm _ hs => ?_⟩
  have mu : Mut (H d) := by rw [hd]; trivial
  obtain ⟨o', ho', _⟩ := Heap.dictOf_iff.mp hm
  refine ⟨.non, _, I.write (o := .dK (mergeK ks ls)) (t' := s.toks) mu (.inl rfl) (fun b u nb eb => (hs.2 b nb).trans eb) ⟨_, ho'⟩ ?_, rfl, q⟩
  exact ⟨Nat.le_trans (length_mergeK ls ks) hz, y1, _, KV.merge r2 r1, hm⟩
section
variable {σ : St} {H H' : Hp} {nx bk ct : St → Hp → Prop} {rt : VK} {td ty tv : TE} {Q : VK} {a b p : Addr} {kvs kvs' ks ls : List (Key × V)} {v y : V} {x : Str} {W : List Addr} {H0 : Hp} {M M' I : List (Addr × HO)} {R : Hp → Prop} {trs : List (TE × TE)} {ps : List (V × V)} {QP : List (V × V) → Hp → Prop} {K : PySem.W.Frag} {A : Prop}
theorem s_dget (h : td σ H fun x H1 => ty σ H1 (kDGet x Q)) : tDGet td ty σ H Q := h
theorem s_kDGet (h1 : H a = some (.dK kvs)) (l : valV kvs (Sum.inr x : Key) = some v) (h : Q v H) : kDGet (.ref a) Q (.str x) H := ⟨a, v, rfl, by have q := DGet.k (k := Sum.inr x) h1; rw [l] at q; exact q, h⟩
theorem s_dput (h : tv σ H fun v H1 => td σ H1 fun x H2 => ty σ H2 (kDPut x v (nx σ))) : sDPut td ty tv ⟨nx, rt, bk, ct⟩ σ H := h
theorem s_kDPut (hs : Hs W H0 H M I) (h1 : H a = some (.dK kvs)) (hl : kvs.length < sizeLine) (e : putK kvs (Sum.inr x : Key) v = kvs') (r : Rep M a (.dK kvs') M') (h : ∀ H', Hs W H0 H' M' I → Upto [a] H H' → R H') : kDPut (.ref a) v R (.str x) H :=
  ⟨a, _, rfl, DPut.k (k := Sum.inr x) h1 hl, by rw [e]; exact h _ (hs.put r) (Upto.put (by simp))⟩
theorem s_disp (hs : Hs W H0 H M I) (h : ∀ p H', Hs W H0 H' ((p, .dK []) :: M) I → Upto [] H H' → H p = none → tPairs trs σ H' (kDisp p Q)) : tDisp trs σ H Q := fun p hp => h p _ (hs.new hp _) (Upto.new hp) hp
theorem s_pairs0 (h : QP [] H) : tPairs [] σ H QP := h
theorem s_pairs (h : td σ H fun x H1 => tv σ H1 fun y H2 => tPairs trs σ H2 fun ps H3 => QP ((x, y) :: ps) H3) : tPairs ((td, tv) :: trs) σ H QP := h
theorem s_kDisp (hs : Hs W H0 H M I) (h1 : H p = some (.dK [])) (e : unV ps = some kvs) (hz : kvs.length ≤ 15) (em : mergeK [] kvs = kvs') (r : Rep M p (.dK kvs') M') (h : ∀ H', Hs W H0 H' M' I → Upto [p] H H' → Q (.ref p) H') : kDisp p Q ps H :=
  ⟨h1, kvs, unV_eq e, hz, by rw [em]; exact h _ (hs.put r) (Upto.put (by simp))⟩
theorem s_tyD (h1 : H a = some (.dK kvs)) (h : A) : tyV K "dict" (.ref a) H ∧ A := ⟨.inr (.inr (.inl ⟨rfl, .inl ⟨_, h1⟩⟩)), h⟩
theorem s_upd (hs : Hs W H0 H M I) (h1 : H a = some (.dK ks)) (h2 : H b = some (.dK ls)) (ne : a ≠ b) (hz : ks.length + ls.length ≤ sizeLine) (e : mergeK ks ls = kvs') (r : Rep M a (.dK kvs') M') (h : ∀ H', Hs W H0 H' M' I → Upto [a] H H' → Q .non H') : rUpd (.ref a) [.ref b] H Q :=
  ⟨a, b, ks, ls, rfl, rfl, h1, h2, ne, hz, by rw [e]; exact h _ (hs.put r) (Upto.put (by simp))⟩
end
end RL
namespace RL
open PySem L2 StX
/-! ### methods, new objects in a try -/
def tMethS (C : Addr) (m : Str) (sp : Sp) (E : St → XK) (ta : TE) (t : TA) : TE := fun σ H Q => ta σ H (kMeth C m sp (E σ) t σ Q)
def tMakeS (C : Addr) (sp : Sp) (E : St → XK) (t : TA) : TE := fun σ H Q => t σ H (kMake C sp (E σ) Q)
section
variable {X : Cx} {CX : CXT} {k : Nat} {f C : Addr} {fd : FuncData} {ps : List Str} {sp : Sp} {E : St → XK} {x m : Str} {p pos apos : Pos} {e o : Expr} {es : List Expr} {ta : TE} {t : TA}
theorem pe_methS {pl : Sem Bool} (he : PE X o ta) (c : Cls X.K C) (hm : Meth X.K C m f) (F : FnOk X.prog X.w X.K X.mg X.base CX k f fd ps sp) (hr : Room k X.A) (hb : Binds X.K fd ps []) (hx : ∀ σ, PassesAt CX X σ (E σ)) (ha : PA X (e :: es) t)
    (hst : starEach (e :: es) X.env = (false, eval e X.env) :: starEach es X.env := by rfl) (hpl : (backTo pos (starEach es X.env)).any (·.1) = false := by rfl)
    (ht : eval (.Call (.Attribute o m apos) (e :: es) [] pos) X.env = (do let ov ← eval o X.env; standAt apos.atName; let (f, first) ← holding [ov] (getMethod ov m pl); callWith pos f first (backTo pos (starEach (e :: es) X.env)) (backToKw pos (keywordEach [] X.env))) := by rfl) :
    PE X (.Call (.Attribute o m apos) (e :: es) [] pos) (tMethS C m sp E ta t) := ⟨fun pins s σ H Q I h => by
  refine PySem.W.methodCall_KW (pl := pl) (thn (he.run pins s σ H _ I h) fun u s1 q0 => ?_) ht
  obtain ⟨y, H1, I1, rx, a, dx, fs, ey, ea, l, q⟩ := q0
  subst ey
  obtain rfl : u = Value.ref a := rx
  refine getmeth_ok I1 ea c hm l (PySem.W.callWith_K (first := [.ref a]) (h₀ := X.base) I1.ok.mod.kin hm.kp (thn (ha.run pos pins s1 σ H1 _ I1 q) fun us s2 q1 => ?_) hst hpl)
  obtain ⟨vs, H2, I2, r, q2⟩ := q1
  rw [List.append_nil] at q2
  exact ⟨I2.kIn, run_fnS (us := .ref a :: us) (vs := .ref a :: vs) F hr hb (hx σ) I2 (.cons rfl r) q2⟩⟩
theorem run_makeS {pins : List (Addr × Obj)} {σ : St} {H : Hp} {s : Shared} {Q : VK} {us : List Value} {vs : List V} (M : Mk X.K C f) (F : FnOk X.prog X.w X.K X.mg X.base CX k f fd ps sp) (hr : Room (k + 1) X.A) (hb : Binds X.K fd ps [])
    (hx : PassesAt CX X σ (E σ)) (I : Inv X pins σ H s) (r : Vals vs us) (h : kMake C sp (E σ) Q vs H) : wpAny (model X.prog X.w) X.A (call (.ref C) us) (EP X pins σ Q) X.xe s := by
  have q0 := h (s.heap.objs.size + 1) s.heap.objs.size (I.hok.fresh (Nat.le_succ _)) (I.hok.fresh (Nat.le_refl _)) (Nat.ne_of_lt (Nat.lt_succ_self _))
  rw [List.append_nil] at q0
  have J := Inv.made (C := C) I
  have r2 : Vals (V.ref (s.heap.objs.size + 1) :: vs) (Value.ref (s.heap.objs.size + 1) :: us) := .cons rfl r
  have hl : (Value.ref (s.heap.objs.size + 1) :: us).length = ps.length := by rw [← r2.length]; exact F.len _ _ _ _ q0
  have b := hb _ (Value.ref (s.heap.objs.size + 1) :: us) J.kIn (by rw [List.append_nil]; exact hl)
  rw [List.append_nil] at b
  refine wpAny_call (make_map (f := f) I.kIn M.makes M.init (beq_iff_eq.mp M.fn) (codeAny_mono (F.run _ X.stack _ _ ⟨Value.ref (s.heap.objs.size + 1) :: us, []⟩ (Value.ref (s.heap.objs.size + 1) :: us) _ _ (E σ) (hr.make C us []) (J.env0.make C us []) b r2 q0) fun r s' hq => ?_))
  match r, hq with
  | .error e, hq => exact hx pins _ _ e s' J hq
  | .ok (.ret u), hq =>
    obtain ⟨v, H', I3, rv, ev, q3⟩ := J.after hq
    subst ev
    exact ⟨rv, ⟨V.ref (s.heap.objs.size + 1), H', I3, rfl, q3⟩⟩
  | .ok .next, hq => exact hq.elim
  | .ok .brk, hq => exact hq.elim
  | .ok .cont, hq => exact hq.elim
theorem pe_makeS (M : Mk X.K C f) (F : FnOk X.prog X.w X.K X.mg X.base CX k f fd ps sp) (hr : Room (k + 1) X.A) (hg : Gl X x) (hm : X.mg x = some (.ref C)) (hb : Binds X.K fd ps []) (hx : ∀ σ, PassesAt CX X σ (E σ)) (ha : PA X (e :: es) t)
    (hdb : (x == ("__debug__" : Str)) = false := by decide) (he : starEach (e :: es) X.env = (false, eval e X.env) :: starEach es X.env := by rfl) (hpl : (backTo pos (starEach es X.env)).any (·.1) = false := by rfl) :
    PE X (.Call (.Name x p) (e :: es) [] pos) (tMakeS C sp E t) := ⟨fun pins s σ H Q I h => by
  refine wpAny_Call_Name_kw (ld_glob I hg hm (PySem.W.callWith_K (h₀ := X.base) I.ok.mod.kin M.kp (thn (ha.run pos pins s σ H _ I h) fun us s1 q1 => ?_) he hpl) hdb)
  obtain ⟨vs, H1, I1, r, q⟩ := q1
  exact ⟨I1.kIn, run_makeS M F hr hb (hx σ) I1 r q⟩⟩
theorem s_methS {σ : St} {H : Hp} {Q : VK} (h : ta σ H (kMeth C m sp (E σ) t σ Q)) : tMethS C m sp E ta t σ H Q := h
theorem s_makeS {σ : St} {H : Hp} {Q : VK} (h : t σ H (kMake C sp (E σ) Q)) : tMakeS C sp E t σ H Q := h
end
/-- a method of an own class, its __init__ -/
structure MethOk (P : Program) (w : World) (K : PySem.W.Frag) (mg : Str → Option Value) (base : Heap) (CX : CXT) (k : Nat) (C : Addr) (m : Str) (ps : List Str) (sp : Sp) : Prop where
  ex : ∃ (f : Addr) (fd : FuncData), FnOk P w K mg base CX k f fd ps sp ∧ Binds K fd ps [] ∧ Meth K C m f
structure MakeOk (P : Program) (w : World) (K : PySem.W.Frag) (mg : Str → Option Value) (base : Heap) (CX : CXT) (k : Nat) (C : Addr) (ps : List Str) (sp : Sp) : Prop where
  ex : ∃ (f : Addr) (fd : FuncData), FnOk P w K mg base CX k f fd ps sp ∧ Binds K fd ps [] ∧ Mk K C f
/-- what the clauses wish -/
theorem s_only {K : PySem.W.Frag} {c cls : Value} {ts : Addr → Value → Option Addr → TS} {Wout : WX} {D : Ends} {d : Option Addr} {σ : St} {H : Hp} (e : PySem.W.exmOne K cls c = some true) (h : ∀ a, H a = none → ts a cls d D σ H) : wOnly K c ts Wout D cls d σ H :=
  ⟨true, e, fun _ => h, fun z => nomatch z⟩
theorem s_many {K : PySem.W.Frag} {c cls : Value} {ts : Addr → Value → Option Addr → TS} {l : List (Value × (Addr → Value → Option Addr → TS))} {Wout : WX} {D : Ends} {d : Option Addr} {σ : St} {H : Hp} (e : PySem.W.exmOne K cls c = some true) (h : ∀ a, H a = none → ts a cls d D σ H) : wMany K Wout D ((c, ts) :: l) cls d σ H :=
  ⟨true, e, fun _ => h, fun z => nomatch z⟩
theorem s_manyNo {K : PySem.W.Frag} {c cls : Value} {ts : Addr → Value → Option Addr → TS} {l : List (Value × (Addr → Value → Option Addr → TS))} {Wout : WX} {D : Ends} {d : Option Addr} {σ : St} {H : Hp} (e : PySem.W.exmOne K cls c = some false) (h : wMany K Wout D l cls d σ H) : wMany K Wout D ((c, ts) :: l) cls d σ H :=
  ⟨false, e, (fun z => nomatch z), fun _ => h⟩
end RL
namespace RL
open PySem L2 StX
/-! ### footprints: what a callee may change, and what stands there behind it -/
structure Frm (L L' : List (Addr × HO)) (H H' : Hp) : Prop where
  up : Upto (L.map Prod.fst) H H'
  ok : Holds H' L'
  fr : ∀ x ∈ L', x.1 ∈ L.map Prod.fst ∨ H x.1 = none
inductive SegRep : List (Addr × HO) → List (Addr × HO) → List (Addr × HO) → List (Addr × HO) → Prop
  | here {L L' B : List (Addr × HO)} : SegRep (L ++ B) L L' (L' ++ B)
  | end_ {L L' : List (Addr × HO)} : SegRep L L L' L'
  | there {x : Addr × HO} {M M' L L' : List (Addr × HO)} : SegRep M L L' M' → SegRep (x :: M) L L' (x :: M')
  | skip {A M M' L L' : List (Addr × HO)} : SegRep M L L' M' → SegRep (A ++ M) L L' (A ++ M')
  | two {L₁ L₂ L₁' L₂' B : List (Addr × HO)} : SegRep (L₁ ++ (L₂ ++ B)) (L₁ ++ L₂) (L₁' ++ L₂') (L₁' ++ (L₂' ++ B))
theorem SegRep.split {M L L' M' : List (Addr × HO)} (s : SegRep M L L' M') : ∃ A B, M = A ++ (L ++ B) ∧ M' = A ++ (L' ++ B) := by
  induction s with
  | @here L L' B => exact ⟨[], B, rfl, rfl⟩
  | @end_ L L' => exact ⟨[], [], by simp, by simp⟩
  | @there x M M' L L' _ ih =>
    obtain ⟨A, B, rfl, rfl⟩ := ih
    exact ⟨x :: A, B, rfl, rfl⟩
  | @skip A0 M M' L L' _ ih =>
    obtain ⟨A, B, rfl, rfl⟩ := ih
    exact ⟨A0 ++ A, B, by simp, by simp⟩
  | @two L₁ L₂ L₁' L₂' B => exact ⟨[], B, by simp, by simp⟩
section
variable {W : List Addr} {H0 H H' H1 : Hp} {M M' L L' L2' I : List (Addr × HO)}
theorem Frm.of (h : Hs (L.map Prod.fst) H H' M I) (s : L'.Sublist M) : Frm L L' H H' :=
  ⟨h.up, h.part s, fun x hx => h.mu x (s.subset hx)⟩
theorem Frm.refl (h : Holds H L) : Frm L L H H := ⟨Upto.refl _ _, h, fun x hx => .inl (List.mem_map_of_mem hx)⟩
theorem Hs.seg (h : Hs W H0 H M I) (f : Frm L L' H H') (s : SegRep M L L' M') : Hs W H0 H' M' I := by
  obtain ⟨A, B, rfl, rfl⟩ := s.split
  have nd := h.nd
  have ndL' := f.ok.nd
  -- what is of A, B, I stands apart from L, and so from what is new
  have out : ∀ x ∈ (A ++ (L ++ B)) ++ I, x.1 ∉ L.map Prod.fst → H' x.1 = some x.2 := fun x hx n => f.up _ _ n (h.at_ x hx)
  simp only [List.map_append, List.append_assoc, List.nodup_append, List.mem_append] at nd
  obtain ⟨ndA, ⟨ndL, ⟨ndB, ndI, dBI⟩, dL⟩, dA⟩ := nd
  have nA : ∀ x ∈ A, x.1 ∉ L.map Prod.fst := fun x hx z => dA x.1 (List.mem_map_of_mem hx) x.1 (.inl z) rfl
  have nB : ∀ x ∈ B, x.1 ∉ L.map Prod.fst := fun x hx z => dL x.1 z x.1 (.inl (List.mem_map_of_mem hx)) rfl
  have nI : ∀ x ∈ I, x.1 ∉ L.map Prod.fst := fun x hx z => dL x.1 z x.1 (.inr (List.mem_map_of_mem hx)) rfl
  have sep : ∀ x ∈ L', ∀ y ∈ (A ++ (L ++ B)) ++ I, y.1 ∉ L.map Prod.fst → x.1 ≠ y.1 := fun x hx y hy ny e => by
    rcases f.fr x hx with z | z
    · exact ny (e ▸ z)
    · rw [e, h.at_ y hy] at z
      cases z
  have inA : ∀ x ∈ A, x ∈ (A ++ (L ++ B)) ++ I := fun x hx => by simp [hx]
  have inB : ∀ x ∈ B, x ∈ (A ++ (L ++ B)) ++ I := fun x hx => by simp [hx]
  have inI : ∀ x ∈ I, x ∈ (A ++ (L ++ B)) ++ I := fun x hx => by simp [hx]
  have muL : ∀ a ∈ L.map Prod.fst, a ∈ W ∨ H0 a = none := fun a ha => by
    obtain ⟨y, hy, rfl⟩ := List.mem_map.mp ha
    exact h.mu y (by simp [hy])
  refine ⟨fun b o n e => ?_, ?_, fun x hx => ?_, fun x hx => ?_⟩
  · refine f.up b o (fun z => ?_) (h.up b o n e)
    rcases muL b z with w | w
    · exact n w
    · rw [w] at e
      cases e
  · simp only [List.map_append, List.append_assoc, List.nodup_append, List.mem_append]
    refine ⟨ndA, ⟨ndL', ⟨ndB, ndI, dBI⟩, ?_⟩, ?_⟩
    · rintro a ha b hb rfl
      obtain ⟨x, hx, rfl⟩ := List.mem_map.mp ha
      rcases hb with hb | hb
      · obtain ⟨y, hy, e⟩ := List.mem_map.mp hb
        exact sep x hx y (inB y hy) (nB y hy) e.symm
      · obtain ⟨y, hy, e⟩ := List.mem_map.mp hb
        exact sep x hx y (inI y hy) (nI y hy) e.symm
    · rintro a ha b hb rfl
      obtain ⟨x, hx, rfl⟩ := List.mem_map.mp ha
      rcases hb with hb | hb | hb
      · obtain ⟨y, hy, e⟩ := List.mem_map.mp hb
        exact sep y hy x (inA x hx) (nA x hx) e
      · exact dA x.1 ha x.1 (.inr (.inl hb)) rfl
      · exact dA x.1 ha x.1 (.inr (.inr hb)) rfl
  · simp only [List.mem_append] at hx
    rcases hx with (hx | hx | hx) | hx
    · exact out x (inA x hx) (nA x hx)
    · exact f.ok.at_ x hx
    · exact out x (inB x hx) (nB x hx)
    · exact out x (inI x hx) (nI x hx)
  · simp only [List.mem_append] at hx
    rcases hx with hx | hx | hx
    · exact h.mu x (by simp [hx])
    · rcases f.fr x hx with z | z
      · exact muL _ z
      · by_cases hw : x.1 ∈ W
        · exact .inl hw
        · exact .inr (Holds.uptoNew h.up z hw)
    · exact h.mu x (by simp [hx])
theorem Hs.startL (h : Holds H L) : Hs (L.map Prod.fst) H H L [] := ⟨Upto.refl _ _, by rw [List.append_nil]; exact h.nd, fun x hx => h.at_ x (by simpa using hx), fun _ hx => .inl (List.mem_map_of_mem hx)⟩
/-- the caller hands a part of what it holds -/
theorem SegRep.sub {M L L' M' : List (Addr × HO)} (s : SegRep M L L' M') : L.Sublist M := by
  obtain ⟨A, B, rfl, _⟩ := s.split
  exact (List.sublist_append_left L B).trans (List.sublist_append_right A _)
end
theorem rowsL_set : ∀ {bs : List Addr} {ws : List (List Int)} {i : Nat} (q : Addr) (w : List Int), i < bs.length → bs.length = ws.length → ∃ x, ((q, HO.lst (w.map V.int)) :: rowsL bs ws).Perm (x :: rowsL (bs.set i q) (ws.set i w))
  | [], _, _, _, _, h, _ => by simp at h
  | _ :: _, [], _, _, _, _, h => by simp at h
  | b :: bs, v :: ws, 0, q, w, _, _ => ⟨(b, .lst (v.map V.int)), List.Perm.swap _ _ _⟩
  | b :: bs, v :: ws, i + 1, q, w, h, h' => by
    obtain ⟨x, p⟩ := rowsL_set (bs := bs) (ws := ws) (i := i) q w (by simpa using h) (by simpa using h')
    refine ⟨x, (List.Perm.swap _ _ _).trans ?_⟩
    refine (List.Perm.cons _ p).trans ?_
    exact List.Perm.swap _ _ _
theorem Hs.setRow {W : List Addr} {H0 H : Hp} {A B I : List (Addr × HO)} {bs : List Addr} {ws : List (List Int)} {i : Nat} {q : Addr} {w : List Int} (h : Hs W H0 H ((q, HO.lst (w.map V.int)) :: (A ++ (rowsL bs ws ++ B))) I) (hi : i < bs.length) (hl : bs.length = ws.length) :
    Hs W H0 H (A ++ (rowsL (bs.set i q) (ws.set i w) ++ B)) I := by
  obtain ⟨x, p⟩ := rowsL_set (i := i) q w hi hl
  have h2 : Hs W H0 H (x :: (A ++ (rowsL (bs.set i q) (ws.set i w) ++ B))) I := by
    refine h.perm ?_
    refine List.Perm.trans ?_ (List.perm_middle (a := (q, HO.lst (w.map V.int))) (l₁ := A) (l₂ := rowsL bs ws ++ B))
    refine List.Perm.trans (List.perm_middle (a := x) (l₁ := A) (l₂ := rowsL (bs.set i q) (ws.set i w) ++ B)).symm ?_
    refine List.Perm.append_left A ?_
    exact (List.Perm.append_right B p).symm
  exact h2.tl
end RL
namespace RL
open PySem L2 StX
def rTupOf (K : PySem.W.Frag) : List V → Hp → VK → Prop := fun xs H Q => ∃ p ys, xs = [.ref p] ∧ ((SqL K H p ys ∧ ∀ l, H l = none → Q (.ref l) (upd H l (.tup ys))) ∨ (SqT K H p ys ∧ Q (.ref p) H))
theorem call_tupleOfK {X : Cx} {K : PySem.W.Frag} (hK : X.K = K := by rfl) : CallR X (.type "tuple") (rTupOf K) := by subst hK; exact call_tuple_of
end RL
namespace RL
open PySem L2 StX
theorem Hs.setRow0 {W : List Addr} {H0 H : Hp} {A I : List (Addr × HO)} {bs : List Addr} {ws : List (List Int)} {i : Nat} {q : Addr} {w : List Int} (h : Hs W H0 H ((q, HO.lst (w.map V.int)) :: (A ++ rowsL bs ws)) I) (hi : i < bs.length) (hl : bs.length = ws.length) :
    Hs W H0 H (A ++ rowsL (bs.set i q) (ws.set i w)) I := by
  have q1 := Hs.setRow (B := []) (A := A) (i := i) (by rw [List.append_nil]; exact h) hi hl
  rw [List.append_nil] at q1
  exact q1
theorem SetI.refs {bs : List Addr} {i : Nat} {q : Addr} (h : i < bs.length) : SetI (bs.map V.ref) (i : Int) (.ref q) ((bs.set i q).map V.ref) := by
  have := SetI.nat (xs := bs.map V.ref) (n := i) (v := .ref q) (by rw [List.length_map]; exact h)
  rw [List.map_set]
  exact this
theorem s_eqV {x y : V} {H : Hp} {Q : VK} (hs : scal x y = true) (h : Q (.bl (decide (x = y))) H) : rEq x y H Q := ⟨hs, h⟩
theorem s_neV {x y : V} {H : Hp} {Q : VK} (hs : scal x y = true) (h : Q (.bl (decide (x ≠ y))) H) : rNe x y H Q := ⟨hs, by rw [← decide_not]; exact h⟩
theorem Hs.startC {H : Hp} {x : Addr × HO} {L : List (Addr × HO)} (h : Holds H (x :: L)) : Hs (L.map Prod.fst) H H L [x] := by
  refine ⟨Upto.refl _ _, ?_, ?_, fun _ hx => .inl (List.mem_map_of_mem hx)⟩
  · have p1 : (L ++ [x]).Perm (x :: L) := List.perm_append_comm
    exact ((p1.map Prod.fst).nodup_iff).mpr h.nd
  · intro y hy
    refine h.at_ y ?_
    simp only [List.mem_append, List.mem_singleton] at hy
    rcases hy with hy | hy
    · exact List.mem_cons_of_mem _ hy
    · rw [hy]; exact List.mem_cons_self
theorem Hs.cons1 {W : List Addr} {H0 H : Hp} {x : Addr × HO} {L : List (Addr × HO)} (h : Hs W H0 H L [x]) : Holds H (x :: L) := by
  refine ⟨?_, ?_⟩
  · have p1 : (L ++ [x]).Perm (x :: L) := List.perm_append_comm
    exact ((p1.map Prod.fst).nodup_iff).mp h.nd
  · intro y hy
    refine h.at_ y ?_
    simp only [List.mem_append, List.mem_singleton]
    rcases List.mem_cons.mp hy with hy | hy
    · exact .inr hy
    · exact .inl hy
end RL
namespace RL
open PySem L2 StX
/-! ### data that are equal to themselves -/
theorem eqvAll_refl : ∀ {ds : List PyData}, (∀ d ∈ ds, d.eqv d = true) → PyData.eqvAll ds ds = true
  | [], _ => rfl
  | d :: ds, h => by
    rw [PyData.eqvAll, h d List.mem_cons_self, eqvAll_refl fun x hx => h x (List.mem_cons_of_mem _ hx)]
    rfl
theorem layAll {ds : List PyData} (h : ∀ d ∈ ds, d.canLay0 = true) : PyData.canLayAll0 ds = true := by
  induction ds with
  | nil => rfl
  | cons d ds ih =>
    rw [PyData.canLayAll0, h d List.mem_cons_self, ih fun x hx => h x (List.mem_cons_of_mem _ hx)]
    rfl
theorem depAll {n : Nat} {ds : List PyData} (h : ∀ d ∈ ds, d.depth ≤ n) : PyData.depthAll ds ≤ n := by
  induction ds with
  | nil => exact Nat.zero_le _
  | cons d ds ih =>
    rw [PyData.depthAll]
    exact Nat.max_le.mpr ⟨h d List.mem_cons_self, ih fun x hx => h x (List.mem_cons_of_mem _ hx)⟩
theorem Sh.refl : ∀ {n : Nat} {d : PyData}, Sh n d → d.eqv d = true ∧ d.depth ≤ n := by
  intro n
  induction n with
  | zero => intro d h; cases h
  | succ n ih =>
    intro d h
    cases h with
    | non => exact ⟨rfl, Nat.zero_le _⟩
    | bl b => exact ⟨by cases b <;> rfl, Nat.zero_le _⟩
    | int i => exact ⟨by simp [PyData.eqv], Nat.zero_le _⟩
    | str x => exact ⟨by simp [PyData.eqv], Nat.zero_le _⟩
    | lst _ a =>
      refine ⟨?_, ?_⟩
      · rw [PyData.eqv]; exact eqvAll_refl fun d hd => (ih (a d hd)).1
      · rw [PyData.depth]; have := depAll fun d hd => (ih (a d hd)).2; omega
    | tup _ a =>
      refine ⟨?_, ?_⟩
      · rw [PyData.eqv]; exact eqvAll_refl fun d hd => (ih (a d hd)).1
      · rw [PyData.depth]; have := depAll fun d hd => (ih (a d hd)).2; omega
theorem Sh.shaped {n : Nat} {d : PyData} (h : Sh n d) (hn : n ≤ 64) (hl : d.canLay0 = true) : SeqAt.shaped d = true := by
  unfold SeqAt.shaped
  rw [hl, Bool.true_and]
  have := h.refl.2
  exact decide_eq_true (by omega)
section
variable {K : PySem.W.Frag} {H H' : Hp} {x y : V} {d : PyData} {n : Nat} {Q : VK} {W : List Addr} {H0 : Hp} {M M' I : List (Addr × HO)} {a p : Addr} {xs : List V} {ns : List Int} {bs : List Bool} {i j : Int} {m : Int} {z : Str}
theorem s_eqDD (hx : Dp K H x d) (hy : Dp K H y d) (s : Sh n d) (hl : d.canLay0 = true) (hn : n ≤ 64) (h : Q (.bl true) H) : rEqD K x y H Q :=
  ⟨_, _, hx, hy, s.shaped hn hl, s.shaped hn hl, by rw [s.refl.1]; exact h⟩
theorem s_neDD (hx : Dp K H x d) (hy : Dp K H y d) (s : Sh n d) (hl : d.canLay0 = true) (hn : n ≤ 64) (h : Q (.bl false) H) : rNeD K x y H Q :=
  ⟨_, _, hx, hy, s.shaped hn hl, s.shaped hn hl, by rw [s.refl.1]; exact h⟩
/-- min, max, all of lists -/
theorem s_minL (h1 : SqL K H a (ns.map V.int)) (hz : 0 < ns.length) (h : ∀ m, m ∈ ns → (∀ y, y ∈ ns → m ≤ y) → Q (.int m) H) : rMin K [.ref a] H Q := ⟨a, ns, rfl, h1, hz, h⟩
theorem s_maxL (h1 : SqL K H a (ns.map V.int)) (hz : 0 < ns.length) (h : ∀ m, m ∈ ns → (∀ y, y ∈ ns → y ≤ m) → Q (.int m) H) : rMax K [.ref a] H Q := ⟨a, ns, rfl, h1, hz, h⟩
theorem s_allL (h1 : SqL K H a (bs.map V.bl)) (h : Q (.bl (bs.all id)) H) : rAll K [.ref a] H Q := ⟨a, bs, rfl, h1, h⟩
/-- range(n) as a value; x not in it -/
theorem s_rng1 (hs : Hs W H0 H M I) (h : ∀ p H', Hs W H0 H' ((p, .rng 0 j) :: M) I → Upto [] H H' → H p = none → Q (.ref p) H') : rRng1 [.int j] H Q := ⟨j, rfl, fun p hp => h p _ (hs.new hp _) (Upto.new hp) hp⟩
theorem s_notRngI (h1 : H a = some (.rng 0 j)) (h : Q (.bl (!decide (0 ≤ i ∧ i < j))) H) : rNotRng (.int i) (.ref a) H Q := ⟨a, j, rfl, h1, .inl ⟨i, rfl, h⟩⟩
theorem s_notRngN (h1 : H a = some (.rng 0 j)) (h : Q (.bl true) H) : rNotRng .non (.ref a) H Q := ⟨a, j, rfl, h1, .inr ⟨.inl rfl, h⟩⟩
theorem s_notRngS (h1 : H a = some (.rng 0 j)) (h : Q (.bl true) H) : rNotRng (.str z) (.ref a) H Q := ⟨a, j, rfl, h1, .inr ⟨.inr ⟨z, rfl⟩, h⟩⟩
/-- tuple(list) -/
theorem s_tupOfL (hs : Hs W H0 H M I) (h1 : SqL K H a xs) (h : ∀ p H', Hs W H0 H' ((p, .tup xs) :: M) I → Upto [] H H' → H p = none → Q (.ref p) H') : rTupOf K [.ref a] H Q :=
  ⟨a, xs, rfl, .inl ⟨h1, fun p hp => h p _ (hs.new hp _) (Upto.new hp) hp⟩⟩
end
end RL
namespace RL
open PySem L2 StX
theorem Hs.neq {W : List Addr} {H0 H : Hp} {M I : List (Addr × HO)} {a b : Addr} {o o' : HO} (hs : Hs W H0 H M I) (s : [(a, o), (b, o')].Sublist M) : a ≠ b := by
  have n1 := hs.nd
  rw [List.map_append, List.nodup_append] at n1
  have n2 := List.Nodup.sublist (s.map Prod.fst) n1.1
  simpa using n2
end RL
namespace RL
open PySem L2 StX
theorem Hs.cast {W : List Addr} {H0 H : Hp} {M M' I : List (Addr × HO)} (h : Hs W H0 H M I) (e : M = M') : Hs W H0 H M' I := e ▸ h
end RL
namespace RL
theorem ltK {a b : Nat} (h : Nat.ble (a + 1) b = true) : a < b := Nat.le_of_ble_eq_true h
theorem leK {a b : Nat} (h : Nat.ble a b = true) : a ≤ b := Nat.le_of_ble_eq_true h
end RL
namespace RL
open PySem L2 StX
theorem cutV_mem {xs : List V} {lo hi : Option Int} {x : V} (h : x ∈ cutV xs lo hi) : x ∈ xs := by
  unfold cutV at h
  exact List.mem_of_mem_drop (List.mem_of_mem_take h)
end RL
namespace RL
open PySem L2 StX
theorem Holds.sub {H : Hp} {L N : List (Addr × HO)} (h : Holds H L) (s : N.Sublist L) : Holds H N := ⟨List.Nodup.sublist (s.map _) h.nd, fun x hx => h.at_ x (s.subset hx)⟩
theorem ScrL.app {K : PySem.W.Frag} {sc : Addr} {ns : List Int} {S A : List (Addr × HO)} (h : ScrL K sc ns S) : ScrL K sc ns (A ++ S) := fun H hh => h H (hh.sub (List.sublist_append_right _ _))
theorem Hs.partI {W : List Addr} {H0 H : Hp} {M N I : List (Addr × HO)} (h : Hs W H0 H M I) (s : N.Sublist M) : Holds H (N ++ I) := h.holds.sub (s.append (List.Sublist.refl I))
end RL
namespace RL
open PySem L2 StX
/-- a middle: what holds behind the first statement, whatever way was taken -/
theorem s_join {t u : TS} {nx bk ct : St → Hp → Prop} {rt : VK} {σ : St} {H : Hp} (P : St → Hp → Prop) (hj : ∀ σ' H', P σ' H' → u ⟨nx, rt, bk, ct⟩ σ' H') (h : ∀ U : St → Hp → Prop, (∀ σ' H', P σ' H' → U σ' H') → t ⟨U, rt, bk, ct⟩ σ H) : tSeq t u ⟨nx, rt, bk, ct⟩ σ H := h _ hj
theorem sub_two {L₁ L₂ B : List (Addr × HO)} : (L₁ ++ L₂).Sublist (L₁ ++ (L₂ ++ B)) := by
  rw [← List.append_assoc]
  exact List.sublist_append_left _ _
theorem s_repR {W : List Addr} {H0 H : Hp} {M I : List (Addr × HO)} {a : Addr} {x : V} {k : Nat} {Q : VK} (hs : Hs W H0 H M I) (h1 : H a = some (.lst [x])) (hk : k ≤ 100000) (h : ∀ p H', Hs W H0 H' ((p, .lst (List.replicate k x)) :: M) I → Upto [] H H' → H p = none → Q (.ref p) H') : rRep (.ref a) (.int k) H Q := by
  refine s_rep hs h1 (by omega) (by rw [sizeLine_eq]; simp; omega) ?_
  have e : (List.replicate ((k : Int)).toNat [x]).flatten = List.replicate k x := by simp
  rw [e]
  exact h
end RL
namespace RL
theorem perm4 {α : Type} (A B C : List α) (r : α) : (r :: (A ++ (B ++ C))).Perm (B ++ (C ++ (A ++ [r]))) := by
  rw [← List.append_assoc B C]
  refine List.Perm.trans ?_ List.perm_append_comm
  rw [List.append_assoc A [r]]
  exact (List.perm_middle).symm
end RL
namespace RL
open PySem L2 StX
theorem s_join2 {t t2 u : TS} {nx bk ct : St → Hp → Prop} {rt : VK} {σ : St} {H : Hp} (P : St → Hp → Prop) (hj : ∀ σ' H', P σ' H' → u ⟨nx, rt, bk, ct⟩ σ' H') (h : ∀ U : St → Hp → Prop, (∀ σ' H', P σ' H' → U σ' H') → tSeq t t2 ⟨U, rt, bk, ct⟩ σ H) : tSeq t (tSeq t2 u) ⟨nx, rt, bk, ct⟩ σ H := h _ hj
theorem sub_one {X R R' : List (Addr × HO)} {x : Addr × HO} (h : x ∈ X) (s : R'.Sublist R) : (x :: R').Sublist (X ++ R) := List.Sublist.append (l₁ := [x]) (List.singleton_sublist.mpr h) s
end RL
namespace RL
open PySem L2 StX
theorem s_neSs {x : Str} {H : Hp} {Q : VK} (h : Q (.bl false) H) : rNe (.str x) (.str x) H Q := s_neS (by rw [decide_eq_false (fun q => q rfl)]; exact h)
theorem s_eqSs {x : Str} {H : Hp} {Q : VK} (h : Q (.bl true) H) : rEq (.str x) (.str x) H Q := s_eqS (by rw [decide_eq_true rfl]; exact h)
theorem s_neNN {H : Hp} {Q : VK} (h : Q (.bl false) H) : rNe .non .non H Q := s_neV rfl (by rw [decide_eq_false (fun q => q rfl)]; exact h)
end RL
namespace RL
theorem perm5 {α : Type} (A B C : List α) (r : α) : (C ++ (r :: (A ++ B))).Perm (r :: (A ++ (B ++ C))) := by
  refine List.perm_append_comm.trans ?_
  rw [List.cons_append, List.append_assoc]
end RL
namespace RL
open PySem L2 StX
/-! ### enumerate, pairs in comprehensions, truth of lists, continue, pop(0), methods without arguments in a try -/
theorem pi_enumK {X : Cx} {K : PySem.W.Frag} {e : Expr} {ta : TA} {p pos tpos : Pos} {elts : List Expr} {kk : Nat} (hg : Gl X "enumerate") (hm : X.mg "enumerate" = none) (ha : PA X [e] ta) (hK : X.K = K := by rfl) (hs : starEach [e] X.env = [(false, eval e X.env)] := by rfl) :
    PI X (.Tuple elts kk tpos) (.Call (.Name "enumerate" p) [e] [] pos) (iEnum K ta) := by subst hK; exact pi_enum hg hm ha hs
def kEnm (K : PySem.W.Frag) (R : It → Hp → Prop) : List V → Hp → Prop := fun vs H1 => ∃ a xs, vs = [.ref a] ∧ SqL K H1 a xs ∧ R (Ite K a) H1
def kTru (K : PySem.W.Frag) (Q : Bool → Hp → Prop) : VK := fun x H => ∃ k, TruV K x H k ∧ Q k H
def tTruK (K : PySem.W.Frag) (ta : TE) : TT := fun σ H Q => ta σ H (kTru K Q)
theorem pt_truthK {X : Cx} {K : PySem.W.Frag} {a : Expr} {ta : TE} (ha : PE X a ta) (he : ∀ whole, isTrue a X.env whole = (do let v ← whole; standAt a.pos; holding [v] (truthy v))) (hK : X.K = K := by rfl) : PT X a (tTruK K ta) := by subst hK; exact pt_truth ha he
theorem pe_methS0 {X : Cx} {CX : CXT} {k : Nat} {f C : Addr} {fd : FuncData} {ps : List Str} {sp : Sp} {E : St → XK} {m : Str} {pos apos : Pos} {o : Expr} {ta : TE} {pl : Sem Bool} (he : PE X o ta) (c : Cls X.K C) (hm : Meth X.K C m f) (F : FnOk X.prog X.w X.K X.mg X.base CX k f fd ps sp) (hr : Room k X.A) (hb : Binds X.K fd ps []) (hx : ∀ σ, PassesAt CX X σ (E σ))
    (ht : eval (.Call (.Attribute o m apos) [] [] pos) X.env = (do let ov ← eval o X.env; standAt apos.atName; let (f, first) ← holding [ov] (getMethod ov m pl); callWith pos f first (backTo pos (starEach [] X.env)) (backToKw pos (keywordEach [] X.env))) := by rfl) :
    PE X (.Call (.Attribute o m apos) [] [] pos) (tMethS C m sp E ta tNil) := ⟨fun pins s σ H Q I h => by
  refine PySem.W.methodCall_KW (pl := pl) (thn (he.run pins s σ H _ I h) fun u s1 q0 => ?_) ht
  obtain ⟨y, H1, I1, rx, a, dx, fs, ey, ea, l, q⟩ := q0
  subst ey
  obtain rfl : u = Value.ref a := rx
  refine getmeth_ok I1 ea c hm l ?_
  exact PySem.W.callWith_K0 (first := [.ref a]) I1.kIn hm.kp (run_fnS (us := [.ref a]) (vs := [.ref a]) F hr hb (hx σ) I1 (.cons rfl .nil) q)⟩
theorem pe_callDS {X : Cx} {CX : CXT} {k n : Nat} {ps : List Str} {sp : Sp} {E : St → XK} {x : Str} {p pos : Pos} {e : Expr} {es : List Expr} {t : TA} (D : DefOk X.prog X.w X.K X.mg X.base CX k x ps sp) (hr : Room n X.A) (hg : Gl X x) (hx : ∀ σ, PassesAt CX X σ (E σ))
    (ha : PA X (e :: es) t) (hk : k ≤ n := by first | decide | exact Nat.le_refl _) (hdb : (x == ("__debug__" : Str)) = false := by decide) (he : starEach (e :: es) X.env = (false, eval e X.env) :: starEach es X.env := by rfl) (hpl : (backTo pos (starEach es X.env)).any (·.1) = false := by rfl) :
    PE X (.Call (.Name x p) (e :: es) [] pos) (tCallS sp E t) := by
  obtain ⟨f, fd, F, b, kp, m⟩ := D.ex
  exact pe_callS F (hr.mono hk) hg m kp b hx ha hdb he hpl
theorem s_callS {sp : Sp} {E : St → XK} {t : TA} {σ : St} {H : Hp} {Q : VK} (h : t σ H fun vs H1 => sp vs H1 Q (E σ)) : tCallS sp E t σ H Q := h
section
variable {σ : St} {H H' : Hp} {nx bk ct : St → Hp → Prop} {rt : VK} {g : TG} {t : TS} {tt : TT} {ta : TA} {te : TE} {Q : VK} {QB : Bool → Hp → Prop} {K : PySem.W.Frag} {a : Addr} {xs zs : List V} {y : V} {D : Ends} {v w : Nat} {W : List Addr} {H0 : Hp} {M M' I : List (Addr × HO)}
theorem s_forE (h : ta σ H (kEnm K fun J H1 => kFor J g t D σ H1)) : tFor (iEnum K ta) g t D σ H := h
theorem s_kEnm {R : It → Hp → Prop} (h1 : SqL K H a xs) (h : R (Ite K a) H) : kEnm K R [.ref a] H := ⟨a, xs, rfl, h1, h⟩
theorem f_enum (Pv : Nat → St → Hp → Prop) (h0 : Pv 0 σ H) (hl : ∀ i σ H, i ≤ xs.length → Pv i σ H → SqL K H a xs)
    (hs : ∀ i x T σ H, xs[i]? = some x → Pv i σ H → H T = none → g (.ref T) σ (upd H T (.tup [.int (i : Nat), x])) fun σ2 H2 => t ⟨Pv (i + 1), rt, nx, Pv (i + 1)⟩ σ2 H2) (hd : ∀ σ H, Pv xs.length σ H → nx σ H) : kFor (Ite K a) g t ⟨nx, rt, bk, ct⟩ σ H :=
  for_it walk_enum Pv h0 hl (fun i v σ H H' _ p y => by
    obtain ⟨T, a1, x, rfl, hT, rfl, e1, e2⟩ := y
    cases e1
    exact hs i x T σ H e2 p hT) hd
theorem s_cont (h : ct σ H) : tCont ⟨nx, rt, bk, ct⟩ σ H := h
theorem s_truth (h : te σ H (kTru K QB)) : tTruK K te σ H QB := h
theorem s_kTruL (h1 : SqL K H a xs) (h : QB (!xs.isEmpty) H) : kTru K QB (.ref a) H := ⟨_, .inl ⟨xs, h1, rfl⟩, h⟩
theorem s_iteE0 {A B : Prop} (h : A) : if (!!([] : List V).isEmpty) = true then A else B := iteT h
theorem s_iteEc {A B : Prop} (h : B) : if (!!(y :: zs).isEmpty) = true then A else B := iteF h
theorem s_iteE1 {A B : Prop} (h : B) : if (!([] : List V).isEmpty) = true then A else B := iteF h
theorem s_iteEd {A B : Prop} (h : A) : if (!(y :: zs).isEmpty) = true then A else B := iteT h
theorem s_pop0 (hs : Hs W H0 H M I) (h1 : H a = some (.lst (y :: zs))) (r : Rep M a (.lst zs) M') (h : ∀ H', Hs W H0 H' M' I → Upto [a] H H' → Q y H') : rPopAt (.ref a) [.int 0] H Q :=
  ⟨a, _, 0, 0, y, rfl, rfl, h1, by decide, by decide, by
    unfold seqIndex?
    simp, rfl, h _ (hs.put r) (Upto.put (by simp))⟩
theorem SetAt.twice {σ1 σ2 : St} {x : V} {z : Option V} (h : SetAt σ v x σ1) : (σ.set v z).set v (some x) = σ1 := by rw [List.set_set, h.eq]
theorem f_lcL2 (hvw : v ≠ w) (h : ∀ D, H D = none → ∃ Pv : Nat → Hp → Prop, Pv 0 (upd H D (.lst [])) ∧ (∀ i H, i ≤ xs.length → Pv i H → SqL K H a xs) ∧
    (∀ i x H, xs[i]? = some x → Pv i H → ∃ p q T σ1 σ2, x = .ref T ∧ SqT K H T [p, q] ∧ SetAt σ v p σ1 ∧ SetAt σ1 w q σ2 ∧ tt σ2 H fun b H3 => if b = true then te σ2 H3 (kAcc D (Pv (i + 1))) else Pv (i + 1) H3) ∧ ∀ H, Pv xs.length H → Q (.ref D) H) :
    kLc (Itl K a) (gTup K 2 (gCons (gName v) (gCons (gName w) gNil))) tt te [v, w] σ Q H := by
  intro D hD
  obtain ⟨Pv, h0, hl, hs, hd⟩ := h D hD
  refine lc_list (Qd := fun H => Q (.ref D) H) Pv h0 hl (fun i x H hx p => ?_) hd
  obtain ⟨y1, y2, T, σ1, σ2, rfl, hT, s1, s2, q⟩ := hs i x H hx p
  have e : ((wipe σ [v, w]).set v (some y1)).set w (some y2) = σ2 := by
    show ((((σ.set w none).set v none).set v (some y1)).set w (some y2)) = σ2
    rw [List.set_set, List.set_comm _ _ hvw, List.set_set, List.set_comm _ _ hvw.symm, s1.eq, s2.eq]
  have e2 : wipe σ2 [v, w] = wipe σ [v, w] := by
    rw [← e]
    show (((((σ.set w none).set v none).set v (some y1)).set w (some y2)).set w none).set v none = (σ.set w none).set v none
    simp only [List.set_set]
    rw [List.set_comm _ _ hvw]
    simp only [List.set_set]
  refine ⟨T, _, rfl, hT, rfl, _, _, rfl, _, _, rfl, rfl, ?_⟩
  show wipe (((wipe σ [v, w]).set v (some y1)).set w (some y2)) [v, w] = _ ∧ _
  rw [e]
  exact ⟨e2, q⟩
end
theorem atI_end {α : Type} {xs : List α} {v : α} : atI (xs ++ [v]) (-1) = some v := atI_last xs v
/-! ### blocks, groups of blocks, rows: as they stand in the heap -/
def bcell (x : Addr × List Int) : Addr × HO := (x.1, .lst (x.2.map V.int))
def bL (pb : List (Addr × List Int)) : List (Addr × HO) := pb.map bcell
abbrev rf (x : Addr × List Int) : V := .ref x.1
def gcell (x : Addr × List (Addr × List Int)) : Addr × HO := (x.1, .lst (x.2.map rf))
def gL (xs : List (Addr × List (Addr × List Int))) : List (Addr × HO) := xs.map gcell
abbrev gf (x : Addr × List (Addr × List Int)) : V := .ref x.1
abbrev RA := (Addr × Addr) × (Int × List Int)
def rL : List RA → List (Addr × HO)
  | [] => []
  | x :: xs => (x.1.1, .tup [.int x.2.1, .ref x.1.2]) :: (x.1.2, .lst (x.2.2.map V.int)) :: rL xs
abbrev tf (x : RA) : V := .ref x.1.1
theorem rL_app : ∀ xs ys : List RA, rL (xs ++ ys) = rL xs ++ rL ys
  | [], _ => rfl
  | x :: xs, ys => by
    show _ :: _ :: rL (xs ++ ys) = _ :: _ :: (rL xs ++ rL ys)
    rw [rL_app xs ys]
theorem rL_tup : ∀ {xs : List RA} {x : RA}, x ∈ xs → (x.1.1, HO.tup [.int x.2.1, .ref x.1.2]) ∈ rL xs ∧ (x.1.2, HO.lst (x.2.2.map V.int)) ∈ rL xs
  | y :: xs, x, h => by
    rcases List.mem_cons.mp h with h | h
    · subst h
      exact ⟨List.mem_cons_self, List.mem_cons_of_mem _ List.mem_cons_self⟩
    · have := rL_tup h
      exact ⟨List.mem_cons_of_mem _ (List.mem_cons_of_mem _ this.1), List.mem_cons_of_mem _ (List.mem_cons_of_mem _ this.2)⟩
theorem bL_rows : ∀ pb : List (Addr × List Int), bL pb = rowsL (pb.map Prod.fst) (pb.map Prod.snd)
  | [] => rfl
  | x :: pb => by
    show bcell x :: bL pb = _ :: rowsL _ _
    rw [bL_rows pb]
    rfl
theorem bL_mem {pb : List (Addr × List Int)} {x : Addr × List Int} (h : x ∈ pb) : (x.1, HO.lst (x.2.map V.int)) ∈ bL pb := List.mem_map_of_mem (f := bcell) h
theorem gL_mem {xs : List (Addr × List (Addr × List Int))} {x : Addr × List (Addr × List Int)} (h : x ∈ xs) : (x.1, HO.lst (x.2.map rf)) ∈ gL xs := List.mem_map_of_mem (f := gcell) h
/-- data of rows -/
theorem dp_rL {K : PySem.W.Frag} {H : Hp} : ∀ {xs : List RA}, (∀ y ∈ rL xs, H y.1 = some y.2) → DpAll K H (xs.map tf) (xs.map fun x => PyData.tuple [.int x.2.1, .list (x.2.2.map PyData.int)])
  | [], _ => .nil
  | x :: xs, h => .cons (.tup (SqT.of (h (x.1.1, _) List.mem_cons_self)) (.cons (.int _) (.cons (Dp.ints (SqL.of (h (x.1.2, _) (List.mem_cons_of_mem _ List.mem_cons_self)))) .nil)))
      (dp_rL fun y hy => h y (List.mem_cons_of_mem _ (List.mem_cons_of_mem _ hy)))
end RL
namespace RL
open PySem L2 StX
theorem s_join3 {t t2 t3 u : TS} {nx bk ct : St → Hp → Prop} {rt : VK} {σ : St} {H : Hp} (P : St → Hp → Prop) (hj : ∀ σ' H', P σ' H' → u ⟨nx, rt, bk, ct⟩ σ' H') (h : ∀ U : St → Hp → Prop, (∀ σ' H', P σ' H' → U σ' H') → tSeq t (tSeq t2 t3) ⟨U, rt, bk, ct⟩ σ H) : tSeq t (tSeq t2 (tSeq t3 u)) ⟨nx, rt, bk, ct⟩ σ H := h _ hj
theorem s_ifJ {c : TT} {t u : TS} {D : Ends} {σ : St} {H : Hp} (P : Bool → Hp → Prop) (h1 : ∀ H', P true H' → t D σ H') (h2 : ∀ H', P false H' → u D σ H') (h : ∀ U : Bool → Hp → Prop, (∀ b H', P b H' → U b H') → c σ H U) : tIfS c t u D σ H :=
  h _ fun b H' p => by
    cases b with
    | true => exact iteT (h1 H' p)
    | false => exact iteF (h2 H' p)
theorem s_eqDX {K : PySem.W.Frag} {x y : V} {d e : PyData} {H : Hp} {Q : VK} (hx : Dp K H x d) (hy : Dp K H y e) (sd : SeqAt.shaped d = true) (se : SeqAt.shaped e = true) (h : Q (.bl (PyData.eqv d e)) H) : rEqD K x y H Q := ⟨d, e, hx, hy, sd, se, h⟩
theorem Holds.pick {H : Hp} {A B : List (Addr × HO)} {x : Addr × HO} (h : Holds H (A ++ B)) (hx : x ∈ B) : Holds H (x :: A) := by
  have nd := h.nd
  rw [List.map_append, List.nodup_append] at nd
  refine ⟨?_, fun y hy => ?_⟩
  · rw [List.map_cons, List.nodup_cons]
    exact ⟨fun z => nd.2.2 x.1 z x.1 (List.mem_map_of_mem (f := Prod.fst) hx) rfl, nd.1⟩
  · rcases List.mem_cons.mp hy with hy | hy
    · rw [hy]
      exact h.at_ x (List.mem_append_right _ hx)
    · exact h.at_ y (List.mem_append_left _ hy)
end RL
namespace RL
open PySem L2 StX
theorem perm_in {α : Type} (w r : α) (A B C : List α) : (r :: (A ++ (B ++ (w :: C)))).Perm (w :: r :: (A ++ (B ++ C))) := by
  rw [← List.append_assoc, ← List.append_assoc]
  exact List.perm_middle (l₁ := r :: (A ++ B))
theorem Hs.pick3 {W : List Addr} {H0 H : Hp} {x y : Addr × HO} {A B C I : List (Addr × HO)} (h : Hs W H0 H (x :: (A ++ (B ++ C))) I) (hy : y ∈ C) : Holds H (y :: (A ++ B)) := by
  have h1 : Holds H ((x :: (A ++ B)) ++ C) := by
    have := h.part (List.Sublist.refl _)
    rw [← List.append_assoc] at this
    exact this
  exact (h1.pick hy).sub (.cons₂ _ (.cons _ (List.Sublist.refl _)))
end RL
namespace RL
open PySem L2 StX
def rInt1 : List V → Hp → VK → Prop := fun xs H Q => (∃ i, xs = [.int i] ∧ Q (.int i) H) ∨ ∃ k, xs = [.bl k] ∧ Q (.int (if k then 1 else 0)) H
theorem call_int1' {X : Cx} : CallR X (.type "int") rInt1 := call_int1
theorem s_int1T {H : Hp} {Q : VK} (h : Q (.int 1) H) : rInt1 [.bl true] H Q := .inr ⟨true, rfl, h⟩
theorem s_int1F {H : Hp} {Q : VK} (h : Q (.int 0) H) : rInt1 [.bl false] H Q := .inr ⟨false, rfl, h⟩
theorem s_rep1 {W : List Addr} {H0 H : Hp} {M I : List (Addr × HO)} {a : Addr} {x : V} {Q : VK} (hs : Hs W H0 H M I) (h1 : H a = some (.lst [x])) (h : ∀ p H', Hs W H0 H' ((p, .lst [x]) :: M) I → Upto [] H H' → H p = none → Q (.ref p) H') : rRep (.ref a) (.int 1) H Q :=
  s_rep hs h1 (by decide) (by rw [sizeLine_eq]; show 1 * 1 ≤ 16777216; decide) h
theorem s_rep0 {W : List Addr} {H0 H : Hp} {M I : List (Addr × HO)} {a : Addr} {x : V} {Q : VK} (hs : Hs W H0 H M I) (h1 : H a = some (.lst [x])) (h : ∀ p H', Hs W H0 H' ((p, .lst []) :: M) I → Upto [] H H' → H p = none → Q (.ref p) H') : rRep (.ref a) (.int 0) H Q :=
  s_rep hs h1 (by decide) (by rw [sizeLine_eq]; show 1 * 0 ≤ 16777216; decide) h
theorem perm_mid {α : Type} (A B T : List α) : (A ++ (B ++ T)).Perm (B ++ (A ++ T)) := by
  rw [← List.append_assoc, ← List.append_assoc]
  exact List.Perm.append_right _ List.perm_append_comm
end RL
namespace RL
open PySem L2 StX
/-! ### exceptions whose context is None, and calls within the suite of a clause -/
theorem passLN {X : Cx} : Passes (L2N.CX X.prog X.w) X E0 := fun _ _ _ _ _ _ _ c => by
  obtain ⟨_, _, _, _, _, _, _, _, _, _, _, _, no⟩ := c
  exact no.elim
theorem takesN {X : Cx} : L2N.Takes X (fun _ _ _ _ => False) := fun _ _ c => by
  obtain ⟨_, _, _, _, _, _, _, _, _, _, _, _, _, _, _, _, no⟩ := c
  exact no.elim
theorem ps_raiseN {X : Cx} {C : Addr} {E : XK} {e : Expr} {pos : Pos} (hc : X.calm = true) (tk : L2N.Takes X (fun cls d _ H => E cls d H)) (mk : L2N.PMk X e (fun _ H Q => Q (.ref C) none H)) : PS X (.Raise (some e) none pos) (kRaise C E) := L2N.ps_raise hc tk mk
section
variable {P : Program} {w : World} {K : PySem.W.Frag} {mg : Str → Option Value} {base : Heap} {x qual : Str} {st : Stmt} {f : Addr} {fd : FuncData} {N ps : List Str} {k : Nat} {sp : Sp}
theorem funN (F : Fun K x qual st f fd) (S : FnScope N ps (defScope st)) (len : ∀ vs H Q E, sp vs H Q E → vs.length = ps.length)
    (body : ∀ (cdv : Value) (A : Around) (outer : List Env) (s : Shared) (H : Hp) (vs : List V) (Q : VK) (E : XK), Room k (A.deeper (PyProof.Rows.envOfC qual (defScope st) s.heap.objs.size f cdv)) → sp vs H Q E → ∃ t, PSs (cxOf (L2N.CX P w) P w K mg base N qual (defScope st) f cdv A outer s H E) (defBody st) t ∧ t { nx := fun _ H' => Q .non H', rt := Q } (L2.start N vs) H) :
    FnOk P w K mg base (L2N.CX P w) (k + 1) f fd ps sp := by
  obtain ⟨_, _, _, _, _, _, _, _, _, rfl, l, c⟩ := F.ex
  exact fn_of l c S len fun A outer s H vs Q E hr h => body _ A outer s H vs Q E hr h
theorem funH (F : Fun K x qual st f fd) (S : FnScope N ps (defScope st)) (len : ∀ vs H Q E, sp vs H Q E → vs.length = ps.length)
    (body : ∀ (cdv : Value) (A : Around) (outer : List Env) (s : Shared) (H : Hp) (vs : List V) (Q : VK) (E : XK) (p : Addr × Obj), L2H.Hot1 A p → L2H.RoomH k (A.deeper (PyProof.Rows.envOfC qual (defScope st) s.heap.objs.size f cdv)) → sp vs H Q E → ∃ t, PSs (L2H.cxH CX0 P w K mg base N qual (defScope st) f cdv A outer s H E p) (defBody st) t ∧ t { nx := fun _ H' => Q .non H', rt := Q } (L2.start N vs) H) :
    L2H.FnH P w K mg base CX0 (k + 1) f fd ps sp := by
  obtain ⟨_, _, _, _, _, _, _, _, _, rfl, l, c⟩ := F.ex
  exact L2H.fn_ofH l c S len fun A outer s H vs Q E p hot hr h => body _ A outer s H vs Q E p hot hr h
end
structure MethOkH (P : Program) (w : World) (K : PySem.W.Frag) (mg : Str → Option Value) (base : Heap) (k : Nat) (C : Addr) (m : Str) (ps : List Str) (sp : Sp) : Prop where
  ex : ∃ (f : Addr) (fd : FuncData), L2H.FnH P w K mg base CX0 k f fd ps sp ∧ Binds K fd ps [] ∧ Meth K C m f
structure DefOkH (P : Program) (w : World) (K : PySem.W.Frag) (mg : Str → Option Value) (base : Heap) (k : Nat) (x : Str) (ps : List Str) (sp : Sp) : Prop where
  ex : ∃ (f : Addr) (fd : FuncData), L2H.FnH P w K mg base CX0 k f fd ps sp ∧ Binds K fd ps [] ∧ PySem.W.keepIn K (.ref f) = true ∧ mg x = some (.ref f)
theorem hotS {X : Cx} {a : Addr} {oe : Obj} {cls : Value} {d : Option Addr} {pn : List (Addr × Obj)} (hz : L2N.Zn cls d oe) (hf : ∃ vs, oe.data = .fields vs) : L2H.HotC (X.suite a ((a, oe) :: pn)) := by
  obtain ⟨vs, e⟩ := hf
  exact ⟨(a, oe), ⟨rfl, vs, e, hz.2.2 vs e⟩, List.mem_cons_self⟩
theorem roomS {X : Cx} {a : Addr} {pn : List (Addr × Obj)} {j n : Nat} (hr : Room n X.A) (h : j ≤ n) : L2H.RoomH j (X.suite a pn).A := by
  have r := L2H.roomH_of (hr.mono h)
  exact ⟨r.dp, r.un⟩
theorem pe_meth0H {X : Cx} {k : Nat} {f C : Addr} {fd : FuncData} {ps : List Str} {sp : Sp} {m : Str} {pos apos : Pos} {o : Expr} {ta : TE} {pl : Sem Bool} (he : PE X o ta) (c : Cls X.K C) (hm : Meth X.K C m f) (F : L2H.FnH X.prog X.w X.K X.mg X.base CX0 k f fd ps sp) (hr : L2H.RoomH k X.A) (hc : L2H.HotC X) (hb : Binds X.K fd ps [])
    (ht : eval (.Call (.Attribute o m apos) [] [] pos) X.env = (do let ov ← eval o X.env; standAt apos.atName; let (f, first) ← holding [ov] (getMethod ov m pl); callWith pos f first (backTo pos (starEach [] X.env)) (backToKw pos (keywordEach [] X.env))) := by rfl) :
    PE X (.Call (.Attribute o m apos) [] [] pos) (tMeth C m sp [] E0 ta tNil) := ⟨fun pins s σ H Q I h => by
  refine PySem.W.methodCall_KW (pl := pl) (thn (he.run pins s σ H _ I h) fun u s1 q0 => ?_) ht
  obtain ⟨y, H1, I1, rx, a, dx, fs, ey, ea, l, q⟩ := q0
  subst ey
  obtain rfl : u = Value.ref a := rx
  refine getmeth_ok I1 ea c hm l ?_
  exact PySem.W.callWith_K0 (first := [.ref a]) I1.kIn hm.kp (L2H.run_fnH (us := [.ref a]) (vs := [.ref a]) (E := fun _ => E0) F hr hc hb (fun _ _ _ _ _ _ z => z.elim) I1 (.cons rfl .nil) q)⟩
theorem pe_callDH {X : Cx} {k : Nat} {ps : List Str} {sp : Sp} {x : Str} {p pos : Pos} {e : Expr} {es : List Expr} {t : TA} (D : DefOkH X.prog X.w X.K X.mg X.base k x ps sp) (hr : L2H.RoomH k X.A) (hc : L2H.HotC X) (hg : Gl X x)
    (ha : PA X (e :: es) t) (hdb : (x == ("__debug__" : Str)) = false := by decide) (he : starEach (e :: es) X.env = (false, eval e X.env) :: starEach es X.env := by rfl) (hpl : (backTo pos (starEach es X.env)).any (·.1) = false := by rfl) :
    PE X (.Call (.Name x p) (e :: es) [] pos) (tCallS sp (fun _ => E0) t) := by
  obtain ⟨f, fd, F, b, kp, m⟩ := D.ex
  exact L2H.pe_callH F hr hc hg m kp b (fun _ _ _ _ _ _ _ z => z.elim) ha hdb he hpl
end RL
namespace RL
open PySem L2 StX
/-! ### a def that is handed the exception that is handled, and asks for its class -/
def rIsP (K : PySem.W.Frag) (cls : Value) (d : Option Addr) (a : Addr) : List V → Hp → VK → Prop := fun xs H Q => ∃ D, cls = .ref D ∧ d = none ∧ ExcC K D ∧ rIsE K D a xs H Q
theorem isP {X : Cx} {p : Addr × Obj} {cls : Value} {d : Option Addr} (hp : p ∈ X.pn) (hz : Zc cls d p.2) (hf : ∃ vs, p.2.data = .fields vs) : CallR X (.builtin "isinstance") (rIsP X.K cls d p.1) := fun pins s σ H xs us Q I r h => by
  obtain ⟨D, rfl, rfl, C, c, cv, b, rfl, hcv, e, q⟩ := h
  match us, r with
  | [_, _], .cons r1 (.cons r2 .nil) =>
    cases r1
    have e2 := hcv _ r2
    subst e2
    have hget := (I.pin p (List.mem_append_left _ hp)).1
    have J : PySem.W.InstAt s.heap p.1 p.2 D none := by
      obtain ⟨w, e3⟩ := hf
      obtain ⟨a, oe⟩ := p
      cases oe with
      | mk oc od oda osl =>
        have h1 : oc = .ref D := hz.1
        have h2 : od = none := hz.2
        have h3 : oda = .fields w := e3
        cases h1; cases h2; cases h3
        exact ⟨hget, rfl, rfl, trivial⟩
    exact PySem.W.kia_one (PySem.W.handS_kitx_exc C.hg C.hk C.hs C.hd C.ha C.hn C.ht C.hm) I.kIn J e (fun z => nomatch z) fun tk => ⟨.bl b, H, I.kept (t' := tk) fun _ _ z => z, rfl, q⟩
theorem s_isP {K : PySem.W.Frag} {C D a : Addr} {b : Bool} {H : Hp} {Q : VK} (hC : ExcC K D) (hk : PySem.W.kitOne K (.ref D) (.ref C) = some b) (h : Q (.bl b) H) : rIsP K (.ref D) none a [.ref a, .ref C] H Q :=
  ⟨D, rfl, rfl, hC, .ref C, .ref C, b, rfl, fun _ r => r, hk, h⟩
/-- what such a def promises: D is the class, a the exception's place -/
structure FnP (P : Program) (w : World) (K : PySem.W.Frag) (mg : Str → Option Value) (base : Heap) (k : Nat) (f : Addr) (fd : FuncData) (ps : List Str) (sp : Addr → Addr → Sp) : Prop where
  len : ∀ D a vs H Q E, sp D a vs H Q E → vs.length = ps.length
  run : ∀ (A : Around) (outer : List Env) (s : Shared) (H : Hp) (args : Args) (us : List Value) (vs : List V) (Q : VK) (E : XK) (p : Addr × Obj) (D : Addr), L2H.RoomH k A → L2H.Hot1 A p → Zc (.ref D) none p.2 → L2H.PinOk outer H s p → Env0 P w K mg base A outer s H →
    BindsTo s fd args (ps.zip us) → Vals vs us → sp D p.1 vs H Q E → codeAny (model P w) A (.call (.ref f) args) (CR CX0 outer P w H s Q E) s
theorem funP {P : Program} {w : World} {K : PySem.W.Frag} {mg : Str → Option Value} {base : Heap} {x qual : Str} {st : Stmt} {f : Addr} {fd : FuncData} {N ps : List Str} {k : Nat} {sp : Addr → Addr → Sp} (F : Fun K x qual st f fd) (S : FnScope N ps (defScope st)) (len : ∀ D a vs H Q E, sp D a vs H Q E → vs.length = ps.length)
    (body : ∀ (cdv : Value) (A : Around) (outer : List Env) (s : Shared) (H : Hp) (vs : List V) (Q : VK) (E : XK) (p : Addr × Obj) (D : Addr), L2H.Hot1 A p → Zc (.ref D) none p.2 → L2H.RoomH k (A.deeper (PyProof.Rows.envOfC qual (defScope st) s.heap.objs.size f cdv)) → sp D p.1 vs H Q E → ∃ t, PSs (L2H.cxH CX0 P w K mg base N qual (defScope st) f cdv A outer s H E p) (defBody st) t ∧ t { nx := fun _ H' => Q .non H', rt := Q } (L2.start N vs) H) :
    FnP P w K mg base (k + 1) f fd ps sp := by
  obtain ⟨oc, od, kV, doc, pm, an, cdv, ct, osl, rfl, lk, hcd⟩ := F.ex
  refine ⟨len, fun A outer s H args us vs Q E p D room hot hz pin en bnd rv hsp => ?_⟩
  have hl := len _ _ _ _ _ _ hsp
  have KI : K.In s.heap := en.mod.kin.keeps fun b o e => (en.bs b o e).1
  have nl : s.heap.NoLimit := en.mod.nolimit.keeps fun b o e => (en.bs b o e).1
  have kinds : ∀ y ∈ ps.zip us, (defScope st).names.lookup y.1 = some .local ∨ ((defScope st).names.lookup y.1 = some .cell ∧ ((PySem.cellsFrom (s.heap.objs.size + 1) (defScope st).names []).lookup y.1).isSome = true) := fun y hy => by
    cases S.par y.1 (List.of_mem_zip hy).1 with
    | inl q => exact .inl q
    | inr q => exact .inr ⟨q, PySem.W.cellsFrom_some _ _ _ (.inl q)⟩
  refine codeAny_call_function room.depth (KI _ _ lk) rfl S.co S.gen rfl (PySem.W.codeRec_of KI hcd) (bnd _ _ _ _ ?_)
  refine wpAny_newFunctionEnv_cells S.kind kinds fun env he s1 ic => ?_
  subst he
  refine ⟨nl.keeps ic.toInCall.keep, codeAny_func ?_⟩
  obtain ⟨t, ht, hq⟩ := body cdv A outer s H vs Q E p D hot hz (room.deeper _) hsp
  have J0 : Inv (L2H.cxH CX0 P w K mg base N qual (defScope st) f cdv A outer s H E p) [] (L2.start N vs) H s1 := L2H.inv_startH S pin en hl rv ic
  refine wpAny_mono (ht.run [] s1 (L2.start N vs) H _ J0 hq) (fun fl s' hs => ?_) fun e s' hs => hs
  cases fl with
  | ret u =>
    obtain ⟨v, σ', H', J, r2, q⟩ := hs
    exact ⟨v, H', J.os, J.bare, J.base, J.hok, r2, q⟩
  | next =>
    obtain ⟨σ', H', J, q⟩ := hs
    exact ⟨.non, H', J.os, J.bare, J.base, J.hok, rfl, q⟩
  | brk =>
    obtain ⟨_, _, _, q⟩ := hs
    exact q.elim
  | cont =>
    obtain ⟨_, _, _, q⟩ := hs
    exact q.elim
structure DefOkP (P : Program) (w : World) (K : PySem.W.Frag) (mg : Str → Option Value) (base : Heap) (k : Nat) (x : Str) (ps : List Str) (sp : Addr → Addr → Sp) : Prop where
  ex : ∃ (f : Addr) (fd : FuncData), FnP P w K mg base k f fd ps sp ∧ Binds K fd ps [] ∧ PySem.W.keepIn K (.ref f) = true ∧ mg x = some (.ref f)
def tCallP (sp : Addr → Addr → Sp) (cls : Value) (d : Option Addr) (a : Addr) (t : TA) : TE := fun σ H Q => t σ H fun vs H1 => ∃ D, cls = .ref D ∧ d = none ∧ sp D a vs H1 Q E0
theorem pe_callDP {X : Cx} {k : Nat} {ps : List Str} {sp : Addr → Addr → Sp} {x : Str} {q pos : Pos} {e : Expr} {es : List Expr} {t : TA} {p : Addr × Obj} {cls : Value} {d : Option Addr} (DO : DefOkP X.prog X.w X.K X.mg X.base k x ps sp) (hr : L2H.RoomH k X.A) (hot : L2H.Hot1 X.A p) (hp : p ∈ X.pn) (hz : Zc cls d p.2) (hg : Gl X x)
    (ha : PA X (e :: es) t) (hdb : (x == ("__debug__" : Str)) = false := by decide) (he : starEach (e :: es) X.env = (false, eval e X.env) :: starEach es X.env := by rfl) (hpl : (backTo pos (starEach es X.env)).any (·.1) = false := by rfl) :
    PE X (.Call (.Name x q) (e :: es) [] pos) (tCallP sp cls d p.1 t) := by
  obtain ⟨f, fd, F, bd, kp, m⟩ := DO.ex
  refine ⟨fun pins s σ H Q I h => ?_⟩
  refine wpAny_Call_Name_kw (ld_glob I hg m ?_ hdb)
  refine PySem.W.callWith_K (h₀ := X.base) I.ok.mod.kin kp (thn (ha.run pos pins s σ H _ I h) fun us s1 hh => ?_) he hpl
  obtain ⟨vs, H1, I1, r, D, rfl, rfl, q1⟩ := hh
  refine ⟨I1.kIn, ?_⟩
  have hl : us.length = ps.length := by rw [← r.length]; exact F.len _ _ _ _ _ _ q1
  have b := bd s1 us I1.kIn (by rw [List.append_nil]; exact hl)
  rw [List.append_nil] at b
  have P1 := I1.pin p (List.mem_append_left _ hp)
  have pin : L2H.PinOk X.stack H1 s1 p := ⟨P1.1, P1.2.1, fun hm => (List.mem_cons.mp (I1.stkSub p.1 hm)).elim P1.2.2.1 P1.2.2.2.1, P1.2.2.2.2⟩
  refine wpAny_call (codeAny_mono (F.run X.A X.stack s1 H1 ⟨us, []⟩ us vs Q E0 p D hr hot hz pin I1.env0 b r q1) fun res s' hq => ?_)
  cases res with
  | error e => exact (show False from hq).elim
  | ok fl =>
    cases fl with
    | ret u => exact I1.after hq
    | next => exact False.elim hq
    | brk => exact False.elim hq
    | cont => exact False.elim hq
end RL
namespace RL
open PySem L2 StX
theorem hot1S {X : Cx} {a : Addr} {oe : Obj} {cls : Value} {d : Option Addr} {pn : List (Addr × Obj)} (hz : L2N.Zn cls d oe) (hf : ∃ vs, oe.data = .fields vs) : L2H.Hot1 (X.suite a ((a, oe) :: pn)).A (a, oe) := by
  obtain ⟨vs, e⟩ := hf
  exact ⟨rfl, vs, e, hz.2.2 vs e⟩
theorem s_isPV {K : PySem.W.Frag} {D a : Addr} {b : Bool} {H : Hp} {Q : VK} (hC : ExcC K D) (hk : PySem.W.kitOne K (.ref D) (.type "ValueError") = some b) (h : Q (.bl b) H) : rIsP K (.ref D) none a [.ref a, .ty "ValueError"] H Q :=
  ⟨D, rfl, rfl, hC, .ty "ValueError", .type "ValueError", b, rfl, fun _ r => r, hk, h⟩
theorem isPs {X : Cx} {K : PySem.W.Frag} {a : Addr} {oe : Obj} {cls : Value} {d : Option Addr} (hp : (a, oe) ∈ X.pn) (hz : Zc cls d oe) (hf : ∃ vs, oe.data = .fields vs) (hK : X.K = K := by rfl) : CallR X (.builtin "isinstance") (rIsP K cls d a) := by subst hK; exact isP (p := (a, oe)) hp hz hf
theorem pe_callDPs {X : Cx} {k : Nat} {ps : List Str} {sp : Addr → Addr → Sp} {x : Str} {q pos : Pos} {e : Expr} {es : List Expr} {t : TA} {a : Addr} {oe : Obj} {cls : Value} {d : Option Addr} (DO : DefOkP X.prog X.w X.K X.mg X.base k x ps sp) (hr : L2H.RoomH k X.A) (hot : L2H.Hot1 X.A (a, oe)) (hp : (a, oe) ∈ X.pn) (hz : Zc cls d oe) (hg : Gl X x)
    (ha : PA X (e :: es) t) (hdb : (x == ("__debug__" : Str)) = false := by decide) (he : starEach (e :: es) X.env = (false, eval e X.env) :: starEach es X.env := by rfl) (hpl : (backTo pos (starEach es X.env)).any (·.1) = false := by rfl) :
    PE X (.Call (.Name x q) (e :: es) [] pos) (tCallP sp cls d a t) := pe_callDP (p := (a, oe)) DO hr hot hp hz hg ha hdb he hpl
end RL
namespace RL
open PySem L2 StX
/-! ### name = [elt for .. in ..] where elt may raise (exceptions without context) -/
abbrev blkE (X : Cx) (s : Shared) (H : Hp) (scope : Scope) (cenv : Env) (fp : List Addr) (xe : Value → Shared → Prop) : Cx := { X.blk s H scope cenv fp with xe := xe }
theorem inv_xe {X : Cx} {xe : Value → Shared → Prop} {pins : List (Addr × Obj)} {σ : List (Option V)} {H : Hp} {s : Shared} (I : Inv X pins σ H s) : Inv { X with xe := xe } pins σ H s :=
  ⟨⟨I.ok.mod, I.ok.kind, I.ok.glob, I.ok.blt, I.ok.above, I.ok.inj, I.ok.has, I.ok.cab, I.ok.hd, I.ok.frames, I.ok.stk, I.ok.exf, I.ok.bs, I.ok.bsz, I.ok.noex, I.ok.exfs, I.ok.funs, I.ok.frf⟩,
    I.os, I.bare, I.base, I.loc, I.cell, I.free, I.freeC, I.pin, I.hok, I.len⟩
theorem funs_but {B B' : Heap} {h h' : Heap} : ∀ {l : List Env}, h.FunFrames B l → (∀ b ∈ l.filterMap (·.frame), ∀ o, h.get? b = some o → h'.get? b = some o) → (∀ b, B.get? b = none → B'.get? b = none) → h'.FunFrames B' l
  | [], _, _, _ => trivial
  | e :: r, hl, k, n => by
    obtain ⟨h1, ⟨L, o, hf, hn, ho, hd⟩, hr⟩ := hl
    exact ⟨h1, ⟨L, o, hf, n _ hn, k L (List.mem_filterMap.mpr ⟨e, List.mem_cons_self, hf⟩) o ho, hd⟩, funs_but hr (fun b hb => k b (by
      obtain ⟨x, hx, q⟩ := List.mem_filterMap.mp hb
      exact List.mem_filterMap.mpr ⟨x, List.mem_cons_of_mem _ hx, q⟩)) n⟩
theorem clo_nil {cells : List (Str × Addr)} : ∀ {names : List (Str × NameKind)} {acc : List (Str × Addr)}, (∀ y ∈ names, y.2 ≠ .free) → cloFrom cells names acc = acc
  | [], _, _ => rfl
  | (n, k) :: r, acc, h => by
    unfold cloFrom
    rw [if_neg (by simpa using h (n, k) List.mem_cons_self)]
    exact clo_nil fun y hy => h y (List.mem_cons_of_mem _ hy)
theorem relabel_id {scope : Scope} {env : Env} (h : ∀ y ∈ scope.names, y.2 ≠ .free) : relabel scope env = scope := by
  unfold relabel
  have : scope.names.map (fun (n, k) => if (k == NameKind.free && env.scope.kind == .function && env.kindOf n == some .cell) then (n, NameKind.cell) else (n, k)) = scope.names := by
    have key : ∀ l : List (Str × NameKind), (∀ y ∈ l, y.2 ≠ .free) → l.map (fun (n, k) => if (k == NameKind.free && env.scope.kind == .function && env.kindOf n == some .cell) then (n, NameKind.cell) else (n, k)) = l := by
      intro l
      induction l with
      | nil => intro _; rfl
      | cons y r ih =>
        intro hl
        obtain ⟨n, k⟩ := y
        have hk : (k == NameKind.free) = false := by simpa using hl (n, k) List.mem_cons_self
        rw [List.map_cons, ih fun y hy => hl y (List.mem_cons_of_mem _ hy)]
        simp [hk]
    exact key _ h
  rw [this]
theorem note_frame {ce env : Env} (h : ce.frame = env.frame) (e : Value) : noteFrame e ce = noteFrame e env := by
  unfold noteFrame frameOf
  rw [h]
theorem comp_raise {X : Cx} {pins : List (Addr × Obj)} {σ : List (Option V)} {H3 : Hp} {s3 : Shared} {scope : Scope} {ce : Env} {fp : List Addr} {E : XK} {W : WX}
    (hs : X.stack = X.env :: X.outer) (hf : X.env.frame = some X.env.locals) (hcf : ce.frame = X.env.frame) (tk : L2N.Takes X W) (hW : ∀ cls d H, E cls d H → W cls d σ H)
    (I3 : Inv X pins σ H3 s3) (f3 : ∀ b ∈ fp, FpOk X pins H3 b ∧ b < s3.heap.objs.size) (cL : ce.locals = s3.heap.objs.size)
    {pins' : List (Addr × Obj)} {σ' : List (Option V)} {H' : Hp} {s5 : Shared} (I : Inv (X.blk s3 H3 scope ce fp) pins' σ' H' s5) {u : Value} {s' : Shared} (c : L2N.CX X.prog X.w X.stack H' s5 E u s') :
    notedBy (model X.prog X.w) X.A ce (fun x s'' => ∃ m, s''.heap.Ns ce.locals m ∧ ∀ h', Heap.SameBut ce.locals s''.heap h' → ∀ {Q : Value → Shared → Prop}, wpAny (model X.prog X.w) X.A (passOn "comprehension.variables-let-go" x ce) Q X.xe { s'' with heap := h' }) u s' := by
  obtain ⟨a, B0, _, _, _, rfl, fl, _⟩ := id c
  obtain ⟨a2, B, sI, pinsI, σI, HI, cls, d, e2, J, nb, up, sky, na, os, ag, w⟩ := L2N.XE.of_call (W := fun cls d _ H => E cls d H) I (fun _ _ _ h => h) c
  have e2 : a = a2 := Value.ref.inj e2
  subst e2
  have sky : L2.Sky B X.stack a (L2N.Zn cls d) ce.locals s'.heap := sky
  have nb : ∀ b o, sI.heap.get? b = some o → b ∉ frs X.stack → B.get? b = some o := nb
  have hfl : HandSPX.FlyingZ B X.stack a (L2N.Zn cls d) s'.heap := by
    obtain ⟨_, _, _, oe0, vs0, T0, oT0, ts0, he0, _, hd0, h10, _, _, hT0, hdT0, h30⟩ := fl
    rcases sky with ⟨_, _, _, oe, vs, he, _, hd, h1⟩ | fl | ⟨_, _, _, oe, vs, T, oT, ts, he, _, hd, h1, _, _, hT, hdT, h3⟩
    · rw [he0] at he; cases he
      rw [hd0] at hd; cases hd
      rw [h10] at h1; cases h1
    · exact fl
    · rw [he0] at he; cases he
      rw [hd0] at hd; cases hd
      rw [h10] at h1; cases h1
      rw [hT0] at hT; cases hT
      rw [hdT0] at hdT; cases hdT
      rw [h30] at h3
      exact absurd (Option.some.inj h3) (by simp [rawInt])
  have hfr : X.A.frames = some (X.env :: X.outer) := by rw [I3.ok.frames, hs]
  unfold notedBy
  rw [note_frame hcf]
  rw [hs] at hfl
  refine PXN.looks_onZ L2N.Zn.steady hfr hf hfl fun h3 hh up3 => ?_
  have J3 : Inv (X.blk s3 H3 scope ce fp) pinsI σI HI { s' with heap := h3 } := J.landed nb hh.1 (up.trans up3) os ag
  obtain ⟨m, hn, _⟩ := J3.loc
  have hn : h3.Ns ce.locals m := hn
  refine ⟨m, hn, fun h4 sb Q => ?_⟩
  obtain ⟨k1, k2, k3, oe, vs, T, oT, ts, he, hz, hd, h1, hnT, hTe, hT, hdT, hq⟩ := hh
  have hC : ∀ b ob vb, h3.get? b = some ob → ob.data = .fields vb → b ≠ ce.locals := fun b ob vb e dd z => by
    obtain ⟨o, es, ep, ho, hdd, _⟩ := hn
    rw [z, ho] at e; cases e
    rw [hdd] at dd; cases dd
  have sb : ∀ b, b ≠ ce.locals → h4.get? b = h3.get? b := sb.2
  have he4 : h4.get? a = some oe := (sb a (hC a oe vs he hd)).trans he
  have hT4 : h4.get? T = some oT := (sb T (hC T oT ts hT hdT)).trans hT
  have nC : HI ce.locals = none := J3.free
  have lowF : ∀ b ∈ frs X.stack, b ≠ ce.locals := fun b hb z => by
    obtain ⟨_, o, e, _⟩ := I3.stack.mem hb
    have := Heap.lt_size e
    rw [z, cL] at this
    exact Nat.lt_irrefl _ this
  have hid : ∀ (G : Heap) b o, (PySem.W.hideAll G [ce.locals]).get? b = some o → b ≠ ce.locals ∧ G.get? b = some o := fun G b o e => by
    refine ⟨fun z => ?_, PySem.W.of_hideAll _ e⟩
    rw [PySem.W.hideAll_none [ce.locals] (by rw [z]; exact List.mem_cons_self)] at e
    cases e
  have hB := hid B
  have nB : ∀ b, B.get? b = none → (PySem.W.hideAll B [ce.locals]).get? b = none := fun b e => by
    cases q : (PySem.W.hideAll B [ce.locals]).get? b with
    | none => rfl
    | some o => rw [(hB b o q).2] at e; cases e
  unfold PySem.passOn
  refine wpAny_bind (wpAny_field he4 hd h1 ?_)
  rw [if_neg (show ¬ ((Value.ref T == Value.none) = true) from by simp)]
  have fin : wpAny (model X.prog X.w) X.A (setFlight (.ref a) ce.frame) (fun _ s4 => wpAny (model X.prog X.w) X.A (throw (.ref a) : Sem Value) Q X.xe s4) X.xe { s' with heap := h4 } := by
    rw [hcf, hf]
    refine HandSPX.setFlight_anyZ (base := PySem.W.hideAll B [ce.locals]) (l := X.env :: X.outer) (Z := L2N.Zn cls d) (fl := rawInt X.env.locals) (fun b o e => ?_) ?_ ⟨oe, vs, T, oT, ts, he4, hz, hd, h1, nB _ hnT, hTe, hT4, hdT, hq⟩ fun h5 g1 g2 g3 g4 => wpAny_throw (tk _ _ ?_)
    · obtain ⟨z, e⟩ := hB b o e
      exact (sb b z).trans (k1 b o e)
    · refine funs_but k3 (fun b hb o e => ?_) nB
      exact (sb b (lowF b (by rw [hs]; exact hb))).trans e
    · have I7 : Inv X pins σ HI sI := by
        have J' := J
        exact I3.call' (ch := fp) J'.os J'.base J'.hok J'.bare fun b hb => ⟨(f3 b hb).1.2.2.2.1, (f3 b hb).1.2.1, (f3 b hb).1.2.2.2.2.1, (f3 b hb).1.2.2.2.2.2⟩
      obtain ⟨f0, f1, f2, f3', f4, f5⟩ := I3.fpOk (H' := HI) (b := ce.locals) (Nat.le_of_eq cL.symm) nC
      have I8 : Inv X pins σ HI { sI with heap := PySem.W.hideAll sI.heap [ce.locals], toks := sI.toks } := I7.turned (it := ce.locals) (fun b o hb e => PySem.W.hideAll_get _ e (by simpa using hb)) f0 f1 f3' f4 f5
      have hI := hid sI.heap
      refine ⟨a, PySem.W.hideAll B [ce.locals], _, pins, σ, HI, cls, d, rfl, I8, fun b o e hb => ?_, fun b o e hnf => ?_, .inr (.inr ?_), na, os, ag, hW _ _ _ w⟩
      · obtain ⟨z, e⟩ := hI b o e
        exact PySem.W.hideAll_get _ (nb b o e hb) (by simpa using z)
      · obtain ⟨z, e⟩ := hI b o e
        obtain ⟨sl, e3⟩ := (up.trans up3) b o e hnf
        exact (show ∃ sl', h5.get? b = some { o with slots := sl' } from (g4 b _ ((sb b z).trans e3) hnf).imp fun _ q => q)
      · rw [hs]
        exact ⟨g1, nB _ k2, g2, g3⟩
  first
    | exact wpAny_bind (wpAny_pure (wpAny_bind fin))
    | exact wpAny_bind fin
theorem ps_setLcE {X : Cx} {i : Nat} {y : Str} {py : Pos} {elt tg iter : Expr} {ifs : List Expr} {scope : Scope} {own : List (Str × Nat)} {pos spos : Pos} {wi : TI} {g : TG} {tt : TT} {te : TE} {E : XK} {W : WX}
    (hs : X.stack = X.env :: X.outer) (hf : X.env.frame = some X.env.locals) (tk : L2N.Takes X W) (hW : ∀ cls d σ H, E cls d H → W cls d σ H) (hfree : ∀ x ∈ scope.names, x.2 ≠ .free)
    (hc : X.calm = true) (hN : X.N.Nodup) (hy : X.N[i]? = some y) (hyl : X.env.scope.names.lookup y = some .local)
    (hsw : swapsWith (.ListComp elt [⟨tg, iter, ifs, 0⟩] scope pos) (some (.Name y py)) spos.line X.env = pure true) (hi : PI X tg iter wi) (ok : BlkOk X.N X.env.scope scope own)
    (hg : ∀ (s : Shared) (H : Hp) (C : Addr) (cl : List (Str × Addr)) (fp : List Addr), PG (X.blk s H scope (compEnvC scope cl C X.env) fp) tg g) (ht : ∀ (s : Shared) (H : Hp) (C : Addr) (cl : List (Str × Addr)) (fp : List Addr), PTs (X.blk s H scope (compEnvC scope cl C X.env) fp) ifs tt)
    (he : ∀ (s : Shared) (H : Hp) (C : Addr) (cl : List (Str × Addr)) (fp : List Addr) (xe : Value → Shared → Prop), Passes (L2N.CX X.prog X.w) (blkE X s H scope (compEnvC scope cl C X.env) fp xe) E → PE (blkE X s H scope (compEnvC scope cl C X.env) fp xe) elt te) (hfs : ∀ x, foldedSetIterable iter X.env x = pure x := by intro _; rfl) :
    PS X (.Assign [.Name y py] (.ListComp elt [⟨tg, iter, ifs, 0⟩] scope pos) spos) (tAsg (tLc wi g tt te (own.map (·.2))) (gName i)) := by
  refine ⟨fun pins s σ H DD I h => ?_⟩
  rw [exec_Assign_Name_used _ _ _ _ hsw]
  refine wpAny_bind (wpAny_standAt (wpAny_bind ?_))
  show wpAny _ X.A (do let _ ← comprehension (.ListComp elt [⟨tg, iter, ifs, 0⟩] scope pos) scope X.env (firstIterPos [⟨tg, iter, ifs, 0⟩] pos) (newList []) false (eval iter X.env) (some (assign (.Name y py) X.env))) _ _ s
  have h : tLc wi g tt te (own.map (·.2)) σ H (fun x H1 => gName i x σ H1 DD.nx) := h
  refine wpAny_bind (thn (wpAny_comprehension_use (Q := fun _ s' => SP X pins DD .next s') rfl hfs hfree ok.kind (fun x hx e => by rw [ok.uniq x hx, e]) ?_) fun _ s' hq => wpAny_pure (wpAny_pure hq))
  refine thn (hi.run pins s σ H _ I h) fun xv s1 hx => thn hx fun itv s2 h2 => ?_
  obtain ⟨it, fp, tn, J, H2, e, I2, T, st2, f2, q⟩ := h2
  subst e
  refine wpAny_newObj_type (newEnv_comp ?_) (by show 0 ≤ sizeLine; decide)
  generalize hD : s2.heap.objs.size = D
  have hDn : H2 D = none := I2.hok.fresh (Nat.le_of_eq hD)
  obtain ⟨W', ⟨m0, w0⟩, turn⟩ := q D hDn
  generalize hs3 : ({ s2 with heap := s2.heap.push { cls := .type "list", data := .seq ([] : List Value).toArray } } : Shared) = s3
  have I3 : Inv X pins σ (upd H2 D (.lst [])) s3 := by
    rw [← hs3]
    refine I2.laid (t' := s2.toks) (fun b o e => Heap.get?_push_of_some _ e) (Nat.le_of_eq hD) ⟨Nat.zero_le _, [], 0, .nil, ?_⟩
    rw [← hD]
    exact Heap.get?_push_size _ rfl
  have h3 : s3.heap = s2.heap.push { cls := .type "list", data := .seq ([] : List Value).toArray } := by rw [← hs3]
  have f3 : ∀ b ∈ fp, FpOk X pins (upd H2 D (.lst [])) b ∧ b < s3.heap.objs.size := fun b hb => by
    obtain ⟨o, e, _⟩ := T.obj _ _ st2 b hb
    have hlt := Heap.lt_size e
    refine ⟨⟨?_, (f2 b hb).2⟩, by rw [h3, Heap.size_push]; exact Nat.lt_succ_of_lt hlt⟩
    rw [upd_ne (by rw [← hD]; exact Nat.ne_of_lt hlt)]
    exact (f2 b hb).1
  have st3 : tn 0 s3.heap := T.keep _ _ _ st2 fun b _ o e => by rw [h3]; exact Heap.get?_push_of_some _ e
  have I4 := block_start I3 ok hN f3
  rw [clo_nil hfree] at I4
  have pg := hg s3 (upd H2 D (.lst [])) s3.heap.objs.size (cellsFrom (s3.heap.objs.size + 1) scope.names []) fp
  have pt := ht s3 (upd H2 D (.lst [])) s3.heap.objs.size (cellsFrom (s3.heap.objs.size + 1) scope.names []) fp
  have pe := he s3 (upd H2 D (.lst [])) s3.heap.objs.size (cellsFrom (s3.heap.objs.size + 1) scope.names []) fp
  have nfp : ∀ b ∈ fp, (upd H2 D (.lst [])) b = none := fun b hb => (f3 b hb).1.1
  have hcE : ∀ bi : Addr, ({ newEnv scope s3.heap.objs.size X.env.globals (cellsFrom (s3.heap.objs.size + 1) scope.names []) X.env.qual Option.none Value.none (some X.env) bi with scope := scope } : Env) = compEnvC scope (cellsFrom (s3.heap.objs.size + 1) scope.names []) s3.heap.objs.size X.env := fun bi => by
    unfold compEnvC
    rw [relabel_id hfree]
    rfl
  generalize hce : compEnvC scope (cellsFrom (s3.heap.objs.size + 1) scope.names []) s3.heap.objs.size X.env = ce at I4 pg pt pe hcE
  have cL : ce.locals = s3.heap.objs.size := by subst hce; rfl
  have cF : ce.frame = X.env.frame := by subst hce; rfl
  generalize hH3 : upd H2 D (.lst []) = H3 at I3 I4 pg pt pe w0 nfp f3
  generalize hs4 : ({ s3 with heap := pushCells (s3.heap.push { cls := .type "dict", data := .dict #[] }) scope.names } : Shared) = s4 at I4
  have st4 : tn 0 s4.heap := T.keep _ _ _ st3 fun b _ o e => by rw [← hs4]; exact pushCells_keeps _ _ _ _ (Heap.get?_push_of_some _ e)
  have stat : ∀ {σ' : L2.St} {H' : Hp} {s' : Shared}, Inv (X.blk s3 H3 scope ce fp) [] σ' H' s' → (∀ b ∈ fp, H' b = none) → ∀ b ∈ fp, FpOk (X.blk s3 H3 scope ce fp) [] H' b := fun {σ' H' s'} I' hn b hb =>
    ⟨hn b hb, (I'.ok.exf b hb).1, I'.ok.exfs b hb, .inl hb, fun x c e => (I'.ok.exf b hb).2 x c e, fun p hp => absurd (show p ∈ ([] : List (Addr × Obj)) ++ [] from hp) (by simp)⟩
  have R0 : ∀ {R : Result → Shared → Prop}, (∀ s', wpAny (model X.prog X.w) X.A (assign (.Name y py) X.env (.ref D)) (fun _ s'' => ∃ m, s''.heap.Ns ce.locals m ∧ ∀ h', Heap.SameBut ce.locals s''.heap h' → SP X pins DD .next { s'' with heap := h' }) X.xe s' → R (.ok .next) s') →
      (∀ x s', (∃ m, s'.heap.Ns ce.locals m ∧ ∀ h', Heap.SameBut ce.locals s'.heap h' → ∀ {Q : Value → Shared → Prop}, wpAny (model X.prog X.w) X.A (passOn "comprehension.variables-let-go" x ce) Q X.xe { s' with heap := h' }) → R (.error x) s') →
      codeAny (model X.prog X.w) X.A (.compLoop (.ListComp elt [⟨tg, iter, ifs, 0⟩] scope pos) 0 (.ref it) (.ref D) ce) R s4 := by
    intro R rok rer
    refine compLoop_any (fun n s' => ∃ i H', Inv (X.blk s3 H3 scope ce fp) [] (wipe σ (own.map (·.2))) H' s' ∧ tn i s'.heap ∧ (∀ b ∈ fp, H' b = none) ∧ W' i n H') ?_ m0 ⟨0, H3, I4, st4, nfp, w0⟩
    rintro n s5 ⟨i, H5, I5, st5, n5, w5⟩
    rcases turn i n H5 w5 with ⟨stop, qq⟩ | ⟨go, Nx, hNx, step⟩
    · refine thnF (T.done (X.blk s3 H3 scope ce fp) rfl rfl rfl hc i [] s5 _ H5 (fun _ _ => False) I5 (stat I5 n5) st5 stop) fun r s6 ⟨hr, I6⟩ => ?_
      subst hr
      have I7 : Inv X pins σ H5 s6 := I3.call' (ch := fp) I6.os I6.base I6.hok I6.bare fun b hb => ⟨(f3 b hb).1.2.2.2.1, (f3 b hb).1.2.1, (f3 b hb).1.2.2.2.2.1, (f3 b hb).1.2.2.2.2.2⟩
      have nC : H5 ce.locals = none := I6.free
      obtain ⟨m, hn, _⟩ := I6.loc
      have hn : s6.heap.Ns ce.locals m := hn
      refine rok s6 (wpAny_assign_Name (store_ok2 (v := V.ref D) I7 hN hy (.inl hyl) rfl (fun sa Ia ⟨a, sb, ha⟩ => ?_) (.inr hyl)))
      obtain ⟨f0, f1, f2', f3', f4, f5⟩ := I3.fpOk (H' := H5) (b := ce.locals) (Nat.le_of_eq cL.symm) nC
      have haC : ce.locals ≠ a := by
        rcases ha with z | z
        · rw [z]; exact f1
        · exact fun e => f4 y a z e.symm
      exact ⟨m, hn.sameBut sb haC, fun hb sbb => ⟨_, H5, Ia.turned (t' := sa.toks) (fun b o hb e => (sbb.2 b hb).trans e) f0 f1 f3' f4 f5, qq⟩⟩
    · refine thnF (T.item (X.blk s3 H3 scope ce fp) rfl rfl rfl hc i [] s5 _ H5 (fun _ _ => False) I5 (stat I5 n5) st5 go) fun r s6 ⟨u, hr, h6⟩ => ?_
      subst hr
      refine thnF h6 fun _ s7 ⟨x, H7, I7, r7, y7, st7, n7⟩ => ?_
      have I7' := I7.pinned (stat I7 n7) (T.obj _ _ st7)
      refine thnF (pg.run _ s7 _ H7 x u _ I7' r7 (step x H7 y7)) fun _ s8 ⟨σ8, H8, I8, hw8, q8⟩ => ?_
      refine thnF (pt.run _ s8 σ8 H8 _ I8 q8) fun b s9 ⟨H9, I9, q9⟩ => ?_
      have fin : ∀ {s' : Shared} {H' : Hp}, Inv (X.blk s3 H3 scope ce fp) ([] ++ pinsAt fp s7.heap) σ8 H' s' → Nx H' → ∃ m, m < n ∧ ∃ i H', Inv (X.blk s3 H3 scope ce fp) [] (wipe σ (own.map (·.2))) H' s' ∧ tn i s'.heap ∧ (∀ b ∈ fp, H' b = none) ∧ W' i m H' := fun {s' H'} I' nx => by
        obtain ⟨m', hm, w'⟩ := hNx H' nx
        have pin' : ∀ b ∈ fp, ∀ o, s7.heap.get? b = some o → s'.heap.get? b = some o ∧ H' b = none := fun b hb o e =>
          let z := I'.pin (b, o) (List.mem_append_right _ (List.mem_append_right _ (mem_pinsAt hb e)))
          ⟨z.1, z.2.1⟩
        have hl : (wipe σ (own.map (·.2))).length = σ8.length := by rw [← hw8, wipe_length]
        refine ⟨m', hm, i + 1, H', (I'.unpinned (pins := [])).weak hl (fun j v e => ?_), T.keep _ _ _ st7 fun b hb o e => (pin' b hb o e).1, fun b hb => ?_, w'⟩
        · rw [← hw8] at e
          exact (wipe_some e).1
        · obtain ⟨o, e, _⟩ := T.obj _ _ st7 b hb
          exact (pin' b hb o e).2
      cases b with
      | false =>
        simp only [Bool.false_eq_true, if_false] at q9 ⊢
        exact fin I9 q9
      | true =>
        simp only [if_true] at q9 ⊢
        refine wpAny_mono ((pe (fun u s' => ∃ (pn' : List (Addr × Obj)) (σ' : L2.St) (H' : Hp) (sx : Shared), Inv (X.blk s3 H3 scope ce fp) pn' σ' H' sx ∧ L2N.CX X.prog X.w X.stack H' sx E u s') (fun pn' σ' H' sx u s' J c => ⟨pn', σ', H', sx, inv_xe (xe := fun _ _ => False) J, c⟩)).run _ s9 σ8 H9 _ (inv_xe I9) q9) (fun z s10 hz => ?_) fun u s' hx => ?_
        · obtain ⟨yv, H10, I10, r10, acc, hD10, hz10, nx⟩ := hz
          exact app_ok (X := X.blk s3 H3 scope ce fp) (inv_xe (xe := fun _ _ => False) I10) hD10 hz10 r10 fun s11 I11 => fin I11 nx
        · obtain ⟨pn', σ', H', sx, J, c⟩ := hx
          have hr := comp_raise hs hf cF tk (fun cls d H h => hW cls d σ H h) I3 f3 cL J c
          unfold notedBy at hr ⊢
          exact wpAny_mono hr (fun _ s'' q => rer _ _ q) fun _ _ z => rer _ _ z
  have hL : (newEnv scope s3.heap.objs.size X.env.globals (cellsFrom (s3.heap.objs.size + 1) scope.names []) X.env.qual Option.none Value.none (some X.env) builtinsNs).locals = ce.locals := cL.symm
  rw [hcE builtinsNs, hL]
  have loop := R0 (R := fun r s' => match r with
          | .ok _ => wpAny (model X.prog X.w) X.A (assign (.Name y py) X.env (.ref D)) (fun _ s'' => ∃ m, s''.heap.Ns ce.locals m ∧ ∀ h', Heap.SameBut ce.locals s''.heap h' → SP X pins DD .next { s'' with heap := h' }) X.xe s'
          | .error x => ∃ m, s'.heap.Ns ce.locals m ∧ ∀ h', Heap.SameBut ce.locals s'.heap h' → wpAny (model X.prog X.w) X.A (passOn "comprehension.variables-let-go" x ce) (fun _ s' => SP X pins DD .next s') X.xe { s' with heap := h' }) (fun _ h => h) fun x s' ⟨m, hn, k⟩ => ⟨m, hn, fun h' sb => k h' sb⟩
  exact codeAny_compStart_list loop (T.self X.A 0 _ _ _ st4 loop)
/-! ### a, *b = a list -/
def gStar (K : PySem.W.Frag) (t : TGs) : TG := fun v σ H Q => ∃ a x xs, v = .ref a ∧ SqL K H a (x :: xs) ∧ ∀ D, H D = Option.none → t [x, .ref D] σ (upd H D (.lst xs)) Q
theorem pg_star {X : Cx} {es : List Expr} {k : Nat} {t : TGs} {pos : Pos} (hc : X.calm = true) (h : PGs X es t)
    (hn : (assignEach es X.env).length = 2 := by rfl) (hst : (assignEach es X.env).findIdx? (·.1) = some 1 := by rfl) : PG X (.Tuple es k pos) (gStar X.K t) := by
  refine ⟨fun pins s σ H v u Q I r hw => ?_⟩
  obtain ⟨a, x, xs, e1, hq, hw⟩ := hw
  subst e1
  cases r
  obtain ⟨its, rv, pl, hz⟩ := I.list hq
  obtain ⟨y, ys, e, rx, rxs⟩ : ∃ y ys, its = y :: ys ∧ RelV x y ∧ Vals xs ys := by
    cases rv with
    | cons h1 h2 => exact ⟨_, _, rfl, h1, h2⟩
  subst e
  have hl : s.heap.IsList a (y :: ys).toArray := by
    obtain ⟨o, m, e, c, d, q⟩ := pl
    exact ⟨o, e, c, m, q⟩
  rw [PyProof.Rows.assign_Tuple]
  refine wpAny_bind (wpAny_standAt ?_)
  unfold unpack
  rw [hn, hst]
  have hlt : a ≠ s.heap.objs.size := by obtain ⟨o, ho, _⟩ := hl; exact Nat.ne_of_lt (Heap.lt_size ho)
  refine wpAny_bind (wpAny_holding ?_)
  unfold unpackItems
  refine wpAny_bind ?_
  unfold notIterableAtAll
  refine wpAny_bind (wpAny_specialOf hl.typeIs slot_list_iter.lookup (wpAny_pure ?_))
  simp only [Bool.false_eq_true, if_false]
  refine wpAny_bind (wpAny_holding (wpAny_pyIter_list hl ?_))
  refine wpAny_bind (wpAny_holding (PySem.W.kun_draw hlt 1 0 _ _ ⟨_, Heap.get?_push_size _ rfl, rfl, rfl⟩ (hl.push _) (by simp) fun h₁ hit₁ hs₁ => ?_))
  have hl₁ : h₁.IsList a (y :: ys).toArray := (hl.push _).extBut hs₁.extBut hlt
  obtain ⟨oi, hoi, _⟩ := id hit₁
  obtain ⟨ol, hol, _⟩ := id hl₁
  show wpAny _ _ (do let rest ← holding [y] (collect (.ref s.heap.objs.size)); _) _ _ _
  refine wpAny_bind (wpAny_holding (PySem.W.kun_collect (s := { s with heap := h₁ }) (T := "list_iterator") (.inr (.inr (.inl rfl))) (Walks.list (A := X.A.in1) (I.ok.hd hc) s.heap.objs.size a hlt (y :: ys).toArray) (fun j u st => st.1.typeIs) (k := 1) (by simp) ⟨hit₁, hl₁⟩ (Heap.lt_size hoi) (Heap.lt_size hol) (fun h₂ tk hk => ?_) (by have := rxs.length; simp only [List.size_toArray, List.length_cons]; simp only [List.length_cons] at hz; omega)))
  have he : Heap.ExtBut s.heap.objs.size s.heap h₂ := fun b o hb e => hk b o hb (hs₁.extBut b o hb (Heap.get?_push_of_some _ e))
  have I1 : Inv X pins σ H { s with heap := h₂, toks := tk } := I.kept (t' := tk) fun b o e => he b o (Nat.ne_of_lt (Heap.lt_size e)) e
  have e1 : (List.drop 1 (y :: ys).toArray.toList) = ys := by simp
  have e2 : (List.take 1 (List.drop 0 (y :: ys).toArray.toList)) = [y] := by simp
  rw [e1, e2, if_neg (by omega)]
  have e3 : List.take (ys.length - (2 - 1 - 1)) ys = ys := by simp
  have e4 : List.drop (ys.length - (2 - 1 - 1)) ys = [] := by simp
  rw [e3, e4]
  have hzy : ys.length ≤ sizeLine := by
    have := rxs.length
    simp only [List.length_cons] at hz
    omega
  refine wpAny_bind (wpAny_newObj_type (wpAny_pure ?_) (by show ys.toArray.size ≤ sizeLine; simpa using hzy))
  have hD : H h₂.objs.size = Option.none := I1.hok.fresh (Nat.le_refl _)
  have I2 : Inv X pins σ (upd H h₂.objs.size (.lst xs)) { s with heap := h₂.push { cls := .type "list", data := .seq ys.toArray }, toks := tk } :=
    I1.laid (t' := tk) (fun b o e => Heap.get?_push_of_some _ e) (Nat.le_refl _) ⟨by have := rxs.length; omega, ys, 0, rxs, Heap.get?_push_size _ rfl⟩
  exact h.run pins _ σ _ [x, .ref h₂.objs.size] [y, .ref h₂.objs.size] Q I2 (.cons rx (.cons rfl .nil)) (hw _ hD)
theorem pg_starK {X : Cx} {K : PySem.W.Frag} {es : List Expr} {k : Nat} {t : TGs} {pos : Pos} (hc : X.calm = true) (h : PGs X es t) (hK : X.K = K := by rfl)
    (hn : (assignEach es X.env).length = 2 := by rfl) (hst : (assignEach es X.env).findIdx? (·.1) = some 1 := by rfl) : PG X (.Tuple es k pos) (gStar K t) := by subst hK; exact pg_star hc h hn hst
theorem pgs_star {X : Cx} {e : Expr} {es : List Expr} {t : TG} {u : TGs} {p : Pos} (h1 : PG X e t) (h2 : PGs X es u) : PGs X (.Starred e p :: es) (gCons t u) := by
  refine ⟨fun pins s σ H vs us Q I r h => ?_⟩
  obtain ⟨v, vr, e1, h⟩ := h
  subst e1
  cases r with
  | cons r rr =>
    show wpAny _ _ (assignInOrder (assign e X.env :: (assignEach es X.env).map (·.2)) _) _ _ _
    refine PyProof.Rows.assignInOrder_cons (thn (h1.run pins s σ H _ _ _ I r h) fun _ s1 ⟨σ1, H1, I1, q1⟩ => ?_)
    exact h2.run pins s1 σ1 H1 _ _ Q I1 rr q1
section
variable {K : PySem.W.Frag} {a : Addr} {x : V} {xs : List V} {t : TGs} {σ : List (Option V)} {H : Hp} {nx : List (Option V) → Hp → Prop}
theorem s_gStar {W : List Addr} {H0 : Hp} {M I : List (Addr × HO)} (hs : Hs W H0 H M I) (h1 : SqL K H a (x :: xs)) (h : ∀ D H', Hs W H0 H' ((D, .lst xs) :: M) I → Upto [] H H' → H D = Option.none → t [x, .ref D] σ H' nx) : gStar K t (.ref a) σ H nx :=
  ⟨a, x, xs, rfl, h1, fun D hD => h D _ (hs.new hD _) (Upto.new hD) hD⟩
end
/-! ### texts read -/
def rAscii : V → List V → Hp → VK → Prop := fun x xs H Q => ∃ a, x = .str a ∧ xs = [] ∧ True ∧ Q (.bl (Txt.isascii a)) H
def rDigit : V → List V → Hp → VK → Prop := fun x xs H Q => ∃ a, x = .str a ∧ xs = [] ∧ True ∧ Q (.bl (Txt.isdigit a)) H
def rSplit : V → List V → Hp → VK → Prop := fun x xs H Q => ∃ a b, x = .str a ∧ xs = [.str b] ∧ (b.length == 0) = false ∧ a.length + 2 ≤ sizeLine ∧ rNewStrs (Txt.split a b) H Q
def rLenT : List V → Hp → VK → Prop := fun xs H Q => ∃ z, xs = [.str z] ∧ z.length ≤ sizeLine ∧ Q (.int z.length) H
def rIntT : List V → Hp → VK → Prop := fun xs H Q => ∃ a n, xs = [.str a] ∧ PySem.intText? a = some n ∧ a.length ≤ 640 ∧ Q (.int n) H
theorem mt_isasciiR {X : Cx} : MtR X "str.isascii" rAscii := mt_isascii
theorem mt_isdigitR {X : Cx} : MtR X "str.isdigit" rDigit := mt_isdigit
theorem pe_splitR {X : Cx} {o e : Expr} {to te : TE} {apos pos : Pos} (ho : PE X o to) (he : PE X e te) (hs : starEach [e] X.env = [(false, eval e X.env)] := by rfl) (hbase : attributeBase o "split" X.env (eval o X.env) = eval o X.env := by rfl) (hline : (apos.endLine == pos.line) = true := by rfl) :
    PE X (.Call (.Attribute o "split" apos) [e] [] pos) (tM1 rSplit to te) := pe_split ho he hs hbase hline
theorem call_len_strR {X : Cx} : CallR X (.builtin "len") rLenT := call_len_str
theorem call_int_strR {X : Cx} : CallR X (.type "int") rIntT := call_int_str
section
variable {K : PySem.W.Frag} {a b : Str} {H H0 : Hp} {Q : VK} {W : List Addr} {M I : List (Addr × HO)} {n : Int} {p : Addr} {x : V} {xs : List V}
theorem s_ascii (h : Q (.bl (Txt.isascii a)) H) : rAscii (.str a) [] H Q := ⟨a, rfl, rfl, trivial, h⟩
theorem s_digit (h : Q (.bl (Txt.isdigit a)) H) : rDigit (.str a) [] H Q := ⟨a, rfl, rfl, trivial, h⟩
theorem s_split (hs : Hs W H0 H M I) (hb : (b.length == 0) = false) (hz : a.length + 2 ≤ sizeLine) (h : ∀ p H', Hs W H0 H' ((p, .lst ((Txt.split a b).map V.str)) :: M) I → Upto [] H H' → H p = Option.none → Q (.ref p) H') : rSplit (.str a) [.str b] H Q :=
  ⟨a, b, rfl, rfl, hb, hz, fun p hp => h p _ (hs.new hp _) (Upto.new hp) hp⟩
theorem s_lenStr (hz : a.length ≤ sizeLine) (h : Q (.int a.length) H) : rLenT [.str a] H Q := ⟨a, rfl, hz, h⟩
theorem s_intT (hn : PySem.intText? a = some n) (hz : a.length ≤ 640) (h : Q (.int n) H) : rIntT [.str a] H Q := ⟨a, n, rfl, hn, hz, h⟩
theorem s_inTup (h1 : SqT K H p xs) (hx : flatV x = true) (hf : xs.all flatV = true) (h : Q (.bl (inV x xs)) H) : rIn K false x (.ref p) H Q := ⟨p, xs, rfl, .inr h1, hx, hf, h⟩
theorem s_inLst (h1 : SqL K H p xs) (hx : flatV x = true) (hf : xs.all flatV = true) (h : Q (.bl (inV x xs)) H) : rIn K false x (.ref p) H Q := ⟨p, xs, rfl, .inl h1, hx, hf, h⟩
end
end RL
namespace RL
open PySem L2 StX
/-! ### texts -/
def rStrI : List V → Hp → VK → Prop := fun xs H Q => ∃ i, xs = [.int i] ∧ i.natAbs.log2 < 1920 ∧ Q (.str (toString i)) H
theorem call_strI {X : Cx} : CallR X (.type "str") rStrI := call_str_int
/-- a whole number, as a text -/
def txtI (i : Int) : Str := Str.ofString (toString i)
theorem log2_small {i : Int} (h : i.natAbs < 2 ^ 60) : i.natAbs.log2 < 1920 := by
  by_cases z : i.natAbs = 0
  · rw [z]; decide
  · exact Nat.lt_of_lt_of_le ((Nat.log2_lt z).mpr h) (by decide)
theorem txtI_len {i : Int} (h0 : 0 ≤ i) (h1 : i < 10 ^ 17) : (txtI i).length ≤ 17 := PyProof.Rows.toString_length_le h0 (by decide) h1
def rJoinK (K : PySem.W.Frag) : V → List V → Hp → VK → Prop := fun x xs H Q => ∃ a p, ∃ ys : List Str, x = .str a ∧ xs = [.ref p] ∧ (SqL K H p (ys.map V.str) ∨ SqT K H p (ys.map V.str)) ∧
      (ys.map (·.length)).sum + ys.length * a.length ≤ 16777216 ∧ Q (.str (Txt.join a ys)) H
theorem pe_joinK {X : Cx} {K : PySem.W.Frag} {o e : Expr} {to te : TE} {apos pos : Pos} (ho : PE X o to) (he : PE X e te) (hK : X.K = K := by rfl) (hs : starEach [e] X.env = [(false, eval e X.env)] := by rfl) (hbase : attributeBase o "join" X.env (eval o X.env) = eval o X.env := by rfl) (hline : (apos.endLine == pos.line) = true := by rfl) :
    PE X (.Call (.Attribute o "join" apos) [e] [] pos) (tM1 (rJoinK K) to te) := by subst hK; exact pe_join ho he hs hbase hline
def kTxt (r : V → List V → Hp → VK → Prop) (te : TE) (σ : St) (Q : VK) : VK := fun x H1 => (∃ a, x = .str a) ∧ te σ H1 fun y H2 => r x [y] H2 Q
def kTxt0 (r : V → List V → Hp → VK → Prop) (Q : VK) : VK := fun x H1 => (∃ a, x = .str a) ∧ r x [] H1 Q
def kFmt (Q : VK) : VK := fun x H1 => (∃ y : Str, x = .str y ∧ y.length ≤ sizeLine ∧ Q (.str y) H1) ∨ ∃ i : Int, x = .int i ∧ i.natAbs.log2 < 1920 ∧ Q (.str (toString i)) H1
def kJs (ts : List TE) (acc : Str) (σ : St) (Q : Str → Hp → Prop) : VK := fun x H1 => ∃ y : Str, x = .str y ∧ (acc ++ y).length ≤ sizeLine ∧ tJs ts (acc ++ y) σ H1 Q
def tJoined (ts : List TE) : TE := fun σ H Q => tJs ts Str.empty σ H fun out H1 => Q (.str out) H1
theorem pe_joinedT {X : Cx} {v1 v2 : Expr} {rest : List Expr} {ts : List TE} {pos : Pos} (h : PJ X (v1 :: v2 :: rest) ts) : PE X (.JoinedStr (v1 :: v2 :: rest) pos) (tJoined ts) := pe_joined h
section
variable {σ : St} {H : Hp} {Q : VK} {QS : Str → Hp → Prop} {te to t : TE} {ts : List TE} {r : V → List V → Hp → VK → Prop} {i : Int} {x y acc a : Str} {K : PySem.W.Frag} {p : Addr} {ys : List Str}
theorem s_strI (hz : i.natAbs < 2 ^ 60) (h : Q (.str (txtI i)) H) : rStrI [.int i] H Q := ⟨i, rfl, log2_small hz, h⟩
theorem s_m1 (h : to σ H (kTxt r te σ Q)) : tM1 r to te σ H Q := h
theorem s_m0 (h : to σ H (kTxt0 r Q)) : tM0 r to σ H Q := h
theorem s_kTxt (h : te σ H fun y H2 => r (.str x) [y] H2 Q) : kTxt r te σ Q (.str x) H := ⟨⟨x, rfl⟩, h⟩
theorem s_kTxt0 (h : r (.str x) [] H Q) : kTxt0 r Q (.str x) H := ⟨⟨x, rfl⟩, h⟩
theorem s_joinT (h1 : SqL K H p (ys.map V.str)) (hz : (ys.map (·.length)).sum + ys.length * a.length ≤ 16777216) (h : Q (.str (Str.join a ys)) H) : rJoinK K (.str a) [.ref p] H Q := ⟨a, p, ys, rfl, rfl, .inl h1, hz, by rw [TL.join_eq]; exact h⟩
theorem s_fmt (h : te σ H (kFmt Q)) : tFmt te σ H Q := h
theorem s_kFmtI (hz : i.natAbs < 2 ^ 60) (h : Q (.str (txtI i)) H) : kFmt Q (.int i) H := .inr ⟨i, rfl, log2_small hz, h⟩
theorem s_kFmtS (hz : x.length ≤ sizeLine) (h : Q (.str x) H) : kFmt Q (.str x) H := .inl ⟨x, rfl, hz, h⟩
theorem s_joined (h : tJs ts Str.empty σ H fun out H1 => Q (.str out) H1) : tJoined ts σ H Q := h
theorem s_js (h : t σ H (kJs ts acc σ QS)) : tJs (t :: ts) acc σ H QS := h
theorem s_js0 (h : QS acc H) : tJs [] acc σ H QS := h
theorem s_kJs (hz : (acc ++ y).length ≤ sizeLine) (h : tJs ts (acc ++ y) σ H QS) : kJs ts acc σ QS (.str y) H := ⟨y, rfl, hz, h⟩
end
def rAddS : R2 := fun x y H Q => ∃ i j, x = .str i ∧ y = .str j ∧ i.length + j.length ≤ sizeLine ∧ Q (.str (i ++ j)) H
theorem op_addS {X : Cx} : OpR X (binaryOp .Add) rAddS := op_add_str
theorem s_addS {i j : Str} {H : Hp} {Q : VK} (hz : i.length + j.length ≤ sizeLine) (h : Q (.str (i ++ j)) H) : rAddS (.str i) (.str j) H Q := ⟨i, j, rfl, rfl, hz, h⟩
theorem cr_sumK {X : Cx} {K : PySem.W.Frag} (hc : X.calm = true) (hK : X.K = K := by rfl) : CallR X (.builtin "sum") (rSum K) := by subst hK; exact cr_sum hc
theorem s_sumL {K : PySem.W.Frag} {H : Hp} {Q : VK} {a : Addr} {ns : List Int} (h1 : SqL K H a (ns.map V.int)) (h : Q (.int ns.sum) H) : rSum K [.ref a] H Q := ⟨a, ns, rfl, h1, h⟩
theorem Str.len_app (x y : Str) : (x ++ y).length = x.length + y.length := by rw [TL.len_tl, TL.tl_append, List.length_append, ← TL.len_tl, ← TL.len_tl]
theorem Str.app_assoc (x y z : Str) : x ++ y ++ z = x ++ (y ++ z) := by
  apply TL.ext_tl
  rw [TL.tl_append, TL.tl_append, TL.tl_append, TL.tl_append, List.append_assoc]
theorem Str.empty_app (x : Str) : Str.empty ++ x = x := by
  apply TL.ext_tl
  rw [TL.tl_append]
  rfl
end RL
namespace RL
open PySem L2 StX
def top (i : Nat) : Stmt := PySem.Challenge.pw_ringlog_k15_refusals_stand_apart.main.body.getD i (.Pass ⟨0, 0, 0, 0⟩)
abbrev st_wall : Stmt := top 0
abbrev st_made : Stmt := top 12
abbrev st_made_mark : Stmt := top 13
abbrev st_made_farewell : Stmt := top 14
abbrev st_is_farewell : Stmt := top 15
abbrev st_kind : Stmt := top 16
abbrev st_pieces : Stmt := top 17
abbrev st_length_of : Stmt := top 18
abbrev st_words_of : Stmt := top 19
abbrev st_newest : Stmt := top 33
abbrev st_number_in_last_place : Stmt := top 34
abbrev st_newest_of_round : Stmt := top 35
abbrev st_rows_in : Stmt := top 37
abbrev st_cut_in : Stmt := top 38
abbrev st_by_row : Stmt := top 39
abbrev st_has_last : Stmt := top 40
abbrev st_is_whole : Stmt := top 42
abbrev st_is_row : Stmt := top 46
abbrev st_blocks_of_use : Stmt := top 47
abbrev st_floor_under : Stmt := top 48
abbrev st_Log___init__ : Stmt := inClass (top 49) 0
abbrev st_Log_rows : Stmt := inClass (top 49) 1
abbrev st_Log_room : Stmt := inClass (top 49) 2
abbrev st_Log_scars : Stmt := inClass (top 49) 3
abbrev st_Log_gone : Stmt := inClass (top 49) 4
abbrev st_Log_put : Stmt := inClass (top 49) 5
abbrev st_Log_take : Stmt := inClass (top 49) 6
abbrev st_Log_take_all : Stmt := inClass (top 49) 7
abbrev st_Log_leave : Stmt := inClass (top 49) 8
abbrev st_Log__need_here : Stmt := inClass (top 49) 9
abbrev st_Log__write : Stmt := inClass (top 49) 10
abbrev st_Log__write_end : Stmt := inClass (top 49) 11
abbrev st_Log__wrote : Stmt := inClass (top 49) 12
abbrev st_carry : Stmt := top 51
abbrev st_is_block : Stmt := top 59
abbrev st_Disk___init__ : Stmt := inClass (top 60) 0
abbrev st_Disk_blocks : Stmt := inClass (top 60) 1
abbrev st_Disk_read : Stmt := inClass (top 60) 2
abbrev st_Disk_write : Stmt := inClass (top 60) 3
abbrev st_Disk_reads : Stmt := inClass (top 60) 4
abbrev st_Disk_writes : Stmt := inClass (top 60) 5
abbrev st_Disk_stop_after : Stmt := inClass (top 60) 6
abbrev st_Disk_go_on : Stmt := inClass (top 60) 7
abbrev st_Disk_twin : Stmt := inClass (top 60) 8
abbrev st_Disk__need_place : Stmt := inClass (top 60) 9
abbrev st_Disk__write_part : Stmt := inClass (top 60) 10
abbrev st_order_of : Stmt := top 63
abbrev st_row_in : Stmt := top 64
abbrev st_number_in : Stmt := top 65
abbrev st_law_taken : Stmt := top 67
abbrev st_law_odd : Stmt := top 68
abbrev st_law_of_disks : Stmt := top 69
abbrev st_law_of_logs : Stmt := top 70
abbrev st_law_kinds : Stmt := top 71
abbrev st_law : Stmt := top 72
structure Ad where
  none_ : Unit
  LogError : Addr
  BadDisk : Addr
  NoBlock : Addr
  BadBlock : Addr
  BadStop : Addr
  Stopped : Addr
  BadRow : Addr
  Full : Addr
  Empty : Addr
  Gone : Addr
  BadOrder : Addr
  Log : Addr
  Disk : Addr
structure Txt (K : PySem.W.Frag) (mg : Str → Option Value) (Z : Ad) : Prop where
  ok_ : True
  m_ValueError : mg "ValueError" = none
  m_all : mg "all" = none
  m_bool : mg "bool" = none
  m_enumerate : mg "enumerate" = none
  m_int : mg "int" = none
  m_isinstance : mg "isinstance" = none
  m_len : mg "len" = none
  m_list : mg "list" = none
  m_range : mg "range" = none
  m_str : mg "str" = none
  m_sum : mg "sum" = none
  m_tuple : mg "tuple" = none
  cl_Log : Cls K Z.Log
  g_Log : mg "Log" = some (.ref Z.Log)
  na_Log__cut : NoAttr K Z.Log "_cut"
  na_Log__disk : NoAttr K Z.Log "_disk"
  na_Log__gone : NoAttr K Z.Log "_gone"
  na_Log__number : NoAttr K Z.Log "_number"
  na_Log__rows : NoAttr K Z.Log "_rows"
  na_Log__torn : NoAttr K Z.Log "_torn"
  cl_Disk : Cls K Z.Disk
  g_Disk : mg "Disk" = some (.ref Z.Disk)
  na_Disk__blocks : NoAttr K Z.Disk "_blocks"
  na_Disk__let : NoAttr K Z.Disk "_let"
  na_Disk__part : NoAttr K Z.Disk "_part"
  na_Disk__reads : NoAttr K Z.Disk "_reads"
  na_Disk__writes : NoAttr K Z.Disk "_writes"
  g_BadBlock : mg "BadBlock" = some (.ref Z.BadBlock)
  x_BadBlock : PySem.W.excIn K Z.BadBlock [.type "ValueError", .type "Exception", .type "BaseException", .type "object"] "ValueError.__new__" = true
  kp_BadBlock : PySem.W.keepIn K (.ref Z.BadBlock) = true
  sb_BadBlock : PySem.W.subIn K (.ref Z.BadBlock) (.type "BaseException") = some true
  ty_BadBlock : PySem.W.typeIn K (.ref Z.BadBlock) = some (.type "type")
  g_BadDisk : mg "BadDisk" = some (.ref Z.BadDisk)
  x_BadDisk : PySem.W.excIn K Z.BadDisk [.type "ValueError", .type "Exception", .type "BaseException", .type "object"] "ValueError.__new__" = true
  kp_BadDisk : PySem.W.keepIn K (.ref Z.BadDisk) = true
  sb_BadDisk : PySem.W.subIn K (.ref Z.BadDisk) (.type "BaseException") = some true
  ty_BadDisk : PySem.W.typeIn K (.ref Z.BadDisk) = some (.type "type")
  g_BadOrder : mg "BadOrder" = some (.ref Z.BadOrder)
  x_BadOrder : PySem.W.excIn K Z.BadOrder [.type "ValueError", .type "Exception", .type "BaseException", .type "object"] "ValueError.__new__" = true
  kp_BadOrder : PySem.W.keepIn K (.ref Z.BadOrder) = true
  sb_BadOrder : PySem.W.subIn K (.ref Z.BadOrder) (.type "BaseException") = some true
  ty_BadOrder : PySem.W.typeIn K (.ref Z.BadOrder) = some (.type "type")
  g_BadRow : mg "BadRow" = some (.ref Z.BadRow)
  x_BadRow : PySem.W.excIn K Z.BadRow [.type "ValueError", .type "Exception", .type "BaseException", .type "object"] "ValueError.__new__" = true
  kp_BadRow : PySem.W.keepIn K (.ref Z.BadRow) = true
  sb_BadRow : PySem.W.subIn K (.ref Z.BadRow) (.type "BaseException") = some true
  ty_BadRow : PySem.W.typeIn K (.ref Z.BadRow) = some (.type "type")
  g_BadStop : mg "BadStop" = some (.ref Z.BadStop)
  x_BadStop : PySem.W.excIn K Z.BadStop [.type "ValueError", .type "Exception", .type "BaseException", .type "object"] "ValueError.__new__" = true
  kp_BadStop : PySem.W.keepIn K (.ref Z.BadStop) = true
  sb_BadStop : PySem.W.subIn K (.ref Z.BadStop) (.type "BaseException") = some true
  ty_BadStop : PySem.W.typeIn K (.ref Z.BadStop) = some (.type "type")
  g_Empty : mg "Empty" = some (.ref Z.Empty)
  x_Empty : PySem.W.excIn K Z.Empty [.type "ValueError", .type "Exception", .type "BaseException", .type "object"] "ValueError.__new__" = true
  kp_Empty : PySem.W.keepIn K (.ref Z.Empty) = true
  sb_Empty : PySem.W.subIn K (.ref Z.Empty) (.type "BaseException") = some true
  ty_Empty : PySem.W.typeIn K (.ref Z.Empty) = some (.type "type")
  g_Full : mg "Full" = some (.ref Z.Full)
  x_Full : PySem.W.excIn K Z.Full [.type "ValueError", .type "Exception", .type "BaseException", .type "object"] "ValueError.__new__" = true
  kp_Full : PySem.W.keepIn K (.ref Z.Full) = true
  sb_Full : PySem.W.subIn K (.ref Z.Full) (.type "BaseException") = some true
  ty_Full : PySem.W.typeIn K (.ref Z.Full) = some (.type "type")
  g_Gone : mg "Gone" = some (.ref Z.Gone)
  x_Gone : PySem.W.excIn K Z.Gone [.type "ValueError", .type "Exception", .type "BaseException", .type "object"] "ValueError.__new__" = true
  kp_Gone : PySem.W.keepIn K (.ref Z.Gone) = true
  sb_Gone : PySem.W.subIn K (.ref Z.Gone) (.type "BaseException") = some true
  ty_Gone : PySem.W.typeIn K (.ref Z.Gone) = some (.type "type")
  g_LogError : mg "LogError" = some (.ref Z.LogError)
  x_LogError : PySem.W.excIn K Z.LogError [.type "ValueError", .type "Exception", .type "BaseException", .type "object"] "ValueError.__new__" = true
  kp_LogError : PySem.W.keepIn K (.ref Z.LogError) = true
  sb_LogError : PySem.W.subIn K (.ref Z.LogError) (.type "BaseException") = some true
  ty_LogError : PySem.W.typeIn K (.ref Z.LogError) = some (.type "type")
  g_NoBlock : mg "NoBlock" = some (.ref Z.NoBlock)
  x_NoBlock : PySem.W.excIn K Z.NoBlock [.type "ValueError", .type "Exception", .type "BaseException", .type "object"] "ValueError.__new__" = true
  kp_NoBlock : PySem.W.keepIn K (.ref Z.NoBlock) = true
  sb_NoBlock : PySem.W.subIn K (.ref Z.NoBlock) (.type "BaseException") = some true
  ty_NoBlock : PySem.W.typeIn K (.ref Z.NoBlock) = some (.type "type")
  g_Stopped : mg "Stopped" = some (.ref Z.Stopped)
  x_Stopped : PySem.W.excIn K Z.Stopped [.type "ValueError", .type "Exception", .type "BaseException", .type "object"] "ValueError.__new__" = true
  kp_Stopped : PySem.W.keepIn K (.ref Z.Stopped) = true
  sb_Stopped : PySem.W.subIn K (.ref Z.Stopped) (.type "BaseException") = some true
  ty_Stopped : PySem.W.typeIn K (.ref Z.Stopped) = some (.type "type")
  ec_BadBlock : ExcC K Z.BadBlock
  kv_BadBlock : PySem.W.kitOne K (.ref Z.BadBlock) (.type "ValueError") = some true
  ki_BadBlock_BadBlock : PySem.W.kitOne K (.ref Z.BadBlock) (.ref Z.BadBlock) = some true
  ki_BadBlock_BadDisk : PySem.W.kitOne K (.ref Z.BadBlock) (.ref Z.BadDisk) = some false
  ki_BadBlock_BadOrder : PySem.W.kitOne K (.ref Z.BadBlock) (.ref Z.BadOrder) = some false
  ki_BadBlock_BadRow : PySem.W.kitOne K (.ref Z.BadBlock) (.ref Z.BadRow) = some false
  ki_BadBlock_BadStop : PySem.W.kitOne K (.ref Z.BadBlock) (.ref Z.BadStop) = some false
  ki_BadBlock_Empty : PySem.W.kitOne K (.ref Z.BadBlock) (.ref Z.Empty) = some false
  ki_BadBlock_Full : PySem.W.kitOne K (.ref Z.BadBlock) (.ref Z.Full) = some false
  ki_BadBlock_Gone : PySem.W.kitOne K (.ref Z.BadBlock) (.ref Z.Gone) = some false
  ki_BadBlock_NoBlock : PySem.W.kitOne K (.ref Z.BadBlock) (.ref Z.NoBlock) = some false
  ki_BadBlock_Stopped : PySem.W.kitOne K (.ref Z.BadBlock) (.ref Z.Stopped) = some false
  ec_BadDisk : ExcC K Z.BadDisk
  kv_BadDisk : PySem.W.kitOne K (.ref Z.BadDisk) (.type "ValueError") = some true
  ki_BadDisk_BadBlock : PySem.W.kitOne K (.ref Z.BadDisk) (.ref Z.BadBlock) = some false
  ki_BadDisk_BadDisk : PySem.W.kitOne K (.ref Z.BadDisk) (.ref Z.BadDisk) = some true
  ki_BadDisk_BadOrder : PySem.W.kitOne K (.ref Z.BadDisk) (.ref Z.BadOrder) = some false
  ki_BadDisk_BadRow : PySem.W.kitOne K (.ref Z.BadDisk) (.ref Z.BadRow) = some false
  ki_BadDisk_BadStop : PySem.W.kitOne K (.ref Z.BadDisk) (.ref Z.BadStop) = some false
  ki_BadDisk_Empty : PySem.W.kitOne K (.ref Z.BadDisk) (.ref Z.Empty) = some false
  ki_BadDisk_Full : PySem.W.kitOne K (.ref Z.BadDisk) (.ref Z.Full) = some false
  ki_BadDisk_Gone : PySem.W.kitOne K (.ref Z.BadDisk) (.ref Z.Gone) = some false
  ki_BadDisk_NoBlock : PySem.W.kitOne K (.ref Z.BadDisk) (.ref Z.NoBlock) = some false
  ki_BadDisk_Stopped : PySem.W.kitOne K (.ref Z.BadDisk) (.ref Z.Stopped) = some false
  ec_BadOrder : ExcC K Z.BadOrder
  kv_BadOrder : PySem.W.kitOne K (.ref Z.BadOrder) (.type "ValueError") = some true
  ki_BadOrder_BadBlock : PySem.W.kitOne K (.ref Z.BadOrder) (.ref Z.BadBlock) = some false
  ki_BadOrder_BadDisk : PySem.W.kitOne K (.ref Z.BadOrder) (.ref Z.BadDisk) = some false
  ki_BadOrder_BadOrder : PySem.W.kitOne K (.ref Z.BadOrder) (.ref Z.BadOrder) = some true
  ki_BadOrder_BadRow : PySem.W.kitOne K (.ref Z.BadOrder) (.ref Z.BadRow) = some false
  ki_BadOrder_BadStop : PySem.W.kitOne K (.ref Z.BadOrder) (.ref Z.BadStop) = some false
  ki_BadOrder_Empty : PySem.W.kitOne K (.ref Z.BadOrder) (.ref Z.Empty) = some false
  ki_BadOrder_Full : PySem.W.kitOne K (.ref Z.BadOrder) (.ref Z.Full) = some false
  ki_BadOrder_Gone : PySem.W.kitOne K (.ref Z.BadOrder) (.ref Z.Gone) = some false
  ki_BadOrder_NoBlock : PySem.W.kitOne K (.ref Z.BadOrder) (.ref Z.NoBlock) = some false
  ki_BadOrder_Stopped : PySem.W.kitOne K (.ref Z.BadOrder) (.ref Z.Stopped) = some false
  ec_BadRow : ExcC K Z.BadRow
  kv_BadRow : PySem.W.kitOne K (.ref Z.BadRow) (.type "ValueError") = some true
  ki_BadRow_BadBlock : PySem.W.kitOne K (.ref Z.BadRow) (.ref Z.BadBlock) = some false
  ki_BadRow_BadDisk : PySem.W.kitOne K (.ref Z.BadRow) (.ref Z.BadDisk) = some false
  ki_BadRow_BadOrder : PySem.W.kitOne K (.ref Z.BadRow) (.ref Z.BadOrder) = some false
  ki_BadRow_BadRow : PySem.W.kitOne K (.ref Z.BadRow) (.ref Z.BadRow) = some true
  ki_BadRow_BadStop : PySem.W.kitOne K (.ref Z.BadRow) (.ref Z.BadStop) = some false
  ki_BadRow_Empty : PySem.W.kitOne K (.ref Z.BadRow) (.ref Z.Empty) = some false
  ki_BadRow_Full : PySem.W.kitOne K (.ref Z.BadRow) (.ref Z.Full) = some false
  ki_BadRow_Gone : PySem.W.kitOne K (.ref Z.BadRow) (.ref Z.Gone) = some false
  ki_BadRow_NoBlock : PySem.W.kitOne K (.ref Z.BadRow) (.ref Z.NoBlock) = some false
  ki_BadRow_Stopped : PySem.W.kitOne K (.ref Z.BadRow) (.ref Z.Stopped) = some false
  ec_BadStop : ExcC K Z.BadStop
  kv_BadStop : PySem.W.kitOne K (.ref Z.BadStop) (.type "ValueError") = some true
  ki_BadStop_BadBlock : PySem.W.kitOne K (.ref Z.BadStop) (.ref Z.BadBlock) = some false
  ki_BadStop_BadDisk : PySem.W.kitOne K (.ref Z.BadStop) (.ref Z.BadDisk) = some false
  ki_BadStop_BadOrder : PySem.W.kitOne K (.ref Z.BadStop) (.ref Z.BadOrder) = some false
  ki_BadStop_BadRow : PySem.W.kitOne K (.ref Z.BadStop) (.ref Z.BadRow) = some false
  ki_BadStop_BadStop : PySem.W.kitOne K (.ref Z.BadStop) (.ref Z.BadStop) = some true
  ki_BadStop_Empty : PySem.W.kitOne K (.ref Z.BadStop) (.ref Z.Empty) = some false
  ki_BadStop_Full : PySem.W.kitOne K (.ref Z.BadStop) (.ref Z.Full) = some false
  ki_BadStop_Gone : PySem.W.kitOne K (.ref Z.BadStop) (.ref Z.Gone) = some false
  ki_BadStop_NoBlock : PySem.W.kitOne K (.ref Z.BadStop) (.ref Z.NoBlock) = some false
  ki_BadStop_Stopped : PySem.W.kitOne K (.ref Z.BadStop) (.ref Z.Stopped) = some false
  ec_Empty : ExcC K Z.Empty
  kv_Empty : PySem.W.kitOne K (.ref Z.Empty) (.type "ValueError") = some true
  ki_Empty_BadBlock : PySem.W.kitOne K (.ref Z.Empty) (.ref Z.BadBlock) = some false
  ki_Empty_BadDisk : PySem.W.kitOne K (.ref Z.Empty) (.ref Z.BadDisk) = some false
  ki_Empty_BadOrder : PySem.W.kitOne K (.ref Z.Empty) (.ref Z.BadOrder) = some false
  ki_Empty_BadRow : PySem.W.kitOne K (.ref Z.Empty) (.ref Z.BadRow) = some false
  ki_Empty_BadStop : PySem.W.kitOne K (.ref Z.Empty) (.ref Z.BadStop) = some false
  ki_Empty_Empty : PySem.W.kitOne K (.ref Z.Empty) (.ref Z.Empty) = some true
  ki_Empty_Full : PySem.W.kitOne K (.ref Z.Empty) (.ref Z.Full) = some false
  ki_Empty_Gone : PySem.W.kitOne K (.ref Z.Empty) (.ref Z.Gone) = some false
  ki_Empty_NoBlock : PySem.W.kitOne K (.ref Z.Empty) (.ref Z.NoBlock) = some false
  ki_Empty_Stopped : PySem.W.kitOne K (.ref Z.Empty) (.ref Z.Stopped) = some false
  ec_Full : ExcC K Z.Full
  kv_Full : PySem.W.kitOne K (.ref Z.Full) (.type "ValueError") = some true
  ki_Full_BadBlock : PySem.W.kitOne K (.ref Z.Full) (.ref Z.BadBlock) = some false
  ki_Full_BadDisk : PySem.W.kitOne K (.ref Z.Full) (.ref Z.BadDisk) = some false
  ki_Full_BadOrder : PySem.W.kitOne K (.ref Z.Full) (.ref Z.BadOrder) = some false
  ki_Full_BadRow : PySem.W.kitOne K (.ref Z.Full) (.ref Z.BadRow) = some false
  ki_Full_BadStop : PySem.W.kitOne K (.ref Z.Full) (.ref Z.BadStop) = some false
  ki_Full_Empty : PySem.W.kitOne K (.ref Z.Full) (.ref Z.Empty) = some false
  ki_Full_Full : PySem.W.kitOne K (.ref Z.Full) (.ref Z.Full) = some true
  ki_Full_Gone : PySem.W.kitOne K (.ref Z.Full) (.ref Z.Gone) = some false
  ki_Full_NoBlock : PySem.W.kitOne K (.ref Z.Full) (.ref Z.NoBlock) = some false
  ki_Full_Stopped : PySem.W.kitOne K (.ref Z.Full) (.ref Z.Stopped) = some false
  ec_Gone : ExcC K Z.Gone
  kv_Gone : PySem.W.kitOne K (.ref Z.Gone) (.type "ValueError") = some true
  ki_Gone_BadBlock : PySem.W.kitOne K (.ref Z.Gone) (.ref Z.BadBlock) = some false
  ki_Gone_BadDisk : PySem.W.kitOne K (.ref Z.Gone) (.ref Z.BadDisk) = some false
  ki_Gone_BadOrder : PySem.W.kitOne K (.ref Z.Gone) (.ref Z.BadOrder) = some false
  ki_Gone_BadRow : PySem.W.kitOne K (.ref Z.Gone) (.ref Z.BadRow) = some false
  ki_Gone_BadStop : PySem.W.kitOne K (.ref Z.Gone) (.ref Z.BadStop) = some false
  ki_Gone_Empty : PySem.W.kitOne K (.ref Z.Gone) (.ref Z.Empty) = some false
  ki_Gone_Full : PySem.W.kitOne K (.ref Z.Gone) (.ref Z.Full) = some false
  ki_Gone_Gone : PySem.W.kitOne K (.ref Z.Gone) (.ref Z.Gone) = some true
  ki_Gone_NoBlock : PySem.W.kitOne K (.ref Z.Gone) (.ref Z.NoBlock) = some false
  ki_Gone_Stopped : PySem.W.kitOne K (.ref Z.Gone) (.ref Z.Stopped) = some false
  ec_NoBlock : ExcC K Z.NoBlock
  kv_NoBlock : PySem.W.kitOne K (.ref Z.NoBlock) (.type "ValueError") = some true
  ki_NoBlock_BadBlock : PySem.W.kitOne K (.ref Z.NoBlock) (.ref Z.BadBlock) = some false
  ki_NoBlock_BadDisk : PySem.W.kitOne K (.ref Z.NoBlock) (.ref Z.BadDisk) = some false
  ki_NoBlock_BadOrder : PySem.W.kitOne K (.ref Z.NoBlock) (.ref Z.BadOrder) = some false
  ki_NoBlock_BadRow : PySem.W.kitOne K (.ref Z.NoBlock) (.ref Z.BadRow) = some false
  ki_NoBlock_BadStop : PySem.W.kitOne K (.ref Z.NoBlock) (.ref Z.BadStop) = some false
  ki_NoBlock_Empty : PySem.W.kitOne K (.ref Z.NoBlock) (.ref Z.Empty) = some false
  ki_NoBlock_Full : PySem.W.kitOne K (.ref Z.NoBlock) (.ref Z.Full) = some false
  ki_NoBlock_Gone : PySem.W.kitOne K (.ref Z.NoBlock) (.ref Z.Gone) = some false
  ki_NoBlock_NoBlock : PySem.W.kitOne K (.ref Z.NoBlock) (.ref Z.NoBlock) = some true
  ki_NoBlock_Stopped : PySem.W.kitOne K (.ref Z.NoBlock) (.ref Z.Stopped) = some false
  ec_Stopped : ExcC K Z.Stopped
  kv_Stopped : PySem.W.kitOne K (.ref Z.Stopped) (.type "ValueError") = some true
  ki_Stopped_BadBlock : PySem.W.kitOne K (.ref Z.Stopped) (.ref Z.BadBlock) = some false
  ki_Stopped_BadDisk : PySem.W.kitOne K (.ref Z.Stopped) (.ref Z.BadDisk) = some false
  ki_Stopped_BadOrder : PySem.W.kitOne K (.ref Z.Stopped) (.ref Z.BadOrder) = some false
  ki_Stopped_BadRow : PySem.W.kitOne K (.ref Z.Stopped) (.ref Z.BadRow) = some false
  ki_Stopped_BadStop : PySem.W.kitOne K (.ref Z.Stopped) (.ref Z.BadStop) = some false
  ki_Stopped_Empty : PySem.W.kitOne K (.ref Z.Stopped) (.ref Z.Empty) = some false
  ki_Stopped_Full : PySem.W.kitOne K (.ref Z.Stopped) (.ref Z.Full) = some false
  ki_Stopped_Gone : PySem.W.kitOne K (.ref Z.Stopped) (.ref Z.Gone) = some false
  ki_Stopped_NoBlock : PySem.W.kitOne K (.ref Z.Stopped) (.ref Z.NoBlock) = some false
  ki_Stopped_Stopped : PySem.W.kitOne K (.ref Z.Stopped) (.ref Z.Stopped) = some true
  e_BadBlock_LogError : PySem.W.exmOne K (.ref Z.BadBlock) (.ref Z.LogError) = some true
  e_BadDisk_LogError : PySem.W.exmOne K (.ref Z.BadDisk) (.ref Z.LogError) = some true
  e_BadOrder_LogError : PySem.W.exmOne K (.ref Z.BadOrder) (.ref Z.LogError) = some true
  e_BadRow_LogError : PySem.W.exmOne K (.ref Z.BadRow) (.ref Z.LogError) = some true
  e_BadStop_LogError : PySem.W.exmOne K (.ref Z.BadStop) (.ref Z.LogError) = some true
  e_Empty_LogError : PySem.W.exmOne K (.ref Z.Empty) (.ref Z.LogError) = some true
  e_Full_LogError : PySem.W.exmOne K (.ref Z.Full) (.ref Z.LogError) = some true
  e_Gone_LogError : PySem.W.exmOne K (.ref Z.Gone) (.ref Z.LogError) = some true
  e_NoBlock_LogError : PySem.W.exmOne K (.ref Z.NoBlock) (.ref Z.LogError) = some true
  e_Stopped_LogError : PySem.W.exmOne K (.ref Z.Stopped) (.ref Z.LogError) = some true
  c_PIECE_WORDS : ∃ t, mg "PIECE_WORDS" = some (.int 3 t)
  c_NUMBER : ∃ t, mg "NUMBER" = some (.int 0 t)
  c_FLOOR : ∃ t, mg "FLOOR" = some (.int 1 t)
  c_BEGIN : ∃ t, mg "BEGIN" = some (.int 2 t)
  c_LEFT : ∃ t, mg "LEFT" = some (.int 3 t)
  c_DATA_FROM : ∃ t, mg "DATA_FROM" = some (.int 4 t)
  c_DATA_TO : ∃ t, mg "DATA_TO" = some (.int 7 t)
  c_NO_BEGIN : ∃ t, mg "NO_BEGIN" = some (.int 0 t)
  c_LEFT_OF_MARK : ∃ t, mg "LEFT_OF_MARK" = some (.int 0 t)
  c_LEFT_OF_FAREWELL : ∃ t, mg "LEFT_OF_FAREWELL" = some (.int 1 t)
  c_MOST_WORDS : ∃ t, mg "MOST_WORDS" = some (.int 11 t)
  c_MOST_WORD_OF_ROW : ∃ t, mg "MOST_WORD_OF_ROW" = some (.int 999999999 t)
  c_LEAST_BLOCKS : ∃ t, mg "LEAST_BLOCKS" = some (.int 4 t)
  c_MOST_BLOCKS : ∃ t, mg "MOST_BLOCKS" = some (.int 64 t)
  c_BLOCK_WORDS : ∃ t, mg "BLOCK_WORDS" = some (.int 8 t)
  c_MOST_WORD : ∃ t, mg "MOST_WORD" = some (.int 1000000000000000 t)
  c_MOST_COUNT : ∃ t, mg "MOST_COUNT" = some (.int 1000000000000000 t)
  c_MOST_PART : ∃ t, mg "MOST_PART" = some (.int 7 t)
  c_BARE_ORDERS : ∃ a, mg "BARE_ORDERS" = some (.ref a) ∧ ∀ H : Hp, SqT K H a [.str "take", .str "rows", .str "room", .str "rise"]
section
variable {P : Program} {w : World} {K : PySem.W.Frag} {mg : Str → Option Value} {base : Heap} {Z : Ad}
def madeL (number floor begin_ left : Int) (data : List Int) : List Int := number :: floor :: begin_ :: left :: (data ++ [number])
theorem madeL_len (n f b l : Int) (ds : List Int) : (madeL n f b l ds).length = ds.length + 5 := by
  unfold madeL
  simp

def sp_made (K : PySem.W.Frag) (_ : Ad) : Sp := fun vs H Q _ => ∃ (n f b l : Int) (a : Addr) (ds : List Int), vs = [.int n, .int f, .int b, .int l, .ref a] ∧ H a = some (.lst (ds.map V.int)) ∧ ds.length ≤ 1000 ∧
  NewO (.lst ((madeL n f b l ds).map V.int)) H Q
theorem sc_made : FnScope ["number", "floor", "begin", "left", "data"] ["number", "floor", "begin", "left", "data"] (defScope st_made) := ⟨rfl, rfl, rfl, by decide +kernel, rfl, by decide +kernel, by decide +kernel⟩
theorem s_made {W : List Addr} {H0 H : Hp} {M I : List (Addr × HO)} {a : Addr} {ds : List Int} {n f b l : Int} {Q : VK} {E : XK} (hs : Hs W H0 H M I) (h1 : H a = some (.lst (ds.map V.int))) (hz : ds.length ≤ 1000)
    (h : ∀ p H', Hs W H0 H' ((p, .lst ((madeL n f b l ds).map V.int)) :: M) I → Upto [] H H' → H p = none → Q (.ref p) H') : sp_made K Z [.int n, .int f, .int b, .int l, .ref a] H Q E :=
  ⟨n, f, b, l, a, ds, rfl, h1, hz, hs.newO h⟩
theorem take_snoc {α : Type} {xs : List α} {i : Nat} {x : α} (h : xs[i]? = some x) : xs.take (i + 1) = xs.take i ++ [x] := by
  rw [List.take_add_one, h]
  rfl
theorem snoc_of {α : Type} : ∀ {l : List α}, l ≠ [] → ∃ ini x, l = ini ++ [x] := fun {l} h => ⟨l.dropLast, l.getLast h, (List.dropLast_concat_getLast h).symm⟩
theorem len_le_sum {α : Type} : ∀ {l : List (List α)} {g : List α}, g ∈ l → g.length ≤ (l.map List.length).sum
  | y :: ys, g, h => by
    rw [List.map_cons, List.sum_cons]
    rcases List.mem_cons.mp h with h | h
    · subst h; omega
    · have := len_le_sum h; omega
theorem eightV {w : List Int} (h : w.length = 8) : w.map V.int = [V.int (w.getD 0 0), V.int (w.getD 1 0), V.int (w.getD 2 0), V.int (w.getD 3 0), V.int (w.getD 4 0), V.int (w.getD 5 0), V.int (w.getD 6 0), V.int (w.getD 7 0)] := by
  obtain ⟨a, b, c, d, e, f, g, i, rfl⟩ := eight h
  rfl
theorem at8 {w : List Int} (h : w.length = 8) {i : Nat} (hi : i < 8) : atI (w.map V.int) (i : Int) = some (V.int (w.getD i 0)) := by
  refine atI_nat ?_
  rw [List.getElem?_map, List.getD_eq_getElem?_getD, List.getElem?_eq_getElem (by omega)]
  rfl
def markB (num f : Int) : List Int := [num, f, 0, 0, 0, 0, 0, num]

def sp_made_mark (K : PySem.W.Frag) (_ : Ad) : Sp := fun vs H Q _ => ∃ (n f : Int), vs = [.int n, .int f] ∧ NewO (.lst ((markB n f).map V.int)) H Q
theorem sc_made_mark : FnScope ["number", "floor"] ["number", "floor"] (defScope st_made_mark) := ⟨rfl, rfl, rfl, by decide +kernel, rfl, by decide +kernel, by decide +kernel⟩
theorem s_made_mark {W : List Addr} {H0 H : Hp} {M I : List (Addr × HO)} {n f : Int} {Q : VK} {E : XK} (hs : Hs W H0 H M I)
    (h : ∀ p H', Hs W H0 H' ((p, .lst ((markB n f).map V.int)) :: M) I → Upto [] H H' → H p = none → Q (.ref p) H') : sp_made_mark K Z [.int n, .int f] H Q E := ⟨n, f, rfl, hs.newO h⟩
def byeB (num f : Int) : List Int := [num, f, 0, 1, 0, 0, 0, num]

def sp_made_farewell (K : PySem.W.Frag) (_ : Ad) : Sp := fun vs H Q _ => ∃ (n f : Int), vs = [.int n, .int f] ∧ NewO (.lst ((byeB n f).map V.int)) H Q
theorem sc_made_farewell : FnScope ["number", "floor"] ["number", "floor"] (defScope st_made_farewell) := ⟨rfl, rfl, rfl, by decide +kernel, rfl, by decide +kernel, by decide +kernel⟩
theorem s_made_farewell {W : List Addr} {H0 H : Hp} {M I : List (Addr × HO)} {n f : Int} {Q : VK} {E : XK} (hs : Hs W H0 H M I)
    (h : ∀ p H', Hs W H0 H' ((p, .lst ((byeB n f).map V.int)) :: M) I → Upto [] H H' → H p = none → Q (.ref p) H') : sp_made_farewell K Z [.int n, .int f] H Q E := ⟨n, f, rfl, hs.newO h⟩
def sp_is_farewell (K : PySem.W.Frag) (_ : Ad) : Sp := fun vs H Q _ => ∃ (a : Addr) (w : List Int), vs = [.ref a] ∧ H a = some (.lst (w.map V.int)) ∧ w.length = 8 ∧ Q (.bl (decide (w.getD 2 0 = 0) && decide (w.getD 3 0 = 1))) H
theorem sc_is_farewell : FnScope ["words"] ["words"] (defScope st_is_farewell) := ⟨rfl, rfl, rfl, by decide +kernel, rfl, by decide +kernel, by decide +kernel⟩
def kindS (first last place many : Int) : Str := if first = 0 ∧ last = 0 then "empty" else if first = last ∧ many ≤ first ∧ first % many = place then "whole" else "torn"
def sp_kind (K : PySem.W.Frag) (_ : Ad) : Sp := fun vs H Q _ => ∃ (a : Addr) (w0 w1 w2 w3 w4 w5 w6 w7 p m : Int), vs = [.ref a, .int p, .int m] ∧ H a = some (.lst [.int w0, .int w1, .int w2, .int w3, .int w4, .int w5, .int w6, .int w7]) ∧ 0 < m ∧
  Q (.str (kindS w0 w7 p m)) H
theorem sc_kind : FnScope ["words", "place", "many", "first", "last"] ["words", "place", "many"] (defScope st_kind) := ⟨rfl, rfl, rfl, by decide +kernel, rfl, by decide +kernel, by decide +kernel⟩
theorem s_kind {H : Hp} {a : Addr} {w0 w1 w2 w3 w4 w5 w6 w7 p m : Int} {Q : VK} {E : XK} (h1 : H a = some (.lst [.int w0, .int w1, .int w2, .int w3, .int w4, .int w5, .int w6, .int w7])) (hm : 0 < m)
    (h : Q (.str (kindS w0 w7 p m)) H) : sp_kind K Z [.ref a, .int p, .int m] H Q E := ⟨a, w0, w1, w2, w3, w4, w5, w6, w7, p, m, rfl, h1, hm, h⟩
/-- a row's data, with k noughts behind; the words of three -/
def dL (ns : List Int) (k : Nat) : List Int := (ns.length : Int) :: (ns ++ List.replicate k 0)
def dat (ns : List Int) (j : Nat) : Int := ((ns.length : Int) :: ns).getD j 0
def pcs (ns : List Int) : List (List Int) := (List.range (ns.length / 3 + 1)).map fun i => [dat ns (3 * i), dat ns (3 * i + 1), dat ns (3 * i + 2)]
theorem dL_len (ns : List Int) (k : Nat) : (dL ns k).length = ns.length + 1 + k := by
  unfold dL
  simp
  omega
theorem pcs_len (ns : List Int) : (pcs ns).length = ns.length / 3 + 1 := by simp [pcs]
theorem dL_getD (ns : List Int) (k j : Nat) : (dL ns k).getD j 0 = dat ns j := by
  unfold dL dat
  cases j with
  | zero => rfl
  | succ j =>
    simp only [List.getD_cons_succ]
    rw [List.getD_eq_getElem?_getD, List.getD_eq_getElem?_getD]
    by_cases h : j < ns.length
    · rw [List.getElem?_append_left h]
    · rw [List.getElem?_append_right (by omega), List.getElem?_eq_none (l := ns) (by omega)]
      rw [List.getElem?_replicate]
      split <;> rfl
theorem take3 : ∀ {xs : List Int} {j : Nat}, j + 3 ≤ xs.length → (xs.drop j).take 3 = [xs.getD j 0, xs.getD (j + 1) 0, xs.getD (j + 2) 0]
  | a :: b :: c :: r, 0, _ => by simp
  | x :: xs, j + 1, h => by
    have q := take3 (xs := xs) (j := j) (by simpa using h)
    simpa using q
  | [], _, h => by simp at h
  | [_], 0, h => by simp at h
  | [_, _], 0, h => by simp at h
theorem cut3 {ns : List Int} {k i : Nat} (h : 3 * i + 3 ≤ (dL ns k).length) {a b : Int} (ha : a = (3 * i : Nat)) (hb : b = (3 * i + 3 : Nat)) : cutI (dL ns k) (some a) (some b) = [dat ns (3 * i), dat ns (3 * i + 1), dat ns (3 * i + 2)] := by
  subst ha hb
  unfold cutI
  rw [sIx_in (by omega) (by omega), sIx_in (by omega) (by omega)]
  have e : ((3 * i + 3 : Nat) : Int).toNat - ((3 * i : Nat) : Int).toNat = 3 := by omega
  have e2 : ((3 * i : Nat) : Int).toNat = 3 * i := by omega
  rw [e, e2, take3 (by omega), dL_getD, dL_getD, dL_getD]
theorem pcs_get {ns : List Int} {i : Nat} (h : i < ns.length / 3 + 1) : (pcs ns)[i]? = some [dat ns (3 * i), dat ns (3 * i + 1), dat ns (3 * i + 2)] := by
  unfold pcs
  rw [List.getElem?_map, List.getElem?_range h]
  rfl
theorem dL_snoc (ns : List Int) (k : Nat) : (dL ns k).map V.int ++ [V.int 0] = (dL ns (k + 1)).map V.int := by
  simp [dL, List.replicate_succ']
def sp_pieces (K : PySem.W.Frag) (_ : Ad) : Sp := fun vs H Q _ => ∃ (a : Addr) (ns : List Int), vs = [.ref a] ∧ H a = some (.lst (ns.map V.int)) ∧ ns.length ≤ 1000 ∧
  ∀ (p : Addr) (qs : List Addr) (H' : Hp), qs.length = (pcs ns).length → Hs [] H H' ((p, .lst (qs.map V.ref)) :: rowsL qs (pcs ns)) [] → Q (.ref p) H'
theorem sc_pieces : FnScope ["row", "data", "at"] ["row"] (defScope st_pieces) := ⟨rfl, rfl, rfl, by decide +kernel, rfl, by decide +kernel, by decide +kernel⟩
theorem s_pieces {W : List Addr} {H0 H : Hp} {M I : List (Addr × HO)} {a : Addr} {ns : List Int} {Q : VK} {E : XK} (hs : Hs W H0 H M I) (h1 : H a = some (.lst (ns.map V.int))) (hz : ns.length ≤ 1000)
    (h : ∀ (p : Addr) (qs : List Addr) (H' : Hp), qs.length = (pcs ns).length → Hs W H0 H' ((p, .lst (qs.map V.ref)) :: (rowsL qs (pcs ns) ++ M)) I → Upto [] H H' → Q (.ref p) H') : sp_pieces K Z [.ref a] H Q E :=
  ⟨a, ns, rfl, h1, hz, fun p qs H' hl hc => h p qs H' hl (hc.frame0 hs) hc.up⟩
def sp_length_of (K : PySem.W.Frag) (_ : Ad) : Sp := fun vs H Q _ => ∃ (a : Addr) (ns : List Int), vs = [.ref a] ∧ H a = some (.lst (ns.map V.int)) ∧ ns.length ≤ 1000 ∧ ∀ H', Upto [] H H' → Q (.int ((pcs ns).length : Nat)) H'
theorem sc_length_of : FnScope ["row"] ["row"] (defScope st_length_of) := ⟨rfl, rfl, rfl, by decide +kernel, rfl, by decide +kernel, by decide +kernel⟩
theorem s_length_of {W : List Addr} {H0 H : Hp} {M I : List (Addr × HO)} {a : Addr} {ns : List Int} {Q : VK} {E : XK} (hs : Hs W H0 H M I) (h1 : H a = some (.lst (ns.map V.int))) (hz : ns.length ≤ 1000)
    (h : ∀ H', Hs W H0 H' M I → Upto [] H H' → Q (.int ((pcs ns).length : Nat)) H') : sp_length_of K Z [.ref a] H Q E :=
  ⟨a, ns, rfl, h1, hz, fun H' u => h H' (hs.call0 u) u⟩
/-- the data of blocks, one after the other -/
def mids (ws : List (List Int)) : List Int := (ws.map fun w => (w.drop 4).take 3).flatten
theorem cut47 {w : List Int} (h : w.length = 8) : cutI w (some 4) (some 7) = (w.drop 4).take 3 := by
  unfold cutI
  rw [sIx_in (by omega) (by omega), sIx_in (by omega) (by omega)]
  rfl
theorem mids_len : ∀ {ws : List (List Int)}, (∀ w ∈ ws, w.length = 8) → (mids ws).length = 3 * ws.length
  | [], _ => rfl
  | w :: ws, h => by
    have q := mids_len (ws := ws) fun x hx => h x (List.mem_cons_of_mem _ hx)
    have hw := h w List.mem_cons_self
    unfold mids at q ⊢
    rw [List.map_cons, List.flatten_cons, List.length_append, q, List.length_take, List.length_drop, hw, List.length_cons]
    omega
theorem mids_snoc (ws : List (List Int)) (w : List Int) : mids (ws ++ [w]) = mids ws ++ (w.drop 4).take 3 := by simp [mids]
def sp_words_of (K : PySem.W.Frag) (_ : Ad) : Sp := fun vs H Q _ => ∃ (a : Addr) (bs : List Addr) (ws : List (List Int)), vs = [.ref a] ∧ Holds H ((a, .lst (bs.map V.ref)) :: rowsL bs ws) ∧ bs.length = ws.length ∧ (∀ w ∈ ws, w.length = 8) ∧ ws ≠ [] ∧ ws.length ≤ 1000 ∧
  NewO (.lst ((cutI (mids ws) (some 1) (some (1 + (mids ws).getD 0 0))).map V.int)) H Q
theorem sc_words_of : FnScope ["some", "data", "words", "many"] ["some"] (defScope st_words_of) := ⟨rfl, rfl, rfl, by decide +kernel, rfl, by decide +kernel, by decide +kernel⟩
theorem s_words_of {W : List Addr} {H0 H : Hp} {M I : List (Addr × HO)} {a : Addr} {bs : List Addr} {ws : List (List Int)} {Q : VK} {E : XK} (hs : Hs W H0 H M I) (hm : ((a, HO.lst (bs.map V.ref)) :: rowsL bs ws).Sublist M) (hl : bs.length = ws.length) (h8 : ∀ w ∈ ws, w.length = 8) (h0 : ws ≠ []) (hz : ws.length ≤ 1000)
    (h : ∀ p H', Hs W H0 H' ((p, .lst ((cutI (mids ws) (some 1) (some (1 + (mids ws).getD 0 0))).map V.int)) :: M) I → Upto [] H H' → H p = none → Q (.ref p) H') : sp_words_of K Z [.ref a] H Q E :=
  ⟨a, bs, ws, rfl, hs.part hm, hl, h8, h0, hz, hs.newO h⟩
structure DS where
  dx : Addr
  bl : Addr
  bs : List Addr
  ws : List (List Int)
  r : Int
  w : Int
  lt : Option Int
  p : Int
def ltV : Option Int → V
  | none => .non
  | some i => .int i
def dF (s : DS) : List (Str × V) := [("_blocks", .ref s.bl), ("_reads", .int s.r), ("_writes", .int s.w), ("_let", ltV s.lt), ("_part", .int s.p)]
def diskL (Z : Ad) (d : Addr) (s : DS) : List (Addr × HO) := (d, .ins Z.Disk s.dx (dF s)) :: (s.dx, .own d) :: (s.bl, .lst (s.bs.map V.ref)) :: rowsL s.bs s.ws
structure DS.Ok (s : DS) : Prop where
  len : s.bs.length = s.ws.length
  lo : 4 ≤ s.ws.length
  hi : s.ws.length ≤ 64
  each : ∀ w ∈ s.ws, w.length = 8
/-- the words behind a stopped write -/
def mixW (p : Int) (new old : List Int) : List Int := new.take p.toNat ++ old.drop p.toNat
theorem mixW_len {p : Int} {new old : List Int} (h : new.length = 8) (h' : old.length = 8) (hp : 0 ≤ p) (hp' : p ≤ 7) : (mixW p new old).length = 8 := by
  unfold mixW
  rw [List.length_append, List.length_take, List.length_drop]
  omega
theorem mixV {p : Int} {new old : List Int} (h : new.length = 8) (h' : old.length = 8) (hp : 0 ≤ p) (hp' : p ≤ 7) : cutV (new.map V.int) none (some p) ++ cutV (old.map V.int) (some p) none = (mixW p new old).map V.int := by
  rw [cutV_ints, cutV_ints, cutI_upto hp (by omega), cutI_from hp (by omega), ← List.map_append]
  rfl
def sp_Disk_blocks (K : PySem.W.Frag) (Z : Ad) : Sp := fun vs H Q _ => ∃ (d : Addr) (s : DS), vs = [.ref d] ∧ Holds H (diskL Z d s) ∧ s.Ok ∧ Q (.int s.ws.length) H
theorem sc_Disk_blocks : FnScope ["self"] ["self"] (defScope st_Disk_blocks) := ⟨rfl, rfl, rfl, by decide +kernel, rfl, by decide +kernel, by decide +kernel⟩
/-- a value that is no object -/
def FlatV : V → Prop
  | .int _ => True
  | .bl _ => True
  | .str x => (PyData.str x).canLay0 = true
  | .non => True
  | _ => False
def wholeB (v : V) (lo hi : Int) : Bool := match v with
  | .int i => decide (lo ≤ i) && decide (i ≤ hi)
  | _ => false
theorem wholeB_int {v : V} {lo hi : Int} (h : wholeB v lo hi = true) : ∃ i, v = .int i ∧ lo ≤ i ∧ i ≤ hi := by
  cases v with
  | int i =>
    simp only [wholeB, Bool.and_eq_true, decide_eq_true_eq] at h
    exact ⟨i, rfl, h.1, h.2⟩
  | _ => simp [wholeB] at h
def sp_is_whole (K : PySem.W.Frag) (_ : Ad) : Sp := fun vs H Q _ => ∃ (v : V) (lo hi : Int), vs = [v, .int lo, .int hi] ∧ FlatV v ∧ Q (.bl (wholeB v lo hi)) H
theorem sc_is_whole : FnScope ["value", "low", "high"] ["value", "low", "high"] (defScope st_is_whole) := ⟨rfl, rfl, rfl, by decide +kernel, rfl, by decide +kernel, by decide +kernel⟩
theorem s_is_whole {H : Hp} {v : V} {lo hi : Int} {Q : VK} {E : XK} (hv : FlatV v) (h : Q (.bl (wholeB v lo hi)) H) : sp_is_whole K Z [v, .int lo, .int hi] H Q E := ⟨v, lo, hi, rfl, hv, h⟩
def sp_Disk__need_place (K : PySem.W.Frag) (Z : Ad) : Sp := fun vs H Q E => ∃ (d : Addr) (s : DS) (v : V), vs = [.ref d, v] ∧ Holds H (diskL Z d s) ∧ s.Ok ∧ FlatV v ∧ (wholeB v 0 (s.ws.length - 1) = false → E (.ref Z.NoBlock) none H) ∧ (wholeB v 0 (s.ws.length - 1) = true → Q .non H)
theorem sc_Disk__need_place : FnScope ["self", "place"] ["self", "place"] (defScope st_Disk__need_place) := ⟨rfl, rfl, rfl, by decide +kernel, rfl, by decide +kernel, by decide +kernel⟩
def sp_Disk_read (K : PySem.W.Frag) (Z : Ad) : Sp := fun vs H Q E => ∃ (d : Addr) (s : DS) (v : V), vs = [.ref d, v] ∧ Holds H (diskL Z d s) ∧ s.Ok ∧ FlatV v ∧ (wholeB v 0 (s.ws.length - 1) = false → E (.ref Z.NoBlock) none H) ∧
  (∀ i : Nat, v = .int i → i < s.ws.length → ∀ (q : Addr) (H' : Hp), Frm (diskL Z d s) ((q, .lst ((s.ws.getD i []).map V.int)) :: diskL Z d { s with r := s.r + 1 }) H H' → Q (.ref q) H')
theorem sc_Disk_read : FnScope ["self", "place"] ["self", "place"] (defScope st_Disk_read) := ⟨rfl, rfl, rfl, by decide +kernel, rfl, by decide +kernel, by decide +kernel⟩
/-! ### where the blocks lie, and the newest one -/
def fstW (w : List Int) : Int := w.getD 0 0
def lstW (w : List Int) : Int := w.getD 7 0
structure Laid (n : Nat) (ws : List (List Int)) (num : Int) (torn : Option Int) : Prop where
  ge : (n : Int) - 1 ≤ num
  at_ : ∀ (i : Nat) (k : Int), i < n → num - n < k → k ≤ num → k % n = i → (torn = none ∨ k ≠ num + 1 - n) → fstW (ws.getD i []) = (if (n : Int) ≤ k then k else 0) ∧ lstW (ws.getD i []) = (if (n : Int) ≤ k then k else 0)
  tn : ∀ t, torn = some t → t = (num + 1) % n ∧ fstW (ws.getD t.toNat []) = num + 1 ∧ lstW (ws.getD t.toNat []) ≠ num + 1
theorem emod_cases (a : Int) {n : Nat} (hn : 0 < n) : ∃ q r : Int, a = n * q + r ∧ 0 ≤ r ∧ r < n ∧ a % n = r :=
  ⟨a / n, a % n, (Int.mul_ediv_add_emod a n).symm, Int.emod_nonneg _ (by omega), Int.emod_lt_of_pos _ (by omega), rfl⟩
theorem emod_of {a q r : Int} {n : Nat} (h : a = n * q + r) (h0 : 0 ≤ r) (h1 : r < n) : a % n = r := by
  rw [h, Int.add_comm, Int.add_mul_emod_self_left]
  exact Int.emod_eq_of_lt h0 h1
theorem emod_less (a : Int) (n : Nat) : (a - n) % n = a % n := by
  rw [show a - n = a + n * (-1) by omega, Int.add_mul_emod_self_left]
/-- the number that belongs in a place -/
theorem num_at {num : Int} {n i : Nat} (hi : i < n) : ∃ k : Int, num - n < k ∧ k ≤ num ∧ k % n = i := by
  obtain ⟨q, r, e, h0, h1, _⟩ := emod_cases (num - i) (n := n) (by omega)
  refine ⟨num - r, by omega, by omega, ?_⟩
  exact emod_of (q := q) (r := i) (by omega) (by omega) (by omega)
theorem kindS_whole {k m p : Int} (h : m ≤ k) (hm : 0 < m) (hp : k % m = p) : kindS k k p m = "whole" := by
  unfold kindS
  rw [if_neg (by omega), if_pos ⟨rfl, h, hp⟩]
theorem kindS_torn {a b m p : Int} (h : a ≠ b) : kindS a b p m = "torn" := by
  unfold kindS
  rw [if_neg (by omega), if_neg (fun z => h z.1)]
theorem kindS_empty {m p : Int} : kindS 0 0 p m = "empty" := if_pos ⟨rfl, rfl⟩
section
variable {n : Nat} {ws : List (List Int)} {num : Int} {torn : Option Int} (L : Laid n ws num torn) (hn : 0 < n)
include L hn
/-- what stands in place i, by the number that belongs there -/
theorem Laid.look {i : Nat} (hi : i < n) {k : Int} (h1 : num - n < k) (h2 : k ≤ num) (h3 : k % n = i) :
    (torn = some (i : Int) ∧ k = num + 1 - n ∧ kindS (fstW (ws.getD i [])) (lstW (ws.getD i [])) i n = "torn") ∨
    (torn ≠ some (i : Int) ∧ n ≤ k ∧ fstW (ws.getD i []) = k ∧ lstW (ws.getD i []) = k ∧ kindS (fstW (ws.getD i [])) (lstW (ws.getD i [])) i n = "whole") ∨
    (torn ≠ some (i : Int) ∧ k < n ∧ fstW (ws.getD i []) = 0 ∧ lstW (ws.getD i []) = 0 ∧ kindS (fstW (ws.getD i [])) (lstW (ws.getD i [])) i n = "empty") := by
  by_cases ht : torn = some (i : Int)
  · left
    obtain ⟨e1, e2, e22⟩ := L.tn _ ht
    rw [Int.toNat_natCast] at e2 e22
    refine ⟨ht, ?_, kindS_torn (by rw [e2]; exact e22.symm)⟩
    obtain ⟨q, r, e, h0, h1', e3⟩ := emod_cases k hn
    obtain ⟨q2, r2, e', h0', h1'', e3'⟩ := emod_cases (num + 1) hn
    have hr : r = r2 := by omega
    subst hr
    have hq : (n : Int) * (q2 - q) = num + 1 - k := by rw [Int.mul_sub]; omega
    have hq1 : 0 < q2 - q := by
      refine Decidable.byContradiction fun z => ?_
      have := Int.mul_le_mul_of_nonneg_left (show q2 - q ≤ 0 by omega) (show (0 : Int) ≤ n by omega)
      omega
    have hq2 : q2 - q < 2 := by
      refine Decidable.byContradiction fun z => ?_
      have := Int.mul_le_mul_of_nonneg_left (show 2 ≤ q2 - q by omega) (show (0 : Int) ≤ n by omega)
      omega
    have hq3 : q2 - q = 1 := by omega
    rw [hq3] at hq
    omega
  · right
    have hc : torn = none ∨ k ≠ num + 1 - n := by
      cases q : torn with
      | none => exact .inl rfl
      | some t =>
        right
        intro e
        apply ht
        obtain ⟨e1, _⟩ := L.tn _ q
        rw [q, e1]
        congr 1
        rw [← h3, e, emod_less]
    have := L.at_ i k hi h1 h2 h3 hc
    by_cases hk : (n : Int) ≤ k
    · left
      rw [if_pos hk] at this
      refine ⟨ht, hk, this.1, this.2, ?_⟩
      rw [this.1, this.2]
      exact kindS_whole hk (by omega) h3
    · right
      rw [if_neg hk] at this
      refine ⟨ht, by omega, this.1, this.2, ?_⟩
      rw [this.1, this.2]
      exact kindS_empty
end
/-- what a look in the midst tells, where the round's first block is numbered start -/
theorem Laid.mid {n : Nat} {ws : List (List Int)} {num : Int} {torn : Option Int} (L : Laid n ws num torn) {start : Int} {i : Nat} (hs : start % n = 0) (h0 : (n : Int) ≤ start) (h1 : num - n < start) (h2 : start ≤ num) (hi : i < n) (hi0 : 0 < i) :
    (start + i ≤ num → kindS (fstW (ws.getD i [])) (lstW (ws.getD i [])) i n = "whole" ∧ fstW (ws.getD i []) = start + i) ∧
    (num < start + i → ¬ (kindS (fstW (ws.getD i [])) (lstW (ws.getD i [])) i n = "whole" ∧ fstW (ws.getD i []) = start + i) ∧
      ((start + i = num + 1 → torn = none → kindS (fstW (ws.getD i [])) (lstW (ws.getD i [])) i n ≠ "torn") ∧ (start + i = num + 1 → torn ≠ none → torn = some (i : Int) ∧ kindS (fstW (ws.getD i [])) (lstW (ws.getD i [])) i n = "torn") ∧
       (start + i ≠ num + 1 → kindS (fstW (ws.getD i [])) (lstW (ws.getD i [])) i n ≠ "torn"))) := by
  have hn : 0 < n := by omega
  obtain ⟨q, r, e, r0, r1, e3⟩ := emod_cases start hn
  have hr : r = 0 := by omega
  subst hr
  refine ⟨fun c => ?_, fun c => ?_⟩
  · have hk : (start + i) % n = (i : Int) := emod_of (q := q) (r := i) (by omega) (by omega) (by omega)
    rcases L.look hn hi (k := start + i) (by omega) c hk with ⟨_, z, _⟩ | ⟨_, _, z, _, z2⟩ | ⟨_, z, _⟩
    · omega
    · exact ⟨z2, z⟩
    · omega
  · have hk : (start + i - n) % n = (i : Int) := by
      rw [emod_less]
      exact emod_of (q := q) (r := i) (by omega) (by omega) (by omega)
    have hk2 : (start + i) % n = (i : Int) := by rw [← emod_less]; exact hk
    rcases L.look hn hi (k := start + i - n) (by omega) (by omega) hk with ⟨z1, z2, z3⟩ | ⟨z1, z2, z3, _, z4⟩ | ⟨z1, z2, z3, _, z4⟩
    · rw [z3]
      refine ⟨fun w => absurd w.1 (by decide), fun _ w => ?_, fun _ _ => ⟨z1, rfl⟩, fun w => ?_⟩
      · rw [z1] at w; cases w
      · omega
    · rw [z4, z3]
      refine ⟨fun w => by omega, fun _ _ => by decide, fun w1 w2 => ?_, fun _ => by decide⟩
      exfalso
      cases t : torn with
      | none => exact w2 t
      | some t' =>
        apply z1
        rw [t, (L.tn _ t).1, ← w1, hk2]
    · rw [z4, z3]
      refine ⟨fun w => absurd w.1 (by decide), fun _ _ => by decide, fun w1 w2 => ?_, fun _ => by decide⟩
      exfalso
      cases t : torn with
      | none => exact w2 t
      | some t' =>
        apply z1
        rw [t, (L.tn _ t).1, ← w1, hk2]
/-- a look in place 0 -/
theorem Laid.zero {n : Nat} {ws : List (List Int)} {num : Int} {torn : Option Int} (L : Laid n ws num torn) (hn : 0 < n) :
    (kindS (fstW (ws.getD 0 [])) (lstW (ws.getD 0 [])) (0 : Nat) n = "empty" ∧ num = n - 1 ∧ torn = none) ∨
    (kindS (fstW (ws.getD 0 [])) (lstW (ws.getD 0 [])) (0 : Nat) n = "torn" ∧ torn = some 0 ∧ num % n = n - 1) ∨
    (kindS (fstW (ws.getD 0 [])) (lstW (ws.getD 0 [])) (0 : Nat) n = "whole" ∧ ∃ start, fstW (ws.getD 0 []) = start ∧ start % n = 0 ∧ (n : Int) ≤ start ∧ num - n < start ∧ start ≤ num ∧ (start + n = num + 1 → torn = none)) := by
  obtain ⟨k, h1, h2, h3⟩ := num_at (num := num) (n := n) (i := 0) hn
  obtain ⟨q, r, e, r0, r1, e3⟩ := emod_cases k hn
  have hr : r = 0 := by omega
  subst hr
  have last : k + n = num + 1 → num % n = n - 1 := fun z => emod_of (q := q) (r := n - 1) (by omega) (by omega) (by omega)
  have next : k + n = num + 1 → (num + 1) % n = 0 := fun z => emod_of (q := q + 1) (r := 0) (by rw [Int.mul_add]; omega) (by omega) (by omega)
  rcases L.look hn hn h1 h2 h3 with ⟨z1, z2, z3⟩ | ⟨z1, z2, z3, _, z4⟩ | ⟨z1, z2, z3, _, z4⟩
  · exact .inr (.inl ⟨z3, z1, last (by omega)⟩)
  · refine .inr (.inr ⟨z4, k, z3, h3, z2, h1, h2, fun z => ?_⟩)
    cases t : torn with
    | none => rfl
    | some t' =>
      exfalso
      apply z1
      rw [t, (L.tn _ t).1, next z]
      rfl
  · have hq : k = 0 := by
      have : 0 ≤ k := by have := L.ge; omega
      have h4 : (n : Int) * q < n * 1 := by omega
      have h5 : q < 1 := Int.lt_of_mul_lt_mul_left h4 (by omega)
      have h6 : (n : Int) * q ≤ n * 0 := Int.mul_le_mul_of_nonneg_left (by omega) (by omega)
      omega
    have hnum : num = n - 1 := by have := L.ge; omega
    refine .inl ⟨z4, hnum, ?_⟩
    cases t : torn with
    | none => rfl
    | some t' =>
      exfalso
      apply z1
      rw [t, (L.tn _ t).1, next (by omega)]
      rfl
/-- a look in the last place, where place 0 is torn -/
theorem Laid.last {n : Nat} {ws : List (List Int)} {num : Int} (L : Laid n ws num (some 0)) (hn : 1 < n) (h : num % n = n - 1) :
    (kindS (fstW (ws.getD (n - 1) [])) (lstW (ws.getD (n - 1) [])) (n - 1 : Nat) n = "whole" ∧ fstW (ws.getD (n - 1) []) = num) ∨
    (kindS (fstW (ws.getD (n - 1) [])) (lstW (ws.getD (n - 1) [])) (n - 1 : Nat) n = "empty" ∧ num = n - 1) := by
  rcases L.look (i := n - 1) (by omega) (by omega) (k := num) (by omega) (by omega) (by rw [h]; omega) with ⟨z1, z2, z3⟩ | ⟨z1, z2, z3, _, z4⟩ | ⟨z1, z2, z3, _, z4⟩
  · simp only [Option.some.injEq] at z1
    omega
  · exact .inl ⟨z4, z3⟩
  · refine .inr ⟨z4, ?_⟩
    have := L.ge
    omega

def sp_number_in_last_place (K : PySem.W.Frag) (Z : Ad) : Sp := fun vs H Q _ => ∃ (d : Addr) (s : DS) (num : Int), vs = [.ref d] ∧ Holds H (diskL Z d s) ∧ s.Ok ∧ Laid s.ws.length s.ws num (some 0) ∧ num % s.ws.length = s.ws.length - 1 ∧
  ∀ H', Frm (diskL Z d s) (diskL Z d { s with r := s.r + 1 }) H H' → Q (.int num) H'
theorem sc_number_in_last_place : FnScope ["disk", "many", "words"] ["disk"] (defScope st_number_in_last_place) := ⟨rfl, rfl, rfl, by decide +kernel, rfl, by decide +kernel, by decide +kernel⟩
/-- the count of an int's bits -/
def bitsI (m : Int) : Nat := PySem.Builtin.Int.intBits m
theorem bitsI_zero : bitsI 0 = 0 := rfl
theorem bitsI_pos {m : Int} (h : 0 < m) : bitsI m = m.toNat.log2 + 1 := by
  unfold bitsI PySem.Builtin.Int.intBits
  have e : (m == 0) = false := by simpa using (show m ≠ 0 by omega)
  rw [e]
  have : m.natAbs = m.toNat := by omega
  rw [this]
  rfl
theorem bitsI_half {m : Int} (h : 0 < m) : bitsI (m / 2) + 1 = bitsI m := by
  rw [bitsI_pos h]
  by_cases h1 : m = 1
  · subst h1
    rfl
  · have h2 : 0 < m / 2 := by omega
    rw [bitsI_pos h2]
    have e : (m / 2).toNat = m.toNat / 2 := by omega
    rw [e]
    conv => rhs; rw [Nat.log2_def]
    rw [if_pos (by omega)]
theorem bitsI_lt {m : Int} (h : 0 ≤ m) : m < 2 ^ bitsI m := by
  rcases Int.lt_or_eq_of_le h with h | h
  · rw [bitsI_pos h]
    have q := Nat.lt_log2_self (n := m.toNat)
    have : m = (m.toNat : Int) := by omega
    rw [this]
    simp only [Int.toNat_natCast]
    exact_mod_cast q
  · rw [← h]
    decide
theorem bitsI_le {m : Int} (h : 0 < m) : 2 ^ (bitsI m - 1) ≤ m := by
  rw [bitsI_pos h, Nat.add_sub_cancel]
  have q := Nat.log2_self_le (n := m.toNat) (by omega)
  have : m = (m.toNat : Int) := by omega
  rw [this]
  simp only [Int.toNat_natCast]
  exact_mod_cast q
theorem bitsI_most {m : Int} {n : Nat} (h0 : 0 ≤ m) (h : m < 2 ^ n) : bitsI m ≤ n := by
  rcases Int.lt_or_eq_of_le h0 with h0 | h0
  · have q := bitsI_le h0
    have z : 0 < bitsI m := by rw [bitsI_pos h0]; omega
    rcases Nat.lt_or_ge n (bitsI m) with hh | hh
    · have : (2 : Int) ^ n ≤ 2 ^ (bitsI m - 1) := by
        have := Nat.pow_le_pow_right (n := 2) (by decide) (show n ≤ bitsI m - 1 by omega)
        exact_mod_cast this
      omega
    · exact hh
  · rw [← h0]
    exact Nat.zero_le _
def sp_newest_of_round (K : PySem.W.Frag) (Z : Ad) : Sp := fun vs H Q _ => ∃ (d : Addr) (s : DS) (start num : Int) (torn : Option Int), vs = [.ref d, .int start] ∧ Holds H (diskL Z d s) ∧ s.Ok ∧ Laid s.ws.length s.ws num torn ∧
  start % s.ws.length = 0 ∧ (s.ws.length : Int) ≤ start ∧ num - s.ws.length < start ∧ start ≤ num ∧ (start + s.ws.length = num + 1 → torn = none) ∧
  ∀ (t : Addr) (r' : Int) (H' : Hp), s.r ≤ r' → r' ≤ s.r + (bitsI ((s.ws.length : Int) - 1) : Nat) → Frm (diskL Z d s) ((t, .tup [.int num, ltV torn]) :: diskL Z d { s with r := r' }) H H' → Q (.ref t) H'
theorem bitsI_mono {a b : Int} (h0 : 0 ≤ a) (h : a ≤ b) : bitsI a ≤ bitsI b := bitsI_most h0 (Int.lt_of_le_of_lt h (bitsI_lt (by omega)))
/-- a half is less by a bit -/
theorem bitsI_step {l h m : Int} (h1 : 1 < h - l) (hm : m = (l + h) / 2) : bitsI (h - m - 1) + 1 ≤ bitsI (h - l - 1) ∧ bitsI (m - l - 1) + 1 ≤ bitsI (h - l - 1) := by
  have e := bitsI_half (m := h - l - 1) (by omega)
  have a := bitsI_mono (a := h - m - 1) (b := (h - l - 1) / 2) (by omega) (by omega)
  have b := bitsI_mono (a := m - l - 1) (b := (h - l - 1) / 2) (by omega) (by omega)
  omega
theorem sc_newest_of_round : FnScope ["disk", "start", "many", "low", "high", "torn", "middle", "words", "what"] ["disk", "start"] (defScope st_newest_of_round) := ⟨rfl, rfl, rfl, by decide +kernel, rfl, by decide +kernel, by decide +kernel⟩
def sp_newest (K : PySem.W.Frag) (Z : Ad) : Sp := fun vs H Q _ => ∃ (d : Addr) (s : DS) (num : Int) (torn : Option Int), vs = [.ref d] ∧ Holds H (diskL Z d s) ∧ s.Ok ∧ Laid s.ws.length s.ws num torn ∧
  ∀ (t : Addr) (r' : Int) (H' : Hp), s.r ≤ r' → r' ≤ s.r + 2 + (bitsI ((s.ws.length : Int) - 1) : Nat) → Frm (diskL Z d s) ((t, .tup [.int num, ltV torn]) :: diskL Z d { s with r := r' }) H H' → Q (.ref t) H'
theorem sc_newest : FnScope ["disk", "many", "words", "first_kind"] ["disk"] (defScope st_newest) := ⟨rfl, rfl, rfl, by decide +kernel, rfl, by decide +kernel, by decide +kernel⟩
/-! ### the rows among blocks -/
section
variable {α β : Type} (f : α → List Int)
/-- the blocks of each row; none where a later block has no first -/
def grp : List (List α) → List α → Option (List (List α))
  | acc, [] => some acc
  | acc, w :: r => if (f w).getD 2 0 = 0 then grp acc r else if (f w).getD 2 0 = (f w).getD 0 0 then grp (acc ++ [[w]]) r else
    match acc.reverse with
    | [] => none
    | g :: gs => grp (gs.reverse ++ [g ++ [w]]) r
theorem grp_map (g : β → α) : ∀ (r : List β) (acc : List (List β)), grp f (acc.map (List.map g)) (r.map g) = (grp (fun x => f (g x)) acc r).map (List.map (List.map g))
  | [], acc => rfl
  | w :: r, acc => by
    rw [List.map_cons, grp, grp]
    split
    · exact grp_map g r acc
    · split
      · have := grp_map g r (acc ++ [[w]])
        rw [List.map_append] at this
        exact this
      · rw [← List.map_reverse]
        cases e : acc.reverse with
        | nil => rfl
        | cons x xs =>
          have := grp_map g r (xs.reverse ++ [x ++ [w]])
          simp only [List.map_append, List.map_reverse, List.map_cons, List.map_nil] at this
          simp only [List.map_cons]
          exact this
/-- a step at the end -/
def gStep (acc : List (List α)) (w : α) : Option (List (List α)) := if (f w).getD 2 0 = 0 then some acc else if (f w).getD 2 0 = (f w).getD 0 0 then some (acc ++ [[w]]) else
    match acc.reverse with
    | [] => none
    | g :: gs => some (gs.reverse ++ [g ++ [w]])
theorem grp_cons (acc : List (List α)) (w : α) (r : List α) : grp f acc (w :: r) = (gStep f acc w).bind fun a => grp f a r := by
  rw [grp, gStep]
  split
  · rfl
  · split
    · rfl
    · cases acc.reverse <;> rfl
theorem grp_append : ∀ (r s : List α) (acc : List (List α)), grp f acc (r ++ s) = (grp f acc r).bind fun a => grp f a s
  | [], s, acc => rfl
  | w :: r, s, acc => by
    rw [List.cons_append, grp_cons, grp_cons, Option.bind_assoc]
    congr 1
    funext a
    exact grp_append r s a
theorem grp_snoc (r : List α) (w : α) (acc : List (List α)) : grp f acc (r ++ [w]) = (grp f acc r).bind fun a => gStep f a w := by
  rw [grp_append]
  refine congrArg _ (funext fun a => ?_)
  rw [grp_cons]
  cases gStep f a w <;> rfl
/-- what stands ahead stays -/
theorem gStep_app {acc a : List (List α)} {w : α} (pre : List (List α)) (h : gStep f acc w = some a) : gStep f (pre ++ acc) w = some (pre ++ a) := by
  rw [gStep] at h ⊢
  split at h
  · rename_i c
    rw [if_pos c, Option.some.inj h]
  · rename_i c
    rw [if_neg c]
    split at h
    · rename_i c2
      rw [if_pos c2, ← Option.some.inj h, List.append_assoc]
    · rename_i c2
      rw [if_neg c2, List.reverse_append]
      cases e : acc.reverse with
      | nil => rw [e] at h; cases h
      | cons g gs =>
        rw [e] at h
        rw [← Option.some.inj h]
        simp
theorem grp_app : ∀ {r : List α} {acc a : List (List α)} (pre : List (List α)), grp f acc r = some a → grp f (pre ++ acc) r = some (pre ++ a)
  | [], acc, a, pre, h => by rw [grp] at h ⊢; rw [Option.some.inj h]
  | w :: r, acc, a, pre, h => by
    rw [grp_cons] at h ⊢
    cases e : gStep f acc w with
    | none => rw [e] at h; cases h
    | some x =>
      rw [e] at h
      rw [gStep_app f pre e]
      exact grp_app pre h
theorem gStep_mem {acc a : List (List α)} {w : α} (P : List α → Prop) (h : gStep f acc w = some a) (h0 : ∀ g ∈ acc, P g) (h1 : (f w).getD 2 0 = (f w).getD 0 0 → P [w]) (h2 : ∀ g, P g → P (g ++ [w])) : ∀ g ∈ a, P g := by
  rw [gStep] at h
  split at h
  · rw [← Option.some.inj h]; exact h0
  · split at h
    · rename_i c
      rw [← Option.some.inj h]
      intro g hg
      rcases List.mem_append.mp hg with hg | hg
      · exact h0 g hg
      · obtain rfl : g = [w] := by simpa using hg
        exact h1 c
    · cases e : acc.reverse with
      | nil => rw [e] at h; cases h
      | cons g gs =>
        rw [e] at h
        have hm : ∀ x, x ∈ acc ↔ x ∈ g :: gs := fun x => by rw [← e, List.mem_reverse]
        rw [← Option.some.inj h]
        intro x hx
        rcases List.mem_append.mp hx with hx | hx
        · exact h0 x ((hm x).mpr (List.mem_cons_of_mem _ (by simpa using hx)))
        · obtain rfl : x = g ++ [w] := by simpa using hx
          exact h2 g (h0 g ((hm g).mpr List.mem_cons_self))
theorem grp_mem (P : List α → Prop) : ∀ {r : List α} {acc a : List (List α)}, grp f acc r = some a → (∀ g ∈ acc, P g) → (∀ w ∈ r, (f w).getD 2 0 = (f w).getD 0 0 → P [w]) → (∀ w ∈ r, ∀ g, P g → P (g ++ [w])) → ∀ g ∈ a, P g
  | [], acc, a, h, h0, _, _ => by rw [grp] at h; rw [← Option.some.inj h]; exact h0
  | w :: r, acc, a, h, h0, h1, h2 => by
    rw [grp_cons] at h
    cases e : gStep f acc w with
    | none => rw [e] at h; cases h
    | some x =>
      rw [e] at h
      exact grp_mem P h (gStep_mem f P e h0 (h1 w List.mem_cons_self) (h2 w List.mem_cons_self)) (fun y hy => h1 y (List.mem_cons_of_mem _ hy)) (fun y hy => h2 y (List.mem_cons_of_mem _ hy))
end
/-- whether a row's last block is there; its begin; its words -/
def hasLast (g : List (List Int)) : Bool := decide ((g.getLastD []).getD 3 0 = 0)
def begOf (g : List (List Int)) : Int := (g.headD []).getD 2 0
def wordsOf (g : List (List Int)) : List Int := cutI (mids g) (some 1) (some (1 + (mids g).getD 0 0))
def rowsIn (gs : List (List (List Int))) : List (Int × List Int) := (gs.filter hasLast).map fun g => (begOf g, wordsOf g)
def cutIn (gs : List (List (List Int))) : List Int := (gs.filter fun g => !hasLast g).map begOf
theorem rowsIn_snoc (gs : List (List (List Int))) (g : List (List Int)) : rowsIn (gs ++ [g]) = rowsIn gs ++ (if hasLast g = true then [(begOf g, wordsOf g)] else []) := by
  unfold rowsIn
  rw [List.filter_append, List.map_append]
  cases h : hasLast g <;> simp [h]
theorem cutIn_snoc (gs : List (List (List Int))) (g : List (List Int)) : cutIn (gs ++ [g]) = cutIn gs ++ (if hasLast g = true then [] else [begOf g]) := by
  unfold cutIn
  rw [List.filter_append, List.map_append]
  cases h : hasLast g <;> simp [h]
theorem grp_sub {α : Type} (f : α → List Int) : ∀ {r : List α} {acc a : List (List α)}, grp f acc r = some a → ∀ g ∈ a, ∃ h s, (h = [] ∨ h ∈ acc) ∧ s.Sublist r ∧ g = h ++ s
  | [], acc, a, h, g, hg => by
    rw [grp] at h
    rw [← Option.some.inj h] at hg
    exact ⟨g, [], .inr hg, List.Sublist.slnil, by simp⟩
  | w :: r, acc, a, h, g, hg => by
    rw [grp_cons] at h
    cases e : gStep f acc w with
    | none => rw [e] at h; cases h
    | some x =>
      rw [e] at h
      obtain ⟨h1, s, c, hs, rfl⟩ := grp_sub f (r := r) h g hg
      rcases c with c | c
      · exact ⟨[], s, .inl rfl, hs.cons _, by rw [c]⟩
      · rw [gStep] at e
        split at e
        · rw [← Option.some.inj e] at c
          exact ⟨h1, s, .inr c, hs.cons _, rfl⟩
        · split at e
          · rw [← Option.some.inj e] at c
            rcases List.mem_append.mp c with c | c
            · exact ⟨h1, s, .inr c, hs.cons _, rfl⟩
            · obtain rfl : h1 = [w] := by simpa using c
              exact ⟨[], w :: s, .inl rfl, hs.cons₂ _, rfl⟩
          · cases e2 : acc.reverse with
            | nil => rw [e2] at e; cases e
            | cons z zs =>
              rw [e2] at e
              have ea : acc = zs.reverse ++ [z] := by rw [← List.reverse_reverse acc, e2, List.reverse_cons]
              rw [← Option.some.inj e] at c
              rcases List.mem_append.mp c with c | c
              · exact ⟨h1, s, .inr (by rw [ea]; exact List.mem_append_left _ c), hs.cons _, rfl⟩
              · obtain rfl : h1 = z ++ [w] := by simpa using c
                exact ⟨z, w :: s, .inr (by rw [ea]; simp), hs.cons₂ _, by simp⟩
theorem grp_parts {α : Type} (f : α → List Int) {r : List α} {gs : List (List α)} (h : grp f [] r = some gs) : ∀ g ∈ gs, g.Sublist r ∧ g ≠ [] := by
  intro g hg
  obtain ⟨h1, s, c, hs, rfl⟩ := grp_sub f h g hg
  have : h1 = [] := by
    rcases c with c | c
    · exact c
    · cases c
  subst this
  have ne := grp_mem f (fun g => g ≠ []) h (fun _ z => nomatch z) (fun _ _ _ => by simp) (fun _ _ _ _ => by simp)
  exact ⟨hs, ne _ hg⟩
def sp_by_row (K : PySem.W.Frag) (_ : Ad) : Sp := fun vs H Q _ => ∃ (a : Addr) (pb : List (Addr × List Int)) (gs : List (List (Addr × List Int))), vs = [.ref a] ∧ Holds H ((a, .lst (pb.map rf)) :: bL pb) ∧ (∀ x ∈ pb, x.2.length = 8) ∧ grp Prod.snd [] pb = some gs ∧ pb.length ≤ 1000 ∧
  ∀ (D : Addr) (ga : List (Addr × List (Addr × List Int))) (H' : Hp), ga.map Prod.snd = gs → Hs [] H H' ((D, .lst (ga.map gf)) :: gL ga) [] → Q (.ref D) H'
theorem grp_len {α : Type} (f : α → List Int) : ∀ {r : List α} {acc a : List (List α)}, grp f acc r = some a → a.length ≤ acc.length + r.length ∧ ∀ g ∈ a, g.length ≤ (acc.map List.length).sum + r.length
  | [], acc, a, h => by
    rw [grp] at h
    rw [← Option.some.inj h]
    exact ⟨by simp, fun g hg => by have := len_le_sum hg; simp; omega⟩
  | w :: r, acc, a, h => by
    rw [grp_cons] at h
    cases e : gStep f acc w with
    | none => rw [e] at h; cases h
    | some x =>
      rw [e] at h
      have q := grp_len f (r := r) h
      have hx : x.length ≤ acc.length + 1 ∧ (x.map List.length).sum ≤ (acc.map List.length).sum + 1 := by
        rw [gStep] at e
        split at e
        · rw [← Option.some.inj e]; omega
        · split at e
          · rw [← Option.some.inj e]; simp
          · cases e2 : acc.reverse with
            | nil => rw [e2] at e; cases e
            | cons g gs =>
              rw [e2] at e
              have ea : acc = gs.reverse ++ [g] := by rw [← List.reverse_reverse acc, e2, List.reverse_cons]
              rw [← Option.some.inj e, ea]
              simp
              omega
      refine ⟨by have := q.1; have := hx.1; simp; omega, fun g hg => ?_⟩
      have := q.2 g hg
      have := hx.2
      rw [List.length_cons]
      omega
theorem sc_by_row : FnScope ["blocks", "found", "words"] ["blocks"] (defScope st_by_row) := ⟨rfl, rfl, rfl, by decide +kernel, rfl, by decide +kernel, by decide +kernel⟩
def sp_has_last (K : PySem.W.Frag) (_ : Ad) : Sp := fun vs H Q _ => ∃ (a : Addr) (ini : List (Addr × List Int)) (x : Addr × List Int), vs = [.ref a] ∧ H a = some (.lst ((ini ++ [x]).map rf)) ∧ H x.1 = some (.lst (x.2.map V.int)) ∧ x.2.length = 8 ∧ Q (.bl (decide (x.2.getD 3 0 = 0))) H
theorem sc_has_last : FnScope ["some"] ["some"] (defScope st_has_last) := ⟨rfl, rfl, rfl, by decide +kernel, rfl, by decide +kernel, by decide +kernel⟩
def sp_rows_in (K : PySem.W.Frag) (_ : Ad) : Sp := fun vs H Q _ => ∃ (a : Addr) (pb : List (Addr × List Int)) (gs : List (List (Addr × List Int))), vs = [.ref a] ∧ Holds H ((a, .lst (pb.map rf)) :: bL pb) ∧ (∀ x ∈ pb, x.2.length = 8) ∧ grp Prod.snd [] pb = some gs ∧ pb.length ≤ 1000 ∧
  ∀ (D : Addr) (xs : List RA) (H' : Hp), xs.map Prod.snd = rowsIn (gs.map (List.map Prod.snd)) → Hs [] H H' ((D, .lst (xs.map tf)) :: rL xs) [] → Q (.ref D) H'
theorem Hs.snoc2 {W : List Addr} {H0 H : Hp} {t p d : Addr × HO} {A B I : List (Addr × HO)} (h : Hs W H0 H (t :: p :: d :: (A ++ B)) I) : Hs W H0 H (d :: ((A ++ [t, p]) ++ B)) I := by
  refine h.perm ?_
  rw [List.append_assoc]
  refine (List.Perm.cons _ (List.perm_append_comm (l₁ := A) (l₂ := [t, p] ++ B))).trans ?_
  show (d :: t :: p :: (B ++ A)).Perm _
  refine (List.Perm.swap _ _ _).trans (List.Perm.cons _ ((List.Perm.swap _ _ _).trans (List.Perm.cons _ (List.Perm.cons _ List.perm_append_comm))))
theorem sc_rows_in : FnScope ["blocks", "some"] ["blocks"] (defScope st_rows_in) := ⟨rfl, rfl, rfl, by decide +kernel, rfl, by decide +kernel, by decide +kernel⟩
def sp_cut_in (K : PySem.W.Frag) (_ : Ad) : Sp := fun vs H Q _ => ∃ (a : Addr) (pb : List (Addr × List Int)) (gs : List (List (Addr × List Int))), vs = [.ref a] ∧ Holds H ((a, .lst (pb.map rf)) :: bL pb) ∧ (∀ x ∈ pb, x.2.length = 8) ∧ grp Prod.snd [] pb = some gs ∧ pb.length ≤ 1000 ∧
  NewO (.lst ((cutIn (gs.map (List.map Prod.snd))).map V.int)) H Q
theorem sc_cut_in : FnScope ["blocks", "some"] ["blocks"] (defScope st_cut_in) := ⟨rfl, rfl, rfl, by decide +kernel, rfl, by decide +kernel, by decide +kernel⟩
def rowB? (items : List V) : Bool := decide (items.length ≤ 11) && items.all fun v => wholeB v 0 999999999
def sp_is_row (K : PySem.W.Frag) (_ : Ad) : Sp := fun vs H Q _ => (∃ (v : V), vs = [v] ∧ (v = .non ∨ ∃ x, v = .str x) ∧ ∀ H', Upto [] H H' → Q (.bl false) H') ∨ ∃ (a : Addr) (b : Bool) (items : List V), vs = [.ref a] ∧ H a = some (if b then .lst items else .tup items) ∧ (∀ x ∈ items, FlatV x) ∧ items.length ≤ 1000 ∧
  ∀ H', Upto [] H H' → Q (.bl (b && rowB? items)) H'
theorem sc_is_row : FnScope ["row", "word"] ["row"] (defScope st_is_row) := ⟨rfl, rfl, rfl, by decide +kernel, rfl, by decide +kernel, by decide +kernel⟩
theorem s_is_row {W : List Addr} {H0 H : Hp} {M I : List (Addr × HO)} {a : Addr} {b : Bool} {items : List V} {Q : VK} {E : XK} (hs : Hs W H0 H M I) (h1 : H a = some (if b then .lst items else .tup items)) (hf : ∀ x ∈ items, FlatV x) (hz : items.length ≤ 1000)
    (h : ∀ H', Hs W H0 H' M I → Upto [] H H' → Q (.bl (b && rowB? items)) H') : sp_is_row K Z [.ref a] H Q E := .inr ⟨a, b, items, rfl, h1, hf, hz, fun H' u => h H' (hs.call0 u) u⟩
theorem rowB_of {ns : List Int} (h : ns.length ≤ 11) (h2 : ∀ x ∈ ns, 0 ≤ x ∧ x ≤ 999999999) : rowB? (ns.map V.int) = true := by
  simp only [rowB?, Bool.and_eq_true, decide_eq_true_eq, List.all_eq_true, List.length_map]
  refine ⟨h, fun v hv => ?_⟩
  obtain ⟨x, hx, rfl⟩ := List.mem_map.mp hv
  have := h2 x hx
  simp only [wholeB, Bool.and_eq_true, decide_eq_true_eq]
  exact this
theorem chunk_flat (xs : List Int) : ∀ m : Nat, 3 * m ≤ xs.length → ((List.range m).map fun i => [xs.getD (3 * i) 0, xs.getD (3 * i + 1) 0, xs.getD (3 * i + 2) 0]).flatten = xs.take (3 * m)
  | 0, _ => by simp
  | m + 1, h => by
    rw [List.range_succ, List.map_append, List.flatten_append, chunk_flat xs m (by omega)]
    have t := take3 (xs := xs) (j := 3 * m) (by omega)
    show _ ++ ([xs.getD (3 * m) 0, xs.getD (3 * m + 1) 0, xs.getD (3 * m + 2) 0] ++ []) = _
    rw [List.append_nil, ← t, show 3 * (m + 1) = 3 * m + 3 by omega, List.take_add]
theorem pcs_flat (ws : List Int) : (pcs ws).flatten = dL ws ((3 - (ws.length + 1) % 3) % 3) := by
  have e : pcs ws = (List.range (ws.length / 3 + 1)).map fun i => [(dL ws ((3 - (ws.length + 1) % 3) % 3)).getD (3 * i) 0, (dL ws ((3 - (ws.length + 1) % 3) % 3)).getD (3 * i + 1) 0, (dL ws ((3 - (ws.length + 1) % 3) % 3)).getD (3 * i + 2) 0] := by
    unfold pcs
    apply List.map_congr_left
    intro i _
    rw [dL_getD, dL_getD, dL_getD]
  rw [e, chunk_flat _ _ (by rw [dL_len]; omega)]
  exact List.take_of_length_le (by rw [dL_len]; omega)
theorem cut_back (ws : List Int) (k : Nat) : cutI (dL ws k) (some 1) (some (1 + (dL ws k).getD 0 0)) = ws := by
  have h0 : (dL ws k).getD 0 0 = ws.length := rfl
  rw [h0]
  unfold cutI
  rw [sIx_in (by omega) (by rw [dL_len]; omega), sIx_in (by omega) (by rw [dL_len]; omega)]
  have e1 : ((1 : Int).toNat) = 1 := rfl
  have e2 : (1 + (ws.length : Int)).toNat - (1 : Int).toNat = ws.length := by omega
  rw [e2, e1]
  show (ws ++ _).take ws.length = ws
  exact List.take_left ..
/-- what a whole block is -/
structure Blk (b : List Int) (num flo : Int) : Prop where
  len : b.length = 8
  first : b.getD 0 0 = num
  last : b.getD 7 0 = num
  floor : b.getD 1 0 = flo
/-- the blocks of a row -/
def rowB (row : List Int) (f b : Int) : List (List Int) := (List.range (pcs row).length).map fun (i : Nat) => madeL (b + (i : Int)) f b (((pcs row).length : Int) - 1 - (i : Int)) ((pcs row).getD i [])
theorem rowB_len (row : List Int) (f b : Int) : (rowB row f b).length = (pcs row).length := by simp [rowB]
theorem rowB_get {row : List Int} {f b : Int} {i : Nat} {x : List Int} (h : (pcs row)[i]? = some x) : (rowB row f b)[i]? = some (madeL (b + i) f b (((pcs row).length : Int) - 1 - i) x) := by
  have hi : i < (pcs row).length := (List.getElem?_eq_some_iff.mp h).1
  unfold rowB
  have hd : (pcs row).getD i [] = x := by rw [List.getD_eq_getElem?_getD, h]; rfl
  rw [List.getElem?_map, List.getElem?_range hi, Option.map_some, hd]
theorem pcs_three {row x : List Int} (h : x ∈ pcs row) : ∃ a b c, x = [a, b, c] := by
  unfold pcs at h
  obtain ⟨i, _, rfl⟩ := List.mem_map.mp h
  exact ⟨_, _, _, rfl⟩
theorem rowB_blk {row : List Int} {f b : Int} {i : Nat} {w : List Int} (h : (rowB row f b)[i]? = some w) : Blk w (b + i) f ∧ w.getD 2 0 = b ∧ w.getD 3 0 = ((pcs row).length : Int) - 1 - i := by
  have hi : i < (pcs row).length := by
    have := (List.getElem?_eq_some_iff.mp h).1
    rwa [rowB_len] at this
  have hp := List.getElem?_eq_getElem hi
  obtain ⟨x, y, z, e⟩ := pcs_three (List.getElem_mem hi)
  rw [e] at hp
  rw [rowB_get hp] at h
  rw [← Option.some.inj h]
  exact ⟨⟨rfl, rfl, rfl, rfl⟩, rfl, rfl⟩
theorem rowB_mids (row : List Int) (f b : Int) : mids (rowB row f b) = (pcs row).flatten := by
  have e : (rowB row f b).map (fun w => (w.drop 4).take 3) = pcs row := by
    apply List.ext_getElem?
    intro i
    rw [List.getElem?_map]
    cases h : (pcs row)[i]? with
    | none =>
      rw [List.getElem?_eq_none (by rw [rowB_len]; exact List.getElem?_eq_none_iff.mp h)]
      rfl
    | some x =>
      rw [rowB_get h]
      obtain ⟨a, b, c, rfl⟩ := pcs_three (List.mem_of_getElem? h)
      rfl
  unfold mids
  rw [e]
theorem rowB_words (row : List Int) (f b : Int) : wordsOf (rowB row f b) = row := by
  unfold wordsOf
  rw [rowB_mids, pcs_flat]
  exact cut_back _ _
theorem headD_take {α : Type} {d : α} {l : List α} {j : Nat} (h : 0 < j) : (l.take j).headD d = l.headD d := by
  cases l with
  | nil => simp
  | cons a l =>
    cases j with
    | zero => omega
    | succ j => rfl
theorem getLastD_snoc {α : Type} {d x : α} (l : List α) : (l ++ [x]).getLastD d = x := by simp
theorem rowB_beg {row : List Int} {f b : Int} {j : Nat} (h : 0 < j) : begOf ((rowB row f b).take j) = b := by
  unfold begOf
  rw [headD_take h]
  have hl : 0 < (pcs row).length := by rw [pcs_len]; omega
  have h0 : ∃ w, (rowB row f b)[0]? = some w := ⟨_, List.getElem?_eq_getElem (by rw [rowB_len]; exact hl)⟩
  obtain ⟨w, hw⟩ := h0
  have q := (rowB_blk hw).2.1
  rw [List.headD_eq_head?_getD, List.head?_eq_getElem?, hw]
  exact q
theorem rowB_last {row : List Int} {f b : Int} {j : Nat} (h : 0 < j) (h2 : j ≤ (pcs row).length) : hasLast ((rowB row f b).take j) = decide (j = (pcs row).length) := by
  obtain ⟨i, rfl⟩ : ∃ i, j = i + 1 := ⟨j - 1, by omega⟩
  obtain ⟨w, hw⟩ : ∃ w, (rowB row f b)[i]? = some w := ⟨_, List.getElem?_eq_getElem (by rw [rowB_len]; omega)⟩
  unfold hasLast
  rw [take_snoc hw, getLastD_snoc, (rowB_blk hw).2.2]
  apply decide_eq_decide.mpr
  omega

/-! ### the next block, written or torn -/
def mixB (p : Int) (new old : List Int) : List Int := new.take p.toNat ++ old.drop p.toNat
theorem mod_inj {n : Nat} {a b : Int} (hn : 0 < n) (h : a % n = b % n) (h1 : b - n < a) (h2 : a ≤ b) : a = b := by
  obtain ⟨q, r, e, h0, h1', e3⟩ := emod_cases a hn
  obtain ⟨q2, r2, e', h0', h1'', e3'⟩ := emod_cases b hn
  have hr : r = r2 := by omega
  subst hr
  have hq : (n : Int) * (q2 - q) = b - a := by rw [Int.mul_sub]; omega
  have hq1 : q2 - q < 1 := by
    refine Decidable.byContradiction fun z => ?_
    have := Int.mul_le_mul_of_nonneg_left (show 1 ≤ q2 - q by omega) (show (0 : Int) ≤ n by omega)
    omega
  have hq2 : 0 ≤ q2 - q := by
    refine Decidable.byContradiction fun z => ?_
    have := Int.mul_le_mul_of_nonneg_left (show q2 - q ≤ -1 by omega) (show (0 : Int) ≤ n by omega)
    omega
  have : q2 - q = 0 := by omega
  rw [this] at hq
  omega
theorem place_lt {n : Nat} (hn : 0 < n) (k : Int) : (k % n).toNat < n ∧ ((k % n).toNat : Int) = k % n := by
  have h0 := Int.emod_nonneg k (show (n : Int) ≠ 0 by omega)
  have h1 := Int.emod_lt_of_pos k (show (0 : Int) < n by omega)
  omega
theorem getD_set {ws : List (List Int)} {i j : Nat} {b : List Int} (hi : i < ws.length) : (ws.set i b).getD j [] = if i = j then b else ws.getD j [] := by
  rw [List.getD_eq_getElem?_getD, List.getElem?_set]
  by_cases c : i = j
  · subst c
    simp [hi]
  · simp [c]
theorem Laid.write {n : Nat} {ws : List (List Int)} {num : Int} {torn : Option Int} {b : List Int} (L : Laid n ws num torn) (hn : 0 < n) (hl : ws.length = n) (h0 : fstW b = num + 1) (h7 : lstW b = num + 1) : Laid n (ws.set ((num + 1) % n).toNat b) (num + 1) none := by
  have hp := place_lt hn (num + 1)
  refine ⟨by have := L.ge; omega, fun i k hi h1 h2 h3 _ => ?_, fun t ht => by cases ht⟩
  rw [getD_set (by omega)]
  split
  · rename_i c
    have hk : k = num + 1 := mod_inj hn (by omega) (by omega) h2
    have := L.ge
    rw [if_pos (by omega), h0, h7, hk]
    exact ⟨rfl, rfl⟩
  · rename_i c
    have hk : k ≠ num + 1 := fun e => c (by rw [e] at h3; omega)
    refine L.at_ i k hi (by omega) (by omega) h3 (.inr (by omega))
theorem Laid.tear {n : Nat} {ws : List (List Int)} {num : Int} {torn : Option Int} {b : List Int} {p : Int} (L : Laid n ws num torn) (hn : 0 < n) (hl : ws.length = n) (h8 : ∀ w ∈ ws, w.length = 8) (hb : b.length = 8) (h0 : fstW b = num + 1) (hp0 : 0 ≤ p) (hp7 : p ≤ 7) :
    Laid n (ws.set ((num + 1) % n).toNat (mixB p b (ws.getD ((num + 1) % n).toNat []))) num (if 0 < p then some ((num + 1) % n) else torn) := by
  have hp := place_lt hn (num + 1)
  have hw : (ws.getD ((num + 1) % n).toNat []).length = 8 := by
    rw [List.getD_eq_getElem?_getD, List.getElem?_eq_getElem (by omega)]
    exact h8 _ (List.getElem_mem _)
  generalize ho : ws.getD ((num + 1) % n).toNat [] = o at hw
  by_cases c : 0 < p
  · rw [if_pos c]
    refine ⟨L.ge, fun i k hi h1 h2 h3 h4 => ?_, fun t ht => ?_⟩
    · rw [getD_set (by omega)]
      have hk : k ≠ num + 1 - n := by
        rcases h4 with h4 | h4
        · cases h4
        · exact h4
      rw [if_neg]
      · exact L.at_ i k hi h1 h2 h3 (.inr hk)
      · intro e
        have e2 : (num + 1 - n) % n = k % n := by rw [emod_less]; omega
        have := mod_inj hn e2 (by omega) (by omega)
        omega
    · cases ht
      refine ⟨rfl, ?_⟩
      rw [getD_set (by omega), if_pos rfl]
      have ol : lstW o ≠ num + 1 := by
        have hg := L.ge
        have key : torn = none ∨ torn = some (((num + 1) % n)) := by
          cases t : torn with
          | none => exact .inl rfl
          | some t' => right; rw [(L.tn _ t).1]
        rcases key with t | t
        · have := (L.at_ ((num + 1) % n).toNat (num + 1 - n) hp.1 (by omega) (by omega) (by rw [emod_less]; omega) (.inl t)).2
          rw [ho] at this
          rw [this]
          split <;> omega
        · have := (L.tn _ t).2.2
          rw [ho] at this
          exact this
      match b, hb, o, hw with
      | [b0, b1, b2, b3, b4, b5, b6, b7], _, [o0, o1, o2, o3, o4, o5, o6, o7], _ =>
        have hc : p = 1 ∨ p = 2 ∨ p = 3 ∨ p = 4 ∨ p = 5 ∨ p = 6 ∨ p = 7 := by omega
        rcases hc with rfl | rfl | rfl | rfl | rfl | rfl | rfl <;> exact ⟨h0, ol⟩
  · have hp1 : p = 0 := by omega
    subst hp1
    rw [if_neg (by decide)]
    have e : ws.set ((num + 1) % n).toNat (mixB 0 b o) = ws := by
      apply List.ext_getElem?
      intro j
      rw [List.getElem?_set]
      split
      · rename_i c2
        subst c2
        rw [if_pos (by omega)]
        show some (([] : List Int) ++ o) = _
        rw [List.nil_append, ← ho, List.getD_eq_getElem?_getD, List.getElem?_eq_getElem (by omega)]
        rfl
      · rfl
    rw [e]
    exact L

/-! ### what a log leaves on a disk -/
def blkOf (n : Nat) (ws : List (List Int)) (k : Int) : List Int := ws.getD (k % n).toNat []
def useB (n : Nat) (ws : List (List Int)) (flo num : Int) : List (List Int) := (List.range (num - flo).toNat).map fun j => blkOf n ws (flo + 1 + (j : Nat))
theorem useB_nil {n : Nat} {ws : List (List Int)} {flo num : Int} (h : num ≤ flo) : useB n ws flo num = [] := by
  unfold useB
  rw [show (num - flo).toNat = 0 by omega]
  rfl
theorem useB_len {n : Nat} {ws : List (List Int)} {flo num : Int} : (useB n ws flo num).length = (num - flo).toNat := by simp [useB]
theorem useB_snoc {n : Nat} {ws : List (List Int)} {flo num : Int} (h : flo ≤ num) : useB n ws flo (num + 1) = useB n ws flo num ++ [blkOf n ws (num + 1)] := by
  unfold useB
  rw [show (num + 1 - flo).toNat = (num - flo).toNat + 1 by omega, List.range_succ, List.map_append]
  rw [show num + 1 = flo + 1 + ((num - flo).toNat : Nat) by omega]
  rfl
theorem useB_split {n : Nat} {ws : List (List Int)} {flo f num : Int} (h1 : flo ≤ f) (h2 : f ≤ num) : useB n ws flo num = useB n ws flo f ++ useB n ws f num := by
  unfold useB
  rw [show (num - flo).toNat = (f - flo).toNat + (num - f).toNat by omega, List.range_add, List.map_append, List.map_map]
  congr 1
  apply List.map_congr_left
  intro j _
  show blkOf n ws _ = blkOf n ws _
  congr 1
  push_cast
  omega
theorem useB_cons {n : Nat} {ws : List (List Int)} {f num : Int} (h : f < num) : useB n ws f num = blkOf n ws (f + 1) :: useB n ws (f + 1) num := by
  rw [useB_split (f := f + 1) (by omega) (by omega)]
  congr 1
  unfold useB
  rw [show (f + 1 - f).toNat = 1 by omega]
  simp
theorem useB_mem {n : Nat} {ws : List (List Int)} {flo num : Int} {b : List Int} (h : b ∈ useB n ws flo num) : ∃ k, flo < k ∧ k ≤ num ∧ b = blkOf n ws k := by
  obtain ⟨j, hj, rfl⟩ := List.mem_map.mp h
  rw [List.mem_range] at hj
  exact ⟨flo + 1 + j, by omega, by omega, rfl⟩
theorem blkOf_set {n : Nat} {ws : List (List Int)} {k j : Int} {b : List Int} (hn : 0 < n) (hl : ws.length = n) : blkOf n (ws.set (k % n).toNat b) j = if k % n = j % n then b else blkOf n ws j := by
  unfold blkOf
  have h1 := place_lt hn k
  have h2 := place_lt hn j
  rw [getD_set (by omega)]
  by_cases c : k % n = j % n
  · rw [if_pos c, if_pos (by omega)]
  · rw [if_neg c, if_neg (by omega)]
/-- a write of the next block changes none of use -/
theorem useB_set {n : Nat} {ws : List (List Int)} {flo num : Int} {b : List Int} (hn : 0 < n) (hl : ws.length = n) (h : num - flo < n) : useB n (ws.set ((num + 1) % n).toNat b) flo num = useB n ws flo num := by
  unfold useB
  apply List.map_congr_left
  intro j hj
  rw [List.mem_range] at hj
  show blkOf n _ _ = _
  rw [blkOf_set hn hl, if_neg]
  intro e
  have := mod_inj hn e.symm (by omega) (by omega)
  omega
def goneB (n : Nat) (ws : List (List Int)) (num : Int) : Bool := decide ((n : Int) ≤ num) && (decide ((blkOf n ws num).getD 2 0 = 0) && decide ((blkOf n ws num).getD 3 0 = 1))
structure View (n : Nat) (ws : List (List Int)) (num flo : Int) (torn : Option Int) (gs : List (List (List Int))) : Prop extends Laid n ws num torn where
  n4 : 4 ≤ n
  n64 : n ≤ 64
  wl : ws.length = n
  w8 : ∀ w ∈ ws, w.length = 8
  f0 : (n : Int) - 1 ≤ flo
  f1 : flo ≤ num
  f2 : num - flo ≤ n - 1
  f3 : (n : Int) ≤ num → flo < num ∧ (blkOf n ws num).getD 1 0 = flo
  gr : grp (fun w => w) [] (useB n ws flo num) = some gs
theorem mem_set' {ws : List (List Int)} {i : Nat} {b w : List Int} (h : w ∈ ws.set i b) : w ∈ ws ∨ w = b := List.mem_or_eq_of_mem_set h
/-- a block begins a row -/
def Begins (b : List Int) : Prop := b.getD 2 0 = b.getD 0 0 ∧ b.getD 2 0 ≠ 0
theorem blkOf_num {n : Nat} {ws : List (List Int)} {num flo : Int} {torn : Option Int} {gs : List (List (List Int))} (v : View n ws num flo torn gs) {k : Int} (h1 : flo < k) (h2 : k ≤ num) : (blkOf n ws k).getD 0 0 = k ∧ (blkOf n ws k).getD 7 0 = k ∧ (blkOf n ws k).length = 8 := by
  have n4 := v.n4
  have hp := place_lt (n := n) (by omega) k
  have f2 := v.f2
  have f0 := v.f0
  have := v.at_ (k % n).toNat k hp.1 (by omega) h2 (by omega) (.inr (by omega))
  rw [if_pos (by omega)] at this
  refine ⟨this.1, this.2, ?_⟩
  unfold blkOf
  rw [List.getD_eq_getElem?_getD, List.getElem?_eq_getElem (by rw [v.wl]; exact hp.1)]
  exact v.w8 _ (List.getElem_mem _)
theorem headD_snoc {α : Type} {d : α} (w : α) : ∀ {g : List α}, g ≠ [] → (g ++ [w]).headD d = g.headD d
  | [], h => absurd rfl h
  | _ :: _, _ => rfl
section
variable {n : Nat} {ws : List (List Int)} {num flo : Int} {torn : Option Int} {gs : List (List (List Int))} (v : View n ws num flo torn gs)
include v
/-- the first block of each row -/
theorem View.heads : ∀ g ∈ gs, g ≠ [] ∧ (∀ b ∈ g, b ∈ useB n ws flo num) ∧ Begins (g.headD []) ∧ flo < begOf g ∧ begOf g ≤ num ∧ g.headD [] = blkOf n ws (begOf g) := by
  have key := grp_mem (fun w : List Int => w) (fun g => g ≠ [] ∧ (∀ b ∈ g, b ∈ useB n ws flo num) ∧ ((g.headD []).getD 2 0 = (g.headD []).getD 0 0) ∧ g.headD [] ∈ useB n ws flo num) v.gr (fun g hg => nomatch hg)
    (fun w hw hb => ⟨by simp, fun b h => by
      obtain rfl : b = w := by simpa using h
      exact hw, hb, hw⟩)
    (fun w hw g hg => ⟨by simp, fun b h => by
      rcases List.mem_append.mp h with h | h
      · exact hg.2.1 b h
      · obtain rfl : b = w := by simpa using h
        exact hw, by rw [headD_snoc w hg.1]; exact hg.2.2.1, by rw [headD_snoc w hg.1]; exact hg.2.2.2⟩)
  intro g hg
  obtain ⟨h1, h2, h3, h4⟩ := key g hg
  obtain ⟨k, k1, k2, k3⟩ := useB_mem h4
  have hk := blkOf_num v k1 k2
  have hb : begOf g = k := by
    unfold begOf
    rw [h3, k3, hk.1]
  have f0 := v.f0
  have n4 := v.n4
  refine ⟨h1, h2, ⟨h3, ?_⟩, by omega, by omega, by rw [hb]; exact k3⟩
  rw [h3, k3, hk.1]
  omega
end
theorem grp_inv {α : Type} (f : α → List Int) : ∀ {r : List α} {acc y : List (List α)} (pre : List (List α)), grp f (pre ++ acc) r = some y → acc ≠ [] → ∃ x, grp f acc r = some x ∧ y = pre ++ x ∧ x ≠ []
  | [], acc, y, pre, h, ha => ⟨acc, rfl, by rw [grp] at h; exact (Option.some.inj h).symm, ha⟩
  | w :: r, acc, y, pre, h, ha => by
    rw [grp_cons] at h
    have hs : ∃ a, gStep f acc w = some a ∧ a ≠ [] := by
      rw [gStep]
      split
      · exact ⟨_, rfl, ha⟩
      · split
        · exact ⟨_, rfl, by simp⟩
        · cases e : acc.reverse with
          | nil => exact absurd (by simpa using e) ha
          | cons g gs => exact ⟨_, rfl, by simp⟩
    obtain ⟨a, e, na⟩ := hs
    rw [gStep_app f pre e] at h
    rw [grp_cons, e]
    exact grp_inv f pre h na
theorem filter_none {α : Type} {p : α → Bool} {l : List α} (h : ∀ x ∈ l, p x = false) : l.filter p = [] := by
  rw [List.filter_eq_nil_iff]
  intro x hx
  rw [h x hx]
  decide
theorem filter_all {α : Type} {p : α → Bool} {l : List α} (h : ∀ x ∈ l, p x = true) : l.filter p = l := by
  rw [List.filter_eq_self]
  exact h
def over (f : Int) (gs : List (List (List Int))) : List (List (List Int)) := gs.filter fun g => decide (f < begOf g)
/-- the floor rises to the begin of a row, or to the end -/
theorem View.over_ {n : Nat} {ws : List (List Int)} {num flo : Int} {torn : Option Int} {gs : List (List (List Int))} (v : View n ws num flo torn gs) {f : Int} (h1 : flo ≤ f) (h2 : f ≤ num) (h3 : f = num ∨ ∃ g ∈ gs, begOf g = f + 1) : grp (fun w => w) [] (useB n ws f num) = some (over f gs) := by
  have hh := v.heads
  rcases h3 with h3 | ⟨g, hg, hb⟩
  · subst h3
    rw [useB_nil (Int.le_refl _)]
    unfold over
    rw [filter_none]
    · rfl
    · intro g hg
      have := (hh g hg).2.2.2.2.1
      rw [decide_eq_false]
      omega
  · have gr := v.gr
    obtain ⟨_, _, hB, g1, g2, g3⟩ := hh g hg
    rw [useB_split h1 h2, grp_append] at gr
    cases e1 : grp (fun w : List Int => w) [] (useB n ws flo f) with
    | none => rw [e1] at gr; cases gr
    | some gs1 =>
      rw [e1, useB_cons (show f < num by omega)] at gr
      have hst : ∀ acc, gStep (fun w : List Int => w) acc (blkOf n ws (f + 1)) = some (acc ++ [[blkOf n ws (f + 1)]]) := fun acc => by
        rw [← hb, ← g3, gStep, if_neg hB.2, if_pos hB.1]
      have gr2 : (gStep (fun w : List Int => w) gs1 (blkOf n ws (f + 1))).bind (fun a => grp (fun w : List Int => w) a (useB n ws (f + 1) num)) = some gs := by
        rw [← grp_cons]
        exact gr
      rw [hst] at gr2
      obtain ⟨x, ex, ey, nx⟩ := grp_inv _ gs1 (acc := [[blkOf n ws (f + 1)]]) gr2 (by simp)
      have q : grp (fun w : List Int => w) [] (useB n ws f num) = some x := by
        rw [useB_cons (show f < num by omega), grp_cons, hst]
        exact ex
      rw [q]
      -- the rows ahead begin up to f, those behind later
      have v1 : ∀ y ∈ gs1, begOf y ≤ f := by
        have key := grp_mem (fun w : List Int => w) (fun g => g ≠ [] ∧ ((g.headD []).getD 2 0 = (g.headD []).getD 0 0) ∧ g.headD [] ∈ useB n ws flo f) e1 (fun g hg => nomatch hg)
          (fun w hw hb => ⟨by simp, hb, hw⟩) (fun w hw g hg => ⟨by simp, by rw [headD_snoc w hg.1]; exact hg.2.1, by rw [headD_snoc w hg.1]; exact hg.2.2⟩)
        intro y hy
        obtain ⟨_, a1, a2⟩ := key y hy
        obtain ⟨k, k1, k2, k3⟩ := useB_mem a2
        have := (blkOf_num v k1 (by omega)).1
        unfold begOf
        rw [a1, k3, this]
        exact k2
      have v2 : ∀ y ∈ x, f < begOf y := by
        have key := grp_mem (fun w : List Int => w) (fun g => g ≠ [] ∧ ((g.headD []).getD 2 0 = (g.headD []).getD 0 0) ∧ g.headD [] ∈ useB n ws f num) q (fun g hg => nomatch hg)
          (fun w hw hb => ⟨by simp, hb, hw⟩) (fun w hw g hg => ⟨by simp, by rw [headD_snoc w hg.1]; exact hg.2.1, by rw [headD_snoc w hg.1]; exact hg.2.2⟩)
        intro y hy
        obtain ⟨_, a1, a2⟩ := key y hy
        obtain ⟨k, k1, k2, k3⟩ := useB_mem a2
        have := (blkOf_num v (show flo < k by omega) k2).1
        unfold begOf
        rw [a1, k3, this]
        exact k1
      rw [ey]
      unfold over
      rw [List.filter_append, filter_none (fun y hy => decide_eq_false (by have := v1 y hy; omega)), filter_all (fun y hy => decide_eq_true (v2 y hy)), List.nil_append]
/-- a write of the next block -/
theorem View.write {n : Nat} {ws : List (List Int)} {num flo : Int} {torn : Option Int} {gs gs' : List (List (List Int))} (v : View n ws num flo torn gs) {b : List Int} {f : Int} (hb : Blk b (num + 1) f) (h1 : flo ≤ f) (h2 : f ≤ num) (h3 : f = num ∨ ∃ g ∈ gs, begOf g = f + 1) (h4 : num + 1 - f ≤ n - 1)
    (hg : gStep (fun w => w) (over f gs) b = some gs') : View n (ws.set ((num + 1) % n).toNat b) (num + 1) f none gs' := by
  have n4 := v.n4
  have wl := v.wl
  have f0 := v.f0
  have f1 := v.f1
  have hn : 0 < n := by omega
  have e1 : blkOf n (ws.set ((num + 1) % n).toNat b) (num + 1) = b := by rw [blkOf_set hn wl, if_pos rfl]
  refine ⟨v.toLaid.write hn wl hb.first hb.last, n4, v.n64, by rw [List.length_set]; exact wl, fun w hw => ?_, by omega, by omega, h4, fun _ => ⟨by omega, by rw [e1]; exact hb.floor⟩, ?_⟩
  · rcases mem_set' hw with hw | hw
    · exact v.w8 w hw
    · rw [hw]; exact hb.len
  · rw [useB_snoc h2, useB_set hn wl (by omega), e1, grp_snoc, v.over_ h1 h2 h3]
    exact hg
theorem View.same {n : Nat} {ws : List (List Int)} {num flo : Int} {torn : Option Int} {gs : List (List (List Int))} (v : View n ws num flo torn gs) : over flo gs = gs := filter_all fun g hg => decide_eq_true (v.heads g hg).2.2.2.1
/-- a later block of the last row -/
theorem View.writeOn {n : Nat} {ws : List (List Int)} {num flo : Int} {torn : Option Int} {gs : List (List (List Int))} {g : List (List Int)} (v : View n ws num flo torn (gs ++ [g])) {b : List Int} (hb : Blk b (num + 1) flo) (h2 : b.getD 2 0 ≠ 0) (h3 : b.getD 2 0 ≠ num + 1) (h4 : num + 1 - flo ≤ n - 1) : View n (ws.set ((num + 1) % n).toNat b) (num + 1) flo none (gs ++ [g ++ [b]]) := by
  have n4 := v.n4
  have wl := v.wl
  have f0 := v.f0
  have f1 := v.f1
  have hn : 0 < n := by omega
  have e1 : blkOf n (ws.set ((num + 1) % n).toNat b) (num + 1) = b := by rw [blkOf_set hn wl, if_pos rfl]
  refine ⟨v.toLaid.write hn wl hb.first hb.last, n4, v.n64, by rw [List.length_set]; exact wl, fun w hw => ?_, f0, by omega, h4, fun _ => ⟨by omega, by rw [e1]; exact hb.floor⟩, ?_⟩
  · rcases mem_set' hw with hw | hw
    · exact v.w8 w hw
    · rw [hw]; exact hb.len
  · rw [useB_snoc f1, useB_set hn wl (by omega), e1, grp_snoc, v.gr]
    show gStep (fun w : List Int => w) (gs ++ [g]) b = _
    have hf := hb.first
    rw [gStep, if_neg h2, if_neg (by rw [hf]; exact h3)]
    simp
/-- a write of which the first words alone come in -/
theorem View.tear {n : Nat} {ws : List (List Int)} {num flo : Int} {torn : Option Int} {gs : List (List (List Int))} (v : View n ws num flo torn gs) {b : List Int} {p : Int} (hb : b.length = 8) (h0 : b.getD 0 0 = num + 1) (hp0 : 0 ≤ p) (hp7 : p ≤ 7) :
    View n (ws.set ((num + 1) % n).toNat (mixB p b (ws.getD ((num + 1) % n).toNat []))) num flo (if 0 < p then some ((num + 1) % n) else torn) gs := by
  have n4 := v.n4
  have wl := v.wl
  have f0 := v.f0
  have f1 := v.f1
  have f2 := v.f2
  have hn : 0 < n := by omega
  have hp := place_lt hn (num + 1)
  refine ⟨v.toLaid.tear hn wl v.w8 hb h0 hp0 hp7, n4, v.n64, by rw [List.length_set]; exact wl, fun w hw => ?_, f0, f1, f2, fun h => ?_, ?_⟩
  · rcases mem_set' hw with hw | hw
    · exact v.w8 w hw
    · rw [hw]
      unfold mixB
      have : (ws.getD ((num + 1) % n).toNat []).length = 8 := by
        rw [List.getD_eq_getElem?_getD, List.getElem?_eq_getElem (by omega)]
        exact v.w8 _ (List.getElem_mem _)
      rw [List.length_append, List.length_take, List.length_drop, this, hb]
      omega
  · rw [blkOf_set hn wl, if_neg]
    · exact v.f3 h
    · intro e
      have := mod_inj hn e.symm (by omega) (by omega)
      omega
  · rw [useB_set hn wl (by omega)]
    exact v.gr
/-! ### rows and cut rows, deed by deed -/
theorem rowsIn_over (f : Int) (gs : List (List (List Int))) : rowsIn (over f gs) = (rowsIn gs).filter fun r => decide (f < r.1) := by
  unfold rowsIn over
  rw [List.filter_map, List.filter_filter, List.filter_filter]
  congr 1
  apply List.filter_congr
  intro g _
  show (_ && _) = (_ && _)
  rw [Bool.and_comm]
  rfl
theorem cutIn_over (f : Int) (gs : List (List (List Int))) : cutIn (over f gs) = (cutIn gs).filter fun b => decide (f < b) := by
  unfold cutIn over
  rw [List.filter_map, List.filter_filter, List.filter_filter]
  congr 1
  apply List.filter_congr
  intro g _
  show (_ && _) = (_ && _)
  rw [Bool.and_comm]
  rfl
/-- the numbers of what begins rows rise -/
theorem grp_sorted : ∀ {r : List (List Int)} {acc y : List (List (List Int))}, grp (fun w => w) acc r = some y → acc.Pairwise (fun a b => begOf a < begOf b) → (∀ g ∈ acc, g ≠ []) → (∀ w ∈ r, ∀ g ∈ acc, begOf g < w.getD 0 0) → r.Pairwise (fun a b => a.getD 0 0 < b.getD 0 0) → y.Pairwise (fun a b => begOf a < begOf b)
  | [], acc, y, h, h1, _, _, _ => by rw [grp] at h; rw [← Option.some.inj h]; exact h1
  | w :: r, acc, y, h, h1, h0, h2, h3 => by
    rw [grp_cons] at h
    rw [List.pairwise_cons] at h3
    rw [gStep] at h
    split at h
    · exact grp_sorted h h1 h0 (fun x hx => h2 x (List.mem_cons_of_mem _ hx)) h3.2
    · split at h
      · rename_i c
        refine grp_sorted h ?_ ?_ ?_ h3.2
        · rw [List.pairwise_append]
          refine ⟨h1, List.pairwise_singleton _ _, fun a ha b hb => ?_⟩
          obtain rfl : b = [w] := by simpa using hb
          have := h2 w List.mem_cons_self a ha
          show _ < w.getD 2 0
          rw [c]
          exact this
        · intro g hg
          rcases List.mem_append.mp hg with hg | hg
          · exact h0 g hg
          · obtain rfl : g = [w] := by simpa using hg
            simp
        · intro x hx g hg
          rcases List.mem_append.mp hg with hg | hg
          · exact h2 x (List.mem_cons_of_mem _ hx) g hg
          · obtain rfl : g = [w] := by simpa using hg
            show w.getD 2 0 < _
            rw [c]
            exact h3.1 x hx
      · cases e : acc.reverse with
        | nil => rw [e] at h; cases h
        | cons g gs =>
          rw [e] at h
          have ea : acc = gs.reverse ++ [g] := by rw [← List.reverse_reverse acc, e, List.reverse_cons]
          have hg0 : g ≠ [] := h0 g (by rw [ea]; simp)
          have hbe : begOf (g ++ [w]) = begOf g := by unfold begOf; rw [headD_snoc w hg0]
          refine grp_sorted (acc := gs.reverse ++ [g ++ [w]]) h ?_ ?_ ?_ h3.2
          · rw [ea, List.pairwise_append] at h1
            rw [List.pairwise_append]
            refine ⟨h1.1, List.pairwise_singleton _ _, fun a ha b hb => ?_⟩
            obtain rfl : b = g ++ [w] := by simpa using hb
            rw [hbe]
            exact h1.2.2 a ha g (by simp)
          · intro x hx
            rcases List.mem_append.mp hx with hx | hx
            · exact h0 x (by rw [ea]; exact List.mem_append_left _ hx)
            · obtain rfl : x = g ++ [w] := by simpa using hx
              simp
          · intro x hx y hy
            rcases List.mem_append.mp hy with hy | hy
            · exact h2 x (List.mem_cons_of_mem _ hx) y (by rw [ea]; exact List.mem_append_left _ hy)
            · obtain rfl : y = g ++ [w] := by simpa using hy
              rw [hbe]
              exact h2 x (List.mem_cons_of_mem _ hx) g (by rw [ea]; simp)
theorem View.sorted {n : Nat} {ws : List (List Int)} {num flo : Int} {torn : Option Int} {gs : List (List (List Int))} (v : View n ws num flo torn gs) : gs.Pairwise (fun a b => begOf a < begOf b) := by
  refine grp_sorted v.gr List.Pairwise.nil (fun _ h => nomatch h) (fun _ _ _ h => nomatch h) ?_
  unfold useB
  rw [List.pairwise_map]
  refine List.Pairwise.imp_of_mem ?_ List.pairwise_lt_range
  intro a b ha hb hab
  rw [List.mem_range] at ha hb
  rw [(blkOf_num v (k := flo + 1 + a) (by omega) (by omega)).1, (blkOf_num v (k := flo + 1 + b) (by omega) (by omega)).1]
  omega
def floorU (rows : List (Int × List Int)) (num : Int) : Int := match rows with
  | [] => num
  | r :: _ => r.1 - 1
/-- the log's state, and the disk's words -/
def MInv (n : Nat) (ws : List (List Int)) (num flo : Int) (torn : Option Int) (rows : List (Int × List Int)) (cut : List Int) : Prop := ∃ gs, View n ws num flo torn gs ∧ rowsIn gs = rows ∧ cutIn gs = cut
theorem MInv.sorted {n : Nat} {ws : List (List Int)} {num flo : Int} {torn : Option Int} {rows : List (Int × List Int)} {cut : List Int} (h : MInv n ws num flo torn rows cut) : rows.Pairwise (fun a b => a.1 < b.1) := by
  obtain ⟨gs, v, rfl, _⟩ := h
  unfold rowsIn
  rw [List.pairwise_map]
  exact v.sorted.sublist List.filter_sublist
theorem MInv.begs {n : Nat} {ws : List (List Int)} {num flo : Int} {torn : Option Int} {rows : List (Int × List Int)} {cut : List Int} (h : MInv n ws num flo torn rows cut) : ∀ r ∈ rows, flo < r.1 ∧ r.1 ≤ num := by
  obtain ⟨gs, v, rfl, _⟩ := h
  intro r hr
  obtain ⟨g, hg, rfl⟩ := List.mem_map.mp hr
  have := v.heads g (List.mem_filter.mp hg).1
  exact ⟨this.2.2.2.1, this.2.2.2.2.1⟩
/-- a floor that may be written: of some rows that stand, the newest ones -/
structure FloorOk (rows later : List (Int × List Int)) (num f : Int) : Prop where
  is : f = floorU later num
  suf : ∃ pre, rows = pre ++ later
theorem MInv.floor {n : Nat} {ws : List (List Int)} {num flo f : Int} {torn : Option Int} {rows later : List (Int × List Int)} {gs : List (List (List Int))} (v : View n ws num flo torn gs) (hr : rowsIn gs = rows) (h : FloorOk rows later num f) :
    flo ≤ f ∧ f ≤ num ∧ (f = num ∨ ∃ g ∈ gs, begOf g = f + 1) ∧ rowsIn (over f gs) = later := by
  have hs := MInv.sorted ⟨gs, v, hr, rfl⟩
  have hb := MInv.begs ⟨gs, v, hr, rfl⟩
  obtain ⟨pre, hp⟩ := h.suf
  have f1 := v.f1
  rw [rowsIn_over, hr]
  cases later with
  | nil =>
    have hf : f = num := h.is
    refine ⟨by omega, by omega, .inl hf, filter_none fun r hr => decide_eq_false ?_⟩
    have := hb r hr
    omega
  | cons r rest =>
    have hf : f = r.1 - 1 := h.is
    have hm : r ∈ rows := by rw [hp]; simp
    have hb' := hb r hm
    rw [hp, List.pairwise_append, List.pairwise_cons] at hs
    refine ⟨by omega, by omega, .inr ?_, ?_⟩
    · rw [← hr] at hm
      obtain ⟨g, hg, e⟩ := List.mem_map.mp hm
      exact ⟨g, (List.mem_filter.mp hg).1, by rw [hf, ← e]; show _ = begOf g - 1 + 1; omega⟩
    · rw [hp, List.filter_append, filter_none, filter_all, List.nil_append]
      · intro x hx
        rcases List.mem_cons.mp hx with hx | hx
        · rw [hx]; exact decide_eq_true (by omega)
        · have := hs.2.1.1 x hx
          exact decide_eq_true (by omega)
      · intro x hx
        have := hs.2.2 x hx r List.mem_cons_self
        exact decide_eq_false (by omega)
/-- the disk's words behind writes of the next blocks -/
def putWs (n : Nat) : List (List Int) → Int → List (List Int) → List (List Int)
  | ws, _, [] => ws
  | ws, num, b :: bs => putWs n (ws.set ((num + 1) % n).toNat b) (num + 1) bs
theorem putWs_snoc (n : Nat) (b : List Int) : ∀ (bs ws : List (List Int)) (num : Int), putWs n ws num (bs ++ [b]) = (putWs n ws num bs).set ((num + bs.length + 1) % n).toNat b
  | [], ws, num => by simp [putWs]
  | a :: bs, ws, num => by
    rw [List.cons_append, putWs, putWs_snoc n b bs, putWs]
    congr 3
    rw [List.length_cons]
    push_cast
    omega
theorem putWs_len (n : Nat) : ∀ (bs ws : List (List Int)) (num : Int), (putWs n ws num bs).length = ws.length
  | [], ws, num => rfl
  | a :: bs, ws, num => by rw [putWs, putWs_len n bs, List.length_set]

def sp_blocks_of_use (K : PySem.W.Frag) (Z : Ad) : Sp := fun vs H Q _ => ∃ (d : Addr) (s : DS) (num flo : Int) (torn : Option Int) (gs : List (List (List Int))), vs = [.ref d, .int num] ∧ Holds H (diskL Z d s) ∧ s.Ok ∧ View s.ws.length s.ws num flo torn gs ∧ num ≤ 1000000000000000 ∧
  ∀ (D : Addr) (pb : List (Addr × List Int)) (r' : Int) (H' : Hp), pb.map Prod.snd = useB s.ws.length s.ws flo num → s.r ≤ r' → r' ≤ s.r + (num - flo) → Frm (diskL Z d s) ((D, .lst (pb.map rf)) :: (bL pb ++ diskL Z d { s with r := r' })) H H' → Q (.ref D) H'
theorem sc_blocks_of_use : FnScope ["disk", "number", "many", "last", "found", "earlier"] ["disk", "number"] (defScope st_blocks_of_use) := ⟨rfl, rfl, rfl, by decide +kernel, rfl, by decide +kernel, by decide +kernel⟩
def sp_floor_under (K : PySem.W.Frag) (_ : Ad) : Sp := fun vs H Q _ => ∃ (a : Addr) (xs : List RA) (num : Int), vs = [.ref a, .int num] ∧ Holds H ((a, .lst (xs.map tf)) :: rL xs) ∧ ∀ H', Upto [] H H' → Q (.int (floorU (xs.map Prod.snd) num)) H'
theorem sc_floor_under : FnScope ["rows", "number", "begin", "_"] ["rows", "number"] (defScope st_floor_under) := ⟨rfl, rfl, rfl, by decide +kernel, rfl, by decide +kernel, by decide +kernel⟩
/-! ### a log, as it stands in the heap -/
structure LS where
  dx : Addr
  d : Addr
  num : Int
  torn : Option Int
  ca : Addr
  cut : List Int
  gone : Bool
  ra : Addr
  rows : List RA
def lF (l : LS) : List (Str × V) := [("_disk", .ref l.d), ("_number", .int l.num), ("_torn", ltV l.torn), ("_cut", .ref l.ca), ("_gone", .bl l.gone), ("_rows", .ref l.ra)]
def logL (Z : Ad) (lg : Addr) (l : LS) : List (Addr × HO) := (lg, .ins Z.Log l.dx (lF l)) :: (l.dx, .own lg) :: (l.ca, .lst (l.cut.map V.int)) :: (l.ra, .lst (l.rows.map tf)) :: rL l.rows
def LS.rw (l : LS) : List (Int × List Int) := l.rows.map Prod.snd

def sp_Log___init__ (K : PySem.W.Frag) (Z : Ad) : Sp := fun vs H Q _ => ∃ (x dx d : Addr) (s : DS) (num flo : Int) (torn : Option Int) (gs : List (List (List Int))), vs = [.ref x, .ref d] ∧ Holds H ((x, .ins Z.Log dx []) :: (dx, .own x) :: diskL Z d s) ∧ s.Ok ∧ View s.ws.length s.ws num flo torn gs ∧ num ≤ 1000000000000000 ∧
  ∀ (ca ra : Addr) (xs : List RA) (r' : Int) (H' : Hp), xs.map Prod.snd = (if goneB s.ws.length s.ws num = true then [] else rowsIn gs) → s.r ≤ r' → r' ≤ s.r + 2 + (bitsI ((s.ws.length : Int) - 1) : Nat) + (num - flo) →
    Frm ((x, .ins Z.Log dx []) :: (dx, .own x) :: diskL Z d s) (logL Z x ⟨dx, d, num, torn, ca, cutIn gs, goneB s.ws.length s.ws num, ra, xs⟩ ++ diskL Z d { s with r := r' }) H H' → Q .non H'
theorem perm_a {α : Type} (r c x d : α) (L : List α) : (x :: d :: c :: r :: L).Perm (r :: c :: x :: d :: L) := by
  have h1 : ([x, d] ++ ([c, r] ++ L)).Perm ([c, r] ++ ([x, d] ++ L)) := by
    rw [← List.append_assoc, ← List.append_assoc]
    exact List.Perm.append_right _ List.perm_append_comm
  exact h1.trans (List.Perm.swap _ _ _)
theorem perm_b {α : Type} (r c x d : α) (A L : List α) : (x :: d :: c :: r :: (A ++ L)).Perm (r :: (A ++ (c :: x :: d :: L))) := by
  have h1 : ([x, d, c, r] ++ (A ++ L)).Perm (([r] ++ A) ++ ([c, x, d] ++ L)) := by
    have e1 : [x, d, c, r] ++ (A ++ L) = ([x, d, c] ++ ([r] ++ A)) ++ L := by simp
    have e2 : ([r] ++ A) ++ ([c, x, d] ++ L) = (([r] ++ A) ++ [c, x, d]) ++ L := by simp
    rw [e1, e2]
    refine List.Perm.append_right _ (List.perm_append_comm.trans (List.Perm.append_left _ ?_))
    exact (List.Perm.cons _ (List.Perm.swap _ _ _)).trans (List.Perm.swap _ _ _) |>.trans (List.Perm.refl _)
  exact h1
theorem sc_Log___init__ : FnScope ["self", "disk", "number", "torn", "blocks"] ["self", "disk"] (defScope st_Log___init__) := ⟨rfl, rfl, rfl, by decide +kernel, rfl, by decide +kernel, by decide +kernel⟩
def sp_Log_rows (K : PySem.W.Frag) (Z : Ad) : Sp := fun vs H Q _ => ∃ (lg : Addr) (l : LS), vs = [.ref lg] ∧ Holds H (logL Z lg l) ∧ l.rows.length ≤ 1000 ∧
  ∀ (D : Addr) (qs : List Addr) (H' : Hp), qs.length = l.rows.length → Hs [] H H' ((D, .lst (qs.map V.ref)) :: rowsL qs (l.rows.map fun x => x.2.2)) [] → Q (.ref D) H'
theorem sc_Log_rows : FnScope ["self", "_", "row"] ["self"] (defScope st_Log_rows) := ⟨rfl, rfl, rfl, by decide +kernel, rfl, by decide +kernel, by decide +kernel⟩
def sp_Log_room (K : PySem.W.Frag) (Z : Ad) : Sp := fun vs H Q _ => ∃ (lg : Addr) (l : LS) (s : DS), vs = [.ref lg] ∧ Holds H (logL Z lg l ++ diskL Z l.d s) ∧ s.Ok ∧ ∀ H', Upto [] H H' → Q (.int ((s.ws.length : Int) - 1 - (l.num - floorU l.rw l.num))) H'
theorem sc_Log_room : FnScope ["self", "floor"] ["self"] (defScope st_Log_room) := ⟨rfl, rfl, rfl, by decide +kernel, rfl, by decide +kernel, by decide +kernel⟩
def sp_Log_gone (K : PySem.W.Frag) (Z : Ad) : Sp := fun vs H Q _ => ∃ (lg : Addr) (l : LS), vs = [.ref lg] ∧ Holds H (logL Z lg l) ∧ Q (.bl l.gone) H
theorem sc_Log_gone : FnScope ["self"] ["self"] (defScope st_Log_gone) := ⟨rfl, rfl, rfl, by decide +kernel, rfl, by decide +kernel, by decide +kernel⟩
def sp_Log__need_here (K : PySem.W.Frag) (Z : Ad) : Sp := fun vs H Q E => ∃ (lg : Addr) (l : LS), vs = [.ref lg] ∧ Holds H (logL Z lg l) ∧ (l.gone = true → E (.ref Z.Gone) none H) ∧ (l.gone = false → Q .non H)
theorem sc_Log__need_here : FnScope ["self"] ["self"] (defScope st_Log__need_here) := ⟨rfl, rfl, rfl, by decide +kernel, rfl, by decide +kernel, by decide +kernel⟩
def blockB (items : List V) : Bool := decide (items.length = 8) && items.all fun v => wholeB v 0 1000000000000000
theorem blockB_ints {items : List V} (h : blockB items = true) : ∃ w : List Int, items = w.map V.int ∧ w.length = 8 := by
  simp only [blockB, Bool.and_eq_true, decide_eq_true_eq, List.all_eq_true] at h
  obtain ⟨h1, h2⟩ := h
  have : ∀ l : List V, (∀ x ∈ l, wholeB x 0 1000000000000000 = true) → ∃ w : List Int, l = w.map V.int := by
    intro l
    induction l with
    | nil => exact fun _ => ⟨[], rfl⟩
    | cons x l ih =>
      intro hx
      obtain ⟨w, rfl⟩ := ih fun y hy => hx y (List.mem_cons_of_mem _ hy)
      obtain ⟨i, rfl, _⟩ := wholeB_int (hx x List.mem_cons_self)
      exact ⟨i :: w, rfl⟩
  obtain ⟨w, rfl⟩ := this items h2
  exact ⟨w, rfl, by rw [← h1, List.length_map]⟩
def sp_is_block (K : PySem.W.Frag) (_ : Ad) : Sp := fun vs H Q _ => ∃ (a : Addr) (b : Bool) (items : List V), vs = [.ref a] ∧ H a = some (if b then .lst items else .tup items) ∧ (∀ x ∈ items, FlatV x) ∧ items.length ≤ 1000 ∧
  ∀ H', Upto [] H H' → Q (.bl (b && blockB items)) H'
theorem sc_is_block : FnScope ["words", "word"] ["words"] (defScope st_is_block) := ⟨rfl, rfl, rfl, by decide +kernel, rfl, by decide +kernel, by decide +kernel⟩
theorem s_is_block {W : List Addr} {H0 H : Hp} {M I : List (Addr × HO)} {a : Addr} {b : Bool} {items : List V} {Q : VK} {E : XK} (hs : Hs W H0 H M I) (h1 : H a = some (if b then .lst items else .tup items)) (hf : ∀ x ∈ items, FlatV x) (hz : items.length ≤ 1000)
    (h : ∀ H', Hs W H0 H' M I → Upto [] H H' → Q (.bl (b && blockB items)) H') : sp_is_block K Z [.ref a] H Q E := ⟨a, b, items, rfl, h1, hf, hz, fun H' u => h H' (hs.call0 u) u⟩
def sp_Disk__write_part (K : PySem.W.Frag) (Z : Ad) : Sp := fun vs H Q _ => ∃ (d wa : Addr) (s : DS) (i : Nat) (w : List Int), vs = [.ref d, .int i, .ref wa] ∧ Holds H ((wa, .lst (w.map V.int)) :: diskL Z d s) ∧ s.Ok ∧ i < s.ws.length ∧ w.length = 8 ∧ 0 ≤ s.p ∧ s.p ≤ 7 ∧
  (∀ (bs : List Addr) (H' : Hp), bs.length = s.bs.length → Frm (diskL Z d s) (diskL Z d { s with bs := bs, ws := s.ws.set i (mixW s.p w (s.ws.getD i [])), p := 0 }) H H' → Q .non H')
theorem sc_Disk__write_part : FnScope ["self", "place", "words"] ["self", "place", "words"] (defScope st_Disk__write_part) := ⟨rfl, rfl, rfl, by decide +kernel, rfl, by decide +kernel, by decide +kernel⟩
def sp_Disk_write (K : PySem.W.Frag) (Z : Ad) : Sp := fun vs H Q E => ∃ (d wa : Addr) (s : DS) (v : V) (l : Bool) (items : List V), vs = [.ref d, v, .ref wa] ∧ Holds H ((wa, if l then .lst items else .tup items) :: diskL Z d s) ∧ s.Ok ∧ FlatV v ∧ (∀ x ∈ items, FlatV x) ∧ items.length ≤ 1000 ∧ 0 ≤ s.p ∧ s.p ≤ 7 ∧
  (wholeB v 0 (s.ws.length - 1) = false → E (.ref Z.NoBlock) none H) ∧
  (wholeB v 0 (s.ws.length - 1) = true → (l && blockB items) = false → ∀ H', Upto [] H H' → E (.ref Z.BadBlock) none H') ∧
  (∀ (i : Nat) (w : List Int), v = .int i → i < s.ws.length → l = true → items = w.map V.int → w.length = 8 → blockB items = true →
    (s.lt = some 0 → ∀ (bs : List Addr) (H' : Hp), bs.length = s.bs.length → Frm (diskL Z d s) (diskL Z d { s with bs := bs, ws := s.ws.set i (mixW s.p w (s.ws.getD i [])), p := 0 }) H H' → E (.ref Z.Stopped) none H') ∧
    (s.lt ≠ some 0 → ∀ (bs : List Addr) (H' : Hp), bs.length = s.bs.length → Frm (diskL Z d s) (diskL Z d { s with bs := bs, ws := s.ws.set i w, w := s.w + 1, lt := s.lt.map (· - 1) }) H H' → Q .non H'))
theorem sc_Disk_write : FnScope ["self", "place", "words"] ["self", "place", "words"] (defScope st_Disk_write) := ⟨rfl, rfl, rfl, by decide +kernel, rfl, by decide +kernel, by decide +kernel⟩
def sp_Log__write (K : PySem.W.Frag) (Z : Ad) : Sp := fun vs H Q E => ∃ (lg wa : Addr) (l : LS) (s : DS) (b : List Int), vs = [.ref lg, .ref wa] ∧ Holds H ((wa, .lst (b.map V.int)) :: (lg, .ins Z.Log l.dx (lF l)) :: diskL Z l.d s) ∧ s.Ok ∧ b.length = 8 ∧ blockB (b.map V.int) = true ∧ 0 ≤ s.p ∧ s.p ≤ 7 ∧
  (s.lt = some 0 → ∀ (bs : List Addr) (H' : Hp), bs.length = s.bs.length → Frm (diskL Z l.d s) (diskL Z l.d { s with bs := bs, ws := s.ws.set (b.getD 0 0 % s.ws.length).toNat (mixW s.p b (s.ws.getD (b.getD 0 0 % s.ws.length).toNat [])), p := 0 }) H H' → E (.ref Z.Stopped) none H') ∧
  (s.lt ≠ some 0 → ∀ (bs : List Addr) (H' : Hp), bs.length = s.bs.length → Frm (diskL Z l.d s) (diskL Z l.d { s with bs := bs, ws := s.ws.set (b.getD 0 0 % s.ws.length).toNat b, w := s.w + 1, lt := s.lt.map (· - 1) }) H H' → Q .non H')
theorem sc_Log__write : FnScope ["self", "words"] ["self", "words"] (defScope st_Log__write) := ⟨rfl, rfl, rfl, by decide +kernel, rfl, by decide +kernel, by decide +kernel⟩
def sp_Log__wrote (K : PySem.W.Frag) (Z : Ad) : Sp := fun vs H Q _ => ∃ (lg : Addr) (l : LS) (n f : Int), vs = [.ref lg, .int n, .int f] ∧ Holds H (logL Z lg l) ∧ l.cut.length ≤ 1000 ∧
  ∀ (ca : Addr) (H' : Hp), Frm (logL Z lg l) (logL Z lg { l with num := n, torn := none, ca := ca, cut := l.cut.filter fun b => decide (f < b) }) H H' → Q .non H'
theorem sc_Log__wrote : FnScope ["self", "number", "floor", "begin"] ["self", "number", "floor"] (defScope st_Log__wrote) := ⟨rfl, rfl, rfl, by decide +kernel, rfl, by decide +kernel, by decide +kernel⟩
/-- some of a row's blocks are written -/
theorem View.puts {n : Nat} {ws : List (List Int)} {num flo f : Int} {torn : Option Int} {gs : List (List (List Int))} {rows : List (Int × List Int)} (v : View n ws num flo torn gs) (hr : rowsIn gs = rows) (hf : f = floorU rows num) {row : List Int} (hk : ((pcs row).length : Int) ≤ n - 1 - (num - f)) :
    ∀ j : Nat, 0 < j → j ≤ (pcs row).length → View n (putWs n ws num ((rowB row f (num + 1)).take j)) (num + j) f none (over f gs ++ [(rowB row f (num + 1)).take j]) := by
  have hfl := MInv.floor v hr (f := f) (later := rows) ⟨hf, [], rfl⟩
  intro j
  induction j with
  | zero => intro h; omega
  | succ j ih =>
    intro _ hj
    obtain ⟨w, hw⟩ : ∃ w, (rowB row f (num + 1))[j]? = some w := ⟨_, List.getElem?_eq_getElem (by rw [rowB_len]; omega)⟩
    obtain ⟨hb, h2, h3⟩ := rowB_blk hw
    have hlen : ((rowB row f (num + 1)).take j).length = j := by rw [List.length_take, rowB_len]; omega
    rw [take_snoc hw, putWs_snoc, hlen]
    by_cases hj0 : j = 0
    · subst hj0
      simp only [List.take_zero, List.nil_append, putWs, Int.ofNat_zero, Int.add_zero] at hb ⊢
      have e2 : num + ((0 + 1 : Nat) : Int) = num + 1 := by omega
      rw [e2]
      have hb' : Blk w (num + 1) f := hb
      refine v.write hb' hfl.1 hfl.2.1 hfl.2.2.1 (by omega) ?_
      have f0 := v.f0
      have f1 := v.f1
      have n4 := v.n4
      rw [gStep, if_neg (by rw [h2]; omega), if_pos (by rw [h2, hb'.first])]
    · have ih' := ih (by omega) (by omega)
      have e1 : num + ((j + 1 : Nat) : Int) = num + (j : Int) + 1 := by push_cast; omega
      rw [e1]
      have hb' : Blk w (num + (j : Int) + 1) f := by
        have : num + 1 + (j : Int) = num + (j : Int) + 1 := by omega
        rw [← this]
        exact hb
      have f0 := v.f0
      have f1 := v.f1
      have n4 := v.n4
      exact ih'.writeOn hb' (by rw [h2]; omega) (by rw [h2]; omega) (by omega)
theorem MInv.putOk {n : Nat} {ws : List (List Int)} {num flo f : Int} {torn : Option Int} {rows : List (Int × List Int)} {cut : List Int} (h : MInv n ws num flo torn rows cut) (hf : f = floorU rows num) {row : List Int} (hk : ((pcs row).length : Int) ≤ n - 1 - (num - f)) :
    MInv n (putWs n ws num (rowB row f (num + 1))) (num + ((pcs row).length : Nat)) f none (rows ++ [(num + 1, row)]) (cut.filter fun b => decide (f < b)) := by
  obtain ⟨gs, v, hr, hc⟩ := h
  have hl : 0 < (pcs row).length := by rw [pcs_len]; omega
  have q := v.puts hr hf hk (pcs row).length hl (Nat.le_refl _)
  have hfl := MInv.floor v hr (f := f) (later := rows) ⟨hf, [], rfl⟩
  have hla := rowB_last (row := row) (f := f) (b := num + 1) hl (Nat.le_refl _)
  have hbe := rowB_beg (row := row) (f := f) (b := num + 1) hl
  have e : (rowB row f (num + 1)).take (pcs row).length = rowB row f (num + 1) := List.take_of_length_le (by rw [rowB_len]; exact Nat.le_refl _)
  rw [e] at q hla hbe
  rw [decide_eq_true rfl] at hla
  refine ⟨_, q, ?_, ?_⟩
  · rw [rowsIn_snoc, hfl.2.2.2, if_pos hla, hbe, rowB_words]
  · rw [cutIn_snoc, if_pos hla, cutIn_over, hc, List.append_nil]
theorem MInv.tear {n : Nat} {ws : List (List Int)} {num flo : Int} {torn : Option Int} {rows : List (Int × List Int)} {cut : List Int} (h : MInv n ws num flo torn rows cut) {b : List Int} {p : Int} (hb : b.length = 8) (h0 : b.getD 0 0 = num + 1) (hp0 : 0 ≤ p) (hp7 : p ≤ 7) :
    MInv n (ws.set ((num + 1) % n).toNat (mixB p b (ws.getD ((num + 1) % n).toNat []))) num flo (if 0 < p then some ((num + 1) % n) else torn) rows cut := by
  obtain ⟨gs, v, hr, hc⟩ := h
  exact ⟨gs, v.tear hb h0 hp0 hp7, hr, hc⟩
/-- t blocks of a row are written, no more -/
theorem MInv.putPart {n : Nat} {ws : List (List Int)} {num flo f : Int} {torn : Option Int} {rows : List (Int × List Int)} {cut : List Int} (h : MInv n ws num flo torn rows cut) (hf : f = floorU rows num) {row : List Int} (hk : ((pcs row).length : Int) ≤ n - 1 - (num - f)) {t : Nat} (ht : t < (pcs row).length) :
    MInv n (putWs n ws num ((rowB row f (num + 1)).take t)) (num + (t : Nat)) (if t = 0 then flo else f) (if t = 0 then torn else none) rows (if t = 0 then cut else (cut.filter fun b => decide (f < b)) ++ [num + 1]) := by
  by_cases h0 : t = 0
  · subst h0
    have e : num + ((0 : Nat) : Int) = num := by omega
    rw [if_pos rfl, if_pos rfl, if_pos rfl, e]
    exact h
  · rw [if_neg h0, if_neg h0, if_neg h0]
    obtain ⟨gs, v, hr, hc⟩ := h
    have hfl := MInv.floor v hr (f := f) (later := rows) ⟨hf, [], rfl⟩
    have q := v.puts hr hf hk t (by omega) (by omega)
    have hla := rowB_last (row := row) (f := f) (b := num + 1) (j := t) (by omega) (by omega)
    rw [decide_eq_false (by omega)] at hla
    have hbe := rowB_beg (row := row) (f := f) (b := num + 1) (j := t) (by omega)
    refine ⟨_, q, ?_, ?_⟩
    · rw [rowsIn_snoc, hfl.2.2.2, if_neg (by rw [hla]; decide), List.append_nil]
    · rw [cutIn_snoc, if_neg (by rw [hla]; decide), cutIn_over, hc, hbe]
/-- a mark, by which the rows ahead are taken -/
theorem MInv.mark {n : Nat} {ws : List (List Int)} {num flo f : Int} {torn : Option Int} {rows later : List (Int × List Int)} {cut : List Int} (h : MInv n ws num flo torn rows cut) (hf : FloorOk rows later num f) (hk : num + 1 - f ≤ n - 1) {left : Int} :
    MInv n (ws.set ((num + 1) % n).toNat [num + 1, f, 0, left, 0, 0, 0, num + 1]) (num + 1) f none later (cut.filter fun b => decide (f < b)) := by
  obtain ⟨gs, v, hr, hc⟩ := h
  obtain ⟨a1, a2, a3, a4⟩ := MInv.floor v hr hf
  exact ⟨over f gs, v.write ⟨rfl, rfl, rfl, rfl⟩ a1 a2 a3 hk rfl, a4, by rw [cutIn_over, hc]⟩
theorem MInv.room {n : Nat} {ws : List (List Int)} {num flo : Int} {torn : Option Int} {rows : List (Int × List Int)} {cut : List Int} (h : MInv n ws num flo torn rows cut) : flo ≤ floorU rows num ∧ floorU rows num ≤ num ∧ num - floorU rows num ≤ n - 1 := by
  obtain ⟨gs, v, hr, hc⟩ := h
  obtain ⟨a1, a2, a3, a4⟩ := MInv.floor v hr (f := floorU rows num) (later := rows) ⟨rfl, [], rfl⟩
  have := v.f2
  exact ⟨a1, a2, by omega⟩
/-- the floor behind a take leaves a block for the mark -/
theorem MInv.takeRoom {n : Nat} {ws : List (List Int)} {num flo : Int} {torn : Option Int} {r : Int × List Int} {later : List (Int × List Int)} {cut : List Int} (h : MInv n ws num flo torn (r :: later) cut) : FloorOk (r :: later) later num (floorU later num) ∧ num + 1 - floorU later num ≤ n - 1 := by
  refine ⟨⟨rfl, [r], rfl⟩, ?_⟩
  have hs := h.sorted
  have hb := h.begs r List.mem_cons_self
  obtain ⟨gs, v, hr, hc⟩ := h
  have f2 := v.f2
  have n4 := v.n4
  rw [List.pairwise_cons] at hs
  cases later with
  | nil => show num + 1 - num ≤ _; omega
  | cons x xs =>
    have := hs.1 x List.mem_cons_self
    show num + 1 - (x.1 - 1) ≤ _
    omega
/-- a fresh disk -/
theorem getD_rep {n i : Nat} {w : List Int} (h : i < n) : (List.replicate n w).getD i [] = w := by
  rw [List.getD_eq_getElem?_getD, List.getElem?_replicate, if_pos h]
  rfl
theorem MInv.fresh {n : Nat} (h4 : 4 ≤ n) (h64 : n ≤ 64) : MInv n (List.replicate n (List.replicate 8 0)) (n - 1) (n - 1) none [] [] := by
  refine ⟨[], ⟨⟨Int.le_refl _, fun i k hi h1 h2 h3 _ => ?_, fun t ht => by cases ht⟩, h4, h64, List.length_replicate, fun w hw => ?_, Int.le_refl _, Int.le_refl _, by omega, fun h => by omega, ?_⟩, rfl, rfl⟩
  · rw [getD_rep hi, if_neg (by omega)]
    exact ⟨rfl, rfl⟩
  · rw [(List.mem_replicate.mp hw).2, List.length_replicate]
  · rw [useB_nil (Int.le_refl _)]
    rfl

theorem mixB_eq : mixB = mixW := rfl
theorem blockB_of {b : List Int} (h : b.length = 8) (h2 : ∀ x ∈ b, 0 ≤ x ∧ x ≤ 1000000000000000) : blockB (b.map V.int) = true := by
  simp only [blockB, Bool.and_eq_true, decide_eq_true_eq, List.all_eq_true, List.length_map]
  refine ⟨h, fun v hv => ?_⟩
  obtain ⟨x, hx, rfl⟩ := List.mem_map.mp hv
  have := h2 x hx
  simp only [wholeB, Bool.and_eq_true, decide_eq_true_eq]
  exact this
/-- the disk behind some writes that are let be -/
def dPut (s : DS) (bs : List Addr) (num : Int) (bl : List (List Int)) : DS := { s with bs := bs, ws := putWs s.ws.length s.ws num bl, w := s.w + (bl.length : Nat), lt := s.lt.map (· - (bl.length : Nat)) }
/-- and behind one more that meets the stop -/
def dCut (s : DS) (bs : List Addr) (num : Int) (bl : List (List Int)) (b : List Int) : DS :=
  { s with bs := bs, ws := (putWs s.ws.length s.ws num bl).set ((num + bl.length + 1) % s.ws.length).toNat (mixB s.p b ((putWs s.ws.length s.ws num bl).getD ((num + bl.length + 1) % s.ws.length).toNat [])), w := s.w + (bl.length : Nat), lt := some 0, p := 0 }
theorem dPut_ok {s : DS} {bs : List Addr} {num : Int} {bl : List (List Int)} (ok : s.Ok) (hb : bs.length = s.bs.length) (h8 : ∀ b ∈ bl, b.length = 8) : (dPut s bs num bl).Ok := by
  refine ⟨?_, ?_, ?_, ?_⟩
  · show bs.length = (putWs _ _ _ _).length
    rw [putWs_len, hb, ok.len]
  · show 4 ≤ (putWs _ _ _ _).length
    rw [putWs_len]; exact ok.lo
  · show (putWs _ _ _ _).length ≤ 64
    rw [putWs_len]; exact ok.hi
  · show ∀ w ∈ putWs _ _ _ _, _
    have : ∀ (bl ws : List (List Int)) (num : Int), (∀ b ∈ bl, b.length = 8) → (∀ w ∈ ws, w.length = 8) → ∀ w ∈ putWs s.ws.length ws num bl, w.length = 8 := by
      intro bl
      induction bl with
      | nil => intro ws num _ h; exact h
      | cons b bl ih =>
        intro ws num hb hw
        refine ih _ _ (fun x hx => hb x (List.mem_cons_of_mem _ hx)) fun w hw2 => ?_
        rcases mem_set' hw2 with hw2 | hw2
        · exact hw w hw2
        · rw [hw2]; exact hb b List.mem_cons_self
    exact this bl s.ws num h8 ok.each
/-- a log and what stands behind it -/
def logC (Z : Ad) (lg : Addr) (l : LS) (C : List (Addr × HO)) : List (Addr × HO) := (lg, .ins Z.Log l.dx (lF l)) :: (l.dx, .own lg) :: (l.ca, .lst (l.cut.map V.int)) :: (l.ra, .lst (l.rows.map tf)) :: (rL l.rows ++ C)
theorem logC_eq (Z : Ad) (lg : Addr) (l : LS) (C : List (Addr × HO)) : logL Z lg l ++ C = logC Z lg l C := rfl
theorem logC_sub (Z : Ad) (lg : Addr) (l : LS) {C C' : List (Addr × HO)} (h : C'.Sublist C) : (logC Z lg l C').Sublist (logC Z lg l C) := .cons₂ _ (.cons₂ _ (.cons₂ _ (.cons₂ _ (List.Sublist.append (List.Sublist.refl _) h))))
theorem logC_log (Z : Ad) (lg : Addr) (l : LS) (C : List (Addr × HO)) : (logL Z lg l).Sublist (logC Z lg l C) := List.sublist_append_left _ _
theorem logC_C (Z : Ad) (lg : Addr) (l : LS) (C : List (Addr × HO)) : C.Sublist (logC Z lg l C) := List.sublist_append_right (logL Z lg l) _
/-- the bounds of a row's blocks -/
theorem rowB_ok {row : List Int} {f b : Int} {i : Nat} {w : List Int} (h : (rowB row f b)[i]? = some w) (hr : ∀ x ∈ row, 0 ≤ x ∧ x ≤ 999999999) (hl : row.length ≤ 11) (hf : 0 ≤ f ∧ f ≤ 999999999999999) (hb : 0 ≤ b ∧ b ≤ 999999999999900) : w.length = 8 ∧ blockB (w.map V.int) = true ∧ w.getD 0 0 = b + i := by
  have hi : i < (pcs row).length := by
    have := (List.getElem?_eq_some_iff.mp h).1
    rwa [rowB_len] at this
  have hpl := pcs_len row
  have q := rowB_blk h
  refine ⟨q.1.len, ?_, q.1.first⟩
  have hp := List.getElem?_eq_getElem hi
  rw [rowB_get hp] at h
  have hx : ∀ x ∈ (pcs row)[i], 0 ≤ x ∧ x ≤ 999999999 := by
    have hm := List.getElem_mem hi
    unfold pcs at hm
    obtain ⟨j, _, e⟩ := List.mem_map.mp hm
    have dd : ∀ k, 0 ≤ dat row k ∧ dat row k ≤ 999999999 := by
      intro k
      unfold dat
      rw [List.getD_eq_getElem?_getD]
      cases e : ((row.length : Int) :: row)[k]? with
      | none => simp
      | some x =>
        have := List.mem_of_getElem? e
        rcases List.mem_cons.mp this with z | z
        · subst z
          show 0 ≤ (row.length : Int) ∧ (row.length : Int) ≤ _
          omega
        · exact hr x z
    intro x hx
    have e' : (pcs row)[i] = [dat row (3 * j), dat row (3 * j + 1), dat row (3 * j + 2)] := e.symm
    rw [e'] at hx
    simp only [List.mem_cons, List.not_mem_nil, or_false] at hx
    rcases hx with rfl | rfl | rfl <;> exact dd _
  refine blockB_of q.1.len fun x hxw => ?_
  rw [← Option.some.inj h] at hxw
  unfold madeL at hxw
  simp only [List.mem_cons, List.mem_append, List.not_mem_nil, or_false] at hxw
  rcases hxw with rfl | rfl | rfl | rfl | hxw | rfl
  · omega
  · omega
  · omega
  · omega
  · have := hx x hxw
    omega
  · omega
theorem logC_add (Z : Ad) (lg : Addr) (l : LS) (t p : Addr) (b : Int) (row : List Int) (C : List (Addr × HO)) : (logC Z lg { l with rows := l.rows ++ [((t, p), (b, row))] } C).Perm ((t, HO.tup [.int b, .ref p]) :: (p, .lst (row.map V.int)) :: (lg, .ins Z.Log l.dx (lF l)) :: (l.dx, .own lg) :: (l.ca, .lst (l.cut.map V.int)) :: (l.ra, .lst (l.rows.map tf ++ [V.ref t])) :: (rL l.rows ++ C)) := by
  unfold logC
  show ((lg, HO.ins Z.Log l.dx (lF l)) :: (l.dx, HO.own lg) :: (l.ca, HO.lst (l.cut.map V.int)) :: (l.ra, HO.lst ((l.rows ++ [((t, p), (b, row))]).map tf)) :: (rL (l.rows ++ [((t, p), (b, row))]) ++ C)).Perm _
  rw [rL_app, List.map_append, List.append_assoc]
  show (([(lg, HO.ins Z.Log l.dx (lF l)), (l.dx, HO.own lg), (l.ca, HO.lst (l.cut.map V.int)), (l.ra, HO.lst (l.rows.map tf ++ [V.ref t]))] ++ rL l.rows) ++ ([(t, HO.tup [.int b, .ref p]), (p, .lst (row.map V.int))] ++ C)).Perm ([(t, HO.tup [.int b, .ref p]), (p, .lst (row.map V.int))] ++ (([(lg, HO.ins Z.Log l.dx (lF l)), (l.dx, HO.own lg), (l.ca, HO.lst (l.cut.map V.int)), (l.ra, HO.lst (l.rows.map tf ++ [V.ref t]))] ++ rL l.rows) ++ C))
  rw [← List.append_assoc, ← List.append_assoc]
  exact List.Perm.append_right _ List.perm_append_comm
theorem dPut_nil (s : DS) (num : Int) : dPut s s.bs num [] = s := by
  cases s with
  | mk dx bl bs ws r w lt p =>
    show DS.mk dx bl bs ws r (w + ((0 : Nat) : Int)) (lt.map fun x => x - ((0 : Nat) : Int)) p = _
    congr 1
    · omega
    · cases lt with
      | none => rfl
      | some t => show some (t - ((0 : Nat) : Int)) = some t; congr 1; omega
theorem dPut_next {s : DS} {bs bs' : List Addr} {num : Int} {bl : List (List Int)} {b : List Int} (h0 : b.getD 0 0 = num + (bl.length : Nat) + 1) :
    ({ dPut s bs num bl with bs := bs', ws := (dPut s bs num bl).ws.set (b.getD 0 0 % ((dPut s bs num bl).ws.length : Nat)).toNat b, w := (dPut s bs num bl).w + 1, lt := (dPut s bs num bl).lt.map (· - 1) } : DS) = dPut s bs' num (bl ++ [b]) := by
  unfold dPut
  rw [putWs_snoc, List.length_append, List.length_singleton, h0]
  show DS.mk _ _ _ ((putWs s.ws.length s.ws num bl).set ((num + (bl.length : Nat) + 1) % ((putWs s.ws.length s.ws num bl).length : Nat)).toNat b) _ _ _ _ = _
  rw [putWs_len]
  congr 1
  · push_cast; omega
  · rw [Option.map_map]
    congr 1
    funext x
    show x - (bl.length : Nat) - 1 = x - ((bl.length + 1 : Nat) : Int)
    push_cast
    omega
theorem dCut_next {s : DS} {bs bs' : List Addr} {num : Int} {bl : List (List Int)} {b : List Int} (h0 : b.getD 0 0 = num + (bl.length : Nat) + 1) (hlt : (dPut s bs num bl).lt = some 0) :
    ({ dPut s bs num bl with bs := bs', ws := (dPut s bs num bl).ws.set (b.getD 0 0 % ((dPut s bs num bl).ws.length : Nat)).toNat (mixW (dPut s bs num bl).p b ((dPut s bs num bl).ws.getD (b.getD 0 0 % ((dPut s bs num bl).ws.length : Nat)).toNat [])), p := 0 } : DS) = dCut s bs' num bl b := by
  unfold dCut
  rw [h0]
  have e : (dPut s bs num bl).ws.length = s.ws.length := putWs_len _ _ _ _
  rw [e]
  show DS.mk _ _ _ _ _ _ (dPut s bs num bl).lt _ = _
  rw [hlt]
  rfl
theorem dPut_lt {s : DS} {bs : List Addr} {num : Int} {bl : List (List Int)} : (dPut s bs num bl).lt = some 0 ↔ s.lt = some ((bl.length : Nat) : Int) := by
  show s.lt.map (fun x : Int => x - ((bl.length : Nat) : Int)) = some 0 ↔ _
  cases s.lt with
  | none => simp
  | some t => simp; omega
theorem swapEnds {α : Type} (a b : α) (m R : List α) : (a :: (m ++ b :: R)).Perm (b :: (m ++ a :: R)) :=
  (List.Perm.cons _ List.perm_middle).trans ((List.Perm.swap _ _ _).trans (List.Perm.cons _ List.perm_middle.symm))
theorem swapFst {α : Type} (a : α) (m R : List α) : ((m ++ [a]) ++ R).Perm (a :: (m ++ R)) := by
  rw [List.append_assoc]
  exact List.perm_middle

/-- what is no row -/
def NoRow (H : Hp) (v : V) : Prop := v = .non ∨ (∃ x, v = .str x) ∨ ∃ (a : Addr) (b : Bool) (items : List V), v = .ref a ∧ H a = some (if b then .lst items else .tup items) ∧ (∀ x ∈ items, FlatV x) ∧ items.length ≤ 1000 ∧ (b && rowB? items) = false

def sp_Log_put (K : PySem.W.Frag) (Z : Ad) : Sp := fun vs H Q E => (∃ (lg : Addr) (v : V) (l : LS) (s : DS), vs = [.ref lg, v] ∧ Holds H (logL Z lg l ++ diskL Z l.d s) ∧ NoRow H v ∧ (l.gone = true → E (.ref Z.Gone) none H) ∧ (l.gone = false → ∀ H', Upto [] H H' → E (.ref Z.BadRow) none H')) ∨
  (∃ (lg wr : Addr) (l : LS) (s : DS) (row : List Int), vs = [.ref lg, .ref wr] ∧ Holds H ((wr, .lst (row.map V.int)) :: (logL Z lg l ++ diskL Z l.d s)) ∧ s.Ok ∧ 0 ≤ s.p ∧ s.p ≤ 7 ∧ (∀ t, s.lt = some t → 0 ≤ t) ∧
  row.length ≤ 11 ∧ (∀ x ∈ row, 0 ≤ x ∧ x ≤ 999999999) ∧ l.cut.length ≤ 1000 ∧ l.rows.length ≤ 1000 ∧ 0 ≤ l.num ∧ l.num ≤ 999999999999000 ∧ 0 ≤ floorU l.rw l.num ∧ floorU l.rw l.num ≤ l.num ∧
  (l.gone = true → E (.ref Z.Gone) none H) ∧
  (l.gone = false → (s.ws.length : Int) - 1 - (l.num - floorU l.rw l.num) < (pcs row).length → ∀ H', Upto [] H H' → E (.ref Z.Full) none H') ∧
  (l.gone = false → ((pcs row).length : Int) ≤ s.ws.length - 1 - (l.num - floorU l.rw l.num) →
    (∀ (t : Nat) (b : List Int) (bs : List Addr) (H' : Hp), s.lt = some (t : Int) → (rowB row (floorU l.rw l.num) (l.num + 1))[t]? = some b → bs.length = s.bs.length → Frm (logL Z lg l ++ diskL Z l.d s) (diskL Z l.d (dCut s bs l.num ((rowB row (floorU l.rw l.num) (l.num + 1)).take t) b)) H H' → E (.ref Z.Stopped) none H') ∧
    ((∀ t, s.lt = some t → ((pcs row).length : Int) ≤ t) → ∀ (bs : List Addr) (ca ta wa : Addr) (H' : Hp), bs.length = s.bs.length →
      Frm (logL Z lg l ++ diskL Z l.d s) (logL Z lg { l with num := l.num + ((pcs row).length : Nat), torn := none, ca := ca, cut := l.cut.filter (fun b => decide (floorU l.rw l.num < b)), rows := l.rows ++ [((ta, wa), (l.num + 1, row))] } ++ diskL Z l.d (dPut s bs l.num (rowB row (floorU l.rw l.num) (l.num + 1)))) H H' → Q (.int (l.num + 1)) H')))
theorem sc_Log_put : FnScope ["self", "row", "data", "begin", "floor", "last", "at", "piece"] ["self", "row"] (defScope st_Log_put) := ⟨rfl, rfl, rfl, by decide +kernel, rfl, by decide +kernel, by decide +kernel⟩
def sp_Log_take (K : PySem.W.Frag) (Z : Ad) : Sp := fun vs H Q E => ∃ (lg : Addr) (l : LS) (s : DS), vs = [.ref lg] ∧ Holds H (logL Z lg l ++ diskL Z l.d s) ∧ s.Ok ∧ 0 ≤ s.p ∧ s.p ≤ 7 ∧ l.cut.length ≤ 1000 ∧ l.rows.length ≤ 1000 ∧ 0 ≤ l.num ∧ l.num ≤ 999999999999000 ∧
  0 ≤ floorU l.rw.tail l.num ∧ floorU l.rw.tail l.num ≤ l.num ∧
  (l.gone = true → E (.ref Z.Gone) none H) ∧ (l.gone = false → l.rows = [] → E (.ref Z.Empty) none H) ∧
  (l.gone = false → ∀ (x : RA) (xs : List RA), l.rows = x :: xs →
    (s.lt = some 0 → ∀ (bs : List Addr) (H' : Hp), bs.length = s.bs.length → Frm (logL Z lg l ++ diskL Z l.d s) (diskL Z l.d (dCut s bs l.num [] (markB (l.num + 1) (floorU l.rw.tail l.num)))) H H' → E (.ref Z.Stopped) none H') ∧
    (s.lt ≠ some 0 → ∀ (bs : List Addr) (ca ra : Addr) (H' : Hp), bs.length = s.bs.length →
      Frm (logL Z lg l ++ diskL Z l.d s) ((x.1.2, .lst (x.2.2.map V.int)) :: (logL Z lg { l with num := l.num + 1, torn := none, ca := ca, cut := l.cut.filter (fun b => decide (floorU l.rw.tail l.num < b)), ra := ra, rows := xs } ++ diskL Z l.d (dPut s bs l.num [markB (l.num + 1) (floorU l.rw.tail l.num)]))) H H' → Q (.ref x.1.2) H'))
theorem sc_Log_take : FnScope ["self", "_", "row", "later", "floor", "number"] ["self"] (defScope st_Log_take) := ⟨rfl, rfl, rfl, by decide +kernel, rfl, by decide +kernel, by decide +kernel⟩
def sp_Log__write_end (K : PySem.W.Frag) (Z : Ad) : Sp := fun vs H Q E => ∃ (lg wa : Addr) (l : LS) (s : DS) (b : List Int), vs = [.ref lg, .ref wa] ∧ Holds H ((wa, .lst (b.map V.int)) :: (logL Z lg l ++ diskL Z l.d s)) ∧ s.Ok ∧ 0 ≤ s.p ∧ s.p ≤ 7 ∧ l.cut.length ≤ 1000 ∧ b.length = 8 ∧ b.getD 0 0 = l.num + 1 ∧ blockB (b.map V.int) = true ∧
  (s.lt = some 0 → ∀ (bs : List Addr) (H' : Hp), bs.length = s.bs.length → Frm (logL Z lg l ++ diskL Z l.d s) (diskL Z l.d (dCut s bs l.num [] b)) H H' → E (.ref Z.Stopped) none H') ∧
  (s.lt ≠ some 0 → ∀ (bs : List Addr) (ca ra : Addr) (H' : Hp), bs.length = s.bs.length →
    Frm (logL Z lg l ++ diskL Z l.d s) (logL Z lg { l with num := l.num + 1, torn := none, ca := ca, cut := l.cut.filter (fun c => decide (b.getD 1 0 < c)), ra := ra, rows := [] } ++ diskL Z l.d (dPut s bs l.num [b])) H H' → Q .non H')
theorem sc_Log__write_end : FnScope ["self", "words"] ["self", "words"] (defScope st_Log__write_end) := ⟨rfl, rfl, rfl, by decide +kernel, rfl, by decide +kernel, by decide +kernel⟩
def sp_Log_take_all (K : PySem.W.Frag) (Z : Ad) : Sp := fun vs H Q E => ∃ (lg : Addr) (l : LS) (s : DS), vs = [.ref lg] ∧ Holds H (logL Z lg l ++ diskL Z l.d s) ∧ s.Ok ∧ 0 ≤ s.p ∧ s.p ≤ 7 ∧ l.cut.length ≤ 1000 ∧ 0 ≤ l.num ∧ l.num ≤ 999999999999000 ∧
  (l.gone = false → l.rows = [] → Q .non H) ∧
  (l.gone = true ∨ l.rows ≠ [] →
    (s.lt = some 0 → ∀ (bs : List Addr) (H' : Hp), bs.length = s.bs.length → Frm (logL Z lg l ++ diskL Z l.d s) (diskL Z l.d (dCut s bs l.num [] (markB (l.num + 1) l.num))) H H' → E (.ref Z.Stopped) none H') ∧
    (s.lt ≠ some 0 → ∀ (bs : List Addr) (ca ra : Addr) (H' : Hp), bs.length = s.bs.length →
      Frm (logL Z lg l ++ diskL Z l.d s) (logL Z lg { l with num := l.num + 1, torn := none, ca := ca, cut := l.cut.filter (fun c => decide (l.num < c)), gone := false, ra := ra, rows := [] } ++ diskL Z l.d (dPut s bs l.num [markB (l.num + 1) l.num])) H H' → Q .non H'))
theorem sc_Log_take_all : FnScope ["self"] ["self"] (defScope st_Log_take_all) := ⟨rfl, rfl, rfl, by decide +kernel, rfl, by decide +kernel, by decide +kernel⟩
/-! ### what the law keeps of a log -/
structure MS where
  n : Nat
  dl : Addr
  bs : List Addr
  ws : List (List Int)
  num : Int
  flo : Int
  ra : Addr
  rows : List RA
  ca : Addr
  cut : List Int
  torn : Option Int
  lt : Option Int
  p : Int
  w : Int
  gone : Bool
  sl : Option Bool
def MS.rw (m : MS) : List (Int × List Int) := m.rows.map Prod.snd
/-- a key that one law lays beside -/
def slK : Option Bool → List (Key × V)
  | none => []
  | some b => [(Sum.inr "asleep", V.bl b)]
def gK (m : MS) : List (Key × V) := ([(Sum.inr "many", V.int m.n), (Sum.inr "disk", V.ref m.dl), (Sum.inr "number", V.int m.num), (Sum.inr "floor", V.int m.flo), (Sum.inr "rows", V.ref m.ra), (Sum.inr "cut", V.ref m.ca), (Sum.inr "torn", ltV m.torn), (Sum.inr "left", ltV m.lt), (Sum.inr "part", V.int m.p), (Sum.inr "writes", V.int m.w), (Sum.inr "gone", V.bl m.gone)] : List (Key × V)) ++ slK m.sl
section
variable {m : MS} {c : Int} {a : Addr}
theorem gK_many : valV (gK m) (Sum.inr "many" : Key) = some (.int m.n) := by kernel_rfl
theorem gK_disk : valV (gK m) (Sum.inr "disk" : Key) = some (.ref m.dl) := by kernel_rfl
theorem gK_number : valV (gK m) (Sum.inr "number" : Key) = some (.int m.num) := by kernel_rfl
theorem gK_floor : valV (gK m) (Sum.inr "floor" : Key) = some (.int m.flo) := by kernel_rfl
theorem gK_rows : valV (gK m) (Sum.inr "rows" : Key) = some (.ref m.ra) := by kernel_rfl
theorem gK_cut : valV (gK m) (Sum.inr "cut" : Key) = some (.ref m.ca) := by kernel_rfl
theorem gK_torn : valV (gK m) (Sum.inr "torn" : Key) = some (ltV m.torn) := by kernel_rfl
theorem gK_left : valV (gK m) (Sum.inr "left" : Key) = some (ltV m.lt) := by kernel_rfl
theorem gK_part : valV (gK m) (Sum.inr "part" : Key) = some (.int m.p) := by kernel_rfl
theorem gK_writes : valV (gK m) (Sum.inr "writes" : Key) = some (.int m.w) := by kernel_rfl
theorem gK_gone : valV (gK m) (Sum.inr "gone" : Key) = some (.bl m.gone) := by kernel_rfl
theorem gK_pnumber : putK (gK m) (Sum.inr "number" : Key) (.int c) = gK { m with num := c } := by cases m; rename_i sl; cases sl <;> kernel_rfl
theorem gK_pfloor : putK (gK m) (Sum.inr "floor" : Key) (.int c) = gK { m with flo := c } := by cases m; rename_i sl; cases sl <;> kernel_rfl
theorem gK_pcut : putK (gK m) (Sum.inr "cut" : Key) (.ref a) = gK { m with ca := a } := by cases m; rename_i sl; cases sl <;> kernel_rfl
theorem gK_ptorn : putK (gK m) (Sum.inr "torn" : Key) (.int c) = gK { m with torn := some c } := by cases m; rename_i sl; cases sl <;> kernel_rfl
theorem gK_ptornN : putK (gK m) (Sum.inr "torn" : Key) .non = gK { m with torn := none } := by cases m; rename_i sl; cases sl <;> kernel_rfl
theorem gK_pleft : putK (gK m) (Sum.inr "left" : Key) (.int c) = gK { m with lt := some c } := by cases m; rename_i sl; cases sl <;> kernel_rfl
theorem gK_pleftN : putK (gK m) (Sum.inr "left" : Key) .non = gK { m with lt := none } := by cases m; rename_i sl; cases sl <;> kernel_rfl
theorem gK_ppart : putK (gK m) (Sum.inr "part" : Key) (.int c) = gK { m with p := c } := by cases m; rename_i sl; cases sl <;> kernel_rfl
theorem gK_pwrites : putK (gK m) (Sum.inr "writes" : Key) (.int c) = gK { m with w := c } := by cases m; rename_i sl; cases sl <;> kernel_rfl
theorem gK_len : (gK m).length < sizeLine := by
  obtain ⟨n, dl, bs, ws, num, flo, ra, rows, ca, cut, torn, lt, p, w, gone, sl⟩ := m
  cases sl with
  | none => exact ltK (by kernel_rfl)
  | some b => exact ltK (by kernel_rfl)
end
/-- what the law keeps, as it stands in the heap -/
def mC (md : Addr) (m : MS) (C : List (Addr × HO)) : List (Addr × HO) := (md, .dK (gK m)) :: (m.dl, .lst (m.bs.map V.ref)) :: (m.ra, .lst (m.rows.map tf)) :: (m.ca, .lst (m.cut.map V.int)) :: (rL m.rows ++ (rowsL m.bs m.ws ++ C))
theorem mC_C (md : Addr) (m : MS) (C : List (Addr × HO)) : C.Sublist (mC md m C) := .cons _ (.cons _ (.cons _ (.cons _ ((List.sublist_append_right _ _).trans (List.sublist_append_right _ _)))))
theorem mC_app (md : Addr) (m : MS) (C D : List (Addr × HO)) : mC md m C ++ D = mC md m (C ++ D) := by simp [mC]
theorem mC_sub (md : Addr) (m : MS) {C D : List (Addr × HO)} (h : D.Sublist C) : (mC md m D).Sublist (mC md m C) := .cons₂ _ (.cons₂ _ (.cons₂ _ (.cons₂ _ (List.Sublist.append (List.Sublist.refl _) (List.Sublist.append (List.Sublist.refl _) h)))))
structure MS.Ok (m : MS) : Prop where
  n4 : 4 ≤ m.n
  n64 : m.n ≤ 64
  bl : m.bs.length = m.n
  wl : m.ws.length = m.n
  w8 : ∀ w ∈ m.ws, w.length = 8
  p0 : 0 ≤ m.p
  p7 : m.p ≤ 7
  cl : m.cut.length ≤ 1000
  rl : m.rows.length ≤ 1000
  rr : ∀ x ∈ m.rows, x.2.2.length ≤ 11
  lt0 : ∀ t, m.lt = some t → 0 ≤ t
theorem perm_m {α : Type} (a b c d : α) (R : List α) : (a :: b :: c :: d :: R).Perm (d :: c :: b :: (R ++ [a])) := by
  have h1 : ([a] ++ ([b, c, d] ++ R)).Perm (([b, c, d] ++ R) ++ [a]) := List.perm_append_comm
  refine h1.trans ?_
  show (b :: c :: d :: (R ++ [a])).Perm _
  exact (List.Perm.cons _ (List.Perm.swap _ _ _)).trans ((List.Perm.swap _ _ _).trans (List.Perm.cons _ (List.Perm.swap _ _ _)))
def mTear (m : MS) (bs : List Addr) (b : List Int) : MS := { m with bs := bs, ws := m.ws.set (b.getD 0 0 % m.n).toNat (mixW m.p b (m.ws.getD (b.getD 0 0 % m.n).toNat [])), torn := if 0 < m.p then some (b.getD 0 0 % m.n) else m.torn, p := 0 }
def mWrite (m : MS) (bs : List Addr) (ca : Addr) (b : List Int) : MS := { m with bs := bs, ws := m.ws.set (b.getD 0 0 % m.n).toNat b, lt := m.lt.map (· - 1), w := m.w + 1, num := b.getD 0 0, flo := b.getD 1 0, torn := none, ca := ca, cut := m.cut.filter fun x => decide (b.getD 1 0 < x) }

/-! ### what the law keeps, behind some blocks of a row -/
def mPut (m : MS) (bs : List Addr) (ca : Addr) (f : Int) (bl : List (List Int)) : MS :=
  { m with bs := bs, ws := putWs m.n m.ws m.num bl, lt := m.lt.map (· - (bl.length : Nat)), w := m.w + (bl.length : Nat), num := m.num + (bl.length : Nat), flo := if bl.length = 0 then m.flo else f, torn := if bl.length = 0 then m.torn else none, ca := ca,
           cut := if bl.length = 0 then m.cut else m.cut.filter fun x => decide (f < x) }
def mCut (m : MS) (bs : List Addr) (ca : Addr) (f : Int) (bl : List (List Int)) (b : List Int) : MS :=
  { mTear (mPut m bs ca f bl) bs b with cut := (if bl.length = 0 then m.cut else (m.cut.filter fun x => decide (f < x)) ++ [m.num + 1]) }
theorem mPut_nil (m : MS) (f : Int) : mPut m m.bs m.ca f [] = m := by
  cases m with
  | mk n dl bs ws num flo ra rows ca cut torn lt p w gone sl =>
    show MS.mk n dl bs ws (num + ((0 : Nat) : Int)) flo ra rows ca cut torn (lt.map fun x => x - ((0 : Nat) : Int)) p (w + ((0 : Nat) : Int)) gone sl = _
    congr 1
    · omega
    · cases lt with
      | none => rfl
      | some t => show some (t - ((0 : Nat) : Int)) = some t; congr 1; omega
    · omega
theorem mWrite_next {m : MS} {bs bs' : List Addr} {ca ca' : Addr} {f : Int} {bl : List (List Int)} {b : List Int} (h0 : b.getD 0 0 = m.num + (bl.length : Nat) + 1) (h1 : b.getD 1 0 = f) : mWrite (mPut m bs ca f bl) bs' ca' b = mPut m bs' ca' f (bl ++ [b]) := by
  unfold mWrite mPut
  rw [putWs_snoc, List.length_append, List.length_singleton, h0, h1]
  show MS.mk m.n m.dl bs' ((putWs m.n m.ws m.num bl).set ((m.num + (bl.length : Nat) + 1) % (m.n : Int)).toNat b) (m.num + (bl.length : Nat) + 1) f m.ra m.rows ca' ((if bl.length = 0 then m.cut else m.cut.filter fun x => decide (f < x)).filter fun x => decide (f < x)) none ((m.lt.map (· - ((bl.length : Nat) : Int))).map (· - 1)) m.p (m.w + (bl.length : Nat) + 1) m.gone m.sl = _
  rw [if_neg (show ¬ bl.length + 1 = 0 by omega), if_neg (show ¬ bl.length + 1 = 0 by omega), if_neg (show ¬ bl.length + 1 = 0 by omega)]
  congr 1
  · push_cast; omega
  · split
    · rfl
    · rw [List.filter_filter]
      congr 1
      funext x
      rw [Bool.and_self]
  · rw [Option.map_map]
    congr 1
    funext x
    show x - (bl.length : Nat) - 1 = x - ((bl.length + 1 : Nat) : Int)
    push_cast
    omega
  · push_cast; omega
theorem mPut_ok {m : MS} {bs : List Addr} {ca : Addr} {f : Int} {bl : List (List Int)} (ok : m.Ok) (hb : bs.length = m.bs.length) (h8 : ∀ b ∈ bl, b.length = 8) (hlt : ∀ t, m.lt = some t → (bl.length : Int) ≤ t) : (mPut m bs ca f bl).Ok := by
  refine ⟨ok.n4, ok.n64, hb.trans ok.bl, ?_, ?_, ok.p0, ok.p7, ?_, ok.rl, ok.rr, ?_⟩
  · show (putWs _ _ _ _).length = _
    rw [putWs_len]; exact ok.wl
  · show ∀ w ∈ putWs m.n m.ws m.num bl, _
    have : ∀ (bl ws : List (List Int)) (num : Int), (∀ b ∈ bl, b.length = 8) → (∀ w ∈ ws, w.length = 8) → ∀ w ∈ putWs m.n ws num bl, w.length = 8 := by
      intro bl
      induction bl with
      | nil => intro ws num _ h; exact h
      | cons b bl ih =>
        intro ws num hb hw
        refine ih _ _ (fun x hx => hb x (List.mem_cons_of_mem _ hx)) fun w hw2 => ?_
        rcases mem_set' hw2 with hw2 | hw2
        · exact hw w hw2
        · rw [hw2]; exact hb b List.mem_cons_self
    exact this bl m.ws m.num h8 ok.w8
  · show (if bl.length = 0 then m.cut else m.cut.filter fun x => decide (f < x)).length ≤ 1000
    split
    · exact ok.cl
    · exact Nat.le_trans (List.length_filter_le _ _) ok.cl
  · intro t ht
    have ht : m.lt.map (· - ((bl.length : Nat) : Int)) = some t := ht
    cases e : m.lt with
    | none => rw [e] at ht; cases ht
    | some u =>
      rw [e] at ht
      have h1 := hlt u e
      have h2 : u - ((bl.length : Nat) : Int) = t := Option.some.inj ht
      omega
theorem mPut_lt {m : MS} {bs : List Addr} {ca : Addr} {f : Int} {bl : List (List Int)} : (mPut m bs ca f bl).lt = some 0 ↔ m.lt = some ((bl.length : Nat) : Int) := by
  show m.lt.map (fun x : Int => x - ((bl.length : Nat) : Int)) = some 0 ↔ _
  cases m.lt with
  | none => simp
  | some t => simp; omega
theorem perm_call {α : Type} (x : α) (J A C : List α) : ((x :: A) ++ (J ++ C)).Perm (x :: (J ++ (A ++ C))) := by
  refine List.Perm.cons _ ?_
  show (A ++ (J ++ C)).Perm (J ++ (A ++ C))
  rw [← List.append_assoc, ← List.append_assoc]
  exact List.Perm.append_right _ List.perm_append_comm
theorem cut_one (x : Int) (k : Nat) : cutI [x] none (some (k : Int)) = if k = 0 then [] else [x] := by
  unfold cutI
  rw [HT.sIx_nat, HT.sIx_none]
  cases k with
  | zero => rfl
  | succ k =>
    have : min (k + 1) [x].length = 1 := by simp
    rw [this]
    rfl
theorem perm_row {α : Type} (T w : α) (A R B : List α) : (A ++ ((R ++ [T, w]) ++ (B ++ []))).Perm (T :: (A ++ (R ++ (B ++ [w])))) := by
  rw [List.append_nil]
  have h1 : (A ++ ((R ++ [T, w]) ++ B)).Perm (A ++ (R ++ (T :: (B ++ [w])))) := by
    refine List.Perm.append_left _ ?_
    rw [List.append_assoc]
    refine List.Perm.append_left _ ?_
    refine List.Perm.cons _ ?_
    exact List.perm_append_comm (l₁ := [w])
  refine h1.trans ?_
  rw [← List.append_assoc, ← List.append_assoc]
  exact List.perm_middle
theorem perm_cut {α : Type} (nc w : α) (A R B : List α) : (w :: (A ++ (nc :: (R ++ (B ++ []))))).Perm (nc :: (A ++ (R ++ (B ++ [w])))) := by
  rw [List.append_nil]
  have h1 : (w :: (A ++ (nc :: (R ++ B)))).Perm (nc :: (w :: (A ++ (R ++ B)))) := by
    exact (List.perm_middle (a := nc) (l₁ := w :: A) (l₂ := R ++ B))
  refine h1.trans (List.Perm.cons _ ?_)
  have h2 : ((A ++ (R ++ B)) ++ [w]).Perm ([w] ++ (A ++ (R ++ B))) := List.perm_append_comm
  have e : (A ++ (R ++ B)) ++ [w] = A ++ (R ++ (B ++ [w])) := by simp
  rw [e] at h2
  exact h2.symm

/-! ### what every block of a disk is: words within the bounds, no begin but of a row, a mark, a farewell -/
def GoodB (w : List Int) : Prop := (∀ x ∈ w, 0 ≤ x ∧ x ≤ 1000000000000000) ∧ (w.getD 0 0 = w.getD 7 0 → w.getD 2 0 = 0 → w.getD 3 0 = 0 ∨ w.getD 3 0 = 1)

theorem blockB_mem {w : List Int} (h : blockB (w.map V.int) = true) : ∀ x ∈ w, 0 ≤ x ∧ x ≤ 1000000000000000 := by
  intro x hx
  simp only [blockB, Bool.and_eq_true, List.all_eq_true] at h
  have := h.2 (V.int x) (List.mem_map_of_mem hx)
  simpa [wholeB] using this
theorem GoodB.row {row : List Int} {f b : Int} {i : Nat} {w : List Int} (h : (rowB row f b)[i]? = some w) (hr : ∀ x ∈ row, 0 ≤ x ∧ x ≤ 999999999) (hl : row.length ≤ 11) (hf : 0 ≤ f ∧ f ≤ 999999999999999) (hb : 0 < b ∧ b ≤ 999999999999900) : GoodB w :=
  ⟨blockB_mem (rowB_ok h hr hl hf ⟨by omega, hb.2⟩).2.1, fun _ c => by rw [(rowB_blk h).2.1] at c; omega⟩
theorem GoodB.zeros : GoodB (List.replicate 8 0) := ⟨fun x hx => by rw [(List.mem_replicate.mp hx).2]; omega, fun _ _ => .inl rfl⟩
theorem GoodB.end_ {a f l : Int} (ha : 0 ≤ a ∧ a ≤ 1000000000000000) (hf : 0 ≤ f ∧ f ≤ 1000000000000000) (hl : l = 0 ∨ l = 1) : GoodB [a, f, 0, l, 0, 0, 0, a] :=
  ⟨fun x hx => by
    simp only [List.mem_cons, List.not_mem_nil, or_false] at hx
    rcases hx with rfl | rfl | rfl | rfl | rfl | rfl | rfl | rfl <;> omega, fun _ _ => hl⟩
theorem GoodB.puts {n : Nat} : ∀ {bl ws : List (List Int)} {num : Int}, (∀ b ∈ bl, GoodB b) → (∀ w ∈ ws, GoodB w) → ∀ w ∈ putWs n ws num bl, GoodB w
  | [], _, _, _, h => h
  | b :: bl, ws, num, hb, h => GoodB.puts (bl := bl) (fun x hx => hb x (List.mem_cons_of_mem _ hx)) fun w hw => by
    rcases mem_set' hw with hw | hw
    · exact h w hw
    · rw [hw]; exact hb b List.mem_cons_self
theorem GoodB.mix {p : Int} {b o : List Int} (hb : GoodB b) (ho : GoodB o) (lb : b.length = 8) (h0 : 0 ≤ p) (h7 : p ≤ 7) (h : 0 < p → (mixB p b o).getD 7 0 ≠ b.getD 0 0) : GoodB (mixB p b o) := by
  refine ⟨fun x hx => ?_, fun e => ?_⟩
  · unfold mixB at hx
    rcases List.mem_append.mp hx with hx | hx
    · exact hb.1 x (List.mem_of_mem_take hx)
    · exact ho.1 x (List.mem_of_mem_drop hx)
  · by_cases c : 0 < p
    · exfalso
      refine h c ?_
      rw [← e]
      have hc : p = 1 ∨ p = 2 ∨ p = 3 ∨ p = 4 ∨ p = 5 ∨ p = 6 ∨ p = 7 := by omega
      match b, lb with
      | [b0, b1, b2, b3, b4, b5, b6, b7], _ => rcases hc with rfl | rfl | rfl | rfl | rfl | rfl | rfl <;> rfl
    · have e2 : mixB p b o = o := by
        unfold mixB
        rw [show p.toNat = 0 by omega]
        rfl
      rw [e2] at e ⊢
      exact ho.2 e

/-! ### the disk, the log, and what the law keeps -/
theorem MInv.count {n : Nat} {ws : List (List Int)} {num flo : Int} {torn : Option Int} {rows : List (Int × List Int)} {cut : List Int} (h : MInv n ws num flo torn rows cut) : rows.length ≤ 63 ∧ cut.length ≤ 63 := by
  obtain ⟨gs, v, rfl, rfl⟩ := h
  have hl := (grp_len _ v.gr).1
  rw [useB_len] at hl
  have f2 := v.f2
  have n64 := v.n64
  have : gs.length ≤ 63 := by simp at hl; omega
  unfold rowsIn cutIn
  rw [List.length_map, List.length_map]
  exact ⟨Nat.le_trans (List.length_filter_le _ _) this, Nat.le_trans (List.length_filter_le _ _) this⟩
structure DRel (s : DS) (m : MS) : Prop where
  ok : s.Ok
  bl : m.bs.length = m.n
  n : s.ws.length = m.n
  ws : s.ws = m.ws
  w : s.w = m.w
  lt : s.lt = m.lt
  p : s.lt ≠ none → s.p = m.p
  p0 : 0 ≤ s.p
  p7 : s.p ≤ 7
  q0 : 0 ≤ m.p
  q7 : m.p ≤ 7
  lt0 : ∀ t, m.lt = some t → 0 ≤ t
  inv : MInv m.n m.ws m.num m.flo m.torn m.rw m.cut
  rr : ∀ x ∈ m.rows, x.2.2.length ≤ 11
  gn : m.gone = false
  gb : goneB m.n m.ws m.num = false
  gw : m.num ≤ 999999999999000 → ∀ w ∈ m.ws, GoodB w
  rb : ∀ x ∈ m.rows, ∀ y ∈ x.2.2, 0 ≤ y ∧ y ≤ 999999999
structure LRel (l : LS) (m : MS) : Prop where
  num : l.num = m.num
  torn : l.torn = m.torn
  cut : l.cut = m.cut
  gone : l.gone = m.gone
  rows : l.rw = m.rw
theorem DRel.numGe {s : DS} {m : MS} (h : DRel s m) : (m.n : Int) - 1 ≤ m.num ∧ (m.n : Int) - 1 ≤ m.flo ∧ m.flo ≤ m.num := by
  obtain ⟨gs, v, _, _⟩ := h.inv
  have f0 := v.f0
  have f1 := v.f1
  exact ⟨by omega, f0, f1⟩
theorem DRel.goods {s : DS} {m : MS} (h : DRel s m) {row : List Int} {f : Int} (hf : f = floorU m.rw m.num) (hwb : ∀ x ∈ row, 0 ≤ x ∧ x ≤ 999999999) (h11 : row.length ≤ 11) (hb : m.num ≤ 999999999999000) : ∀ b ∈ rowB row f (m.num + 1), GoodB b := by
  intro b hm
  obtain ⟨i, hi⟩ := List.getElem?_of_mem hm
  have g := h.numGe
  have lo := h.ok.lo
  rw [h.n] at lo
  have r := h.inv.room
  rw [← hf] at r
  exact GoodB.row hi hwb h11 (by omega) (by omega)
theorem DRel.floorT {s : DS} {m : MS} (h : DRel s m) : 0 ≤ floorU m.rw.tail m.num ∧ floorU m.rw.tail m.num ≤ m.num := by
  have g := h.numGe
  have lo := h.ok.lo
  rw [h.n] at lo
  have inv := h.inv
  cases hr : m.rw with
  | nil => exact ⟨by show 0 ≤ m.num; omega, by show m.num ≤ m.num; omega⟩
  | cons x xs =>
    rw [hr] at inv
    have tr := inv.takeRoom
    obtain ⟨gs, v, hg, _⟩ := inv
    have fl := MInv.floor v hg tr.1
    exact ⟨by show 0 ≤ floorU xs m.num; omega, by show floorU xs m.num ≤ m.num; omega⟩
theorem DRel.mk' {s : DS} {m : MS} (h : DRel s m) : m.Ok := by
  have hc := h.inv.count
  have ok := h.ok
  refine ⟨by rw [← h.n]; exact ok.lo, by rw [← h.n]; exact ok.hi, h.bl, by rw [← h.ws]; exact h.n, fun w hw => ok.each w (by rw [h.ws]; exact hw), h.q0, h.q7, by omega, ?_, h.rr, h.lt0⟩
  have := hc.1
  unfold MS.rw at this
  rw [List.length_map] at this
  omega
theorem LRel.len {s : DS} {l : LS} {m : MS} (h : LRel l m) (d : DRel s m) : l.cut.length ≤ 1000 ∧ l.rows.length ≤ 1000 := by
  have hc := d.inv.count
  have e := congrArg List.length h.rows
  unfold LS.rw at e
  rw [List.length_map] at e
  rw [h.cut]
  omega
theorem blkOf_last {n : Nat} (hn : 0 < n) {ws bl : List (List Int)} {num : Int} {b : List Int} (hl : ws.length = n) : blkOf n (putWs n ws num (bl ++ [b])) (num + (bl.length : Nat) + 1) = b := by
  rw [putWs_snoc, blkOf_set hn (by rw [putWs_len]; exact hl), if_pos rfl]
theorem goneB_of {n : Nat} {ws : List (List Int)} {num : Int} {b : List Int} (e : blkOf n ws num = b) (h : b.getD 2 0 ≠ 0 ∨ b.getD 3 0 ≠ 1) : goneB n ws num = false := by
  unfold goneB
  rw [e]
  rcases h with h | h
  · rw [decide_eq_false h, Bool.false_and, Bool.and_false]
  · rw [decide_eq_false h, Bool.and_false, Bool.and_false]
theorem goneB_tear {n : Nat} {ws : List (List Int)} {num : Int} {b : List Int} (hn : 2 ≤ n) (hl : ws.length = n) : goneB n (ws.set ((num + 1) % n).toNat b) num = goneB n ws num := by
  unfold goneB
  rw [blkOf_set (by omega) hl, if_neg]
  intro e
  have := mod_inj (n := n) (by omega) e.symm (by omega) (by omega)
  omega
section
variable {s : DS} {m : MS} (h : DRel s m) {row : List Int} {f : Int} (hf : f = floorU m.rw m.num) (hk : ((pcs row).length : Int) ≤ m.n - 1 - (m.num - f)) (h11 : row.length ≤ 11)
include h
theorem DRel.n4 : 4 ≤ m.n ∧ m.n ≤ 64 := by
  rw [← h.n]
  exact ⟨h.ok.lo, h.ok.hi⟩
include hf hk h11
theorem DRel.putOk (hwb : ∀ x ∈ row, 0 ≤ x ∧ x ≤ 999999999) (hlt : ∀ t, m.lt = some t → ((pcs row).length : Int) ≤ t) {bs bs' : List Addr} {ca ta wr : Addr} (hb : bs.length = s.bs.length) (hb' : bs'.length = m.bs.length) :
    DRel (dPut s bs m.num (rowB row f (m.num + 1))) { mPut m bs' ca f (rowB row f (m.num + 1)) with rows := m.rows ++ [((ta, wr), (m.num + 1, row))] } := by
  have n4 := h.n4
  have hl : 0 < (pcs row).length := by rw [pcs_len]; omega
  have hbl := rowB_len row f (m.num + 1)
  have hne : ¬ (rowB row f (m.num + 1)).length = 0 := by omega
  have hall : ∀ b ∈ rowB row f (m.num + 1), b.length = 8 := fun b hb => by
    obtain ⟨j, hj⟩ := List.getElem?_of_mem hb
    exact (rowB_blk hj).1.len
  have inv := h.inv.putOk hf hk
  refine ⟨dPut_ok h.ok hb hall, hb'.trans h.bl, ?_, ?_, ?_, ?_, ?_, h.p0, h.p7, h.q0, h.q7, ?_, ?_, ?_, h.gn, ?_, fun hb9 => ?_, fun x hx => ?_⟩
  · show (putWs _ _ _ _).length = _
    rw [putWs_len]; exact h.n
  · show putWs s.ws.length s.ws _ _ = putWs m.n m.ws _ _
    rw [h.n, h.ws]
  · show s.w + _ = m.w + _
    rw [h.w]
  · show s.lt.map _ = m.lt.map _
    rw [h.lt]
  · intro hn
    refine h.p fun e => hn ?_
    show s.lt.map _ = none
    rw [e]
    rfl
  · intro t ht
    have ht : m.lt.map (fun x : Int => x - ((rowB row f (m.num + 1)).length : Nat)) = some t := ht
    cases e : m.lt with
    | none => rw [e] at ht; cases ht
    | some u =>
      rw [e] at ht
      have h1 := hlt u e
      have h2 : u - (((rowB row f (m.num + 1)).length : Nat) : Int) = t := Option.some.inj ht
      omega
  · show MInv m.n (putWs m.n m.ws m.num (rowB row f (m.num + 1))) (m.num + ((rowB row f (m.num + 1)).length : Nat)) (if (rowB row f (m.num + 1)).length = 0 then m.flo else f) (if (rowB row f (m.num + 1)).length = 0 then m.torn else none) ((m.rows ++ [((ta, wr), (m.num + 1, row))]).map Prod.snd) (if (rowB row f (m.num + 1)).length = 0 then m.cut else m.cut.filter fun x => decide (f < x))
    rw [if_neg hne, if_neg hne, if_neg hne, hbl, List.map_append]
    exact inv
  · intro x hx
    rcases List.mem_append.mp hx with hx | hx
    · exact h.rr x hx
    · obtain rfl : x = ((ta, wr), (m.num + 1, row)) := by simpa using hx
      exact h11
  · obtain ⟨ini, b, e⟩ := snoc_of (l := rowB row f (m.num + 1)) (by intro z; rw [z] at hne; exact hne rfl)
    have hbm : (rowB row f (m.num + 1))[ini.length]? = some b := by rw [e]; simp
    have hq := rowB_blk hbm
    refine goneB_of (b := b) ?_ (.inl ?_)
    · show blkOf m.n (putWs m.n m.ws m.num (rowB row f (m.num + 1))) (m.num + ((rowB row f (m.num + 1)).length : Nat)) = b
      rw [e, List.length_append, List.length_singleton]
      have e9 : m.num + ((ini.length + 1 : Nat) : Int) = m.num + (ini.length : Nat) + 1 := by push_cast; omega
      rw [e9]
      exact blkOf_last (n := m.n) (by omega) (ws := m.ws) (bl := ini) (num := m.num) (b := b) (by rw [← h.ws]; exact h.n)
    · rw [hq.2.1]
      have g := h.numGe
      have n4' : (4 : Int) ≤ m.n := by have := n4.1; omega
      intro z
      have z : m.num + 1 = 0 := z
      omega
  · have hb9 : m.num + ((rowB row f (m.num + 1)).length : Nat) ≤ 999999999999000 := hb9
    exact GoodB.puts (h.goods hf hwb h11 (by omega)) (h.gw (by omega))
  · rcases List.mem_append.mp hx with hx | hx
    · exact h.rb x hx
    · obtain rfl : x = ((ta, wr), (m.num + 1, row)) := by simpa using hx
      exact hwb
theorem DRel.putCut (hwb : ∀ x ∈ row, 0 ≤ x ∧ x ≤ 999999999) {t : Nat} {b : List Int} (hlt : m.lt = some (t : Int)) (hb0 : (rowB row f (m.num + 1))[t]? = some b) {bs bs' : List Addr} {ca : Addr} (hb : bs.length = s.bs.length) (hb' : bs'.length = m.bs.length) :
    DRel (dCut s bs m.num ((rowB row f (m.num + 1)).take t) b) (mCut m bs' ca f ((rowB row f (m.num + 1)).take t) b) := by
  have n4 := h.n4
  have hbl := rowB_len row f (m.num + 1)
  have ht : t < (pcs row).length := by
    have := (List.getElem?_eq_some_iff.mp hb0).1
    rwa [hbl] at this
  have htl : ((rowB row f (m.num + 1)).take t).length = t := by rw [List.length_take, hbl]; omega
  have hq := rowB_blk hb0
  have hall : ∀ b ∈ (rowB row f (m.num + 1)).take t, b.length = 8 := fun b hb => by
    obtain ⟨j, hj⟩ := List.getElem?_of_mem (List.mem_of_mem_take hb)
    exact (rowB_blk hj).1.len
  have wl : m.ws.length = m.n := by rw [← h.ws]; exact h.n
  have hp : s.p = m.p := h.p (by rw [h.lt, hlt]; simp)
  have part := h.inv.putPart hf hk ht
  have hb1 : b.getD 0 0 = m.num + (t : Nat) + 1 := by rw [hq.1.first]; omega
  have tear := part.tear (b := b) (p := m.p) hq.1.len hb1 h.q0 h.q7
  have okp := dPut_ok (bs := bs) (num := m.num) h.ok hb hall
  have hwl : (putWs s.ws.length s.ws m.num ((rowB row f (m.num + 1)).take t)).length = m.n := by rw [putWs_len]; exact h.n
  have hpl := place_lt (n := s.ws.length) (by rw [h.n]; omega) (m.num + (t : Nat) + 1)
  have hw8 : ((putWs s.ws.length s.ws m.num ((rowB row f (m.num + 1)).take t)).getD ((m.num + (t : Nat) + 1) % s.ws.length).toNat []).length = 8 := by
    rw [List.getD_eq_getElem?_getD, List.getElem?_eq_getElem (by rw [putWs_len]; exact hpl.1)]
    exact okp.each _ (List.getElem_mem _)
  refine ⟨⟨?_, ?_, ?_, ?_⟩, hb'.trans h.bl, ?_, ?_, ?_, ?_, fun _ => rfl, Int.le_refl _, (by show (0 : Int) ≤ 7; decide), Int.le_refl _, (by show (0 : Int) ≤ 7; decide), ?_, ?_, h.rr, h.gn, ?_, fun hb9 => ?_, h.rb⟩
  · show bs.length = (List.set _ _ _).length
    rw [List.length_set, putWs_len, hb, h.ok.len]
  · show 4 ≤ (List.set _ _ _).length
    rw [List.length_set, hwl]; exact n4.1
  · show (List.set _ _ _).length ≤ 64
    rw [List.length_set, hwl]; exact n4.2
  · intro w hw
    rcases mem_set' (show w ∈ List.set _ _ _ from hw) with hw | hw
    · exact okp.each w hw
    · rw [hw, htl]
      unfold mixB
      have p0 := h.p0
      have p7 := h.p7
      rw [List.length_append, List.length_take, List.length_drop, hw8, hq.1.len]
      omega
  · show (List.set _ _ _).length = m.n
    rw [List.length_set, hwl]
  · show (putWs s.ws.length s.ws m.num ((rowB row f (m.num + 1)).take t)).set _ _ = (putWs m.n m.ws m.num ((rowB row f (m.num + 1)).take t)).set _ _
    rw [hb1, htl, h.n, h.ws, hp]
    rfl
  · show s.w + _ = m.w + _
    rw [h.w]
  · show some (0 : Int) = m.lt.map (fun x : Int => x - (((rowB row f (m.num + 1)).take t).length : Nat))
    rw [hlt, htl]
    show some (0 : Int) = some ((t : Int) - (t : Nat))
    congr 1
    omega
  · intro u hu
    have hu : m.lt.map (fun x : Int => x - (((rowB row f (m.num + 1)).take t).length : Nat)) = some u := hu
    rw [hlt, htl] at hu
    have := Option.some.inj hu
    have h2 : (t : Int) - (t : Nat) = u := this
    omega
  · show MInv m.n ((putWs m.n m.ws m.num ((rowB row f (m.num + 1)).take t)).set (b.getD 0 0 % m.n).toNat (mixW m.p b ((putWs m.n m.ws m.num ((rowB row f (m.num + 1)).take t)).getD (b.getD 0 0 % m.n).toNat []))) (m.num + (((rowB row f (m.num + 1)).take t).length : Nat)) (if ((rowB row f (m.num + 1)).take t).length = 0 then m.flo else f) (if 0 < m.p then some (b.getD 0 0 % m.n) else if ((rowB row f (m.num + 1)).take t).length = 0 then m.torn else none) m.rw (if ((rowB row f (m.num + 1)).take t).length = 0 then m.cut else (m.cut.filter fun x => decide (f < x)) ++ [m.num + 1])
    rw [htl, hb1]
    exact tear
  · show goneB m.n ((putWs m.n m.ws m.num ((rowB row f (m.num + 1)).take t)).set (b.getD 0 0 % m.n).toNat _) (m.num + (((rowB row f (m.num + 1)).take t).length : Nat)) = false
    rw [htl, hb1, goneB_tear (by omega) (by rw [putWs_len]; exact wl)]
    cases t with
    | zero =>
      have e : m.num + ((0 : Nat) : Int) = m.num := by omega
      rw [List.take_zero, e]
      exact h.gb
    | succ j =>
      obtain ⟨w, hw⟩ : ∃ w, (rowB row f (m.num + 1))[j]? = some w := ⟨_, List.getElem?_eq_getElem (by rw [hbl]; omega)⟩
      have hjl : ((rowB row f (m.num + 1)).take j).length = j := by rw [List.length_take, hbl]; omega
      have hq2 := rowB_blk hw
      refine goneB_of (b := w) ?_ (.inl ?_)
      · rw [take_snoc hw]
        have := blkOf_last (n := m.n) (by omega) (ws := m.ws) (bl := (rowB row f (m.num + 1)).take j) (num := m.num) (b := w) wl
        rw [hjl] at this
        have e9 : m.num + ((j + 1 : Nat) : Int) = m.num + (j : Nat) + 1 := by push_cast; omega
        rw [e9]
        exact this
      · rw [hq2.2.1]
        have g := h.numGe
        have n4' : (4 : Int) ≤ m.n := by have := n4.1; omega
        intro z
        have z : m.num + 1 = 0 := z
        omega
  · have hb9 : m.num + (((rowB row f (m.num + 1)).take t).length : Nat) ≤ 999999999999000 := hb9
    have hg := h.goods hf hwb h11 (by omega)
    have hw0 := GoodB.puts (n := m.n) (num := m.num) (fun b (hb : b ∈ (rowB row f (m.num + 1)).take t) => hg b (List.mem_of_mem_take hb)) (h.gw (by omega))
    intro w hw
    rcases mem_set' (show w ∈ List.set (putWs m.n m.ws m.num ((rowB row f (m.num + 1)).take t)) _ _ from hw) with hw | hw
    · exact hw0 w hw
    · rw [hw, hb1]
      show GoodB (mixB m.p b ((putWs m.n m.ws m.num ((rowB row f (m.num + 1)).take t)).getD ((m.num + (t : Nat) + 1) % (m.n : Int)).toNat []))
      have hpl2 := place_lt (n := m.n) (by omega) (m.num + (t : Nat) + 1)
      have wl2 : (putWs m.n m.ws m.num ((rowB row f (m.num + 1)).take t)).length = m.n := by rw [putWs_len]; exact wl
      refine GoodB.mix (hg b (List.mem_of_getElem? hb0)) (hw0 _ ?_) hq.1.len h.q0 h.q7 fun hp0 => ?_
      · rw [List.getD_eq_getElem?_getD, List.getElem?_eq_getElem (by rw [wl2]; exact hpl2.1)]
        exact List.getElem_mem _
      · obtain ⟨gs, v, _, _⟩ := tear
        have q := (v.toLaid.tn _ (if_pos hp0)).2.2
        rw [getD_set (by rw [wl2]; exact hpl2.1), if_pos rfl] at q
        rw [hb1]
        exact q
end
section
variable {s : DS} {m : MS} (h : DRel s m) {f : Int}
include h
theorem DRel.takeOk {x : RA} {xs : List RA} (hr : m.rows = x :: xs) (hf : f = floorU m.rw.tail m.num) (hlt : m.lt ≠ some 0) {bs bs' : List Addr} {ca : Addr} (hb : bs.length = s.bs.length) (hb' : bs'.length = m.bs.length) :
    DRel (dPut s bs m.num [markB (m.num + 1) f]) { mWrite m bs' ca (markB (m.num + 1) f) with rows := xs } := by
  have n4 := h.n4
  have hrw : m.rw = x.2 :: xs.map Prod.snd := by unfold MS.rw; rw [hr]; rfl
  have hrt : m.rw.tail = xs.map Prod.snd := by rw [hrw]; rfl
  have inv := h.inv
  rw [hrw] at inv
  have tr := inv.takeRoom
  have hf' : f = floorU (xs.map Prod.snd) m.num := by rw [← hrt]; exact hf
  rw [← hf'] at tr
  have mk := inv.mark tr.1 tr.2 (left := 0)
  have wl : m.ws.length = m.n := by rw [← h.ws]; exact h.n
  refine ⟨dPut_ok h.ok hb (fun b hb => ?_), hb'.trans h.bl, ?_, ?_, ?_, ?_, ?_, h.p0, h.p7, h.q0, h.q7, ?_, ?_, ?_, h.gn, ?_, fun hb9 => ?_, fun y hy => h.rb y (by rw [hr]; exact List.mem_cons_of_mem _ hy)⟩
  · obtain rfl : b = markB (m.num + 1) f := by simpa using hb
    rfl
  · show (putWs _ _ _ _).length = _
    rw [putWs_len]; exact h.n
  · show s.ws.set ((m.num + 1) % s.ws.length).toNat _ = m.ws.set ((m.num + 1) % m.n).toNat _
    rw [h.n, h.ws]
  · show s.w + ((1 : Nat) : Int) = m.w + 1
    rw [h.w]
    rfl
  · show s.lt.map (fun x : Int => x - ((1 : Nat) : Int)) = m.lt.map _
    rw [h.lt]
    rfl
  · intro hn
    refine h.p fun e => hn ?_
    show s.lt.map _ = none
    rw [e]
    rfl
  · intro t ht
    have ht : m.lt.map (fun x : Int => x - 1) = some t := ht
    cases e : m.lt with
    | none => rw [e] at ht; cases ht
    | some u =>
      rw [e] at ht hlt
      have h1 := h.lt0 u e
      have h2 : u - 1 = t := Option.some.inj ht
      have h3 : u ≠ 0 := fun z => hlt (by rw [z])
      omega
  · exact mk
  · intro y hy
    exact h.rr y (by rw [hr]; exact List.mem_cons_of_mem _ hy)
  · refine goneB_of (b := markB (m.num + 1) f) ?_ (.inr (by show (0 : Int) ≠ 1; decide))
    show blkOf m.n (m.ws.set ((m.num + 1) % m.n).toNat _) (m.num + 1) = _
    rw [blkOf_set (by omega) wl, if_pos rfl]
  · have hb9 : m.num + 1 ≤ 999999999999000 := hb9
    have g := h.numGe
    obtain ⟨gs, v, hg, _⟩ := inv
    have fl := MInv.floor v hg tr.1
    intro w hw
    rcases mem_set' (show w ∈ List.set m.ws _ _ from hw) with hw | hw
    · exact h.gw (by omega) w hw
    · rw [hw]
      exact GoodB.end_ (by omega) (by omega) (.inl rfl)
theorem DRel.takeCut {x : RA} {xs : List RA} (hr : m.rows = x :: xs) (hf : f = floorU m.rw.tail m.num) (hlt : m.lt = some 0) {bs bs' : List Addr} (hb : bs.length = s.bs.length) (hb' : bs'.length = m.bs.length) :
    DRel (dCut s bs m.num [] (markB (m.num + 1) f)) (mTear m bs' (markB (m.num + 1) f)) := by
  have n4 := h.n4
  have wl : m.ws.length = m.n := by rw [← h.ws]; exact h.n
  have hp : s.p = m.p := h.p (by rw [h.lt, hlt]; simp)
  have tear := h.inv.tear (b := markB (m.num + 1) f) (p := m.p) rfl rfl h.q0 h.q7
  have hpl := place_lt (n := m.n) (by omega) (m.num + 1)
  have e0 : m.num + ((([] : List (List Int)).length : Nat) : Int) + 1 = m.num + 1 := by show m.num + ((0 : Nat) : Int) + 1 = _; omega
  refine ⟨⟨?_, ?_, ?_, ?_⟩, hb'.trans h.bl, ?_, ?_, ?_, ?_, fun _ => rfl, Int.le_refl _, (by show (0 : Int) ≤ 7; decide), Int.le_refl _, (by show (0 : Int) ≤ 7; decide), h.lt0, ?_, h.rr, h.gn, ?_, fun hb9 => ?_, h.rb⟩
  · show bs.length = (List.set _ _ _).length
    rw [List.length_set, putWs_len, hb, h.ok.len]
  · show 4 ≤ (List.set _ _ _).length
    rw [List.length_set, putWs_len, h.n]; exact n4.1
  · show (List.set _ _ _).length ≤ 64
    rw [List.length_set, putWs_len, h.n]; exact n4.2
  · intro w hw
    rcases mem_set' (show w ∈ List.set s.ws _ _ from hw) with hw | hw
    · exact h.ok.each w hw
    · rw [hw, e0, h.n]
      show (mixB s.p (markB (m.num + 1) f) (s.ws.getD ((m.num + 1) % (m.n : Int)).toNat [])).length = 8
      have hw8 : (s.ws.getD ((m.num + 1) % (m.n : Int)).toNat []).length = 8 := by
        rw [List.getD_eq_getElem?_getD, List.getElem?_eq_getElem (by rw [h.n]; exact hpl.1)]
        exact h.ok.each _ (List.getElem_mem _)
      unfold mixB
      have p0 := h.p0
      have p7 := h.p7
      have hm : (markB (m.num + 1) f).length = 8 := rfl
      rw [List.length_append, List.length_take, List.length_drop, hw8, hm]
      omega
  · show (List.set _ _ _).length = m.n
    rw [List.length_set, putWs_len, h.n]
  · show s.ws.set _ (mixB s.p _ (s.ws.getD _ [])) = m.ws.set ((m.num + 1) % m.n).toNat (mixW m.p _ (m.ws.getD ((m.num + 1) % m.n).toNat []))
    rw [e0, h.n, h.ws, hp]
    rfl
  · show s.w + ((0 : Nat) : Int) = m.w
    rw [h.w]
    omega
  · exact hlt.symm
  · exact tear
  · show goneB m.n (m.ws.set ((m.num + 1) % m.n).toNat _) m.num = false
    rw [goneB_tear (by omega) wl]
    exact h.gb
  · have hb9 : m.num ≤ 999999999999000 := hb9
    have fl := h.floorT
    have g := h.numGe
    intro w hw
    rcases mem_set' (show w ∈ List.set m.ws _ _ from hw) with hw | hw
    · exact h.gw hb9 w hw
    · rw [hw]
      show GoodB (mixB m.p (markB (m.num + 1) f) (m.ws.getD ((m.num + 1) % (m.n : Int)).toNat []))
      refine GoodB.mix (GoodB.end_ (by omega) (by omega) (.inl rfl)) (h.gw hb9 _ ?_) rfl h.q0 h.q7 fun hp0 => ?_
      · rw [List.getD_eq_getElem?_getD, List.getElem?_eq_getElem (by rw [wl]; exact hpl.1)]
        exact List.getElem_mem _
      · obtain ⟨gs, v, _, _⟩ := tear
        have q := (v.toLaid.tn _ (if_pos hp0)).2.2
        rw [getD_set (by rw [wl]; exact hpl.1), if_pos rfl] at q
        exact q
theorem DRel.stop {c p : Int} (hc : 0 ≤ c) (hp0 : 0 ≤ p) (hp7 : p ≤ 7) : DRel { s with lt := some c, p := p } { m with lt := some c, p := p } :=
  ⟨⟨h.ok.len, h.ok.lo, h.ok.hi, h.ok.each⟩, h.bl, h.n, h.ws, h.w, rfl, fun _ => rfl, hp0, hp7, hp0, hp7, (fun t ht => by cases ht; exact hc), h.inv, h.rr, h.gn, h.gb, h.gw, h.rb⟩
theorem DRel.on : DRel { s with lt := none } { m with lt := none, p := 0 } :=
  ⟨⟨h.ok.len, h.ok.lo, h.ok.hi, h.ok.each⟩, h.bl, h.n, h.ws, h.w, rfl, fun z => absurd rfl z, h.p0, h.p7, Int.le_refl _, (by show (0 : Int) ≤ 7; decide), (fun t ht => by cases ht), h.inv, h.rr, h.gn, h.gb, h.gw, h.rb⟩
theorem DRel.reads {r : Int} : DRel { s with r := r } m :=
  ⟨⟨h.ok.len, h.ok.lo, h.ok.hi, h.ok.each⟩, h.bl, h.n, h.ws, h.w, h.lt, h.p, h.p0, h.p7, h.q0, h.q7, h.lt0, h.inv, h.rr, h.gn, h.gb, h.gw, h.rb⟩
end
theorem DRel.floors {s : DS} {m : MS} (h : DRel s m) : 0 ≤ floorU m.rw m.num ∧ floorU m.rw m.num ≤ m.num ∧ 0 ≤ floorU m.rw.tail m.num ∧ floorU m.rw.tail m.num ≤ m.num ∧ m.num - floorU m.rw m.num ≤ m.n - 1 := by
  have g := h.numGe
  have n4 := h.n4
  have r := h.inv.room
  have inv := h.inv
  refine ⟨by omega, by omega, ?_⟩
  cases hr : m.rw with
  | nil =>
    rw [hr] at r
    exact ⟨by show 0 ≤ m.num; omega, by show m.num ≤ m.num; omega, r.2.2⟩
  | cons x xs =>
    rw [hr] at r inv
    have tr := inv.takeRoom
    obtain ⟨gs, v, hg, _⟩ := inv
    have fl := MInv.floor v hg tr.1
    exact ⟨by show 0 ≤ floorU xs m.num; omega, by show floorU xs m.num ≤ m.num; omega, r.2.2⟩
theorem LRel.put {l : LS} {m : MS} (h : LRel l m) {row : List Int} {f : Int} {bl : List (List Int)} (hb : bl.length ≠ 0) {ca ca' ta wa ta' wa' : Addr} {bs : List Addr} : LRel { l with num := l.num + (bl.length : Nat), torn := none, ca := ca, cut := l.cut.filter (fun b => decide (f < b)), rows := l.rows ++ [((ta, wa), (l.num + 1, row))] } { mPut m bs ca' f bl with rows := m.rows ++ [((ta', wa'), (m.num + 1, row))] } := by
  refine ⟨?_, ?_, ?_, h.gone, ?_⟩
  · show l.num + _ = m.num + _
    rw [h.num]
  · show none = if bl.length = 0 then m.torn else none
    rw [if_neg hb]
  · show l.cut.filter _ = if bl.length = 0 then m.cut else m.cut.filter _
    rw [if_neg hb, h.cut]
  · show (l.rows ++ _).map Prod.snd = (m.rows ++ _).map Prod.snd
    rw [List.map_append, List.map_append]
    have e : l.rows.map Prod.snd = m.rows.map Prod.snd := h.rows
    rw [e, h.num]
    rfl
theorem LRel.take {l : LS} {m : MS} (h : LRel l m) {f : Int} {ca ca' ra : Addr} {bs : List Addr} {xs ys : List RA} (e : ys.map Prod.snd = xs.map Prod.snd) : LRel { l with num := l.num + 1, torn := none, ca := ca, cut := l.cut.filter (fun b => decide (f < b)), ra := ra, rows := ys } { mWrite m bs ca' (markB (m.num + 1) f) with rows := xs } := by
  refine ⟨?_, rfl, ?_, h.gone, e⟩
  · show l.num + 1 = m.num + 1
    rw [h.num]
  · show l.cut.filter _ = m.cut.filter _
    rw [h.cut]
    rfl
theorem LRel.heads {l : LS} {m : MS} (h : LRel l m) {x : RA} {xs : List RA} (e : m.rows = x :: xs) : ∃ y ys, l.rows = y :: ys ∧ y.2 = x.2 ∧ ys.map Prod.snd = xs.map Prod.snd := by
  have hr : l.rows.map Prod.snd = m.rows.map Prod.snd := h.rows
  rw [e] at hr
  cases hl : l.rows with
  | nil => rw [hl] at hr; cases hr
  | cons y ys =>
    rw [hl] at hr
    have h1 : y.2 = x.2 ∧ ys.map Prod.snd = xs.map Prod.snd := by simpa using hr
    exact ⟨y, ys, rfl, h1.1, h1.2⟩
theorem LRel.nil {l : LS} {m : MS} (h : LRel l m) (e : m.rows = []) : l.rows = [] := by
  have hr : l.rows.map Prod.snd = m.rows.map Prod.snd := h.rows
  rw [e] at hr
  simpa using hr
theorem LRel.cons {l : LS} {m : MS} (h : LRel l m) {y : RA} {ys : List RA} (e : l.rows = y :: ys) : m.rows ≠ [] := fun z => by
  rw [h.nil z] at e
  cases e

/-! ### a log and its disk, without places in the heap -/
structure PS where
  n : Nat
  ws : List (List Int)
  num : Int
  flo : Int
  rw : List (Int × List Int)
  cut : List Int
  torn : Option Int
  lt : Option Int
  p : Int
  w : Int
  gone : Bool
def MS.ps (m : MS) : PS := ⟨m.n, m.ws, m.num, m.flo, m.rw, m.cut, m.torn, m.lt, m.p, m.w, m.gone⟩
structure XRel (s : DS) (P : PS) : Prop where
  ok : s.Ok
  n : s.ws.length = P.n
  ws : s.ws = P.ws
  w : s.w = P.w
  lt : s.lt = P.lt
  p : s.lt ≠ none → s.p = P.p
  p0 : 0 ≤ s.p
  p7 : s.p ≤ 7
  q0 : 0 ≤ P.p
  q7 : P.p ≤ 7
  lt0 : ∀ t, P.lt = some t → 0 ≤ t
  inv : MInv P.n P.ws P.num P.flo P.torn P.rw P.cut
  rr : ∀ x ∈ P.rw, x.2.length ≤ 11
  rb : ∀ x ∈ P.rw, ∀ y ∈ x.2, 0 ≤ y ∧ y ≤ 999999999
  gr : P.gone = true → P.rw = []
  gb : goneB P.n P.ws P.num = P.gone
  gw : P.num ≤ 999999999999000 → ∀ w ∈ P.ws, GoodB w
theorem DRel.x {s : DS} {m : MS} (h : DRel s m) : XRel s m.ps :=
  ⟨h.ok, h.n, h.ws, h.w, h.lt, h.p, h.p0, h.p7, h.q0, h.q7, h.lt0, h.inv, fun x hx => by
    obtain ⟨y, hy, rfl⟩ := List.mem_map.mp (show x ∈ m.rows.map Prod.snd from hx)
    exact h.rr y hy, fun x hx => by
    obtain ⟨y, hy, rfl⟩ := List.mem_map.mp (show x ∈ m.rows.map Prod.snd from hx)
    exact h.rb y hy, (fun hg => by have := h.gn; rw [show m.ps.gone = m.gone from rfl, this] at hg; cases hg), h.gb.trans h.gn.symm, h.gw⟩
theorem XRel.d {s : DS} {m : MS} (h : XRel s m.ps) (hg : m.gone = false) (hb : m.bs.length = m.n) : DRel s m :=
  ⟨h.ok, hb, h.n, h.ws, h.w, h.lt, h.p, h.p0, h.p7, h.q0, h.q7, h.lt0, h.inv, fun x hx => h.rr x.2 (List.mem_map_of_mem (f := Prod.snd) hx), hg, h.gb.trans hg, h.gw, fun x hx => h.rb x.2 (List.mem_map_of_mem (f := Prod.snd) hx)⟩
/-- with places that don't matter -/
def PS.ms (P : PS) : MS := ⟨P.n, 0, List.replicate P.n 0, P.ws, P.num, P.flo, 0, P.rw.map fun r => ((0, 0), r), 0, P.cut, P.torn, P.lt, P.p, P.w, P.gone, none⟩
theorem PS.ms_rw (P : PS) : P.ms.rw = P.rw := by
  show (P.rw.map fun r => (((0, 0), r) : RA)).map Prod.snd = P.rw
  rw [List.map_map]
  exact List.map_id _
theorem PS.ms_ps (P : PS) : P.ms.ps = P := by
  show PS.mk _ _ _ _ P.ms.rw _ _ _ _ _ _ = P
  rw [P.ms_rw]
  rfl
theorem XRel.dm {s : DS} {P : PS} (h : XRel s P) (hg : P.gone = false) : DRel s P.ms := XRel.d (by rw [P.ms_ps]; exact h) hg List.length_replicate
structure LRelP (l : LS) (P : PS) : Prop where
  num : l.num = P.num
  torn : l.torn = P.torn
  cut : l.cut = P.cut
  gone : l.gone = P.gone
  rows : l.rw = P.rw
theorem LRel.p {l : LS} {m : MS} (h : LRel l m) : LRelP l m.ps := ⟨h.num, h.torn, h.cut, h.gone, h.rows⟩
theorem LRelP.m {l : LS} {m : MS} (h : LRelP l m.ps) : LRel l m := ⟨h.num, h.torn, h.cut, h.gone, h.rows⟩
theorem XRel.reads {s : DS} {P : PS} (h : XRel s P) {r : Int} : XRel { s with r := r } P :=
  ⟨⟨h.ok.len, h.ok.lo, h.ok.hi, h.ok.each⟩, h.n, h.ws, h.w, h.lt, h.p, h.p0, h.p7, h.q0, h.q7, h.lt0, h.inv, h.rr, h.rb, h.gr, h.gb, h.gw⟩
theorem XRel.on {s : DS} {P : PS} (h : XRel s P) : XRel { s with lt := none } { P with lt := none, p := 0 } :=
  ⟨⟨h.ok.len, h.ok.lo, h.ok.hi, h.ok.each⟩, h.n, h.ws, h.w, rfl, fun z => absurd rfl z, h.p0, h.p7, Int.le_refl _, (by show (0 : Int) ≤ 7; decide), (fun t ht => by cases ht), h.inv, h.rr, h.rb, h.gr, h.gb, h.gw⟩
theorem XRel.stop {s : DS} {P : PS} (h : XRel s P) {c p : Int} (hc : 0 ≤ c) (hp0 : 0 ≤ p) (hp7 : p ≤ 7) : XRel { s with lt := some c, p := p } { P with lt := some c, p := p } :=
  ⟨⟨h.ok.len, h.ok.lo, h.ok.hi, h.ok.each⟩, h.n, h.ws, h.w, rfl, fun _ => rfl, hp0, hp7, hp0, hp7, (fun t ht => by cases ht; exact hc), h.inv, h.rr, h.rb, h.gr, h.gb, h.gw⟩
theorem XRel.n4 {s : DS} {P : PS} (h : XRel s P) : 4 ≤ P.n ∧ P.n ≤ 64 ∧ P.ws.length = P.n := by
  have := h.ok
  rw [← h.n, ← h.ws]
  exact ⟨this.lo, this.hi, rfl⟩
theorem XRel.numGe {s : DS} {P : PS} (h : XRel s P) : (P.n : Int) - 1 ≤ P.num := by
  obtain ⟨gs, v, _, _⟩ := h.inv
  have f0 := v.f0
  have f1 := v.f1
  omega
theorem XRel.fl {s : DS} {P : PS} (h : XRel s P) : 0 ≤ floorU P.rw P.num ∧ floorU P.rw P.num ≤ P.num := by
  have n4 := h.n4
  have r := h.inv.room
  obtain ⟨gs, v, _, _⟩ := h.inv
  have f0 := v.f0
  omega
theorem XRel.cnt {s : DS} {P : PS} {l : LS} (h : XRel s P) (lr : LRelP l P) : l.cut.length ≤ 1000 ∧ l.rows.length ≤ 1000 := by
  have hc := h.inv.count
  have e := congrArg List.length lr.rows
  unfold LS.rw at e
  rw [List.length_map] at e
  rw [lr.cut]
  omega
/-- a write of a mark or a farewell behind which no row stands -/
def endB (P : PS) (left : Int) : List Int := [P.num + 1, P.num, 0, left, 0, 0, 0, P.num + 1]
def pTear (P : PS) (b : List Int) : PS := { P with ws := P.ws.set (b.getD 0 0 % P.n).toNat (mixW P.p b (P.ws.getD (b.getD 0 0 % P.n).toNat [])), torn := if 0 < P.p then some (b.getD 0 0 % P.n) else P.torn, p := 0 }
def pWrite (P : PS) (b : List Int) : PS := { P with ws := P.ws.set (b.getD 0 0 % P.n).toNat b, lt := P.lt.map (· - 1), w := P.w + 1, num := b.getD 0 0, flo := b.getD 1 0, torn := none, cut := P.cut.filter fun x => decide (b.getD 1 0 < x) }
def pEnd (P : PS) (left : Int) : PS × Bool := if P.lt = some 0 then (pTear P (endB P left), false) else ({ pWrite P (endB P left) with rw := [], gone := decide (left = 1) }, true)
theorem mWrite_ps (m : MS) (bs : List Addr) (ca : Addr) (b : List Int) : (mWrite m bs ca b).ps = pWrite m.ps b := rfl
theorem mTear_ps (m : MS) (bs : List Addr) (b : List Int) : (mTear m bs b).ps = pTear m.ps b := rfl
section
variable {s : DS} {P : PS} (h : XRel s P) {left : Int} (hl : left = 0 ∨ left = 1)
include h hl
theorem XRel.endOk (hlt : P.lt ≠ some 0) {bs : List Addr} (hb : bs.length = s.bs.length) : XRel (dPut s bs P.num [endB P left]) { pWrite P (endB P left) with rw := [], gone := decide (left = 1) } := by
  have n4 := h.n4
  have g := h.numGe
  have mk := h.inv.mark (f := P.num) (later := []) (left := left) ⟨rfl, P.rw, by simp⟩ (by omega)
  refine ⟨dPut_ok h.ok hb (fun b hb => ?_), ?_, ?_, ?_, ?_, ?_, h.p0, h.p7, h.q0, h.q7, ?_, ?_, (fun x hx => nomatch hx), (fun x hx => nomatch hx), fun _ => rfl, ?_, fun hb9 => ?_⟩
  · obtain rfl : b = endB P left := by simpa using hb
    rfl
  · show (putWs _ _ _ _).length = _
    rw [putWs_len]; exact h.n
  · show s.ws.set ((P.num + 1) % s.ws.length).toNat _ = P.ws.set ((P.num + 1) % P.n).toNat _
    rw [h.n, h.ws]
  · show s.w + ((1 : Nat) : Int) = P.w + 1
    rw [h.w]
    rfl
  · show s.lt.map (fun x : Int => x - ((1 : Nat) : Int)) = P.lt.map _
    rw [h.lt]
    rfl
  · intro hn
    refine h.p fun e => hn ?_
    show s.lt.map _ = none
    rw [e]
    rfl
  · intro t ht
    have ht : P.lt.map (fun x : Int => x - 1) = some t := ht
    cases e : P.lt with
    | none => rw [e] at ht; cases ht
    | some u =>
      rw [e] at ht hlt
      have h1 := h.lt0 u e
      have h2 : u - 1 = t := Option.some.inj ht
      have h3 : u ≠ 0 := fun z => hlt (by rw [z])
      omega
  · exact mk
  · show goneB P.n (P.ws.set ((P.num + 1) % P.n).toNat (endB P left)) (P.num + 1) = decide (left = 1)
    unfold goneB
    rw [blkOf_set (by omega) n4.2.2, if_pos rfl, decide_eq_true (show (P.n : Int) ≤ P.num + 1 by omega)]
    show (true && (decide ((0 : Int) = 0) && decide (left = 1))) = _
    simp
  · have hb9 : P.num + 1 ≤ 999999999999000 := hb9
    intro w hw
    rcases mem_set' (show w ∈ List.set P.ws _ _ from hw) with hw | hw
    · exact h.gw (by omega) w hw
    · rw [hw]
      exact GoodB.end_ (by omega) (by omega) hl
theorem XRel.endCut (hlt : P.lt = some 0) {bs : List Addr} (hb : bs.length = s.bs.length) : XRel (dCut s bs P.num [] (endB P left)) (pTear P (endB P left)) := by
  have n4 := h.n4
  have wl := n4.2.2
  have g := h.numGe
  have hp : s.p = P.p := h.p (by rw [h.lt, hlt]; simp)
  have tear := h.inv.tear (b := endB P left) (p := P.p) rfl rfl h.q0 h.q7
  have hpl := place_lt (n := P.n) (by omega) (P.num + 1)
  have e0 : P.num + ((([] : List (List Int)).length : Nat) : Int) + 1 = P.num + 1 := by show P.num + ((0 : Nat) : Int) + 1 = _; omega
  refine ⟨⟨?_, ?_, ?_, ?_⟩, ?_, ?_, ?_, ?_, fun _ => rfl, Int.le_refl _, (by show (0 : Int) ≤ 7; decide), Int.le_refl _, (by show (0 : Int) ≤ 7; decide), h.lt0, ?_, h.rr, h.rb, h.gr, ?_, fun hb9 => ?_⟩
  · show bs.length = (List.set _ _ _).length
    rw [List.length_set, putWs_len, hb, h.ok.len]
  · show 4 ≤ (List.set _ _ _).length
    rw [List.length_set, putWs_len, h.n]; exact n4.1
  · show (List.set _ _ _).length ≤ 64
    rw [List.length_set, putWs_len, h.n]; exact n4.2.1
  · intro w hw
    rcases mem_set' (show w ∈ List.set s.ws _ _ from hw) with hw | hw
    · exact h.ok.each w hw
    · rw [hw, e0, h.n]
      show (mixB s.p (endB P left) (s.ws.getD ((P.num + 1) % (P.n : Int)).toNat [])).length = 8
      have hw8 : (s.ws.getD ((P.num + 1) % (P.n : Int)).toNat []).length = 8 := by
        rw [List.getD_eq_getElem?_getD, List.getElem?_eq_getElem (by rw [h.n]; exact hpl.1)]
        exact h.ok.each _ (List.getElem_mem _)
      unfold mixB
      have p0 := h.p0
      have p7 := h.p7
      have hm : (endB P left).length = 8 := rfl
      rw [List.length_append, List.length_take, List.length_drop, hw8, hm]
      omega
  · show (List.set _ _ _).length = P.n
    rw [List.length_set, putWs_len, h.n]
  · show s.ws.set _ (mixB s.p _ (s.ws.getD _ [])) = P.ws.set ((P.num + 1) % P.n).toNat (mixW P.p _ (P.ws.getD ((P.num + 1) % P.n).toNat []))
    rw [e0, h.n, h.ws, hp]
    rfl
  · show s.w + ((0 : Nat) : Int) = P.w
    rw [h.w]
    omega
  · exact hlt.symm
  · exact tear
  · show goneB P.n (P.ws.set ((P.num + 1) % P.n).toNat _) P.num = P.gone
    rw [goneB_tear (by omega) wl]
    exact h.gb
  · have hb9 : P.num ≤ 999999999999000 := hb9
    intro w hw
    rcases mem_set' (show w ∈ List.set P.ws _ _ from hw) with hw | hw
    · exact h.gw hb9 w hw
    · rw [hw]
      show GoodB (mixB P.p (endB P left) (P.ws.getD ((P.num + 1) % (P.n : Int)).toNat []))
      refine GoodB.mix (GoodB.end_ (by omega) (by omega) hl) (h.gw hb9 _ ?_) rfl h.q0 h.q7 fun hp0 => ?_
      · rw [List.getD_eq_getElem?_getD, List.getElem?_eq_getElem (by rw [wl]; exact hpl.1)]
        exact List.getElem_mem _
      · obtain ⟨gs, v, _, _⟩ := tear
        have q := (v.toLaid.tn _ (if_pos hp0)).2.2
        rw [getD_set (by rw [wl]; exact hpl.1), if_pos rfl] at q
        exact q
end
/-! ### a row put in, and rows -/
def pPutB (P : PS) (f : Int) (bl : List (List Int)) : PS :=
  { P with ws := putWs P.n P.ws P.num bl, lt := P.lt.map (· - (bl.length : Nat)), w := P.w + (bl.length : Nat), num := P.num + (bl.length : Nat), flo := if bl.length = 0 then P.flo else f, torn := if bl.length = 0 then P.torn else none,
           cut := if bl.length = 0 then P.cut else P.cut.filter fun x => decide (f < x) }
def pCutB (P : PS) (f : Int) (bl : List (List Int)) (b : List Int) : PS :=
  { pTear (pPutB P f bl) b with cut := (if bl.length = 0 then P.cut else (P.cut.filter fun x => decide (f < x)) ++ [P.num + 1]) }
theorem mPut_ps (m : MS) (bs : List Addr) (ca : Addr) (f : Int) (bl : List (List Int)) : (mPut m bs ca f bl).ps = pPutB m.ps f bl := rfl
theorem mCut_ps (m : MS) (bs : List Addr) (ca : Addr) (f : Int) (bl : List (List Int)) (b : List Int) : (mCut m bs ca f bl b).ps = pCutB m.ps f bl b := rfl
def rowP (P : PS) (row : List Int) : List (List Int) := rowB row (floorU P.rw P.num) (P.num + 1)
def stopsIn (lt : Option Int) (k : Nat) : Bool := match lt with
  | none => false
  | some t => decide (t < k)
def pPut (P : PS) (row : List Int) : PS × Bool :=
  if stopsIn P.lt (pcs row).length = true then (pCutB P (floorU P.rw P.num) ((rowP P row).take (P.lt.getD 0).toNat) ((rowP P row).getD (P.lt.getD 0).toNat []), false)
  else ({ pPutB P (floorU P.rw P.num) (rowP P row) with rw := P.rw ++ [(P.num + 1, row)] }, true)
def pAll (P : PS) : List (List Int) → PS × Bool
  | [] => (P, true)
  | row :: rows => if (pPut P row).2 = true then pAll (pPut P row).1 rows else ((pPut P row).1, false)
def pClear (P : PS) : PS × Bool := if P.rw = [] ∧ P.gone = false then (P, true) else pEnd P 0
def lensP (rows : List (List Int)) : Nat := (rows.map fun r => (pcs r).length).sum
inductive CA where
  | gone
  | full
  | stopped
  | done
def rowsP (P : PS) : List (List Int) := P.rw.map Prod.snd
def carryP (P1 P2 : PS) : PS × PS × CA :=
  if P1.gone = true then (P1, P2, .gone) else
  if (P2.n : Int) - 1 < lensP (rowsP P1) then (P1, P2, .full) else
  if (pClear P2).2 = false then (P1, (pClear P2).1, .stopped) else
  if (pAll (pClear P2).1 (rowsP P1)).2 = false then (P1, (pAll (pClear P2).1 (rowsP P1)).1, .stopped) else
  if (pEnd P1 1).2 = false then ((pEnd P1 1).1, (pAll (pClear P2).1 (rowsP P1)).1, .stopped) else
  ((pEnd P1 1).1, (pAll (pClear P2).1 (rowsP P1)).1, .done)
theorem pAll_app (P : PS) : ∀ (xs ys : List (List Int)), pAll P (xs ++ ys) = if (pAll P xs).2 = true then pAll (pAll P xs).1 ys else ((pAll P xs).1, false) := by
  intro xs
  induction xs generalizing P with
  | nil => intro ys; rw [List.nil_append, pAll, if_pos rfl]
  | cons x xs ih =>
    intro ys
    rw [List.cons_append, pAll, pAll]
    by_cases c : (pPut P x).2 = true
    · rw [if_pos c, if_pos c]
      exact ih _ _
    · rw [if_neg c, if_neg c, if_neg (by simp)]
theorem pPut_num {P : PS} {row : List Int} (h : (pPut P row).2 = true) : (pPut P row).1.num = P.num + ((pcs row).length : Nat) ∧ (pPut P row).1.rw = P.rw ++ [(P.num + 1, row)] ∧ (pPut P row).1.gone = P.gone ∧ (pPut P row).1.n = P.n := by
  unfold pPut at h ⊢
  split at h
  · cases h
  · rename_i c
    rw [if_neg c]
    refine ⟨?_, rfl, rfl, rfl⟩
    show P.num + ((rowP P row).length : Nat) = _
    unfold rowP
    rw [rowB_len]
theorem lens_snoc (rows : List (List Int)) (r : List Int) : lensP (rows ++ [r]) = lensP rows + (pcs r).length := by simp [lensP]
theorem floor_snoc {rw : List (Int × List Int)} {num k : Int} {row : List Int} : floorU (rw ++ [(num + 1, row)]) k = if rw = [] then num else floorU rw k := by
  cases rw with
  | nil => show num + 1 - 1 = _; rw [if_pos rfl]; omega
  | cons x xs => rw [if_neg (by simp)]; rfl
theorem pAll_inv {P : PS} (h0 : P.rw = []) : ∀ (rows : List (List Int)), (pAll P rows).2 = true → floorU (pAll P rows).1.rw (pAll P rows).1.num = P.num ∧ (pAll P rows).1.num = P.num + (lensP rows : Nat) ∧ rowsP (pAll P rows).1 = rows ∧ (pAll P rows).1.gone = P.gone ∧ (pAll P rows).1.n = P.n := by
  suffices key : ∀ (k : Nat) (rows : List (List Int)), rows.length = k → (pAll P rows).2 = true → floorU (pAll P rows).1.rw (pAll P rows).1.num = P.num ∧ (pAll P rows).1.num = P.num + (lensP rows : Nat) ∧ rowsP (pAll P rows).1 = rows ∧ (pAll P rows).1.gone = P.gone ∧ (pAll P rows).1.n = P.n from fun rows => key _ rows rfl
  intro k
  induction k with
  | zero =>
    intro rows hk _
    obtain rfl : rows = [] := List.eq_nil_of_length_eq_zero hk
    refine ⟨?_, ?_, ?_, rfl, rfl⟩
    · show floorU P.rw P.num = P.num
      rw [h0]
      rfl
    · show P.num = P.num + ((0 : Nat) : Int)
      omega
    · show P.rw.map Prod.snd = []
      rw [h0]
      rfl
  | succ k ih =>
    intro rows hk hok
    obtain ⟨ini, x, rfl⟩ := snoc_of (l := rows) (fun z => by rw [z] at hk; cases hk)
    rw [pAll_app] at hok ⊢
    by_cases c : (pAll P ini).2 = true
    · rw [if_pos c] at hok ⊢
      obtain ⟨i1, i2, i3, i4, i5⟩ := ih ini (by simpa using hk) c
      rw [pAll] at hok ⊢
      by_cases c2 : (pPut (pAll P ini).1 x).2 = true
      · rw [if_pos c2] at hok ⊢
        obtain ⟨e1, e2, e3, e4⟩ := pPut_num c2
        show floorU (pPut (pAll P ini).1 x).1.rw (pPut (pAll P ini).1 x).1.num = _ ∧ (pPut (pAll P ini).1 x).1.num = _ ∧ (pPut (pAll P ini).1 x).1.rw.map Prod.snd = _ ∧ (pPut (pAll P ini).1 x).1.gone = _ ∧ (pPut (pAll P ini).1 x).1.n = _
        rw [e1, e2, e3, e4, lens_snoc, floor_snoc]
        refine ⟨?_, by rw [i2]; push_cast; omega, ?_, i4, i5⟩
        · split
          · rename_i z
            have : floorU (pAll P ini).1.rw (pAll P ini).1.num = (pAll P ini).1.num := by rw [z]; rfl
            rw [← i1, this]
          · rename_i z
            rw [← i1]
            cases hz : (pAll P ini).1.rw with
            | nil => exact absurd hz z
            | cons y ys => rfl
        · rw [List.map_append]
          have i3 : (pAll P ini).1.rw.map Prod.snd = ini := i3
          rw [i3]
          rfl
      · rw [if_neg c2] at hok
        cases hok
    · rw [if_neg c] at hok
      cases hok
section
variable {s : DS} {P : PS} (h : XRel s P) {row : List Int} (hg : P.gone = false) (hk : ((pcs row).length : Int) ≤ P.n - 1 - (P.num - floorU P.rw P.num)) (h11 : row.length ≤ 11) (hwb : ∀ x ∈ row, 0 ≤ x ∧ x ≤ 999999999)
include h hg hk h11 hwb
theorem XRel.putOk (hlt : ∀ t, P.lt = some t → ((pcs row).length : Int) ≤ t) {bs : List Addr} (hb : bs.length = s.bs.length) : (pPut P row).2 = true ∧ XRel (dPut s bs P.num (rowP P row)) (pPut P row).1 := by
  have d := h.dm hg
  have e := P.ms_rw
  have q := d.putOk (row := row) (f := floorU P.rw P.num) (by rw [e]; rfl) hk h11 hwb hlt hb (bs' := P.ms.bs) (ca := 0) (ta := 0) (wr := 0) rfl
  have hns : ¬ stopsIn P.lt (pcs row).length = true := by
    unfold stopsIn
    split
    · simp
    · rename_i t ht
      have := hlt t ht
      simp
      omega
  unfold pPut
  rw [if_neg hns]
  refine ⟨rfl, ?_⟩
  have q2 := q.x
  have e2 : ({ mPut P.ms P.ms.bs 0 (floorU P.rw P.num) (rowB row (floorU P.rw P.num) (P.ms.num + 1)) with rows := P.ms.rows ++ [((0, 0), (P.ms.num + 1, row))] } : MS).ps = { pPutB P (floorU P.rw P.num) (rowP P row) with rw := P.rw ++ [(P.num + 1, row)] } := by
    show PS.mk _ _ _ _ ((P.ms.rows ++ [(((0, 0) : Addr × Addr), (P.ms.num + 1, row))]).map Prod.snd) _ _ _ _ _ _ = _
    rw [List.map_append]
    have e3 : P.ms.rows.map Prod.snd = P.rw := e
    rw [e3]
    rfl
  rw [e2] at q2
  exact q2
theorem XRel.putCut {t : Nat} {b : List Int} (hlt : P.lt = some (t : Int)) (hb0 : (rowP P row)[t]? = some b) {bs : List Addr} (hb : bs.length = s.bs.length) : (pPut P row).2 = false ∧ XRel (dCut s bs P.num ((rowP P row).take t) b) (pPut P row).1 := by
  have d := h.dm hg
  have e := P.ms_rw
  have q := d.putCut (row := row) (f := floorU P.rw P.num) (by rw [e]; rfl) hk h11 hwb hlt hb0 hb (bs' := P.ms.bs) (ca := 0) rfl
  have htl : t < (pcs row).length := by
    have := (List.getElem?_eq_some_iff.mp hb0).1
    unfold rowP at this
    rwa [rowB_len] at this
  have hns : stopsIn P.lt (pcs row).length = true := by
    rw [hlt]
    exact decide_eq_true (by omega)
  unfold pPut
  rw [if_pos hns]
  refine ⟨rfl, ?_⟩
  have q2 := q.x
  rw [mCut_ps, P.ms_ps] at q2
  rw [hlt]
  show XRel _ (pCutB P (floorU P.rw P.num) ((rowP P row).take (t : Int).toNat) ((rowP P row).getD (t : Int).toNat []))
  rw [Int.toNat_natCast, List.getD_eq_getElem?_getD, hb0]
  exact q2
end
def carryQ (P1 P2 : PS) : PS × PS × CA :=
  if (P2.n : Int) - 1 < lensP (rowsP P1) then (P1, P2, .full) else
  if (pClear P2).2 = false then (P1, (pClear P2).1, .stopped) else
  if (pAll (pClear P2).1 (rowsP P1)).2 = false then (P1, (pAll (pClear P2).1 (rowsP P1)).1, .stopped) else
  if (pEnd P1 1).2 = false then ((pEnd P1 1).1, (pAll (pClear P2).1 (rowsP P1)).1, .stopped) else
  ((pEnd P1 1).1, (pAll (pClear P2).1 (rowsP P1)).1, .done)
theorem carryP_q {P1 P2 : PS} (h : P1.gone = false) : carryP P1 P2 = carryQ P1 P2 := if_neg (by rw [h]; exact Bool.false_ne_true)
theorem carryQ_full {P1 P2 : PS} (h : (P2.n : Int) - 1 < lensP (rowsP P1)) : carryQ P1 P2 = (P1, P2, .full) := if_pos h
theorem carryQ_clear {P1 P2 : PS} (h : ¬ (P2.n : Int) - 1 < lensP (rowsP P1)) (h2 : (pClear P2).2 = false) : carryQ P1 P2 = (P1, (pClear P2).1, .stopped) := by
  unfold carryQ
  rw [if_neg h, if_pos h2]
theorem carryQ_put {P1 P2 : PS} (h : ¬ (P2.n : Int) - 1 < lensP (rowsP P1)) (h2 : (pClear P2).2 = true) (h3 : (pAll (pClear P2).1 (rowsP P1)).2 = false) : carryQ P1 P2 = (P1, (pAll (pClear P2).1 (rowsP P1)).1, .stopped) := by
  unfold carryQ
  rw [if_neg h, if_neg (by rw [h2]; decide), if_pos h3]
theorem carryQ_end {P1 P2 : PS} (h : ¬ (P2.n : Int) - 1 < lensP (rowsP P1)) (h2 : (pClear P2).2 = true) (h3 : (pAll (pClear P2).1 (rowsP P1)).2 = true) (h4 : (pEnd P1 1).2 = false) : carryQ P1 P2 = ((pEnd P1 1).1, (pAll (pClear P2).1 (rowsP P1)).1, .stopped) := by
  unfold carryQ
  rw [if_neg h, if_neg (by rw [h2]; decide), if_neg (by rw [h3]; decide), if_pos h4]
theorem carryQ_done {P1 P2 : PS} (h : ¬ (P2.n : Int) - 1 < lensP (rowsP P1)) (h2 : (pClear P2).2 = true) (h3 : (pAll (pClear P2).1 (rowsP P1)).2 = true) (h4 : (pEnd P1 1).2 = true) : carryQ P1 P2 = ((pEnd P1 1).1, (pAll (pClear P2).1 (rowsP P1)).1, .done) := by
  unfold carryQ
  rw [if_neg h, if_neg (by rw [h2]; decide), if_neg (by rw [h3]; decide), if_neg (by rw [h4]; decide)]

def sp_Log_leave (K : PySem.W.Frag) (Z : Ad) : Sp := fun vs H Q E => ∃ (lg : Addr) (l : LS) (s : DS), vs = [.ref lg] ∧ Holds H (logL Z lg l ++ diskL Z l.d s) ∧ s.Ok ∧ 0 ≤ s.p ∧ s.p ≤ 7 ∧ l.cut.length ≤ 1000 ∧ 0 ≤ l.num ∧ l.num ≤ 999999999999000 ∧ l.gone = false ∧
  (s.lt = some 0 → ∀ (bs : List Addr) (H' : Hp), bs.length = s.bs.length → Frm (logL Z lg l ++ diskL Z l.d s) (diskL Z l.d (dCut s bs l.num [] (byeB (l.num + 1) l.num))) H H' → E (.ref Z.Stopped) none H') ∧
  (s.lt ≠ some 0 → ∀ (bs : List Addr) (ca ra : Addr) (H' : Hp), bs.length = s.bs.length →
    Frm (logL Z lg l ++ diskL Z l.d s) (logL Z lg { l with num := l.num + 1, torn := none, ca := ca, cut := l.cut.filter (fun c => decide (l.num < c)), gone := true, ra := ra, rows := [] } ++ diskL Z l.d (dPut s bs l.num [byeB (l.num + 1) l.num])) H H' → Q .non H')
theorem sc_Log_leave : FnScope ["self"] ["self"] (defScope st_Log_leave) := ⟨rfl, rfl, rfl, by decide +kernel, rfl, by decide +kernel, by decide +kernel⟩
/-! ### a log's deeds over what there is without places -/
theorem up_logX {K : PySem.W.Frag} {Z : Ad} {x dx d : Addr} {s : DS} {P : PS} {H : Hp} {Q : VK} {E : XK} (hH : Holds H ((x, .ins Z.Log dx []) :: (dx, .own x) :: diskL Z d s)) (xr : XRel s P) (hbig : P.num ≤ 999999999000000)
    (k : ∀ (l : LS) (r' : Int) (H' : Hp), l.d = d → LRelP l P → XRel { s with r := r' } P → Frm ((x, .ins Z.Log dx []) :: (dx, .own x) :: diskL Z d s) (logL Z x l ++ diskL Z d { s with r := r' }) H H' → Q .non H') : sp_Log___init__ K Z [.ref x, .ref d] H Q E := by
  obtain ⟨gs, vw, hgr, hgc⟩ := xr.inv
  have vw2 : View s.ws.length s.ws P.num P.flo P.torn gs := by rw [xr.n, xr.ws]; exact vw
  have hgo : goneB s.ws.length s.ws P.num = P.gone := by rw [xr.n, xr.ws]; exact xr.gb
  refine ⟨x, dx, d, s, P.num, P.flo, P.torn, gs, rfl, hH, xr.ok, vw2, by omega, fun ca ra xs r' H7 hxs _ _ f => ?_⟩
  rw [hgo] at hxs f
  refine k ⟨dx, d, P.num, P.torn, ca, cutIn gs, P.gone, ra, xs⟩ r' H7 rfl ⟨rfl, rfl, hgc, rfl, ?_⟩ (xr.reads (r := r')) f
  show xs.map Prod.snd = _
  rw [hxs]
  split
  · rename_i c
    exact (xr.gr c).symm
  · exact hgr
theorem endB_mark (P : PS) : endB P 0 = markB (P.num + 1) P.num := rfl
section
variable {K : PySem.W.Frag} {Z : Ad} {lg : Addr} {l : LS} {s : DS} {P : PS} {H : Hp} {Q : VK} {E : XK}
theorem pEnd_stop {left : Int} (h : P.lt = some 0) : pEnd P left = (pTear P (endB P left), false) := if_pos h
theorem pEnd_ok {left : Int} (h : P.lt ≠ some 0) : pEnd P left = ({ pWrite P (endB P left) with rw := [], gone := decide (left = 1) }, true) := if_neg h
theorem dPut_wl {s : DS} {bs : List Addr} {num : Int} {bl : List (List Int)} : (dPut s bs num bl).ws.length = s.ws.length := putWs_len _ _ _ _
theorem dCut_wl {s : DS} {bs : List Addr} {num : Int} {bl : List (List Int)} {b : List Int} : (dCut s bs num bl b).ws.length = s.ws.length := by
  show (List.set _ _ _).length = _
  rw [List.length_set, putWs_len]
theorem clear_X {d : Addr} (hd : l.d = d) (hH : Holds H (logL Z lg l ++ diskL Z d s)) (xr : XRel s P) (lr : LRelP l P) (hbig : P.num ≤ 999999999000000)
    (kE : ∀ (s' : DS) (H' : Hp), (pClear P).2 = false → XRel s' (pClear P).1 → s'.ws.length = s.ws.length → Frm (logL Z lg l ++ diskL Z d s) (diskL Z d s') H H' → E (.ref Z.Stopped) none H')
    (kQ : ∀ (l' : LS) (s' : DS) (H' : Hp), (pClear P).2 = true → XRel s' (pClear P).1 → LRelP l' (pClear P).1 → l'.d = d → s'.ws.length = s.ws.length → Frm (logL Z lg l ++ diskL Z d s) (logL Z lg l' ++ diskL Z d s') H H' → Q .non H') : sp_Log_take_all K Z [.ref lg] H Q E := by
  subst hd
  have hc := xr.cnt lr
  have g := xr.numGe
  have n4 := xr.n4
  have hn := lr.num
  have hrw : l.rows = [] ↔ P.rw = [] := by
    rw [← lr.rows]
    unfold LS.rw
    exact List.map_eq_nil_iff.symm
  refine ⟨lg, l, s, rfl, hH, xr.ok, xr.p0, xr.p7, hc.1, by omega, by omega, fun hg hr => ?_, fun hgr => ?_⟩
  · have e : pClear P = (P, true) := if_pos ⟨hrw.mp hr, lr.gone.symm.trans hg⟩
    rw [e] at kQ
    exact kQ l s H rfl xr lr rfl rfl (Frm.refl hH)
  · have e : pClear P = pEnd P 0 := by
      refine if_neg fun z => ?_
      rcases hgr with hgr | hgr
      · rw [lr.gone, z.2] at hgr
        cases hgr
      · exact hgr (hrw.mpr z.1)
    rw [e] at kE kQ
    rw [lr.num, ← endB_mark]
    refine ⟨fun hlt bs H' hb f => ?_, fun hlt bs ca ra H' hb f => ?_⟩
    · have hlt := xr.lt.symm.trans hlt
      rw [pEnd_stop hlt] at kE
      exact kE _ H' rfl (xr.endCut (.inl rfl) hlt hb) dCut_wl f
    · have hlt : P.lt ≠ some 0 := fun z => hlt (xr.lt.trans z)
      rw [pEnd_ok hlt] at kQ
      refine kQ _ _ H' rfl (xr.endOk (.inl rfl) hlt hb) ⟨rfl, rfl, ?_, rfl, rfl⟩ (by rfl) dPut_wl f
      show l.cut.filter _ = P.cut.filter _
      rw [lr.cut]
      rfl
theorem leave_X {d : Addr} (hd : l.d = d) (hH : Holds H (logL Z lg l ++ diskL Z d s)) (xr : XRel s P) (lr : LRelP l P) (hg : P.gone = false) (hbig : P.num ≤ 999999999000000)
    (kE : ∀ (s' : DS) (H' : Hp), (pEnd P 1).2 = false → XRel s' (pEnd P 1).1 → s'.ws.length = s.ws.length → Frm (logL Z lg l ++ diskL Z d s) (diskL Z d s') H H' → E (.ref Z.Stopped) none H')
    (kQ : ∀ (l' : LS) (s' : DS) (H' : Hp), (pEnd P 1).2 = true → XRel s' (pEnd P 1).1 → LRelP l' (pEnd P 1).1 → l'.d = d → s'.ws.length = s.ws.length → Frm (logL Z lg l ++ diskL Z d s) (logL Z lg l' ++ diskL Z d s') H H' → Q .non H') : sp_Log_leave K Z [.ref lg] H Q E := by
  subst hd
  have hc := xr.cnt lr
  have g := xr.numGe
  have n4 := xr.n4
  have hn := lr.num
  refine ⟨lg, l, s, rfl, hH, xr.ok, xr.p0, xr.p7, hc.1, by omega, by omega, lr.gone.trans hg, fun hlt bs H' hb f => ?_, fun hlt bs ca ra H' hb f => ?_⟩
  · have hlt := xr.lt.symm.trans hlt
    rw [pEnd_stop hlt] at kE
    rw [lr.num] at f
    exact kE _ H' rfl (xr.endCut (.inr rfl) hlt hb) dCut_wl f
  · have hlt : P.lt ≠ some 0 := fun z => hlt (xr.lt.trans z)
    rw [pEnd_ok hlt] at kQ
    rw [lr.num] at f
    refine kQ _ _ H' rfl (xr.endOk (.inr rfl) hlt hb) ⟨rfl, rfl, ?_, rfl, rfl⟩ (by rfl) dPut_wl f
    show l.cut.filter _ = P.cut.filter _
    rw [lr.cut]
    rfl
theorem pPut_lrel {row : List Int} (lr : LRelP l P) (h : (pPut P row).2 = true) {ca ta wa : Addr} : LRelP { l with num := P.num + ((pcs row).length : Nat), torn := none, ca := ca, cut := l.cut.filter (fun b => decide (floorU P.rw P.num < b)), rows := l.rows ++ [((ta, wa), (P.num + 1, row))] } (pPut P row).1 := by
  have hl : (rowP P row).length = (pcs row).length := by unfold rowP; rw [rowB_len]
  have hp : ¬ (rowP P row).length = 0 := by rw [hl, pcs_len]; omega
  unfold pPut at h ⊢
  split at h
  · cases h
  · rename_i c
    rw [if_neg c]
    refine ⟨?_, ?_, ?_, lr.gone, ?_⟩
    · show P.num + _ = P.num + ((rowP P row).length : Nat)
      rw [hl]
    · show none = if (rowP P row).length = 0 then P.torn else none
      rw [if_neg hp]
    · show l.cut.filter _ = if (rowP P row).length = 0 then P.cut else P.cut.filter _
      rw [if_neg hp, lr.cut]
    · show (l.rows ++ _).map Prod.snd = P.rw ++ _
      rw [List.map_append]
      have e : l.rows.map Prod.snd = P.rw := lr.rows
      rw [e]
      rfl
theorem put_X {wr : Addr} {row : List Int} {d : Addr} (hd : l.d = d) (hH : Holds H ((wr, .lst (row.map V.int)) :: (logL Z lg l ++ diskL Z d s))) (h11 : row.length ≤ 11) (hwb : ∀ x ∈ row, 0 ≤ x ∧ x ≤ 999999999) (xr : XRel s P) (lr : LRelP l P) (hg : P.gone = false) (hbig : P.num ≤ 999999999000000) (c : ((pcs row).length : Int) ≤ P.n - 1 - (P.num - floorU P.rw P.num))
    (kE : ∀ (s' : DS) (H' : Hp), (pPut P row).2 = false → XRel s' (pPut P row).1 → s'.ws.length = s.ws.length → Frm (logL Z lg l ++ diskL Z d s) (diskL Z d s') H H' → E (.ref Z.Stopped) none H')
    (kQ : ∀ (l' : LS) (s' : DS) (H' : Hp), (pPut P row).2 = true → XRel s' (pPut P row).1 → LRelP l' (pPut P row).1 → l'.d = d → s'.ws.length = s.ws.length → Frm (logL Z lg l ++ diskL Z d s) (logL Z lg l' ++ diskL Z d s') H H' → Q (.int (P.num + 1)) H') : sp_Log_put K Z [.ref lg, .ref wr] H Q E := by
  subst hd
  have hc := xr.cnt lr
  have g := xr.numGe
  have n4 := xr.n4
  have hn := lr.num
  have fl := xr.fl
  have hs0 : ∀ t, s.lt = some t → 0 ≤ t := fun t ht => xr.lt0 t (xr.lt.symm.trans ht)
  have hrl : rowB row (floorU P.rw P.num) (P.num + 1) = rowP P row := rfl
  rw [show (P.num : Int) = l.num from hn.symm] at kQ
  first
  | refine ⟨lg, wr, l, s, row, rfl, hH, xr.ok, xr.p0, xr.p7, hs0, h11, hwb, hc.1, hc.2, by omega, by omega, by rw [lr.rows, lr.num]; exact fl.1, by rw [lr.rows, lr.num]; exact fl.2, fun h => ?_, fun _ c2 => ?_, fun _ _ => ⟨fun t b bs2 H4 ht hb hbs2 f2 => ?_, fun ht bs2 ca2 ta2 wa2 H4 hbs2 f2 => ?_⟩⟩
  | refine .inr ⟨lg, wr, l, s, row, rfl, hH, xr.ok, xr.p0, xr.p7, hs0, h11, hwb, hc.1, hc.2, by omega, by omega, by rw [lr.rows, lr.num]; exact fl.1, by rw [lr.rows, lr.num]; exact fl.2, fun h => ?_, fun _ c2 => ?_, fun _ _ => ⟨fun t b bs2 H4 ht hb hbs2 f2 => ?_, fun ht bs2 ca2 ta2 wa2 H4 hbs2 f2 => ?_⟩⟩
  · rw [lr.gone, hg] at h
    cases h
  · rw [xr.n, lr.rows, lr.num] at c2
    omega
  · rw [lr.rows, lr.num, hrl] at hb f2
    have q := xr.putCut hg c h11 hwb (xr.lt.symm.trans ht) hb hbs2
    exact kE _ H4 q.1 q.2 dCut_wl f2
  · rw [lr.rows, lr.num, hrl] at f2
    have q := xr.putOk hg c h11 hwb (fun t h => ht t (xr.lt.trans h)) hbs2
    exact kQ _ _ H4 q.1 q.2 (pPut_lrel lr q.1) (by rfl) dPut_wl f2
end
theorem perm_c1 {α : Type} (A B C : List α) : (C ++ (A ++ B)).Perm ((A ++ B) ++ C) := List.perm_append_comm
theorem perm_c2 {α : Type} (x y : α) (R D A : List α) : (x :: y :: (D ++ (R ++ A))).Perm (x :: y :: (R ++ (D ++ A))) := by
  classical
  exact List.perm_iff_count.mpr fun a => by
    simp only [List.count_append, List.count_cons]
    omega
theorem perm_c3 {α : Type} (x : α) (R L D1 D2 : List α) : (x :: (R ++ (D2 ++ (L ++ D1)))).Perm ((x :: R) ++ ((L ++ D1) ++ D2)) := by
  classical
  exact List.perm_iff_count.mpr fun a => by
    simp only [List.count_append, List.count_cons]
    omega
section
variable {L A B R L1 L2 D1 D2 I : List (Addr × HO)} {x : Addr × HO} {H H' : Hp}
theorem Frm.s1 (h : Hs (L.map Prod.fst) H H' (x :: (R ++ (D2 ++ (L1 ++ D1)))) I) : Frm L (D1 ++ D2) H H' := Frm.of (h.perm (M' := (D1 ++ D2) ++ (x :: (R ++ L1))) (by
  classical
  exact List.perm_iff_count.mpr fun a => by
    simp only [List.count_append, List.count_cons]
    omega)) (List.sublist_append_left _ _)
theorem Frm.s2 (h : Hs (L.map Prod.fst) H H' (D2 ++ (x :: (R ++ (L1 ++ D1)))) I) : Frm L (D1 ++ D2) H H' := Frm.of (h.perm (M' := (D1 ++ D2) ++ (x :: (R ++ L1))) (by
  classical
  exact List.perm_iff_count.mpr fun a => by
    simp only [List.count_append, List.count_cons]
    omega)) (List.sublist_append_left _ _)
theorem Frm.s3 (h : Hs (L.map Prod.fst) H H' ((L2 ++ D2) ++ (x :: (R ++ (L1 ++ D1)))) I) : Frm L (D1 ++ D2) H H' := Frm.of (h.perm (M' := (D1 ++ D2) ++ (x :: (R ++ (L1 ++ L2)))) (by
  classical
  exact List.perm_iff_count.mpr fun a => by
    simp only [List.count_append, List.count_cons]
    omega)) (List.sublist_append_left _ _)
theorem Frm.s4 (h : Hs (L.map Prod.fst) H H' ((L2 ++ D2) ++ (x :: (R ++ D1))) I) : Frm L (D1 ++ D2) H H' := Frm.of (h.perm (M' := (D1 ++ D2) ++ (x :: (R ++ L2))) (by
  classical
  exact List.perm_iff_count.mpr fun a => by
    simp only [List.count_append, List.count_cons]
    omega)) (List.sublist_append_left _ _)
end
theorem perm_c4 {α : Type} (x y z : α) (R L D1 D2 : List α) : (x :: y :: (D2 ++ (z :: (R ++ (L ++ D1))))).Perm (x :: y :: z :: (R ++ (D2 ++ (L ++ D1)))) := by
  classical
  exact List.perm_iff_count.mpr fun a => by
    simp only [List.count_append, List.count_cons]
    omega
theorem lens_take {rows : List (List Int)} {i : Nat} (hi : i < rows.length) : lensP (rows.take i) + (pcs rows[i]).length ≤ lensP rows := by
  have e : rows = rows.take (i + 1) ++ rows.drop (i + 1) := (List.take_append_drop _ _).symm
  have e2 : rows.take (i + 1) = rows.take i ++ [rows[i]] := take_snoc (List.getElem?_eq_getElem hi)
  have e3 : lensP rows = lensP (rows.take i ++ [rows[i]]) + lensP (rows.drop (i + 1)) := by
    conv => lhs; rw [e, e2]
    unfold lensP
    rw [List.map_append, List.sum_append]
  rw [e3, lens_snoc]
  omega
theorem pAll_stop {P : PS} {rows : List (List Int)} {i : Nat} (hi : i < rows.length) (h : (pAll P (rows.take i)).2 = true) (h2 : (pPut (pAll P (rows.take i)).1 rows[i]).2 = false) : pAll P rows = ((pPut (pAll P (rows.take i)).1 rows[i]).1, false) := by
  have e : rows = rows.take i ++ (rows[i] :: rows.drop (i + 1)) := by
    have e1 : rows.drop i = rows[i] :: rows.drop (i + 1) := List.drop_eq_getElem_cons hi
    rw [← e1, List.take_append_drop]
  conv => lhs; rw [e]
  rw [pAll_app, if_pos h, pAll, if_neg (by rw [h2]; decide)]
theorem pAll_next {P : PS} {rows : List (List Int)} {i : Nat} (hi : i < rows.length) (h : (pAll P (rows.take i)).2 = true) (h2 : (pPut (pAll P (rows.take i)).1 rows[i]).2 = true) : pAll P (rows.take (i + 1)) = ((pPut (pAll P (rows.take i)).1 rows[i]).1, true) := by
  rw [take_snoc (List.getElem?_eq_getElem hi), pAll_app, if_pos h, pAll, if_pos h2, pAll]
theorem pClear_fact {P : PS} (h : (pClear P).2 = true) : (pClear P).1.rw = [] ∧ (pClear P).1.gone = false ∧ (pClear P).1.n = P.n ∧ P.num ≤ (pClear P).1.num ∧ (pClear P).1.num ≤ P.num + 1 := by
  unfold pClear at h ⊢
  split
  · rename_i c
    exact ⟨c.1, c.2, rfl, Int.le_refl _, by show P.num ≤ P.num + 1; omega⟩
  · rename_i c
    rw [if_neg c] at h
    unfold pEnd at h ⊢
    split
    · rename_i c2
      rw [if_pos c2] at h
      cases h
    · refine ⟨rfl, rfl, rfl, ?_, Int.le_refl _⟩
      show P.num ≤ P.num + 1
      omega

def sp_carry (K : PySem.W.Frag) (Z : Ad) : Sp := fun vs H Q E => ∃ (d1 d2 : Addr) (s1 s2 : DS) (P1 P2 : PS), vs = [.ref d1, .ref d2] ∧ Holds H (diskL Z d1 s1 ++ diskL Z d2 s2) ∧ XRel s1 P1 ∧ XRel s2 P2 ∧ P1.num ≤ 999999999000000 - 100 ∧ P2.num ≤ 999999999000000 - 100 ∧
  ∀ (s1' s2' : DS) (H' : Hp), XRel s1' (carryP P1 P2).1 → XRel s2' (carryP P1 P2).2.1 → s1'.ws.length = s1.ws.length → s2'.ws.length = s2.ws.length → Frm (diskL Z d1 s1 ++ diskL Z d2 s2) (diskL Z d1 s1' ++ diskL Z d2 s2') H H' →
    ((carryP P1 P2).2.2 = .gone → E (.ref Z.Gone) none H') ∧ ((carryP P1 P2).2.2 = .full → E (.ref Z.Full) none H') ∧ ((carryP P1 P2).2.2 = .stopped → E (.ref Z.Stopped) none H') ∧ ((carryP P1 P2).2.2 = .done → Q .non H')
theorem sc_carry : FnScope ["old", "new", "source", "rows", "target", "row"] ["old", "new"] (defScope st_carry) := ⟨rfl, rfl, rfl, by decide +kernel, rfl, by decide +kernel, by decide +kernel⟩
def sp_Disk___init__ (K : PySem.W.Frag) (Z : Ad) : Sp := fun vs H Q E => ∃ (x dx : Addr) (v : V), vs = [.ref x, v] ∧ Holds H [(x, .ins Z.Disk dx []), (dx, .own x)] ∧ FlatV v ∧
  (wholeB v 4 64 = false → ∀ H', Upto [] H H' → E (.ref Z.BadDisk) none H') ∧
  (∀ n : Int, v = .int n → 4 ≤ n → n ≤ 64 → ∀ (bl : Addr) (bs : List Addr) (H' : Hp), bs.length = n.toNat →
    Frm [(x, .ins Z.Disk dx []), (dx, .own x)] (diskL Z x ⟨dx, bl, bs, List.replicate n.toNat (List.replicate 8 0), 0, 0, none, 0⟩) H H' → Q .non H')
theorem sc_Disk___init__ : FnScope ["self", "many", "_"] ["self", "many"] (defScope st_Disk___init__) := ⟨rfl, rfl, rfl, by decide +kernel, rfl, by decide +kernel, by decide +kernel⟩
def sp_Disk_writes (K : PySem.W.Frag) (Z : Ad) : Sp := fun vs H Q _ => ∃ (d : Addr) (s : DS), vs = [.ref d] ∧ Holds H (diskL Z d s) ∧ Q (.int s.w) H
theorem sc_Disk_writes : FnScope ["self"] ["self"] (defScope st_Disk_writes) := ⟨rfl, rfl, rfl, by decide +kernel, rfl, by decide +kernel, by decide +kernel⟩
def sp_Disk_stop_after (K : PySem.W.Frag) (Z : Ad) : Sp := fun vs H Q E => ∃ (d : Addr) (s : DS) (u v : V), vs = [.ref d, u, v] ∧ Holds H (diskL Z d s) ∧ FlatV u ∧ FlatV v ∧
  ((wholeB u 0 1000000000000000 && wholeB v 0 7) = false → E (.ref Z.BadStop) none H) ∧
  (∀ i j : Int, u = .int i → v = .int j → (wholeB u 0 1000000000000000 && wholeB v 0 7) = true → ∀ H', Frm (diskL Z d s) (diskL Z d { s with lt := some i, p := j }) H H' → Q .non H')
theorem sc_Disk_stop_after : FnScope ["self", "count", "part"] ["self", "count", "part"] (defScope st_Disk_stop_after) := ⟨rfl, rfl, rfl, by decide +kernel, rfl, by decide +kernel, by decide +kernel⟩
/-! ### texts of numbers -/
def numOf (t : Str) : Option Nat := if TL.numL (NumText.digitsVal (TL.tl t)) = TL.tl t then some (NumText.digitsVal (TL.tl t)) else none
theorem numOf_iff {t : Str} {n : Nat} : numOf t = some n ↔ TL.tl t = TL.numL n := by
  unfold numOf
  constructor
  · intro h
    split at h
    · rename_i e
      cases h
      exact e.symm
    · cases h
  · intro h
    rw [h, TL.numL_val, if_pos rfl]
theorem tl_txtI (n : Nat) : TL.tl (txtI n) = TL.numL n := TL.tl_num n
/-- the number from 0 to most that a text writes -/
def numT (most : Int) (t : Str) : Option Int :=
  match numOf t with
  | some n => if (n : Int) ≤ most then some n else none
  | none => none
theorem numT_some {most i : Int} {t : Str} (h : numT most t = some i) : t = txtI i ∧ 0 ≤ i ∧ i ≤ most := by
  unfold numT at h
  cases e : numOf t with
  | none => rw [e] at h; cases h
  | some n =>
    rw [e] at h
    dsimp only at h
    split at h
    · cases h
      exact ⟨TL.ext_tl ((numOf_iff.mp e).trans (tl_txtI n).symm), by omega, by assumption⟩
    · cases h
theorem numT_of {most : Int} {n : Nat} {t : Str} (h : t = txtI n) (hm : (n : Int) ≤ most) : numT most t = some n := by
  have e : numOf t = some n := numOf_iff.mpr (by rw [h]; exact tl_txtI n)
  unfold numT
  rw [e]
  exact if_pos hm
theorem ascii_digit : ∀ c : Nat, c < 128 → Unicode.isDigit c = true → 48 ≤ c ∧ c ≤ 57 := by decide +kernel
theorem digits_of {t : Str} (ha : Txt.isascii t = true) (hd : Txt.isdigit t = true) : NumText.AllDigits (TL.tl t) ∧ TL.tl t ≠ [] := by
  unfold Txt.isascii at ha
  unfold Txt.isdigit at hd
  rw [Bool.and_eq_true] at hd
  have h1 := hd.1
  simp only [decide_eq_true_eq] at h1
  have ha := Array.all_eq_true'.mp ha
  have hd := Array.all_eq_true'.mp hd.2
  refine ⟨fun c hc => ?_, fun z => ?_⟩
  · have hc : c ∈ t.cps := Array.mem_toList_iff.mp hc
    have z := ha c hc
    simp only [decide_eq_true_eq] at z
    exact ascii_digit c z (hd c hc)
  · rw [TL.len_tl, z] at h1
    exact absurd h1 (by simp)
theorem num_flags {n : Nat} : Txt.isascii (txtI n) = true ∧ Txt.isdigit (txtI n) = true := by
  have hd := TL.numL_digits n
  have dg : ∀ c : Nat, c < 58 → 48 ≤ c → Unicode.isDigit c = true := by decide +kernel
  have key : ∀ c ∈ (txtI n).cps, 48 ≤ c ∧ c ≤ 57 := fun c hc => by
    have : c ∈ TL.tl (txtI n) := Array.mem_toList_iff.mpr hc
    rw [tl_txtI] at this
    exact hd c this
  refine ⟨Array.all_eq_true'.mpr fun c hc => ?_, ?_⟩
  · have := key c hc
    simp only [decide_eq_true_eq]
    omega
  · unfold Txt.isdigit
    rw [Bool.and_eq_true]
    refine ⟨?_, Array.all_eq_true'.mpr fun c hc => ?_⟩
    · rw [TL.len_tl, tl_txtI]
      have := TL.numL_ne n
      simp only [decide_eq_true_eq]
      exact List.length_pos_iff.mpr this
    · have := key c hc
      exact dg c (by omega) (by omega)
theorem int_digits {t : Str} (ha : Txt.isascii t = true) (hd : Txt.isdigit t = true) (hl : t.length ≤ 4300) : intText? t = some ((NumText.digitsVal (TL.tl t) : Nat) : Int) := by
  obtain ⟨h1, h2⟩ := digits_of ha hd
  exact intText_digits h1 h2 hl
theorem numL_mono {m n : Nat} (h : m ≤ n) : (TL.numL m).length ≤ (TL.numL n).length := by
  induction n using Nat.strongRecOn generalizing m with
  | _ n ih =>
    by_cases h1 : m < 10
    · rw [TL.numL_lt h1]
      have := List.length_pos_iff.mpr (TL.numL_ne n)
      simp only [List.length_singleton]
      omega
    · rw [TL.numL_step (n := m) (by omega), TL.numL_step (n := n) (by omega), List.length_append, List.length_append, List.length_singleton, List.length_singleton]
      have := ih (n / 10) (by omega) (show m / 10 ≤ n / 10 by omega)
      omega
theorem txtI_mono {m n : Int} (h0 : 0 ≤ m) (h : m ≤ n) : (txtI m).length ≤ (txtI n).length := by
  obtain ⟨a, rfl⟩ := Int.eq_ofNat_of_zero_le h0
  obtain ⟨b, rfl⟩ := Int.eq_ofNat_of_zero_le (Int.le_trans h0 h)
  rw [TL.len_tl, TL.len_tl]
  have e1 := tl_txtI a
  have e2 := tl_txtI b
  rw [e1, e2]
  exact numL_mono (by omega)
/-- a row as it is written: numbers, commas between -/
def rowT (t : Str) : Option (List Int) :=
  if ((Txt.split t ",").all fun w => (numT 999999999 w).isSome) = true ∧ (Txt.split t ",").length ≤ 11 then some ((Txt.split t ",").filterMap (numT 999999999)) else none
theorem spl_sizes (S : List Nat) : ∀ (l : List Nat) (k : Nat) (acc : List Nat), (TL.spl S k acc l).length ≤ l.length + 1 ∧ ∀ p ∈ TL.spl S k acc l, p.length ≤ acc.length + l.length
  | [], k, acc => by
    rw [TL.spl_nil]
    exact ⟨by simp, fun p hp => by rw [List.mem_singleton.mp hp]; simp⟩
  | c :: r, k, acc => by
    cases k with
    | succ k =>
      rw [TL.spl_pass, List.drop_succ_cons, ← TL.spl_pass]
      have := spl_sizes S r k acc
      refine ⟨by rw [List.length_cons]; omega, fun p hp => ?_⟩
      have := this.2 p hp
      rw [List.length_cons]
      omega
    | zero =>
      cases h : TL.pre S (c :: r) with
      | true =>
        rw [TL.spl_hit h]
        have := spl_sizes S r (S.length - 1) []
        refine ⟨by rw [List.length_cons, List.length_cons]; omega, fun p hp => ?_⟩
        rcases List.mem_cons.mp hp with rfl | hp
        · omega
        · have := this.2 p hp
          rw [List.length_cons]
          simp only [List.length_nil] at this
          omega
      | false =>
        rw [TL.spl_miss h]
        have := spl_sizes S r 0 (acc ++ [c])
        refine ⟨by rw [List.length_cons]; omega, fun p hp => ?_⟩
        have := this.2 p hp
        rw [List.length_append, List.length_singleton] at this
        rw [List.length_cons]
        omega
theorem split_sizes {t y : Str} (hy : TL.tl y ≠ []) (hk : y.cps.all (· < 256) = true) : (Txt.split t y).length ≤ t.length + 1 ∧ ∀ p ∈ Txt.split t y, p.length ≤ t.length := by
  have e := TL.split_spl t y hy (TL.kind_ok hk)
  have z := spl_sizes (TL.tl y) (TL.tl t) 0 []
  rw [← e] at z
  refine ⟨by rw [TL.len_tl t]; simpa using z.1, fun p hp => ?_⟩
  have := z.2 (TL.tl p) (List.mem_map_of_mem hp)
  rw [TL.len_tl, TL.len_tl t]
  simpa using this
theorem spl_ne (S : List Nat) : ∀ (l : List Nat) (k : Nat) (acc : List Nat), TL.spl S k acc l ≠ []
  | [], k, acc => by rw [TL.spl_nil]; simp
  | c :: r, k, acc => by
    cases k with
    | succ k =>
      rw [TL.spl_pass, List.drop_succ_cons, ← TL.spl_pass]
      exact spl_ne S r k acc
    | zero =>
      cases h : TL.pre S (c :: r) with
      | true => rw [TL.spl_hit h]; simp
      | false => rw [TL.spl_miss h]; exact spl_ne S r 0 _
theorem split_ne {t y : Str} (hy : TL.tl y ≠ []) (hk : y.cps.all (· < 256) = true) : Txt.split t y ≠ [] := fun z => by
  have e := TL.split_spl t y hy (TL.kind_ok hk)
  rw [z] at e
  exact spl_ne _ _ _ _ e.symm

def sp_number_in (K : PySem.W.Frag) (Z : Ad) : Sp := fun vs H Q E => ∃ (t : Str) (most : Int), vs = [.str t, .int most] ∧ t.length ≤ 1000000 ∧ 0 ≤ most ∧ most ≤ 1000000000000000 ∧ (∀ i, numT most t = some i → Q (.int i) H) ∧ (numT most t = none → E (.ref Z.BadOrder) none H)
theorem sc_number_in : FnScope ["text", "most", "number"] ["text", "most"] (defScope st_number_in) := ⟨rfl, rfl, rfl, by decide +kernel, rfl, by decide +kernel, by decide +kernel⟩
def sp_row_in (K : PySem.W.Frag) (Z : Ad) : Sp := fun vs H Q E => ∃ (t : Str), vs = [.str t] ∧ t.length ≤ 1000000 ∧ (∀ r, rowT t = some r → ∀ (p : Addr) (H' : Hp), Hs [] H H' [(p, .lst (r.map V.int))] [] → Q (.ref p) H') ∧ (rowT t = none → ∀ H', Upto [] H H' → E (.ref Z.BadOrder) none H')
theorem sc_row_in : FnScope ["text", "row", "word"] ["text"] (defScope st_row_in) := ⟨rfl, rfl, rfl, by decide +kernel, rfl, by decide +kernel, by decide +kernel⟩
inductive Ord where
  | put (r : List Int)
  | stop (c p : Int)
  | bare (w : Str)
def ordT (t : Str) : Option Ord :=
  match Txt.split t " " with
  | [] => none
  | w :: ws =>
    if w = "put" ∧ ws = [] then some (.put [])
    else if w = "put" ∧ ws.length = 1 then (rowT (ws.getD 0 Str.empty)).map .put
    else if w = "stop" ∧ ws.length = 2 then (match numT 1000000000000000 (ws.getD 0 Str.empty), numT 7 (ws.getD 1 Str.empty) with
      | some c, some p => some (.stop c p)
      | _, _ => none)
    else if (w = "take" ∨ w = "rows" ∨ w = "room" ∨ w = "rise") ∧ ws = [] then some (.bare w)
    else none
def OrdAt (H : Hp) (p : Addr) : Ord → Prop
  | .put r => ∃ q, H p = some (.tup [.str "put", .ref q]) ∧ H q = some (.lst (r.map V.int))
  | .stop c a => H p = some (.tup [.str "stop", .int c, .int a])
  | .bare w => H p = some (.tup [.str w])
def sp_order_of (K : PySem.W.Frag) (Z : Ad) : Sp := fun vs H Q E => ∃ (t : Str), vs = [.str t] ∧ t.length ≤ 1000000 ∧ (∀ o, ordT t = some o → ∀ (p : Addr) (H' : Hp), Upto [] H H' → OrdAt H' p o → Q (.ref p) H') ∧ (ordT t = none → ∀ H', Upto [] H H' → E (.ref Z.BadOrder) none H')
theorem sc_order_of : FnScope ["line", "word", "wanted"] ["line"] (defScope st_order_of) := ⟨rfl, rfl, rfl, by decide +kernel, rfl, by decide +kernel, by decide +kernel⟩
def RowO (sc : Addr) (o : HO) : Prop := ∃ i m : Int, 0 ≤ i ∧ o = .lst [.ref sc, .int i, .int m]
/-- the next cell's rest: some number below n -/
def sp_law_taken (K : PySem.W.Frag) (_ : Ad) : Sp := fun vs H Q _ => ∃ (r sc : Addr) (o : HO) (ns : List Int) (S : List (Addr × HO)) (n : Int), vs = [.ref r, .int n] ∧ Holds H ((r, o) :: S) ∧ RowO sc o ∧ ScrL K sc ns S ∧ 0 < n ∧
  ∀ (v : Int) (o' : HO) (H' : Hp), 0 ≤ v → v < n → Upto [r] H H' → H' r = some o' → RowO sc o' → Q (.int v) H'
theorem sc_law_taken : FnScope ["_law_row", "_law_many", "_law_cell"] ["_law_row", "_law_many"] (defScope st_law_taken) := ⟨rfl, rfl, rfl, by decide +kernel, rfl, by decide +kernel, by decide +kernel⟩
theorem s_taken {W : List Addr} {H0 H : Hp} {M S : List (Addr × HO)} {r sc : Addr} {o : HO} {ns : List Int} {n : Int} {Q : VK} {E : XK} (hs : Hs W H0 H M S) (m : (r, o) ∈ M) (ro : RowO sc o) (sl : ScrL K sc ns S) (hn : 0 < n)
    (h : ∀ (v : Int) (o' : HO) (H' : Hp), 0 ≤ v → v < n → RowO sc o' → (∀ M', Rep M r o' M' → Hs W H0 H' M' S) → Upto [r] H H' → Q (.int v) H') : sp_law_taken K Z [.ref r, .int n] H Q E :=
  ⟨r, sc, o, ns, S, n, rfl, hs.row m, ro, sl, hn, fun v o' H' h1 h2 u e ro' => h v o' H' h1 h2 ro' (fun _ rp => hs.call1 u e rp) u⟩
def sp_law_odd (K : PySem.W.Frag) (_ : Ad) : Sp := fun vs H Q _ => ∃ (r sc : Addr) (o : HO) (ns : List Int) (S : List (Addr × HO)), vs = [.ref r] ∧ Holds H ((r, o) :: S) ∧ RowO sc o ∧ ScrL K sc ns S ∧
  ∀ (v : V) (o' : HO) (H' : Hp), RowO sc o' → Upto [r] H H' → H' r = some o' → NoRow H' v → Q v H'
theorem flat_cut {ws : List Int} {lo hi : Option Int} {y : V} (h : y ∈ cutV (ws.map V.int) lo hi) : FlatV y := by
  unfold cutV at h
  obtain ⟨z, _, rfl⟩ := List.mem_map.mp (List.mem_of_mem_drop (List.mem_of_mem_take h))
  trivial
theorem sc_law_odd : FnScope ["_law_row", "_law_words", "_law_odd_here", "_law_at", "_law_some", "_law_k"] ["_law_row"] (defScope st_law_odd) := ⟨rfl, rfl, rfl, by decide +kernel, rfl, by decide +kernel, by decide +kernel⟩
/-! ### a disk full of marks -/
def marks (a : Int) (j : Nat) : List (List Int) := (List.range j).map fun (i : Nat) => markB (a + (i : Int)) (a + (i : Int) - 1)
theorem marks_snoc (a : Int) (j : Nat) : marks a (j + 1) = marks a j ++ [markB (a + (j : Int)) (a + (j : Int) - 1)] := by
  unfold marks
  rw [List.range_succ, List.map_append]
  rfl
theorem marks_len (a : Int) (j : Nat) : (marks a j).length = j := by simp [marks]
theorem marks_each {a : Int} {j : Nat} {b : List Int} (h : b ∈ marks a j) : b.length = 8 := by
  obtain ⟨i, _, rfl⟩ := List.mem_map.mp h
  rfl
theorem putWs_marks {n : Nat} {ws : List (List Int)} {a : Int} (hn : 0 < n) (hl : ws.length = n) : ∀ j : Nat, j ≤ n → ∀ k : Int, a ≤ k → k < a + j → blkOf n (putWs n ws (a - 1) (marks a j)) k = markB k (k - 1)
  | 0, _, k, h1, h2 => by omega
  | j + 1, hj, k, h1, h2 => by
    rw [marks_snoc, putWs_snoc, marks_len]
    have e : a - 1 + (j : Int) + 1 = a + (j : Int) := by omega
    rw [e, blkOf_set hn (by rw [putWs_len]; exact hl)]
    by_cases c : k = a + (j : Int)
    · subst c
      rw [if_pos rfl]
    · rw [if_neg]
      · exact putWs_marks hn hl j (by omega) k h1 (by push_cast at h2; omega)
      · intro e2
        push_cast at h2
        have := mod_inj hn e2.symm (by omega) (by omega)
        omega
theorem begun_inv {n : Nat} {ws : List (List Int)} {a : Int} (h4 : 4 ≤ n) (h64 : n ≤ 64) (hl : ws.length = n) (h8 : ∀ w ∈ ws, w.length = 8) (ha : (n : Int) ≤ a) : MInv n (putWs n ws (a - 1) (marks a n)) (a + n - 1) (a + n - 2) none [] [] := by
  have hg := fun k h1 h2 => putWs_marks (n := n) (ws := ws) (a := a) (by omega) hl n (Nat.le_refl _) k h1 h2
  have hpl : (putWs n ws (a - 1) (marks a n)).length = n := by rw [putWs_len]; exact hl
  have hlast := hg (a + n - 1) (by omega) (by omega)
  refine ⟨[], ⟨⟨by omega, fun i k hi h1 h2 h3 _ => ?_, fun t ht => by cases ht⟩, h4, h64, hpl, ?_, by omega, by omega, by omega, fun _ => ⟨by omega, ?_⟩, ?_⟩, rfl, rfl⟩
  · have e := hg k (by omega) (by omega)
    unfold blkOf at e
    have e2 : (k % (n : Int)).toNat = i := by rw [h3]; omega
    rw [e2] at e
    rw [e, if_pos (by omega)]
    exact ⟨rfl, rfl⟩
  · have : ∀ (bl ws : List (List Int)) (num : Int), (∀ b ∈ bl, b.length = 8) → (∀ w ∈ ws, w.length = 8) → ∀ w ∈ putWs n ws num bl, w.length = 8 := by
      intro bl
      induction bl with
      | nil => intro ws num _ h; exact h
      | cons b bl ih =>
        intro ws num hb hw
        refine ih _ _ (fun x hx => hb x (List.mem_cons_of_mem _ hx)) fun w hw2 => ?_
        rcases mem_set' hw2 with hw2 | hw2
        · exact hw w hw2
        · rw [hw2]; exact hb b List.mem_cons_self
    exact this _ ws _ (fun b hb => marks_each hb) h8
  · rw [hlast]
    show a + n - 1 - 1 = a + n - 2
    omega
  · have e : a + (n : Int) - 1 = a + (n : Int) - 2 + 1 := by omega
    rw [e, useB_snoc (Int.le_refl _), useB_nil (Int.le_refl _), ← e, hlast, List.nil_append, grp_cons]
    rfl
theorem begun_gone {n : Nat} {ws : List (List Int)} {a : Int} (h4 : 4 ≤ n) (hl : ws.length = n) : goneB n (putWs n ws (a - 1) (marks a n)) (a + n - 1) = false := by
  have hlast := putWs_marks (n := n) (ws := ws) (a := a) (by omega) hl n (Nat.le_refl _) (a + n - 1) (by omega) (by omega)
  exact goneB_of hlast (.inr (by show (0 : Int) ≠ 1; decide))
def ds1 (dx bl : Addr) (bs : List Addr) (n : Nat) (a : Int) (j : Nat) : DS := ⟨dx, bl, bs, putWs n (List.replicate n (List.replicate 8 0)) (a - 1) (marks a j), 0, (j : Nat), none, 0⟩
def ms1 (dl : Addr) (bs : List Addr) (n : Nat) (a : Int) (j : Nat) (ra ca : Addr) : MS := ⟨n, dl, bs, putWs n (List.replicate n (List.replicate 8 0)) (a - 1) (marks a j), if j = 0 then n - 1 else a + (j : Nat) - 1, if j = 0 then n - 1 else a + (j : Nat) - 2, ra, [], ca, [], none, none, 0, (j : Nat), false, none⟩
theorem zeros8 {n : Nat} : ∀ w ∈ List.replicate n (List.replicate 8 (0 : Int)), w.length = 8 := fun w hw => by rw [(List.mem_replicate.mp hw).2, List.length_replicate]
theorem ds1_ok {dx bl : Addr} {bs : List Addr} {n : Nat} {a : Int} {j : Nat} (h4 : 4 ≤ n) (h64 : n ≤ 64) (hb : bs.length = n) : (ds1 dx bl bs n a j).Ok := by
  have hw : (putWs n (List.replicate n (List.replicate 8 (0 : Int))) (a - 1) (marks a j)).length = n := by rw [putWs_len, List.length_replicate]
  refine ⟨hb.trans hw.symm, by show 4 ≤ (putWs _ _ _ _).length; omega, by show (putWs _ _ _ _).length ≤ 64; omega, ?_⟩
  have : ∀ (bl ws : List (List Int)) (num : Int), (∀ b ∈ bl, b.length = 8) → (∀ w ∈ ws, w.length = 8) → ∀ w ∈ putWs n ws num bl, w.length = 8 := by
    intro bl
    induction bl with
    | nil => intro ws num _ h; exact h
    | cons b bl ih =>
      intro ws num hb hw
      refine ih _ _ (fun x hx => hb x (List.mem_cons_of_mem _ hx)) fun w hw2 => ?_
      rcases mem_set' hw2 with hw2 | hw2
      · exact hw w hw2
      · rw [hw2]; exact hb b List.mem_cons_self
  exact this _ _ _ (fun b hb => marks_each hb) zeros8
theorem begun_rel {dx bl dl ra ca : Addr} {bs bs' : List Addr} {n : Nat} {a : Int} (h4 : 4 ≤ n) (h64 : n ≤ 64) (hb : bs.length = n) (hb' : bs'.length = n) (ha : (n : Int) ≤ a) : DRel (ds1 dx bl bs n a n) (ms1 dl bs' n a n ra ca) := by
  have hw : (putWs n (List.replicate n (List.replicate 8 (0 : Int))) (a - 1) (marks a n)).length = n := by rw [putWs_len, List.length_replicate]
  have hn : ¬ n = 0 := by omega
  refine ⟨ds1_ok h4 h64 hb, hb', hw, rfl, rfl, rfl, fun _ => rfl, Int.le_refl _, (by show (0 : Int) ≤ 7; decide), Int.le_refl _, (by show (0 : Int) ≤ 7; decide), (fun t ht => by cases ht), ?_, (fun x hx => nomatch hx), rfl, ?_, fun hb9 => ?_, fun x hx => nomatch hx⟩
  · show MInv n _ (if n = 0 then (n : Int) - 1 else a + (n : Nat) - 1) (if n = 0 then (n : Int) - 1 else a + (n : Nat) - 2) none [] []
    rw [if_neg hn, if_neg hn]
    exact begun_inv h4 h64 List.length_replicate zeros8 ha
  · show goneB n _ (if n = 0 then (n : Int) - 1 else a + (n : Nat) - 1) = false
    rw [if_neg hn]
    exact begun_gone h4 List.length_replicate
  · have hb9 : (if n = 0 then (n : Int) - 1 else a + (n : Nat) - 1) ≤ 999999999999000 := hb9
    rw [if_neg hn] at hb9
    refine GoodB.puts (fun b hb => ?_) fun w hw => by rw [(List.mem_replicate.mp hw).2]; exact GoodB.zeros
    obtain ⟨i, hi, rfl⟩ := List.mem_map.mp hb
    rw [List.mem_range] at hi
    exact GoodB.end_ (by omega) (by omega) (.inl rfl)
theorem fresh_rel {dx bl dl ra ca : Addr} {bs bs' : List Addr} {n : Nat} (h4 : 4 ≤ n) (h64 : n ≤ 64) (hb : bs.length = n) (hb' : bs'.length = n) : DRel ⟨dx, bl, bs, List.replicate n (List.replicate 8 0), 0, 0, none, 0⟩ ⟨n, dl, bs', List.replicate n (List.replicate 8 0), n - 1, n - 1, ra, [], ca, [], none, none, 0, 0, false, none⟩ := by
  have hw : (List.replicate n (List.replicate 8 (0 : Int))).length = n := List.length_replicate
  refine ⟨⟨hb.trans hw.symm, by show 4 ≤ (List.replicate n _).length; omega, by show (List.replicate n _).length ≤ 64; omega, zeros8⟩, hb', hw, rfl, rfl, rfl, fun _ => rfl, Int.le_refl _, (by show (0 : Int) ≤ 7; decide), Int.le_refl _, (by show (0 : Int) ≤ 7; decide), (fun t ht => by cases ht), MInv.fresh h4 h64, (fun x hx => nomatch hx), rfl, ?_, fun _ w hw => by rw [(List.mem_replicate.mp hw).2]; exact GoodB.zeros, fun x hx => nomatch hx⟩
  show goneB n _ ((n : Int) - 1) = false
  unfold goneB
  rw [decide_eq_false (by omega), Bool.false_and]
theorem ds1_next {dx bl : Addr} {bs bs' : List Addr} {n : Nat} {a : Int} {j : Nat} : ({ ds1 dx bl bs n a j with bs := bs', ws := (ds1 dx bl bs n a j).ws.set ((a + (j : Int)) % n).toNat (markB (a + (j : Int)) (a + (j : Int) - 1)), w := (ds1 dx bl bs n a j).w + 1, lt := (ds1 dx bl bs n a j).lt.map (· - 1) } : DS) = ds1 dx bl bs' n a (j + 1) := by
  unfold ds1
  rw [marks_snoc, putWs_snoc, marks_len]
  have e : a - 1 + (j : Int) + 1 = a + (j : Int) := by omega
  rw [e]
  rfl
theorem ms1_next {dl ra ca ca' : Addr} {bs bs' : List Addr} {n : Nat} {a : Int} {j : Nat} : mWrite (ms1 dl bs n a j ra ca) bs' ca' (markB (a + (j : Int)) (a + (j : Int) - 1)) = ms1 dl bs' n a (j + 1) ra ca' := by
  unfold mWrite ms1
  rw [marks_snoc, putWs_snoc, marks_len]
  have e : a - 1 + (j : Int) + 1 = a + (j : Int) := by omega
  rw [e, if_neg (show ¬ j + 1 = 0 by omega), if_neg (show ¬ j + 1 = 0 by omega)]
  show MS.mk _ _ _ _ (a + (j : Int)) (a + (j : Int) - 1) _ _ _ _ _ _ _ ((j : Int) + 1) _ _ = _
  congr 1
  · push_cast; omega
  · push_cast; omega
theorem perm_turn {α : Type} (x : α) (A B : List α) : (x :: (A ++ B)).Perm (B ++ (A ++ [x])) := (List.Perm.cons _ List.perm_append_comm).trans (perm4 [] B A x)
theorem perm_in2 {α : Type} (w r : α) (B C : List α) : (r :: (B ++ (w :: C))).Perm (w :: r :: (B ++ C)) := perm_in w r [] B C
theorem perm_end {α : Type} (x y : α) (B : List α) : ((x :: B) ++ [y]).Perm (x :: y :: B) := List.Perm.cons _ (List.perm_append_comm (l₁ := B) (l₂ := [y]))
theorem perm_two {α : Type} (a b c d : α) (B : List α) : (c :: d :: (a :: b :: B)).Perm (a :: b :: c :: d :: B) := by
  have h : ([c, d] ++ ([a, b] ++ B)).Perm ([a, b] ++ ([c, d] ++ B)) := by
    rw [← List.append_assoc, ← List.append_assoc]
    exact List.Perm.append_right _ List.perm_append_comm
  exact h

def pFresh (n : Nat) : PS := ⟨n, List.replicate n (List.replicate 8 0), n - 1, n - 1, [], [], none, none, 0, 0, false⟩
theorem fresh_x {dx bl : Addr} {bs : List Addr} {n : Nat} (h4 : 4 ≤ n) (h64 : n ≤ 64) (hb : bs.length = n) : XRel ⟨dx, bl, bs, List.replicate n (List.replicate 8 0), 0, 0, none, 0⟩ (pFresh n) :=
  (fresh_rel (dx := dx) (bl := bl) (dl := 0) (ra := 0) (ca := 0) (bs := bs) (bs' := bs) h4 h64 hb hb).x
/-- a new disk -/
theorem disk_new {K : PySem.W.Frag} {Z : Ad} {x dx : Addr} {i : Int} {H : Hp} {Q : VK} {E : XK} (hH : Holds H [(x, .ins Z.Disk dx []), (dx, .own x)]) (h4 : 4 ≤ i) (h64 : i ≤ 64)
    (k : ∀ (s : DS) (H' : Hp), XRel s (pFresh i.toNat) → s.r = 0 → s.ws.length = i.toNat → Frm [(x, .ins Z.Disk dx []), (dx, .own x)] (diskL Z x s) H H' → Q .non H') : sp_Disk___init__ K Z [.ref x, .int i] H Q E := by
  refine ⟨x, dx, .int i, rfl, hH, trivial, fun c => ?_, fun n2 en _ _ bl bs H2 hbs f => ?_⟩
  · simp only [wholeB, Bool.and_eq_false_iff, decide_eq_false_iff_not] at c
    omega
  · obtain rfl : i = n2 := V.int.inj en
    exact k _ _ (fresh_x (by omega) (by omega) hbs) rfl (by simp) f
theorem disk_bad {K : PySem.W.Frag} {Z : Ad} {x dx : Addr} {i : Int} {H : Hp} {Q : VK} {E : XK} (hH : Holds H [(x, .ins Z.Disk dx []), (dx, .own x)]) (hb : i < 4 ∨ 64 < i)
    (k : ∀ H', Upto [] H H' → E (.ref Z.BadDisk) none H') : sp_Disk___init__ K Z [.ref x, .int i] H Q E :=
  ⟨x, dx, .int i, rfl, hH, trivial, fun _ => k, fun n2 en h0 h1 => by
    obtain rfl : i = n2 := V.int.inj en
    omega⟩

def exs (Z : Ad) : List Addr := [Z.BadDisk, Z.NoBlock, Z.BadBlock, Z.BadStop, Z.Stopped, Z.BadRow, Z.Full, Z.Empty, Z.Gone, Z.BadOrder]
def ofD (i : Nat) : Bool := decide (i < 5) || decide (i = 9)

def sp_law_of_disks (K : PySem.W.Frag) (Z : Ad) : Sp := fun vs H Q E => ∃ (r sc : Addr) (o : HO) (ns : List Int) (S : List (Addr × HO)) (i : Nat), vs = [.ref r, .int (i : Int)] ∧ i < 10 ∧ Holds H ((r, o) :: S) ∧ RowO sc o ∧ ScrL K sc ns S ∧
  ∀ (o' : HO) (H' : Hp), RowO sc o' → Upto [r] H H' → H' r = some o' → (ofD i = true → ∀ C, (exs Z)[i]? = some C → E (.ref C) none H') ∧ (ofD i = false → Q .non H')
theorem sc_law_of_disks : FnScope ["_law_row", "_law_which", "_law_disk"] ["_law_row", "_law_which"] (defScope st_law_of_disks) := ⟨rfl, rfl, rfl, by decide +kernel, rfl, by decide +kernel, by decide +kernel⟩
/-! ### how many blocks the rows take that stand -/
theorem grp_total {α : Type} (f : α → List Int) : ∀ {r : List α} {acc a : List (List α)}, grp f acc r = some a → (a.map List.length).sum ≤ (acc.map List.length).sum + r.length
  | [], acc, a, h => by
    rw [grp] at h
    rw [← Option.some.inj h]
    omega
  | w :: r, acc, a, h => by
    rw [grp_cons] at h
    cases e : gStep f acc w with
    | none => rw [e] at h; cases h
    | some x =>
      rw [e] at h
      have q := grp_total f (r := r) h
      have hx : (x.map List.length).sum ≤ (acc.map List.length).sum + 1 := by
        rw [gStep] at e
        split at e
        · rw [← Option.some.inj e]; omega
        · split at e
          · rw [← Option.some.inj e]; simp
          · cases e2 : acc.reverse with
            | nil => rw [e2] at e; cases e
            | cons g gs =>
              rw [e2] at e
              have ea : acc = gs.reverse ++ [g] := by rw [← List.reverse_reverse acc, e2, List.reverse_cons]
              rw [← Option.some.inj e, ea]
              simp
              omega
      rw [List.length_cons]
      omega
theorem wordsOf_len {g : List (List Int)} (h8 : ∀ w ∈ g, w.length = 8) (h0 : g ≠ []) : (pcs (wordsOf g)).length ≤ g.length := by
  have hl := mids_len h8
  have hg : 0 < g.length := List.length_pos_iff.mpr h0
  have q : (wordsOf g).length ≤ 3 * g.length - 1 := by
    have e1 : HT.sIx (mids g).length 0 (some 1) = 1 := sIx_in (by omega) (by omega)
    unfold wordsOf cutI
    rw [e1, List.length_take, List.length_drop, hl]
    omega
  rw [pcs_len]
  omega
theorem lens_le {n : Nat} {ws : List (List Int)} {num flo : Int} {torn : Option Int} {rows : List (Int × List Int)} {cut : List Int} (h : MInv n ws num flo torn rows cut) : ((lensP (rows.map Prod.snd) : Nat) : Int) ≤ n - 1 := by
  obtain ⟨gs, v, rfl, _⟩ := h
  have ht := grp_total _ v.gr
  rw [useB_len] at ht
  have hh := v.heads
  have h8 : ∀ g ∈ gs, (∀ w ∈ g, w.length = 8) ∧ g ≠ [] := fun g hg => ⟨fun w hw => by
    obtain ⟨k, k1, k2, rfl⟩ := useB_mem ((hh g hg).2.1 w hw)
    exact (blkOf_num v k1 k2).2.2, (hh g hg).1⟩
  have key : ∀ l : List (List (List Int)), (∀ g ∈ l, (∀ w ∈ g, w.length = 8) ∧ g ≠ []) → lensP ((rowsIn l).map Prod.snd) ≤ (l.map List.length).sum := by
    intro l
    induction l with
    | nil => intro _; exact Nat.le_refl 0
    | cons g l ih =>
      intro hl
      have h1 := hl g List.mem_cons_self
      have h2 := ih fun x hx => hl x (List.mem_cons_of_mem _ hx)
      have h3 := wordsOf_len h1.1 h1.2
      unfold rowsIn at h2 ⊢
      rw [List.filter_cons, List.map_cons, List.sum_cons]
      split
      · show ((pcs (wordsOf g)).length :: _).sum ≤ _
        rw [List.sum_cons]
        exact Nat.add_le_add h3 h2
      · omega
  have q := key gs h8
  have f2 := v.f2
  have f1 := v.f1
  have hs : (([] : List (List (List Int))).map List.length).sum = 0 := rfl
  omega
theorem pPut_lt {P : PS} (h : P.lt = none) (row : List Int) : (pPut P row).2 = true ∧ (pPut P row).1.lt = none := by
  have e : ¬ stopsIn P.lt (pcs row).length = true := by rw [h]; exact Bool.false_ne_true
  unfold pPut
  rw [if_neg e]
  refine ⟨rfl, ?_⟩
  show P.lt.map _ = none
  rw [h]
  rfl
theorem pAll_lt : ∀ (rows : List (List Int)) {P : PS}, P.lt = none → (pAll P rows).2 = true ∧ (pAll P rows).1.lt = none
  | [], P, h => ⟨rfl, h⟩
  | row :: rows, P, h => by
    have q := pPut_lt h row
    rw [pAll, if_pos q.1]
    exact pAll_lt rows q.2
/-- carried to a disk of noughts, without a stop -/
theorem carry_fresh {P1 P2 : PS} (hg : P1.gone = false) (h1 : P1.lt = none) (h2 : P2.lt = none) (h3 : P2.rw = []) (h4 : P2.gone = false) (h5 : ((lensP (rowsP P1) : Nat) : Int) ≤ P2.n - 1) : (carryP P1 P2).1 = { pWrite P1 (endB P1 1) with rw := [], gone := true } ∧ (carryP P1 P2).2.2 = .done := by
  have ec : pClear P2 = (P2, true) := if_pos ⟨h3, h4⟩
  have ee : pEnd P1 1 = ({ pWrite P1 (endB P1 1) with rw := [], gone := decide ((1 : Int) = 1) }, true) := if_neg (by rw [h1]; exact fun z => nomatch z)
  have ea := pAll_lt (rowsP P1) h2
  have e : carryP P1 P2 = ((pEnd P1 1).1, (pAll (pClear P2).1 (rowsP P1)).1, .done) := by
    unfold carryP
    rw [if_neg (by rw [hg]; exact Bool.false_ne_true), if_neg (by omega), if_neg (by rw [ec]; exact fun z => nomatch z), ec, if_neg (by rw [ea.1]; decide), if_neg (by rw [ee]; exact fun z => nomatch z)]
  rw [e, ee]
  exact ⟨rfl, rfl⟩

theorem put_facts {P : PS} {row : List Int} (h : P.lt = none) : (pPut P row).2 = true ∧ (pPut P row).1.lt = none ∧ (pPut P row).1.num = P.num + ((pcs row).length : Nat) ∧ (pPut P row).1.n = P.n ∧ (pPut P row).1.gone = P.gone ∧ (pPut P row).1.rw = P.rw ++ [(P.num + 1, row)] := by
  have hs : ¬ stopsIn P.lt (pcs row).length = true := by rw [h]; exact fun z => nomatch z
  have e : pPut P row = ({ pPutB P (floorU P.rw P.num) (rowP P row) with rw := P.rw ++ [(P.num + 1, row)] }, true) := if_neg hs
  rw [e]
  refine ⟨rfl, ?_, ?_, rfl, rfl, rfl⟩
  · show P.lt.map _ = none
    rw [h]
    rfl
  · show P.num + ((rowP P row).length : Nat) = _
    rw [show (rowP P row).length = (pcs row).length from rowB_len _ _ _]
section
variable {K : PySem.W.Frag} {Z : Ad} {lg : Addr} {l : LS} {s : DS} {P : PS} {H : Hp} {Q : VK} {E : XK}
theorem full_X {wr : Addr} {row : List Int} {d : Addr} (hd : l.d = d) (hH : Holds H ((wr, .lst (row.map V.int)) :: (logL Z lg l ++ diskL Z d s))) (h11 : row.length ≤ 11) (hwb : ∀ x ∈ row, 0 ≤ x ∧ x ≤ 999999999) (xr : XRel s P) (lr : LRelP l P) (hg : P.gone = false) (hbig : P.num ≤ 999999999000000) (c : (P.n : Int) - 1 - (P.num - floorU P.rw P.num) < (pcs row).length)
    (kE : ∀ H', Upto [] H H' → E (.ref Z.Full) none H') : sp_Log_put K Z [.ref lg, .ref wr] H Q E := by
  subst hd
  have hc := xr.cnt lr
  have g := xr.numGe
  have n4 := xr.n4
  have hn := lr.num
  have fl := xr.fl
  have hs0 : ∀ t, s.lt = some t → 0 ≤ t := fun t ht => xr.lt0 t (xr.lt.symm.trans ht)
  refine .inr ⟨lg, wr, l, s, row, rfl, hH, xr.ok, xr.p0, xr.p7, hs0, h11, hwb, hc.1, hc.2, by omega, by omega, by rw [lr.rows, lr.num]; exact fl.1, by rw [lr.rows, lr.num]; exact fl.2, fun h => ?_, fun _ _ => kE, fun _ c2 => ?_⟩
  · rw [lr.gone, hg] at h
    cases h
  · rw [xr.n, lr.rows, lr.num] at c2
    omega
theorem bad_X {v : V} {d : Addr} (hd : l.d = d) (hH : Holds H (logL Z lg l ++ diskL Z d s)) (hno : NoRow H v) (lr : LRelP l P) (kG : P.gone = true → E (.ref Z.Gone) none H) (kB : P.gone = false → ∀ H', Upto [] H H' → E (.ref Z.BadRow) none H') : sp_Log_put K Z [.ref lg, v] H Q E := by
  subst hd
  exact .inl ⟨lg, v, l, s, rfl, hH, hno, fun h => kG (by rw [← lr.gone]; exact h), fun h => kB (by rw [← lr.gone]; exact h)⟩
end

def sp_law_of_logs (K : PySem.W.Frag) (Z : Ad) : Sp := fun vs H Q E => ∃ (r sc : Addr) (o : HO) (ns : List Int) (S : List (Addr × HO)) (i : Nat), vs = [.ref r, .int (i : Int)] ∧ 5 ≤ i ∧ i ≤ 8 ∧ Holds H ((r, o) :: S) ∧ RowO sc o ∧ ScrL K sc ns S ∧
  ∀ (o' : HO) (H' : Hp), RowO sc o' → Upto [r] H H' → H' r = some o' → ∀ C, (exs Z)[i]? = some C → E (.ref C) none H'
theorem sc_law_of_logs : FnScope ["_law_row", "_law_which", "_law_disk", "_law_log", "_law_k"] ["_law_row", "_law_which"] (defScope st_law_of_logs) := ⟨rfl, rfl, rfl, by decide +kernel, rfl, by decide +kernel, by decide +kernel⟩
/-- which of the ten it is, one by one -/
def sp_law_kinds (K : PySem.W.Frag) (Z : Ad) : Addr → Addr → Sp := fun D a vs H Q _ => ∃ i : Nat, i < 10 ∧ (exs Z)[i]? = some D ∧ vs = [.ref a] ∧
  ∀ (t : Addr) (H' : Hp), Hs [] H H' [(t, .lst ((List.range 10).map fun k => .bl (decide (k = i))))] [] → Q (.ref t) H'
theorem sc_law_kinds : FnScope ["_law_e", "_law_found"] ["_law_e"] (defScope st_law_kinds) := ⟨rfl, rfl, rfl, by decide +kernel, rfl, by decide +kernel, by decide +kernel⟩
def sp_law (K : PySem.W.Frag) (_ : Ad) : Sp := fun vs H Q _ => ∃ (a : Addr) (ns : List Int), vs = [.ref a] ∧ SqL K H a (ns.map V.int) ∧ ns.length ≤ 63 ∧ ∀ H', Q (.bl true) H'
theorem dp_bools {K : PySem.W.Frag} {H : Hp} : ∀ bs : List Bool, DpAll K H (bs.map V.bl) (bs.map PyData.bool)
  | [] => .nil
  | b :: r => .cons (.bl b) (dp_bools r)
theorem Sh.bools (bs : List Bool) (h : bs.length ≤ 100000) : Sh 2 (.list (bs.map PyData.bool)) := .lst (by rw [List.length_map]; exact h) fun d hd => by
  obtain ⟨b, _, rfl⟩ := List.mem_map.mp hd
  exact .bl b
theorem lay_bools : ∀ bs : List Bool, (PyData.list (bs.map PyData.bool)).canLay0 = true := fun bs => by
  rw [PyData.canLay0]
  exact layAll fun d hd => by
    obtain ⟨b, _, rfl⟩ := List.mem_map.mp hd
    rfl
theorem sc_law : FnScope ["_law_script", "_law_row", "_law_turn", "_law_which", "_law_found", "_law_e", "_law_k"] ["_law_script"] (defScope st_law) := ⟨rfl, rfl, rfl, by decide +kernel, rfl, by decide +kernel, by decide +kernel⟩
end
/-- lookups -/
local macro_rules | `(tactic| k_data) => `(tactic| first | exact List.mem_cons_self | assumption | (apply List.mem_cons_of_mem; k_data) | (apply List.mem_append_right; k_data) | (apply List.mem_append_left; k_data))
local macro_rules | `(tactic| k_get) => `(tactic| first | exact Rep.here | (apply Rep.there; k_get) | (apply Rep.skip; k_get))
local macro_rules | `(tactic| k_put) => `(tactic| first | exact SetAt.here | (apply SetAt.there; k_put))
local macro_rules | `(tactic| k_obj1) => `(tactic| first | assumption | exact Hs.getM (by assumption) (by k_data) | exact Hs.getI (by assumption) (by k_data))
local macro_rules | `(tactic| k_here) => `(tactic| first | (apply lk; k_obj1; rfl) | (apply lkL; k_obj1; rfl) | (apply lkT; k_obj1; rfl) | assumption | exact Hs.scr (by assumption) (by assumption) | exact (Upto.same (Hs.up (by assumption))).seq (by assumption) | exact same_seqT (Upto.same (Hs.up (by assumption))) (by assumption))
local macro_rules | `(tactic| k_few) => `(tactic| first | assumption | omega | (simp only [List.length_cons, List.length_nil, List.length_append, List.length_map, List.length_replicate, sizeLine_eq]; omega))
local macro_rules | `(tactic| k_closed) => `(tactic| first | assumption | rfl | omega | (focus (intro h; cases h; done)) | (exact fun h => h rfl) | decide)
local macro_rules | `(tactic| k_not) => `(tactic| first | omega | (unfold CMul; omega) | (unfold CDiv; omega) | assumption)
local macro_rules | `(tactic| k_ownname) => `(tactic| first | exact SetI.s0 | exact SetI.s1 | exact SetI.s2 | assumption)
local macro_rules | `(tactic| k_is) => `(tactic| first | rfl | assumption)
/-- one step of a reading -/
local macro_rules | `(tactic| k_one) => `(tactic| first
  | with_reducible apply s_asg
  | with_reducible apply s_ifs
  | with_reducible apply s_op
  | ((with_reducible apply s_var); rfl)
  | with_reducible apply s_c
  | ((with_reducible apply s_gname); k_put)
  | with_reducible apply s_cons
  | with_reducible apply s_nil
  | with_reducible apply s_call
  | with_reducible apply s_CB
  | with_reducible apply s_rI0
  | ((with_reducible apply s_rI); k_not)
  | ((with_reducible apply s_ixL); k_here; k_is)
  | ((with_reducible apply s_ixT); k_here; k_is)
  | with_reducible apply s_eqI
  | with_reducible apply s_neI
  | with_reducible apply s_test
  | with_reducible apply s_tB
  | with_reducible apply s_kBl
  | with_reducible apply s_iteT
  | with_reducible apply s_iteF
  | ((with_reducible apply s_iteP); k_closed)
  | ((with_reducible apply s_iteN); k_closed)
  | with_reducible apply s_and
  | with_reducible apply s_or
  | with_reducible apply s_not
  | with_reducible apply s_andV
  | with_reducible apply s_orV
  | with_reducible apply s_notV
  | with_reducible apply s_ifE
  | with_reducible apply s_chain
  | with_reducible apply s_lst
  | with_reducible apply s_tup
  | ((with_reducible apply s_newL); assumption; k_few; intro _ _ _ _ _)
  | ((with_reducible apply s_newT); assumption; k_few; intro _ _ _ _ _)
  | with_reducible apply s_star
  | ((with_reducible apply s_kStarL); k_here)
  | with_reducible apply s_gSub
  | ((with_reducible apply s_setL); assumption; k_here; k_ownname; k_get; intro _ _ _)
  | with_reducible apply s_ret
  | with_reducible apply s_retN
  | with_reducible apply s_next
  | with_reducible apply s_drop
  | with_reducible apply s_un
  | with_reducible apply s_rU
  | ((with_reducible apply s_cat); assumption; k_here; k_here; k_few; intro _ _ _ _ _)
  | with_reducible apply s_sl
  | with_reducible apply s_noPart
  | with_reducible apply s_part
  | with_reducible apply s_kPart
  | ((with_reducible apply s_slL); assumption; k_here; intro _ _ _ _ _)
  | ((with_reducible apply s_lenL); k_here)
  | ((with_reducible apply s_lenT); k_here)
  | ((with_reducible apply s_listOf); assumption; k_here; intro _ _ _ _ _)
  | (with_reducible apply s_max2; intro _ _)
  | with_reducible apply s_forR1
  | with_reducible apply s_forR2
  | with_reducible apply s_forL
  | with_reducible apply s_forT
  | with_reducible apply s_lcR1
  | with_reducible apply s_lcR2
  | with_reducible apply s_lcL
  | ((with_reducible apply s_kRng1); k_few; k_few)
  | ((with_reducible apply s_kRng2); k_few; k_few; k_few; k_few)
  | ((with_reducible apply s_kLst); k_here)
  | ((with_reducible apply s_kTup); k_here)
  | with_reducible apply s_bm0
  | with_reducible apply s_bm
  | ((with_reducible apply s_tyL); k_here)
  | ((with_reducible apply s_clear); assumption; k_here; k_get; intro _ _ _)
  | ((with_reducible apply s_append); assumption; k_here; k_few; k_get; intro _ _ _)
  | ((with_reducible apply s_extend); assumption; k_here; k_here; k_few; k_get; intro _ _ _)
  | with_reducible apply s_par
  | ((with_reducible apply s_kPar); k_put; k_put)
  | ((with_reducible apply s_gTup); k_here; rfl)
  | with_reducible apply s_gCons
  | with_reducible apply s_gNil
  | ((with_reducible apply s_start); (simp only [L2.start, List.map_cons, List.map_nil, List.length_cons, List.length_nil, Nat.reduceAdd, Nat.reduceSub, List.replicate, List.cons_append, List.nil_append]; rfl)))
local macro_rules | `(tactic| k_slotget) => `(tactic| first | exact TyX.base (.int _) | exact TyX.base (.bl _) | exact TyX.base .non | exact TyX.base (.str _) | exact SqL.tyx (by k_here) | exact SqT.tyx (by k_here) | assumption)
local macro_rules | `(tactic| k_data) => `(tactic| first | exact List.mem_cons_self | assumption | (apply List.mem_cons_of_mem; k_data) | (apply List.mem_append_right; k_data) | (apply List.mem_append_left; k_data))
local macro_rules | `(tactic| k_one) => `(tactic| first
  | ((with_reducible apply s_isi); exact ClsV.ty _; k_slotget; (first | exact kit_ty (r := true) (by decide +kernel) | exact kit_ty (r := false) (by decide +kernel)))
  | ((with_reducible apply s_ixAL); k_here; k_is)
  | ((with_reducible apply s_ixAT); k_here; k_is)
  | ((with_reducible apply s_isiT); k_here; (exact .cons (.ty _) (.cons (.ty _) .nil)); k_slotget; (first | exact kitTL_list | exact kitTL_tuple))
  | ((with_reducible apply s_repI); assumption; k_here; k_few; intro _ _ _ _ _)
  | with_reducible apply s_neB
  | with_reducible apply s_eqB
  | with_reducible apply s_eqS
  | with_reducible apply s_neS
  | with_reducible apply s_isN
  | with_reducible apply s_notN
  | ((with_reducible apply s_iteNP); k_closed)
  | ((with_reducible apply s_iteNN); k_closed)
  | with_reducible apply s_iteNT
  | with_reducible apply s_iteNF
  | with_reducible apply s_yes
  | with_reducible apply s_forR3
  | with_reducible apply s_lcR3
  | ((with_reducible apply s_kRng3); k_few; k_few)
  | with_reducible apply s_kWh
  | ((with_reducible apply s_acc); assumption; k_here; k_few; k_get; intro _ _ _)
  | ((with_reducible apply s_eqDnil); k_here; k_here)
  | ((with_reducible apply s_eqDL); k_here; k_here)
  | ((with_reducible apply s_neDL); k_here; k_here))
local macro_rules | `(tactic| k_sweep) => `(tactic| repeat (first | with_reducible apply s_seq | k_one))
local macro_rules | `(tactic| k_spoken) => `(tactic| repeat k_one)
local macro_rules | `(tactic| k_node) => `(tactic| ((with_reducible apply s_seq); k_spoken))
local macro_rules | `(tactic| k_splitN) => `(tactic| repeat' (first | with_reducible apply s_seq | k_one | (apply s_iteD <;> intro _)))
local macro_rules | `(tactic| k_drop) => `(tactic| first | exact List.Sublist.slnil | (apply List.Sublist.cons₂; k_drop) | (apply List.Sublist.append (List.Sublist.refl _); k_drop) | exact List.Sublist.refl _ | exact List.sublist_append_left _ _ | (apply List.Sublist.cons; k_drop) | (refine List.Sublist.trans ?_ (List.sublist_append_right _ _); k_drop) | exact List.nil_sublist _)
local macro_rules | `(tactic| k_lenW) => `(tactic| first | (apply len_app; k_lenW; k_lenW) | (apply len_cut; k_lenW) | exact Nat.le_refl _)
local macro_rules | `(tactic| k_few) => `(tactic| (apply Nat.le_trans; (apply Nat.add_le_add; k_lenW; k_lenW); (focus (simp only [List.length_cons, List.length_nil, List.length_append, List.length_map, List.length_replicate, sizeLine_eq]; omega))))
local macro_rules | `(tactic| k_one) => `(tactic| first
  | with_reducible apply s_fld
  | ((with_reducible apply s_kFld); k_here; assumption; assumption; rfl)
  | with_reducible apply s_sfld
  | ((with_reducible apply s_kSet); assumption; k_here; assumption; assumption; (first | exact ltK (by kernel_rfl) | exact leK (by kernel_rfl)); rfl; k_get; intro _ _ _)
  | with_reducible apply s_meth
  | with_reducible apply s_methS
  | ((with_reducible apply s_kMeth); k_here; rfl)
  | with_reducible apply s_make
  | with_reducible apply s_makeS
  | with_reducible apply s_raise
  | ((with_reducible apply s_aug1); assumption; rfl; k_here; assumption; assumption; rfl; (first | exact ltK (by kernel_rfl) | exact leK (by kernel_rfl)); rfl; k_get; intro _ _ _)
  | ((with_reducible apply s_sub1); assumption; rfl; k_here; assumption; assumption; rfl; (first | exact ltK (by kernel_rfl) | exact leK (by kernel_rfl)); rfl; k_get; intro _ _ _)
  | with_reducible apply s_dget
  | ((with_reducible apply s_kDGet); k_here; rfl)
  | with_reducible apply s_dput
  | ((with_reducible apply s_kDPut); assumption; k_here; k_few; rfl; k_get; intro _ _ _)
  | ((with_reducible apply s_disp); assumption; intro _ _ _ _ _)
  | with_reducible apply s_pairs0
  | with_reducible apply s_pairs
  | ((with_reducible apply s_kDisp); assumption; k_here; rfl; k_few; rfl; k_get; intro _ _ _)
  | ((with_reducible apply s_tyD); k_here))
local macro_rules | `(tactic| k_one) => `(tactic| first
  | ((with_reducible apply s_rng1); assumption; intro _ _ _ _ _)
  | ((with_reducible apply s_notRngI); k_here)
  | ((with_reducible apply s_notRngN); k_here)
  | ((with_reducible apply s_notRngS); k_here)
  | ((with_reducible apply s_tupOfL); assumption; k_here; intro _ _ _ _ _))
local macro_rules | `(tactic| k_one) => `(tactic| ((with_reducible apply s_upd); assumption; k_here; k_here; (first | exact Hs.neq (by assumption) (by k_drop) | exact (Hs.neq (by assumption) (by k_drop)).symm); (first | exact ltK (by kernel_rfl) | exact leK (by kernel_rfl)); rfl; k_get; intro _ _ _))
local macro_rules | `(tactic| k_not) => `(tactic| (focus (unfold CPow; decide)))
local macro_rules | `(tactic| k_one) => `(tactic| first | with_reducible apply s_neSs | with_reducible apply s_eqSs | with_reducible apply s_neNN)
local macro_rules | `(tactic| k_one) => `(tactic| first
  | with_reducible apply s_forE
  | ((with_reducible apply s_kEnm); k_here)
  | with_reducible apply s_cont
  | with_reducible apply s_iteE0
  | with_reducible apply s_iteEc
  | with_reducible apply s_iteE1
  | with_reducible apply s_iteEd
  | with_reducible apply s_callS
  | with_reducible apply s_truth
  | ((with_reducible apply s_kTruL); k_here)
  | ((with_reducible apply s_pop0); assumption; k_here; k_get; intro _ _ _))
local macro_rules | `(tactic| k_one) => `(tactic| first
  | with_reducible apply s_int1T
  | with_reducible apply s_int1F
  | ((with_reducible apply s_rep1); assumption; k_here; intro _ _ _ _ _)
  | ((with_reducible apply s_rep0); assumption; k_here; intro _ _ _ _ _))
local macro_rules | `(tactic| k_few) => `(tactic| (focus (simp only [Str.len_app, sizeLine_eq]; omega)))
local macro_rules | `(tactic| k_one) => `(tactic| first
  | ((with_reducible apply s_strI); k_few)
  | with_reducible apply s_m1
  | with_reducible apply s_m0
  | with_reducible apply s_kTxt
  | with_reducible apply s_kTxt0
  | with_reducible apply s_fmt
  | ((with_reducible apply s_kFmtI); k_few)
  | ((with_reducible apply s_kFmtS); k_few)
  | with_reducible apply s_joined
  | with_reducible apply s_js
  | with_reducible apply s_js0
  | ((with_reducible apply s_kJs); k_few)
  | ((with_reducible apply s_addS); k_few)
  | ((with_reducible apply s_sumL); k_here))
local macro_rules | `(tactic| k_one) => `(tactic| first
  | with_reducible apply s_ascii
  | with_reducible apply s_digit
  | ((with_reducible apply s_split); assumption; rfl; k_few; intro _ _ _ _ _)
  | ((with_reducible apply s_lenStr); k_few)
  | ((with_reducible apply s_gStar); assumption; k_here; intro _ _ _ _ _)
  | ((with_reducible apply s_intT); assumption; k_few))
local macro_rules | `(tactic| k_few) => `(tactic| (apply Nat.le_trans; (apply Nat.add_le_add; k_lenW; k_lenW); (focus (simp only [madeL_len, List.length_cons, List.length_nil, List.length_append, List.length_map, List.length_replicate, sizeLine_eq]; omega))))
local macro_rules | `(tactic| k_few) => `(tactic| (focus (simp only [madeL_len, List.length_cons, List.length_nil, List.length_map, List.length_append, List.length_replicate, sizeLine_eq]; omega)))
local macro_rules | `(tactic| k_one) => `(tactic| ((with_reducible apply s_made); assumption; k_here; k_few; intro _ _ _ _ _))
local macro_rules | `(tactic| k_one) => `(tactic| ((with_reducible apply s_made_mark); assumption; intro _ _ _ _ _))
local macro_rules | `(tactic| k_one) => `(tactic| ((with_reducible apply s_made_farewell); assumption; intro _ _ _ _ _))
local macro_rules | `(tactic| k_one) => `(tactic| ((with_reducible apply s_kind); k_here; k_few))
local macro_rules | `(tactic| k_few) => `(tactic| (focus (simp only [dL_len, pcs_len, List.length_map, sizeLine_eq]; omega)))
local macro_rules | `(tactic| k_one) => `(tactic| ((with_reducible apply s_pieces); assumption; k_here; k_few; intro _ _ _ _ _ _))
local macro_rules | `(tactic| k_one) => `(tactic| ((with_reducible apply s_length_of); assumption; k_here; k_few; intro _ _ _))
local macro_rules | `(tactic| k_one) => `(tactic| ((with_reducible apply s_is_whole); assumption))
local macro_rules | `(tactic| k_one) => `(tactic| ((with_reducible apply s_taken); assumption; k_data; assumption; assumption; k_few; (intro _ _ _ _ _ _ hq _; have hq2 := hq _ (by k_get); clear hq)))
local macro_rules | `(tactic| k_one) => `(tactic| ((with_reducible apply s_isP); assumption; assumption))
local macro_rules | `(tactic| k_one) => `(tactic| ((with_reducible apply s_isPV); assumption; assumption))
section
variable {P : Program} {w : World} {K : PySem.W.Frag} {mg : Str → Option Value} {base : Heap} {Z : Ad}
theorem ok_made {f : Addr} {fd : FuncData} (F : Fun K "made" "made" st_made f fd) (T : Txt K mg Z)  : FnOk P w K mg base CX0 1 f fd ["number", "floor", "begin", "left", "data"] (sp_made K Z) := by
  have cl_Log := T.cl_Log
  have na_Log__cut := T.na_Log__cut
  have na_Log__disk := T.na_Log__disk
  have na_Log__gone := T.na_Log__gone
  have na_Log__number := T.na_Log__number
  have na_Log__rows := T.na_Log__rows
  have na_Log__torn := T.na_Log__torn
  have cl_Disk := T.cl_Disk
  have na_Disk__blocks := T.na_Disk__blocks
  have na_Disk__let := T.na_Disk__let
  have na_Disk__part := T.na_Disk__part
  have na_Disk__reads := T.na_Disk__reads
  have na_Disk__writes := T.na_Disk__writes
  refine F.ok sc_made (fun vs H Q E h => ?_) (fun cdv A outer s H vs Q E hr h => ?_)
  · obtain ⟨_, _, _, _, _, _, rfl, _⟩ := h
    rfl
  obtain ⟨n, f, b, l, a, ds, rfl, ha, hz, k⟩ := h
  have hS := Hs.startI (Holds.one ha)
  refine ⟨_, (pss_one (ps_ret (pe_lst (pa_cons (pv 0) (pa_cons (pv 1) (pa_cons (pv 2) (pa_cons (pv 3) (pa_starK (K := K) (pv 4) (pa_cons (pv 0) pa_nil))))))))), ?_⟩
  refine s_start (by simp only [L2.start, List.map_cons, List.map_nil, List.length_cons, List.length_nil, Nat.reduceAdd, Nat.reduceSub, List.replicate, List.cons_append, List.nil_append]; rfl) ?_
  have e : ((madeL n f b l ds).map V.int) = .int n :: .int f :: .int b :: .int l :: (ds.map V.int ++ [.int n]) := by simp [madeL]
  rw [e] at k
  k_sweep
  exact k.end_ (by assumption) (by assumption) (by assumption) (by k_here)
theorem ok_made_mark {f : Addr} {fd : FuncData} (F : Fun K "made_mark" "made_mark" st_made_mark f fd) (T : Txt K mg Z) (D_made : DefOk P w K mg base CX0 1 "made" ["number", "floor", "begin", "left", "data"] (sp_made K Z)) : FnOk P w K mg base CX0 2 f fd ["number", "floor"] (sp_made_mark K Z) := by
  have cl_Log := T.cl_Log
  have na_Log__cut := T.na_Log__cut
  have na_Log__disk := T.na_Log__disk
  have na_Log__gone := T.na_Log__gone
  have na_Log__number := T.na_Log__number
  have na_Log__rows := T.na_Log__rows
  have na_Log__torn := T.na_Log__torn
  have cl_Disk := T.cl_Disk
  have na_Disk__blocks := T.na_Disk__blocks
  have na_Disk__let := T.na_Disk__let
  have na_Disk__part := T.na_Disk__part
  have na_Disk__reads := T.na_Disk__reads
  have na_Disk__writes := T.na_Disk__writes
  refine F.ok sc_made_mark (fun vs H Q E h => ?_) (fun cdv A outer s H vs Q E hr h => ?_)
  · obtain ⟨_, _, rfl, _⟩ := h
    rfl
  obtain ⟨n, f, rfl, k⟩ := h
  have hS : Hs [] H H [] [] := Hs.start0
  refine ⟨_, (pss_one (ps_ret (pe_callD D_made hr (by rfl) pass0 (pa_cons (pv 0) (pa_cons (pv 1) (pa_cons (pe_globC T.c_NO_BEGIN rfl) (pa_cons (pe_globC T.c_LEFT_OF_MARK rfl) (pa_cons (pe_op op_rep (pe_lst (pa_cons pe_int pa_nil)) (pe_globC T.c_PIECE_WORDS rfl)) pa_nil)))))))), ?_⟩
  refine s_start (by simp only [L2.start, List.map_cons, List.map_nil, List.length_cons, List.length_nil, Nat.reduceAdd, Nat.reduceSub, List.replicate, List.cons_append, List.nil_append]; rfl) ?_
  k_sweep
  rename_i w H3 hS3 _ hw
  exact k.end_ hw (by assumption) hS3 (by k_here)
theorem ok_made_farewell {f : Addr} {fd : FuncData} (F : Fun K "made_farewell" "made_farewell" st_made_farewell f fd) (T : Txt K mg Z) (D_made : DefOk P w K mg base CX0 1 "made" ["number", "floor", "begin", "left", "data"] (sp_made K Z)) : FnOk P w K mg base CX0 2 f fd ["number", "floor"] (sp_made_farewell K Z) := by
  have cl_Log := T.cl_Log
  have na_Log__cut := T.na_Log__cut
  have na_Log__disk := T.na_Log__disk
  have na_Log__gone := T.na_Log__gone
  have na_Log__number := T.na_Log__number
  have na_Log__rows := T.na_Log__rows
  have na_Log__torn := T.na_Log__torn
  have cl_Disk := T.cl_Disk
  have na_Disk__blocks := T.na_Disk__blocks
  have na_Disk__let := T.na_Disk__let
  have na_Disk__part := T.na_Disk__part
  have na_Disk__reads := T.na_Disk__reads
  have na_Disk__writes := T.na_Disk__writes
  refine F.ok sc_made_farewell (fun vs H Q E h => ?_) (fun cdv A outer s H vs Q E hr h => ?_)
  · obtain ⟨_, _, rfl, _⟩ := h
    rfl
  obtain ⟨n, f, rfl, k⟩ := h
  have hS : Hs [] H H [] [] := Hs.start0
  refine ⟨_, (pss_one (ps_ret (pe_callD D_made hr (by rfl) pass0 (pa_cons (pv 0) (pa_cons (pv 1) (pa_cons (pe_globC T.c_NO_BEGIN rfl) (pa_cons (pe_globC T.c_LEFT_OF_FAREWELL rfl) (pa_cons (pe_op op_rep (pe_lst (pa_cons pe_int pa_nil)) (pe_globC T.c_PIECE_WORDS rfl)) pa_nil)))))))), ?_⟩
  refine s_start (by simp only [L2.start, List.map_cons, List.map_nil, List.length_cons, List.length_nil, Nat.reduceAdd, Nat.reduceSub, List.replicate, List.cons_append, List.nil_append]; rfl) ?_
  k_sweep
  rename_i w H3 hS3 _ hw
  exact k.end_ hw (by assumption) hS3 (by k_here)
theorem ok_is_farewell {f : Addr} {fd : FuncData} (F : Fun K "is_farewell" "is_farewell" st_is_farewell f fd) (T : Txt K mg Z)  : FnOk P w K mg base CX0 1 f fd ["words"] (sp_is_farewell K Z) := by
  have cl_Log := T.cl_Log
  have na_Log__cut := T.na_Log__cut
  have na_Log__disk := T.na_Log__disk
  have na_Log__gone := T.na_Log__gone
  have na_Log__number := T.na_Log__number
  have na_Log__rows := T.na_Log__rows
  have na_Log__torn := T.na_Log__torn
  have cl_Disk := T.cl_Disk
  have na_Disk__blocks := T.na_Disk__blocks
  have na_Disk__let := T.na_Disk__let
  have na_Disk__part := T.na_Disk__part
  have na_Disk__reads := T.na_Disk__reads
  have na_Disk__writes := T.na_Disk__writes
  refine F.ok sc_is_farewell (fun vs H Q E h => ?_) (fun cdv A outer s H vs Q E hr h => ?_)
  · obtain ⟨_, _, rfl, _⟩ := h
    rfl
  obtain ⟨a, w, rfl, ha, h8, k⟩ := h
  refine ⟨_, (pss_one (ps_ret (pe_and (pe_cmpR op_eq (pe_ix (ix_listK (K := K)) (pv 0) (pe_globC T.c_BEGIN rfl) (fun _ _ => rfl)) (pe_globC T.c_NO_BEGIN rfl) (nomark _)) (pe_one (pe_cmpR op_eq (pe_ix (ix_listK (K := K)) (pv 0) (pe_globC T.c_LEFT rfl) (fun _ _ => rfl)) (pe_globC T.c_LEFT_OF_FAREWELL rfl) (nomark _)))))), ?_⟩
  refine s_start (by simp only [L2.start, List.map_cons, List.map_nil, List.length_cons, List.length_nil, Nat.reduceAdd, Nat.reduceSub, List.replicate, List.cons_append, List.nil_append]; rfl) ?_
  have e2 : atI (w.map V.int) 2 = some (V.int (w.getD 2 0)) := at8 h8 (i := 2) (by decide)
  have e3 : atI (w.map V.int) 3 = some (V.int (w.getD 3 0)) := at8 h8 (i := 3) (by decide)
  k_spoken
  apply s_iteD
  · intro c
    rw [decide_eq_true c] at k
    k_spoken
    exact k
  · intro c
    rw [decide_eq_false c] at k
    k_spoken
    exact k
theorem ok_kind {f : Addr} {fd : FuncData} (F : Fun K "kind" "kind" st_kind f fd) (T : Txt K mg Z)  : FnOk P w K mg base CX0 1 f fd ["words", "place", "many"] (sp_kind K Z) := by
  have cl_Log := T.cl_Log
  have na_Log__cut := T.na_Log__cut
  have na_Log__disk := T.na_Log__disk
  have na_Log__gone := T.na_Log__gone
  have na_Log__number := T.na_Log__number
  have na_Log__rows := T.na_Log__rows
  have na_Log__torn := T.na_Log__torn
  have cl_Disk := T.cl_Disk
  have na_Disk__blocks := T.na_Disk__blocks
  have na_Disk__let := T.na_Disk__let
  have na_Disk__part := T.na_Disk__part
  have na_Disk__reads := T.na_Disk__reads
  have na_Disk__writes := T.na_Disk__writes
  refine F.ok sc_kind (fun vs H Q E h => ?_) (fun cdv A outer s H vs Q E hr h => ?_)
  · obtain ⟨_, _, _, _, _, _, _, _, _, _, _, rfl, _⟩ := h
    rfl
  obtain ⟨a, w0, w1, w2, w3, w4, w5, w6, w7, p, m, rfl, ha, hm, k⟩ := h
  refine ⟨_, (pss_cons (ps_par (i := 3) (j := 4) (by rfl) sc_kind.nd rfl rfl (by decide) rfl rfl (pa_cons (pe_ix (ix_listK (K := K)) (pv 0) pe_int (fun _ _ => rfl)) (pa_cons (pe_ix (ix_listK (K := K)) (pv 0) (pe_un un_neg pe_int) (fun _ _ => rfl)) pa_nil)) (by rfl))
      (pss_cons (ps_if (PW.pt (pw_and (pt_cmpR op_eq (pv 3) pe_int (nomark _)) (pw_and1 (pt_cmpR op_eq (pv 4) pe_int (nomark _))))) (pss_one (ps_ret pe_str)) pss_nil)
      (pss_cons (ps_if (PW.pt (pw_and (pt_cmpR op_eq (pv 3) (pv 4) (nomark _)) (pw_and (pt_cmpR op_ge (pv 3) (pv 2) (nomark _)) (pw_and1 (pt_cmpR op_eq (pe_op op_mod (pv 3) (pv 2)) (pv 1) (nomark _)))))) (pss_one (ps_ret pe_str)) pss_nil)
      (pss_one (ps_ret pe_str))))), ?_⟩
  refine s_start (by simp only [L2.start, List.map_cons, List.map_nil, List.length_cons, List.length_nil, Nat.reduceAdd, Nat.reduceSub, List.replicate, List.cons_append, List.nil_append]; rfl) ?_
  unfold kindS at k
  k_splitN
  all_goals first
    | (rw [if_pos (by omega)] at k; exact k)
    | (rw [if_neg (by omega), if_pos (by omega)] at k; exact k)
    | (rw [if_neg (by omega), if_neg (by omega)] at k; exact k)
theorem ok_pieces {f : Addr} {fd : FuncData} (F : Fun K "pieces" "pieces" st_pieces f fd) (T : Txt K mg Z)  : FnOk P w K mg base CX0 1 f fd ["row"] (sp_pieces K Z) := by
  have cl_Log := T.cl_Log
  have na_Log__cut := T.na_Log__cut
  have na_Log__disk := T.na_Log__disk
  have na_Log__gone := T.na_Log__gone
  have na_Log__number := T.na_Log__number
  have na_Log__rows := T.na_Log__rows
  have na_Log__torn := T.na_Log__torn
  have cl_Disk := T.cl_Disk
  have na_Disk__blocks := T.na_Disk__blocks
  have na_Disk__let := T.na_Disk__let
  have na_Disk__part := T.na_Disk__part
  have na_Disk__reads := T.na_Disk__reads
  have na_Disk__writes := T.na_Disk__writes
  refine F.ok sc_pieces (fun vs H Q E h => ?_) (fun cdv A outer s H vs Q E hr h => ?_)
  · obtain ⟨_, _, rfl, _⟩ := h
    rfl
  obtain ⟨a, ns, rfl, ha, hz, k⟩ := h
  have hS := Hs.startI (Holds.one ha)
  refine ⟨_, (pss_cons (ps_set (i := 1) sc_pieces.nd rfl (Or.inr rfl) (pe_lst (pa_cons (pe_callB (call_lenK (K := K)) (by rfl) T.m_len (by decide +kernel) (pa_cons (pv 0) pa_nil)) (pa_starK (K := K) (pv 0) pa_nil))))
      (pss_cons (ps_while PassesOwn.never (pt_cmpR op_ne (pe_op op_mod (pe_callB (call_lenK (K := K)) (by rfl) T.m_len (by decide +kernel) (pa_cons (pv 1) pa_nil)) (pe_globC T.c_PIECE_WORDS rfl)) pe_int (nomark _))
      (pss_one (ps_expr (pe_bmK (K := K) PySem.F.plainAttrs_list PySem.F.slot_list_append PySem.F.type_list_append mt_append (pv 1) (pa_cons pe_int pa_nil)))))
      (pss_one (ps_ret (pe_lc (own := [("at", 2)]) (g := gName 2) (by rfl) sc_pieces.nd (pi_range3 rfl T.m_range (pa_cons pe_int (pa_cons (pe_callB (call_lenK (K := K)) (by rfl) T.m_len (by decide +kernel) (pa_cons (pv 1) pa_nil)) (pa_cons (pe_globC T.c_PIECE_WORDS rfl) pa_nil)))) (blkOk_by (N := ["row", "data", "at"]) (sc := defScope st_pieces) (by decide +kernel)) (fun _ _ _ _ _ => pg_name (i := 2) sc_pieces.nd rfl (Or.inl rfl)) (fun _ _ _ _ _ => pts_nil) (fun _ _ _ _ _ => (pe_slice (sl_listK (K := K)) (pv 1) (po_some (pv 2)) (po_some (pe_op op_add (pv 2) (pe_globC T.c_PIECE_WORDS rfl)))))))))), ?_⟩
  refine s_start (by simp only [L2.start, List.map_cons, List.map_nil, List.length_cons, List.length_nil, Nat.reduceAdd, Nat.reduceSub, List.replicate, List.cons_append, List.nil_append]; rfl) ?_
  k_node
  rename_i D H1 hS1 _ hD
  have e0 : V.int ((List.map V.int ns).length : Nat) :: (List.map V.int ns ++ []) = (dL ns 0).map V.int := by simp [dL]
  rw [e0] at hS1
  k_spoken
  refine f_while ((3 - (ns.length + 1) % 3) % 3) (fun m σ H' => ∃ k, k + m = (3 - (ns.length + 1) % 3) % 3 ∧ σ = [some (.ref a), some (.ref D), none] ∧ Hs [] H H' [(D, .lst ((dL ns k).map V.int))] [(a, .lst (ns.map V.int))]) ⟨0, by omega, rfl, hS1⟩ ?_
  rintro m σ H2 ⟨k0, hk, rfl, hS2⟩
  have hlen : ((List.map V.int (dL ns k0)).length) = ns.length + 1 + k0 := by rw [List.length_map, dL_len]
  k_spoken
  rw [hlen]
  apply s_iteD
  · intro c
    k_spoken
    refine ⟨m - 1, by omega, k0 + 1, by omega, rfl, ?_⟩
    rw [← dL_snoc]
    assumption
  · intro c
    k_spoken
    have en : ((((List.map V.int (dL ns k0)).length : Nat) + 2 : Int) / 3).toNat = ns.length / 3 + 1 := by
      rw [hlen]
      omega
    rw [en]
    refine f_lcC fun Dn hDn => ⟨fun i H' => ∃ qs : List Addr, qs.length = i ∧ Hs [] H H' ((Dn, .lst (qs.map V.ref)) :: (rowsL qs ((pcs ns).take i) ++ [(D, .lst ((dL ns k0).map V.int))])) [(a, .lst (ns.map V.int))], ⟨[], rfl, hS2.new hDn _⟩, ?_, ?_⟩
    · rintro i H3 hi ⟨qs, hl, hS3⟩
      k_spoken
      rename_i q H4 hS4 _ _ H5 hS5 _
      refine ⟨qs ++ [q], by rw [List.length_append, hl]; rfl, ?_⟩
      have hp := pcs_get hi
      rw [cutV_ints, cut3 (i := i) (by rw [dL_len]; omega) (by omega) (by omega)] at hS5
      rw [take_snoc hp, rowsL_snoc _ _ (by rw [List.length_take, pcs_len]; omega), List.map_append]
      exact Hs.snoc hS5
    · rintro H3 ⟨qs, hl, hS3⟩
      rw [List.take_of_length_le (by rw [pcs_len]; exact Nat.le_refl _)] at hS3
      exact k _ _ _ (by rw [hl, pcs_len]) (Hs.dropI (Hs.sub hS3 (by k_drop)))
theorem ok_length_of {f : Addr} {fd : FuncData} (F : Fun K "length_of" "length_of" st_length_of f fd) (T : Txt K mg Z) (D_pieces : DefOk P w K mg base CX0 1 "pieces" ["row"] (sp_pieces K Z)) : FnOk P w K mg base CX0 2 f fd ["row"] (sp_length_of K Z) := by
  have cl_Log := T.cl_Log
  have na_Log__cut := T.na_Log__cut
  have na_Log__disk := T.na_Log__disk
  have na_Log__gone := T.na_Log__gone
  have na_Log__number := T.na_Log__number
  have na_Log__rows := T.na_Log__rows
  have na_Log__torn := T.na_Log__torn
  have cl_Disk := T.cl_Disk
  have na_Disk__blocks := T.na_Disk__blocks
  have na_Disk__let := T.na_Disk__let
  have na_Disk__part := T.na_Disk__part
  have na_Disk__reads := T.na_Disk__reads
  have na_Disk__writes := T.na_Disk__writes
  refine F.ok sc_length_of (fun vs H Q E h => ?_) (fun cdv A outer s H vs Q E hr h => ?_)
  · obtain ⟨_, _, rfl, _⟩ := h
    rfl
  obtain ⟨a, ns, rfl, ha, hz, k⟩ := h
  have hS := Hs.startI (Holds.one ha)
  refine ⟨_, (pss_one (ps_ret (pe_callB (call_lenK (K := K)) (by rfl) T.m_len (by decide +kernel) (pa_cons (pe_callD D_pieces hr (by rfl) pass0 (pa_cons (pv 0) pa_nil)) pa_nil)))), ?_⟩
  refine s_start (by simp only [L2.start, List.map_cons, List.map_nil, List.length_cons, List.length_nil, Nat.reduceAdd, Nat.reduceSub, List.replicate, List.cons_append, List.nil_append]; rfl) ?_
  k_spoken
  rename_i p qs H1 hl _ _
  have e : (List.map V.ref qs).length = (pcs ns).length := by rw [List.length_map, hl]
  rw [e]
  exact k _ (Hs.up (by assumption))
theorem ok_words_of {f : Addr} {fd : FuncData} (F : Fun K "words_of" "words_of" st_words_of f fd) (T : Txt K mg Z)  : FnOk P w K mg base CX0 1 f fd ["some"] (sp_words_of K Z) := by
  have cl_Log := T.cl_Log
  have na_Log__cut := T.na_Log__cut
  have na_Log__disk := T.na_Log__disk
  have na_Log__gone := T.na_Log__gone
  have na_Log__number := T.na_Log__number
  have na_Log__rows := T.na_Log__rows
  have na_Log__torn := T.na_Log__torn
  have cl_Disk := T.cl_Disk
  have na_Disk__blocks := T.na_Disk__blocks
  have na_Disk__let := T.na_Disk__let
  have na_Disk__part := T.na_Disk__part
  have na_Disk__reads := T.na_Disk__reads
  have na_Disk__writes := T.na_Disk__writes
  refine F.ok sc_words_of (fun vs H Q E h => ?_) (fun cdv A outer s H vs Q E hr h => ?_)
  · obtain ⟨_, _, _, rfl, _⟩ := h
    rfl
  obtain ⟨a, bs, ws, rfl, hH, hl, h8, h0, hz, k⟩ := h
  have hS := Hs.startI hH
  refine ⟨_, (pss_cons (ps_set (i := 1) sc_words_of.nd rfl (Or.inl rfl) (pe_lst pa_nil))
      (pss_cons (ps_for PassesOwn.never rfl (pi_listK (K := K) (pv 0)) (pg_name (i := 2) sc_words_of.nd rfl (Or.inl rfl))
      (pss_one (ps_expr (pe_bmK (K := K) PySem.F.plainAttrs_list PySem.F.slot_list_extend PySem.F.type_list_extend mt_extend (pv 1) (pa_cons (pe_slice (sl_listK (K := K)) (pv 2) (po_some (pe_globC T.c_DATA_FROM rfl)) (po_some (pe_globC T.c_DATA_TO rfl))) pa_nil)))))
      (pss_cons (ps_set (i := 3) sc_words_of.nd rfl (Or.inl rfl) (pe_ix (ix_listK (K := K)) (pv 1) pe_int (fun _ _ => rfl)))
      (pss_one (ps_ret (pe_slice (sl_listK (K := K)) (pv 1) (po_some pe_int) (po_some (pe_op op_add pe_int (pv 3))))))))), ?_⟩
  refine s_start (by simp only [L2.start, List.map_cons, List.map_nil, List.length_cons, List.length_nil, Nat.reduceAdd, Nat.reduceSub, List.replicate, List.cons_append, List.nil_append]; rfl) ?_
  k_node
  rename_i D H1 hS1 _ hD
  k_node
  refine f_list (xs := bs.map V.ref) (fun i σ H' => ∃ x2 : Option V, σ = [some (.ref a), some (.ref D), x2, none] ∧ Hs [] H H' [(D, .lst ((mids (ws.take i)).map V.int))] ((a, .lst (bs.map V.ref)) :: rowsL bs ws)) ⟨_, rfl, hS1⟩ ?_ ?_ ?_
  · rintro i σ H' _ ⟨x2, _, hS2⟩
    exact SqL.of (hS2.getI List.mem_cons_self)
  · rintro i x σ H2 hx ⟨x2, rfl, hS2⟩
    have hi : i < ws.length := by
      have := (List.getElem?_eq_some_iff.mp hx).1
      rw [List.length_map] at this
      omega
    obtain ⟨w, hw⟩ : ∃ w, ws[i]? = some w := ⟨_, List.getElem?_eq_getElem hi⟩
    obtain ⟨b, hb⟩ : ∃ b, bs[i]? = some b := ⟨_, List.getElem?_eq_getElem (by omega)⟩
    obtain rfl : x = V.ref b := by
      rw [List.getElem?_map, hb] at hx
      exact (Option.some.inj hx).symm
    have hw8 := h8 w (List.mem_of_getElem? hw)
    have hmem := rowsL_get hb hw
    have hml : (mids (ws.take i)).length = 3 * i := by
      rw [mids_len fun x hx => h8 x (List.mem_of_mem_take hx), List.length_take]
      omega
    k_spoken
    rename_i H4 hS4 _
    rw [cutV_ints, cut47 hw8] at hS4
    refine ⟨_, rfl, ?_⟩
    rw [take_snoc hw, mids_snoc, List.map_append]
    exact Hs.sub hS4 (by k_drop)
  · rintro σ H2 ⟨x2, rfl, hS2⟩
    rw [List.length_map, hl, List.take_length] at hS2
    have hml := mids_len h8
    have hpos : 0 < ws.length := List.length_pos_iff.mpr h0
    have h00 : atI ((mids ws).map V.int) 0 = some (V.int ((mids ws).getD 0 0)) := by
      refine atI_nat (j := 0) ?_
      rw [List.getElem?_map, List.getD_eq_getElem?_getD, List.getElem?_eq_getElem (by omega)]
      rfl
    k_sweep
    rename_i p H3 hS3 _ hn
    rw [cutV_ints] at hS3
    exact k.end_ hn (by assumption) hS3 (by k_here)
theorem ok_newest {f : Addr} {fd : FuncData} (F : Fun K "newest" "newest" st_newest f fd) (T : Txt K mg Z) (D_kind : DefOk P w K mg base CX0 1 "kind" ["words", "place", "many"] (sp_kind K Z)) (D_number_in_last_place : DefOk P w K mg base CX0 4 "_number_in_last_place" ["disk"] (sp_number_in_last_place K Z)) (D_newest_of_round : DefOk P w K mg base CX0 4 "_newest_of_round" ["disk", "start"] (sp_newest_of_round K Z)) (M_Disk_blocks : MethOk P w K mg base CX0 1 Z.Disk "blocks" ["self"] (sp_Disk_blocks K Z)) (M_Disk_read : MethOk P w K mg base (L2N.CX P w) 3 Z.Disk "read" ["self", "place"] (sp_Disk_read K Z)) : FnOk P w K mg base CX0 5 f fd ["disk"] (sp_newest K Z) := by
  obtain ⟨f_Disk_blocks, fd_Disk_blocks, G_Disk_blocks, b_Disk_blocks, m_Disk_blocks⟩ := M_Disk_blocks.ex
  obtain ⟨f_Disk_read, fd_Disk_read, G_Disk_read, b_Disk_read, m_Disk_read⟩ := M_Disk_read.ex
  have cl_Log := T.cl_Log
  have na_Log__cut := T.na_Log__cut
  have na_Log__disk := T.na_Log__disk
  have na_Log__gone := T.na_Log__gone
  have na_Log__number := T.na_Log__number
  have na_Log__rows := T.na_Log__rows
  have na_Log__torn := T.na_Log__torn
  have cl_Disk := T.cl_Disk
  have na_Disk__blocks := T.na_Disk__blocks
  have na_Disk__let := T.na_Disk__let
  have na_Disk__part := T.na_Disk__part
  have na_Disk__reads := T.na_Disk__reads
  have na_Disk__writes := T.na_Disk__writes
  refine F.ok sc_newest (fun vs H Q E h => ?_) (fun cdv A outer s H vs Q E hr h => ?_)
  · obtain ⟨_, _, _, _, rfl, _⟩ := h
    rfl
  obtain ⟨d, s, num, torn, rfl, hH, ok, L, k⟩ := h
  have hS := Hs.startL hH
  refine ⟨_, (pss_cons (ps_set (i := 1) sc_newest.nd rfl (Or.inl rfl) (pe_meth0 (pv 0) T.cl_Disk m_Disk_blocks G_Disk_blocks (hr.mono (by decide)) b_Disk_blocks .nil pass0))
      (pss_cons (ps_set (i := 2) sc_newest.nd rfl (Or.inl rfl) (pe_meth (pv 0) T.cl_Disk m_Disk_read G_Disk_read (hr.mono (by decide)) b_Disk_read .nil passLN (pa_cons pe_int pa_nil)))
      (pss_cons (ps_set (i := 3) sc_newest.nd rfl (Or.inl rfl) (pe_callD D_kind hr (by rfl) pass0 (pa_cons (pv 2) (pa_cons pe_int (pa_cons (pv 1) pa_nil)))))
      (pss_cons (ps_if (pt_cmpR op_eq (pv 3) pe_str (nomark _)) (pss_one (ps_ret (pe_tup (pa_cons (pe_op op_sub (pv 1) pe_int) (pa_cons pe_non pa_nil))))) pss_nil)
      (pss_cons (ps_if (pt_cmpR op_eq (pv 3) pe_str (nomark _)) (pss_one (ps_ret (pe_tup (pa_cons (pe_callD D_number_in_last_place hr (by rfl) pass0 (pa_cons (pv 0) pa_nil)) (pa_cons pe_int pa_nil))))) pss_nil)
      (pss_one (ps_ret (pe_callD D_newest_of_round hr (by rfl) pass0 (pa_cons (pv 0) (pa_cons (pe_ix (ix_listK (K := K)) (pv 2) (pe_globC T.c_NUMBER rfl) (fun _ _ => rfl)) pa_nil)))))))))), ?_⟩
  refine s_start (by simp only [L2.start, List.map_cons, List.map_nil, List.length_cons, List.length_nil, Nat.reduceAdd, Nat.reduceSub, List.replicate, List.cons_append, List.nil_append]; rfl) ?_
  have h4 := ok.lo
  k_node
  refine ⟨d, s, rfl, hH, ok, ?_⟩
  k_spoken
  k_node
  refine ⟨d, s, .int 0, rfl, hH, ok, trivial, fun c => ?_, fun i ei hi q H2 f => ?_⟩
  · simp only [wholeB, Bool.and_eq_false_iff, decide_eq_false_iff_not] at c
    omega
  have hS2 := hS.seg f .end_
  obtain rfl : i = 0 := by
    have : (0 : Int) = i := V.int.inj ei
    omega
  have hw8 : (s.ws.getD 0 []).length = 8 := by
    rw [List.getD_eq_getElem?_getD, List.getElem?_eq_getElem hi]
    exact ok.each _ (List.getElem_mem _)
  have fq : H2 q = some (.lst ((s.ws.getD 0 []).map V.int)) := hS2.getM (.head _)
  rw [eightV hw8] at fq
  have hz := L.zero (by omega)
  unfold fstW lstW at hz
  generalize s.ws.getD 0 [] = w at *
  have e0 : atI [V.int (w.getD 0 0), V.int (w.getD 1 0), V.int (w.getD 2 0), V.int (w.getD 3 0), V.int (w.getD 4 0), V.int (w.getD 5 0), V.int (w.getD 6 0), V.int (w.getD 7 0)] 0 = some (V.int (w.getD 0 0)) := rfl
  have hS3 := hS2.sub (M' := diskL Z d { s with r := s.r + 1 }) (.cons _ (List.Sublist.refl _))
  have ok2 : ({ s with r := s.r + 1 } : DS).Ok := ⟨ok.len, ok.lo, ok.hi, ok.each⟩
  clear hS2 f
  k_spoken
  k_node
  rcases hz with ⟨z1, z2, z3⟩ | ⟨z1, z2, z3⟩ | ⟨z1, start, z2, z3, z4, z5, z6, z7⟩
  · have z1 : kindS (w.getD 0 0) (w.getD 7 0) 0 s.ws.length = "empty" := z1
    rw [z1]
    subst z2 z3
    k_sweep
    rename_i t H3 hS4 _ _
    exact k t (s.r + 1) _ (by omega) (by omega) (Frm.of hS4 (List.Sublist.refl _))
  · have z1 : kindS (w.getD 0 0) (w.getD 7 0) 0 s.ws.length = "torn" := z1
    rw [z1]
    subst z2
    k_sweep
    refine ⟨d, { s with r := s.r + 1 }, num, rfl, hS3.part (List.Sublist.refl _), ok2, L, z3, fun H4 f => ?_⟩
    have hS5 := hS3.seg f .end_
    k_sweep
    rename_i t H5 hS6 _ _
    exact k t (s.r + 1 + 1) _ (by omega) (by omega) (Frm.of hS6 (List.Sublist.refl _))
  · have z1 : kindS (w.getD 0 0) (w.getD 7 0) 0 s.ws.length = "whole" := z1
    rw [z1]
    k_sweep
    refine ⟨d, { s with r := s.r + 1 }, start, num, torn, by rw [z2], hS3.part (List.Sublist.refl _), ok2, L, z3, z4, z5, z6, z7, fun t r' H4 h1 h2 f => ?_⟩
    have h1 : s.r + 1 ≤ r' := h1
    have h2 : r' ≤ s.r + 1 + (bitsI ((s.ws.length : Int) - 1) : Nat) := h2
    have hS5 := hS3.seg f .end_
    k_sweep
    exact k t r' _ (by omega) (by omega) (Frm.of hS5 (List.Sublist.refl _))
theorem ok_number_in_last_place {f : Addr} {fd : FuncData} (F : Fun K "_number_in_last_place" "_number_in_last_place" st_number_in_last_place f fd) (T : Txt K mg Z) (D_kind : DefOk P w K mg base CX0 1 "kind" ["words", "place", "many"] (sp_kind K Z)) (M_Disk_blocks : MethOk P w K mg base CX0 1 Z.Disk "blocks" ["self"] (sp_Disk_blocks K Z)) (M_Disk_read : MethOk P w K mg base (L2N.CX P w) 3 Z.Disk "read" ["self", "place"] (sp_Disk_read K Z)) : FnOk P w K mg base CX0 4 f fd ["disk"] (sp_number_in_last_place K Z) := by
  obtain ⟨f_Disk_blocks, fd_Disk_blocks, G_Disk_blocks, b_Disk_blocks, m_Disk_blocks⟩ := M_Disk_blocks.ex
  obtain ⟨f_Disk_read, fd_Disk_read, G_Disk_read, b_Disk_read, m_Disk_read⟩ := M_Disk_read.ex
  have cl_Log := T.cl_Log
  have na_Log__cut := T.na_Log__cut
  have na_Log__disk := T.na_Log__disk
  have na_Log__gone := T.na_Log__gone
  have na_Log__number := T.na_Log__number
  have na_Log__rows := T.na_Log__rows
  have na_Log__torn := T.na_Log__torn
  have cl_Disk := T.cl_Disk
  have na_Disk__blocks := T.na_Disk__blocks
  have na_Disk__let := T.na_Disk__let
  have na_Disk__part := T.na_Disk__part
  have na_Disk__reads := T.na_Disk__reads
  have na_Disk__writes := T.na_Disk__writes
  refine F.ok sc_number_in_last_place (fun vs H Q E h => ?_) (fun cdv A outer s H vs Q E hr h => ?_)
  · obtain ⟨_, _, _, rfl, _⟩ := h
    rfl
  obtain ⟨d, s, num, rfl, hH, ok, L, hm, k⟩ := h
  have hS := Hs.startL hH
  refine ⟨_, (pss_cons (ps_set (i := 1) sc_number_in_last_place.nd rfl (Or.inl rfl) (pe_meth0 (pv 0) T.cl_Disk m_Disk_blocks G_Disk_blocks (hr.mono (by decide)) b_Disk_blocks .nil pass0))
      (pss_cons (ps_set (i := 2) sc_number_in_last_place.nd rfl (Or.inl rfl) (pe_meth (pv 0) T.cl_Disk m_Disk_read G_Disk_read (hr.mono (by decide)) b_Disk_read .nil passLN (pa_cons (pe_op op_sub (pv 1) pe_int) pa_nil)))
      (pss_cons (ps_if (pt_cmpR op_eq (pe_callD D_kind hr (by rfl) pass0 (pa_cons (pv 2) (pa_cons (pe_op op_sub (pv 1) pe_int) (pa_cons (pv 1) pa_nil)))) pe_str (nomark _)) (pss_one (ps_ret (pe_ix (ix_listK (K := K)) (pv 2) (pe_globC T.c_NUMBER rfl) (fun _ _ => rfl)))) pss_nil)
      (pss_one (ps_ret (pe_op op_sub (pv 1) pe_int)))))), ?_⟩
  refine s_start (by simp only [L2.start, List.map_cons, List.map_nil, List.length_cons, List.length_nil, Nat.reduceAdd, Nat.reduceSub, List.replicate, List.cons_append, List.nil_append]; rfl) ?_
  have h4 := ok.lo
  k_node
  refine ⟨d, s, rfl, hH, ok, ?_⟩
  k_spoken
  k_node
  refine ⟨d, s, .int ((s.ws.length : Int) - 1), rfl, hH, ok, trivial, fun c => ?_, fun i ei hi q H2 f => ?_⟩
  · simp only [wholeB, Bool.and_eq_false_iff, decide_eq_false_iff_not] at c
    omega
  have hS2 := hS.seg f .end_
  obtain rfl : i = s.ws.length - 1 := by
    have : (s.ws.length : Int) - 1 = i := V.int.inj ei
    omega
  have hw8 : (s.ws.getD (s.ws.length - 1) []).length = 8 := by
    rw [List.getD_eq_getElem?_getD, List.getElem?_eq_getElem hi]
    exact ok.each _ (List.getElem_mem _)
  have fq : H2 q = some (.lst _) := hS2.getM (.head _)
  rw [eightV hw8] at fq
  have e0 : atI ((s.ws.getD (s.ws.length - 1) []).map V.int) 0 = some (V.int ((s.ws.getD (s.ws.length - 1) []).getD 0 0)) := at8 hw8 (i := 0) (by decide)
  rw [eightV hw8] at e0
  have hn : (((s.ws.length - 1 : Nat) : Int)) = (s.ws.length : Int) - 1 := by omega
  have hl := L.last (by omega) hm
  rw [hn] at hl
  unfold fstW lstW at hl
  k_spoken
  k_node
  rcases hl with ⟨l1, l2⟩ | ⟨l1, l2⟩
  · rw [l1]
    k_sweep
    rw [l2]
    exact k _ (Frm.of hS2 (.cons _ (List.Sublist.refl _)))
  · rw [l1]
    k_sweep
    rw [← l2]
    exact k _ (Frm.of hS2 (.cons _ (List.Sublist.refl _)))
theorem ok_newest_of_round {f : Addr} {fd : FuncData} (F : Fun K "_newest_of_round" "_newest_of_round" st_newest_of_round f fd) (T : Txt K mg Z) (D_kind : DefOk P w K mg base CX0 1 "kind" ["words", "place", "many"] (sp_kind K Z)) (M_Disk_blocks : MethOk P w K mg base CX0 1 Z.Disk "blocks" ["self"] (sp_Disk_blocks K Z)) (M_Disk_read : MethOk P w K mg base (L2N.CX P w) 3 Z.Disk "read" ["self", "place"] (sp_Disk_read K Z)) : FnOk P w K mg base CX0 4 f fd ["disk", "start"] (sp_newest_of_round K Z) := by
  obtain ⟨f_Disk_blocks, fd_Disk_blocks, G_Disk_blocks, b_Disk_blocks, m_Disk_blocks⟩ := M_Disk_blocks.ex
  obtain ⟨f_Disk_read, fd_Disk_read, G_Disk_read, b_Disk_read, m_Disk_read⟩ := M_Disk_read.ex
  have cl_Log := T.cl_Log
  have na_Log__cut := T.na_Log__cut
  have na_Log__disk := T.na_Log__disk
  have na_Log__gone := T.na_Log__gone
  have na_Log__number := T.na_Log__number
  have na_Log__rows := T.na_Log__rows
  have na_Log__torn := T.na_Log__torn
  have cl_Disk := T.cl_Disk
  have na_Disk__blocks := T.na_Disk__blocks
  have na_Disk__let := T.na_Disk__let
  have na_Disk__part := T.na_Disk__part
  have na_Disk__reads := T.na_Disk__reads
  have na_Disk__writes := T.na_Disk__writes
  refine F.ok sc_newest_of_round (fun vs H Q E h => ?_) (fun cdv A outer s H vs Q E hr h => ?_)
  · obtain ⟨_, _, _, _, _, rfl, _⟩ := h
    rfl
  obtain ⟨d, s, start, num, torn, rfl, hH, ok, L, hs0, hsn, hs1, hs2, hst, k⟩ := h
  have hS := Hs.startL hH
  refine ⟨_, (pss_cons (ps_set (i := 2) sc_newest_of_round.nd rfl (Or.inl rfl) (pe_meth0 (pv 0) T.cl_Disk m_Disk_blocks G_Disk_blocks (hr.mono (by decide)) b_Disk_blocks .nil pass0))
      (pss_cons (ps_set (i := 3) sc_newest_of_round.nd rfl (Or.inl rfl) pe_int)
      (pss_cons (ps_set (i := 4) sc_newest_of_round.nd rfl (Or.inl rfl) (pv 2))
      (pss_cons (ps_set (i := 5) sc_newest_of_round.nd rfl (Or.inl rfl) pe_non)
      (pss_cons (ps_while PassesOwn.never (pt_cmpR op_gt (pe_op op_sub (pv 4) (pv 3)) pe_int (nomark _))
      (pss_cons (ps_set (i := 6) sc_newest_of_round.nd rfl (Or.inl rfl) (pe_op op_fdiv (pe_op op_add (pv 3) (pv 4)) pe_int))
      (pss_cons (ps_set (i := 7) sc_newest_of_round.nd rfl (Or.inl rfl) (pe_meth (pv 0) T.cl_Disk m_Disk_read G_Disk_read (hr.mono (by decide)) b_Disk_read .nil passLN (pa_cons (pv 6) pa_nil)))
      (pss_cons (ps_set (i := 8) sc_newest_of_round.nd rfl (Or.inl rfl) (pe_callD D_kind hr (by rfl) pass0 (pa_cons (pv 7) (pa_cons (pv 6) (pa_cons (pv 2) pa_nil)))))
      (pss_one (ps_if (PW.pt (pw_and (pt_cmpR op_eq (pv 8) pe_str (nomark _)) (pw_and1 (pt_cmpR op_eq (pe_ix (ix_listK (K := K)) (pv 7) (pe_globC T.c_NUMBER rfl) (fun _ _ => rfl)) (pe_op op_add (pv 1) (pv 6)) (nomark _))))) (pss_one (ps_set (i := 3) sc_newest_of_round.nd rfl (Or.inl rfl) (pv 6))) (pss_cons (ps_set (i := 4) sc_newest_of_round.nd rfl (Or.inl rfl) (pv 6))
      (pss_one (ps_set (i := 5) sc_newest_of_round.nd rfl (Or.inl rfl) (pe_ifExp (pt_cmpR op_eq (pv 8) pe_str (nomark _)) (pv 6) pe_non))))))))))
      (pss_one (ps_ret (pe_tup (pa_cons (pe_op op_add (pv 1) (pv 3)) (pa_cons (pv 5) pa_nil)))))))))), ?_⟩
  refine s_start (by simp only [L2.start, List.map_cons, List.map_nil, List.length_cons, List.length_nil, Nat.reduceAdd, Nat.reduceSub, List.replicate, List.cons_append, List.nil_append]; rfl) ?_
  have h4 := ok.lo
  k_node
  refine ⟨d, s, rfl, hH, ok, ?_⟩
  k_spoken
  k_node
  k_node
  k_node
  with_reducible apply s_seq
  refine f_while (s.ws.length) (fun m σ H' => ∃ (low high r' : Int) (x6 x7 x8 : Option V), σ = [some (.ref d), some (.int start), some (.int s.ws.length), some (.int low), some (.int high), some (ltV (if start + high = num + 1 then torn else none)), x6, x7, x8] ∧ 0 ≤ low ∧ low < high ∧ high ≤ s.ws.length ∧ start + low ≤ num ∧ num < start + high ∧ (m : Int) = high - low ∧ s.r ≤ r' ∧ r' + (bitsI (high - low - 1) : Nat) ≤ s.r + (bitsI ((s.ws.length : Int) - 1) : Nat) ∧ Hs ((diskL Z d s).map Prod.fst) H H' (diskL Z d { s with r := r' }) []) ⟨0, s.ws.length, s.r, none, none, none, ?_, Int.le_refl _, by omega, Int.le_refl _, by omega, by omega, by omega, Int.le_refl _, by rw [Int.sub_zero]; exact Int.le_refl _, hS⟩ ?_
  · have e : (if start + (s.ws.length : Int) = num + 1 then torn else none) = none := by
      split
      · rename_i c; exact hst c
      · rfl
    rw [e]
    rfl
  rintro m σ H2 ⟨low, high, r', x6, x7, x8, rfl, hl0, hlh, hhn, hln, hnh, hm, hr0, hr1, hS2⟩
  k_spoken
  apply s_iteD
  · intro c
    have c : 1 < high - low := c
    obtain ⟨i, hi⟩ : ∃ i : Nat, (low + high) / 2 = (i : Int) := ⟨((low + high) / 2).toNat, by omega⟩
    have hin : i < s.ws.length := by omega
    have hbs := bitsI_step c rfl
    rw [hi] at hbs
    k_spoken
    k_node
    rw [hi]
    k_node
    have ok2 : ({ s with r := r' } : DS).Ok := ⟨ok.len, ok.lo, ok.hi, ok.each⟩
    refine ⟨d, { s with r := r' }, .int i, rfl, hS2.part (List.Sublist.refl _), ok2, trivial, fun cc => ?_, fun j ej hj q H3 f => ?_⟩
    · simp only [wholeB, Bool.and_eq_false_iff, decide_eq_false_iff_not] at cc
      omega
    obtain rfl : i = j := by
      have : (i : Int) = j := V.int.inj ej
      omega
    have hS3 := hS2.seg f .end_
    have hw8 : (s.ws.getD i []).length = 8 := by
      rw [List.getD_eq_getElem?_getD, List.getElem?_eq_getElem hin]
      exact ok.each _ (List.getElem_mem _)
    have fq : H3 q = some (.lst ((s.ws.getD i []).map V.int)) := hS3.getM (.head _)
    rw [eightV hw8] at fq
    have hmid := L.mid hs0 hsn hs1 hs2 hin (by omega)
    unfold fstW lstW at hmid
    generalize s.ws.getD i [] = w at *
    have e0 : atI [V.int (w.getD 0 0), V.int (w.getD 1 0), V.int (w.getD 2 0), V.int (w.getD 3 0), V.int (w.getD 4 0), V.int (w.getD 5 0), V.int (w.getD 6 0), V.int (w.getD 7 0)] 0 = some (V.int (w.getD 0 0)) := rfl
    have hS4 := hS3.sub (M' := diskL Z d { s with r := r' + 1 }) (.cons _ (List.Sublist.refl _))
    clear hS3 f
    k_spoken
    k_node
    k_spoken
    by_cases cn : start + (i : Int) ≤ num
    · obtain ⟨z1, z2⟩ := hmid.1 cn
      rw [z1]
      k_sweep
      exact ⟨(high - i).toNat, by omega, i, high, r' + 1, _, _, _, rfl, by omega, by omega, hhn, cn, hnh, by omega, by omega, by have := hbs.1; omega, hS4⟩
    · obtain ⟨z1, z2, z3, z4⟩ := hmid.2 (by omega)
      generalize hK : kindS (w.getD 0 0) (w.getD 7 0) i s.ws.length = kd at *
      have fin : ∀ tv : Option Int, tv = (if start + (i : Int) = num + 1 then torn else none) → ∃ m', m' < m ∧ ∃ (low' high r' : Int) (x6 x7 x8 : Option V), [some (V.ref d), some (.int start), some (.int s.ws.length), some (.int low), some (.int (i : Int)), some (ltV tv), some (V.int i), some (.ref q), some (.str kd)] = [some (.ref d), some (.int start), some (.int s.ws.length), some (.int low'), some (.int high), some (ltV (if start + high = num + 1 then torn else none)), x6, x7, x8] ∧ 0 ≤ low' ∧ low' < high ∧ high ≤ s.ws.length ∧ start + low' ≤ num ∧ num < start + high ∧ (m' : Int) = high - low' ∧ s.r ≤ r' ∧ r' + (bitsI (high - low' - 1) : Nat) ≤ s.r + (bitsI ((s.ws.length : Int) - 1) : Nat) ∧ Hs ((diskL Z d s).map Prod.fst) H H3 (diskL Z d { s with r := r' }) [] := by
        intro tv e
        exact ⟨(i - low).toNat, by omega, low, i, r' + 1, _, _, _, by rw [e], hl0, by omega, by omega, hln, by omega, by omega, by omega, by have := hbs.2; omega, hS4⟩
      have tors : (kd = "torn" → some (i : Int) = (if start + (i : Int) = num + 1 then torn else none)) ∧ (kd ≠ "torn" → none = (if start + (i : Int) = num + 1 then torn else none)) := by
        by_cases c1 : start + (i : Int) = num + 1
        · rw [if_pos c1]
          cases ht : torn with
          | none => exact ⟨fun e => absurd e (z2 c1 ht), fun _ => rfl⟩
          | some t =>
            obtain ⟨y1, y2⟩ := z3 c1 (by rw [ht]; simp)
            rw [ht] at y1
            exact ⟨fun _ => y1.symm, fun e => absurd y2 e⟩
        · rw [if_neg c1]
          exact ⟨fun e => absurd e (z4 c1), fun _ => rfl⟩
      have last : ∀ hk : Prop, True := fun _ => trivial
      apply s_iteD
      · intro cw
        k_spoken
        rw [decide_eq_false (fun e => z1 ⟨cw, e⟩)]
        k_spoken
        k_node
        k_spoken
        apply s_iteD
        · intro ct
          k_sweep
          exact fin (some (i : Int)) (tors.1 ct)
        · intro ct
          k_sweep
          exact fin none (tors.2 ct)
      · intro cw
        k_spoken
        k_node
        k_spoken
        apply s_iteD
        · intro ct
          k_sweep
          exact fin (some (i : Int)) (tors.1 ct)
        · intro ct
          k_sweep
          exact fin none (tors.2 ct)
  · intro c
    have c : ¬ 1 < high - low := c
    obtain rfl : high = low + 1 := by omega
    obtain rfl : num = start + low := by omega
    rw [if_pos (by omega)] at *
    k_sweep
    rename_i t H3 hS3 _ _
    exact k t r' _ hr0 (by have : 0 ≤ (bitsI (low + 1 - low - 1) : Int) := by omega
                           omega) (Frm.of hS3 (List.Sublist.refl _))
theorem ok_rows_in {f : Addr} {fd : FuncData} (F : Fun K "rows_in" "rows_in" st_rows_in f fd) (T : Txt K mg Z) (D_words_of : DefOk P w K mg base CX0 1 "words_of" ["some"] (sp_words_of K Z)) (D_by_row : DefOk P w K mg base CX0 1 "_by_row" ["blocks"] (sp_by_row K Z)) (D_has_last : DefOk P w K mg base CX0 1 "_has_last" ["some"] (sp_has_last K Z)) : FnOk P w K mg base CX0 2 f fd ["blocks"] (sp_rows_in K Z) := by
  have cl_Log := T.cl_Log
  have na_Log__cut := T.na_Log__cut
  have na_Log__disk := T.na_Log__disk
  have na_Log__gone := T.na_Log__gone
  have na_Log__number := T.na_Log__number
  have na_Log__rows := T.na_Log__rows
  have na_Log__torn := T.na_Log__torn
  have cl_Disk := T.cl_Disk
  have na_Disk__blocks := T.na_Disk__blocks
  have na_Disk__let := T.na_Disk__let
  have na_Disk__part := T.na_Disk__part
  have na_Disk__reads := T.na_Disk__reads
  have na_Disk__writes := T.na_Disk__writes
  refine F.ok sc_rows_in (fun vs H Q E h => ?_) (fun cdv A outer s H vs Q E hr h => ?_)
  · obtain ⟨_, _, _, rfl, _⟩ := h
    rfl
  obtain ⟨a, pb, gs, rfl, hH, h8, hg, hz, k⟩ := h
  have hS := Hs.startI hH
  refine ⟨_, (pss_one (ps_ret (pe_lc (own := [("some", 1)]) (g := gName 1) (by rfl) sc_rows_in.nd (pi_listK (K := K) (pe_callD D_by_row hr (by rfl) pass0 (pa_cons (pv 0) pa_nil))) (blkOk_by (N := ["blocks", "some"]) (sc := defScope st_rows_in) (by decide +kernel)) (fun _ _ _ _ _ => pg_name (i := 1) sc_rows_in.nd rfl (Or.inl rfl)) (fun _ _ _ _ _ => (pts_one (pt_val (pe_callD D_has_last hr (by rfl) pass0 (pa_cons (pv 1) pa_nil))))) (fun _ _ _ _ _ => (pe_tup (pa_cons (pe_ix (ix_listK (K := K)) (pe_ix (ix_listK (K := K)) (pv 1) pe_int (fun _ _ => rfl)) (pe_globC T.c_BEGIN rfl) (fun _ _ => rfl)) (pa_cons (pe_callD D_words_of hr (by rfl) pass0 (pa_cons (pv 1) pa_nil)) pa_nil))))))), ?_⟩
  refine s_start (by simp only [L2.start, List.map_cons, List.map_nil, List.length_cons, List.length_nil, Nat.reduceAdd, Nat.reduceSub, List.replicate, List.cons_append, List.nil_append]; rfl) ?_
  k_spoken
  refine ⟨a, pb, gs, rfl, hH, h8, hg, hz, fun D ga H1 e hc => ?_⟩
  have hS1 := hc.frame0 hS
  rw [List.append_nil] at hS1
  have hl := grp_len Prod.snd hg
  have hl1 : gs.length ≤ 1000 := by have := hl.1; simp at this; omega
  have hga : ga.length = gs.length := by rw [← e, List.length_map]
  k_spoken
  refine f_lcL (xs := ga.map gf) fun Dn hD => ⟨fun i H' => ∃ xs : List RA, xs.map Prod.snd = rowsIn ((gs.take i).map (List.map Prod.snd)) ∧ Hs [] H H' ((Dn, .lst (xs.map tf)) :: (rL xs ++ ((D, .lst (ga.map gf)) :: gL ga))) ((a, .lst (pb.map rf)) :: bL pb), ⟨[], rfl, hS1.new hD _⟩, ?_, ?_, ?_⟩
  · rintro i H' _ ⟨xs, _, hS2⟩
    exact SqL.of (hS2.getM (.tail _ (List.mem_append_right _ (.head _))))
  · rintro i y H3 hy ⟨xs, hxs, hS3⟩
    obtain ⟨g, hgi, rfl⟩ : ∃ g, ga[i]? = some g ∧ gf g = y := by simpa using hy
    clear hy
    have hgs : gs[i]? = some g.2 := by rw [← e, List.getElem?_map, hgi]; rfl
    have hgm := List.mem_of_getElem? hgs
    obtain ⟨hsub, hne⟩ := grp_parts Prod.snd hg g.2 hgm
    obtain ⟨ini, x, hix⟩ := snoc_of hne
    obtain ⟨z, zs, hzs⟩ := List.exists_cons_of_ne_nil hne
    have hxm : x ∈ pb := hsub.subset (by rw [hix]; simp)
    have hzm : z ∈ pb := hsub.subset (by rw [hzs]; simp)
    have m1 : (g.1, HO.lst (g.2.map rf)) ∈ (Dn, HO.lst (xs.map tf)) :: (rL xs ++ ((D, HO.lst (ga.map gf)) :: gL ga)) := .tail _ (List.mem_append_right _ (.tail _ (gL_mem (List.mem_of_getElem? hgi))))
    have f1 : H3 g.1 = some (.lst (g.2.map rf)) := hS3.getM m1
    have f2 : H3 x.1 = some (.lst (x.2.map V.int)) := hS3.getI (.tail _ (bL_mem hxm))
    have f3 : H3 z.1 = some (.lst (z.2.map V.int)) := hS3.getI (.tail _ (bL_mem hzm))
    have e2 : atI (z.2.map V.int) 2 = some (V.int (z.2.getD 2 0)) := at8 (h8 z hzm) (i := 2) (by decide)
    have e0 : atI (g.2.map rf) 0 = some (V.ref z.1) := by rw [hzs]; exact atI_nat (j := 0) rfl
    have hbe : begOf (g.2.map Prod.snd) = z.2.getD 2 0 := by rw [hzs]; rfl
    have hla : hasLast (g.2.map Prod.snd) = decide (x.2.getD 3 0 = 0) := by
      unfold hasLast
      rw [hix, List.map_append]
      show decide ((((ini.map Prod.snd) ++ [x.2]).getLastD []).getD 3 0 = 0) = _
      rw [List.getLastD_concat]
    have hrn : rowsIn ((gs.take (i + 1)).map (List.map Prod.snd)) = rowsIn ((gs.take i).map (List.map Prod.snd)) ++ (if hasLast (g.2.map Prod.snd) = true then [(begOf (g.2.map Prod.snd), wordsOf (g.2.map Prod.snd))] else []) := by
      rw [take_snoc hgs, List.map_append]
      exact rowsIn_snoc _ _
    have hcl : xs.length ≤ 1000 := by
      have := congrArg List.length hxs
      rw [List.length_map] at this
      rw [this]
      unfold rowsIn
      rw [List.length_map]
      refine Nat.le_trans (List.length_filter_le _ _) ?_
      rw [List.length_map, List.length_take]
      omega
    rw [hla, hbe] at hrn
    k_spoken
    refine ⟨g.1, ini, x, rfl, by rw [← hix]; exact f1, f2, h8 x hxm, ?_⟩
    k_spoken
    cases hd : decide (x.2.getD 3 0 = 0) with
    | false =>
      rw [hd, if_neg (by decide), List.append_nil] at hrn
      k_spoken
      exact ⟨xs, by rw [hrn]; exact hxs, hS3⟩
    | true =>
      rw [hd, if_pos rfl] at hrn
      k_spoken
      have hmap : g.2.map rf = (g.2.map Prod.fst).map V.ref := by rw [List.map_map]; rfl
      have hbL : bL g.2 = rowsL (g.2.map Prod.fst) (g.2.map Prod.snd) := bL_rows _
      refine ⟨g.1, g.2.map Prod.fst, g.2.map Prod.snd, rfl, ?_, by rw [List.length_map, List.length_map], ?_, ?_, ?_, hS3.newO fun p H4 hS4 u hn => ?_⟩
      · rw [← hmap, ← hbL]
        exact hS3.holds.sub (sub_one m1 (.cons _ (hsub.map bcell)))
      · intro w hw
        obtain ⟨b, hb, rfl⟩ := List.mem_map.mp hw
        exact h8 b (hsub.subset hb)
      · intro z
        exact hne (by simpa using z)
      · rw [List.length_map]
        exact Nat.le_trans hsub.length_le hz
      · have hS4 := hS4
        k_spoken
        rename_i T H5 hS5 _ _ H6 hS6 _
        refine ⟨xs ++ [((T, p), (z.2.getD 2 0, wordsOf (g.2.map Prod.snd)))], ?_, ?_⟩
        · rw [List.map_append, hxs, hrn]
          rfl
        · rw [rL_app, List.map_append]
          exact Hs.snoc2 (A := rL xs) hS6
  · rintro H3 ⟨xs, hxs, hS3⟩
    rw [List.length_map, hga, List.take_length] at hxs
    exact k Dn xs _ hxs (Hs.dropI (Hs.sub hS3 (.cons₂ _ (List.sublist_append_left _ _))))
theorem ok_cut_in {f : Addr} {fd : FuncData} (F : Fun K "cut_in" "cut_in" st_cut_in f fd) (T : Txt K mg Z) (D_by_row : DefOk P w K mg base CX0 1 "_by_row" ["blocks"] (sp_by_row K Z)) (D_has_last : DefOk P w K mg base CX0 1 "_has_last" ["some"] (sp_has_last K Z)) : FnOk P w K mg base CX0 2 f fd ["blocks"] (sp_cut_in K Z) := by
  have cl_Log := T.cl_Log
  have na_Log__cut := T.na_Log__cut
  have na_Log__disk := T.na_Log__disk
  have na_Log__gone := T.na_Log__gone
  have na_Log__number := T.na_Log__number
  have na_Log__rows := T.na_Log__rows
  have na_Log__torn := T.na_Log__torn
  have cl_Disk := T.cl_Disk
  have na_Disk__blocks := T.na_Disk__blocks
  have na_Disk__let := T.na_Disk__let
  have na_Disk__part := T.na_Disk__part
  have na_Disk__reads := T.na_Disk__reads
  have na_Disk__writes := T.na_Disk__writes
  refine F.ok sc_cut_in (fun vs H Q E h => ?_) (fun cdv A outer s H vs Q E hr h => ?_)
  · obtain ⟨_, _, _, rfl, _⟩ := h
    rfl
  obtain ⟨a, pb, gs, rfl, hH, h8, hg, hz, k⟩ := h
  have hS := Hs.startI hH
  refine ⟨_, (pss_one (ps_ret (pe_lc (own := [("some", 1)]) (g := gName 1) (by rfl) sc_cut_in.nd (pi_listK (K := K) (pe_callD D_by_row hr (by rfl) pass0 (pa_cons (pv 0) pa_nil))) (blkOk_by (N := ["blocks", "some"]) (sc := defScope st_cut_in) (by decide +kernel)) (fun _ _ _ _ _ => pg_name (i := 1) sc_cut_in.nd rfl (Or.inl rfl)) (fun _ _ _ _ _ => (pts_one (pt_not (pt_val (pe_callD D_has_last hr (by rfl) pass0 (pa_cons (pv 1) pa_nil)))))) (fun _ _ _ _ _ => (pe_ix (ix_listK (K := K)) (pe_ix (ix_listK (K := K)) (pv 1) pe_int (fun _ _ => rfl)) (pe_globC T.c_BEGIN rfl) (fun _ _ => rfl)))))), ?_⟩
  refine s_start (by simp only [L2.start, List.map_cons, List.map_nil, List.length_cons, List.length_nil, Nat.reduceAdd, Nat.reduceSub, List.replicate, List.cons_append, List.nil_append]; rfl) ?_
  k_spoken
  refine ⟨a, pb, gs, rfl, hH, h8, hg, hz, fun D ga H1 e hc => ?_⟩
  have hS1 := hc.frame0 hS
  rw [List.append_nil] at hS1
  have hl := grp_len Prod.snd hg
  have hl1 : gs.length ≤ 1000 := by have := hl.1; simp at this; omega
  have hga : ga.length = gs.length := by rw [← e, List.length_map]
  k_spoken
  refine f_lcL (xs := ga.map gf) fun Dn hD => ⟨fun i H' => Hs [] H H' ((Dn, .lst ((cutIn ((gs.take i).map (List.map Prod.snd))).map V.int)) :: ((D, .lst (ga.map gf)) :: gL ga)) ((a, .lst (pb.map rf)) :: bL pb), hS1.new hD _, ?_, ?_, ?_⟩
  · rintro i H' _ hS2
    exact SqL.of (hS2.getM (.tail _ (.head _)))
  · rintro i y H3 hy hS3
    obtain ⟨g, hgi, rfl⟩ : ∃ g, ga[i]? = some g ∧ gf g = y := by simpa using hy
    clear hy
    have hgs : gs[i]? = some g.2 := by rw [← e, List.getElem?_map, hgi]; rfl
    have hgm := List.mem_of_getElem? hgs
    obtain ⟨hsub, hne⟩ := grp_parts Prod.snd hg g.2 hgm
    obtain ⟨ini, x, hix⟩ := snoc_of hne
    obtain ⟨z, zs, hzs⟩ := List.exists_cons_of_ne_nil hne
    have hxm : x ∈ pb := hsub.subset (by rw [hix]; simp)
    have hzm : z ∈ pb := hsub.subset (by rw [hzs]; simp)
    have f1 : H3 g.1 = some (.lst (g.2.map rf)) := hS3.getM (.tail _ (.tail _ (gL_mem (List.mem_of_getElem? hgi))))
    have f2 : H3 x.1 = some (.lst (x.2.map V.int)) := hS3.getI (.tail _ (bL_mem hxm))
    have f3 : H3 z.1 = some (.lst (z.2.map V.int)) := hS3.getI (.tail _ (bL_mem hzm))
    have e2 : atI (z.2.map V.int) 2 = some (V.int (z.2.getD 2 0)) := at8 (h8 z hzm) (i := 2) (by decide)
    have e0 : atI (g.2.map rf) 0 = some (V.ref z.1) := by rw [hzs]; exact atI_nat (j := 0) rfl
    have hbe : begOf (g.2.map Prod.snd) = z.2.getD 2 0 := by rw [hzs]; rfl
    have hla : hasLast (g.2.map Prod.snd) = decide (x.2.getD 3 0 = 0) := by
      unfold hasLast
      rw [hix, List.map_append]
      show decide ((((ini.map Prod.snd) ++ [x.2]).getLastD []).getD 3 0 = 0) = _
      rw [List.getLastD_concat]
    have hcn : cutIn ((gs.take (i + 1)).map (List.map Prod.snd)) = cutIn ((gs.take i).map (List.map Prod.snd)) ++ (if hasLast (g.2.map Prod.snd) = true then [] else [begOf (g.2.map Prod.snd)]) := by
      rw [take_snoc hgs, List.map_append]
      exact cutIn_snoc _ _
    have hcl : (cutIn ((gs.take i).map (List.map Prod.snd))).length ≤ 1000 := by
      unfold cutIn
      rw [List.length_map]
      refine Nat.le_trans (List.length_filter_le _ _) ?_
      rw [List.length_map, List.length_take]
      omega
    rw [hla, hbe] at hcn
    k_spoken
    refine ⟨g.1, ini, x, rfl, by rw [← hix]; exact f1, f2, h8 x hxm, ?_⟩
    k_spoken
    cases hd : decide (x.2.getD 3 0 = 0) with
    | true =>
      rw [hd, if_pos rfl, List.append_nil] at hcn
      k_spoken
      exact hS3.cast (by rw [hcn])
    | false =>
      rw [hd, if_neg (by decide)] at hcn
      k_spoken
      rename_i H4 hS4 _
      exact hS4.cast (by rw [hcn, List.map_append]; rfl)
  · rintro H3 hS3
    rw [List.length_map, hga, List.take_length] at hS3
    exact k.end_ hD (by assumption) hS3 (hS3.getM (.head _))
theorem ok_by_row {f : Addr} {fd : FuncData} (F : Fun K "_by_row" "_by_row" st_by_row f fd) (T : Txt K mg Z)  : FnOk P w K mg base CX0 1 f fd ["blocks"] (sp_by_row K Z) := by
  have cl_Log := T.cl_Log
  have na_Log__cut := T.na_Log__cut
  have na_Log__disk := T.na_Log__disk
  have na_Log__gone := T.na_Log__gone
  have na_Log__number := T.na_Log__number
  have na_Log__rows := T.na_Log__rows
  have na_Log__torn := T.na_Log__torn
  have cl_Disk := T.cl_Disk
  have na_Disk__blocks := T.na_Disk__blocks
  have na_Disk__let := T.na_Disk__let
  have na_Disk__part := T.na_Disk__part
  have na_Disk__reads := T.na_Disk__reads
  have na_Disk__writes := T.na_Disk__writes
  refine F.ok sc_by_row (fun vs H Q E h => ?_) (fun cdv A outer s H vs Q E hr h => ?_)
  · obtain ⟨_, _, _, rfl, _⟩ := h
    rfl
  obtain ⟨a, pb, gs, rfl, hH, h8, hg, hz, k⟩ := h
  have hS := Hs.startI hH
  refine ⟨_, (pss_cons (ps_set (i := 1) sc_by_row.nd rfl (Or.inl rfl) (pe_lst pa_nil))
      (pss_cons (ps_for PassesOwn.never rfl (pi_listK (K := K) (pv 0)) (pg_name (i := 2) sc_by_row.nd rfl (Or.inl rfl))
      (pss_cons (ps_if (pt_cmpR op_eq (pe_ix (ix_listK (K := K)) (pv 2) (pe_globC T.c_BEGIN rfl) (fun _ _ => rfl)) (pe_globC T.c_NO_BEGIN rfl) (nomark _)) (pss_one ps_continue) pss_nil)
      (pss_cons (ps_if (pt_cmpR op_eq (pe_ix (ix_listK (K := K)) (pv 2) (pe_globC T.c_BEGIN rfl) (fun _ _ => rfl)) (pe_ix (ix_listK (K := K)) (pv 2) (pe_globC T.c_NUMBER rfl) (fun _ _ => rfl)) (nomark _)) (pss_one (ps_expr (pe_bmK (K := K) PySem.F.plainAttrs_list PySem.F.slot_list_append PySem.F.type_list_append mt_append (pv 1) (pa_cons (pe_lst pa_nil) pa_nil)))) pss_nil)
      (pss_one (ps_expr (pe_bmK (K := K) PySem.F.plainAttrs_list PySem.F.slot_list_append PySem.F.type_list_append mt_append (pe_ix (ix_listK (K := K)) (pv 1) (pe_un un_neg pe_int) (fun _ _ => rfl)) (pa_cons (pv 2) pa_nil)))))))
      (pss_one (ps_ret (pv 1))))), ?_⟩
  refine s_start (by simp only [L2.start, List.map_cons, List.map_nil, List.length_cons, List.length_nil, Nat.reduceAdd, Nat.reduceSub, List.replicate, List.cons_append, List.nil_append]; rfl) ?_
  k_node
  rename_i D H1 hS1 _ hD
  k_node
  refine f_list (xs := pb.map rf) (fun i σ H' => ∃ (x2 : Option V) (ga : List (Addr × List (Addr × List Int))), σ = [some (.ref a), some (.ref D), x2] ∧ grp Prod.snd [] (pb.take i) = some (ga.map Prod.snd) ∧ Hs [] H H' ((D, .lst (ga.map gf)) :: gL ga) ((a, .lst (pb.map rf)) :: bL pb)) ⟨_, [], rfl, rfl, hS1⟩ ?_ ?_ ?_
  · rintro i σ H' _ ⟨x2, ga, _, _, hS2⟩
    exact SqL.of (hS2.getI List.mem_cons_self)
  · rintro i y σ H2 hx ⟨x2, ga, rfl, hga, hS2⟩
    obtain ⟨x, hpx, rfl⟩ : ∃ x, pb[i]? = some x ∧ rf x = y := by simpa using hx
    clear hx
    have hi := (List.getElem?_eq_some_iff.mp hpx).1
    have hxm := List.mem_of_getElem? hpx
    have f1 : H2 x.1 = some (.lst (x.2.map V.int)) := hS2.getI (List.mem_cons_of_mem _ (bL_mem hxm))
    have e2 : atI (x.2.map V.int) 2 = some (V.int (x.2.getD 2 0)) := at8 (h8 x hxm) (i := 2) (by decide)
    have e0 : atI (x.2.map V.int) 0 = some (V.int (x.2.getD 0 0)) := at8 (h8 x hxm) (i := 0) (by decide)
    have hl := grp_len Prod.snd hga
    rw [List.length_map, List.length_take] at hl
    have hl1 : ga.length ≤ 1000 := by have := hl.1; simp at this; omega
    have hstep : ∃ gb, gStep Prod.snd (ga.map Prod.snd) x = some gb ∧ grp Prod.snd [] (pb.take (i + 1)) = some gb := by
      have h1 := hg
      rw [← List.take_append_drop (i + 1) pb, grp_append, take_snoc hpx, grp_snoc, hga] at h1
      cases e : gStep Prod.snd (ga.map Prod.snd) x with
      | none =>
        have h2 : ((none : Option (List (List (Addr × List Int)))).bind fun a => grp Prod.snd a (pb.drop (i + 1))) = some gs := by rw [← e]; exact h1
        cases h2
      | some gb =>
        refine ⟨gb, rfl, ?_⟩
        rw [take_snoc hpx, grp_snoc, hga]
        exact e
    obtain ⟨gb, hb1, hb2⟩ := hstep
    rw [gStep] at hb1
    k_spoken
    k_node
    apply s_iteD
    · intro c
      rw [if_pos c] at hb1
      k_spoken
      exact ⟨_, ga, rfl, hb2.trans hb1.symm, hS2⟩
    · intro c
      rw [if_neg c] at hb1
      k_spoken
      refine s_join (fun σ' H' => ∃ (ini : List (Addr × List (Addr × List Int))) (q : Addr) (ls : List (Addr × List Int)), σ' = [some (.ref a), some (.ref D), some (.ref x.1)] ∧ gb = ini.map Prod.snd ++ [ls ++ [x]] ∧ ls.length ≤ 1000 ∧ Hs [] H H' ((D, .lst ((ini.map gf) ++ [V.ref q])) :: (gL ini ++ [(q, .lst (ls.map rf))])) ((a, .lst (pb.map rf)) :: bL pb)) ?_ ?_
      · rintro σ' H3 ⟨ini, q, ls, rfl, hgb, hls, hS3⟩
        have el : atI (ini.map gf ++ [V.ref q]) (-1) = some (V.ref q) := atI_end
        k_spoken
        rename_i H4 hS4 _
        refine ⟨_, ini ++ [(q, ls ++ [x])], rfl, ?_, ?_⟩
        · rw [hb2, hgb, List.map_append]
          rfl
        · refine hS4.cast ?_
          simp only [gL, gcell, List.map_append, List.map_cons, List.map_nil]
      · intro U hU
        k_spoken
        apply s_iteD
        · intro c2
          rw [if_pos c2] at hb1
          k_spoken
          rename_i q H3 hS3 _ _ H4 hS4 _
          refine hU _ _ ⟨ga, q, [], rfl, (Option.some.inj hb1).symm, by simp, hS4.perm ?_⟩
          exact (List.Perm.cons _ (List.perm_append_comm (l₁ := gL ga) (l₂ := [_]))).trans (List.Perm.swap _ _ _)
        · intro c2
          rw [if_neg c2] at hb1
          k_spoken
          cases er : ga.reverse with
          | nil =>
            rw [← List.map_reverse, er] at hb1
            cases hb1
          | cons z zs =>
            have ea : ga = zs.reverse ++ [z] := by rw [← List.reverse_reverse ga, er, List.reverse_cons]
            rw [← List.map_reverse, er] at hb1
            refine hU _ _ ⟨zs.reverse, z.1, z.2, rfl, ?_, ?_, hS2.cast ?_⟩
            · rw [← Option.some.inj hb1, List.map_reverse]
            · have := hl.2 z.2 (List.mem_map_of_mem (f := Prod.snd) (by rw [ea]; simp))
              simp at this
              omega
            · rw [ea]
              unfold gL
              simp only [List.map_append, List.map_cons, List.map_nil]
              rfl
  · rintro σ H2 ⟨x2, ga, rfl, hga, hS2⟩
    rw [List.length_map, List.take_length, hg] at hga
    k_sweep
    exact k D ga _ (Option.some.inj hga).symm hS2.dropI
theorem ok_has_last {f : Addr} {fd : FuncData} (F : Fun K "_has_last" "_has_last" st_has_last f fd) (T : Txt K mg Z)  : FnOk P w K mg base CX0 1 f fd ["some"] (sp_has_last K Z) := by
  have cl_Log := T.cl_Log
  have na_Log__cut := T.na_Log__cut
  have na_Log__disk := T.na_Log__disk
  have na_Log__gone := T.na_Log__gone
  have na_Log__number := T.na_Log__number
  have na_Log__rows := T.na_Log__rows
  have na_Log__torn := T.na_Log__torn
  have cl_Disk := T.cl_Disk
  have na_Disk__blocks := T.na_Disk__blocks
  have na_Disk__let := T.na_Disk__let
  have na_Disk__part := T.na_Disk__part
  have na_Disk__reads := T.na_Disk__reads
  have na_Disk__writes := T.na_Disk__writes
  refine F.ok sc_has_last (fun vs H Q E h => ?_) (fun cdv A outer s H vs Q E hr h => ?_)
  · obtain ⟨_, _, _, rfl, _⟩ := h
    rfl
  obtain ⟨a, ini, x, rfl, ha, hx, h8, k⟩ := h
  refine ⟨_, (pss_one (ps_ret (pe_cmpR op_eq (pe_ix (ix_listK (K := K)) (pe_ix (ix_listK (K := K)) (pv 0) (pe_un un_neg pe_int) (fun _ _ => rfl)) (pe_globC T.c_LEFT rfl) (fun _ _ => rfl)) pe_int (nomark _)))), ?_⟩
  refine s_start (by simp only [L2.start, List.map_cons, List.map_nil, List.length_cons, List.length_nil, Nat.reduceAdd, Nat.reduceSub, List.replicate, List.cons_append, List.nil_append]; rfl) ?_
  have e1 : atI ((ini ++ [x]).map rf) (-1) = some (V.ref x.1) := by
    rw [List.map_append]
    exact atI_end
  have e2 := at8 h8 (i := 3) (by decide)
  k_spoken
  exact k
theorem ok_is_whole {f : Addr} {fd : FuncData} (F : Fun K "is_whole" "is_whole" st_is_whole f fd) (T : Txt K mg Z)  : FnOk P w K mg base CX0 1 f fd ["value", "low", "high"] (sp_is_whole K Z) := by
  have cl_Log := T.cl_Log
  have na_Log__cut := T.na_Log__cut
  have na_Log__disk := T.na_Log__disk
  have na_Log__gone := T.na_Log__gone
  have na_Log__number := T.na_Log__number
  have na_Log__rows := T.na_Log__rows
  have na_Log__torn := T.na_Log__torn
  have cl_Disk := T.cl_Disk
  have na_Disk__blocks := T.na_Disk__blocks
  have na_Disk__let := T.na_Disk__let
  have na_Disk__part := T.na_Disk__part
  have na_Disk__reads := T.na_Disk__reads
  have na_Disk__writes := T.na_Disk__writes
  refine F.ok sc_is_whole (fun vs H Q E h => ?_) (fun cdv A outer s H vs Q E hr h => ?_)
  · obtain ⟨_, _, _, rfl, _⟩ := h
    rfl
  obtain ⟨v, lo, hi, rfl, hv, k⟩ := h
  refine ⟨_, (pss_one (ps_ret (pe_and (pe_callB (call_isiK' (K := K)) (by rfl) T.m_isinstance (by decide +kernel) (pa_cons (pv 0) (pa_cons (pe_bltn (v := .ty "int") (by rfl) T.m_int (by decide +kernel) rfl) pa_nil))) (pe_and (pe_not (pe_callB (call_isiK' (K := K)) (by rfl) T.m_isinstance (by decide +kernel) (pa_cons (pv 0) (pa_cons (pe_bltn (v := .ty "bool") (by rfl) T.m_bool (by decide +kernel) rfl) pa_nil)))) (pe_one (pe_chain op_le op_le (pv 1) (pv 0) (pv 2))))))), ?_⟩
  refine s_start (by simp only [L2.start, List.map_cons, List.map_nil, List.length_cons, List.length_nil, Nat.reduceAdd, Nat.reduceSub, List.replicate, List.cons_append, List.nil_append]; rfl) ?_
  cases v with
  | int i =>
    k_splitN
    · rename_i c
      have e : wholeB (.int i) lo hi = decide (i ≤ hi) := by simp [wholeB, c]
      rw [e] at k
      exact k
    · rename_i c
      have e : wholeB (.int i) lo hi = false := by simp [wholeB, c]
      rw [e] at k
      exact k
  | bl b => k_sweep; exact k
  | str b => k_sweep; exact k
  | non => k_sweep; exact k
  | byt b => exact hv.elim
  | flt b => exact hv.elim
  | ref b => exact hv.elim
  | ty b => exact hv.elim
theorem ok_is_row {f : Addr} {fd : FuncData} (F : Fun K "_is_row" "_is_row" st_is_row f fd) (T : Txt K mg Z) (D_is_whole : DefOk P w K mg base CX0 1 "is_whole" ["value", "low", "high"] (sp_is_whole K Z)) : FnOk P w K mg base CX0 2 f fd ["row"] (sp_is_row K Z) := by
  have cl_Log := T.cl_Log
  have na_Log__cut := T.na_Log__cut
  have na_Log__disk := T.na_Log__disk
  have na_Log__gone := T.na_Log__gone
  have na_Log__number := T.na_Log__number
  have na_Log__rows := T.na_Log__rows
  have na_Log__torn := T.na_Log__torn
  have cl_Disk := T.cl_Disk
  have na_Disk__blocks := T.na_Disk__blocks
  have na_Disk__let := T.na_Disk__let
  have na_Disk__part := T.na_Disk__part
  have na_Disk__reads := T.na_Disk__reads
  have na_Disk__writes := T.na_Disk__writes
  refine F.ok sc_is_row (fun vs H Q E h => ?_) (fun cdv A outer s H vs Q E hr h => ?_)
  · rcases h with ⟨_, rfl, _⟩ | ⟨_, _, _, rfl, _⟩ <;> rfl
  skip
  refine ⟨_, (pss_cons (ps_if (PW.pt (pw_or (pt_not (pt_val (pe_callB (call_isiK' (K := K)) (by rfl) T.m_isinstance (by decide +kernel) (pa_cons (pv 0) (pa_cons (pe_bltn (v := .ty "list") (by rfl) T.m_list (by decide +kernel) rfl) pa_nil))))) (pw_or1 (pt_cmpR op_gt (pe_callB (call_lenK (K := K)) (by rfl) T.m_len (by decide +kernel) (pa_cons (pv 0) pa_nil)) (pe_globC T.c_MOST_WORDS rfl) (nomark _))))) (pss_one (ps_ret pe_bl)) pss_nil)
      (pss_one (ps_ret (pe_callB (cr_allK (K := K) rfl) (by rfl) T.m_all (by decide +kernel) (pa_cons (pe_lc (own := [("word", 1)]) (g := gName 1) (by rfl) sc_is_row.nd (pi_listK (K := K) (pv 0)) (blkOk_by (N := ["row", "word"]) (sc := defScope st_is_row) (by decide +kernel)) (fun _ _ _ _ _ => pg_name (i := 1) sc_is_row.nd rfl (Or.inl rfl)) (fun _ _ _ _ _ => pts_nil) (fun _ _ _ _ _ => (pe_callD D_is_whole hr (by rfl) pass0 (pa_cons (pv 1) (pa_cons pe_int (pa_cons (pe_globC T.c_MOST_WORD_OF_ROW rfl) pa_nil)))))) pa_nil))))), ?_⟩
  refine s_start (by simp only [L2.start, List.map_cons, List.map_nil, List.length_cons, List.length_nil, Nat.reduceAdd, Nat.reduceSub, List.replicate, List.cons_append, List.nil_append]; rfl) ?_
  rcases h with ⟨v, rfl, hv, k⟩ | ⟨a, b, items, rfl, ha, hf, hz, k⟩
  · have hS : Hs [] H H [] [] := Hs.start0
    rcases hv with rfl | ⟨x, rfl⟩
    · k_sweep
      exact k _ (Hs.up (by assumption))
    · k_sweep
      exact k _ (Hs.up (by assumption))
  · have hS := Hs.startI (Holds.one ha)
    cases b with
    | false =>
      simp only [Bool.false_eq_true, if_false] at hS
      k_sweep
      exact k _ (Hs.up (by assumption))
    | true =>
      simp only [if_true] at hS
      k_node
      apply s_iteD
      · intro c
        k_sweep
        have e : rowB? items = false := by
          simp only [rowB?, Bool.and_eq_false_iff, decide_eq_false_iff_not]
          left
          omega
        rw [e] at k
        exact k _ (Hs.up (by assumption))
      · intro c
        k_sweep
        refine f_lcL (xs := items) fun Dn hD => ⟨fun i H' => Hs [] H H' [(Dn, .lst (((items.take i).map fun v => wholeB v 0 999999999).map V.bl))] [(a, .lst items)], hS.new hD _, ?_, ?_, ?_⟩
        · intro i H' _ h2
          exact SqL.of (h2.getI List.mem_cons_self)
        · intro i x H2 hx hS2
          have hfx := hf x (List.mem_of_getElem? hx)
          have hlt : i < items.length := (List.getElem?_eq_some_iff.mp hx).1
          k_spoken
          have hll : (((items.take i).map fun v => wholeB v 0 999999999).map V.bl).length < sizeLine := by
            rw [List.length_map, List.length_map, List.length_take, sizeLine_eq]
            omega
          k_spoken
          have e : items.take (i + 1) = items.take i ++ [x] := by
            rw [List.take_add_one, hx]
            rfl
          show Hs [] H _ [(Dn, .lst (((items.take (i + 1)).map fun v => wholeB v 0 999999999).map V.bl))] [(a, .lst items)]
          rw [e, List.map_append, List.map_append]
          assumption
        · intro H2 hS2
          rw [List.take_length] at hS2
          k_spoken
          refine ⟨Dn, _, rfl, SqL.of (hS2.getM List.mem_cons_self), ?_⟩
          have e : (true && rowB? items) = (items.map fun v => wholeB v 0 999999999).all id := by
            have c' : items.length ≤ 11 := by omega
            simp [rowB?, c', List.all_map, Function.comp_def]
          rw [e] at k
          exact k _ hS2.up
theorem ok_blocks_of_use {f : Addr} {fd : FuncData} (F : Fun K "_blocks_of_use" "_blocks_of_use" st_blocks_of_use f fd) (T : Txt K mg Z) (M_Disk_blocks : MethOk P w K mg base CX0 1 Z.Disk "blocks" ["self"] (sp_Disk_blocks K Z)) (M_Disk_read : MethOk P w K mg base (L2N.CX P w) 3 Z.Disk "read" ["self", "place"] (sp_Disk_read K Z)) : FnOk P w K mg base CX0 4 f fd ["disk", "number"] (sp_blocks_of_use K Z) := by
  obtain ⟨f_Disk_blocks, fd_Disk_blocks, G_Disk_blocks, b_Disk_blocks, m_Disk_blocks⟩ := M_Disk_blocks.ex
  obtain ⟨f_Disk_read, fd_Disk_read, G_Disk_read, b_Disk_read, m_Disk_read⟩ := M_Disk_read.ex
  have cl_Log := T.cl_Log
  have na_Log__cut := T.na_Log__cut
  have na_Log__disk := T.na_Log__disk
  have na_Log__gone := T.na_Log__gone
  have na_Log__number := T.na_Log__number
  have na_Log__rows := T.na_Log__rows
  have na_Log__torn := T.na_Log__torn
  have cl_Disk := T.cl_Disk
  have na_Disk__blocks := T.na_Disk__blocks
  have na_Disk__let := T.na_Disk__let
  have na_Disk__part := T.na_Disk__part
  have na_Disk__reads := T.na_Disk__reads
  have na_Disk__writes := T.na_Disk__writes
  refine F.ok sc_blocks_of_use (fun vs H Q E h => ?_) (fun cdv A outer s H vs Q E hr h => ?_)
  · obtain ⟨_, _, _, _, _, _, rfl, _⟩ := h
    rfl
  obtain ⟨d, s, num, flo, torn, gs, rfl, hH, ok, vw, hbig, k⟩ := h
  have hS := Hs.startL hH
  refine ⟨_, (pss_cons (ps_set (i := 2) sc_blocks_of_use.nd rfl (Or.inr rfl) (pe_meth0 (pv 0) T.cl_Disk m_Disk_blocks G_Disk_blocks (hr.mono (by decide)) b_Disk_blocks .nil pass0))
      (pss_cons (ps_if (pt_cmpR op_lt (pv 1) (pv 2) (nomark _)) (pss_one (ps_ret (pe_lst pa_nil))) pss_nil)
      (pss_cons (ps_set (i := 3) sc_blocks_of_use.nd rfl (Or.inl rfl) (pe_meth (pv 0) T.cl_Disk m_Disk_read G_Disk_read (hr.mono (by decide)) b_Disk_read .nil passLN (pa_cons (pe_op op_mod (pv 1) (pv 2)) pa_nil)))
      (pss_cons (ps_setLc (i := 4) (own := [("earlier", 5)]) (g := gName 5) (by rfl) sc_blocks_of_use.nd rfl rfl (sw_true rfl rfl rfl (by decide +kernel)) (pi_range2 rfl T.m_range (pa_cons (pe_op op_add (pe_ix (ix_listK (K := K)) (pv 3) (pe_globC T.c_FLOOR rfl) (fun _ _ => rfl)) pe_int) (pa_cons (pv 1) pa_nil))) (blkOk_by (N := ["disk", "number", "many", "last", "found", "earlier"]) (sc := defScope st_blocks_of_use) (by decide +kernel)) (fun _ _ _ _ _ => pg_name (i := 5) sc_blocks_of_use.nd rfl (Or.inl rfl)) (fun _ _ _ _ _ => pts_nil) (fun _ _ _ _ _ => (pe_meth (pv 0) T.cl_Disk m_Disk_read G_Disk_read (hr.mono (by decide)) b_Disk_read .nil passLN (pa_cons (pe_op op_mod (pv 5) (pv 2)) pa_nil))))
      (pss_cons (ps_expr (pe_bmK (K := K) PySem.F.plainAttrs_list PySem.F.slot_list_append PySem.F.type_list_append mt_append (pv 4) (pa_cons (pv 3) pa_nil)))
      (pss_one (ps_ret (pv 4)))))))), ?_⟩
  refine s_start (by simp only [L2.start, List.map_cons, List.map_nil, List.length_cons, List.length_nil, Nat.reduceAdd, Nat.reduceSub, List.replicate, List.cons_append, List.nil_append]; rfl) ?_
  have h4 := ok.lo
  have h64 := ok.hi
  have f0 := vw.f0
  have f1 := vw.f1
  have f2 := vw.f2
  k_node
  refine ⟨d, s, rfl, hH, ok, ?_⟩
  k_spoken
  k_node
  apply s_iteD
  · intro c
    k_sweep
    rename_i D H2 hS2 _ _
    refine k D [] s.r _ ?_ (by omega) (by omega) (Frm.of hS2 (List.Sublist.refl _))
    rw [useB_nil (by omega)]
    rfl
  · intro c
    obtain ⟨g1, g2⟩ := vw.f3 (by omega)
    have hp := place_lt (n := s.ws.length) (by omega) num
    obtain ⟨b0, b7, b8⟩ := blkOf_num vw (k := num) (by omega) (by omega)
    k_spoken
    k_node
    refine ⟨d, s, .int (num % s.ws.length), rfl, hH, ok, trivial, fun cc => ?_, fun i ei hi q H2 f => ?_⟩
    · simp only [wholeB, Bool.and_eq_false_iff, decide_eq_false_iff_not] at cc
      omega
    obtain rfl : (num % (s.ws.length : Int)).toNat = i := by have := V.int.inj ei; omega
    have hS2 := hS.seg f .end_
    have hS2 : Hs _ H H2 ((q, .lst ((blkOf s.ws.length s.ws num).map V.int)) :: diskL Z d { s with r := s.r + 1 }) [] := hS2
    have e1 : atI ((blkOf s.ws.length s.ws num).map V.int) 1 = some (V.int ((blkOf s.ws.length s.ws num).getD 1 0)) := at8 b8 (i := 1) (by decide)
    rw [g2] at e1
    clear f
    k_spoken
    k_node
    refine f_lcR (lo := flo + 1) (n := (num - (flo + 1)).toNat) fun Dn hD => ⟨fun i H' => ∃ (pb : List (Addr × List Int)) (r' : Int), pb.map Prod.snd = useB s.ws.length s.ws flo (flo + (i : Int)) ∧ s.r ≤ r' ∧ r' ≤ s.r + 1 + (i : Int) ∧ Hs ((diskL Z d s).map Prod.fst) H H' ((Dn, .lst (pb.map rf)) :: (bL pb ++ ((q, .lst ((blkOf s.ws.length s.ws num).map V.int)) :: diskL Z d { s with r := r' }))) [], ⟨[], s.r + 1, ?_, by omega, by omega, hS2.new hD _⟩, ?_, ?_⟩
    · rw [useB_nil (by omega)]
      rfl
    · rintro i H3 hi ⟨pb, r', hpb, hr0, hr1, hS3⟩
      have hp2 := place_lt (n := s.ws.length) (by omega) (flo + 1 + (i : Int))
      have ok2 : ({ s with r := r' } : DS).Ok := ⟨ok.len, ok.lo, ok.hi, ok.each⟩
      have hpl : pb.length ≤ 1000 := by
        have := congrArg List.length hpb
        rw [List.length_map, useB_len] at this
        omega
      k_spoken
      refine ⟨d, { s with r := r' }, .int ((flo + 1 + (i : Int)) % s.ws.length), rfl, hS3.part (.cons _ ((List.Sublist.cons _ (List.Sublist.refl _)).trans (List.sublist_append_right _ _))), ok2, trivial, fun cc => ?_, fun j ej hj q2 H4 f => ?_⟩
      · simp only [wholeB, Bool.and_eq_false_iff, decide_eq_false_iff_not] at cc
        omega
      obtain rfl : ((flo + 1 + (i : Int)) % (s.ws.length : Int)).toNat = j := by have := V.int.inj ej; omega
      have hS4 := hS3.seg f (.there (.skip (.there .end_)))
      have f1 : H4 Dn = some (.lst (pb.map rf)) := hS4.getM (.head _)
      k_spoken
      rename_i H5 hS5 _
      refine ⟨pb ++ [(q2, blkOf s.ws.length s.ws (flo + 1 + (i : Int)))], r' + 1, ?_, by omega, by push_cast; omega, ?_⟩
      · rw [List.map_append, hpb, show flo + ((i + 1 : Nat) : Int) = flo + (i : Int) + 1 by push_cast; omega, useB_snoc (by omega), show flo + (i : Int) + 1 = flo + 1 + (i : Int) by omega]
        rfl
      · refine (hS5.perm ?_).cast (M := (Dn, .lst (pb.map rf ++ [V.ref q2])) :: (bL pb ++ ((q2, .lst ((blkOf s.ws.length s.ws (flo + 1 + (i : Int))).map V.int)) :: (q, .lst ((blkOf s.ws.length s.ws num).map V.int)) :: diskL Z d { s with r := r' + 1 }))) ?_
        · exact .cons _ (.append_left _ (.swap _ _ _))
        · unfold bL
          simp only [List.map_append, List.map_cons, List.map_nil, List.append_assoc, List.cons_append, List.nil_append]
          rfl
    · rintro H3 ⟨pb, r', hpb, hr0, hr1, hS3⟩
      have hpl : pb.length ≤ 1000 := by
        have := congrArg List.length hpb
        rw [List.length_map, useB_len] at this
        omega
      k_sweep
      rename_i H4 hS4 _
      refine k Dn (pb ++ [(q, blkOf s.ws.length s.ws num)]) r' _ ?_ (by omega) (by omega) (Frm.of (M := (Dn, .lst (pb.map rf ++ [V.ref q])) :: (bL pb ++ ((q, .lst ((blkOf s.ws.length s.ws num).map V.int)) :: diskL Z d { s with r := r' }))) hS4 ?_)
      · rw [List.map_append, hpb]
        have e3 : num = flo + (((num - (flo + 1)).toNat : Nat) : Int) + 1 := by omega
        conv => rhs; rw [e3]
        rw [useB_snoc (by omega), ← e3]
        rfl
      · unfold bL
        simp only [List.map_append, List.map_cons, List.map_nil, List.append_assoc, List.cons_append, List.nil_append]
        exact List.Sublist.refl _
theorem ok_floor_under {f : Addr} {fd : FuncData} (F : Fun K "_floor_under" "_floor_under" st_floor_under f fd) (T : Txt K mg Z)  : FnOk P w K mg base CX0 1 f fd ["rows", "number"] (sp_floor_under K Z) := by
  have cl_Log := T.cl_Log
  have na_Log__cut := T.na_Log__cut
  have na_Log__disk := T.na_Log__disk
  have na_Log__gone := T.na_Log__gone
  have na_Log__number := T.na_Log__number
  have na_Log__rows := T.na_Log__rows
  have na_Log__torn := T.na_Log__torn
  have cl_Disk := T.cl_Disk
  have na_Disk__blocks := T.na_Disk__blocks
  have na_Disk__let := T.na_Disk__let
  have na_Disk__part := T.na_Disk__part
  have na_Disk__reads := T.na_Disk__reads
  have na_Disk__writes := T.na_Disk__writes
  refine F.ok sc_floor_under (fun vs H Q E h => ?_) (fun cdv A outer s H vs Q E hr h => ?_)
  · obtain ⟨_, _, _, rfl, _⟩ := h
    rfl
  obtain ⟨a, xs, num, rfl, hH, k⟩ := h
  have hS := Hs.startI hH
  refine ⟨_, (pss_cons (ps_if (pt_not (pt_truthK (K := K) (pv 0) (by intro _; rfl))) (pss_one (ps_ret (pv 1))) pss_nil)
      (pss_cons (ps_asg (pe_ix (ix_listK (K := K)) (pv 0) pe_int (fun _ _ => rfl)) (pg_tupK (K := K) rfl (pgs_cons (pg_name (i := 2) sc_floor_under.nd rfl (Or.inl rfl)) (pgs_cons (pg_name (i := 3) sc_floor_under.nd rfl (Or.inl rfl)) pgs_nil))))
      (pss_one (ps_ret (pe_op op_sub (pv 2) pe_int))))), ?_⟩
  refine s_start (by simp only [L2.start, List.map_cons, List.map_nil, List.length_cons, List.length_nil, Nat.reduceAdd, Nat.reduceSub, List.replicate, List.cons_append, List.nil_append]; rfl) ?_
  cases xs with
  | nil =>
    have f1 : H a = some (.lst []) := hS.getI (.head _)
    k_sweep
    exact k _ (Upto.refl _ _)
  | cons x xs =>
    have f1 : H a = some (.lst (V.ref x.1.1 :: xs.map tf)) := hS.getI (.head _)
    have e0 : atI (V.ref x.1.1 :: xs.map tf) 0 = some (V.ref x.1.1) := atI_nat (j := 0) rfl
    have f2 : H x.1.1 = some (.tup [.int x.2.1, .ref x.1.2]) := hS.getI (.tail _ (.head _))
    k_sweep
    exact k _ (Upto.refl _ _)
theorem ok_Log___init__ {f : Addr} {fd : FuncData} (F : Fun K "__init__" "Log.__init__" st_Log___init__ f fd) (T : Txt K mg Z) (D_is_farewell : DefOk P w K mg base CX0 1 "is_farewell" ["words"] (sp_is_farewell K Z)) (D_newest : DefOk P w K mg base CX0 5 "newest" ["disk"] (sp_newest K Z)) (D_rows_in : DefOk P w K mg base CX0 2 "rows_in" ["blocks"] (sp_rows_in K Z)) (D_cut_in : DefOk P w K mg base CX0 2 "cut_in" ["blocks"] (sp_cut_in K Z)) (D_blocks_of_use : DefOk P w K mg base CX0 4 "_blocks_of_use" ["disk", "number"] (sp_blocks_of_use K Z)) : FnOk P w K mg base CX0 6 f fd ["self", "disk"] (sp_Log___init__ K Z) := by
  have cl_Log := T.cl_Log
  have na_Log__cut := T.na_Log__cut
  have na_Log__disk := T.na_Log__disk
  have na_Log__gone := T.na_Log__gone
  have na_Log__number := T.na_Log__number
  have na_Log__rows := T.na_Log__rows
  have na_Log__torn := T.na_Log__torn
  have cl_Disk := T.cl_Disk
  have na_Disk__blocks := T.na_Disk__blocks
  have na_Disk__let := T.na_Disk__let
  have na_Disk__part := T.na_Disk__part
  have na_Disk__reads := T.na_Disk__reads
  have na_Disk__writes := T.na_Disk__writes
  refine F.ok sc_Log___init__ (fun vs H Q E h => ?_) (fun cdv A outer s H vs Q E hr h => ?_)
  · obtain ⟨_, _, _, _, _, _, _, _, rfl, _⟩ := h
    rfl
  obtain ⟨x, dx, d, s, num, flo, torn, gs, rfl, hH, ok, vw, hbig, k⟩ := h
  have hS := Hs.startL hH
  refine ⟨_, (pss_cons (ps_asg (pe_callD D_newest hr (by rfl) pass0 (pa_cons (pv 1) pa_nil)) (pg_tupK (K := K) rfl (pgs_cons (pg_name (i := 2) sc_Log___init__.nd rfl (Or.inl rfl)) (pgs_cons (pg_name (i := 3) sc_Log___init__.nd rfl (Or.inl rfl)) pgs_nil))))
      (pss_cons (ps_set (i := 4) sc_Log___init__.nd rfl (Or.inl rfl) (pe_callD D_blocks_of_use hr (by rfl) pass0 (pa_cons (pv 1) (pa_cons (pv 2) pa_nil))))
      (pss_cons (ps_fldK (K := K) (pv 0) (pv 1) rfl)
      (pss_cons (ps_fldK (K := K) (pv 0) (pv 2) rfl)
      (pss_cons (ps_fldK (K := K) (pv 0) (pv 3) rfl)
      (pss_cons (ps_fldK (K := K) (pv 0) (pe_callD D_cut_in hr (by rfl) pass0 (pa_cons (pv 4) pa_nil)) rfl)
      (pss_cons (ps_fldK (K := K) (pv 0) (pe_and (pe_cmpR op_gt (pe_callB (call_lenK (K := K)) (by rfl) T.m_len (by decide +kernel) (pa_cons (pv 4) pa_nil)) pe_int (nomark _)) (pe_one (pe_callD D_is_farewell hr (by rfl) pass0 (pa_cons (pe_ix (ix_listK (K := K)) (pv 4) (pe_un un_neg pe_int) (fun _ _ => rfl)) pa_nil)))) rfl)
      (pss_one (ps_fldK (K := K) (pv 0) (pe_ifExp (pt_val (pe_fldK (K := K) (pv 0) rfl)) (pe_lst pa_nil) (pe_callD D_rows_in hr (by rfl) pass0 (pa_cons (pv 4) pa_nil))) rfl))))))))), ?_⟩
  refine s_start (by simp only [L2.start, List.map_cons, List.map_nil, List.length_cons, List.length_nil, Nat.reduceAdd, Nat.reduceSub, List.replicate, List.cons_append, List.nil_append]; rfl) ?_
  have h4 := ok.lo
  have h64 := ok.hi
  have f0 := vw.f0
  have f1 := vw.f1
  have f2 := vw.f2
  k_node
  refine ⟨d, s, num, torn, rfl, hS.part (.cons _ (.cons _ (List.Sublist.refl _))), ok, vw.toLaid, fun t r1 H1 hr0 hr1 f => ?_⟩
  have hS1 := hS.seg f (.there (.there .end_))
  clear f
  k_spoken
  k_node
  have ok2 : ({ s with r := r1 } : DS).Ok := ⟨ok.len, ok.lo, ok.hi, ok.each⟩
  refine ⟨d, { s with r := r1 }, num, flo, torn, gs, rfl, hS1.part (.cons _ (.cons _ (.cons _ (List.Sublist.refl _)))), ok2, vw, hbig, fun D pb r2 H2 hpb hr2 hr3 f => ?_⟩
  have hS2 := hS1.seg f (.there (.there (.there .end_)))
  clear f
  have hr2 : r1 ≤ r2 := hr2
  have hr3 : r2 ≤ r1 + (num - flo) := hr3
  have hpb : pb.map Prod.snd = useB s.ws.length s.ws flo num := hpb
  have hpl : pb.length ≤ 1000 := by
    have := congrArg List.length hpb
    rw [List.length_map, useB_len] at this
    omega
  have hp8 : ∀ y ∈ pb, y.2.length = 8 := by
    intro y hy
    have : y.2 ∈ pb.map Prod.snd := List.mem_map_of_mem hy
    rw [hpb] at this
    obtain ⟨kk, k1, k2, e⟩ := useB_mem this
    rw [e]
    exact (blkOf_num vw k1 k2).2.2
  obtain ⟨ga, hga, hgs⟩ : ∃ ga, grp Prod.snd [] pb = some ga ∧ ga.map (List.map Prod.snd) = gs := by
    have e := grp_map (fun w : List Int => w) (Prod.snd : Addr × List Int → List Int) pb []
    have g := vw.gr
    rw [← hpb] at g
    rw [List.map_nil, g] at e
    cases q : grp (Prod.snd : Addr × List Int → List Int) [] pb with
    | none =>
      have e2 : some gs = (none : Option (List (List (Addr × List Int)))).map (List.map (List.map Prod.snd)) := by rw [← q]; exact e
      cases e2
    | some ga =>
      have e2 : some gs = (some ga).map (List.map (List.map Prod.snd)) := by rw [← q]; exact e
      exact ⟨ga, rfl, (Option.some.inj e2).symm⟩
  k_spoken
  k_node
  k_node
  k_node
  k_node
  rename_i H3 hS3 _ H4 hS4 _ H5 hS5 _
  have hS5 : Hs (((x, HO.ins Z.Log dx []) :: (dx, HO.own x) :: diskL Z d s).map Prod.fst) H H5 ((x, .ins Z.Log dx [("_disk", .ref d), ("_number", .int num), ("_torn", ltV torn)]) :: (dx, .own x) :: (t, .tup [.int num, ltV torn]) :: (D, .lst (pb.map rf)) :: (bL pb ++ diskL Z d { s with r := r2 })) [] := hS5
  clear hS4 hS3 hS2 hS1
  refine ⟨D, pb, ga, rfl, hS5.part (.cons _ (.cons _ (.cons _ (.cons₂ _ (List.sublist_append_left _ _))))), hp8, hga, hpl, hS5.newO fun ca H6 hS6 _ _ => ?_⟩
  rw [hgs] at hS6
  k_spoken
  rename_i H7 hS7 _
  have hS7 : Hs (((x, HO.ins Z.Log dx []) :: (dx, HO.own x) :: diskL Z d s).map Prod.fst) H H7 ((ca, .lst ((cutIn gs).map V.int)) :: (x, .ins Z.Log dx [("_disk", .ref d), ("_number", .int num), ("_torn", ltV torn), ("_cut", .ref ca)]) :: (dx, .own x) :: (t, .tup [.int num, ltV torn]) :: (D, .lst (pb.map rf)) :: (bL pb ++ diskL Z d { s with r := r2 })) [] := hS7
  clear hS6 hS5
  have fD : H7 D = some (.lst (pb.map rf)) := hS7.getM (.tail _ (.tail _ (.tail _ (.tail _ (.head _)))))
  refine s_join (fun σ' H' => σ' = [some (.ref x), some (.ref d), some (.int num), some (ltV torn), some (.ref D)] ∧ Hs (((x, HO.ins Z.Log dx []) :: (dx, HO.own x) :: diskL Z d s).map Prod.fst) H H' ((ca, .lst ((cutIn gs).map V.int)) :: (x, .ins Z.Log dx [("_disk", .ref d), ("_number", .int num), ("_torn", ltV torn), ("_cut", .ref ca), ("_gone", .bl (goneB s.ws.length s.ws num))]) :: (dx, .own x) :: (t, .tup [.int num, ltV torn]) :: (D, .lst (pb.map rf)) :: (bL pb ++ diskL Z d { s with r := r2 })) []) ?_ ?_
  · rintro σ' H8 ⟨rfl, hS8⟩
    clear hS7 fD
    cases hgo : goneB s.ws.length s.ws num with
    | true =>
      rw [hgo] at hS8
      k_spoken
      rename_i ra H9 hS9 _ _ H10 hS10 _
      refine k ca ra [] r2 _ (by rw [if_pos hgo]; rfl) (by omega) (by omega) ?_
      rw [hgo]
      have hS11 : Hs _ H H10 ((ra, .lst []) :: (ca, .lst ((cutIn gs).map V.int)) :: (x, .ins Z.Log dx (lF ⟨dx, d, num, torn, ca, cutIn gs, true, ra, []⟩)) :: (dx, .own x) :: (t, .tup [.int num, ltV torn]) :: (D, .lst (pb.map rf)) :: (bL pb ++ diskL Z d { s with r := r2 })) [] := hS10
      refine Frm.of (hS11.perm (M' := (x, .ins Z.Log dx (lF ⟨dx, d, num, torn, ca, cutIn gs, true, ra, []⟩)) :: (dx, .own x) :: (ca, .lst ((cutIn gs).map V.int)) :: (ra, .lst []) :: (t, .tup [.int num, ltV torn]) :: (D, .lst (pb.map rf)) :: (bL pb ++ diskL Z d { s with r := r2 })) (perm_a _ _ _ _ _)) ?_
      exact .cons₂ _ (.cons₂ _ (.cons₂ _ (.cons₂ _ (.cons _ (.cons _ (List.sublist_append_right _ _))))))
    | false =>
      rw [hgo] at hS8
      k_spoken
      refine ⟨D, pb, ga, rfl, hS8.part (.cons _ (.cons _ (.cons _ (.cons _ (.cons₂ _ (List.sublist_append_left _ _)))))), hp8, hga, hpl, fun ra xs H9 hxs hc => ?_⟩
      rw [hgs] at hxs
      have hS9 := hc.frame0 hS8
      clear hc hS8
      k_spoken
      rename_i H10 hS10 _
      refine k ca ra xs r2 _ (by rw [hgo, if_neg (by decide)]; exact hxs) (by omega) (by omega) ?_
      rw [hgo]
      have hS11 : Hs _ H H10 ((ra, .lst (xs.map tf)) :: (rL xs ++ ((ca, .lst ((cutIn gs).map V.int)) :: (x, .ins Z.Log dx (lF ⟨dx, d, num, torn, ca, cutIn gs, false, ra, xs⟩)) :: (dx, .own x) :: (t, .tup [.int num, ltV torn]) :: (D, .lst (pb.map rf)) :: (bL pb ++ diskL Z d { s with r := r2 })))) [] := hS10
      refine Frm.of (hS11.perm (M' := (x, .ins Z.Log dx (lF ⟨dx, d, num, torn, ca, cutIn gs, false, ra, xs⟩)) :: (dx, .own x) :: (ca, .lst ((cutIn gs).map V.int)) :: (ra, .lst (xs.map tf)) :: (rL xs ++ ((t, .tup [.int num, ltV torn]) :: (D, .lst (pb.map rf)) :: (bL pb ++ diskL Z d { s with r := r2 })))) (perm_b _ _ _ _ _ _)) ?_
      exact .cons₂ _ (.cons₂ _ (.cons₂ _ (.cons₂ _ (.append (List.Sublist.refl _) (.cons _ (.cons _ (List.sublist_append_right _ _)))))))
  · intro U hU
    have fin : ∀ H', Hs (((x, HO.ins Z.Log dx []) :: (dx, HO.own x) :: diskL Z d s).map Prod.fst) H H' ((ca, .lst ((cutIn gs).map V.int)) :: (x, .ins Z.Log dx [("_disk", .ref d), ("_number", .int num), ("_torn", ltV torn), ("_cut", .ref ca), ("_gone", .bl (goneB s.ws.length s.ws num))]) :: (dx, .own x) :: (t, .tup [.int num, ltV torn]) :: (D, .lst (pb.map rf)) :: (bL pb ++ diskL Z d { s with r := r2 })) [] → U [some (.ref x), some (.ref d), some (.int num), some (ltV torn), some (.ref D)] H' := fun H' h => hU _ _ ⟨rfl, h⟩
    rcases List.eq_nil_or_concat pb with he | ⟨ini, z, he⟩
    · subst he
      have hn : ¬ (s.ws.length : Int) ≤ num := by
        intro c
        have := (vw.f3 c).1
        have e := congrArg List.length hpb
        rw [useB_len] at e
        simp at e
        omega
      have hg0 : goneB s.ws.length s.ws num = false := by unfold goneB; rw [decide_eq_false hn]; rfl
      rw [hg0] at fin
      k_spoken
      rename_i H9 hS9 _
      exact fin _ hS9
    · have he : pb = ini ++ [z] := by simpa using he
      have hz2 : z.2 = blkOf s.ws.length s.ws num ∧ flo < num := by
        have e := hpb
        have hlen := congrArg List.length hpb
        rw [he, List.length_map, useB_len, List.length_append, List.length_singleton] at hlen
        have hlt : flo < num := by omega
        refine ⟨?_, hlt⟩
        rw [he, List.map_append, show num = num - 1 + 1 by omega, useB_snoc (by omega)] at e
        have e2 := congrArg (fun l => l.getLast?) e
        simp at e2
        exact e2
      have hg1 : goneB s.ws.length s.ws num = (decide (z.2.getD 2 0 = 0) && decide (z.2.getD 3 0 = 1)) := by
        unfold goneB
        rw [decide_eq_true (show (s.ws.length : Int) ≤ num by have := hz2.2; omega), hz2.1]
        rfl
      have hzm : z ∈ pb := by rw [he]; simp
      have el : atI (pb.map rf) (-1) = some (V.ref z.1) := by
        rw [he, List.map_append]
        exact atI_end
      have f2 : H7 z.1 = some (.lst (z.2.map V.int)) := hS7.getM (.tail _ (.tail _ (.tail _ (.tail _ (.tail _ (List.mem_append_left _ (bL_mem hzm)))))))
      have hl0 : (0 : Int) < ((pb.map rf).length : Nat) := by rw [he]; simp
      k_spoken
      refine ⟨z.1, z.2, rfl, f2, hp8 z hzm, ?_⟩
      rw [← hg1]
      k_spoken
      rename_i H9 hS9 _
      exact fin _ hS9
theorem ok_Log_rows {f : Addr} {fd : FuncData} (F : Fun K "rows" "Log.rows" st_Log_rows f fd) (T : Txt K mg Z)  : FnOk P w K mg base CX0 1 f fd ["self"] (sp_Log_rows K Z) := by
  have cl_Log := T.cl_Log
  have na_Log__cut := T.na_Log__cut
  have na_Log__disk := T.na_Log__disk
  have na_Log__gone := T.na_Log__gone
  have na_Log__number := T.na_Log__number
  have na_Log__rows := T.na_Log__rows
  have na_Log__torn := T.na_Log__torn
  have cl_Disk := T.cl_Disk
  have na_Disk__blocks := T.na_Disk__blocks
  have na_Disk__let := T.na_Disk__let
  have na_Disk__part := T.na_Disk__part
  have na_Disk__reads := T.na_Disk__reads
  have na_Disk__writes := T.na_Disk__writes
  refine F.ok sc_Log_rows (fun vs H Q E h => ?_) (fun cdv A outer s H vs Q E hr h => ?_)
  · obtain ⟨_, _, rfl, _⟩ := h
    rfl
  obtain ⟨lg, l, rfl, hH, hz, k⟩ := h
  have hS := Hs.startI hH
  refine ⟨_, (pss_one (ps_ret (pe_lc (own := [("_", 1), ("row", 2)]) (g := (gTup K 2 (gCons (gName 1) (gCons (gName 2) gNil)))) (by rfl) sc_Log_rows.nd (pi_listK (K := K) (pe_fldK (K := K) (pv 0) rfl)) (blkOk_by (N := ["self", "_", "row"]) (sc := defScope st_Log_rows) (by decide +kernel)) (fun _ _ _ _ _ => (pg_tupK (K := K) rfl (pgs_cons (pg_name (i := 1) sc_Log_rows.nd rfl (Or.inl rfl)) (pgs_cons (pg_name (i := 2) sc_Log_rows.nd rfl (Or.inl rfl)) pgs_nil)))) (fun _ _ _ _ _ => pts_nil) (fun _ _ _ _ _ => (pe_callTy (call_listOfK (K := K)) (by rfl) T.m_list (by decide +kernel) (pa_cons (pv 2) pa_nil)))))), ?_⟩
  refine s_start (by simp only [L2.start, List.map_cons, List.map_nil, List.length_cons, List.length_nil, Nat.reduceAdd, Nat.reduceSub, List.replicate, List.cons_append, List.nil_append]; rfl) ?_
  k_spoken
  refine f_lcL2 (by decide) (xs := l.rows.map tf) fun Dn hD => ⟨fun i H' => ∃ qs : List Addr, qs.length = i ∧ Hs [] H H' ((Dn, .lst (qs.map V.ref)) :: (rowsL qs ((l.rows.map fun x => x.2.2).take i) ++ [])) (logL Z lg l), ⟨[], rfl, hS.new hD _⟩, ?_, ?_, ?_⟩
  · rintro i H' _ ⟨qs, hl, h2⟩
    exact SqL.of (h2.getI (.tail _ (.tail _ (.tail _ (.head _)))))
  · rintro i y H3 hy ⟨qs, hl, hS3⟩
    obtain ⟨x, hx, rfl⟩ : ∃ x, l.rows[i]? = some x ∧ tf x = y := by simpa using hy
    clear hy
    have hm := rL_tup (List.mem_of_getElem? hx)
    have f1 : H3 x.1.1 = some (.tup [.int x.2.1, .ref x.1.2]) := hS3.getI (.tail _ (.tail _ (.tail _ (.tail _ hm.1))))
    have f2 : H3 x.1.2 = some (.lst (x.2.2.map V.int)) := hS3.getI (.tail _ (.tail _ (.tail _ (.tail _ hm.2))))
    have hi := (List.getElem?_eq_some_iff.mp hx).1
    refine ⟨_, _, _, _, _, rfl, SqT.of f1, .there .here, .there (.there .here), ?_⟩
    have hS3 := hS3
    k_spoken
    rename_i q H4 hS4 _ _ H5 hS5 _
    refine ⟨qs ++ [q], by rw [List.length_append, hl]; rfl, ?_⟩
    have hx2 : (l.rows.map fun x => x.2.2)[i]? = some x.2.2 := by rw [List.getElem?_map, hx]; rfl
    rw [take_snoc hx2, rowsL_snoc _ _ (by rw [List.length_take, List.length_map]; omega), List.map_append]
    exact Hs.snoc hS5
  · rintro H3 ⟨qs, hl, hS3⟩
    rw [List.length_map] at hl
    rw [List.length_map, List.take_of_length_le (by rw [List.length_map]; exact Nat.le_refl _), List.append_nil] at hS3
    exact k Dn qs _ hl hS3.dropI
theorem ok_Log_room {f : Addr} {fd : FuncData} (F : Fun K "room" "Log.room" st_Log_room f fd) (T : Txt K mg Z) (D_floor_under : DefOk P w K mg base CX0 1 "_floor_under" ["rows", "number"] (sp_floor_under K Z)) (M_Disk_blocks : MethOk P w K mg base CX0 1 Z.Disk "blocks" ["self"] (sp_Disk_blocks K Z)) : FnOk P w K mg base CX0 2 f fd ["self"] (sp_Log_room K Z) := by
  obtain ⟨f_Disk_blocks, fd_Disk_blocks, G_Disk_blocks, b_Disk_blocks, m_Disk_blocks⟩ := M_Disk_blocks.ex
  have cl_Log := T.cl_Log
  have na_Log__cut := T.na_Log__cut
  have na_Log__disk := T.na_Log__disk
  have na_Log__gone := T.na_Log__gone
  have na_Log__number := T.na_Log__number
  have na_Log__rows := T.na_Log__rows
  have na_Log__torn := T.na_Log__torn
  have cl_Disk := T.cl_Disk
  have na_Disk__blocks := T.na_Disk__blocks
  have na_Disk__let := T.na_Disk__let
  have na_Disk__part := T.na_Disk__part
  have na_Disk__reads := T.na_Disk__reads
  have na_Disk__writes := T.na_Disk__writes
  refine F.ok sc_Log_room (fun vs H Q E h => ?_) (fun cdv A outer s H vs Q E hr h => ?_)
  · obtain ⟨_, _, _, rfl, _⟩ := h
    rfl
  obtain ⟨lg, l, s, rfl, hH, ok, k⟩ := h
  have hS := Hs.startI hH
  refine ⟨_, (pss_cons (ps_set (i := 1) sc_Log_room.nd rfl (Or.inl rfl) (pe_callD D_floor_under hr (by rfl) pass0 (pa_cons (pe_fldK (K := K) (pv 0) rfl) (pa_cons (pe_fldK (K := K) (pv 0) rfl) pa_nil))))
      (pss_one (ps_ret (pe_op op_sub (pe_op op_sub (pe_meth0 (pe_fldK (K := K) (pv 0) rfl) T.cl_Disk m_Disk_blocks G_Disk_blocks (hr.mono (by decide)) b_Disk_blocks .nil pass0) pe_int) (pe_op op_sub (pe_fldK (K := K) (pv 0) rfl) (pv 1)))))), ?_⟩
  refine s_start (by simp only [L2.start, List.map_cons, List.map_nil, List.length_cons, List.length_nil, Nat.reduceAdd, Nat.reduceSub, List.replicate, List.cons_append, List.nil_append]; rfl) ?_
  k_node
  refine ⟨l.ra, l.rows, l.num, rfl, hS.holds.sub ((List.Sublist.cons _ (List.Sublist.cons _ (List.Sublist.cons _ (List.Sublist.refl _)))).trans (List.sublist_append_left _ _)), fun H1 u1 => ?_⟩
  have hS1 := hS.call0 u1
  k_spoken
  refine ⟨l.d, s, rfl, hS1.holds.sub (List.sublist_append_right _ _), ok, ?_⟩
  k_spoken
  exact k _ hS1.up
theorem ok_Log_gone {f : Addr} {fd : FuncData} (F : Fun K "gone" "Log.gone" st_Log_gone f fd) (T : Txt K mg Z)  : FnOk P w K mg base CX0 1 f fd ["self"] (sp_Log_gone K Z) := by
  have cl_Log := T.cl_Log
  have na_Log__cut := T.na_Log__cut
  have na_Log__disk := T.na_Log__disk
  have na_Log__gone := T.na_Log__gone
  have na_Log__number := T.na_Log__number
  have na_Log__rows := T.na_Log__rows
  have na_Log__torn := T.na_Log__torn
  have cl_Disk := T.cl_Disk
  have na_Disk__blocks := T.na_Disk__blocks
  have na_Disk__let := T.na_Disk__let
  have na_Disk__part := T.na_Disk__part
  have na_Disk__reads := T.na_Disk__reads
  have na_Disk__writes := T.na_Disk__writes
  refine F.ok sc_Log_gone (fun vs H Q E h => ?_) (fun cdv A outer s H vs Q E hr h => ?_)
  · obtain ⟨_, _, rfl, _⟩ := h
    rfl
  obtain ⟨lg, l, rfl, hH, k⟩ := h
  have hS := Hs.startL hH
  refine ⟨_, (pss_one (ps_ret (pe_fldK (K := K) (pv 0) rfl))), ?_⟩
  refine s_start (by simp only [L2.start, List.map_cons, List.map_nil, List.length_cons, List.length_nil, Nat.reduceAdd, Nat.reduceSub, List.replicate, List.cons_append, List.nil_append]; rfl) ?_
  k_sweep
  exact k
theorem ok_Log_put {f : Addr} {fd : FuncData} (F : Fun K "put" "Log.put" st_Log_put f fd) (T : Txt K mg Z) (D_made : DefOk P w K mg base CX0 1 "made" ["number", "floor", "begin", "left", "data"] (sp_made K Z)) (D_pieces : DefOk P w K mg base CX0 1 "pieces" ["row"] (sp_pieces K Z)) (D_is_row : DefOk P w K mg base CX0 2 "_is_row" ["row"] (sp_is_row K Z)) (D_floor_under : DefOk P w K mg base CX0 1 "_floor_under" ["rows", "number"] (sp_floor_under K Z)) (M_Log_room : MethOk P w K mg base CX0 2 Z.Log "room" ["self"] (sp_Log_room K Z)) (M_Log__need_here : MethOk P w K mg base (L2N.CX P w) 1 Z.Log "_need_here" ["self"] (sp_Log__need_here K Z)) (M_Log__write : MethOk P w K mg base (L2N.CX P w) 4 Z.Log "_write" ["self", "words"] (sp_Log__write K Z)) (M_Log__wrote : MethOk P w K mg base CX0 1 Z.Log "_wrote" ["self", "number", "floor"] (sp_Log__wrote K Z)) : FnOk P w K mg base (L2N.CX P w) 5 f fd ["self", "row"] (sp_Log_put K Z) := by
  obtain ⟨f_Log_room, fd_Log_room, G_Log_room, b_Log_room, m_Log_room⟩ := M_Log_room.ex
  obtain ⟨f_Log__need_here, fd_Log__need_here, G_Log__need_here, b_Log__need_here, m_Log__need_here⟩ := M_Log__need_here.ex
  obtain ⟨f_Log__write, fd_Log__write, G_Log__write, b_Log__write, m_Log__write⟩ := M_Log__write.ex
  obtain ⟨f_Log__wrote, fd_Log__wrote, G_Log__wrote, b_Log__wrote, m_Log__wrote⟩ := M_Log__wrote.ex
  have cl_Log := T.cl_Log
  have na_Log__cut := T.na_Log__cut
  have na_Log__disk := T.na_Log__disk
  have na_Log__gone := T.na_Log__gone
  have na_Log__number := T.na_Log__number
  have na_Log__rows := T.na_Log__rows
  have na_Log__torn := T.na_Log__torn
  have cl_Disk := T.cl_Disk
  have na_Disk__blocks := T.na_Disk__blocks
  have na_Disk__let := T.na_Disk__let
  have na_Disk__part := T.na_Disk__part
  have na_Disk__reads := T.na_Disk__reads
  have na_Disk__writes := T.na_Disk__writes
  refine funN F sc_Log_put (fun vs H Q E h => ?_) (fun cdv A outer s H vs Q E hr h => ?_)
  · rcases h with ⟨_, _, _, _, rfl, _⟩ | ⟨_, _, _, _, _, rfl, _⟩ <;> rfl
  skip
  refine ⟨_, (pss_cons (ps_expr (pe_meth0 (pv 0) T.cl_Log m_Log__need_here G_Log__need_here (hr.mono (by decide)) b_Log__need_here .nil (L2N.passes_call (L2N.takes_of rfl rfl rfl rfl) (fun _ _ _ _ h => h))))
      (pss_cons (ps_if (pt_not (pt_val (pe_callD D_is_row hr (by rfl) pass0 (pa_cons (pv 1) pa_nil)))) (pss_one (ps_raiseN rfl (L2N.takes_of rfl rfl rfl rfl) (L2N.pmk_own PySem.F.excBase_ValueError T.x_BadRow T.g_BadRow T.kp_BadRow (raises_own T.sb_BadRow T.ty_BadRow) rfl))) pss_nil)
      (pss_cons (ps_set (i := 2) sc_Log_put.nd rfl (Or.inl rfl) (pe_callD D_pieces hr (by rfl) pass0 (pa_cons (pv 1) pa_nil)))
      (pss_cons (ps_if (pt_cmpR op_gt (pe_callB (call_lenK (K := K)) (by rfl) T.m_len (by decide +kernel) (pa_cons (pv 2) pa_nil)) (pe_meth0 (pv 0) T.cl_Log m_Log_room G_Log_room (hr.mono (by decide)) b_Log_room .nil pass0) (nomark _)) (pss_one (ps_raiseN rfl (L2N.takes_of rfl rfl rfl rfl) (L2N.pmk_own PySem.F.excBase_ValueError T.x_Full T.g_Full T.kp_Full (raises_own T.sb_Full T.ty_Full) rfl))) pss_nil)
      (pss_cons (ps_set (i := 3) sc_Log_put.nd rfl (Or.inl rfl) (pe_op op_add (pe_fldK (K := K) (pv 0) rfl) pe_int))
      (pss_cons (ps_set (i := 4) sc_Log_put.nd rfl (Or.inl rfl) (pe_callD D_floor_under hr (by rfl) pass0 (pa_cons (pe_fldK (K := K) (pv 0) rfl) (pa_cons (pe_fldK (K := K) (pv 0) rfl) pa_nil))))
      (pss_cons (ps_set (i := 5) sc_Log_put.nd rfl (Or.inl rfl) (pe_op op_sub (pe_callB (call_lenK (K := K)) (by rfl) T.m_len (by decide +kernel) (pa_cons (pv 2) pa_nil)) pe_int))
      (pss_cons (ps_for (passes_of rfl) rfl (pi_enumK (K := K) rfl T.m_enumerate (pa_cons (pv 2) pa_nil)) (pg_tupK (K := K) rfl (pgs_cons (pg_name (i := 6) sc_Log_put.nd rfl (Or.inl rfl)) (pgs_cons (pg_name (i := 7) sc_Log_put.nd rfl (Or.inl rfl)) pgs_nil)))
      (pss_one (ps_expr (pe_meth (pv 0) T.cl_Log m_Log__write G_Log__write (hr.mono (by decide)) b_Log__write .nil (L2N.passes_call (L2N.takes_of rfl rfl rfl rfl) (fun _ _ _ _ h => h)) (pa_cons (pe_callD D_made hr (by rfl) pass0 (pa_cons (pe_op op_add (pv 3) (pv 6)) (pa_cons (pv 4) (pa_cons (pv 3) (pa_cons (pe_op op_sub (pv 5) (pv 6)) (pa_cons (pv 7) pa_nil)))))) pa_nil)))))
      (pss_cons (ps_expr (pe_bmK (K := K) PySem.F.plainAttrs_list PySem.F.slot_list_append PySem.F.type_list_append mt_append (pe_fldK (K := K) (pv 0) rfl) (pa_cons (pe_tup (pa_cons (pv 3) (pa_cons (pe_callTy (call_listOfK (K := K)) (by rfl) T.m_list (by decide +kernel) (pa_cons (pv 1) pa_nil)) pa_nil))) pa_nil)))
      (pss_cons (ps_expr (pe_meth (pv 0) T.cl_Log m_Log__wrote G_Log__wrote (hr.mono (by decide)) b_Log__wrote .nil pass0 (pa_cons (pe_op op_add (pv 3) (pv 5)) (pa_cons (pv 4) pa_nil))))
      (pss_one (ps_ret (pv 3))))))))))))), ?_⟩
  refine s_start (by simp only [L2.start, List.map_cons, List.map_nil, List.length_cons, List.length_nil, Nat.reduceAdd, Nat.reduceSub, List.replicate, List.cons_append, List.nil_append]; rfl) ?_
  rcases h with ⟨lg, v, l, s, rfl, hH, hno, kG, kB⟩ | ⟨lg, wr, l, s, row, rfl, hH, ok, hp0, hp7, hlt0, hr11, hrb, hcut, hrows, hn0, hn1, hf0, hf1, kG, kF, kP⟩
  · have hS := Hs.startI hH
    k_node
    refine ⟨lg, l, rfl, hH.sub (List.sublist_append_left _ _), kG, fun hg => ?_⟩
    have kB := kB hg
    k_spoken
    k_node
    rcases hno with rfl | ⟨x, rfl⟩ | ⟨a, b, items, rfl, ha, hf, hz, hbad⟩
    · refine .inl ⟨_, rfl, .inl rfl, fun H1 u1 => ?_⟩
      k_spoken
      exact kB _ u1
    · refine .inl ⟨_, rfl, .inr ⟨_, rfl⟩, fun H1 u1 => ?_⟩
      k_spoken
      exact kB _ u1
    · refine .inr ⟨a, b, items, rfl, ha, hf, hz, fun H1 u1 => ?_⟩
      rw [hbad]
      k_spoken
      exact kB _ u1
  · have hS := Hs.startC hH
    have h4 := ok.lo
    have h64 := ok.hi
    generalize hfe : floorU l.rw l.num = f at *
    have hpl := pcs_len row
    k_node
    refine ⟨lg, l, rfl, hS.part (List.sublist_append_left _ _), kG, fun hg => ?_⟩
    have kF := kF hg
    have kP := kP hg
    k_spoken
    k_node
    refine s_is_row hS (b := true) (items := row.map V.int) (hS.getI (.head _)) (fun x hx => by
      obtain ⟨y, _, rfl⟩ := List.mem_map.mp hx
      trivial) (by rw [List.length_map]; omega) ?_
    intro H1 hS1 u1
    rw [rowB_of hr11 hrb, Bool.true_and]
    k_spoken
    k_node
    rename_i p qs H2 hql hS2 u2
    have hS2 : Hs _ H H2 (((p, HO.lst (qs.map V.ref)) :: rowsL qs (pcs row)) ++ (logL Z lg l ++ diskL Z l.d s)) [(wr, .lst (row.map V.int))] := hS2
    have hS3 := (hS2.perm (M' := (logL Z lg l ++ diskL Z l.d s) ++ ((p, HO.lst (qs.map V.ref)) :: rowsL qs (pcs row))) List.perm_append_comm).cast (M' := logC Z lg l (diskL Z l.d s ++ ((p, HO.lst (qs.map V.ref)) :: rowsL qs (pcs row)))) (by rw [List.append_assoc, logC_eq])
    clear hS2 hS1 hS
    have fl : H2 lg = some (.ins Z.Log l.dx (lF l)) := hS3.getM (.head _)
    have fp : H2 p = some (.lst (qs.map V.ref)) := hS3.getM ((logC_C Z lg l _).subset (List.mem_append_right _ (.head _)))
    k_node
    refine ⟨lg, l, s, rfl, hS3.part (by rw [logC_eq]; exact logC_sub Z lg l (List.sublist_append_left _ _)), ok, fun H3 u3 => ?_⟩
    have hS4 := hS3.call0 u3
    rw [hfe]
    have hlen : ((qs.map V.ref).length : Int) = (pcs row).length := by rw [List.length_map, hql]
    rw [hlen]
    clear fl fp hS3
    have fl : H3 lg = some (.ins Z.Log l.dx (lF l)) := hS4.getM (.head _)
    have fp : H3 p = some (.lst (qs.map V.ref)) := hS4.getM ((logC_C Z lg l _).subset (List.mem_append_right _ (.head _)))
    k_spoken
    apply s_iteD
    · intro c
      k_sweep
      exact kF c _ (u1.trans (u2.trans u3))
    · intro c
      obtain ⟨kS, kO⟩ := kP (by have c : ¬ ((s.ws.length : Int) - 1 - (l.num - f) < (pcs row).length) := c; omega)
      clear kF kP kG
      k_spoken
      k_node
      k_node
      refine ⟨l.ra, l.rows, l.num, rfl, hS4.part ((List.Sublist.cons _ (List.Sublist.cons _ (List.Sublist.cons _ (List.Sublist.refl _)))).trans (logC_log Z lg l _)), fun H4 u4 => ?_⟩
      have hS5 := hS4.call0 u4
      clear fl fp
      have fp : H4 p = some (.lst (qs.map V.ref)) := hS5.getM ((logC_C Z lg l _).subset (List.mem_append_right _ (.head _)))
      have hfe2 : floorU (l.rows.map Prod.snd) l.num = f := hfe
      rw [hfe2]
      k_spoken
      k_node
      rw [hlen]
      k_node
      have hbll := rowB_len row f (l.num + 1)
      refine f_enum (xs := qs.map V.ref) (fun i σ H' => ∃ (bs : List Addr) (x6 x7 : Option V), σ = [some (.ref lg), some (.ref wr), some (.ref p), some (.int (l.num + 1)), some (.int f), some (.int (((pcs row).length : Int) - 1)), x6, x7] ∧ bs.length = s.bs.length ∧ (∀ t, s.lt = some t → (i : Int) ≤ t) ∧ Hs ((logL Z lg l ++ diskL Z l.d s).map Prod.fst) H H' (logC Z lg l (diskL Z l.d (dPut s bs l.num ((rowB row f (l.num + 1)).take i)) ++ ((p, HO.lst (qs.map V.ref)) :: rowsL qs (pcs row)))) [(wr, .lst (row.map V.int))]) ⟨s.bs, _, _, rfl, rfl, fun t ht => by have := hlt0 t ht; omega, ?_⟩ ?_ ?_ ?_
      · rw [List.take_zero, dPut_nil]
        exact hS5
      · rintro i σ H' _ ⟨bs, x6, x7, _, _, _, hS6⟩
        exact SqL.of (hS6.getM ((logC_C Z lg l _).subset (List.mem_append_right _ (.head _))))
      · rintro i y T σ H5 hy ⟨bs, x6, x7, rfl, hbs, hti, hS6⟩ hT
        clear hS5 hS4 fp
        obtain ⟨q, hq, rfl⟩ : ∃ q, qs[i]? = some q ∧ V.ref q = y := by simpa using hy
        clear hy
        have hi : i < (pcs row).length := by rw [← hql]; exact (List.getElem?_eq_some_iff.mp hq).1
        have hpc := List.getElem?_eq_getElem hi
        obtain ⟨c1, c2, c3, hc3⟩ := pcs_three (List.getElem_mem hi)
        have hbi := rowB_get (f := f) (b := l.num + 1) hpc
        have hbo := rowB_ok hbi hrb hr11 ⟨hf0, by omega⟩ ⟨by omega, by omega⟩
        have htl : ((rowB row f (l.num + 1)).take i).length = i := by rw [List.length_take, hbll]; omega
        have hS7 := hS6.new hT (.tup [.int (i : Nat), .ref q])
        have fT : (upd H5 T (.tup [.int (i : Nat), .ref q])) T = some (.tup [.int (i : Nat), .ref q]) := hS7.getM (.head _)
        have fq : (upd H5 T (.tup [.int (i : Nat), .ref q])) q = some (.lst (((pcs row)[i]).map V.int)) := hS7.getM (.tail _ ((logC_C Z lg l _).subset (List.mem_append_right _ (.tail _ (rowsL_get hq hpc)))))
        have h3 : ((pcs row)[i]).length ≤ 1000 := by rw [hc3]; simp
        have fl : (upd H5 T (.tup [.int (i : Nat), .ref q])) lg = some (.ins Z.Log l.dx (lF l)) := hS7.getM (.tail _ (.head _))
        generalize upd H5 T (.tup [.int (i : Nat), .ref q]) = H6 at *
        k_spoken
        rename_i wa H7 hS8 u8 hwa
        refine ⟨lg, wa, l, dPut s bs l.num ((rowB row f (l.num + 1)).take i), _, rfl, hS8.part (.cons₂ _ (.cons _ (.cons₂ _ (.cons _ (.cons _ (.cons _ ((List.sublist_append_left _ _).trans (List.sublist_append_right _ _)))))))), dPut_ok ok hbs (fun b hb => ?_), hbo.1, hbo.2.1, hp0, hp7, fun hlt bs2 H8 hb2 f2 => ?_, fun hlt bs2 H8 hb2 f2 => ?_⟩
        · obtain ⟨j, hj⟩ := List.getElem?_of_mem (List.mem_of_mem_take hb)
          exact (rowB_blk hj).1.len
        · have h0 := hbo.2.2
          rw [dCut_next (by rw [h0, htl]; omega) hlt] at f2
          have hS9 := hS8.seg f2 (.there (.there (.there (.there (.there (.there (.skip .here)))))))
          have hlt2 := dPut_lt.mp hlt
          rw [htl] at hlt2
          exact kS i _ bs2 _ hlt2 hbi (hb2.trans hbs) (Frm.of hS9 (.cons _ (.cons _ (.cons _ (.cons _ (.cons _ (.cons _ ((List.sublist_append_left _ _).trans (List.sublist_append_right _ _)))))))))
        · have h0 := hbo.2.2
          rw [dPut_next (by rw [h0, htl]; omega), ← take_snoc hbi] at f2
          have hS9 := hS8.seg f2 (.there (.there (.there (.there (.there (.there (.skip .here)))))))
          k_spoken
          refine ⟨bs2, _, _, rfl, hb2.trans hbs, fun t ht => ?_, (hS9.tl).tl⟩
          have h1 := hti t ht
          have h2 : t ≠ (i : Int) := fun e => hlt (dPut_lt.mpr (by rw [htl, ht, e]))
          push_cast
          omega
      · rintro σ H5 ⟨bs, x6, x7, rfl, hbs, hti, hS6⟩
        clear hS5 hS4 fp
        rw [List.length_map, hql, List.take_of_length_le (by rw [hbll]; exact Nat.le_refl _)] at hS6
        have hti : ∀ t, s.lt = some t → ((pcs row).length : Int) ≤ t := fun t ht => by
          have := hti t ht
          rw [List.length_map, hql] at this
          exact this
        have hS7 : Hs ((logL Z lg l ++ diskL Z l.d s).map Prod.fst) H H5 ((lg, .ins Z.Log l.dx (lF l)) :: (l.dx, .own lg) :: (l.ca, .lst (l.cut.map V.int)) :: (l.ra, .lst (l.rows.map tf)) :: (rL l.rows ++ (diskL Z l.d (dPut s bs l.num (rowB row f (l.num + 1))) ++ ((p, HO.lst (qs.map V.ref)) :: rowsL qs (pcs row))))) [(wr, .lst (row.map V.int))] := hS6
        clear hS6
        have fr : H5 wr = some (.lst (row.map V.int)) := hS7.getI (.head _)
        k_node
        rename_i wl H6 hS8 _ _ T H7 hS9 _ _ H8 hS10 _
        have hS11 := hS10.perm (logC_add Z lg l T wl (l.num + 1) row _)
        clear hS10 hS9 hS8 hS7
        have fl : H8 lg = some (.ins Z.Log l.dx (lF l)) := hS11.getM (.head _)
        k_node
        refine ⟨lg, { l with rows := l.rows ++ [((T, wl), (l.num + 1, row))] }, l.num + 1 + (((pcs row).length : Int) - 1), f, rfl, hS11.part (logC_log Z lg _ _), hcut, fun ca H9 f9 => ?_⟩
        have hS12 := hS11.seg f9 (.here (L := logL Z lg { l with rows := l.rows ++ [((T, wl), (l.num + 1, row))] }))
        k_sweep
        have en : l.num + 1 + (((pcs row).length : Int) - 1) = l.num + ((pcs row).length : Nat) := by omega
        rw [en] at hS12
        exact kO hti bs ca T wl _ hbs (Frm.of hS12 (List.Sublist.append (List.Sublist.refl _) (List.sublist_append_left _ _)))
theorem ok_Log_take {f : Addr} {fd : FuncData} (F : Fun K "take" "Log.take" st_Log_take f fd) (T : Txt K mg Z) (D_made_mark : DefOk P w K mg base CX0 2 "made_mark" ["number", "floor"] (sp_made_mark K Z)) (D_floor_under : DefOk P w K mg base CX0 1 "_floor_under" ["rows", "number"] (sp_floor_under K Z)) (M_Log__need_here : MethOk P w K mg base (L2N.CX P w) 1 Z.Log "_need_here" ["self"] (sp_Log__need_here K Z)) (M_Log__write : MethOk P w K mg base (L2N.CX P w) 4 Z.Log "_write" ["self", "words"] (sp_Log__write K Z)) (M_Log__wrote : MethOk P w K mg base CX0 1 Z.Log "_wrote" ["self", "number", "floor"] (sp_Log__wrote K Z)) : FnOk P w K mg base (L2N.CX P w) 5 f fd ["self"] (sp_Log_take K Z) := by
  obtain ⟨f_Log__need_here, fd_Log__need_here, G_Log__need_here, b_Log__need_here, m_Log__need_here⟩ := M_Log__need_here.ex
  obtain ⟨f_Log__write, fd_Log__write, G_Log__write, b_Log__write, m_Log__write⟩ := M_Log__write.ex
  obtain ⟨f_Log__wrote, fd_Log__wrote, G_Log__wrote, b_Log__wrote, m_Log__wrote⟩ := M_Log__wrote.ex
  have cl_Log := T.cl_Log
  have na_Log__cut := T.na_Log__cut
  have na_Log__disk := T.na_Log__disk
  have na_Log__gone := T.na_Log__gone
  have na_Log__number := T.na_Log__number
  have na_Log__rows := T.na_Log__rows
  have na_Log__torn := T.na_Log__torn
  have cl_Disk := T.cl_Disk
  have na_Disk__blocks := T.na_Disk__blocks
  have na_Disk__let := T.na_Disk__let
  have na_Disk__part := T.na_Disk__part
  have na_Disk__reads := T.na_Disk__reads
  have na_Disk__writes := T.na_Disk__writes
  refine funN F sc_Log_take (fun vs H Q E h => ?_) (fun cdv A outer s H vs Q E hr h => ?_)
  · obtain ⟨_, _, _, rfl, _⟩ := h
    rfl
  obtain ⟨lg, l, s, rfl, hH, ok, hp0, hp7, hcut, hrows, hn0, hn1, hf0, hf1, kG, kE, kP⟩ := h
  have hS := Hs.startL hH
  refine ⟨_, (pss_cons (ps_expr (pe_meth0 (pv 0) T.cl_Log m_Log__need_here G_Log__need_here (hr.mono (by decide)) b_Log__need_here .nil (L2N.passes_call (L2N.takes_of rfl rfl rfl rfl) (fun _ _ _ _ h => h))))
      (pss_cons (ps_if (pt_not (pt_truthK (K := K) (pe_fldK (K := K) (pv 0) rfl) (by intro _; rfl))) (pss_one (ps_raiseN rfl (L2N.takes_of rfl rfl rfl rfl) (L2N.pmk_own PySem.F.excBase_ValueError T.x_Empty T.g_Empty T.kp_Empty (raises_own T.sb_Empty T.ty_Empty) rfl))) pss_nil)
      (pss_cons (ps_asg (pe_ix (ix_listK (K := K)) (pe_fldK (K := K) (pv 0) rfl) pe_int (fun _ _ => rfl)) (pg_tupK (K := K) rfl (pgs_cons (pg_name (i := 1) sc_Log_take.nd rfl (Or.inl rfl)) (pgs_cons (pg_name (i := 2) sc_Log_take.nd rfl (Or.inl rfl)) pgs_nil))))
      (pss_cons (ps_set (i := 3) sc_Log_take.nd rfl (Or.inl rfl) (pe_slice (sl_listK (K := K)) (pe_fldK (K := K) (pv 0) rfl) (po_some pe_int) po_none))
      (pss_cons (ps_set (i := 4) sc_Log_take.nd rfl (Or.inl rfl) (pe_callD D_floor_under hr (by rfl) pass0 (pa_cons (pv 3) (pa_cons (pe_fldK (K := K) (pv 0) rfl) pa_nil))))
      (pss_cons (ps_set (i := 5) sc_Log_take.nd rfl (Or.inl rfl) (pe_op op_add (pe_fldK (K := K) (pv 0) rfl) pe_int))
      (pss_cons (ps_expr (pe_meth (pv 0) T.cl_Log m_Log__write G_Log__write (hr.mono (by decide)) b_Log__write .nil (L2N.passes_call (L2N.takes_of rfl rfl rfl rfl) (fun _ _ _ _ h => h)) (pa_cons (pe_callD D_made_mark hr (by rfl) pass0 (pa_cons (pv 5) (pa_cons (pv 4) pa_nil))) pa_nil)))
      (pss_cons (ps_fldK (K := K) (pv 0) (pv 3) rfl)
      (pss_cons (ps_expr (pe_meth (pv 0) T.cl_Log m_Log__wrote G_Log__wrote (hr.mono (by decide)) b_Log__wrote .nil pass0 (pa_cons (pv 5) (pa_cons (pv 4) pa_nil))))
      (pss_one (ps_ret (pv 2)))))))))))), ?_⟩
  refine s_start (by simp only [L2.start, List.map_cons, List.map_nil, List.length_cons, List.length_nil, Nat.reduceAdd, Nat.reduceSub, List.replicate, List.cons_append, List.nil_append]; rfl) ?_
  have h4 := ok.lo
  have h64 := ok.hi
  k_node
  refine ⟨lg, l, rfl, hS.part (List.sublist_append_left _ _), kG, fun hg => ?_⟩
  have kE := kE hg
  have kP := kP hg
  k_spoken
  cases hr : l.rows with
  | nil =>
    have f1 : H lg = some (.ins Z.Log l.dx (lF l)) := hS.getM (.head _)
    have f2 : H l.ra = some (.lst []) := by
      have := hS.getM (a := l.ra) (o := .lst (l.rows.map tf)) (.tail _ (.tail _ (.tail _ (.head _))))
      rw [hr] at this
      exact this
    k_sweep
    exact kE hr
  | cons x xs =>
    have kP := kP x xs hr
    have hrw : l.rw.tail = xs.map Prod.snd := by unfold LS.rw; rw [hr]; rfl
    generalize hfe : floorU l.rw.tail l.num = f at *
    have hS : Hs ((logL Z lg l ++ diskL Z l.d s).map Prod.fst) H H (logC Z lg l (diskL Z l.d s)) [] := hS
    have hC : logC Z lg l (diskL Z l.d s) = (lg, .ins Z.Log l.dx (lF l)) :: (l.dx, .own lg) :: (l.ca, .lst (l.cut.map V.int)) :: (l.ra, .lst (V.ref x.1.1 :: xs.map tf)) :: (x.1.1, .tup [.int x.2.1, .ref x.1.2]) :: (x.1.2, .lst (x.2.2.map V.int)) :: (rL xs ++ diskL Z l.d s) := by
      unfold logC
      rw [hr]
      rfl
    rw [hC] at hS
    have e0 : atI (V.ref x.1.1 :: xs.map tf) 0 = some (V.ref x.1.1) := atI_nat (j := 0) rfl
    k_node
    k_node
    k_node
    rename_i la H1 hS1 _ _
    have ec : cutV (V.ref x.1.1 :: xs.map tf) (some 1) none = xs.map tf := by
      unfold cutV
      have e1 : HT.sIx (V.ref x.1.1 :: xs.map tf).length 0 (some 1) = 1 := by
        rw [show (1 : Int) = ((1 : Nat) : Int) from rfl, HT.sIx_nat]
        simp
      rw [e1, HT.sIx_none]
      simp only [List.length_cons, List.length_map, Nat.add_sub_cancel, List.drop_succ_cons, List.drop_zero]
      exact List.take_of_length_le (by rw [List.length_map]; exact Nat.le_refl _)
    rw [ec] at hS1
    clear e0
    k_node
    refine ⟨la, xs, l.num, rfl, hS1.part (.cons₂ _ (.cons _ (.cons _ (.cons _ (.cons _ (.cons _ (.cons _ (List.sublist_append_left _ _)))))))), fun H2 u2 => ?_⟩
    have hS2 := hS1.call0 u2
    rw [← hrw, hfe]
    clear hS1 hS
    k_spoken
    k_node
    k_node
    rename_i wa H5 hS5 _ _
    clear hS2
    have hmb : ∀ y ∈ markB (l.num + 1) f, 0 ≤ y ∧ y ≤ 1000000000000000 := by
      intro y hy
      simp only [markB, List.mem_cons, List.not_mem_nil, or_false] at hy
      omega
    have h0 : (markB (l.num + 1) f).getD 0 0 = l.num + (([] : List (List Int)).length : Nat) + 1 := by
      show l.num + 1 = l.num + ((0 : Nat) : Int) + 1
      omega
    refine ⟨lg, wa, l, s, markB (l.num + 1) f, rfl, hS5.part (.cons₂ _ (.cons _ (.cons₂ _ (.cons _ (.cons _ (.cons _ (.cons _ (.cons _ (List.sublist_append_right _ _))))))))), ok, rfl, blockB_of rfl hmb, hp0, hp7, fun hlt bs H6 hb f6 => ?_, fun hlt bs H6 hb f6 => ?_⟩
    · have e := dCut_next (s := s) (bs := s.bs) (bs' := bs) (num := l.num) (bl := []) (b := markB (l.num + 1) f) h0 (by rw [dPut_nil]; exact hlt)
      rw [dPut_nil] at e
      rw [e] at f6
      have hS6 := hS5.seg f6 (.there (.there (.there (.there (.there (.there (.there (.there (.skip .end_)))))))))
      exact kP.1 hlt bs _ hb (Frm.of hS6 (.cons _ (.cons _ (.cons _ (.cons _ (.cons _ (.cons _ (.cons _ (.cons _ (List.sublist_append_right _ _))))))))))
    · have e := dPut_next (s := s) (bs := s.bs) (bs' := bs) (num := l.num) (bl := []) (b := markB (l.num + 1) f) h0
      rw [dPut_nil, List.nil_append] at e
      rw [e] at f6
      have hS6 := hS5.seg f6 (.there (.there (.there (.there (.there (.there (.there (.there (.skip .end_)))))))))
      clear hS5 f6
      k_node
      rename_i H7 hS7 _
      have hS8 := hS7.sub (M' := (la, .lst (xs.map tf)) :: ([(lg, .ins Z.Log l.dx (lF { l with ra := la, rows := xs })), (l.dx, .own lg), (l.ca, .lst (l.cut.map V.int))] ++ (x.1.2, .lst (x.2.2.map V.int)) :: (rL xs ++ diskL Z l.d (dPut s bs l.num [markB (l.num + 1) f])))) (.cons _ (.cons₂ _ (.cons₂ _ (.cons₂ _ (.cons₂ _ (.cons _ (.cons _ (List.Sublist.refl _))))))))
      have hS9 : Hs _ H H7 ((x.1.2, .lst (x.2.2.map V.int)) :: (logL Z lg { l with ra := la, rows := xs } ++ diskL Z l.d (dPut s bs l.num [markB (l.num + 1) f]))) [] := hS8.perm (swapEnds (x.1.2, HO.lst (x.2.2.map V.int)) (la, HO.lst (xs.map tf)) [(lg, HO.ins Z.Log l.dx (lF { l with ra := la, rows := xs })), (l.dx, HO.own lg), (l.ca, HO.lst (l.cut.map V.int))] (rL xs ++ diskL Z l.d (dPut s bs l.num [markB (l.num + 1) f])))
      clear hS8 hS7 hS6
      have fl : H7 lg = some (.ins Z.Log l.dx (lF { l with ra := la, rows := xs })) := hS9.getM (.tail _ (.head _))
      k_node
      refine ⟨lg, { l with ra := la, rows := xs }, l.num + 1, f, rfl, hS9.part (.cons _ (List.sublist_append_left _ _)), hcut, fun ca H8 f8 => ?_⟩
      have hS10 := hS9.seg f8 (.there .here)
      k_sweep
      exact kP.2 hlt bs ca la _ hb (Frm.of hS10 (List.Sublist.refl _))
theorem ok_Log_take_all {f : Addr} {fd : FuncData} (F : Fun K "take_all" "Log.take_all" st_Log_take_all f fd) (T : Txt K mg Z) (D_made_mark : DefOk P w K mg base CX0 2 "made_mark" ["number", "floor"] (sp_made_mark K Z)) (M_Log__write_end : MethOk P w K mg base (L2N.CX P w) 5 Z.Log "_write_end" ["self", "words"] (sp_Log__write_end K Z)) : FnOk P w K mg base (L2N.CX P w) 6 f fd ["self"] (sp_Log_take_all K Z) := by
  obtain ⟨f_Log__write_end, fd_Log__write_end, G_Log__write_end, b_Log__write_end, m_Log__write_end⟩ := M_Log__write_end.ex
  have cl_Log := T.cl_Log
  have na_Log__cut := T.na_Log__cut
  have na_Log__disk := T.na_Log__disk
  have na_Log__gone := T.na_Log__gone
  have na_Log__number := T.na_Log__number
  have na_Log__rows := T.na_Log__rows
  have na_Log__torn := T.na_Log__torn
  have cl_Disk := T.cl_Disk
  have na_Disk__blocks := T.na_Disk__blocks
  have na_Disk__let := T.na_Disk__let
  have na_Disk__part := T.na_Disk__part
  have na_Disk__reads := T.na_Disk__reads
  have na_Disk__writes := T.na_Disk__writes
  refine funN F sc_Log_take_all (fun vs H Q E h => ?_) (fun cdv A outer s H vs Q E hr h => ?_)
  · obtain ⟨_, _, _, rfl, _⟩ := h
    rfl
  obtain ⟨lg, l, s, rfl, hH, ok, hp0, hp7, hcut, hn0, hn1, k0, kP⟩ := h
  have hS := Hs.startL hH
  refine ⟨_, (pss_one (ps_if (PW.pt (pw_or (pt_truthK (K := K) (pe_fldK (K := K) (pv 0) rfl) (by intro _; rfl)) (pw_or1 (pt_val (pe_fldK (K := K) (pv 0) rfl))))) (pss_cons (ps_expr (pe_meth (pv 0) T.cl_Log m_Log__write_end G_Log__write_end (hr.mono (by decide)) b_Log__write_end .nil (L2N.passes_call (L2N.takes_of rfl rfl rfl rfl) (fun _ _ _ _ h => h)) (pa_cons (pe_callD D_made_mark hr (by rfl) pass0 (pa_cons (pe_op op_add (pe_fldK (K := K) (pv 0) rfl) pe_int) (pa_cons (pe_fldK (K := K) (pv 0) rfl) pa_nil))) pa_nil)))
      (pss_one (ps_fldK (K := K) (pv 0) pe_bl rfl))) pss_nil)), ?_⟩
  refine s_start (by simp only [L2.start, List.map_cons, List.map_nil, List.length_cons, List.length_nil, Nat.reduceAdd, Nat.reduceSub, List.replicate, List.cons_append, List.nil_append]; rfl) ?_
  have h4 := ok.lo
  have h64 := ok.hi
  have hmb : ∀ y ∈ markB (l.num + 1) l.num, 0 ≤ y ∧ y ≤ 1000000000000000 := by
    intro y hy
    simp only [markB, List.mem_cons, List.not_mem_nil, or_false] at hy
    omega
  cases hr : l.rows with
  | nil =>
    have f2 : H l.ra = some (.lst []) := by
      have := hS.getM (a := l.ra) (o := .lst (l.rows.map tf)) (.tail _ (.tail _ (.tail _ (.head _))))
      rw [hr] at this
      exact this
    have f1 : H lg = some (.ins Z.Log l.dx (lF l)) := hS.getM (.head _)
    cases hg : l.gone with
    | false =>
      have f1' : H lg = some (.ins Z.Log l.dx [("_disk", .ref l.d), ("_number", .int l.num), ("_torn", ltV l.torn), ("_cut", .ref l.ca), ("_gone", .bl false), ("_rows", .ref l.ra)]) := by rw [f1]; unfold lF; rw [hg]
      clear f1
      k_sweep
      exact k0 hg hr
    | true =>
      have f1' : H lg = some (.ins Z.Log l.dx [("_disk", .ref l.d), ("_number", .int l.num), ("_torn", ltV l.torn), ("_cut", .ref l.ca), ("_gone", .bl true), ("_rows", .ref l.ra)]) := by rw [f1]; unfold lF; rw [hg]
      clear f1
      k_spoken
      k_node
      rename_i wa H1 hS1 _ _
      have kP := kP (.inl hg)
      refine ⟨lg, wa, l, s, markB (l.num + 1) l.num, rfl, hS1.part (List.Sublist.refl _), ok, hp0, hp7, hcut, rfl, rfl, blockB_of rfl hmb, fun hlt bs H2 hb f2 => ?_, fun hlt bs ca ra H2 hb f2 => ?_⟩
      · have hS2 := hS1.seg f2 (.there .end_)
        exact kP.1 hlt bs _ hb (Frm.of hS2 (.cons _ (List.Sublist.refl _)))
      · have hS2 := hS1.seg f2 (.there .end_)
        clear hS1 f2
        k_sweep
        rename_i H3 hS3 _
        exact kP.2 hlt bs ca ra _ hb (Frm.of (L' := logL Z lg { l with num := l.num + 1, torn := none, ca := ca, cut := l.cut.filter (fun c => decide (l.num < c)), gone := false, ra := ra, rows := [] } ++ diskL Z l.d (dPut s bs l.num [markB (l.num + 1) l.num])) hS3 (.cons _ (List.Sublist.refl _)))
  | cons x xs =>
    have f2 : H l.ra = some (.lst (V.ref x.1.1 :: xs.map tf)) := by
      have := hS.getM (a := l.ra) (o := .lst (l.rows.map tf)) (.tail _ (.tail _ (.tail _ (.head _))))
      rw [hr] at this
      exact this
    have f1 : H lg = some (.ins Z.Log l.dx (lF l)) := hS.getM (.head _)
    k_spoken
    k_node
    rename_i wa H1 hS1 _ _
    have kP := kP (.inr (by rw [hr]; exact fun z => nomatch z))
    refine ⟨lg, wa, l, s, markB (l.num + 1) l.num, rfl, hS1.part (List.Sublist.refl _), ok, hp0, hp7, hcut, rfl, rfl, blockB_of rfl hmb, fun hlt bs H2 hb f2 => ?_, fun hlt bs ca ra H2 hb f2 => ?_⟩
    · have hS2 := hS1.seg f2 (.there .end_)
      exact kP.1 hlt bs _ hb (Frm.of hS2 (.cons _ (List.Sublist.refl _)))
    · have hS2 := hS1.seg f2 (.there .end_)
      clear hS1 f2
      k_sweep
      rename_i H3 hS3 _
      exact kP.2 hlt bs ca ra _ hb (Frm.of (L' := logL Z lg { l with num := l.num + 1, torn := none, ca := ca, cut := l.cut.filter (fun c => decide (l.num < c)), gone := false, ra := ra, rows := [] } ++ diskL Z l.d (dPut s bs l.num [markB (l.num + 1) l.num])) hS3 (.cons _ (List.Sublist.refl _)))
theorem ok_Log_leave {f : Addr} {fd : FuncData} (F : Fun K "leave" "Log.leave" st_Log_leave f fd) (T : Txt K mg Z) (D_made_farewell : DefOk P w K mg base CX0 2 "made_farewell" ["number", "floor"] (sp_made_farewell K Z)) (M_Log__need_here : MethOk P w K mg base (L2N.CX P w) 1 Z.Log "_need_here" ["self"] (sp_Log__need_here K Z)) (M_Log__write_end : MethOk P w K mg base (L2N.CX P w) 5 Z.Log "_write_end" ["self", "words"] (sp_Log__write_end K Z)) : FnOk P w K mg base (L2N.CX P w) 6 f fd ["self"] (sp_Log_leave K Z) := by
  obtain ⟨f_Log__need_here, fd_Log__need_here, G_Log__need_here, b_Log__need_here, m_Log__need_here⟩ := M_Log__need_here.ex
  obtain ⟨f_Log__write_end, fd_Log__write_end, G_Log__write_end, b_Log__write_end, m_Log__write_end⟩ := M_Log__write_end.ex
  have cl_Log := T.cl_Log
  have na_Log__cut := T.na_Log__cut
  have na_Log__disk := T.na_Log__disk
  have na_Log__gone := T.na_Log__gone
  have na_Log__number := T.na_Log__number
  have na_Log__rows := T.na_Log__rows
  have na_Log__torn := T.na_Log__torn
  have cl_Disk := T.cl_Disk
  have na_Disk__blocks := T.na_Disk__blocks
  have na_Disk__let := T.na_Disk__let
  have na_Disk__part := T.na_Disk__part
  have na_Disk__reads := T.na_Disk__reads
  have na_Disk__writes := T.na_Disk__writes
  refine funN F sc_Log_leave (fun vs H Q E h => ?_) (fun cdv A outer s H vs Q E hr h => ?_)
  · obtain ⟨_, _, _, rfl, _⟩ := h
    rfl
  obtain ⟨lg, l, s, rfl, hH, ok, hp0, hp7, hcut, hn0, hn1, hgo, kE, kP⟩ := h
  have hS := Hs.startL hH
  refine ⟨_, (pss_cons (ps_expr (pe_meth0 (pv 0) T.cl_Log m_Log__need_here G_Log__need_here (hr.mono (by decide)) b_Log__need_here .nil (L2N.passes_call (L2N.takes_of rfl rfl rfl rfl) (fun _ _ _ _ h => h))))
      (pss_cons (ps_expr (pe_meth (pv 0) T.cl_Log m_Log__write_end G_Log__write_end (hr.mono (by decide)) b_Log__write_end .nil (L2N.passes_call (L2N.takes_of rfl rfl rfl rfl) (fun _ _ _ _ h => h)) (pa_cons (pe_callD D_made_farewell hr (by rfl) pass0 (pa_cons (pe_op op_add (pe_fldK (K := K) (pv 0) rfl) pe_int) (pa_cons (pe_fldK (K := K) (pv 0) rfl) pa_nil))) pa_nil)))
      (pss_one (ps_fldK (K := K) (pv 0) pe_bl rfl)))), ?_⟩
  refine s_start (by simp only [L2.start, List.map_cons, List.map_nil, List.length_cons, List.length_nil, Nat.reduceAdd, Nat.reduceSub, List.replicate, List.cons_append, List.nil_append]; rfl) ?_
  have h4 := ok.lo
  have h64 := ok.hi
  have hmb : ∀ y ∈ byeB (l.num + 1) l.num, 0 ≤ y ∧ y ≤ 1000000000000000 := by
    intro y hy
    simp only [byeB, List.mem_cons, List.not_mem_nil, or_false] at hy
    omega
  k_node
  refine ⟨lg, l, rfl, hS.part (List.sublist_append_left _ _), (fun c => by rw [hgo] at c; cases c), fun _ => ?_⟩
  k_spoken
  have f1 : H lg = some (.ins Z.Log l.dx (lF l)) := hS.getM (.head _)
  k_node
  rename_i wa H1 hS1 _ _
  refine ⟨lg, wa, l, s, byeB (l.num + 1) l.num, rfl, hS1.part (List.Sublist.refl _), ok, hp0, hp7, hcut, rfl, rfl, blockB_of rfl hmb, fun hlt bs H2 hb f2 => ?_, fun hlt bs ca ra H2 hb f2 => ?_⟩
  · have hS2 := hS1.seg f2 (.there .end_)
    exact kE hlt bs _ hb (Frm.of hS2 (.cons _ (List.Sublist.refl _)))
  · have hS2 := hS1.seg f2 (.there .end_)
    clear hS1 f2
    k_sweep
    rename_i H3 hS3 _
    exact kP hlt bs ca ra _ hb (Frm.of (L' := logL Z lg { l with num := l.num + 1, torn := none, ca := ca, cut := l.cut.filter (fun c => decide (l.num < c)), gone := true, ra := ra, rows := [] } ++ diskL Z l.d (dPut s bs l.num [byeB (l.num + 1) l.num])) hS3 (.cons _ (List.Sublist.refl _)))
theorem ok_Log__need_here {f : Addr} {fd : FuncData} (F : Fun K "_need_here" "Log._need_here" st_Log__need_here f fd) (T : Txt K mg Z)  : FnOk P w K mg base (L2N.CX P w) 1 f fd ["self"] (sp_Log__need_here K Z) := by
  have cl_Log := T.cl_Log
  have na_Log__cut := T.na_Log__cut
  have na_Log__disk := T.na_Log__disk
  have na_Log__gone := T.na_Log__gone
  have na_Log__number := T.na_Log__number
  have na_Log__rows := T.na_Log__rows
  have na_Log__torn := T.na_Log__torn
  have cl_Disk := T.cl_Disk
  have na_Disk__blocks := T.na_Disk__blocks
  have na_Disk__let := T.na_Disk__let
  have na_Disk__part := T.na_Disk__part
  have na_Disk__reads := T.na_Disk__reads
  have na_Disk__writes := T.na_Disk__writes
  refine funN F sc_Log__need_here (fun vs H Q E h => ?_) (fun cdv A outer s H vs Q E hr h => ?_)
  · obtain ⟨_, _, rfl, _⟩ := h
    rfl
  obtain ⟨lg, l, rfl, hH, kE, k⟩ := h
  have hS := Hs.startL hH
  refine ⟨_, (pss_one (ps_if (pt_val (pe_fldK (K := K) (pv 0) rfl)) (pss_one (ps_raiseN rfl (L2N.takes_of rfl rfl rfl rfl) (L2N.pmk_own PySem.F.excBase_ValueError T.x_Gone T.g_Gone T.kp_Gone (raises_own T.sb_Gone T.ty_Gone) rfl))) pss_nil)), ?_⟩
  refine s_start (by simp only [L2.start, List.map_cons, List.map_nil, List.length_cons, List.length_nil, Nat.reduceAdd, Nat.reduceSub, List.replicate, List.cons_append, List.nil_append]; rfl) ?_
  cases hg : l.gone with
  | true =>
    k_sweep
    rw [hg]
    k_sweep
    exact kE hg
  | false =>
    k_sweep
    rw [hg]
    k_sweep
    exact k hg
theorem ok_Log__write {f : Addr} {fd : FuncData} (F : Fun K "_write" "Log._write" st_Log__write f fd) (T : Txt K mg Z) (M_Disk_blocks : MethOk P w K mg base CX0 1 Z.Disk "blocks" ["self"] (sp_Disk_blocks K Z)) (M_Disk_write : MethOk P w K mg base (L2N.CX P w) 3 Z.Disk "write" ["self", "place", "words"] (sp_Disk_write K Z)) : FnOk P w K mg base (L2N.CX P w) 4 f fd ["self", "words"] (sp_Log__write K Z) := by
  obtain ⟨f_Disk_blocks, fd_Disk_blocks, G_Disk_blocks, b_Disk_blocks, m_Disk_blocks⟩ := M_Disk_blocks.ex
  obtain ⟨f_Disk_write, fd_Disk_write, G_Disk_write, b_Disk_write, m_Disk_write⟩ := M_Disk_write.ex
  have cl_Log := T.cl_Log
  have na_Log__cut := T.na_Log__cut
  have na_Log__disk := T.na_Log__disk
  have na_Log__gone := T.na_Log__gone
  have na_Log__number := T.na_Log__number
  have na_Log__rows := T.na_Log__rows
  have na_Log__torn := T.na_Log__torn
  have cl_Disk := T.cl_Disk
  have na_Disk__blocks := T.na_Disk__blocks
  have na_Disk__let := T.na_Disk__let
  have na_Disk__part := T.na_Disk__part
  have na_Disk__reads := T.na_Disk__reads
  have na_Disk__writes := T.na_Disk__writes
  refine funN F sc_Log__write (fun vs H Q E h => ?_) (fun cdv A outer s H vs Q E hr h => ?_)
  · obtain ⟨_, _, _, _, _, rfl, _⟩ := h
    rfl
  obtain ⟨lg, wa, l, s, b, rfl, hH, ok, h8, hbl, hp0, hp7, kS, kG⟩ := h
  have hS : Hs ((diskL Z l.d s).map Prod.fst) H H (diskL Z l.d s) [(wa, .lst (b.map V.int)), (lg, .ins Z.Log l.dx (lF l))] :=
    Hs.startM (M := diskL Z l.d s) (I := [(wa, .lst (b.map V.int)), (lg, .ins Z.Log l.dx (lF l))]) ⟨by
      have p1 : (diskL Z l.d s ++ [(wa, HO.lst (b.map V.int)), (lg, HO.ins Z.Log l.dx (lF l))]).Perm ((wa, .lst (b.map V.int)) :: (lg, .ins Z.Log l.dx (lF l)) :: diskL Z l.d s) := List.perm_append_comm
      exact ((p1.map Prod.fst).nodup_iff).mpr hH.nd, fun x hx => by
      have p1 : (diskL Z l.d s ++ [(wa, HO.lst (b.map V.int)), (lg, HO.ins Z.Log l.dx (lF l))]).Perm ((wa, .lst (b.map V.int)) :: (lg, .ins Z.Log l.dx (lF l)) :: diskL Z l.d s) := List.perm_append_comm
      exact hH.at_ x (p1.mem_iff.mp hx)⟩
  refine ⟨_, (pss_one (ps_expr (pe_meth (pe_fldK (K := K) (pv 0) rfl) T.cl_Disk m_Disk_write G_Disk_write (hr.mono (by decide)) b_Disk_write .nil (L2N.passes_call (L2N.takes_of rfl rfl rfl rfl) (fun _ _ _ _ h => h)) (pa_cons (pe_op op_mod (pe_ix (ix_listK (K := K)) (pv 1) (pe_globC T.c_NUMBER rfl) (fun _ _ => rfl)) (pe_meth0 (pe_fldK (K := K) (pv 0) rfl) T.cl_Disk m_Disk_blocks G_Disk_blocks (hr.mono (by decide)) b_Disk_blocks .nil pass0)) (pa_cons (pv 1) pa_nil))))), ?_⟩
  refine s_start (by simp only [L2.start, List.map_cons, List.map_nil, List.length_cons, List.length_nil, Nat.reduceAdd, Nat.reduceSub, List.replicate, List.cons_append, List.nil_append]; rfl) ?_
  have h4 := ok.lo
  have f1 : H wa = some (.lst (b.map V.int)) := hS.getI (.head _)
  have f2 : H lg = some (.ins Z.Log l.dx (lF l)) := hS.getI (.tail _ (.head _))
  have e0 : atI (b.map V.int) 0 = some (V.int (b.getD 0 0)) := at8 h8 (i := 0) (by decide)
  have hpl := place_lt (n := s.ws.length) (by omega) (b.getD 0 0)
  k_spoken
  refine ⟨l.d, s, rfl, hS.part (List.Sublist.refl _), ok, ?_⟩
  k_spoken
  refine ⟨l.d, wa, s, .int (b.getD 0 0 % s.ws.length), true, _, rfl, hH.sub (.cons₂ _ (.cons _ (List.Sublist.refl _))), ok, trivial, fun x hx => ?_, by rw [List.length_map]; omega, hp0, hp7, fun c => ?_, fun _ c => ?_, fun i w ei hi _ ew hw8 _ => ⟨fun hlt bs H8 hbs f => ?_, fun hlt bs H8 hbs f => ?_⟩⟩
  · obtain ⟨y, _, rfl⟩ := List.mem_map.mp hx
    trivial
  · simp only [wholeB, Bool.and_eq_false_iff, decide_eq_false_iff_not] at c
    omega
  · rw [hbl] at c
    cases c
  · obtain rfl : w = b := ((List.map_inj_right (fun _ _ h => by cases h; rfl)).mp ew).symm
    have hi2 : (w.getD 0 0 % (s.ws.length : Int)).toNat = i := by have := V.int.inj ei; omega
    refine kS hlt bs _ hbs ?_
    rw [hi2]
    exact f
  · obtain rfl : w = b := ((List.map_inj_right (fun _ _ h => by cases h; rfl)).mp ew).symm
    have hi2 : (w.getD 0 0 % (s.ws.length : Int)).toNat = i := by have := V.int.inj ei; omega
    k_sweep
    refine kG hlt bs _ hbs ?_
    rw [hi2]
    exact f
theorem ok_Log__write_end {f : Addr} {fd : FuncData} (F : Fun K "_write_end" "Log._write_end" st_Log__write_end f fd) (T : Txt K mg Z) (M_Log__write : MethOk P w K mg base (L2N.CX P w) 4 Z.Log "_write" ["self", "words"] (sp_Log__write K Z)) (M_Log__wrote : MethOk P w K mg base CX0 1 Z.Log "_wrote" ["self", "number", "floor"] (sp_Log__wrote K Z)) : FnOk P w K mg base (L2N.CX P w) 5 f fd ["self", "words"] (sp_Log__write_end K Z) := by
  obtain ⟨f_Log__write, fd_Log__write, G_Log__write, b_Log__write, m_Log__write⟩ := M_Log__write.ex
  obtain ⟨f_Log__wrote, fd_Log__wrote, G_Log__wrote, b_Log__wrote, m_Log__wrote⟩ := M_Log__wrote.ex
  have cl_Log := T.cl_Log
  have na_Log__cut := T.na_Log__cut
  have na_Log__disk := T.na_Log__disk
  have na_Log__gone := T.na_Log__gone
  have na_Log__number := T.na_Log__number
  have na_Log__rows := T.na_Log__rows
  have na_Log__torn := T.na_Log__torn
  have cl_Disk := T.cl_Disk
  have na_Disk__blocks := T.na_Disk__blocks
  have na_Disk__let := T.na_Disk__let
  have na_Disk__part := T.na_Disk__part
  have na_Disk__reads := T.na_Disk__reads
  have na_Disk__writes := T.na_Disk__writes
  refine funN F sc_Log__write_end (fun vs H Q E h => ?_) (fun cdv A outer s H vs Q E hr h => ?_)
  · obtain ⟨_, _, _, _, _, rfl, _⟩ := h
    rfl
  obtain ⟨lg, wa, l, s, b, rfl, hH, ok, hp0, hp7, hcut, h8, hb0, hbl, kE, kP⟩ := h
  have hS := Hs.startC hH
  refine ⟨_, (pss_cons (ps_expr (pe_meth (pv 0) T.cl_Log m_Log__write G_Log__write (hr.mono (by decide)) b_Log__write .nil (L2N.passes_call (L2N.takes_of rfl rfl rfl rfl) (fun _ _ _ _ h => h)) (pa_cons (pv 1) pa_nil)))
      (pss_cons (ps_fldK (K := K) (pv 0) (pe_lst pa_nil) rfl)
      (pss_one (ps_expr (pe_meth (pv 0) T.cl_Log m_Log__wrote G_Log__wrote (hr.mono (by decide)) b_Log__wrote .nil pass0 (pa_cons (pe_ix (ix_listK (K := K)) (pv 1) (pe_globC T.c_NUMBER rfl) (fun _ _ => rfl)) (pa_cons (pe_ix (ix_listK (K := K)) (pv 1) (pe_globC T.c_FLOOR rfl) (fun _ _ => rfl)) pa_nil))))))), ?_⟩
  refine s_start (by simp only [L2.start, List.map_cons, List.map_nil, List.length_cons, List.length_nil, Nat.reduceAdd, Nat.reduceSub, List.replicate, List.cons_append, List.nil_append]; rfl) ?_
  have h4 := ok.lo
  have h64 := ok.hi
  have fw : H wa = some (.lst (b.map V.int)) := hS.getI (.head _)
  have e0 : atI (b.map V.int) 0 = some (V.int (b.getD 0 0)) := at8 h8 (i := 0) (by decide)
  have e1 : atI (b.map V.int) 1 = some (V.int (b.getD 1 0)) := at8 h8 (i := 1) (by decide)
  have h0 : b.getD 0 0 = l.num + (([] : List (List Int)).length : Nat) + 1 := by
    rw [hb0]
    show l.num + 1 = l.num + ((0 : Nat) : Int) + 1
    omega
  k_node
  refine ⟨lg, wa, l, s, b, rfl, hH.sub (.cons₂ _ (.cons₂ _ (.cons _ (.cons _ (.cons _ (List.sublist_append_right _ _)))))), ok, h8, hbl, hp0, hp7, fun hlt bs H1 hb f1 => ?_, fun hlt bs H1 hb f1 => ?_⟩
  · have e := dCut_next (s := s) (bs := s.bs) (bs' := bs) (num := l.num) (bl := []) (b := b) h0 (by rw [dPut_nil]; exact hlt)
    rw [dPut_nil] at e
    rw [e] at f1
    have hS1 := hS.seg f1 (.skip .end_)
    exact kE hlt bs _ hb (Frm.of hS1 (List.sublist_append_right _ _))
  · have e := dPut_next (s := s) (bs := s.bs) (bs' := bs) (num := l.num) (bl := []) (b := b) h0
    rw [dPut_nil, List.nil_append] at e
    rw [e] at f1
    have hS1 : Hs _ H H1 ((lg, .ins Z.Log l.dx (lF l)) :: (l.dx, .own lg) :: (l.ca, .lst (l.cut.map V.int)) :: (l.ra, .lst (l.rows.map tf)) :: (rL l.rows ++ diskL Z l.d (dPut s bs l.num [b]))) [(wa, .lst (b.map V.int))] := hS.seg f1 (.skip .end_)
    clear hS f1
    have fw : H1 wa = some (.lst (b.map V.int)) := hS1.getI (.head _)
    k_spoken
    k_node
    rename_i ra H2 hS2 _ _ H3 hS3 _
    have hS4 : Hs _ H H3 ((ra, .lst (([] : List RA).map tf)) :: ([(lg, .ins Z.Log l.dx (lF { l with ra := ra, rows := [] })), (l.dx, .own lg), (l.ca, .lst (l.cut.map V.int))] ++ ((l.ra, .lst (l.rows.map tf)) :: (rL l.rows ++ diskL Z l.d (dPut s bs l.num [b]))))) [(wa, .lst (b.map V.int))] := hS3
    have hS5 : Hs _ H H3 (logL Z lg { l with ra := ra, rows := [] } ++ ((l.ra, .lst (l.rows.map tf)) :: (rL l.rows ++ diskL Z l.d (dPut s bs l.num [b])))) [(wa, .lst (b.map V.int))] := hS4.perm (swapFst (ra, HO.lst (([] : List RA).map tf)) [(lg, HO.ins Z.Log l.dx (lF { l with ra := ra, rows := [] })), (l.dx, HO.own lg), (l.ca, HO.lst (l.cut.map V.int))] ((l.ra, .lst (l.rows.map tf)) :: (rL l.rows ++ diskL Z l.d (dPut s bs l.num [b]))))
    clear hS4 hS3 hS2 hS1
    have fw : H3 wa = some (.lst (b.map V.int)) := hS5.getI (.head _)
    k_spoken
    refine ⟨lg, { l with ra := ra, rows := [] }, b.getD 0 0, b.getD 1 0, rfl, hS5.part (List.sublist_append_left _ _), hcut, fun ca H4 f4 => ?_⟩
    have hS6 := hS5.seg f4 .here
    k_sweep
    rw [hb0] at hS6
    refine kP hlt bs ca ra _ hb (Frm.of hS6 ?_)
    exact List.Sublist.append (List.Sublist.refl _) (.cons _ (List.sublist_append_right _ _))
theorem ok_Log__wrote {f : Addr} {fd : FuncData} (F : Fun K "_wrote" "Log._wrote" st_Log__wrote f fd) (T : Txt K mg Z)  : FnOk P w K mg base CX0 1 f fd ["self", "number", "floor"] (sp_Log__wrote K Z) := by
  have cl_Log := T.cl_Log
  have na_Log__cut := T.na_Log__cut
  have na_Log__disk := T.na_Log__disk
  have na_Log__gone := T.na_Log__gone
  have na_Log__number := T.na_Log__number
  have na_Log__rows := T.na_Log__rows
  have na_Log__torn := T.na_Log__torn
  have cl_Disk := T.cl_Disk
  have na_Disk__blocks := T.na_Disk__blocks
  have na_Disk__let := T.na_Disk__let
  have na_Disk__part := T.na_Disk__part
  have na_Disk__reads := T.na_Disk__reads
  have na_Disk__writes := T.na_Disk__writes
  refine F.ok sc_Log__wrote (fun vs H Q E h => ?_) (fun cdv A outer s H vs Q E hr h => ?_)
  · obtain ⟨_, _, _, _, rfl, _⟩ := h
    rfl
  obtain ⟨lg, l, n, f, rfl, hH, hz, k⟩ := h
  have hS := Hs.startL hH
  refine ⟨_, (pss_cons (ps_fldK (K := K) (pv 0) (pv 1) rfl)
      (pss_cons (ps_fldK (K := K) (pv 0) pe_non rfl)
      (pss_one (ps_fldK (K := K) (pv 0) (pe_lc (own := [("begin", 3)]) (g := gName 3) (by rfl) sc_Log__wrote.nd (pi_listK (K := K) (pe_fldK (K := K) (pv 0) rfl)) (blkOk_by (N := ["self", "number", "floor", "begin"]) (sc := defScope st_Log__wrote) (by decide +kernel)) (fun _ _ _ _ _ => pg_name (i := 3) sc_Log__wrote.nd rfl (Or.inl rfl)) (fun _ _ _ _ _ => (pts_one (pt_cmpR op_gt (pv 3) (pv 2) (nomark _)))) (fun _ _ _ _ _ => (pv 3))) rfl)))), ?_⟩
  refine s_start (by simp only [L2.start, List.map_cons, List.map_nil, List.length_cons, List.length_nil, Nat.reduceAdd, Nat.reduceSub, List.replicate, List.cons_append, List.nil_append]; rfl) ?_
  k_node
  k_node
  k_spoken
  rename_i H1 hS1 _ H2 hS2 _
  refine f_lcL (xs := l.cut.map V.int) fun Dn hD => ⟨fun i H' => ∃ ys : List Int, ys = (l.cut.take i).filter (fun b => decide (f < b)) ∧ Hs ((logL Z lg l).map Prod.fst) H H' ((Dn, .lst (ys.map V.int)) :: (lg, .ins Z.Log l.dx (lF { l with num := n, torn := none })) :: (l.dx, .own lg) :: (l.ca, .lst (l.cut.map V.int)) :: (l.ra, .lst (l.rows.map tf)) :: rL l.rows) [], ⟨[], rfl, hS2.new hD _⟩, ?_, ?_, ?_⟩
  · rintro i H' _ ⟨ys, _, h2⟩
    exact SqL.of (h2.getM (.tail _ (.tail _ (.tail _ (.head _)))))
  · rintro i y H3 hy ⟨ys, hys, hS3⟩
    obtain ⟨b, hb, rfl⟩ : ∃ b, l.cut[i]? = some b ∧ V.int b = y := by simpa using hy
    clear hy
    have hyl : ys.length ≤ 1000 := by
      rw [hys]
      refine Nat.le_trans (List.length_filter_le _ _) ?_
      rw [List.length_take]
      omega
    k_spoken
    apply s_iteD
    · intro c
      k_spoken
      rename_i H4 hS4 _
      refine ⟨ys ++ [b], ?_, hS4.cast (by rw [List.map_append]; rfl)⟩
      rw [take_snoc hb, List.filter_append, ← hys]
      congr 1
      have c : f < b := c
      simp [c]
    · intro c
      refine ⟨ys, ?_, hS3⟩
      rw [take_snoc hb, List.filter_append, ← hys]
      have c : ¬ f < b := c
      simp [c]
  · rintro H3 ⟨ys, hys, hS3⟩
    rw [List.length_map, List.take_length] at hys
    k_spoken
    rename_i H4 hS4 _
    refine k Dn _ ?_
    rw [← hys]
    refine Frm.of (hS4.perm (M' := (lg, .ins Z.Log l.dx (lF { l with num := n, torn := none, ca := Dn, cut := ys })) :: (l.dx, .own lg) :: (Dn, .lst (ys.map V.int)) :: (l.ca, .lst (l.cut.map V.int)) :: (l.ra, .lst (l.rows.map tf)) :: rL l.rows) ?_) ?_
    · exact (List.Perm.cons _ (List.Perm.swap _ _ _)).trans (List.Perm.swap _ _ _)
    · exact .cons₂ _ (.cons₂ _ (.cons₂ _ (.cons _ (List.Sublist.refl _))))
theorem ok_carry {f : Addr} {fd : FuncData} (F : Fun K "carry" "carry" st_carry f fd) (T : Txt K mg Z) (D_length_of : DefOk P w K mg base CX0 2 "length_of" ["row"] (sp_length_of K Z)) (M_Log___init__ : MakeOk P w K mg base CX0 6 Z.Log ["self", "disk"] (sp_Log___init__ K Z)) (M_Log_rows : MethOk P w K mg base CX0 1 Z.Log "rows" ["self"] (sp_Log_rows K Z)) (M_Log_gone : MethOk P w K mg base CX0 1 Z.Log "gone" ["self"] (sp_Log_gone K Z)) (M_Log_put : MethOk P w K mg base (L2N.CX P w) 5 Z.Log "put" ["self", "row"] (sp_Log_put K Z)) (M_Log_take_all : MethOk P w K mg base (L2N.CX P w) 6 Z.Log "take_all" ["self"] (sp_Log_take_all K Z)) (M_Log_leave : MethOk P w K mg base (L2N.CX P w) 6 Z.Log "leave" ["self"] (sp_Log_leave K Z)) (M_Disk_blocks : MethOk P w K mg base CX0 1 Z.Disk "blocks" ["self"] (sp_Disk_blocks K Z)) : FnOk P w K mg base (L2N.CX P w) 8 f fd ["old", "new"] (sp_carry K Z) := by
  obtain ⟨f_Log___init__, fd_Log___init__, G_Log___init__, b_Log___init__, m_Log___init__⟩ := M_Log___init__.ex
  obtain ⟨f_Log_rows, fd_Log_rows, G_Log_rows, b_Log_rows, m_Log_rows⟩ := M_Log_rows.ex
  obtain ⟨f_Log_gone, fd_Log_gone, G_Log_gone, b_Log_gone, m_Log_gone⟩ := M_Log_gone.ex
  obtain ⟨f_Log_put, fd_Log_put, G_Log_put, b_Log_put, m_Log_put⟩ := M_Log_put.ex
  obtain ⟨f_Log_take_all, fd_Log_take_all, G_Log_take_all, b_Log_take_all, m_Log_take_all⟩ := M_Log_take_all.ex
  obtain ⟨f_Log_leave, fd_Log_leave, G_Log_leave, b_Log_leave, m_Log_leave⟩ := M_Log_leave.ex
  obtain ⟨f_Disk_blocks, fd_Disk_blocks, G_Disk_blocks, b_Disk_blocks, m_Disk_blocks⟩ := M_Disk_blocks.ex
  have cl_Log := T.cl_Log
  have na_Log__cut := T.na_Log__cut
  have na_Log__disk := T.na_Log__disk
  have na_Log__gone := T.na_Log__gone
  have na_Log__number := T.na_Log__number
  have na_Log__rows := T.na_Log__rows
  have na_Log__torn := T.na_Log__torn
  have cl_Disk := T.cl_Disk
  have na_Disk__blocks := T.na_Disk__blocks
  have na_Disk__let := T.na_Disk__let
  have na_Disk__part := T.na_Disk__part
  have na_Disk__reads := T.na_Disk__reads
  have na_Disk__writes := T.na_Disk__writes
  refine funN F sc_carry (fun vs H Q E h => ?_) (fun cdv A outer s H vs Q E hr h => ?_)
  · obtain ⟨_, _, _, _, _, _, rfl, _⟩ := h
    rfl
  obtain ⟨d1, d2, s1, s2, P1, P2, rfl, hH, x1, x2, hb1, hb2, k⟩ := h
  have hS := Hs.startL hH
  refine ⟨_, (pss_cons (ps_set (i := 2) sc_carry.nd rfl (Or.inl rfl) (pe_make m_Log___init__ G_Log___init__ (hr.mono (by decide)) (by rfl) T.g_Log b_Log___init__ .nil pass0 (pa_cons (pv 0) pa_nil)))
      (pss_cons (ps_if (pt_val (pe_meth0 (pv 2) T.cl_Log m_Log_gone G_Log_gone (hr.mono (by decide)) b_Log_gone .nil pass0)) (pss_one (ps_raiseN rfl (L2N.takes_of rfl rfl rfl rfl) (L2N.pmk_own PySem.F.excBase_ValueError T.x_Gone T.g_Gone T.kp_Gone (raises_own T.sb_Gone T.ty_Gone) rfl))) pss_nil)
      (pss_cons (ps_set (i := 3) sc_carry.nd rfl (Or.inl rfl) (pe_meth0 (pv 2) T.cl_Log m_Log_rows G_Log_rows (hr.mono (by decide)) b_Log_rows .nil pass0))
      (pss_cons (ps_if (pt_cmpR op_gt (pe_callB (cr_sumK (K := K) rfl) (by rfl) T.m_sum (by decide +kernel) (pa_cons (pe_lc (own := [("row", 5)]) (g := gName 5) (by rfl) sc_carry.nd (pi_listK (K := K) (pv 3)) (blkOk_by (N := ["old", "new", "source", "rows", "target", "row"]) (sc := defScope st_carry) (by decide +kernel)) (fun _ _ _ _ _ => pg_name (i := 5) sc_carry.nd rfl (Or.inl rfl)) (fun _ _ _ _ _ => pts_nil) (fun _ _ _ _ _ => (pe_callD D_length_of hr (by rfl) pass0 (pa_cons (pv 5) pa_nil)))) pa_nil)) (pe_op op_sub (pe_meth0 (pv 1) T.cl_Disk m_Disk_blocks G_Disk_blocks (hr.mono (by decide)) b_Disk_blocks .nil pass0) pe_int) (nomark _)) (pss_one (ps_raiseN rfl (L2N.takes_of rfl rfl rfl rfl) (L2N.pmk_own PySem.F.excBase_ValueError T.x_Full T.g_Full T.kp_Full (raises_own T.sb_Full T.ty_Full) rfl))) pss_nil)
      (pss_cons (ps_set (i := 4) sc_carry.nd rfl (Or.inl rfl) (pe_make m_Log___init__ G_Log___init__ (hr.mono (by decide)) (by rfl) T.g_Log b_Log___init__ .nil pass0 (pa_cons (pv 1) pa_nil)))
      (pss_cons (ps_expr (pe_meth0 (pv 4) T.cl_Log m_Log_take_all G_Log_take_all (hr.mono (by decide)) b_Log_take_all .nil (L2N.passes_call (L2N.takes_of rfl rfl rfl rfl) (fun _ _ _ _ h => h))))
      (pss_cons (ps_for (passes_of rfl) rfl (pi_listK (K := K) (pv 3)) (pg_name (i := 5) sc_carry.nd rfl (Or.inl rfl))
      (pss_one (ps_expr (pe_meth (pv 4) T.cl_Log m_Log_put G_Log_put (hr.mono (by decide)) b_Log_put .nil (L2N.passes_call (L2N.takes_of rfl rfl rfl rfl) (fun _ _ _ _ h => h)) (pa_cons (pv 5) pa_nil)))))
      (pss_one (ps_expr (pe_meth0 (pv 2) T.cl_Log m_Log_leave G_Log_leave (hr.mono (by decide)) b_Log_leave .nil (L2N.passes_call (L2N.takes_of rfl rfl rfl rfl) (fun _ _ _ _ h => h)))))))))))), ?_⟩
  refine s_start (by simp only [L2.start, List.map_cons, List.map_nil, List.length_cons, List.length_nil, Nat.reduceAdd, Nat.reduceSub, List.replicate, List.cons_append, List.nil_append]; rfl) ?_
  k_node
  refine s_kMake hS ?_
  intro g1 gd1 H1 hS1 _ _ _
  refine up_logX (hS1.part (.cons₂ _ (.cons₂ _ (List.sublist_append_left _ _)))) x1 (by omega) fun l1 r1 H2 hd1 lr1 x1' f2 => ⟨rfl, ?_⟩
  have hS2 := hS1.seg f2 (.here (L := (g1, .ins Z.Log gd1 []) :: (gd1, .own g1) :: diskL Z d1 s1))
  clear f2 hS1
  obtain ⟨t1, ht1, ht1l⟩ : ∃ t1 : DS, ({ s1 with r := r1 } : DS) = t1 ∧ t1.ws.length = s1.ws.length := ⟨_, rfl, rfl⟩
  rw [ht1] at hS2 x1'
  k_spoken
  k_node
  refine ⟨g1, l1, rfl, hS2.part ((List.sublist_append_left _ _).trans (List.sublist_append_left _ _)), ?_⟩
  rw [lr1.gone]
  cases hg : P1.gone with
  | true =>
    have e : carryP P1 P2 = (P1, P2, .gone) := if_pos hg
    rw [e] at k
    k_spoken
    refine (k t1 s2 H2 x1' x2 ht1l rfl (Frm.of hS2 ?_)).1 rfl
    exact List.Sublist.append (List.sublist_append_right _ _) (List.Sublist.refl _)
  | false =>
    k_spoken
    k_node
    refine ⟨g1, l1, rfl, hS2.part ((List.sublist_append_left _ _).trans (List.sublist_append_left _ _)), (x1'.cnt lr1).2, fun D qs H3 hql hc3 => ?_⟩
    have hS3 := hc3.frame0 hS2
    have er : l1.rows.map (fun x => x.2.2) = rowsP P1 := by
      have e := congrArg (List.map Prod.snd) lr1.rows
      unfold LS.rw at e
      rw [List.map_map] at e
      exact e
    have hr0 : ∀ r ∈ rowsP P1, r.length ≤ 11 ∧ ∀ y ∈ r, 0 ≤ y ∧ y ≤ 999999999 := fun r hr => by
      obtain ⟨x, hx, rfl⟩ := List.mem_map.mp hr
      exact ⟨x1'.rr x hx, x1'.rb x hx⟩
    have hrl : (rowsP P1).length ≤ 63 := by
      have := x1'.inv.count.1
      unfold rowsP
      rw [List.length_map]
      exact this
    rw [er] at hS3
    have hql : qs.length = (rowsP P1).length := by rw [hql, ← er, List.length_map]
    generalize hro : rowsP P1 = rows at *
    have hS4 : Hs _ H H3 ((D, HO.lst (List.map V.ref qs)) :: (rowsL qs rows ++ (diskL Z d2 s2 ++ (logL Z g1 l1 ++ diskL Z d1 t1)))) [] := hS3.perm (perm_c3 _ _ _ _ _)
    clear hS3 hS2 hc3
    have fD : H3 D = some (.lst (qs.map V.ref)) := hS4.getM (.head _)
    k_spoken
    k_node
    refine f_lcL (xs := qs.map V.ref) fun Dn hD => ⟨fun i H' => ∃ ns : List Int, ns = (rows.take i).map (fun r => ((pcs r).length : Int)) ∧ Hs ((diskL Z d1 s1 ++ diskL Z d2 s2).map Prod.fst) H H' ((Dn, .lst (ns.map V.int)) :: (D, HO.lst (List.map V.ref qs)) :: (rowsL qs rows ++ (diskL Z d2 s2 ++ (logL Z g1 l1 ++ diskL Z d1 t1)))) [], ⟨[], rfl, hS4.new hD _⟩, ?_, ?_, ?_⟩
    · rintro i H' _ ⟨ns, _, h2⟩
      exact SqL.of (h2.getM (.tail _ (.head _)))
    · rintro i y H4 hy ⟨ns, hns, hS5⟩
      obtain ⟨q, hq, rfl⟩ : ∃ q, qs[i]? = some q ∧ V.ref q = y := by simpa using hy
      clear hy
      have hi : i < rows.length := by rw [← hql]; exact (List.getElem?_eq_some_iff.mp hq).1
      have hri := List.getElem?_eq_getElem hi
      have fq : H4 q = some (.lst ((rows[i]).map V.int)) := hS5.getM (.tail _ (.tail _ (List.mem_append_left _ (rowsL_get hq hri))))
      have hr11 := (hr0 _ (List.getElem_mem hi)).1
      have hnl : ns.length ≤ 1000 := by rw [hns, List.length_map, List.length_take]; omega
      have hz : (rows[i]).length ≤ 1000 := by omega
      k_spoken
      rename_i H5 hS6 _
      refine ⟨ns ++ [((pcs rows[i]).length : Int)], ?_, hS6.cast (by rw [List.map_append]; rfl)⟩
      rw [take_snoc hri, List.map_append, ← hns]
      rfl
    · rintro H4 ⟨ns, hns, hS5⟩
      rw [List.length_map, hql, List.take_length] at hns
      have hsum : ns.sum = (lensP rows : Nat) := by
        rw [hns]
        unfold lensP
        clear hns hS5 hS4 hro hr0 hrl hql er fD
        induction rows with
        | nil => rfl
        | cons x xs ih =>
          rw [List.map_cons, List.map_cons, List.sum_cons, List.sum_cons, ih]
          push_cast
          rfl
      have hS6 := hS5.tl
      have fDn : H4 Dn = some (.lst (ns.map V.int)) := hS5.getM (.head _)
      k_spoken
      refine ⟨d2, s2, rfl, hS5.part (.cons _ (.cons _ ((List.sublist_append_left _ _).trans (List.sublist_append_right _ _)))), x2.ok, ?_⟩
      k_spoken
      rw [hsum, x2.n]
      apply s_iteD
      · intro c
        have e : carryP P1 P2 = (P1, P2, .full) := by
          unfold carryP
          rw [if_neg (by rw [hg]; simp), hro, if_pos c]
        rw [e] at k
        k_spoken
        exact (k t1 s2 H4 x1' x2 ht1l rfl (Frm.s1 hS6)).2.1 rfl
      · intro c
        have c : ¬ ((P2.n : Int) - 1 < (lensP rows : Nat)) := c
        k_spoken
        k_node
        refine s_kMake hS6 ?_
        intro g2 gd2 H5 hS7 _ _ _
        have hS8 := hS7.perm (perm_c4 _ _ _ _ _ _ _)
        refine up_logX (hS8.part (.cons₂ _ (.cons₂ _ (List.sublist_append_left _ _)))) x2 (by omega) fun l2 r2 H6 hd2 lr2 x2' f6 => ⟨rfl, ?_⟩
        have hS9 := hS8.seg f6 (.here (L := (g2, .ins Z.Log gd2 []) :: (gd2, .own g2) :: diskL Z d2 s2))
        clear f6 hS8 hS7 hS6 hS5 hS4
        obtain ⟨t2, ht2, ht2l⟩ : ∃ t2 : DS, ({ s2 with r := r2 } : DS) = t2 ∧ t2.ws.length = s2.ws.length := ⟨_, rfl, rfl⟩
        rw [ht2] at hS9 x2'
        k_spoken
        k_node
        refine clear_X hd2 (hS9.part (List.sublist_append_left _ _)) x2' lr2 (by omega) (fun s3 H7 hst x3 hw3 f7 => ?_) (fun l3 s3 H7 hok x3 lr3 hd3 hw3 f7 => ?_)
        · have e : carryP P1 P2 = (P1, (pClear P2).1, .stopped) := by
            unfold carryP
            rw [if_neg (by rw [hg]; simp), hro, if_neg c, if_pos hst]
          rw [e] at k
          exact (k t1 s3 H7 x1' x3 ht1l (hw3.trans ht2l) (Frm.s2 (hS9.seg f7 .here))).2.2.1 rfl
        · have hS10 := hS9.seg f7 .here
          clear hS9 f7
          obtain ⟨p1, p2, p3, p4, p5⟩ := pClear_fact hok
          generalize hPc : (pClear P2).1 = Pc at *
          have fD : H7 D = some (.lst (qs.map V.ref)) := hS10.getM (List.mem_append_right _ (.head _))
          k_spoken
          k_node
          refine f_list (xs := qs.map V.ref) (fun i σ H' => ∃ (x5 : Option V) (l : LS) (s : DS), σ = [some (.ref d1), some (.ref d2), some (.ref g1), some (.ref D), some (.ref g2), x5] ∧ (pAll Pc (rows.take i)).2 = true ∧ XRel s (pAll Pc (rows.take i)).1 ∧ LRelP l (pAll Pc (rows.take i)).1 ∧ l.d = d2 ∧ s.ws.length = s2.ws.length ∧ Hs ((diskL Z d1 s1 ++ diskL Z d2 s2).map Prod.fst) H H' ((logL Z g2 l ++ diskL Z d2 s) ++ ((D, HO.lst (List.map V.ref qs)) :: (rowsL qs rows ++ (logL Z g1 l1 ++ diskL Z d1 t1)))) []) ⟨_, l3, s3, rfl, rfl, x3, lr3, hd3, hw3.trans ht2l, hS10⟩ ?_ ?_ ?_
          · rintro i σ H' _ ⟨x5, l, s, _, _, _, _, _, _, h2⟩
            exact SqL.of (h2.getM (List.mem_append_right _ (.head _)))
          · rintro i y σ H8 hy ⟨x5, l, s, rfl, hok4, x4, lr4, hd4, hw4, hS11⟩
            clear hS10 fD
            obtain ⟨q, hq, rfl⟩ : ∃ q, qs[i]? = some q ∧ V.ref q = y := by simpa using hy
            clear hy
            have hi : i < rows.length := by rw [← hql]; exact (List.getElem?_eq_some_iff.mp hq).1
            have hri := List.getElem?_eq_getElem hi
            have hb := hr0 _ (List.getElem_mem hi)
            obtain ⟨i1, i2, i3, i4, i5⟩ := pAll_inv p1 (rows.take i) hok4
            have hlt := lens_take hi
            have n42 := x2.n4
            k_spoken
            refine put_X hd4 (hS11.part (List.Sublist.refl _) |>.pick (List.mem_cons_of_mem _ (List.mem_append_left _ (rowsL_get hq hri)))) hb.1 hb.2 x4 lr4 (i4.trans p2) (by omega) (by rw [i1, i2, i5]; omega) (fun s5 H9 hst x5 hw5 f9 => ?_) (fun l5 s5 H9 hok5 x5 lr5 hd5 hw5 f9 => ?_)
            · have e5 := pAll_stop hi hok4 hst
              have e : carryP P1 P2 = (P1, (pPut (pAll Pc (rows.take i)).1 rows[i]).1, .stopped) := by
                unfold carryP
                rw [if_neg (by rw [hg]; simp), hro, if_neg c, if_neg (by rw [hok]; decide), hPc, e5, if_pos rfl]
              rw [e] at k
              exact (k t1 s5 H9 x1' x5 ht1l (hw5.trans hw4) (Frm.s2 (hS11.seg f9 .here))).2.2.1 rfl
            · have e5 := pAll_next hi hok4 hok5
              refine ⟨_, l5, s5, rfl, ?_, ?_, ?_, hd5, hw5.trans hw4, hS11.seg f9 .here⟩
              · rw [e5]
              · rw [e5]; exact x5
              · rw [e5]; exact lr5
          · rintro σ H8 ⟨x5, l, s, rfl, hok4, x4, lr4, hd4, hw4, hS11⟩
            clear hS10 fD
            rw [List.length_map, hql, List.take_length] at hok4 x4 lr4
            k_spoken
            refine leave_X hd1 (hS11.part ((List.Sublist.cons _ (List.sublist_append_right _ _)).trans (List.sublist_append_right _ _))) x1' lr1 hg (by omega) (fun s6 H9 hst x6 hw6 f9 => ?_) (fun l6 s6 H9 hok6 x6 lr6 hd6 hw6 f9 => ?_)
            · have e : carryP P1 P2 = ((pEnd P1 1).1, (pAll Pc rows).1, .stopped) := by
                unfold carryP
                rw [if_neg (by rw [hg]; simp), hro, if_neg c, if_neg (by rw [hok]; decide), hPc, if_neg (by rw [hok4]; decide), if_pos hst]
              rw [e] at k
              exact (k s6 s H9 x6 x4 (hw6.trans ht1l) hw4 (Frm.s4 (hS11.seg f9 (.skip (.there (.skip .end_)))))).2.2.1 rfl
            · have e : carryP P1 P2 = ((pEnd P1 1).1, (pAll Pc rows).1, .done) := by
                unfold carryP
                rw [if_neg (by rw [hg]; simp), hro, if_neg c, if_neg (by rw [hok]; decide), hPc, if_neg (by rw [hok4]; decide), if_neg (by rw [hok6]; decide)]
              rw [e] at k
              k_spoken
              exact (k s6 s H9 x6 x4 (hw6.trans ht1l) hw4 (Frm.s3 (hS11.seg f9 (.skip (.there (.skip .end_)))))).2.2.2 rfl
theorem ok_is_block {f : Addr} {fd : FuncData} (F : Fun K "_is_block" "_is_block" st_is_block f fd) (T : Txt K mg Z) (D_is_whole : DefOk P w K mg base CX0 1 "is_whole" ["value", "low", "high"] (sp_is_whole K Z)) : FnOk P w K mg base CX0 2 f fd ["words"] (sp_is_block K Z) := by
  have cl_Log := T.cl_Log
  have na_Log__cut := T.na_Log__cut
  have na_Log__disk := T.na_Log__disk
  have na_Log__gone := T.na_Log__gone
  have na_Log__number := T.na_Log__number
  have na_Log__rows := T.na_Log__rows
  have na_Log__torn := T.na_Log__torn
  have cl_Disk := T.cl_Disk
  have na_Disk__blocks := T.na_Disk__blocks
  have na_Disk__let := T.na_Disk__let
  have na_Disk__part := T.na_Disk__part
  have na_Disk__reads := T.na_Disk__reads
  have na_Disk__writes := T.na_Disk__writes
  refine F.ok sc_is_block (fun vs H Q E h => ?_) (fun cdv A outer s H vs Q E hr h => ?_)
  · obtain ⟨_, _, _, rfl, _⟩ := h
    rfl
  obtain ⟨a, b, items, rfl, ha, hf, hz, k⟩ := h
  have hS := Hs.startI (Holds.one ha)
  refine ⟨_, (pss_cons (ps_if (PW.pt (pw_or (pt_not (pt_val (pe_callB (call_isiK' (K := K)) (by rfl) T.m_isinstance (by decide +kernel) (pa_cons (pv 0) (pa_cons (pe_bltn (v := .ty "list") (by rfl) T.m_list (by decide +kernel) rfl) pa_nil))))) (pw_or1 (pt_cmpR op_ne (pe_callB (call_lenK (K := K)) (by rfl) T.m_len (by decide +kernel) (pa_cons (pv 0) pa_nil)) (pe_globC T.c_BLOCK_WORDS rfl) (nomark _))))) (pss_one (ps_ret pe_bl)) pss_nil)
      (pss_one (ps_ret (pe_callB (cr_allK (K := K) rfl) (by rfl) T.m_all (by decide +kernel) (pa_cons (pe_lc (own := [("word", 1)]) (g := gName 1) (by rfl) sc_is_block.nd (pi_listK (K := K) (pv 0)) (blkOk_by (N := ["words", "word"]) (sc := defScope st_is_block) (by decide +kernel)) (fun _ _ _ _ _ => pg_name (i := 1) sc_is_block.nd rfl (Or.inl rfl)) (fun _ _ _ _ _ => pts_nil) (fun _ _ _ _ _ => (pe_callD D_is_whole hr (by rfl) pass0 (pa_cons (pv 1) (pa_cons pe_int (pa_cons (pe_globC T.c_MOST_WORD rfl) pa_nil)))))) pa_nil))))), ?_⟩
  refine s_start (by simp only [L2.start, List.map_cons, List.map_nil, List.length_cons, List.length_nil, Nat.reduceAdd, Nat.reduceSub, List.replicate, List.cons_append, List.nil_append]; rfl) ?_
  cases b with
  | false =>
    simp only [Bool.false_eq_true, if_false] at hS
    k_sweep
    exact k _ (Hs.up (by assumption))
  | true =>
    simp only [if_true] at hS
    k_node
    apply s_iteD
    · intro c
      k_sweep
      have e : blockB items = false := by
        simp only [blockB, Bool.and_eq_false_iff, decide_eq_false_iff_not]
        left
        omega
      rw [e] at k
      exact k _ (Hs.up (by assumption))
    · intro c
      k_sweep
      refine f_lcL (xs := items) fun Dn hD => ⟨fun i H' => Hs [] H H' [(Dn, .lst (((items.take i).map fun v => wholeB v 0 1000000000000000).map V.bl))] [(a, .lst items)], hS.new hD _, ?_, ?_, ?_⟩
      · intro i H' _ h2
        exact SqL.of (h2.getI List.mem_cons_self)
      · intro i x H2 hx hS2
        have hfx := hf x (List.mem_of_getElem? hx)
        have hlt : i < items.length := (List.getElem?_eq_some_iff.mp hx).1
        k_spoken
        have hll : (((items.take i).map fun v => wholeB v 0 1000000000000000).map V.bl).length < sizeLine := by
          rw [List.length_map, List.length_map, List.length_take, sizeLine_eq]
          omega
        k_spoken
        have e : items.take (i + 1) = items.take i ++ [x] := by
          rw [List.take_add_one, hx]
          rfl
        show Hs [] H _ [(Dn, .lst (((items.take (i + 1)).map fun v => wholeB v 0 1000000000000000).map V.bl))] [(a, .lst items)]
        rw [e, List.map_append, List.map_append]
        assumption
      · intro H2 hS2
        rw [List.take_length] at hS2
        k_spoken
        refine ⟨Dn, _, rfl, SqL.of (hS2.getM List.mem_cons_self), ?_⟩
        have e : (true && blockB items) = (items.map fun v => wholeB v 0 1000000000000000).all id := by
          have c' : items.length = 8 := by omega
          simp [blockB, c', List.all_map, Function.comp_def]
        rw [e] at k
        exact k _ hS2.up
theorem ok_Disk___init__ {f : Addr} {fd : FuncData} (F : Fun K "__init__" "Disk.__init__" st_Disk___init__ f fd) (T : Txt K mg Z) (D_is_whole : DefOk P w K mg base CX0 1 "is_whole" ["value", "low", "high"] (sp_is_whole K Z)) : FnOk P w K mg base (L2N.CX P w) 2 f fd ["self", "many"] (sp_Disk___init__ K Z) := by
  have cl_Log := T.cl_Log
  have na_Log__cut := T.na_Log__cut
  have na_Log__disk := T.na_Log__disk
  have na_Log__gone := T.na_Log__gone
  have na_Log__number := T.na_Log__number
  have na_Log__rows := T.na_Log__rows
  have na_Log__torn := T.na_Log__torn
  have cl_Disk := T.cl_Disk
  have na_Disk__blocks := T.na_Disk__blocks
  have na_Disk__let := T.na_Disk__let
  have na_Disk__part := T.na_Disk__part
  have na_Disk__reads := T.na_Disk__reads
  have na_Disk__writes := T.na_Disk__writes
  refine funN F sc_Disk___init__ (fun vs H Q E h => ?_) (fun cdv A outer s H vs Q E hr h => ?_)
  · obtain ⟨_, _, _, rfl, _⟩ := h
    rfl
  obtain ⟨x, dx, v, rfl, hH, hv, kE, k⟩ := h
  have hS := Hs.startL hH
  refine ⟨_, (pss_cons (ps_if (pt_not (pt_val (pe_callD D_is_whole hr (by rfl) pass0 (pa_cons (pv 1) (pa_cons (pe_globC T.c_LEAST_BLOCKS rfl) (pa_cons (pe_globC T.c_MOST_BLOCKS rfl) pa_nil)))))) (pss_one (ps_raiseN rfl (L2N.takes_of rfl rfl rfl rfl) (L2N.pmk_own PySem.F.excBase_ValueError T.x_BadDisk T.g_BadDisk T.kp_BadDisk (raises_own T.sb_BadDisk T.ty_BadDisk) rfl))) pss_nil)
      (pss_cons (ps_fldK (K := K) (pv 0) (pe_lc (own := [("_", 2)]) (g := gName 2) (by rfl) sc_Disk___init__.nd (pi_range1 rfl T.m_range (pa_cons (pv 1) pa_nil)) (blkOk_by (N := ["self", "many", "_"]) (sc := defScope st_Disk___init__) (by decide +kernel)) (fun _ _ _ _ _ => pg_name (i := 2) sc_Disk___init__.nd rfl (Or.inl rfl)) (fun _ _ _ _ _ => pts_nil) (fun _ _ _ _ _ => (pe_op op_rep (pe_lst (pa_cons pe_int pa_nil)) (pe_globC T.c_BLOCK_WORDS rfl)))) rfl)
      (pss_cons (ps_fldK (K := K) (pv 0) pe_int rfl)
      (pss_cons (ps_fldK (K := K) (pv 0) pe_int rfl)
      (pss_cons (ps_fldK (K := K) (pv 0) pe_non rfl)
      (pss_one (ps_fldK (K := K) (pv 0) pe_int rfl))))))), ?_⟩
  refine s_start (by simp only [L2.start, List.map_cons, List.map_nil, List.length_cons, List.length_nil, Nat.reduceAdd, Nat.reduceSub, List.replicate, List.cons_append, List.nil_append]; rfl) ?_
  k_node
  cases hw : wholeB v 4 64 with
  | false =>
    k_spoken
    exact kE hw _ (Upto.refl _ _)
  | true =>
    obtain ⟨n, rfl, h0, h1⟩ := wholeB_int hw
    k_spoken
    k_node
    refine f_lcR fun Dn hD => ⟨fun i H' => ∃ bs : List Addr, bs.length = i ∧ Hs [x, dx] H H' ((Dn, .lst (bs.map V.ref)) :: (rowsL bs (List.replicate i (List.replicate 8 0)) ++ ([(x, HO.ins Z.Disk dx []), (dx, HO.own x)] : List (Addr × HO)))) [], ⟨[], rfl, hS.new hD _⟩, ?_, ?_⟩
    · rintro i H2 hi ⟨bs, hl, hS2⟩
      k_spoken
      rename_i q H3 hS3 _ _ H4 hS4 _
      refine ⟨bs ++ [q], by rw [List.length_append, hl]; rfl, ?_⟩
      have hS5 := Hs.sub (M' := (q, .lst ((List.replicate 8 0).map V.int)) :: (Dn, .lst (bs.map V.ref ++ [V.ref q])) :: (rowsL bs (List.replicate i (List.replicate 8 0)) ++ [(x, .ins Z.Disk dx []), (dx, .own x)])) hS4 (by k_drop)
      rw [List.replicate_succ', rowsL_snoc _ _ (by rw [List.length_replicate, hl]), List.map_append]
      exact Hs.snoc hS5
    · rintro H2 ⟨bs, hl, hS2⟩
      k_sweep
      rename_i H3 hS3 _
      refine k n rfl h0 h1 Dn bs _ hl (Frm.of (Hs.perm hS3 ?_) (List.Sublist.refl _))
      refine List.Perm.trans ?_ (List.perm_append_comm (l₁ := _ :: rowsL bs _) (l₂ := [_, _])).symm
      exact List.Perm.refl _
theorem ok_Disk_blocks {f : Addr} {fd : FuncData} (F : Fun K "blocks" "Disk.blocks" st_Disk_blocks f fd) (T : Txt K mg Z)  : FnOk P w K mg base CX0 1 f fd ["self"] (sp_Disk_blocks K Z) := by
  have cl_Log := T.cl_Log
  have na_Log__cut := T.na_Log__cut
  have na_Log__disk := T.na_Log__disk
  have na_Log__gone := T.na_Log__gone
  have na_Log__number := T.na_Log__number
  have na_Log__rows := T.na_Log__rows
  have na_Log__torn := T.na_Log__torn
  have cl_Disk := T.cl_Disk
  have na_Disk__blocks := T.na_Disk__blocks
  have na_Disk__let := T.na_Disk__let
  have na_Disk__part := T.na_Disk__part
  have na_Disk__reads := T.na_Disk__reads
  have na_Disk__writes := T.na_Disk__writes
  refine F.ok sc_Disk_blocks (fun vs H Q E h => ?_) (fun cdv A outer s H vs Q E hr h => ?_)
  · obtain ⟨_, _, rfl, _⟩ := h
    rfl
  obtain ⟨d, s, rfl, hH, ok, k⟩ := h
  have hS := Hs.startL hH
  refine ⟨_, (pss_one (ps_ret (pe_callB (call_lenK (K := K)) (by rfl) T.m_len (by decide +kernel) (pa_cons (pe_fldK (K := K) (pv 0) rfl) pa_nil)))), ?_⟩
  refine s_start (by simp only [L2.start, List.map_cons, List.map_nil, List.length_cons, List.length_nil, Nat.reduceAdd, Nat.reduceSub, List.replicate, List.cons_append, List.nil_append]; rfl) ?_
  k_sweep
  rw [List.length_map, ok.len]
  exact k
theorem ok_Disk_read {f : Addr} {fd : FuncData} (F : Fun K "read" "Disk.read" st_Disk_read f fd) (T : Txt K mg Z) (M_Disk__need_place : MethOk P w K mg base (L2N.CX P w) 2 Z.Disk "_need_place" ["self", "place"] (sp_Disk__need_place K Z)) : FnOk P w K mg base (L2N.CX P w) 3 f fd ["self", "place"] (sp_Disk_read K Z) := by
  obtain ⟨f_Disk__need_place, fd_Disk__need_place, G_Disk__need_place, b_Disk__need_place, m_Disk__need_place⟩ := M_Disk__need_place.ex
  have cl_Log := T.cl_Log
  have na_Log__cut := T.na_Log__cut
  have na_Log__disk := T.na_Log__disk
  have na_Log__gone := T.na_Log__gone
  have na_Log__number := T.na_Log__number
  have na_Log__rows := T.na_Log__rows
  have na_Log__torn := T.na_Log__torn
  have cl_Disk := T.cl_Disk
  have na_Disk__blocks := T.na_Disk__blocks
  have na_Disk__let := T.na_Disk__let
  have na_Disk__part := T.na_Disk__part
  have na_Disk__reads := T.na_Disk__reads
  have na_Disk__writes := T.na_Disk__writes
  refine funN F sc_Disk_read (fun vs H Q E h => ?_) (fun cdv A outer s H vs Q E hr h => ?_)
  · obtain ⟨_, _, _, rfl, _⟩ := h
    rfl
  obtain ⟨d, s, v, rfl, hH, ok, hv, kE, k⟩ := h
  have hS := Hs.startL hH
  refine ⟨_, (pss_cons (ps_expr (pe_meth (pv 0) T.cl_Disk m_Disk__need_place G_Disk__need_place (hr.mono (by decide)) b_Disk__need_place .nil (L2N.passes_call (L2N.takes_of rfl rfl rfl rfl) (fun _ _ _ _ h => h)) (pa_cons (pv 1) pa_nil)))
      (pss_cons (ps_fldaugK (K := K) (pv 0) pe_int in_add)
      (pss_one (ps_ret (pe_callTy (call_listOfK (K := K)) (by rfl) T.m_list (by decide +kernel) (pa_cons (pe_ix (ix_listK (K := K)) (pe_fldK (K := K) (pv 0) rfl) (pv 1) (fun _ _ => rfl)) pa_nil)))))), ?_⟩
  refine s_start (by simp only [L2.start, List.map_cons, List.map_nil, List.length_cons, List.length_nil, Nat.reduceAdd, Nat.reduceSub, List.replicate, List.cons_append, List.nil_append]; rfl) ?_
  k_node
  refine ⟨d, s, v, rfl, hH, ok, hv, fun c => ?_, fun c => ?_⟩
  · exact kE c
  obtain ⟨i0, rfl, h0, h1⟩ := wholeB_int c
  obtain ⟨i, rfl⟩ : ∃ i : Nat, i0 = (i : Int) := ⟨i0.toNat, by omega⟩
  have hi : i < s.ws.length := by omega
  obtain ⟨b, hb⟩ : ∃ b, s.bs[i]? = some b := ⟨_, List.getElem?_eq_getElem (by rw [ok.len]; exact hi)⟩
  have hw := List.getElem?_eq_getElem hi
  have a1 : atI (s.bs.map V.ref) (i : Int) = some (V.ref b) := atI_nat (by rw [List.getElem?_map, hb]; rfl)
  have hmem := rowsL_get hb hw
  have hg : s.ws.getD i [] = s.ws[i] := by rw [List.getD_eq_getElem?_getD, hw]; rfl
  k_spoken
  k_sweep
  rename_i q H3 hS3 _ _
  refine k i rfl hi q _ ?_
  rw [hg]
  exact Frm.of hS3 (by k_drop)
theorem ok_Disk_write {f : Addr} {fd : FuncData} (F : Fun K "write" "Disk.write" st_Disk_write f fd) (T : Txt K mg Z) (D_is_block : DefOk P w K mg base CX0 2 "_is_block" ["words"] (sp_is_block K Z)) (M_Disk__need_place : MethOk P w K mg base (L2N.CX P w) 2 Z.Disk "_need_place" ["self", "place"] (sp_Disk__need_place K Z)) (M_Disk__write_part : MethOk P w K mg base CX0 1 Z.Disk "_write_part" ["self", "place", "words"] (sp_Disk__write_part K Z)) : FnOk P w K mg base (L2N.CX P w) 3 f fd ["self", "place", "words"] (sp_Disk_write K Z) := by
  obtain ⟨f_Disk__need_place, fd_Disk__need_place, G_Disk__need_place, b_Disk__need_place, m_Disk__need_place⟩ := M_Disk__need_place.ex
  obtain ⟨f_Disk__write_part, fd_Disk__write_part, G_Disk__write_part, b_Disk__write_part, m_Disk__write_part⟩ := M_Disk__write_part.ex
  have cl_Log := T.cl_Log
  have na_Log__cut := T.na_Log__cut
  have na_Log__disk := T.na_Log__disk
  have na_Log__gone := T.na_Log__gone
  have na_Log__number := T.na_Log__number
  have na_Log__rows := T.na_Log__rows
  have na_Log__torn := T.na_Log__torn
  have cl_Disk := T.cl_Disk
  have na_Disk__blocks := T.na_Disk__blocks
  have na_Disk__let := T.na_Disk__let
  have na_Disk__part := T.na_Disk__part
  have na_Disk__reads := T.na_Disk__reads
  have na_Disk__writes := T.na_Disk__writes
  refine funN F sc_Disk_write (fun vs H Q E h => ?_) (fun cdv A outer s H vs Q E hr h => ?_)
  · obtain ⟨_, _, _, _, _, _, rfl, _⟩ := h
    rfl
  obtain ⟨d, wa, s, v, l, items, rfl, hH, ok, hv, hf, hz, hp0, hp1, kN, kB, kW⟩ := h
  refine ⟨_, (pss_cons (ps_expr (pe_meth (pv 0) T.cl_Disk m_Disk__need_place G_Disk__need_place (hr.mono (by decide)) b_Disk__need_place .nil (L2N.passes_call (L2N.takes_of rfl rfl rfl rfl) (fun _ _ _ _ h => h)) (pa_cons (pv 1) pa_nil)))
      (pss_cons (ps_if (pt_not (pt_val (pe_callD D_is_block hr (by rfl) pass0 (pa_cons (pv 2) pa_nil)))) (pss_one (ps_raiseN rfl (L2N.takes_of rfl rfl rfl rfl) (L2N.pmk_own PySem.F.excBase_ValueError T.x_BadBlock T.g_BadBlock T.kp_BadBlock (raises_own T.sb_BadBlock T.ty_BadBlock) rfl))) pss_nil)
      (pss_cons (ps_if (pt_cmpR op_eq (pe_fldK (K := K) (pv 0) rfl) pe_int (nomark _)) (pss_cons (ps_expr (pe_meth (pv 0) T.cl_Disk m_Disk__write_part G_Disk__write_part (hr.mono (by decide)) b_Disk__write_part .nil pass0 (pa_cons (pv 1) (pa_cons (pv 2) pa_nil))))
      (pss_one (ps_raiseN rfl (L2N.takes_of rfl rfl rfl rfl) (L2N.pmk_own PySem.F.excBase_ValueError T.x_Stopped T.g_Stopped T.kp_Stopped (raises_own T.sb_Stopped T.ty_Stopped) rfl)))) pss_nil)
      (pss_cons (ps_asg (pe_callTy (call_listOfK (K := K)) (by rfl) T.m_list (by decide +kernel) (pa_cons (pv 2) pa_nil)) (pg_sub (pe_fldK (K := K) (pv 0) rfl) (pv 1) set_list))
      (pss_cons (ps_fldaugK (K := K) (pv 0) pe_int in_add)
      (pss_one (ps_if (pt_cmpR op_notN' (pe_fldK (K := K) (pv 0) rfl) pe_non (nomark _)) (pss_one (ps_fldaugK (K := K) (pv 0) pe_int in_sub)) pss_nil))))))), ?_⟩
  refine s_start (by simp only [L2.start, List.map_cons, List.map_nil, List.length_cons, List.length_nil, Nat.reduceAdd, Nat.reduceSub, List.replicate, List.cons_append, List.nil_append]; rfl) ?_
  have hS := Hs.startC hH
  k_node
  refine ⟨d, s, v, rfl, hH.tl, ok, hv, kN, fun c => ?_⟩
  obtain ⟨i0, rfl, h0, h1⟩ := wholeB_int c
  obtain ⟨i, rfl⟩ : ∃ i : Nat, i0 = (i : Int) := ⟨i0.toNat, by omega⟩
  have hi : i < s.ws.length := by omega
  k_spoken
  k_node
  refine s_is_block hS (hS.getI List.mem_cons_self) hf hz ?_
  intro H1 hS1 u1
  cases hbk : (l && blockB items) with
  | false =>
    k_spoken
    exact kB c hbk _ u1
  | true =>
    obtain ⟨rfl, hb2⟩ : l = true ∧ blockB items = true := by simpa using hbk
    obtain ⟨w, rfl, hw8⟩ := blockB_ints hb2
    obtain ⟨kS, kG⟩ := kW i w rfl hi rfl rfl hw8 hb2
    simp only [if_true] at hS1
    have hg : (s.ws.getD i []) = s.ws[i] := by rw [List.getD_eq_getElem?_getD, List.getElem?_eq_getElem hi]; rfl
    have hib : i < s.bs.length := by rw [ok.len]; exact hi
    k_spoken
    k_node
    cases hlt : s.lt with
    | none =>
      refine s_eqV rfl ?_
      simp only [hlt, ltV, reduceCtorEq, decide_false]
      k_spoken
      k_node
      rename_i p H2 hS2 _ _
      refine s_setL hS2 (by k_here) (SetI.refs hib) (by k_get) ?_
      intro H3 hS3 _
      k_node
      k_spoken
      simp only [hlt, ltV]
      k_sweep
      rename_i H4 hS4 _
      have hS5 := Hs.setRow0 (i := i) (A := [(d, HO.ins Z.Disk s.dx (dF { s with w := s.w + 1, lt := s.lt })), (s.dx, .own d), (s.bl, .lst ((s.bs.set i p).map V.ref))]) hS4 hib ok.len
      refine kG (by rw [hlt]; simp) (s.bs.set i p) _ (by rw [List.length_set]) ?_
      rw [show s.lt.map (· - 1) = s.lt by rw [hlt]; rfl]
      exact Frm.of hS5 (List.Sublist.refl _)
    | some t =>
      simp only [ltV]
      k_spoken
      apply s_iteD
      · intro e0
        have e1 : t = 0 := by simpa using e0
        subst e1
        k_node
        refine ⟨d, wa, s, i, w, rfl, hS1.cons1, ok, hi, hw8, hp0, hp1, fun bs H2 hl f => ?_⟩
        have hS2 := hS1.seg f .end_
        k_sweep
        exact kS hlt bs _ hl (Frm.of hS2 (List.Sublist.refl _))
      · intro e0
        rw [show diskL Z d s = (d, .ins Z.Disk s.dx [("_blocks", .ref s.bl), ("_reads", .int s.r), ("_writes", .int s.w), ("_let", V.int t), ("_part", .int s.p)]) :: (s.dx, .own d) :: (s.bl, .lst (s.bs.map V.ref)) :: rowsL s.bs s.ws from by unfold diskL dF; rw [hlt]; rfl] at hS1
        k_spoken
        k_node
        rename_i p H2 hS2 _ _
        refine s_setL hS2 (by k_here) (SetI.refs hib) (by k_get) ?_
        intro H3 hS3 _
        k_node
        k_sweep
        rename_i H4 hS4 _
        have hS5 := Hs.setRow0 (i := i) (A := [(d, HO.ins Z.Disk s.dx (dF { s with w := s.w + 1, lt := some (t - 1) })), (s.dx, .own d), (s.bl, .lst ((s.bs.set i p).map V.ref))]) hS4 hib ok.len
        refine kG (by rw [hlt]; simpa using e0) (s.bs.set i p) _ (by rw [List.length_set]) ?_
        rw [hlt]
        exact Frm.of hS5 (List.Sublist.refl _)
theorem ok_Disk_writes {f : Addr} {fd : FuncData} (F : Fun K "writes" "Disk.writes" st_Disk_writes f fd) (T : Txt K mg Z)  : FnOk P w K mg base CX0 1 f fd ["self"] (sp_Disk_writes K Z) := by
  have cl_Log := T.cl_Log
  have na_Log__cut := T.na_Log__cut
  have na_Log__disk := T.na_Log__disk
  have na_Log__gone := T.na_Log__gone
  have na_Log__number := T.na_Log__number
  have na_Log__rows := T.na_Log__rows
  have na_Log__torn := T.na_Log__torn
  have cl_Disk := T.cl_Disk
  have na_Disk__blocks := T.na_Disk__blocks
  have na_Disk__let := T.na_Disk__let
  have na_Disk__part := T.na_Disk__part
  have na_Disk__reads := T.na_Disk__reads
  have na_Disk__writes := T.na_Disk__writes
  refine F.ok sc_Disk_writes (fun vs H Q E h => ?_) (fun cdv A outer s H vs Q E hr h => ?_)
  · obtain ⟨_, _, rfl, _⟩ := h
    rfl
  obtain ⟨d, s, rfl, hH, k⟩ := h
  have hS := Hs.startL hH
  refine ⟨_, (pss_one (ps_ret (pe_fldK (K := K) (pv 0) rfl))), ?_⟩
  refine s_start (by simp only [L2.start, List.map_cons, List.map_nil, List.length_cons, List.length_nil, Nat.reduceAdd, Nat.reduceSub, List.replicate, List.cons_append, List.nil_append]; rfl) ?_
  k_sweep
  exact k
theorem ok_Disk_stop_after {f : Addr} {fd : FuncData} (F : Fun K "stop_after" "Disk.stop_after" st_Disk_stop_after f fd) (T : Txt K mg Z) (D_is_whole : DefOk P w K mg base CX0 1 "is_whole" ["value", "low", "high"] (sp_is_whole K Z)) : FnOk P w K mg base (L2N.CX P w) 2 f fd ["self", "count", "part"] (sp_Disk_stop_after K Z) := by
  have cl_Log := T.cl_Log
  have na_Log__cut := T.na_Log__cut
  have na_Log__disk := T.na_Log__disk
  have na_Log__gone := T.na_Log__gone
  have na_Log__number := T.na_Log__number
  have na_Log__rows := T.na_Log__rows
  have na_Log__torn := T.na_Log__torn
  have cl_Disk := T.cl_Disk
  have na_Disk__blocks := T.na_Disk__blocks
  have na_Disk__let := T.na_Disk__let
  have na_Disk__part := T.na_Disk__part
  have na_Disk__reads := T.na_Disk__reads
  have na_Disk__writes := T.na_Disk__writes
  refine funN F sc_Disk_stop_after (fun vs H Q E h => ?_) (fun cdv A outer s H vs Q E hr h => ?_)
  · obtain ⟨_, _, _, _, rfl, _⟩ := h
    rfl
  obtain ⟨d, s, u, v, rfl, hH, hu, hv, kE, k⟩ := h
  have hS := Hs.startL hH
  refine ⟨_, (pss_cons (ps_if (pt_not (pt_val (pe_callD D_is_whole hr (by rfl) pass0 (pa_cons (pv 1) (pa_cons pe_int (pa_cons (pe_globC T.c_MOST_COUNT rfl) pa_nil)))))) (pss_one (ps_raiseN rfl (L2N.takes_of rfl rfl rfl rfl) (L2N.pmk_own PySem.F.excBase_ValueError T.x_BadStop T.g_BadStop T.kp_BadStop (raises_own T.sb_BadStop T.ty_BadStop) rfl))) pss_nil)
      (pss_cons (ps_if (pt_not (pt_val (pe_callD D_is_whole hr (by rfl) pass0 (pa_cons (pv 2) (pa_cons pe_int (pa_cons (pe_globC T.c_MOST_PART rfl) pa_nil)))))) (pss_one (ps_raiseN rfl (L2N.takes_of rfl rfl rfl rfl) (L2N.pmk_own PySem.F.excBase_ValueError T.x_BadStop T.g_BadStop T.kp_BadStop (raises_own T.sb_BadStop T.ty_BadStop) rfl))) pss_nil)
      (pss_cons (ps_fldK (K := K) (pv 0) (pv 1) rfl)
      (pss_one (ps_fldK (K := K) (pv 0) (pv 2) rfl))))), ?_⟩
  refine s_start (by simp only [L2.start, List.map_cons, List.map_nil, List.length_cons, List.length_nil, Nat.reduceAdd, Nat.reduceSub, List.replicate, List.cons_append, List.nil_append]; rfl) ?_
  k_node
  cases hwu : wholeB u 0 1000000000000000 with
  | false =>
    k_spoken
    exact kE (by rw [hwu]; rfl)
  | true =>
    obtain ⟨i, rfl, _⟩ := wholeB_int hwu
    k_spoken
    k_node
    cases hwv : wholeB v 0 7 with
    | false =>
      k_spoken
      exact kE (by rw [hwu, hwv]; rfl)
    | true =>
      obtain ⟨j, rfl, _⟩ := wholeB_int hwv
      k_sweep
      exact k i j rfl rfl (by rw [hwu, hwv]; rfl) _ (Frm.of (by assumption) (by k_drop))
theorem ok_Disk__need_place {f : Addr} {fd : FuncData} (F : Fun K "_need_place" "Disk._need_place" st_Disk__need_place f fd) (T : Txt K mg Z) (D_is_whole : DefOk P w K mg base CX0 1 "is_whole" ["value", "low", "high"] (sp_is_whole K Z)) : FnOk P w K mg base (L2N.CX P w) 2 f fd ["self", "place"] (sp_Disk__need_place K Z) := by
  have cl_Log := T.cl_Log
  have na_Log__cut := T.na_Log__cut
  have na_Log__disk := T.na_Log__disk
  have na_Log__gone := T.na_Log__gone
  have na_Log__number := T.na_Log__number
  have na_Log__rows := T.na_Log__rows
  have na_Log__torn := T.na_Log__torn
  have cl_Disk := T.cl_Disk
  have na_Disk__blocks := T.na_Disk__blocks
  have na_Disk__let := T.na_Disk__let
  have na_Disk__part := T.na_Disk__part
  have na_Disk__reads := T.na_Disk__reads
  have na_Disk__writes := T.na_Disk__writes
  refine funN F sc_Disk__need_place (fun vs H Q E h => ?_) (fun cdv A outer s H vs Q E hr h => ?_)
  · obtain ⟨_, _, _, rfl, _⟩ := h
    rfl
  obtain ⟨d, s, v, rfl, hH, ok, hv, kE, k⟩ := h
  have hS := Hs.startL hH
  refine ⟨_, (pss_one (ps_if (pt_not (pt_val (pe_callD D_is_whole hr (by rfl) pass0 (pa_cons (pv 1) (pa_cons pe_int (pa_cons (pe_op op_sub (pe_callB (call_lenK (K := K)) (by rfl) T.m_len (by decide +kernel) (pa_cons (pe_fldK (K := K) (pv 0) rfl) pa_nil)) pe_int) pa_nil)))))) (pss_one (ps_raiseN rfl (L2N.takes_of rfl rfl rfl rfl) (L2N.pmk_own PySem.F.excBase_ValueError T.x_NoBlock T.g_NoBlock T.kp_NoBlock (raises_own T.sb_NoBlock T.ty_NoBlock) rfl))) pss_nil)), ?_⟩
  refine s_start (by simp only [L2.start, List.map_cons, List.map_nil, List.length_cons, List.length_nil, Nat.reduceAdd, Nat.reduceSub, List.replicate, List.cons_append, List.nil_append]; rfl) ?_
  k_spoken
  rw [List.length_map, ok.len]
  cases hw : wholeB v 0 (s.ws.length - 1) with
  | false =>
    k_spoken
    exact kE hw
  | true =>
    k_spoken
    exact k hw
theorem ok_Disk__write_part {f : Addr} {fd : FuncData} (F : Fun K "_write_part" "Disk._write_part" st_Disk__write_part f fd) (T : Txt K mg Z)  : FnOk P w K mg base CX0 1 f fd ["self", "place", "words"] (sp_Disk__write_part K Z) := by
  have cl_Log := T.cl_Log
  have na_Log__cut := T.na_Log__cut
  have na_Log__disk := T.na_Log__disk
  have na_Log__gone := T.na_Log__gone
  have na_Log__number := T.na_Log__number
  have na_Log__rows := T.na_Log__rows
  have na_Log__torn := T.na_Log__torn
  have cl_Disk := T.cl_Disk
  have na_Disk__blocks := T.na_Disk__blocks
  have na_Disk__let := T.na_Disk__let
  have na_Disk__part := T.na_Disk__part
  have na_Disk__reads := T.na_Disk__reads
  have na_Disk__writes := T.na_Disk__writes
  refine F.ok sc_Disk__write_part (fun vs H Q E h => ?_) (fun cdv A outer s H vs Q E hr h => ?_)
  · obtain ⟨_, _, _, _, _, rfl, _⟩ := h
    rfl
  obtain ⟨d, wa, s, i, w, rfl, hH, ok, hi, hw8, hp0, hp1, k⟩ := h
  have hS0 := Hs.startL hH.tl
  refine ⟨_, (pss_cons (ps_asg (pe_op op_cat (pe_slice (sl_listK (K := K)) (pv 2) po_none (po_some (pe_fldK (K := K) (pv 0) rfl))) (pe_slice (sl_listK (K := K)) (pe_ix (ix_listK (K := K)) (pe_fldK (K := K) (pv 0) rfl) (pv 1) (fun _ _ => rfl)) (po_some (pe_fldK (K := K) (pv 0) rfl)) po_none)) (pg_sub (pe_fldK (K := K) (pv 0) rfl) (pv 1) set_list))
      (pss_one (ps_fldK (K := K) (pv 0) pe_int rfl))), ?_⟩
  refine s_start (by simp only [L2.start, List.map_cons, List.map_nil, List.length_cons, List.length_nil, Nat.reduceAdd, Nat.reduceSub, List.replicate, List.cons_append, List.nil_append]; rfl) ?_
  have hS : Hs ((diskL Z d s).map Prod.fst) H H (diskL Z d s) [(wa, .lst (w.map V.int))] := by
    refine ⟨Upto.refl _ _, ?_, ?_, fun _ hx => .inl (List.mem_map_of_mem hx)⟩
    · have p1 : (diskL Z d s ++ [(wa, HO.lst (w.map V.int))]).Perm ((wa, HO.lst (w.map V.int)) :: diskL Z d s) := List.perm_append_comm
      exact ((p1.map Prod.fst).nodup_iff).mpr hH.nd
    · intro x hx
      refine hH.at_ x ?_
      simp only [List.mem_append, List.mem_singleton] at hx
      rcases hx with hx | hx
      · exact List.mem_cons_of_mem _ hx
      · rw [hx]; exact List.mem_cons_self
  obtain ⟨b, hb⟩ : ∃ b, s.bs[i]? = some b := ⟨_, List.getElem?_eq_getElem (by rw [ok.len]; exact hi)⟩
  have hw := List.getElem?_eq_getElem hi
  have a1 : atI (s.bs.map V.ref) (i : Int) = some (V.ref b) := atI_nat (by rw [List.getElem?_map, hb]; rfl)
  have hmem := rowsL_get hb hw
  have hg : s.ws.getD i [] = s.ws[i] := by rw [List.getD_eq_getElem?_getD, hw]; rfl
  have ho8 : s.ws[i].length = 8 := ok.each _ (List.getElem_mem hi)
  k_node
  rename_i p H1 hS1 _ _
  rw [mixV hw8 ho8 hp0 hp1] at hS1
  have hib : i < s.bs.length := by rw [ok.len]; exact hi
  refine s_setL hS1 (by k_here) (SetI.refs hib) (by k_get) ?_
  intro H2 hS2 _
  k_sweep
  rename_i H3 hS3 _
  have hS4 : Hs ((diskL Z d s).map Prod.fst) H H3 ((p, .lst ((mixW s.p w s.ws[i]).map V.int)) :: ([(d, HO.ins Z.Disk s.dx (dF { s with p := 0 })), (s.dx, .own d), (s.bl, .lst ((s.bs.set i p).map V.ref))] ++ rowsL s.bs s.ws)) [(wa, .lst (w.map V.int))] := Hs.sub hS3 (by k_drop)
  have hS5 := Hs.setRow0 (i := i) hS4 hib ok.len
  refine k (s.bs.set i p) _ (by rw [List.length_set]) ?_
  rw [hg]
  exact Frm.of hS5 (List.Sublist.refl _)
theorem ok_order_of {f : Addr} {fd : FuncData} (F : Fun K "order_of" "order_of" st_order_of f fd) (T : Txt K mg Z) (D_row_in : DefOk P w K mg base (L2N.CX P w) 2 "_row_in" ["text"] (sp_row_in K Z)) (D_number_in : DefOk P w K mg base (L2N.CX P w) 1 "_number_in" ["text", "most"] (sp_number_in K Z)) : FnOk P w K mg base (L2N.CX P w) 3 f fd ["line"] (sp_order_of K Z) := by
  have cl_Log := T.cl_Log
  have na_Log__cut := T.na_Log__cut
  have na_Log__disk := T.na_Log__disk
  have na_Log__gone := T.na_Log__gone
  have na_Log__number := T.na_Log__number
  have na_Log__rows := T.na_Log__rows
  have na_Log__torn := T.na_Log__torn
  have cl_Disk := T.cl_Disk
  have na_Disk__blocks := T.na_Disk__blocks
  have na_Disk__let := T.na_Disk__let
  have na_Disk__part := T.na_Disk__part
  have na_Disk__reads := T.na_Disk__reads
  have na_Disk__writes := T.na_Disk__writes
  obtain ⟨ta_BARE_ORDERS, tg_BARE_ORDERS, tq_BARE_ORDERS⟩ := T.c_BARE_ORDERS
  refine funN F sc_order_of (fun vs H Q E h => ?_) (fun cdv A outer s H vs Q E hr h => ?_)
  · obtain ⟨_, rfl, _⟩ := h
    rfl
  obtain ⟨t, rfl, hlen, kQ, kE⟩ := h
  have hS : Hs [] H H [] [] := Hs.start0
  have hsz := split_sizes (t := t) (y := " ") (by decide +kernel) (by decide +kernel)
  have hne := split_ne (t := t) (y := " ") (by decide +kernel) (by decide +kernel)
  refine ⟨_, (pss_cons (ps_asg (pe_splitR (pv 0) pe_str) (pg_starK (K := K) rfl (pgs_cons (pg_name (i := 1) sc_order_of.nd rfl (Or.inl rfl)) (pgs_star (pg_name (i := 2) sc_order_of.nd rfl (Or.inl rfl)) pgs_nil))))
      (pss_cons (ps_if (PW.pt (pw_and (pt_cmpR op_eq (pv 1) pe_str (nomark _)) (pw_and1 (pt_not (pt_truthK (K := K) (pv 2) (by intro _; rfl)))))) (pss_one (ps_ret (pe_tup (pa_cons pe_str (pa_cons (pe_lst pa_nil) pa_nil))))) pss_nil)
      (pss_cons (ps_if (PW.pt (pw_and (pt_cmpR op_eq (pv 1) pe_str (nomark _)) (pw_and1 (pt_cmpR op_eq (pe_callB (call_lenK (K := K)) (by rfl) T.m_len (by decide +kernel) (pa_cons (pv 2) pa_nil)) pe_int (nomark _))))) (pss_one (ps_ret (pe_tup (pa_cons pe_str (pa_cons (pe_callD D_row_in hr (by rfl) (L2N.passes_call (L2N.takes_of rfl rfl rfl rfl) (fun _ _ _ _ h => h)) (pa_cons (pe_ix (ix_listK (K := K)) (pv 2) pe_int (fun _ _ => rfl)) pa_nil)) pa_nil))))) pss_nil)
      (pss_cons (ps_if (PW.pt (pw_and (pt_cmpR op_eq (pv 1) pe_str (nomark _)) (pw_and1 (pt_cmpR op_eq (pe_callB (call_lenK (K := K)) (by rfl) T.m_len (by decide +kernel) (pa_cons (pv 2) pa_nil)) pe_int (nomark _))))) (pss_one (ps_ret (pe_tup (pa_cons pe_str (pa_cons (pe_callD D_number_in hr (by rfl) (L2N.passes_call (L2N.takes_of rfl rfl rfl rfl) (fun _ _ _ _ h => h)) (pa_cons (pe_ix (ix_listK (K := K)) (pv 2) pe_int (fun _ _ => rfl)) (pa_cons (pe_globC T.c_MOST_COUNT rfl) pa_nil))) (pa_cons (pe_callD D_number_in hr (by rfl) (L2N.passes_call (L2N.takes_of rfl rfl rfl rfl) (fun _ _ _ _ h => h)) (pa_cons (pe_ix (ix_listK (K := K)) (pv 2) pe_int (fun _ _ => rfl)) (pa_cons (pe_globC T.c_MOST_PART rfl) pa_nil))) pa_nil)))))) pss_nil)
      (pss_cons (ps_if (PW.pt (pw_and (pt_cmpR (op_inK (K := K)) (pv 1) (pe_glob (v := .ref ta_BARE_ORDERS) (by rfl) tg_BARE_ORDERS rfl) (by rfl)) (pw_and1 (pt_not (pt_truthK (K := K) (pv 2) (by intro _; rfl)))))) (pss_one (ps_ret (pe_tup (pa_cons (pv 1) pa_nil)))) pss_nil)
      (pss_one (ps_raiseN rfl (L2N.takes_of rfl rfl rfl rfl) (L2N.pmk_own PySem.F.excBase_ValueError T.x_BadOrder T.g_BadOrder T.kp_BadOrder (raises_own T.sb_BadOrder T.ty_BadOrder) rfl)))))))), ?_⟩
  refine s_start (by simp only [L2.start, List.map_cons, List.map_nil, List.length_cons, List.length_nil, Nat.reduceAdd, Nat.reduceSub, List.replicate, List.cons_append, List.nil_append]; rfl) ?_
  k_node
  rename_i p H1 hS1 _ _
  have ho : ordT t = ordT t := rfl
  conv at ho => rhs; unfold ordT
  generalize hws : Txt.split t " " = ws at *
  cases ws with
  | nil => exact absurd rfl hne
  | cons wd wn =>
    k_spoken
    rename_i D H2 hS2 _ _
    have hw : ∀ a ∈ wn, a.length ≤ 1000000 := fun a ha => Nat.le_trans (hsz.2 a (List.mem_cons_of_mem _ ha)) hlen
    dsimp only at ho
    have eE : (!!(wn.map V.str).isEmpty) = decide (wn = []) := by cases wn <;> rfl
    have eL : ∀ k : Nat, decide (((wn.map V.str).length : Int) = (k : Int)) = decide (wn.length = k) := fun k => by
      rw [List.length_map]
      by_cases c : wn.length = k
      · rw [decide_eq_true c, decide_eq_true (by omega)]
      · rw [decide_eq_false c, decide_eq_false (by omega)]
    k_node
    by_cases hput : wd = "put"
    · subst hput
      rw [decide_eq_true (rfl : ("put" : Str) = "put")]
      k_spoken
      rw [eE]
      by_cases h0 : wn = []
      · rw [decide_eq_true h0]
        k_spoken
        rename_i q H3 hS3 _ _ q2 H4 hS4 _ _
        refine kQ (.put []) ?_ _ _ hS4.up ⟨_, hS4.getM (by k_data), hS4.getM (by k_data)⟩
        rw [ho, if_pos ⟨rfl, h0⟩]
      · rw [decide_eq_false h0]
        k_spoken
        k_node
        rw [show ((1 : Int)) = ((1 : Nat) : Int) from rfl, eL 1]
        by_cases h1 : wn.length = 1
        · rw [decide_eq_true h1]
          obtain ⟨a, rfl⟩ := List.length_eq_one_iff.mp h1
          k_spoken
          refine ⟨a, rfl, hw a (.head _), fun r hr q H3 f => ?_, fun hn H3 u => ?_⟩
          · k_spoken
            rename_i q2 H4 hS4 _ _
            refine kQ (.put r) ?_ _ _ (hS2.up.trans hS4.up) ⟨_, hS4.getM (by k_data), hS4.getM (by k_data)⟩
            rw [ho, if_neg (fun h => h0 h.2), if_pos ⟨rfl, rfl⟩]
            show Option.map Ord.put (rowT a) = _
            rw [hr]
            rfl
          · refine kE ?_ _ (hS2.up.trans u)
            rw [ho, if_neg (fun h => h0 h.2), if_pos ⟨rfl, rfl⟩]
            show Option.map Ord.put (rowT a) = _
            rw [hn]
            rfl
        · rw [decide_eq_false h1]
          k_spoken
          k_node
          k_node
          refine s_inTup (tq_BARE_ORDERS _) rfl rfl ?_
          rw [show inV (V.str "put") [.str "take", .str "rows", .str "room", .str "rise"] = false from by decide +kernel]
          k_spoken
          refine kE ?_ _ hS2.up
          rw [ho, if_neg (fun h => h0 h.2), if_neg (fun h => h1 h.2), if_neg (fun h => absurd h.1 (by decide)), if_neg (fun h => h0 h.2)]
    · rw [decide_eq_false hput]
      k_spoken
      k_node
      k_node
      by_cases hst : wd = "stop"
      · subst hst
        rw [decide_eq_true (rfl : ("stop" : Str) = "stop")]
        k_spoken
        rw [show ((2 : Int)) = ((2 : Nat) : Int) from rfl, eL 2]
        rw [if_neg (fun h => hput h.1), if_neg (fun h => hput h.1)] at ho
        by_cases h2 : wn.length = 2
        · rw [decide_eq_true h2]
          obtain ⟨a, b, rfl⟩ : ∃ a b, wn = [a, b] := by
            match wn, h2 with
            | [a, b], _ => exact ⟨a, b, rfl⟩
          rw [if_pos ⟨rfl, rfl⟩] at ho
          have ho : ordT t = (match numT 1000000000000000 a, numT 7 b with | some c, some p => some (.stop c p) | _, _ => none) := ho
          k_spoken
          refine ⟨a, 1000000000000000, rfl, hw a (.head _), by decide, by decide, fun c hc => ?_, fun hn => ?_⟩
          · k_spoken
            refine ⟨b, 7, rfl, hw b (.tail _ (.head _)), by decide, by decide, fun p2 hp => ?_, fun hn => ?_⟩
            · k_spoken
              rename_i q2 H4 hS4 _ _
              exact kQ (.stop c p2) (by rw [ho, hc, hp]) _ _ hS4.up (hS4.getM (by k_data))
            · exact kE (by rw [ho, hc, hn]) _ hS2.up
          · exact kE (by rw [ho, hn]) _ hS2.up
        · rw [decide_eq_false h2]
          rw [if_neg (fun h => h2 h.2), if_neg (fun h => absurd h.1 (by decide))] at ho
          k_spoken
          k_node
          refine s_inTup (tq_BARE_ORDERS _) rfl rfl ?_
          rw [show inV (V.str "stop") [.str "take", .str "rows", .str "room", .str "rise"] = false from by decide +kernel]
          k_spoken
          exact kE ho _ hS2.up
      · rw [decide_eq_false hst]
        rw [if_neg (fun h => hput h.1), if_neg (fun h => hput h.1), if_neg (fun h => hst h.1)] at ho
        k_spoken
        k_node
        refine s_inTup (tq_BARE_ORDERS _) rfl rfl ?_
        have eI : inV (V.str wd) [.str "take", .str "rows", .str "room", .str "rise"] = decide (wd = "take" ∨ wd = "rows" ∨ wd = "room" ∨ wd = "rise") := by
          rw [Bool.eq_iff_iff]
          simp only [inV, eqV, List.any_cons, List.any_nil, Bool.or_eq_true, Bool.or_false, beq_iff_eq, decide_eq_true_eq]
          constructor
          · rintro (h | h | h | h)
            · exact .inl h.symm
            · exact .inr (.inl h.symm)
            · exact .inr (.inr (.inl h.symm))
            · exact .inr (.inr (.inr h.symm))
          · rintro (h | h | h | h)
            · exact .inl h.symm
            · exact .inr (.inl h.symm)
            · exact .inr (.inr (.inl h.symm))
            · exact .inr (.inr (.inr h.symm))
        rw [eI]
        by_cases hb : wd = "take" ∨ wd = "rows" ∨ wd = "room" ∨ wd = "rise"
        · rw [decide_eq_true hb]
          k_spoken
          rw [eE]
          by_cases h0 : wn = []
          · rw [decide_eq_true h0]
            k_spoken
            rename_i q2 H4 hS4 _ _
            exact kQ (.bare wd) (by rw [ho, if_pos ⟨hb, h0⟩]) _ _ hS4.up (hS4.getM (by k_data))
          · rw [decide_eq_false h0]
            k_spoken
            exact kE (by rw [ho, if_neg (fun h => h0 h.2)]) _ hS2.up
        · rw [decide_eq_false hb]
          k_spoken
          exact kE (by rw [ho, if_neg (fun h => hb h.1)]) _ hS2.up
theorem ok_row_in {f : Addr} {fd : FuncData} (F : Fun K "_row_in" "_row_in" st_row_in f fd) (T : Txt K mg Z) (D_number_in : DefOk P w K mg base (L2N.CX P w) 1 "_number_in" ["text", "most"] (sp_number_in K Z)) : FnOk P w K mg base (L2N.CX P w) 2 f fd ["text"] (sp_row_in K Z) := by
  have cl_Log := T.cl_Log
  have na_Log__cut := T.na_Log__cut
  have na_Log__disk := T.na_Log__disk
  have na_Log__gone := T.na_Log__gone
  have na_Log__number := T.na_Log__number
  have na_Log__rows := T.na_Log__rows
  have na_Log__torn := T.na_Log__torn
  have cl_Disk := T.cl_Disk
  have na_Disk__blocks := T.na_Disk__blocks
  have na_Disk__let := T.na_Disk__let
  have na_Disk__part := T.na_Disk__part
  have na_Disk__reads := T.na_Disk__reads
  have na_Disk__writes := T.na_Disk__writes
  refine funN F sc_row_in (fun vs H Q E h => ?_) (fun cdv A outer s H vs Q E hr h => ?_)
  · obtain ⟨_, rfl, _⟩ := h
    rfl
  obtain ⟨t, rfl, hlen, kQ, kE⟩ := h
  have hS : Hs [] H H [] [] := Hs.start0
  have hsz := split_sizes (t := t) (y := ",") (by decide +kernel) (by decide +kernel)
  refine ⟨_, (pss_cons (ps_setLcE (i := 1) (own := [("word", 2)]) (g := gName 2) rfl rfl (L2N.takes_of rfl rfl rfl rfl) (fun _ _ _ _ h => h) (by decide +kernel) (by rfl) sc_row_in.nd rfl rfl (sw_true rfl rfl rfl (by decide +kernel)) (pi_listK (K := K) (pe_splitR (pv 0) pe_str)) (blkOk_by (N := ["text", "row", "word"]) (sc := defScope st_row_in) (by decide +kernel)) (fun _ _ _ _ _ => pg_name (i := 2) sc_row_in.nd rfl (Or.inl rfl)) (fun _ _ _ _ _ => pts_nil) (fun _ _ _ _ _ xe hxe => (pe_callD D_number_in hr (by rfl) hxe (pa_cons (pv 2) (pa_cons (pe_globC T.c_MOST_WORD_OF_ROW rfl) pa_nil)))))
      (pss_cons (ps_if (pt_cmpR op_gt (pe_callB (call_lenK (K := K)) (by rfl) T.m_len (by decide +kernel) (pa_cons (pv 1) pa_nil)) (pe_globC T.c_MOST_WORDS rfl) (nomark _)) (pss_one (ps_raiseN rfl (L2N.takes_of rfl rfl rfl rfl) (L2N.pmk_own PySem.F.excBase_ValueError T.x_BadOrder T.g_BadOrder T.kp_BadOrder (raises_own T.sb_BadOrder T.ty_BadOrder) rfl))) pss_nil)
      (pss_one (ps_ret (pv 1))))), ?_⟩
  refine s_start (by simp only [L2.start, List.map_cons, List.map_nil, List.length_cons, List.length_nil, Nat.reduceAdd, Nat.reduceSub, List.replicate, List.cons_append, List.nil_append]; rfl) ?_
  k_node
  rename_i p H1 hS1 _ _
  generalize hws : Txt.split t "," = ws at *
  refine f_lcL (xs := ws.map V.str) fun Dn hD => ⟨fun i H' => ∃ ns : List Int, ns.length = i ∧ ns = (ws.take i).filterMap (numT 999999999) ∧ ((ws.take i).all fun w => (numT 999999999 w).isSome) = true ∧ Hs [] H H' [(Dn, .lst (ns.map V.int)), (p, .lst (ws.map V.str))] [], ⟨[], rfl, rfl, rfl, hS1.new hD _⟩, ?_, ?_, ?_⟩
  · rintro i H' _ ⟨ns, hl, _, _, h2⟩
    exact SqL.of (h2.getM (.tail _ (.head _)))
  · rintro i y H3 hy ⟨ns, hl, hns, hall, hS3⟩
    obtain ⟨w, hw, rfl⟩ : ∃ w, ws[i]? = some w ∧ V.str w = y := by simpa using hy
    have hwl := hsz.2 w (List.mem_of_getElem? hw)
    have hi := (List.getElem?_eq_some_iff.mp hw).1
    k_spoken
    refine ⟨w, 999999999, rfl, by omega, by decide, by decide, fun v hv => ?_, fun hv => ?_⟩
    · k_spoken
      rename_i H5 hS5 _
      refine ⟨ns ++ [v], by rw [List.length_append, hl]; rfl, ?_, ?_, by rw [List.map_append]; exact hS5⟩
      · rw [take_snoc hw, List.filterMap_append, ← hns, List.filterMap_cons, hv]
        rfl
      · rw [take_snoc hw, List.all_append, hall]
        simp [hv]
    · refine kE ?_ _ hS3.up
      unfold rowT
      rw [hws, if_neg]
      rintro ⟨h1, _⟩
      have := List.all_eq_true.mp h1 w (List.mem_of_getElem? hw)
      rw [hv] at this
      cases this
  · rintro H3 ⟨ns, hl, hns, hall, hS3⟩
    rw [List.length_map] at hl
    rw [List.take_of_length_le (by rw [List.length_map]; exact Nat.le_refl _)] at hns hall
    k_spoken
    k_node
    have hrow : rowT t = if ws.length ≤ 11 then some ns else none := by
      unfold rowT
      rw [hws, ← hns]
      by_cases c : ws.length ≤ 11
      · rw [if_pos ⟨hall, c⟩, if_pos c]
      · rw [if_neg (fun h => c h.2), if_neg c]
    by_cases c : ws.length ≤ 11
    · rw [decide_eq_false (by rw [List.length_map]; omega)]
      k_spoken
      k_sweep
      exact kQ ns (by rw [hrow, if_pos c]) _ _ (hS3.sub (M' := [(Dn, _)]) (.cons₂ _ (List.nil_sublist _)))
    · rw [decide_eq_true (by rw [List.length_map]; omega)]
      k_spoken
      exact kE (by rw [hrow, if_neg c]) _ hS3.up
theorem ok_number_in {f : Addr} {fd : FuncData} (F : Fun K "_number_in" "_number_in" st_number_in f fd) (T : Txt K mg Z)  : FnOk P w K mg base (L2N.CX P w) 1 f fd ["text", "most"] (sp_number_in K Z) := by
  have cl_Log := T.cl_Log
  have na_Log__cut := T.na_Log__cut
  have na_Log__disk := T.na_Log__disk
  have na_Log__gone := T.na_Log__gone
  have na_Log__number := T.na_Log__number
  have na_Log__rows := T.na_Log__rows
  have na_Log__torn := T.na_Log__torn
  have cl_Disk := T.cl_Disk
  have na_Disk__blocks := T.na_Disk__blocks
  have na_Disk__let := T.na_Disk__let
  have na_Disk__part := T.na_Disk__part
  have na_Disk__reads := T.na_Disk__reads
  have na_Disk__writes := T.na_Disk__writes
  refine funN F sc_number_in (fun vs H Q E h => ?_) (fun cdv A outer s H vs Q E hr h => ?_)
  · obtain ⟨_, _, rfl, _⟩ := h
    rfl
  obtain ⟨t, most, rfl, hl, h0, h1, kQ, kE⟩ := h
  have hS : Hs [] H H [] [] := Hs.start0
  have hm17 : (txtI most).length ≤ 17 := txtI_len h0 (by omega)
  have hlz : t.length ≤ sizeLine := by rw [sizeLine_eq]; omega
  have hmz : (txtI most).length ≤ sizeLine := by rw [sizeLine_eq]; omega
  refine ⟨_, (pss_cons (ps_if (PW.pt (pw_and (pt_cmpR op_le (pe_callB call_len_strR (by rfl) T.m_len (by decide +kernel) (pa_cons (pv 0) pa_nil)) (pe_callB call_len_strR (by rfl) T.m_len (by decide +kernel) (pa_cons (pe_callTy call_strI (by rfl) T.m_str (by decide +kernel) (pa_cons (pv 1) pa_nil)) pa_nil)) (nomark _)) (pw_and (pt_val (pe_m0 PySem.F.slot_str_isascii PySem.F.type_str_isascii mt_isasciiR (pv 0))) (pw_and1 (pt_val (pe_m0 PySem.F.slot_str_isdigit PySem.F.type_str_isdigit mt_isdigitR (pv 0))))))) (pss_cons (ps_set (i := 2) sc_number_in.nd rfl (Or.inl rfl) (pe_callTy call_int_strR (by rfl) T.m_int (by decide +kernel) (pa_cons (pv 0) pa_nil)))
      (pss_one (ps_if (PW.pt (pw_and (pt_cmpR op_le (pv 2) (pv 1) (nomark _)) (pw_and1 (pt_cmpR op_eq (pe_callTy call_strI (by rfl) T.m_str (by decide +kernel) (pa_cons (pv 2) pa_nil)) (pv 0) (nomark _))))) (pss_one (ps_ret (pv 2))) pss_nil))) pss_nil)
      (pss_one (ps_raiseN rfl (L2N.takes_of rfl rfl rfl rfl) (L2N.pmk_own PySem.F.excBase_ValueError T.x_BadOrder T.g_BadOrder T.kp_BadOrder (raises_own T.sb_BadOrder T.ty_BadOrder) rfl)))), ?_⟩
  refine s_start (by simp only [L2.start, List.map_cons, List.map_nil, List.length_cons, List.length_nil, Nat.reduceAdd, Nat.reduceSub, List.replicate, List.cons_append, List.nil_append]; rfl) ?_
  k_node
  by_cases hc : t.length ≤ (txtI most).length ∧ Txt.isascii t = true ∧ Txt.isdigit t = true
  · obtain ⟨c1, c2, c3⟩ := hc
    rw [decide_eq_true (show (t.length : Int) ≤ (txtI most).length by omega)]
    k_spoken
    rw [c2]
    k_spoken
    rw [c3]
    have hi := int_digits c2 c3 (by omega)
    have ht640 : t.length ≤ 640 := by omega
    generalize hvv : NumText.digitsVal (TL.tl t) = v at hi
    have hv : ∀ i, numT most t = some i → t = txtI i ∧ i = v ∧ i ≤ most := fun i h => by
      obtain ⟨e, g0, g1⟩ := numT_some h
      obtain ⟨n, rfl⟩ := Int.eq_ofNat_of_zero_le g0
      refine ⟨e, ?_, g1⟩
      have e2 : TL.tl t = TL.numL n := by rw [e]; exact tl_txtI n
      rw [e2, TL.numL_val] at hvv
      rw [hvv]
    have hn : ((v : Int) ≤ most → txtI v ≠ t) → numT most t = none := fun hh => by
      cases e : numT most t with
      | none => rfl
      | some i =>
        obtain ⟨g1, rfl, g2⟩ := hv i e
        exact absurd g1.symm (hh g2)
    k_spoken
    k_node
    by_cases hm : (v : Int) ≤ most
    · rw [decide_eq_true hm]
      have hv60 : ((v : Nat) : Int).natAbs < 2 ^ 60 := by omega
      k_spoken
      by_cases ht : txtI v = t
      · rw [decide_eq_true ht]
        k_spoken
        exact kQ v (numT_of ht.symm hm)
      · rw [decide_eq_false ht]
        k_spoken
        exact kE (hn fun _ => ht)
    · rw [decide_eq_false hm]
      k_spoken
      exact kE (hn fun h => absurd h hm)
  · have hn : numT most t = none := by
      cases e : numT most t with
      | none => rfl
      | some i =>
        obtain ⟨rfl, g0, g1⟩ := numT_some e
        obtain ⟨n, rfl⟩ := Int.eq_ofNat_of_zero_le g0
        exact absurd ⟨txtI_mono g0 g1, num_flags.1, num_flags.2⟩ hc
    by_cases c1 : t.length ≤ (txtI most).length
    · rw [decide_eq_true (show (t.length : Int) ≤ (txtI most).length by omega)]
      k_spoken
      cases c2 : Txt.isascii t with
      | false =>
        k_spoken
        exact kE hn
      | true =>
        k_spoken
        cases c3 : Txt.isdigit t with
        | false =>
          k_spoken
          exact kE hn
        | true => exact absurd ⟨c1, c2, c3⟩ hc
    · rw [decide_eq_false (show ¬ (t.length : Int) ≤ (txtI most).length by omega)]
      k_spoken
      exact kE hn
theorem ok_law_taken {f : Addr} {fd : FuncData} (F : Fun K "_law_taken" "_law_taken" st_law_taken f fd) (T : Txt K mg Z)  : FnOk P w K mg base CX0 1 f fd ["_law_row", "_law_many"] (sp_law_taken K Z) := by
  have cl_Log := T.cl_Log
  have na_Log__cut := T.na_Log__cut
  have na_Log__disk := T.na_Log__disk
  have na_Log__gone := T.na_Log__gone
  have na_Log__number := T.na_Log__number
  have na_Log__rows := T.na_Log__rows
  have na_Log__torn := T.na_Log__torn
  have cl_Disk := T.cl_Disk
  have na_Disk__blocks := T.na_Disk__blocks
  have na_Disk__let := T.na_Disk__let
  have na_Disk__part := T.na_Disk__part
  have na_Disk__reads := T.na_Disk__reads
  have na_Disk__writes := T.na_Disk__writes
  refine F.ok sc_law_taken (fun vs H Q E h => ?_) (fun cdv A outer s H vs Q E hr h => ?_)
  · obtain ⟨_, _, _, _, _, _, rfl, _⟩ := h
    rfl
  obtain ⟨r, sc, o, ns, S, n, rfl, hH, ⟨i, m, hi, rfl⟩, hs, hn, k⟩ := h
  have hS := Hs.start1 hH
  refine ⟨_, (pss_cons (ps_asg (pe_op op_add (pe_ix (ix_listK (K := K)) (pv 0) pe_int (fun _ _ => rfl)) pe_int) (pg_sub (pv 0) pe_int set_list))
      (pss_cons (ps_if (pt_cmpR op_gt (pe_ix (ix_listK (K := K)) (pv 0) pe_int (fun _ _ => rfl)) (pe_callB (call_lenK (K := K)) (by rfl) T.m_len (by decide +kernel) (pa_cons (pe_ix (ix_listK (K := K)) (pv 0) pe_int (fun _ _ => rfl)) pa_nil)) (nomark _)) (pss_cons (ps_asg (pe_op op_mod (pe_op op_add (pe_op op_mul (pe_ix (ix_listK (K := K)) (pv 0) pe_int (fun _ _ => rfl)) pe_int) pe_int) pe_int) (pg_sub (pv 0) pe_int set_list))
      (pss_one (ps_ret (pe_op op_mod (pe_op op_fdiv (pe_ix (ix_listK (K := K)) (pv 0) pe_int (fun _ _ => rfl)) pe_int) (pv 1))))) pss_nil)
      (pss_cons (ps_set (i := 2) sc_law_taken.nd rfl (Or.inl rfl) (pe_ix (ix_listK (K := K)) (pe_ix (ix_listK (K := K)) (pv 0) pe_int (fun _ _ => rfl)) (pe_op op_sub (pe_ix (ix_listK (K := K)) (pv 0) pe_int (fun _ _ => rfl)) pe_int) (fun _ _ => rfl)))
      (pss_cons (ps_asg (pe_op op_mod (pe_op op_add (pe_op op_add (pe_op op_mul (pe_ix (ix_listK (K := K)) (pv 0) pe_int (fun _ _ => rfl)) pe_int) (pv 2)) pe_int) pe_int) (pg_sub (pv 0) pe_int set_list))
      (pss_one (ps_ret (pe_op op_mod (pv 2) (pv 1)))))))), ?_⟩
  refine s_start (by simp only [L2.start, List.map_cons, List.map_nil, List.length_cons, List.length_nil, Nat.reduceAdd, Nat.reduceSub, List.replicate, List.cons_append, List.nil_append]; rfl) ?_
  k_sweep
  apply s_iteD
  · intro c
    k_sweep
    exact k _ _ _ (Int.emod_nonneg _ (by omega)) (Int.emod_lt_of_pos _ hn) (Hs.up (by assumption)) (by k_here) ⟨_, _, by omega, rfl⟩
  · intro c
    rw [List.length_map] at c
    obtain ⟨v, hv⟩ : ∃ v, atI (ns.map V.int) (i + 1 - 1) = some (V.int v) := atI_ints (by omega) (by omega)
    k_sweep
    exact k _ _ _ (Int.emod_nonneg _ (by omega)) (Int.emod_lt_of_pos _ hn) (Hs.up (by assumption)) (by k_here) ⟨_, _, by omega, rfl⟩
theorem ok_law_odd {f : Addr} {fd : FuncData} (F : Fun K "_law_odd" "_law_odd" st_law_odd f fd) (T : Txt K mg Z) (D_law_taken : DefOk P w K mg base CX0 1 "_law_taken" ["_law_row", "_law_many"] (sp_law_taken K Z)) : FnOk P w K mg base CX0 2 f fd ["_law_row"] (sp_law_odd K Z) := by
  have cl_Log := T.cl_Log
  have na_Log__cut := T.na_Log__cut
  have na_Log__disk := T.na_Log__disk
  have na_Log__gone := T.na_Log__gone
  have na_Log__number := T.na_Log__number
  have na_Log__rows := T.na_Log__rows
  have na_Log__torn := T.na_Log__torn
  have cl_Disk := T.cl_Disk
  have na_Disk__blocks := T.na_Disk__blocks
  have na_Disk__let := T.na_Disk__let
  have na_Disk__part := T.na_Disk__part
  have na_Disk__reads := T.na_Disk__reads
  have na_Disk__writes := T.na_Disk__writes
  refine F.ok sc_law_odd (fun vs H Q E h => ?_) (fun cdv A outer s H vs Q E hr h => ?_)
  · obtain ⟨_, _, _, _, _, rfl, _⟩ := h
    rfl
  obtain ⟨r, sc, o, ns, S, rfl, hH, ro, hsc, k⟩ := h
  have hS := Hs.start1 hH
  refine ⟨_, (pss_cons (ps_setLc (i := 1) (own := [("_law_k", 5)]) (g := gName 5) (by rfl) sc_law_odd.nd rfl rfl (sw_true rfl rfl rfl (by decide +kernel)) (pi_range1 rfl T.m_range (pa_cons (pe_callD D_law_taken hr (by rfl) pass0 (pa_cons (pv 0) (pa_cons pe_int pa_nil))) pa_nil)) (blkOk_by (N := ["_law_row", "_law_words", "_law_odd_here", "_law_at", "_law_some", "_law_k"]) (sc := defScope st_law_odd) (by decide +kernel)) (fun _ _ _ _ _ => pg_name (i := 5) sc_law_odd.nd rfl (Or.inl rfl)) (fun _ _ _ _ _ => pts_nil) (fun _ _ _ _ _ => (pe_callD D_law_taken hr (by rfl) pass0 (pa_cons (pv 0) (pa_cons pe_int pa_nil)))))
      (pss_cons (ps_set (i := 2) sc_law_odd.nd rfl (Or.inl rfl) (pe_ix (ix_listK (K := K)) (pe_lst (pa_cons (pe_op op_sub pe_int pe_int) (pa_cons pe_int (pa_cons pe_bl (pa_cons pe_str (pa_cons pe_non pa_nil)))))) (pe_callD D_law_taken hr (by rfl) pass0 (pa_cons (pv 0) (pa_cons pe_int pa_nil))) (fun _ _ => rfl)))
      (pss_cons (ps_set (i := 3) sc_law_odd.nd rfl (Or.inl rfl) (pe_callD D_law_taken hr (by rfl) pass0 (pa_cons (pv 0) (pa_cons (pe_op op_add (pe_callB (call_lenK (K := K)) (by rfl) T.m_len (by decide +kernel) (pa_cons (pv 1) pa_nil)) pe_int) pa_nil))))
      (pss_cons (ps_set (i := 4) sc_law_odd.nd rfl (Or.inl rfl) (pe_lst (pa_cons (pe_op op_cat (pe_op op_cat (pe_slice (sl_listK (K := K)) (pv 1) po_none (po_some (pv 3))) (pe_lst (pa_cons (pv 2) pa_nil))) (pe_slice (sl_listK (K := K)) (pv 1) (po_some (pv 3)) po_none)) (pa_cons (pe_op op_cat (pv 1) (pe_op op_rep (pe_lst (pa_cons pe_int pa_nil)) pe_int)) (pa_cons (pe_callTy (call_tupleOfK (K := K)) (by rfl) T.m_tuple (by decide +kernel) (pa_cons (pv 1) pa_nil)) (pa_cons pe_non (pa_cons pe_str pa_nil)))))))
      (pss_one (ps_ret (pe_ix (ix_listK (K := K)) (pv 4) (pe_callD D_law_taken hr (by rfl) pass0 (pa_cons (pv 0) (pa_cons pe_int pa_nil))) (fun _ _ => rfl)))))))), ?_⟩
  refine s_start (by simp only [L2.start, List.map_cons, List.map_nil, List.length_cons, List.length_nil, Nat.reduceAdd, Nat.reduceSub, List.replicate, List.cons_append, List.nil_append]; rfl) ?_
  k_node
  rename_i n o1 H1 hn0 hn1 ro1 _ hS1
  refine f_lcR fun Dn hD => ⟨fun i H' => ∃ (ws : List Int) (o' : HO), ws.length = i ∧ RowO sc o' ∧ Hs [r] H H' ((Dn, .lst (ws.map V.int)) :: [(r, o')]) S, ⟨[], o1, rfl, ro1, hS1.new hD _⟩, ?_, ?_⟩
  · rintro i H2 hi ⟨ws, o', hl, ro', hS2⟩
    k_spoken
    rename_i v o3 H3 hv0 hv1 ro3 _ hS3 H4 hS4 _
    refine ⟨ws ++ [v], o3, by rw [List.length_append, hl]; rfl, ro3, by rw [List.map_append]; exact hS4⟩
  · rintro H2 ⟨ws, o', hl, ro', hS2⟩
    have hl11 : ws.length ≤ 11 := by omega
    k_spoken
    k_node
    apply s_ixPick
    k_here
    assumption
    assumption
    intro od hod
    obtain ⟨hfo, hwo⟩ : FlatV od ∧ wholeB od 0 999999999 = false := by
      simp only [List.mem_cons, List.not_mem_nil, or_false] at hod
      rcases hod with rfl | rfl | rfl | rfl | rfl
      · exact ⟨trivial, rfl⟩
      · exact ⟨trivial, rfl⟩
      · exact ⟨trivial, rfl⟩
      · exact ⟨by show (PyData.str "1").canLay0 = true; decide +kernel, rfl⟩
      · exact ⟨trivial, rfl⟩
    rename_i p1 H3 hS3 _ _ v3 o3 H4 hv30 hv31 ro3 _ hS4
    have hS5 := hS4.tl
    clear hS4 hS3 hS2 hod
    have fW : H4 Dn = some (.lst (ws.map V.int)) := hS5.getM (.head _)
    k_spoken
    k_node
    rename_i at_ o5 H5 ha0 ha1 ro5 _ hS6
    k_node
    apply s_ixPick
    k_here
    assumption
    assumption
    intro v hv
    rename_i hS9
    refine k v _ _ (by assumption) hS9.up (hS9.getM (by k_data)) ?_
    simp only [List.mem_cons, List.not_mem_nil, or_false] at hv
    rcases hv with rfl | rfl | rfl | rfl | rfl
    · refine .inr (.inr ⟨_, true, _, rfl, hS9.getM (by k_data), fun y hy => ?_, ?_, ?_⟩)
      · simp only [List.mem_append, List.mem_singleton] at hy
        rcases hy with (hy | rfl) | hy
        · exact flat_cut hy
        · exact hfo
        · exact flat_cut hy
      · have h1 := cutV_length (ws.map V.int)
        rw [List.length_map] at h1
        rw [List.length_append, List.length_append, List.length_singleton]
        have h2 := h1 none (some at_)
        have h3 := h1 (some at_) none
        omega
      · show rowB? _ = false
        simp [rowB?, hwo]
    · refine .inr (.inr ⟨_, true, _, rfl, hS9.getM (by k_data), fun y hy => ?_, ?_, ?_⟩)
      · rw [← List.map_append] at hy
        obtain ⟨z, _, rfl⟩ := List.mem_map.mp hy
        trivial
      · simp
        omega
      · simp [rowB?]
    · refine .inr (.inr ⟨_, false, _, rfl, hS9.getM (by k_data), fun y hy => ?_, ?_, rfl⟩)
      · obtain ⟨z, _, rfl⟩ := List.mem_map.mp hy
        trivial
      · rw [List.length_map]
        omega
    · exact .inl rfl
    · exact .inr (.inl ⟨_, rfl⟩)
theorem ok_law_of_disks {f : Addr} {fd : FuncData} (F : Fun K "_law_of_disks" "_law_of_disks" st_law_of_disks f fd) (T : Txt K mg Z) (M_Log___init__ : MakeOk P w K mg base CX0 6 Z.Log ["self", "disk"] (sp_Log___init__ K Z)) (M_Log_put : MethOk P w K mg base (L2N.CX P w) 5 Z.Log "put" ["self", "row"] (sp_Log_put K Z)) (M_Disk___init__ : MakeOk P w K mg base (L2N.CX P w) 2 Z.Disk ["self", "many"] (sp_Disk___init__ K Z)) (M_Disk_blocks : MethOk P w K mg base CX0 1 Z.Disk "blocks" ["self"] (sp_Disk_blocks K Z)) (M_Disk_read : MethOk P w K mg base (L2N.CX P w) 3 Z.Disk "read" ["self", "place"] (sp_Disk_read K Z)) (M_Disk_write : MethOk P w K mg base (L2N.CX P w) 3 Z.Disk "write" ["self", "place", "words"] (sp_Disk_write K Z)) (M_Disk_stop_after : MethOk P w K mg base (L2N.CX P w) 2 Z.Disk "stop_after" ["self", "count", "part"] (sp_Disk_stop_after K Z)) (D_order_of : DefOk P w K mg base (L2N.CX P w) 3 "order_of" ["line"] (sp_order_of K Z)) (D_law_taken : DefOk P w K mg base CX0 1 "_law_taken" ["_law_row", "_law_many"] (sp_law_taken K Z)) : FnOk P w K mg base (L2N.CX P w) 8 f fd ["_law_row", "_law_which"] (sp_law_of_disks K Z) := by
  obtain ⟨f_Log___init__, fd_Log___init__, G_Log___init__, b_Log___init__, m_Log___init__⟩ := M_Log___init__.ex
  obtain ⟨f_Log_put, fd_Log_put, G_Log_put, b_Log_put, m_Log_put⟩ := M_Log_put.ex
  obtain ⟨f_Disk___init__, fd_Disk___init__, G_Disk___init__, b_Disk___init__, m_Disk___init__⟩ := M_Disk___init__.ex
  obtain ⟨f_Disk_blocks, fd_Disk_blocks, G_Disk_blocks, b_Disk_blocks, m_Disk_blocks⟩ := M_Disk_blocks.ex
  obtain ⟨f_Disk_read, fd_Disk_read, G_Disk_read, b_Disk_read, m_Disk_read⟩ := M_Disk_read.ex
  obtain ⟨f_Disk_write, fd_Disk_write, G_Disk_write, b_Disk_write, m_Disk_write⟩ := M_Disk_write.ex
  obtain ⟨f_Disk_stop_after, fd_Disk_stop_after, G_Disk_stop_after, b_Disk_stop_after, m_Disk_stop_after⟩ := M_Disk_stop_after.ex
  have cl_Log := T.cl_Log
  have na_Log__cut := T.na_Log__cut
  have na_Log__disk := T.na_Log__disk
  have na_Log__gone := T.na_Log__gone
  have na_Log__number := T.na_Log__number
  have na_Log__rows := T.na_Log__rows
  have na_Log__torn := T.na_Log__torn
  have cl_Disk := T.cl_Disk
  have na_Disk__blocks := T.na_Disk__blocks
  have na_Disk__let := T.na_Disk__let
  have na_Disk__part := T.na_Disk__part
  have na_Disk__reads := T.na_Disk__reads
  have na_Disk__writes := T.na_Disk__writes
  refine funN F sc_law_of_disks (fun vs H Q E h => ?_) (fun cdv A outer s H vs Q E hr h => ?_)
  · obtain ⟨_, _, _, _, _, _, rfl, _⟩ := h
    rfl
  obtain ⟨r, sc, o, ns, S, i, rfl, hi, hH, ro, hsc, k⟩ := h
  have hS := Hs.start1 hH
  refine ⟨_, (pss_cons (ps_set (i := 2) sc_law_of_disks.nd rfl (Or.inl rfl) (pe_make m_Disk___init__ G_Disk___init__ (hr.mono (by decide)) (by rfl) T.g_Disk b_Disk___init__ .nil (L2N.passes_call (L2N.takes_of rfl rfl rfl rfl) (fun _ _ _ _ h => h)) (pa_cons (pe_op op_add pe_int (pe_callD D_law_taken hr (by rfl) pass0 (pa_cons (pv 0) (pa_cons pe_int pa_nil)))) pa_nil)))
      (pss_cons (ps_if (pt_cmpR op_eq (pv 1) pe_int (nomark _)) (pss_one (ps_expr (pe_make m_Disk___init__ G_Disk___init__ (hr.mono (by decide)) (by rfl) T.g_Disk b_Disk___init__ .nil (L2N.passes_call (L2N.takes_of rfl rfl rfl rfl) (fun _ _ _ _ h => h)) (pa_cons (pe_op op_add pe_int (pe_op op_mul pe_int (pe_callD D_law_taken hr (by rfl) pass0 (pa_cons (pv 0) (pa_cons pe_int pa_nil))))) pa_nil)))) pss_nil)
      (pss_cons (ps_if (pt_cmpR op_eq (pv 1) pe_int (nomark _)) (pss_one (ps_expr (pe_meth (pv 2) T.cl_Disk m_Disk_read G_Disk_read (hr.mono (by decide)) b_Disk_read .nil (L2N.passes_call (L2N.takes_of rfl rfl rfl rfl) (fun _ _ _ _ h => h)) (pa_cons (pe_op op_add (pe_meth0 (pv 2) T.cl_Disk m_Disk_blocks G_Disk_blocks (hr.mono (by decide)) b_Disk_blocks .nil pass0) (pe_callD D_law_taken hr (by rfl) pass0 (pa_cons (pv 0) (pa_cons pe_int pa_nil)))) pa_nil)))) pss_nil)
      (pss_cons (ps_if (pt_cmpR op_eq (pv 1) pe_int (nomark _)) (pss_one (ps_expr (pe_meth (pv 2) T.cl_Disk m_Disk_write G_Disk_write (hr.mono (by decide)) b_Disk_write .nil (L2N.passes_call (L2N.takes_of rfl rfl rfl rfl) (fun _ _ _ _ h => h)) (pa_cons (pe_callD D_law_taken hr (by rfl) pass0 (pa_cons (pv 0) (pa_cons pe_int pa_nil))) (pa_cons (pe_op op_rep (pe_lst (pa_cons pe_int pa_nil)) (pe_op op_add pe_int (pe_op op_mul pe_int (pe_callD D_law_taken hr (by rfl) pass0 (pa_cons (pv 0) (pa_cons pe_int pa_nil)))))) pa_nil))))) pss_nil)
      (pss_cons (ps_if (pt_cmpR op_eq (pv 1) pe_int (nomark _)) (pss_one (ps_expr (pe_meth (pv 2) T.cl_Disk m_Disk_stop_after G_Disk_stop_after (hr.mono (by decide)) b_Disk_stop_after .nil (L2N.passes_call (L2N.takes_of rfl rfl rfl rfl) (fun _ _ _ _ h => h)) (pa_cons (pe_callD D_law_taken hr (by rfl) pass0 (pa_cons (pv 0) (pa_cons pe_int pa_nil))) (pa_cons (pe_op op_add pe_int (pe_callD D_law_taken hr (by rfl) pass0 (pa_cons (pv 0) (pa_cons pe_int pa_nil)))) pa_nil))))) pss_nil)
      (pss_cons (ps_if (pt_cmpR op_eq (pv 1) pe_int (nomark _)) (pss_cons (ps_expr (pe_meth (pv 2) T.cl_Disk m_Disk_stop_after G_Disk_stop_after (hr.mono (by decide)) b_Disk_stop_after .nil (L2N.passes_call (L2N.takes_of rfl rfl rfl rfl) (fun _ _ _ _ h => h)) (pa_cons pe_int (pa_cons (pe_callD D_law_taken hr (by rfl) pass0 (pa_cons (pv 0) (pa_cons pe_int pa_nil))) pa_nil))))
      (pss_one (ps_expr (pe_meth (pe_make m_Log___init__ G_Log___init__ (hr.mono (by decide)) (by rfl) T.g_Log b_Log___init__ .nil pass0 (pa_cons (pv 2) pa_nil)) T.cl_Log m_Log_put G_Log_put (hr.mono (by decide)) b_Log_put .nil (L2N.passes_call (L2N.takes_of rfl rfl rfl rfl) (fun _ _ _ _ h => h)) (pa_cons (pe_lst (pa_cons pe_int pa_nil)) pa_nil))))) pss_nil)
      (pss_one (ps_if (pt_cmpR op_eq (pv 1) pe_int (nomark _)) (pss_one (ps_expr (pe_callD D_order_of hr (by rfl) (L2N.passes_call (L2N.takes_of rfl rfl rfl rfl) (fun _ _ _ _ h => h)) (pa_cons (pe_ix (ix_listK (K := K)) (pe_lst (pa_cons pe_str (pa_cons pe_str (pa_cons pe_str (pa_cons pe_str (pa_cons pe_str pa_nil)))))) (pe_callD D_law_taken hr (by rfl) pass0 (pa_cons (pv 0) (pa_cons pe_int pa_nil))) (fun _ _ => rfl)) pa_nil)))) pss_nil)))))))), ?_⟩
  refine s_start (by simp only [L2.start, List.map_cons, List.map_nil, List.length_cons, List.length_nil, Nat.reduceAdd, Nat.reduceSub, List.replicate, List.cons_append, List.nil_append]; rfl) ?_
  k_node
  rename_i v o1 H1 hv0 hv1 ro1 u1 hS1
  refine s_kMake hS1 ?_
  intro d dx H2 hS2 _ _ _
  refine disk_new (hS2.part (.cons₂ _ (.cons₂ _ (List.nil_sublist _)))) (by omega) (by omega) fun s H3 xr hr0 hwl f => ⟨rfl, ?_⟩
  have hS3 := hS2.seg f (.here (L := [_, _]))
  clear hS2 f
  generalize hn : (4 + v).toNat = n at *
  have hn4 : 4 ≤ n := by omega
  have hn64 : n ≤ 64 := by omega
  k_spoken
  have hi2 : i = 0 ∨ i = 1 ∨ i = 2 ∨ i = 3 ∨ i = 4 ∨ i = 9 ∨ ofD i = false := by
    have : i = 0 ∨ i = 1 ∨ i = 2 ∨ i = 3 ∨ i = 4 ∨ i = 5 ∨ i = 6 ∨ i = 7 ∨ i = 8 ∨ i = 9 := by omega
    rcases this with rfl | rfl | rfl | rfl | rfl | rfl | rfl | rfl | rfl | rfl <;> decide
  rcases hi2 with rfl | rfl | rfl | rfl | rfl | rfl | hno
  · k_node
    rename_i v2 o2 H4 hv20 hv21 ro2 _ hS4
    refine s_kMake hS4 ?_
    intro d2 dx2 H5 hS5 _ _ _
    refine disk_bad (hS5.part (.cons₂ _ (.cons₂ _ (List.nil_sublist _)))) (by omega) fun H6 u6 => ?_
    have hS6 := hS5.call0 u6
    exact (k _ _ ro2 hS6.up (hS6.getM (by k_data))).1 rfl _ rfl
  · k_node
    k_node
    refine ⟨d, s, rfl, hS3.part (List.sublist_append_left _ _), xr.ok, ?_⟩
    k_spoken
    rename_i v2 o2 H4 hv20 hv21 ro2 _ hS4
    refine ⟨d, s, _, rfl, hS4.part (List.sublist_append_left (diskL Z d s) _), xr.ok, trivial, fun _ => ?_, fun i e hlt => ?_⟩
    · exact (k _ _ ro2 hS4.up (hS4.getM (by k_data))).1 rfl _ rfl
    · have := V.int.inj e
      omega
  · k_node
    k_node
    k_node
    rename_i v2 o2 H4 hv20 hv21 ro2 _ hS4 _ _ _ v3 o3 H5 hv30 hv31 ro3 _ _ wa H6 hS6 _ _
    refine ⟨d, wa, s, _, true, (List.replicate (7 + 2 * v3).toNat 0).map V.int, rfl, hS6.part (.cons₂ _ (.cons _ (List.sublist_append_left (diskL Z d s) _))), xr.ok, trivial, ?_, ?_, xr.p0, xr.p7, fun c => ?_, fun _ _ H7 u7 => ?_, fun i w _ _ _ hw h8 _ => ?_⟩
    · intro x hx
      obtain ⟨_, _, rfl⟩ := List.mem_map.mp hx
      trivial
    · rw [List.length_map, List.length_replicate]
      omega
    · simp only [wholeB, Bool.and_eq_false_iff, decide_eq_false_iff_not] at c
      omega
    · have hS7 := hS6.call0 u7
      exact (k _ _ ro3 hS7.up (hS7.getM (by k_data))).1 rfl _ rfl
    · have := congrArg List.length hw
      rw [List.length_map, List.length_map, List.length_replicate, h8] at this
      omega
  · k_node
    k_node
    k_node
    k_node
    rename_i v2 o2 H4 hv20 hv21 ro2 _ _ v3 o3 H5 hv30 hv31 ro3 _ hS5
    refine ⟨d, s, _, _, rfl, hS5.part (List.sublist_append_left (diskL Z d s) _), trivial, trivial, fun _ => ?_, fun i j _ e c => ?_⟩
    · exact (k _ _ ro3 hS5.up (hS5.getM (by k_data))).1 rfl _ rfl
    · simp only [wholeB, Bool.and_eq_true, decide_eq_true_eq] at c
      omega
  · k_node
    k_node
    k_node
    k_node
    k_node
    k_node
    rename_i v2 o2 H4 hv20 hv21 ro2 _ hS4
    refine ⟨d, s, _, _, rfl, hS4.part (List.sublist_append_left (diskL Z d s) _), trivial, trivial, fun c => ?_, fun i j ei ej c H5 f => ?_⟩
    · simp only [wholeB, Bool.and_eq_false_iff, decide_eq_false_iff_not] at c
      omega
    · obtain rfl := V.int.inj ei
      obtain rfl := V.int.inj ej
      have hS5 := hS4.seg f (.here (L := diskL Z d s))
      clear hS4 f
      have h7 : v2 ≤ 7 := by omega
      have xr' : XRel { s with lt := some 0, p := v2 } { pFresh n with lt := some 0, p := v2 } :=
        ⟨⟨xr.ok.len, xr.ok.lo, xr.ok.hi, xr.ok.each⟩, xr.n, xr.ws, xr.w, rfl, fun _ => rfl, hv20, h7, hv20, h7, fun t ht => by cases ht; exact Int.le_refl _, xr.inv, xr.rr, xr.rb, xr.gr, xr.gb, xr.gw⟩
      obtain ⟨P', hP'⟩ : ∃ P' : PS, ({ pFresh n with lt := some 0, p := v2 } : PS) = P' := ⟨_, rfl⟩
      have pl : P'.lt = some 0 := by rw [← hP']
      have pn : P'.num = n - 1 := by rw [← hP']; rfl
      have pr : P'.rw = [] := by rw [← hP']; rfl
      have pg : P'.gone = false := by rw [← hP']; rfl
      have pnn : P'.n = n := by rw [← hP']; rfl
      rw [hP'] at xr'
      generalize ({ s with lt := some 0, p := v2 } : DS) = s' at hS5 xr'
      k_spoken
      refine s_kMake hS5 ?_
      intro g gx H6 hS6 _ _ _
      refine up_logX (hS6.part (.cons₂ _ (.cons₂ _ (List.sublist_append_left _ _)))) xr' (by omega) fun l rr H7 hd lr xl f => ⟨rfl, ?_⟩
      have hS7 := hS6.seg f (.here (L := (g, .ins Z.Log gx []) :: (gx, .own g) :: diskL Z d s'))
      clear hS6 f hS5
      k_spoken
      rename_i wr H8 hS8 _ _
      refine put_X (row := [1]) hd (hS8.part (.cons₂ _ (List.sublist_append_left _ _))) (by decide) (by decide) xl lr pg (by omega) (by rw [pnn, pn, pr]; show ((pcs [1]).length : Int) ≤ _; rw [show (pcs [1]).length = 1 from rfl]; show (1 : Int) ≤ n - 1 - (n - 1 - (n - 1)); omega) (fun s2 H9 _ _ _ f => ?_) fun l2 s2 H9 hk => ?_
      · have hS9 := hS8.seg f (.there (.here (L := logL Z g l ++ diskL Z d _)))
        exact (k _ _ ro2 hS9.up (hS9.getM (by k_data))).1 rfl _ rfl
      · have : stopsIn P'.lt (pcs [1]).length = true := by rw [pl]; decide
        unfold pPut at hk
        rw [if_pos this] at hk
        cases hk
  · k_node
    k_node
    k_node
    k_node
    k_node
    k_spoken
    apply s_ixPick
    k_here
    assumption
    assumption
    intro od hod
    have hord : ∃ t : Str, od = .str t ∧ t.length ≤ 1000000 ∧ (ordT t).isNone = true := by
      simp only [List.mem_cons, List.not_mem_nil, or_false] at hod
      rcases hod with rfl | rfl | rfl | rfl | rfl
      · exact ⟨_, rfl, by decide +kernel, by decide +kernel⟩
      · exact ⟨_, rfl, by decide +kernel, by decide +kernel⟩
      · exact ⟨_, rfl, by decide +kernel, by decide +kernel⟩
      · exact ⟨_, rfl, by decide +kernel, by decide +kernel⟩
      · exact ⟨_, rfl, by decide +kernel, by decide +kernel⟩
    obtain ⟨t, rfl, htl, hno⟩ := hord
    rename_i hS4
    k_spoken
    refine ⟨t, rfl, htl, fun o4 ho4 => ?_, fun _ H6 u6 => ?_⟩
    · rw [ho4] at hno
      cases hno
    · have hS6 := hS4.call0 u6
      exact (k _ _ (by assumption) hS6.up (hS6.getM (by k_data))).1 rfl _ rfl
  · have hz : ∀ j : Nat, ofD j = true → (i : Int) ≠ (j : Int) := fun j hj e => by
      rw [show i = j by omega, hj] at hno
      cases hno
    have h0 : ¬ (i : Int) = 0 := hz 0 rfl
    have h1 : ¬ (i : Int) = 1 := hz 1 rfl
    have h2 : ¬ (i : Int) = 2 := hz 2 rfl
    have h3 : ¬ (i : Int) = 3 := hz 3 rfl
    have h4 : ¬ (i : Int) = 4 := hz 4 rfl
    have h9 : ¬ (i : Int) = 9 := hz 9 rfl
    k_node
    k_node
    k_node
    k_node
    k_node
    k_spoken
    exact (k _ _ ro1 hS3.up (hS3.getM (by k_data))).2 hno
theorem ok_law_of_logs {f : Addr} {fd : FuncData} (F : Fun K "_law_of_logs" "_law_of_logs" st_law_of_logs f fd) (T : Txt K mg Z) (M_Log___init__ : MakeOk P w K mg base CX0 6 Z.Log ["self", "disk"] (sp_Log___init__ K Z)) (M_Log_put : MethOk P w K mg base (L2N.CX P w) 5 Z.Log "put" ["self", "row"] (sp_Log_put K Z)) (M_Log_take : MethOk P w K mg base (L2N.CX P w) 5 Z.Log "take" ["self"] (sp_Log_take K Z)) (D_carry : DefOk P w K mg base (L2N.CX P w) 8 "carry" ["old", "new"] (sp_carry K Z)) (M_Disk___init__ : MakeOk P w K mg base (L2N.CX P w) 2 Z.Disk ["self", "many"] (sp_Disk___init__ K Z)) (M_Disk_blocks : MethOk P w K mg base CX0 1 Z.Disk "blocks" ["self"] (sp_Disk_blocks K Z)) (D_law_taken : DefOk P w K mg base CX0 1 "_law_taken" ["_law_row", "_law_many"] (sp_law_taken K Z)) (D_law_odd : DefOk P w K mg base CX0 2 "_law_odd" ["_law_row"] (sp_law_odd K Z)) : FnOk P w K mg base (L2N.CX P w) 9 f fd ["_law_row", "_law_which"] (sp_law_of_logs K Z) := by
  obtain ⟨f_Log___init__, fd_Log___init__, G_Log___init__, b_Log___init__, m_Log___init__⟩ := M_Log___init__.ex
  obtain ⟨f_Log_put, fd_Log_put, G_Log_put, b_Log_put, m_Log_put⟩ := M_Log_put.ex
  obtain ⟨f_Log_take, fd_Log_take, G_Log_take, b_Log_take, m_Log_take⟩ := M_Log_take.ex
  obtain ⟨f_Disk___init__, fd_Disk___init__, G_Disk___init__, b_Disk___init__, m_Disk___init__⟩ := M_Disk___init__.ex
  obtain ⟨f_Disk_blocks, fd_Disk_blocks, G_Disk_blocks, b_Disk_blocks, m_Disk_blocks⟩ := M_Disk_blocks.ex
  have cl_Log := T.cl_Log
  have na_Log__cut := T.na_Log__cut
  have na_Log__disk := T.na_Log__disk
  have na_Log__gone := T.na_Log__gone
  have na_Log__number := T.na_Log__number
  have na_Log__rows := T.na_Log__rows
  have na_Log__torn := T.na_Log__torn
  have cl_Disk := T.cl_Disk
  have na_Disk__blocks := T.na_Disk__blocks
  have na_Disk__let := T.na_Disk__let
  have na_Disk__part := T.na_Disk__part
  have na_Disk__reads := T.na_Disk__reads
  have na_Disk__writes := T.na_Disk__writes
  refine funN F sc_law_of_logs (fun vs H Q E h => ?_) (fun cdv A outer s H vs Q E hr h => ?_)
  · obtain ⟨_, _, _, _, _, _, rfl, _⟩ := h
    rfl
  obtain ⟨r, sc, o, ns, S, i, rfl, h5, h8, hH, ro, hsc, k⟩ := h
  have hS := Hs.start1 hH
  refine ⟨_, (pss_cons (ps_set (i := 2) sc_law_of_logs.nd rfl (Or.inl rfl) (pe_make m_Disk___init__ G_Disk___init__ (hr.mono (by decide)) (by rfl) T.g_Disk b_Disk___init__ .nil (L2N.passes_call (L2N.takes_of rfl rfl rfl rfl) (fun _ _ _ _ h => h)) (pa_cons (pe_op op_add pe_int (pe_callD D_law_taken hr (by rfl) pass0 (pa_cons (pv 0) (pa_cons pe_int pa_nil)))) pa_nil)))
      (pss_cons (ps_set (i := 3) sc_law_of_logs.nd rfl (Or.inl rfl) (pe_make m_Log___init__ G_Log___init__ (hr.mono (by decide)) (by rfl) T.g_Log b_Log___init__ .nil pass0 (pa_cons (pv 2) pa_nil)))
      (pss_cons (ps_if (pt_cmpR op_eq (pv 1) pe_int (nomark _)) (pss_cons (ps_for (passes_of rfl) rfl (pi_range1 rfl T.m_range (pa_cons (pe_op op_sub (pe_meth0 (pv 2) T.cl_Disk m_Disk_blocks G_Disk_blocks (hr.mono (by decide)) b_Disk_blocks .nil pass0) pe_int) pa_nil)) (pg_name (i := 4) sc_law_of_logs.nd rfl (Or.inl rfl))
      (pss_one (ps_expr (pe_meth (pv 3) T.cl_Log m_Log_put G_Log_put (hr.mono (by decide)) b_Log_put .nil (L2N.passes_call (L2N.takes_of rfl rfl rfl rfl) (fun _ _ _ _ h => h)) (pa_cons (pe_lst pa_nil) pa_nil)))))
      (pss_one (ps_expr (pe_meth (pv 3) T.cl_Log m_Log_put G_Log_put (hr.mono (by decide)) b_Log_put .nil (L2N.passes_call (L2N.takes_of rfl rfl rfl rfl) (fun _ _ _ _ h => h)) (pa_cons (pe_callD D_law_odd hr (by rfl) pass0 (pa_cons (pv 0) pa_nil)) pa_nil))))) pss_nil)
      (pss_cons (ps_if (pt_cmpR op_eq (pv 1) pe_int (nomark _)) (pss_cons (ps_expr (pe_meth (pv 3) T.cl_Log m_Log_put G_Log_put (hr.mono (by decide)) b_Log_put .nil (L2N.passes_call (L2N.takes_of rfl rfl rfl rfl) (fun _ _ _ _ h => h)) (pa_cons (pe_op op_rep (pe_lst (pa_cons pe_int pa_nil)) pe_int) pa_nil)))
      (pss_one (ps_expr (pe_meth (pv 3) T.cl_Log m_Log_put G_Log_put (hr.mono (by decide)) b_Log_put .nil (L2N.passes_call (L2N.takes_of rfl rfl rfl rfl) (fun _ _ _ _ h => h)) (pa_cons (pe_op op_rep (pe_lst (pa_cons pe_int pa_nil)) pe_int) pa_nil))))) pss_nil)
      (pss_cons (ps_if (pt_cmpR op_eq (pv 1) pe_int (nomark _)) (pss_cons (ps_expr (pe_meth (pv 3) T.cl_Log m_Log_put G_Log_put (hr.mono (by decide)) b_Log_put .nil (L2N.passes_call (L2N.takes_of rfl rfl rfl rfl) (fun _ _ _ _ h => h)) (pa_cons (pe_lst (pa_cons pe_int pa_nil)) pa_nil)))
      (pss_cons (ps_expr (pe_meth0 (pv 3) T.cl_Log m_Log_take G_Log_take (hr.mono (by decide)) b_Log_take .nil (L2N.passes_call (L2N.takes_of rfl rfl rfl rfl) (fun _ _ _ _ h => h))))
      (pss_one (ps_expr (pe_meth0 (pv 3) T.cl_Log m_Log_take G_Log_take (hr.mono (by decide)) b_Log_take .nil (L2N.passes_call (L2N.takes_of rfl rfl rfl rfl) (fun _ _ _ _ h => h))))))) pss_nil)
      (pss_one (ps_if (pt_cmpR op_eq (pv 1) pe_int (nomark _)) (pss_cons (ps_expr (pe_meth (pv 3) T.cl_Log m_Log_put G_Log_put (hr.mono (by decide)) b_Log_put .nil (L2N.passes_call (L2N.takes_of rfl rfl rfl rfl) (fun _ _ _ _ h => h)) (pa_cons (pe_lst (pa_cons (pe_callD D_law_taken hr (by rfl) pass0 (pa_cons (pv 0) (pa_cons pe_int pa_nil))) pa_nil)) pa_nil)))
      (pss_cons (ps_expr (pe_callD D_carry hr (by rfl) (L2N.passes_call (L2N.takes_of rfl rfl rfl rfl) (fun _ _ _ _ h => h)) (pa_cons (pv 2) (pa_cons (pe_make m_Disk___init__ G_Disk___init__ (hr.mono (by decide)) (by rfl) T.g_Disk b_Disk___init__ .nil (L2N.passes_call (L2N.takes_of rfl rfl rfl rfl) (fun _ _ _ _ h => h)) (pa_cons pe_int pa_nil)) pa_nil))))
      (pss_one (ps_expr (pe_meth (pe_make m_Log___init__ G_Log___init__ (hr.mono (by decide)) (by rfl) T.g_Log b_Log___init__ .nil pass0 (pa_cons (pv 2) pa_nil)) T.cl_Log m_Log_put G_Log_put (hr.mono (by decide)) b_Log_put .nil (L2N.passes_call (L2N.takes_of rfl rfl rfl rfl) (fun _ _ _ _ h => h)) (pa_cons (pe_callD D_law_odd hr (by rfl) pass0 (pa_cons (pv 0) pa_nil)) pa_nil)))))) pss_nil))))))), ?_⟩
  refine s_start (by simp only [L2.start, List.map_cons, List.map_nil, List.length_cons, List.length_nil, Nat.reduceAdd, Nat.reduceSub, List.replicate, List.cons_append, List.nil_append]; rfl) ?_
  k_node
  rename_i v o1 H1 hv0 hv1 ro1 u1 hS1
  refine s_kMake hS1 ?_
  intro d dx H2 hS2 _ _ _
  refine disk_new (hS2.part (.cons₂ _ (.cons₂ _ (List.nil_sublist _)))) (by omega) (by omega) fun s H3 xr hr0 hwl f => ⟨rfl, ?_⟩
  have hS3 := hS2.seg f (.here (L := [_, _]))
  clear hS2 f
  generalize hn : (4 + v).toNat = n at *
  have hn4 : 4 ≤ n := by omega
  have hn5 : n ≤ 5 := by omega
  k_spoken
  k_node
  refine s_kMake hS3 ?_
  intro g gx H4 hS4 _ _ _
  refine up_logX (hS4.part (.cons₂ _ (.cons₂ _ (List.sublist_append_left _ _)))) xr (by show ((n : Int) - 1) ≤ _; omega) fun l rr H5 hd lr xl f => ⟨rfl, ?_⟩
  have hS5 := hS4.seg f (.here (L := (g, .ins Z.Log gx []) :: (gx, .own g) :: diskL Z d s))
  clear hS4 f hS3
  obtain ⟨s1, hs1, hs1l⟩ : ∃ s1 : DS, ({ s with r := rr } : DS) = s1 ∧ s1.ws.length = n := ⟨_, rfl, hwl⟩
  rw [hs1] at hS5 xl
  k_spoken
  obtain ⟨P, hP⟩ : ∃ P : PS, pFresh n = P := ⟨_, rfl⟩
  have pl : P.lt = none := by rw [← hP]; rfl
  have pn : P.num = n - 1 := by rw [← hP]; rfl
  have pr : P.rw = [] := by rw [← hP]; rfl
  have pg : P.gone = false := by rw [← hP]; rfl
  have pnn : P.n = n := by rw [← hP]; rfl
  have pf : floorU P.rw P.num = n - 1 := by rw [pr, pn]; rfl
  rw [hP] at xl lr
  have hi2 : i = 5 ∨ i = 6 ∨ i = 7 ∨ i = 8 := by omega
  rcases hi2 with rfl | rfl | rfl | rfl
  · have fd : H5 d = some (.ins Z.Disk s1.dx (dF s1)) := hS5.getM (List.mem_append_left _ (List.mem_append_right _ (.head _)))
    k_node
    k_node
    refine ⟨d, s1, rfl, hS5.part ((List.sublist_append_right _ _).trans (List.sublist_append_left _ _)), xl.ok, ?_⟩
    rw [hs1l]
    k_spoken
    refine f_range (fun j σ H' => ∃ (l' : LS) (s' : DS) (P' : PS) (x4 : Option V), σ = [some (.ref r), some (.int (5 : Nat)), some (.ref d), some (.ref g), x4] ∧ l'.d = d ∧ LRelP l' P' ∧ XRel s' P' ∧ P'.lt = none ∧ P'.gone = false ∧ P'.n = n ∧ P'.num = n - 1 + (j : Int) ∧ floorU P'.rw P'.num = n - 1 ∧ Hs [r] H H' (logL Z g l' ++ diskL Z d s' ++ [(r, o1)]) S) ⟨l, s1, P, _, rfl, hd, lr, xl, pl, pg, pnn, by rw [pn]; simp, pf, hS5⟩ ?_ ?_
    · rintro j σ H6 hj ⟨l', s', P', x4, rfl, hd', lr', xl', pl', pg', pnn', pn', pf', hS6⟩
      k_spoken
      rename_i wr H7 hS7 _ _
      have hpf := put_facts (P := P') (row := []) pl'
      refine put_X (row := []) hd' (hS7.part (.cons₂ _ (List.sublist_append_left _ _))) (by decide) (fun x hx => nomatch hx) xl' lr' pg' (by omega) (by rw [show (pcs []).length = 1 from rfl, pnn', pn']; rw [pn'] at pf'; omega) (fun s2 H9 hk _ _ _ => ?_) fun l2 s2 H9 _ x2 lr2 hd2 _ f => ?_
      · rw [hpf.1] at hk
        cases hk
      · have hS9 := (hS7.seg f (.there (.here (L := logL Z g l' ++ diskL Z d s')))).tl
        refine ⟨l2, s2, _, _, rfl, hd2, lr2, x2, hpf.2.1, hpf.2.2.2.2.1.trans pg', hpf.2.2.2.1.trans pnn', ?_, ?_, hS9⟩
        · rw [hpf.2.2.1, pn']
          show (n : Int) - 1 + j + (1 : Nat) = _
          push_cast
          omega
        · rw [hpf.2.2.2.2.2, hpf.2.2.1]
          cases hr : P'.rw with
          | nil =>
            rw [hr] at pf'
            have pf' : P'.num = (n : Int) - 1 := pf'
            show P'.num + 1 - 1 = _
            omega
          | cons y ys =>
            rw [hr] at pf'
            exact pf'
    · rintro σ H6 ⟨l', s', P', x4, rfl, hd', lr', xl', pl', pg', pnn', pn', pf', hS6⟩
      k_spoken
      have hS7 := hS6.perm (M' := (r, o1) :: (logL Z g l' ++ diskL Z d s')) (List.perm_append_comm (l₁ := [(r, o1)]))
      refine ⟨r, sc, o1, ns, S, rfl, hS7.row (.head _), ro1, hsc, fun y o2 H7 ro2 u7 e7 hno => ?_⟩
      have hS8 := hS7.call1 u7 e7 .here
      k_spoken
      refine bad_X hd' (hS8.part (.cons _ (List.Sublist.refl _))) hno lr' (fun h => ?_) fun _ H8 u8 => ?_
      · rw [pg'] at h
        cases h
      · have hS9 := hS8.call0 u8
        exact k _ _ ro2 hS9.up (hS9.getM (.head _)) _ rfl
  · k_node
    k_node
    k_node
    rename_i wr H6 hS6 _ _
    have e9 : (pcs (List.replicate (Int.toNat 9) 0)).length = 4 := by decide +kernel
    have b9 : ∀ x ∈ List.replicate (Int.toNat 9) (0 : Int), 0 ≤ x ∧ x ≤ 999999999 := by decide +kernel
    have h9 : (List.replicate (Int.toNat 9) (0 : Int)).length ≤ 11 := by decide +kernel
    by_cases c : n = 4
    · refine full_X hd (hS6.part (.cons₂ _ (.cons _ (List.sublist_append_left _ _)))) h9 b9 xl lr pg (by omega) (by rw [e9, pnn, pn, ← pn, pf, pn]; omega) fun H7 u7 => ?_
      have hS7 := hS6.call0 u7
      exact k _ _ ro1 hS7.up (hS7.getM (List.mem_cons_of_mem _ (List.mem_cons_of_mem _ (List.mem_append_right _ (.head _))))) _ rfl
    · have hpf := put_facts (P := P) (row := List.replicate (Int.toNat 9) 0) pl
      refine put_X hd (hS6.part (.cons₂ _ (.cons _ (List.sublist_append_left _ _)))) h9 b9 xl lr pg (by omega) (by rw [e9, pnn, pf, pn]; omega) (fun s2 H9 hk _ _ _ => ?_) fun l2 s2 H9 _ x2 lr2 hd2 _ f => ?_
      · rw [hpf.1] at hk
        cases hk
      · have hS9 := (hS6.seg f (.there (.there (.here (L := logL Z g l ++ diskL Z d s1))))).tl.tl
        k_spoken
        rename_i wr2 H10 hS10 _ _
        refine full_X hd2 (hS10.part (.cons₂ _ (.cons _ (List.sublist_append_left _ _)))) h9 b9 x2 lr2 (hpf.2.2.2.2.1.trans pg) (by rw [hpf.2.2.1, e9, pn]; omega) ?_ fun H7 u7 => ?_
        · rw [hpf.2.2.2.1, hpf.2.2.1, hpf.2.2.2.2.2, pr, pnn, e9]
          show (n : Int) - 1 - (P.num + (4 : Nat) - (P.num + 1 - 1)) < 4
          omega
        · have hS7 := hS10.call0 u7
          exact k _ _ ro1 hS7.up (hS7.getM (List.mem_cons_of_mem _ (List.mem_cons_of_mem _ (List.mem_append_right _ (.head _))))) _ rfl
  · k_node
    k_node
    k_node
    k_node
    rename_i wr H6 hS6 _ _
    have hpf := put_facts (P := P) (row := [5]) pl
    have e5 : (pcs [5]).length = 1 := rfl
    refine put_X (row := [5]) hd (hS6.part (.cons₂ _ (List.sublist_append_left _ _))) (by decide) (by decide) xl lr pg (by omega) (by rw [e5, pnn, pf, pn]; omega) (fun s2 H9 hk _ _ _ => ?_) fun l2 s2 H9 _ x2 lr2 hd2 _ f => ?_
    · rw [hpf.1] at hk
      cases hk
    · have hS9 := (hS6.seg f (.there (.here (L := logL Z g l ++ diskL Z d s1)))).tl
      k_spoken
      k_node
      have hrw : l2.rw = [(P.num + 1, [5])] := by
        rw [lr2.rows, hpf.2.2.2.2.2, pr]
        rfl
      have hn2 : l2.num = n := by
        rw [lr2.num, hpf.2.2.1, pn, e5]
        omega
      have hc2 := x2.cnt lr2
      have hlt2 : s2.lt = none := x2.lt.trans hpf.2.1
      have hg2 : l2.gone = false := lr2.gone.trans (hpf.2.2.2.2.1.trans pg)
      have hft : floorU l2.rw.tail l2.num = l2.num := by rw [hrw]; rfl
      have hrl : l2.rows.length = 1 := by
        have := congrArg List.length hrw
        unfold LS.rw at this
        rw [List.length_map] at this
        exact this
      refine ⟨g, l2, s2, rfl, by rw [hd2]; exact hS9.part (List.sublist_append_left _ _), x2.ok, x2.p0, x2.p7, hc2.1, hc2.2, by omega, by omega, by rw [hft]; omega, by rw [hft]; omega, fun h => ?_, fun _ h => ?_, fun _ y ys hy => ⟨fun h => ?_, fun _ bs ca ra H11 hb f2 => ?_⟩⟩
      · rw [hg2] at h
        cases h
      · rw [h] at hrl
        cases hrl
      · rw [hlt2] at h
        cases h
      · obtain rfl : ys = [] := by
          rw [hy] at hrl
          match ys, hrl with
          | [], _ => rfl
        rw [hd2] at f2
        have hS11 := hS9.seg f2 (.here (L := logL Z g l2 ++ diskL Z d s2))
        clear hS9 f2 hS6 f
        have hm8 : ∀ b ∈ [markB (l2.num + 1) (floorU l2.rw.tail l2.num)], b.length = 8 := fun b hb => by rw [List.mem_singleton.mp hb]; rfl
        have ok3 := dPut_ok (num := l2.num) x2.ok hb hm8
        have hp3 : (dPut s2 bs l2.num [markB (l2.num + 1) (floorU l2.rw.tail l2.num)]).p = s2.p := rfl
        have hcl : (l2.cut.filter (fun b => decide (floorU l2.rw.tail l2.num < b))).length ≤ 1000 := Nat.le_trans (List.length_filter_le _ _) hc2.1
        have hl3 : ∃ l3 : LS, ({ l2 with d := d, num := l2.num + 1, torn := none, ca := ca, cut := l2.cut.filter (fun b => decide (floorU l2.rw.tail l2.num < b)), ra := ra, rows := [] } : LS) = l3 ∧ l3.num = n + 1 ∧ l3.gone = false ∧ l3.rows = [] ∧ l3.d = d ∧ l3.cut.length ≤ 1000 := ⟨_, rfl, by rw [← hn2], hg2, rfl, rfl, hcl⟩
        obtain ⟨l3, e3, hn3, hg3, hr3, hd3, hc3⟩ := hl3
        rw [e3] at hS11
        generalize dPut s2 bs l2.num [markB (l2.num + 1) (floorU l2.rw.tail l2.num)] = s3 at hS11 ok3 hp3
        have hft3 : floorU l3.rw.tail l3.num = l3.num := by
          unfold LS.rw
          rw [hr3]
          rfl
        have hS12 := hS11.tl
        clear hS11
        k_spoken
        refine ⟨g, l3, s3, rfl, by rw [hd3]; exact hS12.part (List.sublist_append_left _ _), ok3, by rw [hp3]; exact x2.p0, by rw [hp3]; exact x2.p7, hc3, by rw [hr3]; decide, by omega, by omega, by rw [hft3]; omega, by rw [hft3]; omega, fun h => ?_, fun _ _ => ?_, fun _ y2 ys2 hy2 => ?_⟩
        · rw [hg3] at h
          cases h
        · exact k _ _ ro1 hS12.up (hS12.getM (List.mem_append_right _ (.head _))) _ rfl
        · rw [hr3] at hy2
          cases hy2
  · k_node
    k_node
    k_node
    k_spoken
    k_node
    rename_i v2 o2 H7 hv20 hv21 ro2 _ hS7 wr H8 hS8 _ _
    have hS8 : Hs [r] H H8 ((wr, .lst ([v2].map V.int)) :: (logL Z g l ++ diskL Z d s1 ++ [(r, o2)])) S := hS8
    clear hS7 hS5
    have hpf := put_facts (P := P) (row := [v2]) pl
    have e5 : (pcs [v2]).length = 1 := by simp [pcs_len]
    refine put_X (row := [v2]) hd (hS8.part (.cons₂ _ (List.sublist_append_left _ _))) (by show 1 ≤ 11; decide) (fun x hx => by rw [List.mem_singleton.mp hx]; omega) xl lr pg (by omega) (by rw [e5, pnn, pf, pn]; omega) (fun s2 H9 hk _ _ _ => ?_) fun l2 s2 H9 _ x2 lr2 hd2 _ f => ?_
    · rw [hpf.1] at hk
      cases hk
    · have hS9 := (hS8.seg f (.there (.here (L := logL Z g l ++ diskL Z d s1)))).tl
      clear hS8 f
      generalize hP2 : (pPut P [v2]).1 = P2 at *
      k_spoken
      k_node
      refine s_kMake hS9 ?_
      intro d2 dx2 H10 hS10 _ _ _
      have hS10 : Hs [r] H H10 ((d2, .ins Z.Disk dx2 []) :: (dx2, .own d2) :: (logL Z g l2 ++ diskL Z d s2 ++ [(r, o2)])) S := hS10
      refine disk_new (hS10.part (.cons₂ _ (.cons₂ _ (List.nil_sublist _)))) (by decide) (by decide) fun sB H11 xB _ _ f => ⟨rfl, ?_⟩
      have hS11 : Hs [r] H H11 (diskL Z d2 sB ++ (logL Z g l2 ++ diskL Z d s2 ++ [(r, o2)])) S := hS10.seg f (.here (L := [_, _]))
      clear hS10 f hS9
      have hS12 := hS11.perm (M' := (diskL Z d s2 ++ diskL Z d2 sB) ++ ((r, o2) :: logL Z g l2)) (by
        classical
        exact List.perm_iff_count.mpr fun a => by
          simp only [List.count_append, List.count_cons, List.count_nil]
          omega)
      clear hS11
      k_spoken
      have hcf := carry_fresh (P1 := P2) (P2 := pFresh (Int.toNat 5)) (hpf.2.2.2.2.1.trans pg) hpf.2.1 rfl rfl rfl (by unfold rowsP; rw [hpf.2.2.2.2.2, pr]; show ((lensP [[v2]] : Nat) : Int) ≤ (5 : Nat) - 1; unfold lensP; simp [pcs_len])
      refine ⟨d, d2, s2, sB, P2, pFresh (Int.toNat 5), rfl, hS12.part (List.sublist_append_left _ _), x2, xB, by rw [hpf.2.2.1, e5]; omega, by decide, fun s3 s4 H13 x3 x4 _ _ f => ⟨fun h => ?_, fun h => ?_, fun h => ?_, fun _ => ?_⟩⟩
      · rw [hcf.2] at h
        cases h
      · rw [hcf.2] at h
        cases h
      · rw [hcf.2] at h
        cases h
      · have hS13 := hS12.seg f (.here (L := diskL Z d s2 ++ diskL Z d2 sB))
        clear hS12 f
        have hg3 : (carryP P2 (pFresh (Int.toNat 5))).1.gone = true := by rw [hcf.1]
        have hn3 : (carryP P2 (pFresh (Int.toNat 5))).1.num ≤ 999999999000000 := by
          rw [hcf.1]
          show P2.num + 1 ≤ _
          rw [hpf.2.2.1, e5]
          omega
        generalize (carryP P2 (pFresh (Int.toNat 5))).1 = P3 at *
        have hS14 := hS13.perm (M' := diskL Z d s3 ++ ((r, o2) :: logL Z g l2 ++ diskL Z d2 s4)) (by
          classical
          exact List.perm_iff_count.mpr fun a => by
            simp only [List.count_append, List.count_cons, List.count_nil]
            omega)
        clear hS13
        k_spoken
        refine s_kMake hS14 ?_
        intro g2 gx2 H15 hS15 _ _ _
        have hS15 : Hs [r] H H15 ((g2, .ins Z.Log gx2 []) :: (gx2, .own g2) :: (diskL Z d s3 ++ ((r, o2) :: logL Z g l2 ++ diskL Z d2 s4))) S := hS15
        refine up_logX (hS15.part (.cons₂ _ (.cons₂ _ (List.sublist_append_left _ _)))) x3 hn3 fun l5 r5 H16 hd5 lr5 x5 f => ⟨rfl, ?_⟩
        have hS16 : Hs [r] H H16 (logL Z g2 l5 ++ diskL Z d { s3 with r := r5 } ++ ((r, o2) :: logL Z g l2 ++ diskL Z d2 s4)) S := hS15.seg f (.here (L := (g2, .ins Z.Log gx2 []) :: (gx2, .own g2) :: diskL Z d s3))
        clear hS15 f hS14
        have hS17 := hS16.perm (M' := (r, o2) :: (logL Z g2 l5 ++ diskL Z d { s3 with r := r5 } ++ (logL Z g l2 ++ diskL Z d2 s4))) (by
          classical
          exact List.perm_iff_count.mpr fun a => by
            simp only [List.count_append, List.count_cons, List.count_nil]
            omega)
        clear hS16
        k_spoken
        refine ⟨r, sc, o2, ns, S, rfl, hS17.row (.head _), ro2, hsc, fun y o3 H18 ro3 u18 e18 hno => ?_⟩
        have hS18 := hS17.call1 u18 e18 .here
        k_spoken
        refine bad_X hd5 (hS18.part (.cons _ (List.sublist_append_left _ _))) hno lr5 (fun _ => ?_) fun h => ?_
        · exact k _ _ ro3 hS18.up (hS18.getM (.head _)) _ rfl
        · rw [hg3] at h
          cases h
theorem okp_law_kinds {f : Addr} {fd : FuncData} (F : Fun K "_law_kinds" "_law_kinds" st_law_kinds f fd) (T : Txt K mg Z)  : FnP P w K mg base 1 f fd ["_law_e"] (sp_law_kinds K Z) := by
  have cl_Log := T.cl_Log
  have na_Log__cut := T.na_Log__cut
  have na_Log__disk := T.na_Log__disk
  have na_Log__gone := T.na_Log__gone
  have na_Log__number := T.na_Log__number
  have na_Log__rows := T.na_Log__rows
  have na_Log__torn := T.na_Log__torn
  have cl_Disk := T.cl_Disk
  have na_Disk__blocks := T.na_Disk__blocks
  have na_Disk__let := T.na_Disk__let
  have na_Disk__part := T.na_Disk__part
  have na_Disk__reads := T.na_Disk__reads
  have na_Disk__writes := T.na_Disk__writes
  refine funP F sc_law_kinds (fun D a vs H Q E h => ?_) (fun cdv A outer s H vs Q E p D hot hz hr h => ?_)
  · obtain ⟨_, _, _, rfl, _⟩ := h
    rfl
  obtain ⟨i, hi, hD, rfl, k⟩ := h
  have hS : Hs [] H H [] [] := Hs.start0
  have hf : ∃ vs, p.2.data = .fields vs := by
    obtain ⟨_, w0, e0, _⟩ := hot
    exact ⟨w0, e0⟩
  refine ⟨_, (pss_cons (ps_set (i := 1) sc_law_kinds.nd rfl (Or.inl rfl) (pe_lst (pa_cons (pe_callB (isP (p := p) List.mem_cons_self hz hf) (by rfl) T.m_isinstance (by decide +kernel) (pa_cons (pv 0) (pa_cons (pe_glob (v := .ref Z.BadDisk) (by rfl) T.g_BadDisk rfl) pa_nil))) (pa_cons (pe_callB (isP (p := p) List.mem_cons_self hz hf) (by rfl) T.m_isinstance (by decide +kernel) (pa_cons (pv 0) (pa_cons (pe_glob (v := .ref Z.NoBlock) (by rfl) T.g_NoBlock rfl) pa_nil))) (pa_cons (pe_callB (isP (p := p) List.mem_cons_self hz hf) (by rfl) T.m_isinstance (by decide +kernel) (pa_cons (pv 0) (pa_cons (pe_glob (v := .ref Z.BadBlock) (by rfl) T.g_BadBlock rfl) pa_nil))) (pa_cons (pe_callB (isP (p := p) List.mem_cons_self hz hf) (by rfl) T.m_isinstance (by decide +kernel) (pa_cons (pv 0) (pa_cons (pe_glob (v := .ref Z.BadStop) (by rfl) T.g_BadStop rfl) pa_nil))) pa_nil))))))
      (pss_cons (ps_set (i := 1) sc_law_kinds.nd rfl (Or.inl rfl) (pe_op op_cat (pv 1) (pe_lst (pa_cons (pe_callB (isP (p := p) List.mem_cons_self hz hf) (by rfl) T.m_isinstance (by decide +kernel) (pa_cons (pv 0) (pa_cons (pe_glob (v := .ref Z.Stopped) (by rfl) T.g_Stopped rfl) pa_nil))) (pa_cons (pe_callB (isP (p := p) List.mem_cons_self hz hf) (by rfl) T.m_isinstance (by decide +kernel) (pa_cons (pv 0) (pa_cons (pe_glob (v := .ref Z.BadRow) (by rfl) T.g_BadRow rfl) pa_nil))) (pa_cons (pe_callB (isP (p := p) List.mem_cons_self hz hf) (by rfl) T.m_isinstance (by decide +kernel) (pa_cons (pv 0) (pa_cons (pe_glob (v := .ref Z.Full) (by rfl) T.g_Full rfl) pa_nil))) (pa_cons (pe_callB (isP (p := p) List.mem_cons_self hz hf) (by rfl) T.m_isinstance (by decide +kernel) (pa_cons (pv 0) (pa_cons (pe_glob (v := .ref Z.Empty) (by rfl) T.g_Empty rfl) pa_nil))) pa_nil)))))))
      (pss_one (ps_ret (pe_op op_cat (pv 1) (pe_lst (pa_cons (pe_callB (isP (p := p) List.mem_cons_self hz hf) (by rfl) T.m_isinstance (by decide +kernel) (pa_cons (pv 0) (pa_cons (pe_glob (v := .ref Z.Gone) (by rfl) T.g_Gone rfl) pa_nil))) (pa_cons (pe_callB (isP (p := p) List.mem_cons_self hz hf) (by rfl) T.m_isinstance (by decide +kernel) (pa_cons (pv 0) (pa_cons (pe_glob (v := .ref Z.BadOrder) (by rfl) T.g_BadOrder rfl) pa_nil))) pa_nil)))))))), ?_⟩
  refine s_start (by simp only [L2.start, List.map_cons, List.map_nil, List.length_cons, List.length_nil, Nat.reduceAdd, Nat.reduceSub, List.replicate, List.cons_append, List.nil_append]; rfl) ?_
  have hi : i = 0 ∨ i = 1 ∨ i = 2 ∨ i = 3 ∨ i = 4 ∨ i = 5 ∨ i = 6 ∨ i = 7 ∨ i = 8 ∨ i = 9 := by omega
  rcases hi with rfl | rfl | rfl | rfl | rfl | rfl | rfl | rfl | rfl | rfl
  · obtain rfl : Z.BadDisk = D := by simpa [exs] using hD
    have hC := T.ec_BadDisk
    have ki_BadDisk := T.ki_BadDisk_BadDisk
    have ki_NoBlock := T.ki_BadDisk_NoBlock
    have ki_BadBlock := T.ki_BadDisk_BadBlock
    have ki_BadStop := T.ki_BadDisk_BadStop
    have ki_Stopped := T.ki_BadDisk_Stopped
    have ki_BadRow := T.ki_BadDisk_BadRow
    have ki_Full := T.ki_BadDisk_Full
    have ki_Empty := T.ki_BadDisk_Empty
    have ki_Gone := T.ki_BadDisk_Gone
    have ki_BadOrder := T.ki_BadDisk_BadOrder
    k_sweep
    rename_i q1 Hq hq9 _ _
    exact k q1 Hq (hq9.sub (M' := [(q1, _)]) (.cons₂ _ (List.nil_sublist _)))
  · obtain rfl : Z.NoBlock = D := by simpa [exs] using hD
    have hC := T.ec_NoBlock
    have ki_BadDisk := T.ki_NoBlock_BadDisk
    have ki_NoBlock := T.ki_NoBlock_NoBlock
    have ki_BadBlock := T.ki_NoBlock_BadBlock
    have ki_BadStop := T.ki_NoBlock_BadStop
    have ki_Stopped := T.ki_NoBlock_Stopped
    have ki_BadRow := T.ki_NoBlock_BadRow
    have ki_Full := T.ki_NoBlock_Full
    have ki_Empty := T.ki_NoBlock_Empty
    have ki_Gone := T.ki_NoBlock_Gone
    have ki_BadOrder := T.ki_NoBlock_BadOrder
    k_sweep
    rename_i q1 Hq hq9 _ _
    exact k q1 Hq (hq9.sub (M' := [(q1, _)]) (.cons₂ _ (List.nil_sublist _)))
  · obtain rfl : Z.BadBlock = D := by simpa [exs] using hD
    have hC := T.ec_BadBlock
    have ki_BadDisk := T.ki_BadBlock_BadDisk
    have ki_NoBlock := T.ki_BadBlock_NoBlock
    have ki_BadBlock := T.ki_BadBlock_BadBlock
    have ki_BadStop := T.ki_BadBlock_BadStop
    have ki_Stopped := T.ki_BadBlock_Stopped
    have ki_BadRow := T.ki_BadBlock_BadRow
    have ki_Full := T.ki_BadBlock_Full
    have ki_Empty := T.ki_BadBlock_Empty
    have ki_Gone := T.ki_BadBlock_Gone
    have ki_BadOrder := T.ki_BadBlock_BadOrder
    k_sweep
    rename_i q1 Hq hq9 _ _
    exact k q1 Hq (hq9.sub (M' := [(q1, _)]) (.cons₂ _ (List.nil_sublist _)))
  · obtain rfl : Z.BadStop = D := by simpa [exs] using hD
    have hC := T.ec_BadStop
    have ki_BadDisk := T.ki_BadStop_BadDisk
    have ki_NoBlock := T.ki_BadStop_NoBlock
    have ki_BadBlock := T.ki_BadStop_BadBlock
    have ki_BadStop := T.ki_BadStop_BadStop
    have ki_Stopped := T.ki_BadStop_Stopped
    have ki_BadRow := T.ki_BadStop_BadRow
    have ki_Full := T.ki_BadStop_Full
    have ki_Empty := T.ki_BadStop_Empty
    have ki_Gone := T.ki_BadStop_Gone
    have ki_BadOrder := T.ki_BadStop_BadOrder
    k_sweep
    rename_i q1 Hq hq9 _ _
    exact k q1 Hq (hq9.sub (M' := [(q1, _)]) (.cons₂ _ (List.nil_sublist _)))
  · obtain rfl : Z.Stopped = D := by simpa [exs] using hD
    have hC := T.ec_Stopped
    have ki_BadDisk := T.ki_Stopped_BadDisk
    have ki_NoBlock := T.ki_Stopped_NoBlock
    have ki_BadBlock := T.ki_Stopped_BadBlock
    have ki_BadStop := T.ki_Stopped_BadStop
    have ki_Stopped := T.ki_Stopped_Stopped
    have ki_BadRow := T.ki_Stopped_BadRow
    have ki_Full := T.ki_Stopped_Full
    have ki_Empty := T.ki_Stopped_Empty
    have ki_Gone := T.ki_Stopped_Gone
    have ki_BadOrder := T.ki_Stopped_BadOrder
    k_sweep
    rename_i q1 Hq hq9 _ _
    exact k q1 Hq (hq9.sub (M' := [(q1, _)]) (.cons₂ _ (List.nil_sublist _)))
  · obtain rfl : Z.BadRow = D := by simpa [exs] using hD
    have hC := T.ec_BadRow
    have ki_BadDisk := T.ki_BadRow_BadDisk
    have ki_NoBlock := T.ki_BadRow_NoBlock
    have ki_BadBlock := T.ki_BadRow_BadBlock
    have ki_BadStop := T.ki_BadRow_BadStop
    have ki_Stopped := T.ki_BadRow_Stopped
    have ki_BadRow := T.ki_BadRow_BadRow
    have ki_Full := T.ki_BadRow_Full
    have ki_Empty := T.ki_BadRow_Empty
    have ki_Gone := T.ki_BadRow_Gone
    have ki_BadOrder := T.ki_BadRow_BadOrder
    k_sweep
    rename_i q1 Hq hq9 _ _
    exact k q1 Hq (hq9.sub (M' := [(q1, _)]) (.cons₂ _ (List.nil_sublist _)))
  · obtain rfl : Z.Full = D := by simpa [exs] using hD
    have hC := T.ec_Full
    have ki_BadDisk := T.ki_Full_BadDisk
    have ki_NoBlock := T.ki_Full_NoBlock
    have ki_BadBlock := T.ki_Full_BadBlock
    have ki_BadStop := T.ki_Full_BadStop
    have ki_Stopped := T.ki_Full_Stopped
    have ki_BadRow := T.ki_Full_BadRow
    have ki_Full := T.ki_Full_Full
    have ki_Empty := T.ki_Full_Empty
    have ki_Gone := T.ki_Full_Gone
    have ki_BadOrder := T.ki_Full_BadOrder
    k_sweep
    rename_i q1 Hq hq9 _ _
    exact k q1 Hq (hq9.sub (M' := [(q1, _)]) (.cons₂ _ (List.nil_sublist _)))
  · obtain rfl : Z.Empty = D := by simpa [exs] using hD
    have hC := T.ec_Empty
    have ki_BadDisk := T.ki_Empty_BadDisk
    have ki_NoBlock := T.ki_Empty_NoBlock
    have ki_BadBlock := T.ki_Empty_BadBlock
    have ki_BadStop := T.ki_Empty_BadStop
    have ki_Stopped := T.ki_Empty_Stopped
    have ki_BadRow := T.ki_Empty_BadRow
    have ki_Full := T.ki_Empty_Full
    have ki_Empty := T.ki_Empty_Empty
    have ki_Gone := T.ki_Empty_Gone
    have ki_BadOrder := T.ki_Empty_BadOrder
    k_sweep
    rename_i q1 Hq hq9 _ _
    exact k q1 Hq (hq9.sub (M' := [(q1, _)]) (.cons₂ _ (List.nil_sublist _)))
  · obtain rfl : Z.Gone = D := by simpa [exs] using hD
    have hC := T.ec_Gone
    have ki_BadDisk := T.ki_Gone_BadDisk
    have ki_NoBlock := T.ki_Gone_NoBlock
    have ki_BadBlock := T.ki_Gone_BadBlock
    have ki_BadStop := T.ki_Gone_BadStop
    have ki_Stopped := T.ki_Gone_Stopped
    have ki_BadRow := T.ki_Gone_BadRow
    have ki_Full := T.ki_Gone_Full
    have ki_Empty := T.ki_Gone_Empty
    have ki_Gone := T.ki_Gone_Gone
    have ki_BadOrder := T.ki_Gone_BadOrder
    k_sweep
    rename_i q1 Hq hq9 _ _
    exact k q1 Hq (hq9.sub (M' := [(q1, _)]) (.cons₂ _ (List.nil_sublist _)))
  · obtain rfl : Z.BadOrder = D := by simpa [exs] using hD
    have hC := T.ec_BadOrder
    have ki_BadDisk := T.ki_BadOrder_BadDisk
    have ki_NoBlock := T.ki_BadOrder_NoBlock
    have ki_BadBlock := T.ki_BadOrder_BadBlock
    have ki_BadStop := T.ki_BadOrder_BadStop
    have ki_Stopped := T.ki_BadOrder_Stopped
    have ki_BadRow := T.ki_BadOrder_BadRow
    have ki_Full := T.ki_BadOrder_Full
    have ki_Empty := T.ki_BadOrder_Empty
    have ki_Gone := T.ki_BadOrder_Gone
    have ki_BadOrder := T.ki_BadOrder_BadOrder
    k_sweep
    rename_i q1 Hq hq9 _ _
    exact k q1 Hq (hq9.sub (M' := [(q1, _)]) (.cons₂ _ (List.nil_sublist _)))
theorem ok_law {f : Addr} {fd : FuncData} (F : Fun K "law" "law" st_law f fd) (T : Txt K mg Z) (D_law_of_disks : DefOk P w K mg base (L2N.CX P w) 8 "_law_of_disks" ["_law_row", "_law_which"] (sp_law_of_disks K Z)) (D_law_of_logs : DefOk P w K mg base (L2N.CX P w) 9 "_law_of_logs" ["_law_row", "_law_which"] (sp_law_of_logs K Z)) (DP_law_kinds : DefOkP P w K mg base 1 "_law_kinds" ["_law_e"] (sp_law_kinds K Z)) : FnOk P w K mg base CX0 10 f fd ["_law_script"] (sp_law K Z) := by
  have cl_Log := T.cl_Log
  have na_Log__cut := T.na_Log__cut
  have na_Log__disk := T.na_Log__disk
  have na_Log__gone := T.na_Log__gone
  have na_Log__number := T.na_Log__number
  have na_Log__rows := T.na_Log__rows
  have na_Log__torn := T.na_Log__torn
  have cl_Disk := T.cl_Disk
  have na_Disk__blocks := T.na_Disk__blocks
  have na_Disk__let := T.na_Disk__let
  have na_Disk__part := T.na_Disk__part
  have na_Disk__reads := T.na_Disk__reads
  have na_Disk__writes := T.na_Disk__writes
  refine F.ok sc_law (fun vs H Q E h => ?_) (fun cdv A outer s H vs Q E hr h => ?_)
  · obtain ⟨_, _, rfl, _⟩ := h
    rfl
  obtain ⟨sc, ns, rfl, hs0, hz, kq⟩ := h
  obtain ⟨S, hsc, hS0⟩ := ScrL.of hs0
  have hS := Hs.startI hS0
  refine ⟨_, (pss_cons (ps_set (i := 1) sc_law.nd rfl (Or.inl rfl) (pe_lst (pa_cons (pv 0) (pa_cons pe_int (pa_cons pe_int pa_nil)))))
      (pss_cons (ps_for PassesOwn.never rfl (pi_range1 rfl T.m_range (pa_cons pe_int pa_nil)) (pg_name (i := 2) sc_law.nd rfl (Or.inl rfl))
      (pss_one (ps_for PassesOwn.never rfl (pi_range1 rfl T.m_range (pa_cons pe_int pa_nil)) (pg_name (i := 3) sc_law.nd rfl (Or.inr rfl))
      (pss_cons (ps_set (i := 4) sc_law.nd rfl (Or.inl rfl) (pe_lst pa_nil))
      (pss_cons (L2N.ps_try_as (i := 5) rfl rfl sc_law.nd rfl rfl ⟨rfl, by decide, .inl T.g_LogError⟩ takesN (fun W pn xe tk _ => (pss_cons (ps_expr (pe_callDS D_law_of_disks hr (by rfl) (fun σ => L2N.passAt tk σ) (pa_cons (pv 1) (pa_cons (pv 3) pa_nil))))
      (pss_one (ps_expr (pe_callDS D_law_of_logs hr (by rfl) (fun σ => L2N.passAt tk σ) (pa_cons (pv 1) (pa_cons (pv 3) pa_nil))))))) (fun a oe cls d pn hz hf => (pss_one (ps_set (i := 4) sc_law.nd rfl (Or.inl rfl) (pe_op op_cat (pe_callDPs (a := a) (oe := oe) DP_law_kinds (roomS hr (by decide)) (hot1S hz hf) List.mem_cons_self hz.zc (by rfl) (pa_cons (pv 5) pa_nil)) (pe_lst (pa_cons (pe_callB (isPs (K := K) List.mem_cons_self hz.zc hf) (by rfl) T.m_isinstance (by decide +kernel) (pa_cons (pv 5) (pa_cons (pe_bltn (v := .ty "ValueError") (by rfl) T.m_ValueError (by decide +kernel) rfl) pa_nil))) pa_nil)))))))
      (pss_one (ps_if (pt_cmpR (op_neDK (K := K) hr.units) (pv 4) (pe_op op_cat (pe_lc (own := [("_law_k", 6)]) (g := gName 6) (by rfl) sc_law.nd (pi_range1 rfl T.m_range (pa_cons pe_int pa_nil)) (blkOk_by (N := ["_law_script", "_law_row", "_law_turn", "_law_which", "_law_found", "_law_e", "_law_k"]) (sc := defScope st_law) (by decide +kernel)) (fun _ _ _ _ _ => pg_name (i := 6) sc_law.nd rfl (Or.inl rfl)) (fun _ _ _ _ _ => pts_nil) (fun _ _ _ _ _ => (pe_cmpR op_eq (pv 6) (pv 3) (nomark _)))) (pe_lst (pa_cons pe_bl pa_nil))) (nomark _)) (pss_one (ps_ret pe_bl)) pss_nil)))))))
      (pss_one (ps_ret pe_bl)))), ?_⟩
  refine s_start (by simp only [L2.start, List.map_cons, List.map_nil, List.length_cons, List.length_nil, Nat.reduceAdd, Nat.reduceSub, List.replicate, List.cons_append, List.nil_append]; rfl) ?_
  k_node
  rename_i r H1 hS1 _ _
  have ro1 : RowO sc (.lst [.ref sc, .int 0, .int 0]) := ⟨0, 0, Int.le_refl 0, rfl⟩
  k_node
  have hex : ∀ (j : Nat) (C : Addr), (exs Z)[j]? = some C → PySem.W.exmOne K (.ref C) (.ref Z.LogError) = some true ∧ PySem.W.kitOne K (.ref C) (.type "ValueError") = some true ∧ ExcC K C := fun j C hC => by
    have hm := List.mem_of_getElem? hC
    simp only [exs, List.mem_cons, List.not_mem_nil, or_false] at hm
    rcases hm with rfl | rfl | rfl | rfl | rfl | rfl | rfl | rfl | rfl | rfl
    · exact ⟨T.e_BadDisk_LogError, T.kv_BadDisk, T.ec_BadDisk⟩
    · exact ⟨T.e_NoBlock_LogError, T.kv_NoBlock, T.ec_NoBlock⟩
    · exact ⟨T.e_BadBlock_LogError, T.kv_BadBlock, T.ec_BadBlock⟩
    · exact ⟨T.e_BadStop_LogError, T.kv_BadStop, T.ec_BadStop⟩
    · exact ⟨T.e_Stopped_LogError, T.kv_Stopped, T.ec_Stopped⟩
    · exact ⟨T.e_BadRow_LogError, T.kv_BadRow, T.ec_BadRow⟩
    · exact ⟨T.e_Full_LogError, T.kv_Full, T.ec_Full⟩
    · exact ⟨T.e_Empty_LogError, T.kv_Empty, T.ec_Empty⟩
    · exact ⟨T.e_Gone_LogError, T.kv_Gone, T.ec_Gone⟩
    · exact ⟨T.e_BadOrder_LogError, T.kv_BadOrder, T.ec_BadOrder⟩
  refine f_range (fun i σ H' => ∃ (o' : HO) (x2 x3 x4 x5 x6 : Option V), σ = [some (.ref sc), some (.ref r), x2, x3, x4, x5, x6] ∧ RowO sc o' ∧ Hs [] H H' [(r, o')] S) ⟨_, _, _, _, _, _, rfl, ro1, hS1⟩ ?_ ?_
  · rintro i σ H2 hi ⟨o2, x2, x3, x4, x5, x6, rfl, ro2, hS2⟩
    k_spoken
    refine f_range (fun j σ H' => ∃ (o' : HO) (x2 x3 x4 x5 x6 : Option V), σ = [some (.ref sc), some (.ref r), x2, x3, x4, x5, x6] ∧ RowO sc o' ∧ Hs [] H H' [(r, o')] S) ⟨_, _, _, _, _, _, rfl, ro2, hS2⟩ ?_ ?_
    · clear hS2 ro2
      rintro j σ H3 hj ⟨o3, y2, y3, y4, y5, y6, rfl, ro3, hS3⟩
      have hj : j < 10 := hj
      k_spoken
      k_node
      rename_i q H4 hS4 _ _
      refine s_seq ?_
      show tSeq _ _ _ _ _
      k_node
      rw [Int.zero_add]
      refine ⟨r, sc, o3, ns, S, j, rfl, hj, hS4.row (.tail _ (.head _)), ro3, hsc, fun o5 H5 ro5 u5 e5 => ⟨fun hof C hC => ?_, fun hof => ?_⟩⟩
      · have hS5 := hS4.call1 u5 e5 (.there .here)
        refine ⟨true, (hex j C hC).1, fun _ a na => ?_, fun h => nomatch h⟩
        have hkv := (hex j C hC).2.1
        have hec := (hex j C hC).2.2
        clear hS4 hS3
        k_spoken
        simp only [List.set_cons_succ, List.set_cons_zero]
        show tCons (tVar 5) tNil _ _ _
        k_spoken
        refine ⟨C, rfl, rfl, j, hj, hC, rfl, fun t H7 f => ?_⟩
        have hS7 : Hs [] H H7 ((t, .lst ((List.range 10).map fun k => V.bl (decide (k = j)))) :: [(q, .lst []), (r, o5)]) S := f.frame0 hS5
        clear f
        obtain ⟨kl, hkl⟩ : ∃ kl : List V, ((List.range 10).map fun k => V.bl (decide (k = j))) = kl := ⟨_, rfl⟩
        rw [hkl] at hS7
        have hkll : kl.length = 10 := by rw [← hkl]; simp
        k_spoken
        simp only [List.set_cons_succ, List.set_cons_zero]
        k_spoken
        rename_i p1 H8 hS8 _ _ p2 H9 hS9 _ _
        clear hS8 hS7
        refine f_lcR fun Dn hD => ⟨fun i H' => Hs [] H H' ((Dn, .lst ((List.range i).map fun k => V.bl (decide (k = j)))) :: [(p2, HO.lst (kl ++ [V.bl true])), (p1, HO.lst [V.bl true]), (t, HO.lst kl), (q, HO.lst []), (r, o5)]) S, hS9.new hD _, ?_, ?_⟩
        · intro i H10 hi hS10
          have hi : i < 10 := hi
          have hrl : ((List.range i).map fun k => V.bl (decide (k = j))).length = i := by simp
          have hsn : ((List.range (i + 1)).map fun k => V.bl (decide (k = j))) = ((List.range i).map fun k => V.bl (decide (k = j))) ++ [V.bl (decide ((0 : Int) + i = j))] := by
            rw [List.range_succ, List.map_append]
            congr 1
            show [V.bl (decide (i = j))] = _
            by_cases c : i = j
            · rw [decide_eq_true c, decide_eq_true (by omega)]
            · rw [decide_eq_false c, decide_eq_false (by omega)]
          k_spoken
          rename_i H11 hS11 _
          show Hs _ _ _ _ _
          rw [hsn]
          exact hS11
        · intro H10 hS10
          have hS10 : Hs [] H H10 ((Dn, .lst ((List.range 10).map fun k => V.bl (decide (k = j)))) :: [(p2, HO.lst (kl ++ [V.bl true])), (p1, HO.lst [V.bl true]), (t, HO.lst kl), (q, HO.lst []), (r, o5)]) S := hS10
          rw [hkl] at hS10
          clear hS9
          k_spoken
          rename_i p3 H11 hS11 _ _ p4 H12 hS12 _ _
          have hb : kl ++ [V.bl true] = (((List.range 10).map fun k => decide (k = j)) ++ [true]).map V.bl := by
            rw [List.map_append, List.map_map, ← hkl]
            rfl
          have f1 : SqL K H12 p2 ((((List.range 10).map fun k => decide (k = j)) ++ [true]).map V.bl) := by
            rw [← hb]
            exact SqL.of (hS12.getM (by k_data))
          have f2 : SqL K H12 p4 ((((List.range 10).map fun k => decide (k = j)) ++ [true]).map V.bl) := by
            rw [← hb]
            exact SqL.of (hS12.getM (by k_data))
          refine s_neDD (.lst f1 (dp_bools _)) (.lst f2 (dp_bools _)) (Sh.bools _ (by simp)) (lay_bools _) (by decide) ?_
          k_spoken
          exact ⟨_, _, _, _, _, _, rfl, ro5, hS12.sub (by k_drop)⟩
      · have hS5 := hS4.call1 u5 e5 (.there .here)
        clear hS4 hS3
        k_spoken
        have hj5 : 5 ≤ j ∧ j ≤ 8 := by
          have : j = 0 ∨ j = 1 ∨ j = 2 ∨ j = 3 ∨ j = 4 ∨ j = 5 ∨ j = 6 ∨ j = 7 ∨ j = 8 ∨ j = 9 := by omega
          rcases this with rfl | rfl | rfl | rfl | rfl | rfl | rfl | rfl | rfl | rfl <;> first | (exact absurd hof (by decide)) | decide
        obtain ⟨C, hC⟩ : ∃ C, (exs Z)[j]? = some C := ⟨_, List.getElem?_eq_getElem (show j < (exs Z).length from hj)⟩
        refine ⟨r, sc, o5, ns, S, j, rfl, hj5.1, hj5.2, hS5.row (.tail _ (.head _)), ro5, hsc, fun o6 H6 ro6 u6 e6 C' hC' => ?_⟩
        obtain rfl : C = C' := Option.some.inj (hC.symm.trans hC')
        have hS6 := hS5.call1 u6 e6 (.there .here)
        refine ⟨true, (hex j C hC).1, fun _ a na => ?_, fun h => nomatch h⟩
        have hkv := (hex j C hC).2.1
        have hec := (hex j C hC).2.2
        clear hS5
        k_spoken
        simp only [List.set_cons_succ, List.set_cons_zero]
        show tCons (tVar 5) tNil _ _ _
        k_spoken
        refine ⟨C, rfl, rfl, j, hj, hC, rfl, fun t H7 f => ?_⟩
        have hS7 : Hs [] H H7 ((t, .lst ((List.range 10).map fun k => V.bl (decide (k = j)))) :: [(q, .lst []), (r, o6)]) S := f.frame0 hS6
        clear f
        obtain ⟨kl, hkl⟩ : ∃ kl : List V, ((List.range 10).map fun k => V.bl (decide (k = j))) = kl := ⟨_, rfl⟩
        rw [hkl] at hS7
        have hkll : kl.length = 10 := by rw [← hkl]; simp
        k_spoken
        simp only [List.set_cons_succ, List.set_cons_zero]
        k_spoken
        rename_i p1 H8 hS8 _ _ p2 H9 hS9 _ _
        clear hS8 hS7
        refine f_lcR fun Dn hD => ⟨fun i H' => Hs [] H H' ((Dn, .lst ((List.range i).map fun k => V.bl (decide (k = j)))) :: [(p2, HO.lst (kl ++ [V.bl true])), (p1, HO.lst [V.bl true]), (t, HO.lst kl), (q, HO.lst []), (r, o6)]) S, hS9.new hD _, ?_, ?_⟩
        · intro i H10 hi hS10
          have hi : i < 10 := hi
          have hrl : ((List.range i).map fun k => V.bl (decide (k = j))).length = i := by simp
          have hsn : ((List.range (i + 1)).map fun k => V.bl (decide (k = j))) = ((List.range i).map fun k => V.bl (decide (k = j))) ++ [V.bl (decide ((0 : Int) + i = j))] := by
            rw [List.range_succ, List.map_append]
            congr 1
            show [V.bl (decide (i = j))] = _
            by_cases c : i = j
            · rw [decide_eq_true c, decide_eq_true (by omega)]
            · rw [decide_eq_false c, decide_eq_false (by omega)]
          k_spoken
          rename_i H11 hS11 _
          show Hs _ _ _ _ _
          rw [hsn]
          exact hS11
        · intro H10 hS10
          have hS10 : Hs [] H H10 ((Dn, .lst ((List.range 10).map fun k => V.bl (decide (k = j)))) :: [(p2, HO.lst (kl ++ [V.bl true])), (p1, HO.lst [V.bl true]), (t, HO.lst kl), (q, HO.lst []), (r, o6)]) S := hS10
          rw [hkl] at hS10
          clear hS9
          k_spoken
          rename_i p3 H11 hS11 _ _ p4 H12 hS12 _ _
          have hb : kl ++ [V.bl true] = (((List.range 10).map fun k => decide (k = j)) ++ [true]).map V.bl := by
            rw [List.map_append, List.map_map, ← hkl]
            rfl
          have f1 : SqL K H12 p2 ((((List.range 10).map fun k => decide (k = j)) ++ [true]).map V.bl) := by
            rw [← hb]
            exact SqL.of (hS12.getM (by k_data))
          have f2 : SqL K H12 p4 ((((List.range 10).map fun k => decide (k = j)) ++ [true]).map V.bl) := by
            rw [← hb]
            exact SqL.of (hS12.getM (by k_data))
          refine s_neDD (.lst f1 (dp_bools _)) (.lst f2 (dp_bools _)) (Sh.bools _ (by simp)) (lay_bools _) (by decide) ?_
          k_spoken
          exact ⟨_, _, _, _, _, _, rfl, ro6, hS12.sub (by k_drop)⟩
    · rintro σ H3 ⟨o3, y2, y3, y4, y5, y6, rfl, ro3, hS3⟩
      exact ⟨_, _, _, _, _, _, rfl, ro3, hS3⟩
  · rintro σ H3 ⟨o3, y2, y3, y4, y5, y6, rfl, ro3, hS3⟩
    k_spoken
    exact kq _
end
theorem exm_of {K : PySem.W.Frag} {A B : Addr} {b : Bool} (h1 : PySem.W.subIn K (.ref B) (.type "BaseException") = some true) (h2 : PySem.W.isClsIn K B = true) (h3 : PySem.W.typeIn K (.ref B) = some (.type "type")) (h4 : PySem.W.subIn K (.ref A) (.ref B) = some b) :
    PySem.W.exmOne K (.ref A) (.ref B) = some b := by
  have e1 : (PySem.W.subIn K (.ref B) (.type "BaseException") == some true) = true := by rw [h1] <;> rfl
  have e2 : ((PySem.W.clsIn K B).isSome && PySem.W.typeIn K (.ref B) == some (.type "type")) = true := by
    have h2' : (PySem.W.clsIn K B).isSome = true := h2
    rw [h2', h3] <;> rfl
  show (if (PySem.W.subIn K (.ref B) (.type "BaseException") == some true) = true then (if ((PySem.W.clsIn K B).isSome && PySem.W.typeIn K (.ref B) == some (.type "type")) = true then PySem.W.subIn K (.ref A) (.ref B) else none) else none) = some b
  rw [if_pos e1, if_pos e2]
  exact h4
theorem kit_of {K : PySem.W.Frag} {A B : Addr} {b : Bool} (h2 : PySem.W.isClsIn K B = true) (h3 : PySem.W.typeIn K (.ref B) = some (.type "type")) (h4 : PySem.W.subIn K (.ref A) (.ref B) = some b) (hb : b = true ∨ (A == B) = false) : PySem.W.kitOne K (.ref A) (.ref B) = some b := by
  have e2 : ((PySem.W.clsIn K B).isSome && PySem.W.typeIn K (.ref B) == some (.type "type")) = true := by
    have h2' : (PySem.W.clsIn K B).isSome = true := h2
    rw [h2', h3] <;> rfl
  unfold PySem.W.kitOne
  by_cases c : (Value.ref A == Value.ref B) = true
  · rw [if_pos c]
    rcases hb with hb | hb
    · rw [hb]
    · have e : Value.ref A = Value.ref B := by simpa using c
      rw [Value.ref.inj e] at hb
      simp at hb
  · rw [if_neg c]
    show (if ((PySem.W.clsIn K B).isSome && PySem.W.typeIn K (.ref B) == some (.type "type")) = true then PySem.W.subIn K (.ref A) (.ref B) else none) = some b
    rw [if_pos e2]
    exact h4
theorem kit_ofT {K : PySem.W.Frag} {A : Addr} {T : String} (hm : PySem.W.kitMeta T = true) (h4 : PySem.W.subIn K (.ref A) (.type T) = some true) : PySem.W.kitOne K (.ref A) (.type T) = some true := by
  unfold PySem.W.kitOne
  rw [if_neg (by simp)]
  show (if PySem.W.kitMeta T = true then PySem.W.subIn K (.ref A) (.type T) else none) = some true
  rw [if_pos hm]
  exact h4
def Z0 : Ad := ⟨(), 0, 0, 0, 0, 0, 0, 0, 0, 0, 0, 0, 0, 0⟩
theorem all_mk {l : PySem.W.OpenLaw} {w : World} {K : PySem.W.Frag} {h : Heap} {mg : Str → Option Value} {fa f0 f1 f2 f3 f4 f5 f6 f7 f8 f9 f10 f11 f12 f13 f14 f15 f16 f17 f18 f19 f20 f21 f22 f23 f24 f25 f26 f27 f28 f29 f30 f31 f32 f33 f34 f35 f36 f37 f38 f39 f40 f41 f42 f43 f44 f45 f46 f47 f48 f49 f50 f51 f52 f53 f54 C_Log C_Disk C_BadBlock C_BadDisk C_BadOrder C_BadRow C_BadStop C_Empty C_Full C_Gone C_LogError C_NoBlock C_Stopped : Addr} (X : K.In h) (G : h.Ns mainGlobals mg) (hfa : mg "law" = some (.ref fa)) {od0 an0 od1 an1 od2 an2 od3 an3 od4 an4 od5 an5 od6 an6 od7 an7 od8 an8 od9 an9 od10 an10 od11 an11 od12 an12 od13 an13 od14 an14 od15 an15 od16 an16 od17 an17 od18 an18 od19 an19 od20 an20 od21 an21 od22 an22 od23 an23 od24 an24 od25 an25 od26 an26 od27 an27 od28 an28 od29 an29 od30 an30 od31 an31 od32 an32 od33 an33 od34 an34 od35 an35 od36 an36 od37 an37 od38 an38 od39 an39 od40 an40 od41 an41 od42 an42 od43 an43 od44 an44 od45 an45 od46 an46 od47 an47 od48 an48 od49 an49 od50 an50 od51 an51 od52 an52 od53 an53 od54 an54 : Option Addr} {sl0 sl1 sl2 sl3 sl4 sl5 sl6 sl7 sl8 sl9 sl10 sl11 sl12 sl13 sl14 sl15 sl16 sl17 sl18 sl19 sl20 sl21 sl22 sl23 sl24 sl25 sl26 sl27 sl28 sl29 sl30 sl31 sl32 sl33 sl34 sl35 sl36 sl37 sl38 sl39 sl40 sl41 sl42 sl43 sl44 sl45 sl46 sl47 sl48 sl49 sl50 sl51 sl52 sl53 sl54 : Array (Option Value)} {oc0 kV0 dc0 pm0 cd0 ct0 oc1 kV1 dc1 pm1 cd1 ct1 oc2 kV2 dc2 pm2 cd2 ct2 oc3 kV3 dc3 pm3 cd3 ct3 oc4 kV4 dc4 pm4 cd4 ct4 oc5 kV5 dc5 pm5 cd5 ct5 oc6 kV6 dc6 pm6 cd6 ct6 oc7 kV7 dc7 pm7 cd7 ct7 oc8 kV8 dc8 pm8 cd8 ct8 oc9 kV9 dc9 pm9 cd9 ct9 oc10 kV10 dc10 pm10 cd10 ct10 oc11 kV11 dc11 pm11 cd11 ct11 oc12 kV12 dc12 pm12 cd12 ct12 oc13 kV13 dc13 pm13 cd13 ct13 oc14 kV14 dc14 pm14 cd14 ct14 oc15 kV15 dc15 pm15 cd15 ct15 oc16 kV16 dc16 pm16 cd16 ct16 oc17 kV17 dc17 pm17 cd17 ct17 oc18 kV18 dc18 pm18 cd18 ct18 oc19 kV19 dc19 pm19 cd19 ct19 oc20 kV20 dc20 pm20 cd20 ct20 oc21 kV21 dc21 pm21 cd21 ct21 oc22 kV22 dc22 pm22 cd22 ct22 oc23 kV23 dc23 pm23 cd23 ct23 oc24 kV24 dc24 pm24 cd24 ct24 oc25 kV25 dc25 pm25 cd25 ct25 oc26 kV26 dc26 pm26 cd26 ct26 oc27 kV27 dc27 pm27 cd27 ct27 oc28 kV28 dc28 pm28 cd28 ct28 oc29 kV29 dc29 pm29 cd29 ct29 oc30 kV30 dc30 pm30 cd30 ct30 oc31 kV31 dc31 pm31 cd31 ct31 oc32 kV32 dc32 pm32 cd32 ct32 oc33 kV33 dc33 pm33 cd33 ct33 oc34 kV34 dc34 pm34 cd34 ct34 oc35 kV35 dc35 pm35 cd35 ct35 oc36 kV36 dc36 pm36 cd36 ct36 oc37 kV37 dc37 pm37 cd37 ct37 oc38 kV38 dc38 pm38 cd38 ct38 oc39 kV39 dc39 pm39 cd39 ct39 oc40 kV40 dc40 pm40 cd40 ct40 oc41 kV41 dc41 pm41 cd41 ct41 oc42 kV42 dc42 pm42 cd42 ct42 oc43 kV43 dc43 pm43 cd43 ct43 oc44 kV44 dc44 pm44 cd44 ct44 oc45 kV45 dc45 pm45 cd45 ct45 oc46 kV46 dc46 pm46 cd46 ct46 oc47 kV47 dc47 pm47 cd47 ct47 oc48 kV48 dc48 pm48 cd48 ct48 oc49 kV49 dc49 pm49 cd49 ct49 oc50 kV50 dc50 pm50 cd50 ct50 oc51 kV51 dc51 pm51 cd51 ct51 oc52 kV52 dc52 pm52 cd52 ct52 oc53 kV53 dc53 pm53 cd53 ct53 oc54 kV54 dc54 pm54 cd54 ct54 : Value} {t_PIECE_WORDS t_NUMBER t_FLOOR t_BEGIN t_LEFT t_DATA_FROM t_DATA_TO t_NO_BEGIN t_LEFT_OF_MARK t_LEFT_OF_FAREWELL t_MOST_WORDS t_MOST_WORD_OF_ROW t_LEAST_BLOCKS t_MOST_BLOCKS t_BLOCK_WORDS t_MOST_WORD t_MOST_COUNT t_MOST_PART u_BARE_ORDERS_0 u_BARE_ORDERS_1 u_BARE_ORDERS_2 u_BARE_ORDERS_3 : Tok} {ua_BARE_ORDERS : Addr} {ud_BARE_ORDERS : Option Addr} {un_BARE_ORDERS : Nat} {us_BARE_ORDERS : Array (Option Value)}
    (aC_Log : PySem.W.nsIn K mainGlobals "Log" = some (some (.ref C_Log)))
    (aC_Disk : PySem.W.nsIn K mainGlobals "Disk" = some (some (.ref C_Disk)))
    (aC_BadBlock : PySem.W.nsIn K mainGlobals "BadBlock" = some (some (.ref C_BadBlock)))
    (aC_BadDisk : PySem.W.nsIn K mainGlobals "BadDisk" = some (some (.ref C_BadDisk)))
    (aC_BadOrder : PySem.W.nsIn K mainGlobals "BadOrder" = some (some (.ref C_BadOrder)))
    (aC_BadRow : PySem.W.nsIn K mainGlobals "BadRow" = some (some (.ref C_BadRow)))
    (aC_BadStop : PySem.W.nsIn K mainGlobals "BadStop" = some (some (.ref C_BadStop)))
    (aC_Empty : PySem.W.nsIn K mainGlobals "Empty" = some (some (.ref C_Empty)))
    (aC_Full : PySem.W.nsIn K mainGlobals "Full" = some (some (.ref C_Full)))
    (aC_Gone : PySem.W.nsIn K mainGlobals "Gone" = some (some (.ref C_Gone)))
    (aC_LogError : PySem.W.nsIn K mainGlobals "LogError" = some (some (.ref C_LogError)))
    (aC_NoBlock : PySem.W.nsIn K mainGlobals "NoBlock" = some (some (.ref C_NoBlock)))
    (aC_Stopped : PySem.W.nsIn K mainGlobals "Stopped" = some (some (.ref C_Stopped)))
    (pg_Log : PySem.W.plainGet K C_Log Str.empty = true)
    (hd_Log : PySem.W.hasDictIn K C_Log = true)
    (po_Log : PySem.W.plainOver K C_Log = true)
    (sa_Log : PySem.W.findIn K (.ref C_Log) "__setattr__" = some (some (.builtin "object.__setattr__")))
    (mk_Log : PySem.W.makesIn K C_Log = true)
    (kc_Log : PySem.W.keepIn K (.ref C_Log) = true)
    (na_Log__cut : PySem.W.findIn K (.ref C_Log) "_cut" = some none)
    (na_Log__disk : PySem.W.findIn K (.ref C_Log) "_disk" = some none)
    (na_Log__gone : PySem.W.findIn K (.ref C_Log) "_gone" = some none)
    (na_Log__number : PySem.W.findIn K (.ref C_Log) "_number" = some none)
    (na_Log__rows : PySem.W.findIn K (.ref C_Log) "_rows" = some none)
    (na_Log__torn : PySem.W.findIn K (.ref C_Log) "_torn" = some none)
    (pg_Disk : PySem.W.plainGet K C_Disk Str.empty = true)
    (hd_Disk : PySem.W.hasDictIn K C_Disk = true)
    (po_Disk : PySem.W.plainOver K C_Disk = true)
    (sa_Disk : PySem.W.findIn K (.ref C_Disk) "__setattr__" = some (some (.builtin "object.__setattr__")))
    (mk_Disk : PySem.W.makesIn K C_Disk = true)
    (kc_Disk : PySem.W.keepIn K (.ref C_Disk) = true)
    (na_Disk__blocks : PySem.W.findIn K (.ref C_Disk) "_blocks" = some none)
    (na_Disk__let : PySem.W.findIn K (.ref C_Disk) "_let" = some none)
    (na_Disk__part : PySem.W.findIn K (.ref C_Disk) "_part" = some none)
    (na_Disk__reads : PySem.W.findIn K (.ref C_Disk) "_reads" = some none)
    (na_Disk__writes : PySem.W.findIn K (.ref C_Disk) "_writes" = some none)
    (x_BadBlock : PySem.W.excIn K C_BadBlock [.type "ValueError", .type "Exception", .type "BaseException", .type "object"] "ValueError.__new__" = true)
    (kp_BadBlock : PySem.W.keepIn K (.ref C_BadBlock) = true)
    (sb_BadBlock : PySem.W.subIn K (.ref C_BadBlock) (.type "BaseException") = some true)
    (ty_BadBlock : PySem.W.typeIn K (.ref C_BadBlock) = some (.type "type"))
    (ic_BadBlock : PySem.W.isClsIn K C_BadBlock = true)
    (x_BadDisk : PySem.W.excIn K C_BadDisk [.type "ValueError", .type "Exception", .type "BaseException", .type "object"] "ValueError.__new__" = true)
    (kp_BadDisk : PySem.W.keepIn K (.ref C_BadDisk) = true)
    (sb_BadDisk : PySem.W.subIn K (.ref C_BadDisk) (.type "BaseException") = some true)
    (ty_BadDisk : PySem.W.typeIn K (.ref C_BadDisk) = some (.type "type"))
    (ic_BadDisk : PySem.W.isClsIn K C_BadDisk = true)
    (x_BadOrder : PySem.W.excIn K C_BadOrder [.type "ValueError", .type "Exception", .type "BaseException", .type "object"] "ValueError.__new__" = true)
    (kp_BadOrder : PySem.W.keepIn K (.ref C_BadOrder) = true)
    (sb_BadOrder : PySem.W.subIn K (.ref C_BadOrder) (.type "BaseException") = some true)
    (ty_BadOrder : PySem.W.typeIn K (.ref C_BadOrder) = some (.type "type"))
    (ic_BadOrder : PySem.W.isClsIn K C_BadOrder = true)
    (x_BadRow : PySem.W.excIn K C_BadRow [.type "ValueError", .type "Exception", .type "BaseException", .type "object"] "ValueError.__new__" = true)
    (kp_BadRow : PySem.W.keepIn K (.ref C_BadRow) = true)
    (sb_BadRow : PySem.W.subIn K (.ref C_BadRow) (.type "BaseException") = some true)
    (ty_BadRow : PySem.W.typeIn K (.ref C_BadRow) = some (.type "type"))
    (ic_BadRow : PySem.W.isClsIn K C_BadRow = true)
    (x_BadStop : PySem.W.excIn K C_BadStop [.type "ValueError", .type "Exception", .type "BaseException", .type "object"] "ValueError.__new__" = true)
    (kp_BadStop : PySem.W.keepIn K (.ref C_BadStop) = true)
    (sb_BadStop : PySem.W.subIn K (.ref C_BadStop) (.type "BaseException") = some true)
    (ty_BadStop : PySem.W.typeIn K (.ref C_BadStop) = some (.type "type"))
    (ic_BadStop : PySem.W.isClsIn K C_BadStop = true)
    (x_Empty : PySem.W.excIn K C_Empty [.type "ValueError", .type "Exception", .type "BaseException", .type "object"] "ValueError.__new__" = true)
    (kp_Empty : PySem.W.keepIn K (.ref C_Empty) = true)
    (sb_Empty : PySem.W.subIn K (.ref C_Empty) (.type "BaseException") = some true)
    (ty_Empty : PySem.W.typeIn K (.ref C_Empty) = some (.type "type"))
    (ic_Empty : PySem.W.isClsIn K C_Empty = true)
    (x_Full : PySem.W.excIn K C_Full [.type "ValueError", .type "Exception", .type "BaseException", .type "object"] "ValueError.__new__" = true)
    (kp_Full : PySem.W.keepIn K (.ref C_Full) = true)
    (sb_Full : PySem.W.subIn K (.ref C_Full) (.type "BaseException") = some true)
    (ty_Full : PySem.W.typeIn K (.ref C_Full) = some (.type "type"))
    (ic_Full : PySem.W.isClsIn K C_Full = true)
    (x_Gone : PySem.W.excIn K C_Gone [.type "ValueError", .type "Exception", .type "BaseException", .type "object"] "ValueError.__new__" = true)
    (kp_Gone : PySem.W.keepIn K (.ref C_Gone) = true)
    (sb_Gone : PySem.W.subIn K (.ref C_Gone) (.type "BaseException") = some true)
    (ty_Gone : PySem.W.typeIn K (.ref C_Gone) = some (.type "type"))
    (ic_Gone : PySem.W.isClsIn K C_Gone = true)
    (x_LogError : PySem.W.excIn K C_LogError [.type "ValueError", .type "Exception", .type "BaseException", .type "object"] "ValueError.__new__" = true)
    (kp_LogError : PySem.W.keepIn K (.ref C_LogError) = true)
    (sb_LogError : PySem.W.subIn K (.ref C_LogError) (.type "BaseException") = some true)
    (ty_LogError : PySem.W.typeIn K (.ref C_LogError) = some (.type "type"))
    (ic_LogError : PySem.W.isClsIn K C_LogError = true)
    (x_NoBlock : PySem.W.excIn K C_NoBlock [.type "ValueError", .type "Exception", .type "BaseException", .type "object"] "ValueError.__new__" = true)
    (kp_NoBlock : PySem.W.keepIn K (.ref C_NoBlock) = true)
    (sb_NoBlock : PySem.W.subIn K (.ref C_NoBlock) (.type "BaseException") = some true)
    (ty_NoBlock : PySem.W.typeIn K (.ref C_NoBlock) = some (.type "type"))
    (ic_NoBlock : PySem.W.isClsIn K C_NoBlock = true)
    (x_Stopped : PySem.W.excIn K C_Stopped [.type "ValueError", .type "Exception", .type "BaseException", .type "object"] "ValueError.__new__" = true)
    (kp_Stopped : PySem.W.keepIn K (.ref C_Stopped) = true)
    (sb_Stopped : PySem.W.subIn K (.ref C_Stopped) (.type "BaseException") = some true)
    (ty_Stopped : PySem.W.typeIn K (.ref C_Stopped) = some (.type "type"))
    (ic_Stopped : PySem.W.isClsIn K C_Stopped = true)
    (yn : PySem.W.specialIn K (.builtin "object.__class__") "__get__" = some (some (.builtin "getset_descriptor.__get__")))
    (yt : PySem.W.takesIn K (.builtin "object.__class__") = some true)
    (yg_BadBlock : PySem.W.findIn K (.ref C_BadBlock) "__getattribute__" = some (some (.builtin "BaseException.__getattribute__")))
    (yk_BadBlock : PySem.W.findIn K (.ref C_BadBlock) "__getattr__" = some none)
    (yd_BadBlock : PySem.W.hasDictIn K C_BadBlock = true)
    (ya_BadBlock : PySem.W.findIn K (.ref C_BadBlock) "__class__" = some (some (.builtin "object.__class__")))
    (ym_BadBlock : PySem.W.mroIn K C_BadBlock (.type "object") = some true)
    (sv_BadBlock : PySem.W.subIn K (.ref C_BadBlock) (.type "ValueError") = some true)
    (si_BadBlock_BadBlock : PySem.W.subIn K (.ref C_BadBlock) (.ref C_BadBlock) = some true)
    (si_BadBlock_BadDisk : PySem.W.subIn K (.ref C_BadBlock) (.ref C_BadDisk) = some false)
    (nq_BadBlock_BadDisk : (C_BadBlock == C_BadDisk) = false)
    (si_BadBlock_BadOrder : PySem.W.subIn K (.ref C_BadBlock) (.ref C_BadOrder) = some false)
    (nq_BadBlock_BadOrder : (C_BadBlock == C_BadOrder) = false)
    (si_BadBlock_BadRow : PySem.W.subIn K (.ref C_BadBlock) (.ref C_BadRow) = some false)
    (nq_BadBlock_BadRow : (C_BadBlock == C_BadRow) = false)
    (si_BadBlock_BadStop : PySem.W.subIn K (.ref C_BadBlock) (.ref C_BadStop) = some false)
    (nq_BadBlock_BadStop : (C_BadBlock == C_BadStop) = false)
    (si_BadBlock_Empty : PySem.W.subIn K (.ref C_BadBlock) (.ref C_Empty) = some false)
    (nq_BadBlock_Empty : (C_BadBlock == C_Empty) = false)
    (si_BadBlock_Full : PySem.W.subIn K (.ref C_BadBlock) (.ref C_Full) = some false)
    (nq_BadBlock_Full : (C_BadBlock == C_Full) = false)
    (si_BadBlock_Gone : PySem.W.subIn K (.ref C_BadBlock) (.ref C_Gone) = some false)
    (nq_BadBlock_Gone : (C_BadBlock == C_Gone) = false)
    (si_BadBlock_NoBlock : PySem.W.subIn K (.ref C_BadBlock) (.ref C_NoBlock) = some false)
    (nq_BadBlock_NoBlock : (C_BadBlock == C_NoBlock) = false)
    (si_BadBlock_Stopped : PySem.W.subIn K (.ref C_BadBlock) (.ref C_Stopped) = some false)
    (nq_BadBlock_Stopped : (C_BadBlock == C_Stopped) = false)
    (yg_BadDisk : PySem.W.findIn K (.ref C_BadDisk) "__getattribute__" = some (some (.builtin "BaseException.__getattribute__")))
    (yk_BadDisk : PySem.W.findIn K (.ref C_BadDisk) "__getattr__" = some none)
    (yd_BadDisk : PySem.W.hasDictIn K C_BadDisk = true)
    (ya_BadDisk : PySem.W.findIn K (.ref C_BadDisk) "__class__" = some (some (.builtin "object.__class__")))
    (ym_BadDisk : PySem.W.mroIn K C_BadDisk (.type "object") = some true)
    (sv_BadDisk : PySem.W.subIn K (.ref C_BadDisk) (.type "ValueError") = some true)
    (si_BadDisk_BadBlock : PySem.W.subIn K (.ref C_BadDisk) (.ref C_BadBlock) = some false)
    (nq_BadDisk_BadBlock : (C_BadDisk == C_BadBlock) = false)
    (si_BadDisk_BadDisk : PySem.W.subIn K (.ref C_BadDisk) (.ref C_BadDisk) = some true)
    (si_BadDisk_BadOrder : PySem.W.subIn K (.ref C_BadDisk) (.ref C_BadOrder) = some false)
    (nq_BadDisk_BadOrder : (C_BadDisk == C_BadOrder) = false)
    (si_BadDisk_BadRow : PySem.W.subIn K (.ref C_BadDisk) (.ref C_BadRow) = some false)
    (nq_BadDisk_BadRow : (C_BadDisk == C_BadRow) = false)
    (si_BadDisk_BadStop : PySem.W.subIn K (.ref C_BadDisk) (.ref C_BadStop) = some false)
    (nq_BadDisk_BadStop : (C_BadDisk == C_BadStop) = false)
    (si_BadDisk_Empty : PySem.W.subIn K (.ref C_BadDisk) (.ref C_Empty) = some false)
    (nq_BadDisk_Empty : (C_BadDisk == C_Empty) = false)
    (si_BadDisk_Full : PySem.W.subIn K (.ref C_BadDisk) (.ref C_Full) = some false)
    (nq_BadDisk_Full : (C_BadDisk == C_Full) = false)
    (si_BadDisk_Gone : PySem.W.subIn K (.ref C_BadDisk) (.ref C_Gone) = some false)
    (nq_BadDisk_Gone : (C_BadDisk == C_Gone) = false)
    (si_BadDisk_NoBlock : PySem.W.subIn K (.ref C_BadDisk) (.ref C_NoBlock) = some false)
    (nq_BadDisk_NoBlock : (C_BadDisk == C_NoBlock) = false)
    (si_BadDisk_Stopped : PySem.W.subIn K (.ref C_BadDisk) (.ref C_Stopped) = some false)
    (nq_BadDisk_Stopped : (C_BadDisk == C_Stopped) = false)
    (yg_BadOrder : PySem.W.findIn K (.ref C_BadOrder) "__getattribute__" = some (some (.builtin "BaseException.__getattribute__")))
    (yk_BadOrder : PySem.W.findIn K (.ref C_BadOrder) "__getattr__" = some none)
    (yd_BadOrder : PySem.W.hasDictIn K C_BadOrder = true)
    (ya_BadOrder : PySem.W.findIn K (.ref C_BadOrder) "__class__" = some (some (.builtin "object.__class__")))
    (ym_BadOrder : PySem.W.mroIn K C_BadOrder (.type "object") = some true)
    (sv_BadOrder : PySem.W.subIn K (.ref C_BadOrder) (.type "ValueError") = some true)
    (si_BadOrder_BadBlock : PySem.W.subIn K (.ref C_BadOrder) (.ref C_BadBlock) = some false)
    (nq_BadOrder_BadBlock : (C_BadOrder == C_BadBlock) = false)
    (si_BadOrder_BadDisk : PySem.W.subIn K (.ref C_BadOrder) (.ref C_BadDisk) = some false)
    (nq_BadOrder_BadDisk : (C_BadOrder == C_BadDisk) = false)
    (si_BadOrder_BadOrder : PySem.W.subIn K (.ref C_BadOrder) (.ref C_BadOrder) = some true)
    (si_BadOrder_BadRow : PySem.W.subIn K (.ref C_BadOrder) (.ref C_BadRow) = some false)
    (nq_BadOrder_BadRow : (C_BadOrder == C_BadRow) = false)
    (si_BadOrder_BadStop : PySem.W.subIn K (.ref C_BadOrder) (.ref C_BadStop) = some false)
    (nq_BadOrder_BadStop : (C_BadOrder == C_BadStop) = false)
    (si_BadOrder_Empty : PySem.W.subIn K (.ref C_BadOrder) (.ref C_Empty) = some false)
    (nq_BadOrder_Empty : (C_BadOrder == C_Empty) = false)
    (si_BadOrder_Full : PySem.W.subIn K (.ref C_BadOrder) (.ref C_Full) = some false)
    (nq_BadOrder_Full : (C_BadOrder == C_Full) = false)
    (si_BadOrder_Gone : PySem.W.subIn K (.ref C_BadOrder) (.ref C_Gone) = some false)
    (nq_BadOrder_Gone : (C_BadOrder == C_Gone) = false)
    (si_BadOrder_NoBlock : PySem.W.subIn K (.ref C_BadOrder) (.ref C_NoBlock) = some false)
    (nq_BadOrder_NoBlock : (C_BadOrder == C_NoBlock) = false)
    (si_BadOrder_Stopped : PySem.W.subIn K (.ref C_BadOrder) (.ref C_Stopped) = some false)
    (nq_BadOrder_Stopped : (C_BadOrder == C_Stopped) = false)
    (yg_BadRow : PySem.W.findIn K (.ref C_BadRow) "__getattribute__" = some (some (.builtin "BaseException.__getattribute__")))
    (yk_BadRow : PySem.W.findIn K (.ref C_BadRow) "__getattr__" = some none)
    (yd_BadRow : PySem.W.hasDictIn K C_BadRow = true)
    (ya_BadRow : PySem.W.findIn K (.ref C_BadRow) "__class__" = some (some (.builtin "object.__class__")))
    (ym_BadRow : PySem.W.mroIn K C_BadRow (.type "object") = some true)
    (sv_BadRow : PySem.W.subIn K (.ref C_BadRow) (.type "ValueError") = some true)
    (si_BadRow_BadBlock : PySem.W.subIn K (.ref C_BadRow) (.ref C_BadBlock) = some false)
    (nq_BadRow_BadBlock : (C_BadRow == C_BadBlock) = false)
    (si_BadRow_BadDisk : PySem.W.subIn K (.ref C_BadRow) (.ref C_BadDisk) = some false)
    (nq_BadRow_BadDisk : (C_BadRow == C_BadDisk) = false)
    (si_BadRow_BadOrder : PySem.W.subIn K (.ref C_BadRow) (.ref C_BadOrder) = some false)
    (nq_BadRow_BadOrder : (C_BadRow == C_BadOrder) = false)
    (si_BadRow_BadRow : PySem.W.subIn K (.ref C_BadRow) (.ref C_BadRow) = some true)
    (si_BadRow_BadStop : PySem.W.subIn K (.ref C_BadRow) (.ref C_BadStop) = some false)
    (nq_BadRow_BadStop : (C_BadRow == C_BadStop) = false)
    (si_BadRow_Empty : PySem.W.subIn K (.ref C_BadRow) (.ref C_Empty) = some false)
    (nq_BadRow_Empty : (C_BadRow == C_Empty) = false)
    (si_BadRow_Full : PySem.W.subIn K (.ref C_BadRow) (.ref C_Full) = some false)
    (nq_BadRow_Full : (C_BadRow == C_Full) = false)
    (si_BadRow_Gone : PySem.W.subIn K (.ref C_BadRow) (.ref C_Gone) = some false)
    (nq_BadRow_Gone : (C_BadRow == C_Gone) = false)
    (si_BadRow_NoBlock : PySem.W.subIn K (.ref C_BadRow) (.ref C_NoBlock) = some false)
    (nq_BadRow_NoBlock : (C_BadRow == C_NoBlock) = false)
    (si_BadRow_Stopped : PySem.W.subIn K (.ref C_BadRow) (.ref C_Stopped) = some false)
    (nq_BadRow_Stopped : (C_BadRow == C_Stopped) = false)
    (yg_BadStop : PySem.W.findIn K (.ref C_BadStop) "__getattribute__" = some (some (.builtin "BaseException.__getattribute__")))
    (yk_BadStop : PySem.W.findIn K (.ref C_BadStop) "__getattr__" = some none)
    (yd_BadStop : PySem.W.hasDictIn K C_BadStop = true)
    (ya_BadStop : PySem.W.findIn K (.ref C_BadStop) "__class__" = some (some (.builtin "object.__class__")))
    (ym_BadStop : PySem.W.mroIn K C_BadStop (.type "object") = some true)
    (sv_BadStop : PySem.W.subIn K (.ref C_BadStop) (.type "ValueError") = some true)
    (si_BadStop_BadBlock : PySem.W.subIn K (.ref C_BadStop) (.ref C_BadBlock) = some false)
    (nq_BadStop_BadBlock : (C_BadStop == C_BadBlock) = false)
    (si_BadStop_BadDisk : PySem.W.subIn K (.ref C_BadStop) (.ref C_BadDisk) = some false)
    (nq_BadStop_BadDisk : (C_BadStop == C_BadDisk) = false)
    (si_BadStop_BadOrder : PySem.W.subIn K (.ref C_BadStop) (.ref C_BadOrder) = some false)
    (nq_BadStop_BadOrder : (C_BadStop == C_BadOrder) = false)
    (si_BadStop_BadRow : PySem.W.subIn K (.ref C_BadStop) (.ref C_BadRow) = some false)
    (nq_BadStop_BadRow : (C_BadStop == C_BadRow) = false)
    (si_BadStop_BadStop : PySem.W.subIn K (.ref C_BadStop) (.ref C_BadStop) = some true)
    (si_BadStop_Empty : PySem.W.subIn K (.ref C_BadStop) (.ref C_Empty) = some false)
    (nq_BadStop_Empty : (C_BadStop == C_Empty) = false)
    (si_BadStop_Full : PySem.W.subIn K (.ref C_BadStop) (.ref C_Full) = some false)
    (nq_BadStop_Full : (C_BadStop == C_Full) = false)
    (si_BadStop_Gone : PySem.W.subIn K (.ref C_BadStop) (.ref C_Gone) = some false)
    (nq_BadStop_Gone : (C_BadStop == C_Gone) = false)
    (si_BadStop_NoBlock : PySem.W.subIn K (.ref C_BadStop) (.ref C_NoBlock) = some false)
    (nq_BadStop_NoBlock : (C_BadStop == C_NoBlock) = false)
    (si_BadStop_Stopped : PySem.W.subIn K (.ref C_BadStop) (.ref C_Stopped) = some false)
    (nq_BadStop_Stopped : (C_BadStop == C_Stopped) = false)
    (yg_Empty : PySem.W.findIn K (.ref C_Empty) "__getattribute__" = some (some (.builtin "BaseException.__getattribute__")))
    (yk_Empty : PySem.W.findIn K (.ref C_Empty) "__getattr__" = some none)
    (yd_Empty : PySem.W.hasDictIn K C_Empty = true)
    (ya_Empty : PySem.W.findIn K (.ref C_Empty) "__class__" = some (some (.builtin "object.__class__")))
    (ym_Empty : PySem.W.mroIn K C_Empty (.type "object") = some true)
    (sv_Empty : PySem.W.subIn K (.ref C_Empty) (.type "ValueError") = some true)
    (si_Empty_BadBlock : PySem.W.subIn K (.ref C_Empty) (.ref C_BadBlock) = some false)
    (nq_Empty_BadBlock : (C_Empty == C_BadBlock) = false)
    (si_Empty_BadDisk : PySem.W.subIn K (.ref C_Empty) (.ref C_BadDisk) = some false)
    (nq_Empty_BadDisk : (C_Empty == C_BadDisk) = false)
    (si_Empty_BadOrder : PySem.W.subIn K (.ref C_Empty) (.ref C_BadOrder) = some false)
    (nq_Empty_BadOrder : (C_Empty == C_BadOrder) = false)
    (si_Empty_BadRow : PySem.W.subIn K (.ref C_Empty) (.ref C_BadRow) = some false)
    (nq_Empty_BadRow : (C_Empty == C_BadRow) = false)
    (si_Empty_BadStop : PySem.W.subIn K (.ref C_Empty) (.ref C_BadStop) = some false)
    (nq_Empty_BadStop : (C_Empty == C_BadStop) = false)
    (si_Empty_Empty : PySem.W.subIn K (.ref C_Empty) (.ref C_Empty) = some true)
    (si_Empty_Full : PySem.W.subIn K (.ref C_Empty) (.ref C_Full) = some false)
    (nq_Empty_Full : (C_Empty == C_Full) = false)
    (si_Empty_Gone : PySem.W.subIn K (.ref C_Empty) (.ref C_Gone) = some false)
    (nq_Empty_Gone : (C_Empty == C_Gone) = false)
    (si_Empty_NoBlock : PySem.W.subIn K (.ref C_Empty) (.ref C_NoBlock) = some false)
    (nq_Empty_NoBlock : (C_Empty == C_NoBlock) = false)
    (si_Empty_Stopped : PySem.W.subIn K (.ref C_Empty) (.ref C_Stopped) = some false)
    (nq_Empty_Stopped : (C_Empty == C_Stopped) = false)
    (yg_Full : PySem.W.findIn K (.ref C_Full) "__getattribute__" = some (some (.builtin "BaseException.__getattribute__")))
    (yk_Full : PySem.W.findIn K (.ref C_Full) "__getattr__" = some none)
    (yd_Full : PySem.W.hasDictIn K C_Full = true)
    (ya_Full : PySem.W.findIn K (.ref C_Full) "__class__" = some (some (.builtin "object.__class__")))
    (ym_Full : PySem.W.mroIn K C_Full (.type "object") = some true)
    (sv_Full : PySem.W.subIn K (.ref C_Full) (.type "ValueError") = some true)
    (si_Full_BadBlock : PySem.W.subIn K (.ref C_Full) (.ref C_BadBlock) = some false)
    (nq_Full_BadBlock : (C_Full == C_BadBlock) = false)
    (si_Full_BadDisk : PySem.W.subIn K (.ref C_Full) (.ref C_BadDisk) = some false)
    (nq_Full_BadDisk : (C_Full == C_BadDisk) = false)
    (si_Full_BadOrder : PySem.W.subIn K (.ref C_Full) (.ref C_BadOrder) = some false)
    (nq_Full_BadOrder : (C_Full == C_BadOrder) = false)
    (si_Full_BadRow : PySem.W.subIn K (.ref C_Full) (.ref C_BadRow) = some false)
    (nq_Full_BadRow : (C_Full == C_BadRow) = false)
    (si_Full_BadStop : PySem.W.subIn K (.ref C_Full) (.ref C_BadStop) = some false)
    (nq_Full_BadStop : (C_Full == C_BadStop) = false)
    (si_Full_Empty : PySem.W.subIn K (.ref C_Full) (.ref C_Empty) = some false)
    (nq_Full_Empty : (C_Full == C_Empty) = false)
    (si_Full_Full : PySem.W.subIn K (.ref C_Full) (.ref C_Full) = some true)
    (si_Full_Gone : PySem.W.subIn K (.ref C_Full) (.ref C_Gone) = some false)
    (nq_Full_Gone : (C_Full == C_Gone) = false)
    (si_Full_NoBlock : PySem.W.subIn K (.ref C_Full) (.ref C_NoBlock) = some false)
    (nq_Full_NoBlock : (C_Full == C_NoBlock) = false)
    (si_Full_Stopped : PySem.W.subIn K (.ref C_Full) (.ref C_Stopped) = some false)
    (nq_Full_Stopped : (C_Full == C_Stopped) = false)
    (yg_Gone : PySem.W.findIn K (.ref C_Gone) "__getattribute__" = some (some (.builtin "BaseException.__getattribute__")))
    (yk_Gone : PySem.W.findIn K (.ref C_Gone) "__getattr__" = some none)
    (yd_Gone : PySem.W.hasDictIn K C_Gone = true)
    (ya_Gone : PySem.W.findIn K (.ref C_Gone) "__class__" = some (some (.builtin "object.__class__")))
    (ym_Gone : PySem.W.mroIn K C_Gone (.type "object") = some true)
    (sv_Gone : PySem.W.subIn K (.ref C_Gone) (.type "ValueError") = some true)
    (si_Gone_BadBlock : PySem.W.subIn K (.ref C_Gone) (.ref C_BadBlock) = some false)
    (nq_Gone_BadBlock : (C_Gone == C_BadBlock) = false)
    (si_Gone_BadDisk : PySem.W.subIn K (.ref C_Gone) (.ref C_BadDisk) = some false)
    (nq_Gone_BadDisk : (C_Gone == C_BadDisk) = false)
    (si_Gone_BadOrder : PySem.W.subIn K (.ref C_Gone) (.ref C_BadOrder) = some false)
    (nq_Gone_BadOrder : (C_Gone == C_BadOrder) = false)
    (si_Gone_BadRow : PySem.W.subIn K (.ref C_Gone) (.ref C_BadRow) = some false)
    (nq_Gone_BadRow : (C_Gone == C_BadRow) = false)
    (si_Gone_BadStop : PySem.W.subIn K (.ref C_Gone) (.ref C_BadStop) = some false)
    (nq_Gone_BadStop : (C_Gone == C_BadStop) = false)
    (si_Gone_Empty : PySem.W.subIn K (.ref C_Gone) (.ref C_Empty) = some false)
    (nq_Gone_Empty : (C_Gone == C_Empty) = false)
    (si_Gone_Full : PySem.W.subIn K (.ref C_Gone) (.ref C_Full) = some false)
    (nq_Gone_Full : (C_Gone == C_Full) = false)
    (si_Gone_Gone : PySem.W.subIn K (.ref C_Gone) (.ref C_Gone) = some true)
    (si_Gone_NoBlock : PySem.W.subIn K (.ref C_Gone) (.ref C_NoBlock) = some false)
    (nq_Gone_NoBlock : (C_Gone == C_NoBlock) = false)
    (si_Gone_Stopped : PySem.W.subIn K (.ref C_Gone) (.ref C_Stopped) = some false)
    (nq_Gone_Stopped : (C_Gone == C_Stopped) = false)
    (yg_NoBlock : PySem.W.findIn K (.ref C_NoBlock) "__getattribute__" = some (some (.builtin "BaseException.__getattribute__")))
    (yk_NoBlock : PySem.W.findIn K (.ref C_NoBlock) "__getattr__" = some none)
    (yd_NoBlock : PySem.W.hasDictIn K C_NoBlock = true)
    (ya_NoBlock : PySem.W.findIn K (.ref C_NoBlock) "__class__" = some (some (.builtin "object.__class__")))
    (ym_NoBlock : PySem.W.mroIn K C_NoBlock (.type "object") = some true)
    (sv_NoBlock : PySem.W.subIn K (.ref C_NoBlock) (.type "ValueError") = some true)
    (si_NoBlock_BadBlock : PySem.W.subIn K (.ref C_NoBlock) (.ref C_BadBlock) = some false)
    (nq_NoBlock_BadBlock : (C_NoBlock == C_BadBlock) = false)
    (si_NoBlock_BadDisk : PySem.W.subIn K (.ref C_NoBlock) (.ref C_BadDisk) = some false)
    (nq_NoBlock_BadDisk : (C_NoBlock == C_BadDisk) = false)
    (si_NoBlock_BadOrder : PySem.W.subIn K (.ref C_NoBlock) (.ref C_BadOrder) = some false)
    (nq_NoBlock_BadOrder : (C_NoBlock == C_BadOrder) = false)
    (si_NoBlock_BadRow : PySem.W.subIn K (.ref C_NoBlock) (.ref C_BadRow) = some false)
    (nq_NoBlock_BadRow : (C_NoBlock == C_BadRow) = false)
    (si_NoBlock_BadStop : PySem.W.subIn K (.ref C_NoBlock) (.ref C_BadStop) = some false)
    (nq_NoBlock_BadStop : (C_NoBlock == C_BadStop) = false)
    (si_NoBlock_Empty : PySem.W.subIn K (.ref C_NoBlock) (.ref C_Empty) = some false)
    (nq_NoBlock_Empty : (C_NoBlock == C_Empty) = false)
    (si_NoBlock_Full : PySem.W.subIn K (.ref C_NoBlock) (.ref C_Full) = some false)
    (nq_NoBlock_Full : (C_NoBlock == C_Full) = false)
    (si_NoBlock_Gone : PySem.W.subIn K (.ref C_NoBlock) (.ref C_Gone) = some false)
    (nq_NoBlock_Gone : (C_NoBlock == C_Gone) = false)
    (si_NoBlock_NoBlock : PySem.W.subIn K (.ref C_NoBlock) (.ref C_NoBlock) = some true)
    (si_NoBlock_Stopped : PySem.W.subIn K (.ref C_NoBlock) (.ref C_Stopped) = some false)
    (nq_NoBlock_Stopped : (C_NoBlock == C_Stopped) = false)
    (yg_Stopped : PySem.W.findIn K (.ref C_Stopped) "__getattribute__" = some (some (.builtin "BaseException.__getattribute__")))
    (yk_Stopped : PySem.W.findIn K (.ref C_Stopped) "__getattr__" = some none)
    (yd_Stopped : PySem.W.hasDictIn K C_Stopped = true)
    (ya_Stopped : PySem.W.findIn K (.ref C_Stopped) "__class__" = some (some (.builtin "object.__class__")))
    (ym_Stopped : PySem.W.mroIn K C_Stopped (.type "object") = some true)
    (sv_Stopped : PySem.W.subIn K (.ref C_Stopped) (.type "ValueError") = some true)
    (si_Stopped_BadBlock : PySem.W.subIn K (.ref C_Stopped) (.ref C_BadBlock) = some false)
    (nq_Stopped_BadBlock : (C_Stopped == C_BadBlock) = false)
    (si_Stopped_BadDisk : PySem.W.subIn K (.ref C_Stopped) (.ref C_BadDisk) = some false)
    (nq_Stopped_BadDisk : (C_Stopped == C_BadDisk) = false)
    (si_Stopped_BadOrder : PySem.W.subIn K (.ref C_Stopped) (.ref C_BadOrder) = some false)
    (nq_Stopped_BadOrder : (C_Stopped == C_BadOrder) = false)
    (si_Stopped_BadRow : PySem.W.subIn K (.ref C_Stopped) (.ref C_BadRow) = some false)
    (nq_Stopped_BadRow : (C_Stopped == C_BadRow) = false)
    (si_Stopped_BadStop : PySem.W.subIn K (.ref C_Stopped) (.ref C_BadStop) = some false)
    (nq_Stopped_BadStop : (C_Stopped == C_BadStop) = false)
    (si_Stopped_Empty : PySem.W.subIn K (.ref C_Stopped) (.ref C_Empty) = some false)
    (nq_Stopped_Empty : (C_Stopped == C_Empty) = false)
    (si_Stopped_Full : PySem.W.subIn K (.ref C_Stopped) (.ref C_Full) = some false)
    (nq_Stopped_Full : (C_Stopped == C_Full) = false)
    (si_Stopped_Gone : PySem.W.subIn K (.ref C_Stopped) (.ref C_Gone) = some false)
    (nq_Stopped_Gone : (C_Stopped == C_Gone) = false)
    (si_Stopped_NoBlock : PySem.W.subIn K (.ref C_Stopped) (.ref C_NoBlock) = some false)
    (nq_Stopped_NoBlock : (C_Stopped == C_NoBlock) = false)
    (si_Stopped_Stopped : PySem.W.subIn K (.ref C_Stopped) (.ref C_Stopped) = some true)
    (s_BadBlock_LogError : PySem.W.subIn K (.ref C_BadBlock) (.ref C_LogError) = some true)
    (s_BadDisk_LogError : PySem.W.subIn K (.ref C_BadDisk) (.ref C_LogError) = some true)
    (s_BadOrder_LogError : PySem.W.subIn K (.ref C_BadOrder) (.ref C_LogError) = some true)
    (s_BadRow_LogError : PySem.W.subIn K (.ref C_BadRow) (.ref C_LogError) = some true)
    (s_BadStop_LogError : PySem.W.subIn K (.ref C_BadStop) (.ref C_LogError) = some true)
    (s_Empty_LogError : PySem.W.subIn K (.ref C_Empty) (.ref C_LogError) = some true)
    (s_Full_LogError : PySem.W.subIn K (.ref C_Full) (.ref C_LogError) = some true)
    (s_Gone_LogError : PySem.W.subIn K (.ref C_Gone) (.ref C_LogError) = some true)
    (s_NoBlock_LogError : PySem.W.subIn K (.ref C_NoBlock) (.ref C_LogError) = some true)
    (s_Stopped_LogError : PySem.W.subIn K (.ref C_Stopped) (.ref C_LogError) = some true)
    (a0 : PySem.W.nsIn K mainGlobals "_wall" = some (some (.ref f0)))
    (l0 : K.lookup f0 = some ⟨oc0, od0, .func (PySem.W.fnOf "_wall" "_wall" (defArgs st_wall) (defBody st_wall) (defScope st_wall) .none kV0 dc0 pm0 an0 cd0 ct0), sl0⟩)
    (c0 : PySem.W.codeIn K cd0 "_wall" = true)
    (k0 : PySem.W.keepIn K (.ref f0) = true)
    (a1 : PySem.W.nsIn K mainGlobals "made" = some (some (.ref f1)))
    (l1 : K.lookup f1 = some ⟨oc1, od1, .func (PySem.W.fnOf "made" "made" (defArgs st_made) (defBody st_made) (defScope st_made) .none kV1 dc1 pm1 an1 cd1 ct1), sl1⟩)
    (c1 : PySem.W.codeIn K cd1 "made" = true)
    (k1 : PySem.W.keepIn K (.ref f1) = true)
    (a2 : PySem.W.nsIn K mainGlobals "made_mark" = some (some (.ref f2)))
    (l2 : K.lookup f2 = some ⟨oc2, od2, .func (PySem.W.fnOf "made_mark" "made_mark" (defArgs st_made_mark) (defBody st_made_mark) (defScope st_made_mark) .none kV2 dc2 pm2 an2 cd2 ct2), sl2⟩)
    (c2 : PySem.W.codeIn K cd2 "made_mark" = true)
    (k2 : PySem.W.keepIn K (.ref f2) = true)
    (a3 : PySem.W.nsIn K mainGlobals "made_farewell" = some (some (.ref f3)))
    (l3 : K.lookup f3 = some ⟨oc3, od3, .func (PySem.W.fnOf "made_farewell" "made_farewell" (defArgs st_made_farewell) (defBody st_made_farewell) (defScope st_made_farewell) .none kV3 dc3 pm3 an3 cd3 ct3), sl3⟩)
    (c3 : PySem.W.codeIn K cd3 "made_farewell" = true)
    (k3 : PySem.W.keepIn K (.ref f3) = true)
    (a4 : PySem.W.nsIn K mainGlobals "is_farewell" = some (some (.ref f4)))
    (l4 : K.lookup f4 = some ⟨oc4, od4, .func (PySem.W.fnOf "is_farewell" "is_farewell" (defArgs st_is_farewell) (defBody st_is_farewell) (defScope st_is_farewell) .none kV4 dc4 pm4 an4 cd4 ct4), sl4⟩)
    (c4 : PySem.W.codeIn K cd4 "is_farewell" = true)
    (k4 : PySem.W.keepIn K (.ref f4) = true)
    (a5 : PySem.W.nsIn K mainGlobals "kind" = some (some (.ref f5)))
    (l5 : K.lookup f5 = some ⟨oc5, od5, .func (PySem.W.fnOf "kind" "kind" (defArgs st_kind) (defBody st_kind) (defScope st_kind) .none kV5 dc5 pm5 an5 cd5 ct5), sl5⟩)
    (c5 : PySem.W.codeIn K cd5 "kind" = true)
    (k5 : PySem.W.keepIn K (.ref f5) = true)
    (a6 : PySem.W.nsIn K mainGlobals "pieces" = some (some (.ref f6)))
    (l6 : K.lookup f6 = some ⟨oc6, od6, .func (PySem.W.fnOf "pieces" "pieces" (defArgs st_pieces) (defBody st_pieces) (defScope st_pieces) .none kV6 dc6 pm6 an6 cd6 ct6), sl6⟩)
    (c6 : PySem.W.codeIn K cd6 "pieces" = true)
    (k6 : PySem.W.keepIn K (.ref f6) = true)
    (a7 : PySem.W.nsIn K mainGlobals "length_of" = some (some (.ref f7)))
    (l7 : K.lookup f7 = some ⟨oc7, od7, .func (PySem.W.fnOf "length_of" "length_of" (defArgs st_length_of) (defBody st_length_of) (defScope st_length_of) .none kV7 dc7 pm7 an7 cd7 ct7), sl7⟩)
    (c7 : PySem.W.codeIn K cd7 "length_of" = true)
    (k7 : PySem.W.keepIn K (.ref f7) = true)
    (a8 : PySem.W.nsIn K mainGlobals "words_of" = some (some (.ref f8)))
    (l8 : K.lookup f8 = some ⟨oc8, od8, .func (PySem.W.fnOf "words_of" "words_of" (defArgs st_words_of) (defBody st_words_of) (defScope st_words_of) .none kV8 dc8 pm8 an8 cd8 ct8), sl8⟩)
    (c8 : PySem.W.codeIn K cd8 "words_of" = true)
    (k8 : PySem.W.keepIn K (.ref f8) = true)
    (a9 : PySem.W.nsIn K mainGlobals "newest" = some (some (.ref f9)))
    (l9 : K.lookup f9 = some ⟨oc9, od9, .func (PySem.W.fnOf "newest" "newest" (defArgs st_newest) (defBody st_newest) (defScope st_newest) .none kV9 dc9 pm9 an9 cd9 ct9), sl9⟩)
    (c9 : PySem.W.codeIn K cd9 "newest" = true)
    (k9 : PySem.W.keepIn K (.ref f9) = true)
    (a10 : PySem.W.nsIn K mainGlobals "_number_in_last_place" = some (some (.ref f10)))
    (l10 : K.lookup f10 = some ⟨oc10, od10, .func (PySem.W.fnOf "_number_in_last_place" "_number_in_last_place" (defArgs st_number_in_last_place) (defBody st_number_in_last_place) (defScope st_number_in_last_place) .none kV10 dc10 pm10 an10 cd10 ct10), sl10⟩)
    (c10 : PySem.W.codeIn K cd10 "_number_in_last_place" = true)
    (k10 : PySem.W.keepIn K (.ref f10) = true)
    (a11 : PySem.W.nsIn K mainGlobals "_newest_of_round" = some (some (.ref f11)))
    (l11 : K.lookup f11 = some ⟨oc11, od11, .func (PySem.W.fnOf "_newest_of_round" "_newest_of_round" (defArgs st_newest_of_round) (defBody st_newest_of_round) (defScope st_newest_of_round) .none kV11 dc11 pm11 an11 cd11 ct11), sl11⟩)
    (c11 : PySem.W.codeIn K cd11 "_newest_of_round" = true)
    (k11 : PySem.W.keepIn K (.ref f11) = true)
    (a12 : PySem.W.nsIn K mainGlobals "rows_in" = some (some (.ref f12)))
    (l12 : K.lookup f12 = some ⟨oc12, od12, .func (PySem.W.fnOf "rows_in" "rows_in" (defArgs st_rows_in) (defBody st_rows_in) (defScope st_rows_in) .none kV12 dc12 pm12 an12 cd12 ct12), sl12⟩)
    (c12 : PySem.W.codeIn K cd12 "rows_in" = true)
    (k12 : PySem.W.keepIn K (.ref f12) = true)
    (a13 : PySem.W.nsIn K mainGlobals "cut_in" = some (some (.ref f13)))
    (l13 : K.lookup f13 = some ⟨oc13, od13, .func (PySem.W.fnOf "cut_in" "cut_in" (defArgs st_cut_in) (defBody st_cut_in) (defScope st_cut_in) .none kV13 dc13 pm13 an13 cd13 ct13), sl13⟩)
    (c13 : PySem.W.codeIn K cd13 "cut_in" = true)
    (k13 : PySem.W.keepIn K (.ref f13) = true)
    (a14 : PySem.W.nsIn K mainGlobals "_by_row" = some (some (.ref f14)))
    (l14 : K.lookup f14 = some ⟨oc14, od14, .func (PySem.W.fnOf "_by_row" "_by_row" (defArgs st_by_row) (defBody st_by_row) (defScope st_by_row) .none kV14 dc14 pm14 an14 cd14 ct14), sl14⟩)
    (c14 : PySem.W.codeIn K cd14 "_by_row" = true)
    (k14 : PySem.W.keepIn K (.ref f14) = true)
    (a15 : PySem.W.nsIn K mainGlobals "_has_last" = some (some (.ref f15)))
    (l15 : K.lookup f15 = some ⟨oc15, od15, .func (PySem.W.fnOf "_has_last" "_has_last" (defArgs st_has_last) (defBody st_has_last) (defScope st_has_last) .none kV15 dc15 pm15 an15 cd15 ct15), sl15⟩)
    (c15 : PySem.W.codeIn K cd15 "_has_last" = true)
    (k15 : PySem.W.keepIn K (.ref f15) = true)
    (a16 : PySem.W.nsIn K mainGlobals "is_whole" = some (some (.ref f16)))
    (l16 : K.lookup f16 = some ⟨oc16, od16, .func (PySem.W.fnOf "is_whole" "is_whole" (defArgs st_is_whole) (defBody st_is_whole) (defScope st_is_whole) .none kV16 dc16 pm16 an16 cd16 ct16), sl16⟩)
    (c16 : PySem.W.codeIn K cd16 "is_whole" = true)
    (k16 : PySem.W.keepIn K (.ref f16) = true)
    (a17 : PySem.W.nsIn K mainGlobals "_is_row" = some (some (.ref f17)))
    (l17 : K.lookup f17 = some ⟨oc17, od17, .func (PySem.W.fnOf "_is_row" "_is_row" (defArgs st_is_row) (defBody st_is_row) (defScope st_is_row) .none kV17 dc17 pm17 an17 cd17 ct17), sl17⟩)
    (c17 : PySem.W.codeIn K cd17 "_is_row" = true)
    (k17 : PySem.W.keepIn K (.ref f17) = true)
    (a18 : PySem.W.nsIn K mainGlobals "_blocks_of_use" = some (some (.ref f18)))
    (l18 : K.lookup f18 = some ⟨oc18, od18, .func (PySem.W.fnOf "_blocks_of_use" "_blocks_of_use" (defArgs st_blocks_of_use) (defBody st_blocks_of_use) (defScope st_blocks_of_use) .none kV18 dc18 pm18 an18 cd18 ct18), sl18⟩)
    (c18 : PySem.W.codeIn K cd18 "_blocks_of_use" = true)
    (k18 : PySem.W.keepIn K (.ref f18) = true)
    (a19 : PySem.W.nsIn K mainGlobals "_floor_under" = some (some (.ref f19)))
    (l19 : K.lookup f19 = some ⟨oc19, od19, .func (PySem.W.fnOf "_floor_under" "_floor_under" (defArgs st_floor_under) (defBody st_floor_under) (defScope st_floor_under) .none kV19 dc19 pm19 an19 cd19 ct19), sl19⟩)
    (c19 : PySem.W.codeIn K cd19 "_floor_under" = true)
    (k19 : PySem.W.keepIn K (.ref f19) = true)
    (a20 : PySem.W.findIn K (.ref C_Log) "__init__" = some (some (.ref f20)))
    (i20 : PySem.W.isFn K (.ref f20) = true)
    (l20 : K.lookup f20 = some ⟨oc20, od20, .func (PySem.W.fnOf "__init__" "Log.__init__" (defArgs st_Log___init__) (defBody st_Log___init__) (defScope st_Log___init__) .none kV20 dc20 pm20 an20 cd20 ct20), sl20⟩)
    (c20 : PySem.W.codeIn K cd20 "Log.__init__" = true)
    (k20 : PySem.W.keepIn K (.ref f20) = true)
    (a21 : PySem.W.findIn K (.ref C_Log) "rows" = some (some (.ref f21)))
    (i21 : PySem.W.isFn K (.ref f21) = true)
    (l21 : K.lookup f21 = some ⟨oc21, od21, .func (PySem.W.fnOf "rows" "Log.rows" (defArgs st_Log_rows) (defBody st_Log_rows) (defScope st_Log_rows) .none kV21 dc21 pm21 an21 cd21 ct21), sl21⟩)
    (c21 : PySem.W.codeIn K cd21 "Log.rows" = true)
    (k21 : PySem.W.keepIn K (.ref f21) = true)
    (a22 : PySem.W.findIn K (.ref C_Log) "room" = some (some (.ref f22)))
    (i22 : PySem.W.isFn K (.ref f22) = true)
    (l22 : K.lookup f22 = some ⟨oc22, od22, .func (PySem.W.fnOf "room" "Log.room" (defArgs st_Log_room) (defBody st_Log_room) (defScope st_Log_room) .none kV22 dc22 pm22 an22 cd22 ct22), sl22⟩)
    (c22 : PySem.W.codeIn K cd22 "Log.room" = true)
    (k22 : PySem.W.keepIn K (.ref f22) = true)
    (a23 : PySem.W.findIn K (.ref C_Log) "scars" = some (some (.ref f23)))
    (i23 : PySem.W.isFn K (.ref f23) = true)
    (l23 : K.lookup f23 = some ⟨oc23, od23, .func (PySem.W.fnOf "scars" "Log.scars" (defArgs st_Log_scars) (defBody st_Log_scars) (defScope st_Log_scars) .none kV23 dc23 pm23 an23 cd23 ct23), sl23⟩)
    (c23 : PySem.W.codeIn K cd23 "Log.scars" = true)
    (k23 : PySem.W.keepIn K (.ref f23) = true)
    (a24 : PySem.W.findIn K (.ref C_Log) "gone" = some (some (.ref f24)))
    (i24 : PySem.W.isFn K (.ref f24) = true)
    (l24 : K.lookup f24 = some ⟨oc24, od24, .func (PySem.W.fnOf "gone" "Log.gone" (defArgs st_Log_gone) (defBody st_Log_gone) (defScope st_Log_gone) .none kV24 dc24 pm24 an24 cd24 ct24), sl24⟩)
    (c24 : PySem.W.codeIn K cd24 "Log.gone" = true)
    (k24 : PySem.W.keepIn K (.ref f24) = true)
    (a25 : PySem.W.findIn K (.ref C_Log) "put" = some (some (.ref f25)))
    (i25 : PySem.W.isFn K (.ref f25) = true)
    (l25 : K.lookup f25 = some ⟨oc25, od25, .func (PySem.W.fnOf "put" "Log.put" (defArgs st_Log_put) (defBody st_Log_put) (defScope st_Log_put) .none kV25 dc25 pm25 an25 cd25 ct25), sl25⟩)
    (c25 : PySem.W.codeIn K cd25 "Log.put" = true)
    (k25 : PySem.W.keepIn K (.ref f25) = true)
    (a26 : PySem.W.findIn K (.ref C_Log) "take" = some (some (.ref f26)))
    (i26 : PySem.W.isFn K (.ref f26) = true)
    (l26 : K.lookup f26 = some ⟨oc26, od26, .func (PySem.W.fnOf "take" "Log.take" (defArgs st_Log_take) (defBody st_Log_take) (defScope st_Log_take) .none kV26 dc26 pm26 an26 cd26 ct26), sl26⟩)
    (c26 : PySem.W.codeIn K cd26 "Log.take" = true)
    (k26 : PySem.W.keepIn K (.ref f26) = true)
    (a27 : PySem.W.findIn K (.ref C_Log) "take_all" = some (some (.ref f27)))
    (i27 : PySem.W.isFn K (.ref f27) = true)
    (l27 : K.lookup f27 = some ⟨oc27, od27, .func (PySem.W.fnOf "take_all" "Log.take_all" (defArgs st_Log_take_all) (defBody st_Log_take_all) (defScope st_Log_take_all) .none kV27 dc27 pm27 an27 cd27 ct27), sl27⟩)
    (c27 : PySem.W.codeIn K cd27 "Log.take_all" = true)
    (k27 : PySem.W.keepIn K (.ref f27) = true)
    (a28 : PySem.W.findIn K (.ref C_Log) "leave" = some (some (.ref f28)))
    (i28 : PySem.W.isFn K (.ref f28) = true)
    (l28 : K.lookup f28 = some ⟨oc28, od28, .func (PySem.W.fnOf "leave" "Log.leave" (defArgs st_Log_leave) (defBody st_Log_leave) (defScope st_Log_leave) .none kV28 dc28 pm28 an28 cd28 ct28), sl28⟩)
    (c28 : PySem.W.codeIn K cd28 "Log.leave" = true)
    (k28 : PySem.W.keepIn K (.ref f28) = true)
    (a29 : PySem.W.findIn K (.ref C_Log) "_need_here" = some (some (.ref f29)))
    (i29 : PySem.W.isFn K (.ref f29) = true)
    (l29 : K.lookup f29 = some ⟨oc29, od29, .func (PySem.W.fnOf "_need_here" "Log._need_here" (defArgs st_Log__need_here) (defBody st_Log__need_here) (defScope st_Log__need_here) .none kV29 dc29 pm29 an29 cd29 ct29), sl29⟩)
    (c29 : PySem.W.codeIn K cd29 "Log._need_here" = true)
    (k29 : PySem.W.keepIn K (.ref f29) = true)
    (a30 : PySem.W.findIn K (.ref C_Log) "_write" = some (some (.ref f30)))
    (i30 : PySem.W.isFn K (.ref f30) = true)
    (l30 : K.lookup f30 = some ⟨oc30, od30, .func (PySem.W.fnOf "_write" "Log._write" (defArgs st_Log__write) (defBody st_Log__write) (defScope st_Log__write) .none kV30 dc30 pm30 an30 cd30 ct30), sl30⟩)
    (c30 : PySem.W.codeIn K cd30 "Log._write" = true)
    (k30 : PySem.W.keepIn K (.ref f30) = true)
    (a31 : PySem.W.findIn K (.ref C_Log) "_write_end" = some (some (.ref f31)))
    (i31 : PySem.W.isFn K (.ref f31) = true)
    (l31 : K.lookup f31 = some ⟨oc31, od31, .func (PySem.W.fnOf "_write_end" "Log._write_end" (defArgs st_Log__write_end) (defBody st_Log__write_end) (defScope st_Log__write_end) .none kV31 dc31 pm31 an31 cd31 ct31), sl31⟩)
    (c31 : PySem.W.codeIn K cd31 "Log._write_end" = true)
    (k31 : PySem.W.keepIn K (.ref f31) = true)
    (a32 : PySem.W.findIn K (.ref C_Log) "_wrote" = some (some (.ref f32)))
    (i32 : PySem.W.isFn K (.ref f32) = true)
    (l32 : K.lookup f32 = some ⟨oc32, od32, .func (PySem.W.fnOf "_wrote" "Log._wrote" (defArgs st_Log__wrote) (defBody st_Log__wrote) (defScope st_Log__wrote) .none kV32 dc32 pm32 an32 cd32 ct32), sl32⟩)
    (c32 : PySem.W.codeIn K cd32 "Log._wrote" = true)
    (k32 : PySem.W.keepIn K (.ref f32) = true)
    (a33 : PySem.W.nsIn K mainGlobals "carry" = some (some (.ref f33)))
    (l33 : K.lookup f33 = some ⟨oc33, od33, .func (PySem.W.fnOf "carry" "carry" (defArgs st_carry) (defBody st_carry) (defScope st_carry) .none kV33 dc33 pm33 an33 cd33 ct33), sl33⟩)
    (c33 : PySem.W.codeIn K cd33 "carry" = true)
    (k33 : PySem.W.keepIn K (.ref f33) = true)
    (a34 : PySem.W.nsIn K mainGlobals "_is_block" = some (some (.ref f34)))
    (l34 : K.lookup f34 = some ⟨oc34, od34, .func (PySem.W.fnOf "_is_block" "_is_block" (defArgs st_is_block) (defBody st_is_block) (defScope st_is_block) .none kV34 dc34 pm34 an34 cd34 ct34), sl34⟩)
    (c34 : PySem.W.codeIn K cd34 "_is_block" = true)
    (k34 : PySem.W.keepIn K (.ref f34) = true)
    (a35 : PySem.W.findIn K (.ref C_Disk) "__init__" = some (some (.ref f35)))
    (i35 : PySem.W.isFn K (.ref f35) = true)
    (l35 : K.lookup f35 = some ⟨oc35, od35, .func (PySem.W.fnOf "__init__" "Disk.__init__" (defArgs st_Disk___init__) (defBody st_Disk___init__) (defScope st_Disk___init__) .none kV35 dc35 pm35 an35 cd35 ct35), sl35⟩)
    (c35 : PySem.W.codeIn K cd35 "Disk.__init__" = true)
    (k35 : PySem.W.keepIn K (.ref f35) = true)
    (a36 : PySem.W.findIn K (.ref C_Disk) "blocks" = some (some (.ref f36)))
    (i36 : PySem.W.isFn K (.ref f36) = true)
    (l36 : K.lookup f36 = some ⟨oc36, od36, .func (PySem.W.fnOf "blocks" "Disk.blocks" (defArgs st_Disk_blocks) (defBody st_Disk_blocks) (defScope st_Disk_blocks) .none kV36 dc36 pm36 an36 cd36 ct36), sl36⟩)
    (c36 : PySem.W.codeIn K cd36 "Disk.blocks" = true)
    (k36 : PySem.W.keepIn K (.ref f36) = true)
    (a37 : PySem.W.findIn K (.ref C_Disk) "read" = some (some (.ref f37)))
    (i37 : PySem.W.isFn K (.ref f37) = true)
    (l37 : K.lookup f37 = some ⟨oc37, od37, .func (PySem.W.fnOf "read" "Disk.read" (defArgs st_Disk_read) (defBody st_Disk_read) (defScope st_Disk_read) .none kV37 dc37 pm37 an37 cd37 ct37), sl37⟩)
    (c37 : PySem.W.codeIn K cd37 "Disk.read" = true)
    (k37 : PySem.W.keepIn K (.ref f37) = true)
    (a38 : PySem.W.findIn K (.ref C_Disk) "write" = some (some (.ref f38)))
    (i38 : PySem.W.isFn K (.ref f38) = true)
    (l38 : K.lookup f38 = some ⟨oc38, od38, .func (PySem.W.fnOf "write" "Disk.write" (defArgs st_Disk_write) (defBody st_Disk_write) (defScope st_Disk_write) .none kV38 dc38 pm38 an38 cd38 ct38), sl38⟩)
    (c38 : PySem.W.codeIn K cd38 "Disk.write" = true)
    (k38 : PySem.W.keepIn K (.ref f38) = true)
    (a39 : PySem.W.findIn K (.ref C_Disk) "reads" = some (some (.ref f39)))
    (i39 : PySem.W.isFn K (.ref f39) = true)
    (l39 : K.lookup f39 = some ⟨oc39, od39, .func (PySem.W.fnOf "reads" "Disk.reads" (defArgs st_Disk_reads) (defBody st_Disk_reads) (defScope st_Disk_reads) .none kV39 dc39 pm39 an39 cd39 ct39), sl39⟩)
    (c39 : PySem.W.codeIn K cd39 "Disk.reads" = true)
    (k39 : PySem.W.keepIn K (.ref f39) = true)
    (a40 : PySem.W.findIn K (.ref C_Disk) "writes" = some (some (.ref f40)))
    (i40 : PySem.W.isFn K (.ref f40) = true)
    (l40 : K.lookup f40 = some ⟨oc40, od40, .func (PySem.W.fnOf "writes" "Disk.writes" (defArgs st_Disk_writes) (defBody st_Disk_writes) (defScope st_Disk_writes) .none kV40 dc40 pm40 an40 cd40 ct40), sl40⟩)
    (c40 : PySem.W.codeIn K cd40 "Disk.writes" = true)
    (k40 : PySem.W.keepIn K (.ref f40) = true)
    (a41 : PySem.W.findIn K (.ref C_Disk) "stop_after" = some (some (.ref f41)))
    (i41 : PySem.W.isFn K (.ref f41) = true)
    (l41 : K.lookup f41 = some ⟨oc41, od41, .func (PySem.W.fnOf "stop_after" "Disk.stop_after" (defArgs st_Disk_stop_after) (defBody st_Disk_stop_after) (defScope st_Disk_stop_after) .none kV41 dc41 pm41 an41 cd41 ct41), sl41⟩)
    (c41 : PySem.W.codeIn K cd41 "Disk.stop_after" = true)
    (k41 : PySem.W.keepIn K (.ref f41) = true)
    (a42 : PySem.W.findIn K (.ref C_Disk) "go_on" = some (some (.ref f42)))
    (i42 : PySem.W.isFn K (.ref f42) = true)
    (l42 : K.lookup f42 = some ⟨oc42, od42, .func (PySem.W.fnOf "go_on" "Disk.go_on" (defArgs st_Disk_go_on) (defBody st_Disk_go_on) (defScope st_Disk_go_on) .none kV42 dc42 pm42 an42 cd42 ct42), sl42⟩)
    (c42 : PySem.W.codeIn K cd42 "Disk.go_on" = true)
    (k42 : PySem.W.keepIn K (.ref f42) = true)
    (a43 : PySem.W.findIn K (.ref C_Disk) "twin" = some (some (.ref f43)))
    (i43 : PySem.W.isFn K (.ref f43) = true)
    (l43 : K.lookup f43 = some ⟨oc43, od43, .func (PySem.W.fnOf "twin" "Disk.twin" (defArgs st_Disk_twin) (defBody st_Disk_twin) (defScope st_Disk_twin) .none kV43 dc43 pm43 an43 cd43 ct43), sl43⟩)
    (c43 : PySem.W.codeIn K cd43 "Disk.twin" = true)
    (k43 : PySem.W.keepIn K (.ref f43) = true)
    (a44 : PySem.W.findIn K (.ref C_Disk) "_need_place" = some (some (.ref f44)))
    (i44 : PySem.W.isFn K (.ref f44) = true)
    (l44 : K.lookup f44 = some ⟨oc44, od44, .func (PySem.W.fnOf "_need_place" "Disk._need_place" (defArgs st_Disk__need_place) (defBody st_Disk__need_place) (defScope st_Disk__need_place) .none kV44 dc44 pm44 an44 cd44 ct44), sl44⟩)
    (c44 : PySem.W.codeIn K cd44 "Disk._need_place" = true)
    (k44 : PySem.W.keepIn K (.ref f44) = true)
    (a45 : PySem.W.findIn K (.ref C_Disk) "_write_part" = some (some (.ref f45)))
    (i45 : PySem.W.isFn K (.ref f45) = true)
    (l45 : K.lookup f45 = some ⟨oc45, od45, .func (PySem.W.fnOf "_write_part" "Disk._write_part" (defArgs st_Disk__write_part) (defBody st_Disk__write_part) (defScope st_Disk__write_part) .none kV45 dc45 pm45 an45 cd45 ct45), sl45⟩)
    (c45 : PySem.W.codeIn K cd45 "Disk._write_part" = true)
    (k45 : PySem.W.keepIn K (.ref f45) = true)
    (a46 : PySem.W.nsIn K mainGlobals "order_of" = some (some (.ref f46)))
    (l46 : K.lookup f46 = some ⟨oc46, od46, .func (PySem.W.fnOf "order_of" "order_of" (defArgs st_order_of) (defBody st_order_of) (defScope st_order_of) .none kV46 dc46 pm46 an46 cd46 ct46), sl46⟩)
    (c46 : PySem.W.codeIn K cd46 "order_of" = true)
    (k46 : PySem.W.keepIn K (.ref f46) = true)
    (a47 : PySem.W.nsIn K mainGlobals "_row_in" = some (some (.ref f47)))
    (l47 : K.lookup f47 = some ⟨oc47, od47, .func (PySem.W.fnOf "_row_in" "_row_in" (defArgs st_row_in) (defBody st_row_in) (defScope st_row_in) .none kV47 dc47 pm47 an47 cd47 ct47), sl47⟩)
    (c47 : PySem.W.codeIn K cd47 "_row_in" = true)
    (k47 : PySem.W.keepIn K (.ref f47) = true)
    (a48 : PySem.W.nsIn K mainGlobals "_number_in" = some (some (.ref f48)))
    (l48 : K.lookup f48 = some ⟨oc48, od48, .func (PySem.W.fnOf "_number_in" "_number_in" (defArgs st_number_in) (defBody st_number_in) (defScope st_number_in) .none kV48 dc48 pm48 an48 cd48 ct48), sl48⟩)
    (c48 : PySem.W.codeIn K cd48 "_number_in" = true)
    (k48 : PySem.W.keepIn K (.ref f48) = true)
    (a49 : PySem.W.nsIn K mainGlobals "_law_taken" = some (some (.ref f49)))
    (l49 : K.lookup f49 = some ⟨oc49, od49, .func (PySem.W.fnOf "_law_taken" "_law_taken" (defArgs st_law_taken) (defBody st_law_taken) (defScope st_law_taken) .none kV49 dc49 pm49 an49 cd49 ct49), sl49⟩)
    (c49 : PySem.W.codeIn K cd49 "_law_taken" = true)
    (k49 : PySem.W.keepIn K (.ref f49) = true)
    (a50 : PySem.W.nsIn K mainGlobals "_law_odd" = some (some (.ref f50)))
    (l50 : K.lookup f50 = some ⟨oc50, od50, .func (PySem.W.fnOf "_law_odd" "_law_odd" (defArgs st_law_odd) (defBody st_law_odd) (defScope st_law_odd) .none kV50 dc50 pm50 an50 cd50 ct50), sl50⟩)
    (c50 : PySem.W.codeIn K cd50 "_law_odd" = true)
    (k50 : PySem.W.keepIn K (.ref f50) = true)
    (a51 : PySem.W.nsIn K mainGlobals "_law_of_disks" = some (some (.ref f51)))
    (l51 : K.lookup f51 = some ⟨oc51, od51, .func (PySem.W.fnOf "_law_of_disks" "_law_of_disks" (defArgs st_law_of_disks) (defBody st_law_of_disks) (defScope st_law_of_disks) .none kV51 dc51 pm51 an51 cd51 ct51), sl51⟩)
    (c51 : PySem.W.codeIn K cd51 "_law_of_disks" = true)
    (k51 : PySem.W.keepIn K (.ref f51) = true)
    (a52 : PySem.W.nsIn K mainGlobals "_law_of_logs" = some (some (.ref f52)))
    (l52 : K.lookup f52 = some ⟨oc52, od52, .func (PySem.W.fnOf "_law_of_logs" "_law_of_logs" (defArgs st_law_of_logs) (defBody st_law_of_logs) (defScope st_law_of_logs) .none kV52 dc52 pm52 an52 cd52 ct52), sl52⟩)
    (c52 : PySem.W.codeIn K cd52 "_law_of_logs" = true)
    (k52 : PySem.W.keepIn K (.ref f52) = true)
    (a53 : PySem.W.nsIn K mainGlobals "_law_kinds" = some (some (.ref f53)))
    (l53 : K.lookup f53 = some ⟨oc53, od53, .func (PySem.W.fnOf "_law_kinds" "_law_kinds" (defArgs st_law_kinds) (defBody st_law_kinds) (defScope st_law_kinds) .none kV53 dc53 pm53 an53 cd53 ct53), sl53⟩)
    (c53 : PySem.W.codeIn K cd53 "_law_kinds" = true)
    (k53 : PySem.W.keepIn K (.ref f53) = true)
    (a54 : PySem.W.nsIn K mainGlobals "law" = some (some (.ref f54)))
    (l54 : K.lookup f54 = some ⟨oc54, od54, .func (PySem.W.fnOf "law" "law" (defArgs st_law) (defBody st_law) (defScope st_law) .none kV54 dc54 pm54 an54 cd54 ct54), sl54⟩)
    (c54 : PySem.W.codeIn K cd54 "law" = true)
    (k54 : PySem.W.keepIn K (.ref f54) = true)
    (z_ValueError : PySem.W.nsIn K mainGlobals "ValueError" = some none)
    (z_all : PySem.W.nsIn K mainGlobals "all" = some none)
    (z_bool : PySem.W.nsIn K mainGlobals "bool" = some none)
    (z_enumerate : PySem.W.nsIn K mainGlobals "enumerate" = some none)
    (z_int : PySem.W.nsIn K mainGlobals "int" = some none)
    (z_isinstance : PySem.W.nsIn K mainGlobals "isinstance" = some none)
    (z_len : PySem.W.nsIn K mainGlobals "len" = some none)
    (z_list : PySem.W.nsIn K mainGlobals "list" = some none)
    (z_range : PySem.W.nsIn K mainGlobals "range" = some none)
    (z_str : PySem.W.nsIn K mainGlobals "str" = some none)
    (z_sum : PySem.W.nsIn K mainGlobals "sum" = some none)
    (z_tuple : PySem.W.nsIn K mainGlobals "tuple" = some none)
    (q_PIECE_WORDS : PySem.W.nsIn K mainGlobals "PIECE_WORDS" = some (some (.int 3 t_PIECE_WORDS)))
    (q_NUMBER : PySem.W.nsIn K mainGlobals "NUMBER" = some (some (.int 0 t_NUMBER)))
    (q_FLOOR : PySem.W.nsIn K mainGlobals "FLOOR" = some (some (.int 1 t_FLOOR)))
    (q_BEGIN : PySem.W.nsIn K mainGlobals "BEGIN" = some (some (.int 2 t_BEGIN)))
    (q_LEFT : PySem.W.nsIn K mainGlobals "LEFT" = some (some (.int 3 t_LEFT)))
    (q_DATA_FROM : PySem.W.nsIn K mainGlobals "DATA_FROM" = some (some (.int 4 t_DATA_FROM)))
    (q_DATA_TO : PySem.W.nsIn K mainGlobals "DATA_TO" = some (some (.int 7 t_DATA_TO)))
    (q_NO_BEGIN : PySem.W.nsIn K mainGlobals "NO_BEGIN" = some (some (.int 0 t_NO_BEGIN)))
    (q_LEFT_OF_MARK : PySem.W.nsIn K mainGlobals "LEFT_OF_MARK" = some (some (.int 0 t_LEFT_OF_MARK)))
    (q_LEFT_OF_FAREWELL : PySem.W.nsIn K mainGlobals "LEFT_OF_FAREWELL" = some (some (.int 1 t_LEFT_OF_FAREWELL)))
    (q_MOST_WORDS : PySem.W.nsIn K mainGlobals "MOST_WORDS" = some (some (.int 11 t_MOST_WORDS)))
    (q_MOST_WORD_OF_ROW : PySem.W.nsIn K mainGlobals "MOST_WORD_OF_ROW" = some (some (.int 999999999 t_MOST_WORD_OF_ROW)))
    (q_LEAST_BLOCKS : PySem.W.nsIn K mainGlobals "LEAST_BLOCKS" = some (some (.int 4 t_LEAST_BLOCKS)))
    (q_MOST_BLOCKS : PySem.W.nsIn K mainGlobals "MOST_BLOCKS" = some (some (.int 64 t_MOST_BLOCKS)))
    (q_BLOCK_WORDS : PySem.W.nsIn K mainGlobals "BLOCK_WORDS" = some (some (.int 8 t_BLOCK_WORDS)))
    (q_MOST_WORD : PySem.W.nsIn K mainGlobals "MOST_WORD" = some (some (.int 1000000000000000 t_MOST_WORD)))
    (q_MOST_COUNT : PySem.W.nsIn K mainGlobals "MOST_COUNT" = some (some (.int 1000000000000000 t_MOST_COUNT)))
    (q_MOST_PART : PySem.W.nsIn K mainGlobals "MOST_PART" = some (some (.int 7 t_MOST_PART)))
    (q_BARE_ORDERS : PySem.W.nsIn K mainGlobals "BARE_ORDERS" = some (some (.ref ua_BARE_ORDERS)))
    (w_BARE_ORDERS : K.lookup ua_BARE_ORDERS = some ⟨.type "tuple", ud_BARE_ORDERS, .seq #[.str "take" u_BARE_ORDERS_0, .str "rows" u_BARE_ORDERS_1, .str "room" u_BARE_ORDERS_2, .str "rise" u_BARE_ORDERS_3] un_BARE_ORDERS, us_BARE_ORDERS⟩) :
    ∃ fd : FuncData, (∀ (s : Shared) (v : Value), BindsTo s fd ⟨[v], []⟩ [("_law_script", v)]) ∧ ∀ base : Heap, K.In base → base.Ns mainGlobals mg → FnOk l.prog w K mg base CX0 10 fa fd ["_law_script"] (sp_law K Z0) := by
  have e := hfa.symm.trans (PySem.W.mg_of X G a54)
  cases e
  have T : Txt K mg ⟨(), C_LogError, C_BadDisk, C_NoBlock, C_BadBlock, C_BadStop, C_Stopped, C_BadRow, C_Full, C_Empty, C_Gone, C_BadOrder, C_Log, C_Disk⟩ := { ok_ := trivial, m_ValueError := PySem.W.mg_none_of X G z_ValueError, m_all := PySem.W.mg_none_of X G z_all, m_bool := PySem.W.mg_none_of X G z_bool, m_enumerate := PySem.W.mg_none_of X G z_enumerate, m_int := PySem.W.mg_none_of X G z_int, m_isinstance := PySem.W.mg_none_of X G z_isinstance, m_len := PySem.W.mg_none_of X G z_len, m_list := PySem.W.mg_none_of X G z_list, m_range := PySem.W.mg_none_of X G z_range, m_str := PySem.W.mg_none_of X G z_str, m_sum := PySem.W.mg_none_of X G z_sum, m_tuple := PySem.W.mg_none_of X G z_tuple, cl_Log := ⟨pg_Log, hd_Log, po_Log, sa_Log⟩, g_Log := PySem.W.mg_of X G aC_Log, na_Log__cut := na_Log__cut, na_Log__disk := na_Log__disk, na_Log__gone := na_Log__gone, na_Log__number := na_Log__number, na_Log__rows := na_Log__rows, na_Log__torn := na_Log__torn, cl_Disk := ⟨pg_Disk, hd_Disk, po_Disk, sa_Disk⟩, g_Disk := PySem.W.mg_of X G aC_Disk, na_Disk__blocks := na_Disk__blocks, na_Disk__let := na_Disk__let, na_Disk__part := na_Disk__part, na_Disk__reads := na_Disk__reads, na_Disk__writes := na_Disk__writes, g_BadBlock := PySem.W.mg_of X G aC_BadBlock, x_BadBlock := x_BadBlock, kp_BadBlock := kp_BadBlock, sb_BadBlock := sb_BadBlock, ty_BadBlock := ty_BadBlock, g_BadDisk := PySem.W.mg_of X G aC_BadDisk, x_BadDisk := x_BadDisk, kp_BadDisk := kp_BadDisk, sb_BadDisk := sb_BadDisk, ty_BadDisk := ty_BadDisk, g_BadOrder := PySem.W.mg_of X G aC_BadOrder, x_BadOrder := x_BadOrder, kp_BadOrder := kp_BadOrder, sb_BadOrder := sb_BadOrder, ty_BadOrder := ty_BadOrder, g_BadRow := PySem.W.mg_of X G aC_BadRow, x_BadRow := x_BadRow, kp_BadRow := kp_BadRow, sb_BadRow := sb_BadRow, ty_BadRow := ty_BadRow, g_BadStop := PySem.W.mg_of X G aC_BadStop, x_BadStop := x_BadStop, kp_BadStop := kp_BadStop, sb_BadStop := sb_BadStop, ty_BadStop := ty_BadStop, g_Empty := PySem.W.mg_of X G aC_Empty, x_Empty := x_Empty, kp_Empty := kp_Empty, sb_Empty := sb_Empty, ty_Empty := ty_Empty, g_Full := PySem.W.mg_of X G aC_Full, x_Full := x_Full, kp_Full := kp_Full, sb_Full := sb_Full, ty_Full := ty_Full, g_Gone := PySem.W.mg_of X G aC_Gone, x_Gone := x_Gone, kp_Gone := kp_Gone, sb_Gone := sb_Gone, ty_Gone := ty_Gone, g_LogError := PySem.W.mg_of X G aC_LogError, x_LogError := x_LogError, kp_LogError := kp_LogError, sb_LogError := sb_LogError, ty_LogError := ty_LogError, g_NoBlock := PySem.W.mg_of X G aC_NoBlock, x_NoBlock := x_NoBlock, kp_NoBlock := kp_NoBlock, sb_NoBlock := sb_NoBlock, ty_NoBlock := ty_NoBlock, g_Stopped := PySem.W.mg_of X G aC_Stopped, x_Stopped := x_Stopped, kp_Stopped := kp_Stopped, sb_Stopped := sb_Stopped, ty_Stopped := ty_Stopped, ec_BadBlock := ⟨yg_BadBlock, yk_BadBlock, sb_BadBlock, yd_BadBlock, ya_BadBlock, yn, yt, ym_BadBlock⟩, kv_BadBlock := kit_ofT (by decide +kernel) sv_BadBlock, ki_BadBlock_BadBlock := kit_of ic_BadBlock ty_BadBlock si_BadBlock_BadBlock (.inl rfl), ki_BadBlock_BadDisk := kit_of ic_BadDisk ty_BadDisk si_BadBlock_BadDisk (.inr nq_BadBlock_BadDisk), ki_BadBlock_BadOrder := kit_of ic_BadOrder ty_BadOrder si_BadBlock_BadOrder (.inr nq_BadBlock_BadOrder), ki_BadBlock_BadRow := kit_of ic_BadRow ty_BadRow si_BadBlock_BadRow (.inr nq_BadBlock_BadRow), ki_BadBlock_BadStop := kit_of ic_BadStop ty_BadStop si_BadBlock_BadStop (.inr nq_BadBlock_BadStop), ki_BadBlock_Empty := kit_of ic_Empty ty_Empty si_BadBlock_Empty (.inr nq_BadBlock_Empty), ki_BadBlock_Full := kit_of ic_Full ty_Full si_BadBlock_Full (.inr nq_BadBlock_Full), ki_BadBlock_Gone := kit_of ic_Gone ty_Gone si_BadBlock_Gone (.inr nq_BadBlock_Gone), ki_BadBlock_NoBlock := kit_of ic_NoBlock ty_NoBlock si_BadBlock_NoBlock (.inr nq_BadBlock_NoBlock), ki_BadBlock_Stopped := kit_of ic_Stopped ty_Stopped si_BadBlock_Stopped (.inr nq_BadBlock_Stopped), ec_BadDisk := ⟨yg_BadDisk, yk_BadDisk, sb_BadDisk, yd_BadDisk, ya_BadDisk, yn, yt, ym_BadDisk⟩, kv_BadDisk := kit_ofT (by decide +kernel) sv_BadDisk, ki_BadDisk_BadBlock := kit_of ic_BadBlock ty_BadBlock si_BadDisk_BadBlock (.inr nq_BadDisk_BadBlock), ki_BadDisk_BadDisk := kit_of ic_BadDisk ty_BadDisk si_BadDisk_BadDisk (.inl rfl), ki_BadDisk_BadOrder := kit_of ic_BadOrder ty_BadOrder si_BadDisk_BadOrder (.inr nq_BadDisk_BadOrder), ki_BadDisk_BadRow := kit_of ic_BadRow ty_BadRow si_BadDisk_BadRow (.inr nq_BadDisk_BadRow), ki_BadDisk_BadStop := kit_of ic_BadStop ty_BadStop si_BadDisk_BadStop (.inr nq_BadDisk_BadStop), ki_BadDisk_Empty := kit_of ic_Empty ty_Empty si_BadDisk_Empty (.inr nq_BadDisk_Empty), ki_BadDisk_Full := kit_of ic_Full ty_Full si_BadDisk_Full (.inr nq_BadDisk_Full), ki_BadDisk_Gone := kit_of ic_Gone ty_Gone si_BadDisk_Gone (.inr nq_BadDisk_Gone), ki_BadDisk_NoBlock := kit_of ic_NoBlock ty_NoBlock si_BadDisk_NoBlock (.inr nq_BadDisk_NoBlock), ki_BadDisk_Stopped := kit_of ic_Stopped ty_Stopped si_BadDisk_Stopped (.inr nq_BadDisk_Stopped), ec_BadOrder := ⟨yg_BadOrder, yk_BadOrder, sb_BadOrder, yd_BadOrder, ya_BadOrder, yn, yt, ym_BadOrder⟩, kv_BadOrder := kit_ofT (by decide +kernel) sv_BadOrder, ki_BadOrder_BadBlock := kit_of ic_BadBlock ty_BadBlock si_BadOrder_BadBlock (.inr nq_BadOrder_BadBlock), ki_BadOrder_BadDisk := kit_of ic_BadDisk ty_BadDisk si_BadOrder_BadDisk (.inr nq_BadOrder_BadDisk), ki_BadOrder_BadOrder := kit_of ic_BadOrder ty_BadOrder si_BadOrder_BadOrder (.inl rfl), ki_BadOrder_BadRow := kit_of ic_BadRow ty_BadRow si_BadOrder_BadRow (.inr nq_BadOrder_BadRow), ki_BadOrder_BadStop := kit_of ic_BadStop ty_BadStop si_BadOrder_BadStop (.inr nq_BadOrder_BadStop), ki_BadOrder_Empty := kit_of ic_Empty ty_Empty si_BadOrder_Empty (.inr nq_BadOrder_Empty), ki_BadOrder_Full := kit_of ic_Full ty_Full si_BadOrder_Full (.inr nq_BadOrder_Full), ki_BadOrder_Gone := kit_of ic_Gone ty_Gone si_BadOrder_Gone (.inr nq_BadOrder_Gone), ki_BadOrder_NoBlock := kit_of ic_NoBlock ty_NoBlock si_BadOrder_NoBlock (.inr nq_BadOrder_NoBlock), ki_BadOrder_Stopped := kit_of ic_Stopped ty_Stopped si_BadOrder_Stopped (.inr nq_BadOrder_Stopped), ec_BadRow := ⟨yg_BadRow, yk_BadRow, sb_BadRow, yd_BadRow, ya_BadRow, yn, yt, ym_BadRow⟩, kv_BadRow := kit_ofT (by decide +kernel) sv_BadRow, ki_BadRow_BadBlock := kit_of ic_BadBlock ty_BadBlock si_BadRow_BadBlock (.inr nq_BadRow_BadBlock), ki_BadRow_BadDisk := kit_of ic_BadDisk ty_BadDisk si_BadRow_BadDisk (.inr nq_BadRow_BadDisk), ki_BadRow_BadOrder := kit_of ic_BadOrder ty_BadOrder si_BadRow_BadOrder (.inr nq_BadRow_BadOrder), ki_BadRow_BadRow := kit_of ic_BadRow ty_BadRow si_BadRow_BadRow (.inl rfl), ki_BadRow_BadStop := kit_of ic_BadStop ty_BadStop si_BadRow_BadStop (.inr nq_BadRow_BadStop), ki_BadRow_Empty := kit_of ic_Empty ty_Empty si_BadRow_Empty (.inr nq_BadRow_Empty), ki_BadRow_Full := kit_of ic_Full ty_Full si_BadRow_Full (.inr nq_BadRow_Full), ki_BadRow_Gone := kit_of ic_Gone ty_Gone si_BadRow_Gone (.inr nq_BadRow_Gone), ki_BadRow_NoBlock := kit_of ic_NoBlock ty_NoBlock si_BadRow_NoBlock (.inr nq_BadRow_NoBlock), ki_BadRow_Stopped := kit_of ic_Stopped ty_Stopped si_BadRow_Stopped (.inr nq_BadRow_Stopped), ec_BadStop := ⟨yg_BadStop, yk_BadStop, sb_BadStop, yd_BadStop, ya_BadStop, yn, yt, ym_BadStop⟩, kv_BadStop := kit_ofT (by decide +kernel) sv_BadStop, ki_BadStop_BadBlock := kit_of ic_BadBlock ty_BadBlock si_BadStop_BadBlock (.inr nq_BadStop_BadBlock), ki_BadStop_BadDisk := kit_of ic_BadDisk ty_BadDisk si_BadStop_BadDisk (.inr nq_BadStop_BadDisk), ki_BadStop_BadOrder := kit_of ic_BadOrder ty_BadOrder si_BadStop_BadOrder (.inr nq_BadStop_BadOrder), ki_BadStop_BadRow := kit_of ic_BadRow ty_BadRow si_BadStop_BadRow (.inr nq_BadStop_BadRow), ki_BadStop_BadStop := kit_of ic_BadStop ty_BadStop si_BadStop_BadStop (.inl rfl), ki_BadStop_Empty := kit_of ic_Empty ty_Empty si_BadStop_Empty (.inr nq_BadStop_Empty), ki_BadStop_Full := kit_of ic_Full ty_Full si_BadStop_Full (.inr nq_BadStop_Full), ki_BadStop_Gone := kit_of ic_Gone ty_Gone si_BadStop_Gone (.inr nq_BadStop_Gone), ki_BadStop_NoBlock := kit_of ic_NoBlock ty_NoBlock si_BadStop_NoBlock (.inr nq_BadStop_NoBlock), ki_BadStop_Stopped := kit_of ic_Stopped ty_Stopped si_BadStop_Stopped (.inr nq_BadStop_Stopped), ec_Empty := ⟨yg_Empty, yk_Empty, sb_Empty, yd_Empty, ya_Empty, yn, yt, ym_Empty⟩, kv_Empty := kit_ofT (by decide +kernel) sv_Empty, ki_Empty_BadBlock := kit_of ic_BadBlock ty_BadBlock si_Empty_BadBlock (.inr nq_Empty_BadBlock), ki_Empty_BadDisk := kit_of ic_BadDisk ty_BadDisk si_Empty_BadDisk (.inr nq_Empty_BadDisk), ki_Empty_BadOrder := kit_of ic_BadOrder ty_BadOrder si_Empty_BadOrder (.inr nq_Empty_BadOrder), ki_Empty_BadRow := kit_of ic_BadRow ty_BadRow si_Empty_BadRow (.inr nq_Empty_BadRow), ki_Empty_BadStop := kit_of ic_BadStop ty_BadStop si_Empty_BadStop (.inr nq_Empty_BadStop), ki_Empty_Empty := kit_of ic_Empty ty_Empty si_Empty_Empty (.inl rfl), ki_Empty_Full := kit_of ic_Full ty_Full si_Empty_Full (.inr nq_Empty_Full), ki_Empty_Gone := kit_of ic_Gone ty_Gone si_Empty_Gone (.inr nq_Empty_Gone), ki_Empty_NoBlock := kit_of ic_NoBlock ty_NoBlock si_Empty_NoBlock (.inr nq_Empty_NoBlock), ki_Empty_Stopped := kit_of ic_Stopped ty_Stopped si_Empty_Stopped (.inr nq_Empty_Stopped), ec_Full := ⟨yg_Full, yk_Full, sb_Full, yd_Full, ya_Full, yn, yt, ym_Full⟩, kv_Full := kit_ofT (by decide +kernel) sv_Full, ki_Full_BadBlock := kit_of ic_BadBlock ty_BadBlock si_Full_BadBlock (.inr nq_Full_BadBlock), ki_Full_BadDisk := kit_of ic_BadDisk ty_BadDisk si_Full_BadDisk (.inr nq_Full_BadDisk), ki_Full_BadOrder := kit_of ic_BadOrder ty_BadOrder si_Full_BadOrder (.inr nq_Full_BadOrder), ki_Full_BadRow := kit_of ic_BadRow ty_BadRow si_Full_BadRow (.inr nq_Full_BadRow), ki_Full_BadStop := kit_of ic_BadStop ty_BadStop si_Full_BadStop (.inr nq_Full_BadStop), ki_Full_Empty := kit_of ic_Empty ty_Empty si_Full_Empty (.inr nq_Full_Empty), ki_Full_Full := kit_of ic_Full ty_Full si_Full_Full (.inl rfl), ki_Full_Gone := kit_of ic_Gone ty_Gone si_Full_Gone (.inr nq_Full_Gone), ki_Full_NoBlock := kit_of ic_NoBlock ty_NoBlock si_Full_NoBlock (.inr nq_Full_NoBlock), ki_Full_Stopped := kit_of ic_Stopped ty_Stopped si_Full_Stopped (.inr nq_Full_Stopped), ec_Gone := ⟨yg_Gone, yk_Gone, sb_Gone, yd_Gone, ya_Gone, yn, yt, ym_Gone⟩, kv_Gone := kit_ofT (by decide +kernel) sv_Gone, ki_Gone_BadBlock := kit_of ic_BadBlock ty_BadBlock si_Gone_BadBlock (.inr nq_Gone_BadBlock), ki_Gone_BadDisk := kit_of ic_BadDisk ty_BadDisk si_Gone_BadDisk (.inr nq_Gone_BadDisk), ki_Gone_BadOrder := kit_of ic_BadOrder ty_BadOrder si_Gone_BadOrder (.inr nq_Gone_BadOrder), ki_Gone_BadRow := kit_of ic_BadRow ty_BadRow si_Gone_BadRow (.inr nq_Gone_BadRow), ki_Gone_BadStop := kit_of ic_BadStop ty_BadStop si_Gone_BadStop (.inr nq_Gone_BadStop), ki_Gone_Empty := kit_of ic_Empty ty_Empty si_Gone_Empty (.inr nq_Gone_Empty), ki_Gone_Full := kit_of ic_Full ty_Full si_Gone_Full (.inr nq_Gone_Full), ki_Gone_Gone := kit_of ic_Gone ty_Gone si_Gone_Gone (.inl rfl), ki_Gone_NoBlock := kit_of ic_NoBlock ty_NoBlock si_Gone_NoBlock (.inr nq_Gone_NoBlock), ki_Gone_Stopped := kit_of ic_Stopped ty_Stopped si_Gone_Stopped (.inr nq_Gone_Stopped), ec_NoBlock := ⟨yg_NoBlock, yk_NoBlock, sb_NoBlock, yd_NoBlock, ya_NoBlock, yn, yt, ym_NoBlock⟩, kv_NoBlock := kit_ofT (by decide +kernel) sv_NoBlock, ki_NoBlock_BadBlock := kit_of ic_BadBlock ty_BadBlock si_NoBlock_BadBlock (.inr nq_NoBlock_BadBlock), ki_NoBlock_BadDisk := kit_of ic_BadDisk ty_BadDisk si_NoBlock_BadDisk (.inr nq_NoBlock_BadDisk), ki_NoBlock_BadOrder := kit_of ic_BadOrder ty_BadOrder si_NoBlock_BadOrder (.inr nq_NoBlock_BadOrder), ki_NoBlock_BadRow := kit_of ic_BadRow ty_BadRow si_NoBlock_BadRow (.inr nq_NoBlock_BadRow), ki_NoBlock_BadStop := kit_of ic_BadStop ty_BadStop si_NoBlock_BadStop (.inr nq_NoBlock_BadStop), ki_NoBlock_Empty := kit_of ic_Empty ty_Empty si_NoBlock_Empty (.inr nq_NoBlock_Empty), ki_NoBlock_Full := kit_of ic_Full ty_Full si_NoBlock_Full (.inr nq_NoBlock_Full), ki_NoBlock_Gone := kit_of ic_Gone ty_Gone si_NoBlock_Gone (.inr nq_NoBlock_Gone), ki_NoBlock_NoBlock := kit_of ic_NoBlock ty_NoBlock si_NoBlock_NoBlock (.inl rfl), ki_NoBlock_Stopped := kit_of ic_Stopped ty_Stopped si_NoBlock_Stopped (.inr nq_NoBlock_Stopped), ec_Stopped := ⟨yg_Stopped, yk_Stopped, sb_Stopped, yd_Stopped, ya_Stopped, yn, yt, ym_Stopped⟩, kv_Stopped := kit_ofT (by decide +kernel) sv_Stopped, ki_Stopped_BadBlock := kit_of ic_BadBlock ty_BadBlock si_Stopped_BadBlock (.inr nq_Stopped_BadBlock), ki_Stopped_BadDisk := kit_of ic_BadDisk ty_BadDisk si_Stopped_BadDisk (.inr nq_Stopped_BadDisk), ki_Stopped_BadOrder := kit_of ic_BadOrder ty_BadOrder si_Stopped_BadOrder (.inr nq_Stopped_BadOrder), ki_Stopped_BadRow := kit_of ic_BadRow ty_BadRow si_Stopped_BadRow (.inr nq_Stopped_BadRow), ki_Stopped_BadStop := kit_of ic_BadStop ty_BadStop si_Stopped_BadStop (.inr nq_Stopped_BadStop), ki_Stopped_Empty := kit_of ic_Empty ty_Empty si_Stopped_Empty (.inr nq_Stopped_Empty), ki_Stopped_Full := kit_of ic_Full ty_Full si_Stopped_Full (.inr nq_Stopped_Full), ki_Stopped_Gone := kit_of ic_Gone ty_Gone si_Stopped_Gone (.inr nq_Stopped_Gone), ki_Stopped_NoBlock := kit_of ic_NoBlock ty_NoBlock si_Stopped_NoBlock (.inr nq_Stopped_NoBlock), ki_Stopped_Stopped := kit_of ic_Stopped ty_Stopped si_Stopped_Stopped (.inl rfl), e_BadBlock_LogError := exm_of sb_LogError ic_LogError ty_LogError s_BadBlock_LogError, e_BadDisk_LogError := exm_of sb_LogError ic_LogError ty_LogError s_BadDisk_LogError, e_BadOrder_LogError := exm_of sb_LogError ic_LogError ty_LogError s_BadOrder_LogError, e_BadRow_LogError := exm_of sb_LogError ic_LogError ty_LogError s_BadRow_LogError, e_BadStop_LogError := exm_of sb_LogError ic_LogError ty_LogError s_BadStop_LogError, e_Empty_LogError := exm_of sb_LogError ic_LogError ty_LogError s_Empty_LogError, e_Full_LogError := exm_of sb_LogError ic_LogError ty_LogError s_Full_LogError, e_Gone_LogError := exm_of sb_LogError ic_LogError ty_LogError s_Gone_LogError, e_NoBlock_LogError := exm_of sb_LogError ic_LogError ty_LogError s_NoBlock_LogError, e_Stopped_LogError := exm_of sb_LogError ic_LogError ty_LogError s_Stopped_LogError, c_PIECE_WORDS := ⟨_, PySem.W.mg_of X G q_PIECE_WORDS⟩, c_NUMBER := ⟨_, PySem.W.mg_of X G q_NUMBER⟩, c_FLOOR := ⟨_, PySem.W.mg_of X G q_FLOOR⟩, c_BEGIN := ⟨_, PySem.W.mg_of X G q_BEGIN⟩, c_LEFT := ⟨_, PySem.W.mg_of X G q_LEFT⟩, c_DATA_FROM := ⟨_, PySem.W.mg_of X G q_DATA_FROM⟩, c_DATA_TO := ⟨_, PySem.W.mg_of X G q_DATA_TO⟩, c_NO_BEGIN := ⟨_, PySem.W.mg_of X G q_NO_BEGIN⟩, c_LEFT_OF_MARK := ⟨_, PySem.W.mg_of X G q_LEFT_OF_MARK⟩, c_LEFT_OF_FAREWELL := ⟨_, PySem.W.mg_of X G q_LEFT_OF_FAREWELL⟩, c_MOST_WORDS := ⟨_, PySem.W.mg_of X G q_MOST_WORDS⟩, c_MOST_WORD_OF_ROW := ⟨_, PySem.W.mg_of X G q_MOST_WORD_OF_ROW⟩, c_LEAST_BLOCKS := ⟨_, PySem.W.mg_of X G q_LEAST_BLOCKS⟩, c_MOST_BLOCKS := ⟨_, PySem.W.mg_of X G q_MOST_BLOCKS⟩, c_BLOCK_WORDS := ⟨_, PySem.W.mg_of X G q_BLOCK_WORDS⟩, c_MOST_WORD := ⟨_, PySem.W.mg_of X G q_MOST_WORD⟩, c_MOST_COUNT := ⟨_, PySem.W.mg_of X G q_MOST_COUNT⟩, c_MOST_PART := ⟨_, PySem.W.mg_of X G q_MOST_PART⟩, c_BARE_ORDERS := ⟨_, PySem.W.mg_of X G q_BARE_ORDERS, fun _ => .inr ⟨_, _, _, w_BARE_ORDERS, rfl, rfl, by show 4 ≤ sizeLine; decide, (.cons ⟨_, rfl⟩ (.cons ⟨_, rfl⟩ (.cons ⟨_, rfl⟩ (.cons ⟨_, rfl⟩ .nil))))⟩⟩ }
  have F0 := fun_mk (st := st_wall) l0 c0 k0
  have b0 := F0.binds (ps := ["k"]) fun _ _ _ _ _ _ us hl => match us, hl with | [_], _ => rfl
  have F1 := fun_mk (st := st_made) l1 c1 k1
  have b1 := F1.binds (ps := ["number", "floor", "begin", "left", "data"]) fun _ _ _ _ _ _ us hl => match us, hl with | [_, _, _, _, _], _ => rfl
  have F2 := fun_mk (st := st_made_mark) l2 c2 k2
  have b2 := F2.binds (ps := ["number", "floor"]) fun _ _ _ _ _ _ us hl => match us, hl with | [_, _], _ => rfl
  have F3 := fun_mk (st := st_made_farewell) l3 c3 k3
  have b3 := F3.binds (ps := ["number", "floor"]) fun _ _ _ _ _ _ us hl => match us, hl with | [_, _], _ => rfl
  have F4 := fun_mk (st := st_is_farewell) l4 c4 k4
  have b4 := F4.binds (ps := ["words"]) fun _ _ _ _ _ _ us hl => match us, hl with | [_], _ => rfl
  have F5 := fun_mk (st := st_kind) l5 c5 k5
  have b5 := F5.binds (ps := ["words", "place", "many"]) fun _ _ _ _ _ _ us hl => match us, hl with | [_, _, _], _ => rfl
  have F6 := fun_mk (st := st_pieces) l6 c6 k6
  have b6 := F6.binds (ps := ["row"]) fun _ _ _ _ _ _ us hl => match us, hl with | [_], _ => rfl
  have F7 := fun_mk (st := st_length_of) l7 c7 k7
  have b7 := F7.binds (ps := ["row"]) fun _ _ _ _ _ _ us hl => match us, hl with | [_], _ => rfl
  have F8 := fun_mk (st := st_words_of) l8 c8 k8
  have b8 := F8.binds (ps := ["some"]) fun _ _ _ _ _ _ us hl => match us, hl with | [_], _ => rfl
  have F9 := fun_mk (st := st_newest) l9 c9 k9
  have b9 := F9.binds (ps := ["disk"]) fun _ _ _ _ _ _ us hl => match us, hl with | [_], _ => rfl
  have F10 := fun_mk (st := st_number_in_last_place) l10 c10 k10
  have b10 := F10.binds (ps := ["disk"]) fun _ _ _ _ _ _ us hl => match us, hl with | [_], _ => rfl
  have F11 := fun_mk (st := st_newest_of_round) l11 c11 k11
  have b11 := F11.binds (ps := ["disk", "start"]) fun _ _ _ _ _ _ us hl => match us, hl with | [_, _], _ => rfl
  have F12 := fun_mk (st := st_rows_in) l12 c12 k12
  have b12 := F12.binds (ps := ["blocks"]) fun _ _ _ _ _ _ us hl => match us, hl with | [_], _ => rfl
  have F13 := fun_mk (st := st_cut_in) l13 c13 k13
  have b13 := F13.binds (ps := ["blocks"]) fun _ _ _ _ _ _ us hl => match us, hl with | [_], _ => rfl
  have F14 := fun_mk (st := st_by_row) l14 c14 k14
  have b14 := F14.binds (ps := ["blocks"]) fun _ _ _ _ _ _ us hl => match us, hl with | [_], _ => rfl
  have F15 := fun_mk (st := st_has_last) l15 c15 k15
  have b15 := F15.binds (ps := ["some"]) fun _ _ _ _ _ _ us hl => match us, hl with | [_], _ => rfl
  have F16 := fun_mk (st := st_is_whole) l16 c16 k16
  have b16 := F16.binds (ps := ["value", "low", "high"]) fun _ _ _ _ _ _ us hl => match us, hl with | [_, _, _], _ => rfl
  have F17 := fun_mk (st := st_is_row) l17 c17 k17
  have b17 := F17.binds (ps := ["row"]) fun _ _ _ _ _ _ us hl => match us, hl with | [_], _ => rfl
  have F18 := fun_mk (st := st_blocks_of_use) l18 c18 k18
  have b18 := F18.binds (ps := ["disk", "number"]) fun _ _ _ _ _ _ us hl => match us, hl with | [_, _], _ => rfl
  have F19 := fun_mk (st := st_floor_under) l19 c19 k19
  have b19 := F19.binds (ps := ["rows", "number"]) fun _ _ _ _ _ _ us hl => match us, hl with | [_, _], _ => rfl
  have F20 := fun_mk (st := st_Log___init__) l20 c20 k20
  have b20 := F20.binds (ps := ["self", "disk"]) fun _ _ _ _ _ _ us hl => match us, hl with | [_, _], _ => rfl
  have F21 := fun_mk (st := st_Log_rows) l21 c21 k21
  have b21 := F21.binds (ps := ["self"]) fun _ _ _ _ _ _ us hl => match us, hl with | [_], _ => rfl
  have F22 := fun_mk (st := st_Log_room) l22 c22 k22
  have b22 := F22.binds (ps := ["self"]) fun _ _ _ _ _ _ us hl => match us, hl with | [_], _ => rfl
  have F23 := fun_mk (st := st_Log_scars) l23 c23 k23
  have b23 := F23.binds (ps := ["self"]) fun _ _ _ _ _ _ us hl => match us, hl with | [_], _ => rfl
  have F24 := fun_mk (st := st_Log_gone) l24 c24 k24
  have b24 := F24.binds (ps := ["self"]) fun _ _ _ _ _ _ us hl => match us, hl with | [_], _ => rfl
  have F25 := fun_mk (st := st_Log_put) l25 c25 k25
  have b25 := F25.binds (ps := ["self", "row"]) fun _ _ _ _ _ _ us hl => match us, hl with | [_, _], _ => rfl
  have F26 := fun_mk (st := st_Log_take) l26 c26 k26
  have b26 := F26.binds (ps := ["self"]) fun _ _ _ _ _ _ us hl => match us, hl with | [_], _ => rfl
  have F27 := fun_mk (st := st_Log_take_all) l27 c27 k27
  have b27 := F27.binds (ps := ["self"]) fun _ _ _ _ _ _ us hl => match us, hl with | [_], _ => rfl
  have F28 := fun_mk (st := st_Log_leave) l28 c28 k28
  have b28 := F28.binds (ps := ["self"]) fun _ _ _ _ _ _ us hl => match us, hl with | [_], _ => rfl
  have F29 := fun_mk (st := st_Log__need_here) l29 c29 k29
  have b29 := F29.binds (ps := ["self"]) fun _ _ _ _ _ _ us hl => match us, hl with | [_], _ => rfl
  have F30 := fun_mk (st := st_Log__write) l30 c30 k30
  have b30 := F30.binds (ps := ["self", "words"]) fun _ _ _ _ _ _ us hl => match us, hl with | [_, _], _ => rfl
  have F31 := fun_mk (st := st_Log__write_end) l31 c31 k31
  have b31 := F31.binds (ps := ["self", "words"]) fun _ _ _ _ _ _ us hl => match us, hl with | [_, _], _ => rfl
  have F32 := fun_mk (st := st_Log__wrote) l32 c32 k32
  have b32 := F32.binds (ps := ["self", "number", "floor"]) fun _ _ _ _ _ _ us hl => match us, hl with | [_, _, _], _ => rfl
  have F33 := fun_mk (st := st_carry) l33 c33 k33
  have b33 := F33.binds (ps := ["old", "new"]) fun _ _ _ _ _ _ us hl => match us, hl with | [_, _], _ => rfl
  have F34 := fun_mk (st := st_is_block) l34 c34 k34
  have b34 := F34.binds (ps := ["words"]) fun _ _ _ _ _ _ us hl => match us, hl with | [_], _ => rfl
  have F35 := fun_mk (st := st_Disk___init__) l35 c35 k35
  have b35 := F35.binds (ps := ["self", "many"]) fun _ _ _ _ _ _ us hl => match us, hl with | [_, _], _ => rfl
  have F36 := fun_mk (st := st_Disk_blocks) l36 c36 k36
  have b36 := F36.binds (ps := ["self"]) fun _ _ _ _ _ _ us hl => match us, hl with | [_], _ => rfl
  have F37 := fun_mk (st := st_Disk_read) l37 c37 k37
  have b37 := F37.binds (ps := ["self", "place"]) fun _ _ _ _ _ _ us hl => match us, hl with | [_, _], _ => rfl
  have F38 := fun_mk (st := st_Disk_write) l38 c38 k38
  have b38 := F38.binds (ps := ["self", "place", "words"]) fun _ _ _ _ _ _ us hl => match us, hl with | [_, _, _], _ => rfl
  have F39 := fun_mk (st := st_Disk_reads) l39 c39 k39
  have b39 := F39.binds (ps := ["self"]) fun _ _ _ _ _ _ us hl => match us, hl with | [_], _ => rfl
  have F40 := fun_mk (st := st_Disk_writes) l40 c40 k40
  have b40 := F40.binds (ps := ["self"]) fun _ _ _ _ _ _ us hl => match us, hl with | [_], _ => rfl
  have F41 := fun_mk (st := st_Disk_stop_after) l41 c41 k41
  have b41 := F41.binds (ps := ["self", "count", "part"]) fun _ _ _ _ _ _ us hl => match us, hl with | [_, _, _], _ => rfl
  have F42 := fun_mk (st := st_Disk_go_on) l42 c42 k42
  have b42 := F42.binds (ps := ["self"]) fun _ _ _ _ _ _ us hl => match us, hl with | [_], _ => rfl
  have F43 := fun_mk (st := st_Disk_twin) l43 c43 k43
  have b43 := F43.binds (ps := ["self"]) fun _ _ _ _ _ _ us hl => match us, hl with | [_], _ => rfl
  have F44 := fun_mk (st := st_Disk__need_place) l44 c44 k44
  have b44 := F44.binds (ps := ["self", "place"]) fun _ _ _ _ _ _ us hl => match us, hl with | [_, _], _ => rfl
  have F45 := fun_mk (st := st_Disk__write_part) l45 c45 k45
  have b45 := F45.binds (ps := ["self", "place", "words"]) fun _ _ _ _ _ _ us hl => match us, hl with | [_, _, _], _ => rfl
  have F46 := fun_mk (st := st_order_of) l46 c46 k46
  have b46 := F46.binds (ps := ["line"]) fun _ _ _ _ _ _ us hl => match us, hl with | [_], _ => rfl
  have F47 := fun_mk (st := st_row_in) l47 c47 k47
  have b47 := F47.binds (ps := ["text"]) fun _ _ _ _ _ _ us hl => match us, hl with | [_], _ => rfl
  have F48 := fun_mk (st := st_number_in) l48 c48 k48
  have b48 := F48.binds (ps := ["text", "most"]) fun _ _ _ _ _ _ us hl => match us, hl with | [_, _], _ => rfl
  have F49 := fun_mk (st := st_law_taken) l49 c49 k49
  have b49 := F49.binds (ps := ["_law_row", "_law_many"]) fun _ _ _ _ _ _ us hl => match us, hl with | [_, _], _ => rfl
  have F50 := fun_mk (st := st_law_odd) l50 c50 k50
  have b50 := F50.binds (ps := ["_law_row"]) fun _ _ _ _ _ _ us hl => match us, hl with | [_], _ => rfl
  have F51 := fun_mk (st := st_law_of_disks) l51 c51 k51
  have b51 := F51.binds (ps := ["_law_row", "_law_which"]) fun _ _ _ _ _ _ us hl => match us, hl with | [_, _], _ => rfl
  have F52 := fun_mk (st := st_law_of_logs) l52 c52 k52
  have b52 := F52.binds (ps := ["_law_row", "_law_which"]) fun _ _ _ _ _ _ us hl => match us, hl with | [_, _], _ => rfl
  have F53 := fun_mk (st := st_law_kinds) l53 c53 k53
  have b53 := F53.binds (ps := ["_law_e"]) fun _ _ _ _ _ _ us hl => match us, hl with | [_], _ => rfl
  have F54 := fun_mk (st := st_law) l54 c54 k54
  refine ⟨PySem.W.fnOf "law" "law" (defArgs st_law) (defBody st_law) (defScope st_law) .none kV54 dc54 pm54 an54 cd54 ct54, fun s v => .of_eq rfl, fun base _ _ => ?_⟩
  have D_is_farewell : DefOk l.prog w K mg base CX0 1 "is_farewell" ["words"] (sp_is_farewell K ⟨(), C_LogError, C_BadDisk, C_NoBlock, C_BadBlock, C_BadStop, C_Stopped, C_BadRow, C_Full, C_Empty, C_Gone, C_BadOrder, C_Log, C_Disk⟩) := ⟨f4, _, ok_is_farewell F4 T , b4, k4, PySem.W.mg_of X G a4⟩
  have D_kind : DefOk l.prog w K mg base CX0 1 "kind" ["words", "place", "many"] (sp_kind K ⟨(), C_LogError, C_BadDisk, C_NoBlock, C_BadBlock, C_BadStop, C_Stopped, C_BadRow, C_Full, C_Empty, C_Gone, C_BadOrder, C_Log, C_Disk⟩) := ⟨f5, _, ok_kind F5 T , b5, k5, PySem.W.mg_of X G a5⟩
  have M_Disk_blocks : MethOk l.prog w K mg base CX0 1 C_Disk "blocks" ["self"] (sp_Disk_blocks K ⟨(), C_LogError, C_BadDisk, C_NoBlock, C_BadBlock, C_BadStop, C_Stopped, C_BadRow, C_Full, C_Empty, C_Gone, C_BadOrder, C_Log, C_Disk⟩) := ⟨⟨f36, _, ok_Disk_blocks F36 T , b36, a36, i36, k36⟩⟩
  have D_is_whole : DefOk l.prog w K mg base CX0 1 "is_whole" ["value", "low", "high"] (sp_is_whole K ⟨(), C_LogError, C_BadDisk, C_NoBlock, C_BadBlock, C_BadStop, C_Stopped, C_BadRow, C_Full, C_Empty, C_Gone, C_BadOrder, C_Log, C_Disk⟩) := ⟨f16, _, ok_is_whole F16 T , b16, k16, PySem.W.mg_of X G a16⟩
  have M_Disk__need_place : MethOk l.prog w K mg base (L2N.CX l.prog w) 2 C_Disk "_need_place" ["self", "place"] (sp_Disk__need_place K ⟨(), C_LogError, C_BadDisk, C_NoBlock, C_BadBlock, C_BadStop, C_Stopped, C_BadRow, C_Full, C_Empty, C_Gone, C_BadOrder, C_Log, C_Disk⟩) := ⟨⟨f44, _, ok_Disk__need_place F44 T D_is_whole, b44, a44, i44, k44⟩⟩
  have M_Disk_read : MethOk l.prog w K mg base (L2N.CX l.prog w) 3 C_Disk "read" ["self", "place"] (sp_Disk_read K ⟨(), C_LogError, C_BadDisk, C_NoBlock, C_BadBlock, C_BadStop, C_Stopped, C_BadRow, C_Full, C_Empty, C_Gone, C_BadOrder, C_Log, C_Disk⟩) := ⟨⟨f37, _, ok_Disk_read F37 T M_Disk__need_place, b37, a37, i37, k37⟩⟩
  have D_number_in_last_place : DefOk l.prog w K mg base CX0 4 "_number_in_last_place" ["disk"] (sp_number_in_last_place K ⟨(), C_LogError, C_BadDisk, C_NoBlock, C_BadBlock, C_BadStop, C_Stopped, C_BadRow, C_Full, C_Empty, C_Gone, C_BadOrder, C_Log, C_Disk⟩) := ⟨f10, _, ok_number_in_last_place F10 T D_kind M_Disk_blocks M_Disk_read, b10, k10, PySem.W.mg_of X G a10⟩
  have D_newest_of_round : DefOk l.prog w K mg base CX0 4 "_newest_of_round" ["disk", "start"] (sp_newest_of_round K ⟨(), C_LogError, C_BadDisk, C_NoBlock, C_BadBlock, C_BadStop, C_Stopped, C_BadRow, C_Full, C_Empty, C_Gone, C_BadOrder, C_Log, C_Disk⟩) := ⟨f11, _, ok_newest_of_round F11 T D_kind M_Disk_blocks M_Disk_read, b11, k11, PySem.W.mg_of X G a11⟩
  have D_newest : DefOk l.prog w K mg base CX0 5 "newest" ["disk"] (sp_newest K ⟨(), C_LogError, C_BadDisk, C_NoBlock, C_BadBlock, C_BadStop, C_Stopped, C_BadRow, C_Full, C_Empty, C_Gone, C_BadOrder, C_Log, C_Disk⟩) := ⟨f9, _, ok_newest F9 T D_kind D_number_in_last_place D_newest_of_round M_Disk_blocks M_Disk_read, b9, k9, PySem.W.mg_of X G a9⟩
  have D_words_of : DefOk l.prog w K mg base CX0 1 "words_of" ["some"] (sp_words_of K ⟨(), C_LogError, C_BadDisk, C_NoBlock, C_BadBlock, C_BadStop, C_Stopped, C_BadRow, C_Full, C_Empty, C_Gone, C_BadOrder, C_Log, C_Disk⟩) := ⟨f8, _, ok_words_of F8 T , b8, k8, PySem.W.mg_of X G a8⟩
  have D_by_row : DefOk l.prog w K mg base CX0 1 "_by_row" ["blocks"] (sp_by_row K ⟨(), C_LogError, C_BadDisk, C_NoBlock, C_BadBlock, C_BadStop, C_Stopped, C_BadRow, C_Full, C_Empty, C_Gone, C_BadOrder, C_Log, C_Disk⟩) := ⟨f14, _, ok_by_row F14 T , b14, k14, PySem.W.mg_of X G a14⟩
  have D_has_last : DefOk l.prog w K mg base CX0 1 "_has_last" ["some"] (sp_has_last K ⟨(), C_LogError, C_BadDisk, C_NoBlock, C_BadBlock, C_BadStop, C_Stopped, C_BadRow, C_Full, C_Empty, C_Gone, C_BadOrder, C_Log, C_Disk⟩) := ⟨f15, _, ok_has_last F15 T , b15, k15, PySem.W.mg_of X G a15⟩
  have D_rows_in : DefOk l.prog w K mg base CX0 2 "rows_in" ["blocks"] (sp_rows_in K ⟨(), C_LogError, C_BadDisk, C_NoBlock, C_BadBlock, C_BadStop, C_Stopped, C_BadRow, C_Full, C_Empty, C_Gone, C_BadOrder, C_Log, C_Disk⟩) := ⟨f12, _, ok_rows_in F12 T D_words_of D_by_row D_has_last, b12, k12, PySem.W.mg_of X G a12⟩
  have D_cut_in : DefOk l.prog w K mg base CX0 2 "cut_in" ["blocks"] (sp_cut_in K ⟨(), C_LogError, C_BadDisk, C_NoBlock, C_BadBlock, C_BadStop, C_Stopped, C_BadRow, C_Full, C_Empty, C_Gone, C_BadOrder, C_Log, C_Disk⟩) := ⟨f13, _, ok_cut_in F13 T D_by_row D_has_last, b13, k13, PySem.W.mg_of X G a13⟩
  have D_blocks_of_use : DefOk l.prog w K mg base CX0 4 "_blocks_of_use" ["disk", "number"] (sp_blocks_of_use K ⟨(), C_LogError, C_BadDisk, C_NoBlock, C_BadBlock, C_BadStop, C_Stopped, C_BadRow, C_Full, C_Empty, C_Gone, C_BadOrder, C_Log, C_Disk⟩) := ⟨f18, _, ok_blocks_of_use F18 T M_Disk_blocks M_Disk_read, b18, k18, PySem.W.mg_of X G a18⟩
  have M_Log___init__ : MakeOk l.prog w K mg base CX0 6 C_Log ["self", "disk"] (sp_Log___init__ K ⟨(), C_LogError, C_BadDisk, C_NoBlock, C_BadBlock, C_BadStop, C_Stopped, C_BadRow, C_Full, C_Empty, C_Gone, C_BadOrder, C_Log, C_Disk⟩) := ⟨⟨f20, _, ok_Log___init__ F20 T D_is_farewell D_newest D_rows_in D_cut_in D_blocks_of_use, b20, mk_Log, a20, i20, kc_Log⟩⟩
  have D_made : DefOk l.prog w K mg base CX0 1 "made" ["number", "floor", "begin", "left", "data"] (sp_made K ⟨(), C_LogError, C_BadDisk, C_NoBlock, C_BadBlock, C_BadStop, C_Stopped, C_BadRow, C_Full, C_Empty, C_Gone, C_BadOrder, C_Log, C_Disk⟩) := ⟨f1, _, ok_made F1 T , b1, k1, PySem.W.mg_of X G a1⟩
  have D_pieces : DefOk l.prog w K mg base CX0 1 "pieces" ["row"] (sp_pieces K ⟨(), C_LogError, C_BadDisk, C_NoBlock, C_BadBlock, C_BadStop, C_Stopped, C_BadRow, C_Full, C_Empty, C_Gone, C_BadOrder, C_Log, C_Disk⟩) := ⟨f6, _, ok_pieces F6 T , b6, k6, PySem.W.mg_of X G a6⟩
  have D_is_row : DefOk l.prog w K mg base CX0 2 "_is_row" ["row"] (sp_is_row K ⟨(), C_LogError, C_BadDisk, C_NoBlock, C_BadBlock, C_BadStop, C_Stopped, C_BadRow, C_Full, C_Empty, C_Gone, C_BadOrder, C_Log, C_Disk⟩) := ⟨f17, _, ok_is_row F17 T D_is_whole, b17, k17, PySem.W.mg_of X G a17⟩
  have D_floor_under : DefOk l.prog w K mg base CX0 1 "_floor_under" ["rows", "number"] (sp_floor_under K ⟨(), C_LogError, C_BadDisk, C_NoBlock, C_BadBlock, C_BadStop, C_Stopped, C_BadRow, C_Full, C_Empty, C_Gone, C_BadOrder, C_Log, C_Disk⟩) := ⟨f19, _, ok_floor_under F19 T , b19, k19, PySem.W.mg_of X G a19⟩
  have M_Log_room : MethOk l.prog w K mg base CX0 2 C_Log "room" ["self"] (sp_Log_room K ⟨(), C_LogError, C_BadDisk, C_NoBlock, C_BadBlock, C_BadStop, C_Stopped, C_BadRow, C_Full, C_Empty, C_Gone, C_BadOrder, C_Log, C_Disk⟩) := ⟨⟨f22, _, ok_Log_room F22 T D_floor_under M_Disk_blocks, b22, a22, i22, k22⟩⟩
  have M_Log__need_here : MethOk l.prog w K mg base (L2N.CX l.prog w) 1 C_Log "_need_here" ["self"] (sp_Log__need_here K ⟨(), C_LogError, C_BadDisk, C_NoBlock, C_BadBlock, C_BadStop, C_Stopped, C_BadRow, C_Full, C_Empty, C_Gone, C_BadOrder, C_Log, C_Disk⟩) := ⟨⟨f29, _, ok_Log__need_here F29 T , b29, a29, i29, k29⟩⟩
  have D_is_block : DefOk l.prog w K mg base CX0 2 "_is_block" ["words"] (sp_is_block K ⟨(), C_LogError, C_BadDisk, C_NoBlock, C_BadBlock, C_BadStop, C_Stopped, C_BadRow, C_Full, C_Empty, C_Gone, C_BadOrder, C_Log, C_Disk⟩) := ⟨f34, _, ok_is_block F34 T D_is_whole, b34, k34, PySem.W.mg_of X G a34⟩
  have M_Disk__write_part : MethOk l.prog w K mg base CX0 1 C_Disk "_write_part" ["self", "place", "words"] (sp_Disk__write_part K ⟨(), C_LogError, C_BadDisk, C_NoBlock, C_BadBlock, C_BadStop, C_Stopped, C_BadRow, C_Full, C_Empty, C_Gone, C_BadOrder, C_Log, C_Disk⟩) := ⟨⟨f45, _, ok_Disk__write_part F45 T , b45, a45, i45, k45⟩⟩
  have M_Disk_write : MethOk l.prog w K mg base (L2N.CX l.prog w) 3 C_Disk "write" ["self", "place", "words"] (sp_Disk_write K ⟨(), C_LogError, C_BadDisk, C_NoBlock, C_BadBlock, C_BadStop, C_Stopped, C_BadRow, C_Full, C_Empty, C_Gone, C_BadOrder, C_Log, C_Disk⟩) := ⟨⟨f38, _, ok_Disk_write F38 T D_is_block M_Disk__need_place M_Disk__write_part, b38, a38, i38, k38⟩⟩
  have M_Log__write : MethOk l.prog w K mg base (L2N.CX l.prog w) 4 C_Log "_write" ["self", "words"] (sp_Log__write K ⟨(), C_LogError, C_BadDisk, C_NoBlock, C_BadBlock, C_BadStop, C_Stopped, C_BadRow, C_Full, C_Empty, C_Gone, C_BadOrder, C_Log, C_Disk⟩) := ⟨⟨f30, _, ok_Log__write F30 T M_Disk_blocks M_Disk_write, b30, a30, i30, k30⟩⟩
  have M_Log__wrote : MethOk l.prog w K mg base CX0 1 C_Log "_wrote" ["self", "number", "floor"] (sp_Log__wrote K ⟨(), C_LogError, C_BadDisk, C_NoBlock, C_BadBlock, C_BadStop, C_Stopped, C_BadRow, C_Full, C_Empty, C_Gone, C_BadOrder, C_Log, C_Disk⟩) := ⟨⟨f32, _, ok_Log__wrote F32 T , b32, a32, i32, k32⟩⟩
  have M_Log_put : MethOk l.prog w K mg base (L2N.CX l.prog w) 5 C_Log "put" ["self", "row"] (sp_Log_put K ⟨(), C_LogError, C_BadDisk, C_NoBlock, C_BadBlock, C_BadStop, C_Stopped, C_BadRow, C_Full, C_Empty, C_Gone, C_BadOrder, C_Log, C_Disk⟩) := ⟨⟨f25, _, ok_Log_put F25 T D_made D_pieces D_is_row D_floor_under M_Log_room M_Log__need_here M_Log__write M_Log__wrote, b25, a25, i25, k25⟩⟩
  have M_Disk___init__ : MakeOk l.prog w K mg base (L2N.CX l.prog w) 2 C_Disk ["self", "many"] (sp_Disk___init__ K ⟨(), C_LogError, C_BadDisk, C_NoBlock, C_BadBlock, C_BadStop, C_Stopped, C_BadRow, C_Full, C_Empty, C_Gone, C_BadOrder, C_Log, C_Disk⟩) := ⟨⟨f35, _, ok_Disk___init__ F35 T D_is_whole, b35, mk_Disk, a35, i35, kc_Disk⟩⟩
  have M_Disk_stop_after : MethOk l.prog w K mg base (L2N.CX l.prog w) 2 C_Disk "stop_after" ["self", "count", "part"] (sp_Disk_stop_after K ⟨(), C_LogError, C_BadDisk, C_NoBlock, C_BadBlock, C_BadStop, C_Stopped, C_BadRow, C_Full, C_Empty, C_Gone, C_BadOrder, C_Log, C_Disk⟩) := ⟨⟨f41, _, ok_Disk_stop_after F41 T D_is_whole, b41, a41, i41, k41⟩⟩
  have D_number_in : DefOk l.prog w K mg base (L2N.CX l.prog w) 1 "_number_in" ["text", "most"] (sp_number_in K ⟨(), C_LogError, C_BadDisk, C_NoBlock, C_BadBlock, C_BadStop, C_Stopped, C_BadRow, C_Full, C_Empty, C_Gone, C_BadOrder, C_Log, C_Disk⟩) := ⟨f48, _, ok_number_in F48 T , b48, k48, PySem.W.mg_of X G a48⟩
  have D_row_in : DefOk l.prog w K mg base (L2N.CX l.prog w) 2 "_row_in" ["text"] (sp_row_in K ⟨(), C_LogError, C_BadDisk, C_NoBlock, C_BadBlock, C_BadStop, C_Stopped, C_BadRow, C_Full, C_Empty, C_Gone, C_BadOrder, C_Log, C_Disk⟩) := ⟨f47, _, ok_row_in F47 T D_number_in, b47, k47, PySem.W.mg_of X G a47⟩
  have D_order_of : DefOk l.prog w K mg base (L2N.CX l.prog w) 3 "order_of" ["line"] (sp_order_of K ⟨(), C_LogError, C_BadDisk, C_NoBlock, C_BadBlock, C_BadStop, C_Stopped, C_BadRow, C_Full, C_Empty, C_Gone, C_BadOrder, C_Log, C_Disk⟩) := ⟨f46, _, ok_order_of F46 T D_row_in D_number_in, b46, k46, PySem.W.mg_of X G a46⟩
  have D_law_taken : DefOk l.prog w K mg base CX0 1 "_law_taken" ["_law_row", "_law_many"] (sp_law_taken K ⟨(), C_LogError, C_BadDisk, C_NoBlock, C_BadBlock, C_BadStop, C_Stopped, C_BadRow, C_Full, C_Empty, C_Gone, C_BadOrder, C_Log, C_Disk⟩) := ⟨f49, _, ok_law_taken F49 T , b49, k49, PySem.W.mg_of X G a49⟩
  have D_law_of_disks : DefOk l.prog w K mg base (L2N.CX l.prog w) 8 "_law_of_disks" ["_law_row", "_law_which"] (sp_law_of_disks K ⟨(), C_LogError, C_BadDisk, C_NoBlock, C_BadBlock, C_BadStop, C_Stopped, C_BadRow, C_Full, C_Empty, C_Gone, C_BadOrder, C_Log, C_Disk⟩) := ⟨f51, _, ok_law_of_disks F51 T M_Log___init__ M_Log_put M_Disk___init__ M_Disk_blocks M_Disk_read M_Disk_write M_Disk_stop_after D_order_of D_law_taken, b51, k51, PySem.W.mg_of X G a51⟩
  have D_made_mark : DefOk l.prog w K mg base CX0 2 "made_mark" ["number", "floor"] (sp_made_mark K ⟨(), C_LogError, C_BadDisk, C_NoBlock, C_BadBlock, C_BadStop, C_Stopped, C_BadRow, C_Full, C_Empty, C_Gone, C_BadOrder, C_Log, C_Disk⟩) := ⟨f2, _, ok_made_mark F2 T D_made, b2, k2, PySem.W.mg_of X G a2⟩
  have M_Log_take : MethOk l.prog w K mg base (L2N.CX l.prog w) 5 C_Log "take" ["self"] (sp_Log_take K ⟨(), C_LogError, C_BadDisk, C_NoBlock, C_BadBlock, C_BadStop, C_Stopped, C_BadRow, C_Full, C_Empty, C_Gone, C_BadOrder, C_Log, C_Disk⟩) := ⟨⟨f26, _, ok_Log_take F26 T D_made_mark D_floor_under M_Log__need_here M_Log__write M_Log__wrote, b26, a26, i26, k26⟩⟩
  have D_length_of : DefOk l.prog w K mg base CX0 2 "length_of" ["row"] (sp_length_of K ⟨(), C_LogError, C_BadDisk, C_NoBlock, C_BadBlock, C_BadStop, C_Stopped, C_BadRow, C_Full, C_Empty, C_Gone, C_BadOrder, C_Log, C_Disk⟩) := ⟨f7, _, ok_length_of F7 T D_pieces, b7, k7, PySem.W.mg_of X G a7⟩
  have M_Log_rows : MethOk l.prog w K mg base CX0 1 C_Log "rows" ["self"] (sp_Log_rows K ⟨(), C_LogError, C_BadDisk, C_NoBlock, C_BadBlock, C_BadStop, C_Stopped, C_BadRow, C_Full, C_Empty, C_Gone, C_BadOrder, C_Log, C_Disk⟩) := ⟨⟨f21, _, ok_Log_rows F21 T , b21, a21, i21, k21⟩⟩
  have M_Log_gone : MethOk l.prog w K mg base CX0 1 C_Log "gone" ["self"] (sp_Log_gone K ⟨(), C_LogError, C_BadDisk, C_NoBlock, C_BadBlock, C_BadStop, C_Stopped, C_BadRow, C_Full, C_Empty, C_Gone, C_BadOrder, C_Log, C_Disk⟩) := ⟨⟨f24, _, ok_Log_gone F24 T , b24, a24, i24, k24⟩⟩
  have M_Log__write_end : MethOk l.prog w K mg base (L2N.CX l.prog w) 5 C_Log "_write_end" ["self", "words"] (sp_Log__write_end K ⟨(), C_LogError, C_BadDisk, C_NoBlock, C_BadBlock, C_BadStop, C_Stopped, C_BadRow, C_Full, C_Empty, C_Gone, C_BadOrder, C_Log, C_Disk⟩) := ⟨⟨f31, _, ok_Log__write_end F31 T M_Log__write M_Log__wrote, b31, a31, i31, k31⟩⟩
  have M_Log_take_all : MethOk l.prog w K mg base (L2N.CX l.prog w) 6 C_Log "take_all" ["self"] (sp_Log_take_all K ⟨(), C_LogError, C_BadDisk, C_NoBlock, C_BadBlock, C_BadStop, C_Stopped, C_BadRow, C_Full, C_Empty, C_Gone, C_BadOrder, C_Log, C_Disk⟩) := ⟨⟨f27, _, ok_Log_take_all F27 T D_made_mark M_Log__write_end, b27, a27, i27, k27⟩⟩
  have D_made_farewell : DefOk l.prog w K mg base CX0 2 "made_farewell" ["number", "floor"] (sp_made_farewell K ⟨(), C_LogError, C_BadDisk, C_NoBlock, C_BadBlock, C_BadStop, C_Stopped, C_BadRow, C_Full, C_Empty, C_Gone, C_BadOrder, C_Log, C_Disk⟩) := ⟨f3, _, ok_made_farewell F3 T D_made, b3, k3, PySem.W.mg_of X G a3⟩
  have M_Log_leave : MethOk l.prog w K mg base (L2N.CX l.prog w) 6 C_Log "leave" ["self"] (sp_Log_leave K ⟨(), C_LogError, C_BadDisk, C_NoBlock, C_BadBlock, C_BadStop, C_Stopped, C_BadRow, C_Full, C_Empty, C_Gone, C_BadOrder, C_Log, C_Disk⟩) := ⟨⟨f28, _, ok_Log_leave F28 T D_made_farewell M_Log__need_here M_Log__write_end, b28, a28, i28, k28⟩⟩
  have D_carry : DefOk l.prog w K mg base (L2N.CX l.prog w) 8 "carry" ["old", "new"] (sp_carry K ⟨(), C_LogError, C_BadDisk, C_NoBlock, C_BadBlock, C_BadStop, C_Stopped, C_BadRow, C_Full, C_Empty, C_Gone, C_BadOrder, C_Log, C_Disk⟩) := ⟨f33, _, ok_carry F33 T D_length_of M_Log___init__ M_Log_rows M_Log_gone M_Log_put M_Log_take_all M_Log_leave M_Disk_blocks, b33, k33, PySem.W.mg_of X G a33⟩
  have D_law_odd : DefOk l.prog w K mg base CX0 2 "_law_odd" ["_law_row"] (sp_law_odd K ⟨(), C_LogError, C_BadDisk, C_NoBlock, C_BadBlock, C_BadStop, C_Stopped, C_BadRow, C_Full, C_Empty, C_Gone, C_BadOrder, C_Log, C_Disk⟩) := ⟨f50, _, ok_law_odd F50 T D_law_taken, b50, k50, PySem.W.mg_of X G a50⟩
  have D_law_of_logs : DefOk l.prog w K mg base (L2N.CX l.prog w) 9 "_law_of_logs" ["_law_row", "_law_which"] (sp_law_of_logs K ⟨(), C_LogError, C_BadDisk, C_NoBlock, C_BadBlock, C_BadStop, C_Stopped, C_BadRow, C_Full, C_Empty, C_Gone, C_BadOrder, C_Log, C_Disk⟩) := ⟨f52, _, ok_law_of_logs F52 T M_Log___init__ M_Log_put M_Log_take D_carry M_Disk___init__ M_Disk_blocks D_law_taken D_law_odd, b52, k52, PySem.W.mg_of X G a52⟩
  have DP_law_kinds : DefOkP l.prog w K mg base 1 "_law_kinds" ["_law_e"] (sp_law_kinds K ⟨(), C_LogError, C_BadDisk, C_NoBlock, C_BadBlock, C_BadStop, C_Stopped, C_BadRow, C_Full, C_Empty, C_Gone, C_BadOrder, C_Log, C_Disk⟩) := ⟨f53, _, okp_law_kinds F53 T , b53, k53, PySem.W.mg_of X G a53⟩
  have q := ok_law (P := l.prog) (w := w) (base := base) F54 T D_law_of_disks D_law_of_logs DP_law_kinds
  exact q
theorem walk {l : PySem.W.OpenLaw} {q : Program} {loose : List Str} {XP : (Str → Option Value) → Heap → Prop} {YP : World → Heap → Prop} {d : DefRec} {K : Params → PySem.W.Frag} (hn : l.most = some 63) (hdf : d.params.defaults = [])
    (hY : ∀ (w : World) (h : Heap), YP w h → (K w.params).In h)
    (F : ∀ (w : World) (mg : Str → Option Value) (fa : Addr) (h : Heap), (K w.params).In h → h.Ns mainGlobals mg → mg d.name = some (.ref fa) →
      ∃ fd : FuncData, (∀ (s : Shared) (u : Value), BindsTo s fd ⟨[u], []⟩ [("_law_script", u)]) ∧ ∀ base : Heap, (K w.params).In base → base.Ns mainGlobals mg → FnOk l.prog w (K w.params) mg base CX0 10 fa fd ["_law_script"] (sp_law (K w.params) Z0)) :
    PySem.W.WalkO q loose XP YP l.row.toRowW d [] (fun f vs => PySem.call f vs) :=
  L2.walk_of (n := 63) (k := 10) (x := "_law_script") (CX := fun _ => CX0) (sp := fun w => sp_law (K w.params) Z0) hn (by decide) hdf ⟨rfl, by decide, by decide⟩ hY F (fun _ _ a ns hl _ hS => ⟨a, ns, rfl, hS, hl, fun _ => rfl⟩) fun _ _ _ _ _ z => z
end RL
open PySem PySem.W PyProof.Rows in
set_option maxRecDepth 100000 in
set_option maxHeartbeats 0 in
theorem PySem.Challenge.cw_ringlog_k15_refusals_stand_apart_holds : PySem.Challenge.rw_ringlog_k15_refusals_stand_apart.Holds := by
  w_on; o_law; k_head; (case hw => w_witness2)
  k_fill
  refine RL.walk (l := PySem.Challenge.rw_ringlog_k15_refusals_stand_apart) rfl rfl (fun w h Y => PySem.W.kIn_of Y) ?F
  case F =>
    intro w mg fa h KX G hmg
    refine' RL.all_mk KX G hmg ?aC_Log ?aC_Disk ?aC_BadBlock ?aC_BadDisk ?aC_BadOrder ?aC_BadRow ?aC_BadStop ?aC_Empty ?aC_Full ?aC_Gone ?aC_LogError ?aC_NoBlock ?aC_Stopped ?pg_Log ?hd_Log ?po_Log ?sa_Log ?mk_Log ?kc_Log ?na_Log__cut ?na_Log__disk ?na_Log__gone ?na_Log__number ?na_Log__rows ?na_Log__torn ?pg_Disk ?hd_Disk ?po_Disk ?sa_Disk ?mk_Disk ?kc_Disk ?na_Disk__blocks ?na_Disk__let ?na_Disk__part ?na_Disk__reads ?na_Disk__writes ?x_BadBlock ?kp_BadBlock ?sb_BadBlock ?ty_BadBlock ?ic_BadBlock ?x_BadDisk ?kp_BadDisk ?sb_BadDisk ?ty_BadDisk ?ic_BadDisk ?x_BadOrder ?kp_BadOrder ?sb_BadOrder ?ty_BadOrder ?ic_BadOrder ?x_BadRow ?kp_BadRow ?sb_BadRow ?ty_BadRow ?ic_BadRow ?x_BadStop ?kp_BadStop ?sb_BadStop ?ty_BadStop ?ic_BadStop ?x_Empty ?kp_Empty ?sb_Empty ?ty_Empty ?ic_Empty ?x_Full ?kp_Full ?sb_Full ?ty_Full ?ic_Full ?x_Gone ?kp_Gone ?sb_Gone ?ty_Gone ?ic_Gone ?x_LogError ?kp_LogError ?sb_LogError ?ty_LogError ?ic_LogError ?x_NoBlock ?kp_NoBlock ?sb_NoBlock ?ty_NoBlock ?ic_NoBlock ?x_Stopped ?kp_Stopped ?sb_Stopped ?ty_Stopped ?ic_Stopped ?yn ?yt ?yg_BadBlock ?yk_BadBlock ?yd_BadBlock ?ya_BadBlock ?ym_BadBlock ?sv_BadBlock ?si_BadBlock_BadBlock ?si_BadBlock_BadDisk ?nq_BadBlock_BadDisk ?si_BadBlock_BadOrder ?nq_BadBlock_BadOrder ?si_BadBlock_BadRow ?nq_BadBlock_BadRow ?si_BadBlock_BadStop ?nq_BadBlock_BadStop ?si_BadBlock_Empty ?nq_BadBlock_Empty ?si_BadBlock_Full ?nq_BadBlock_Full ?si_BadBlock_Gone ?nq_BadBlock_Gone ?si_BadBlock_NoBlock ?nq_BadBlock_NoBlock ?si_BadBlock_Stopped ?nq_BadBlock_Stopped ?yg_BadDisk ?yk_BadDisk ?yd_BadDisk ?ya_BadDisk ?ym_BadDisk ?sv_BadDisk ?si_BadDisk_BadBlock ?nq_BadDisk_BadBlock ?si_BadDisk_BadDisk ?si_BadDisk_BadOrder ?nq_BadDisk_BadOrder ?si_BadDisk_BadRow ?nq_BadDisk_BadRow ?si_BadDisk_BadStop ?nq_BadDisk_BadStop ?si_BadDisk_Empty ?nq_BadDisk_Empty ?si_BadDisk_Full ?nq_BadDisk_Full ?si_BadDisk_Gone ?nq_BadDisk_Gone ?si_BadDisk_NoBlock ?nq_BadDisk_NoBlock ?si_BadDisk_Stopped ?nq_BadDisk_Stopped ?yg_BadOrder ?yk_BadOrder ?yd_BadOrder ?ya_BadOrder ?ym_BadOrder ?sv_BadOrder ?si_BadOrder_BadBlock ?nq_BadOrder_BadBlock ?si_BadOrder_BadDisk ?nq_BadOrder_BadDisk ?si_BadOrder_BadOrder ?si_BadOrder_BadRow ?nq_BadOrder_BadRow ?si_BadOrder_BadStop ?nq_BadOrder_BadStop ?si_BadOrder_Empty ?nq_BadOrder_Empty ?si_BadOrder_Full ?nq_BadOrder_Full ?si_BadOrder_Gone ?nq_BadOrder_Gone ?si_BadOrder_NoBlock ?nq_BadOrder_NoBlock ?si_BadOrder_Stopped ?nq_BadOrder_Stopped ?yg_BadRow ?yk_BadRow ?yd_BadRow ?ya_BadRow ?ym_BadRow ?sv_BadRow ?si_BadRow_BadBlock ?nq_BadRow_BadBlock ?si_BadRow_BadDisk ?nq_BadRow_BadDisk ?si_BadRow_BadOrder ?nq_BadRow_BadOrder ?si_BadRow_BadRow ?si_BadRow_BadStop ?nq_BadRow_BadStop ?si_BadRow_Empty ?nq_BadRow_Empty ?si_BadRow_Full ?nq_BadRow_Full ?si_BadRow_Gone ?nq_BadRow_Gone ?si_BadRow_NoBlock ?nq_BadRow_NoBlock ?si_BadRow_Stopped ?nq_BadRow_Stopped ?yg_BadStop ?yk_BadStop ?yd_BadStop ?ya_BadStop ?ym_BadStop ?sv_BadStop ?si_BadStop_BadBlock ?nq_BadStop_BadBlock ?si_BadStop_BadDisk ?nq_BadStop_BadDisk ?si_BadStop_BadOrder ?nq_BadStop_BadOrder ?si_BadStop_BadRow ?nq_BadStop_BadRow ?si_BadStop_BadStop ?si_BadStop_Empty ?nq_BadStop_Empty ?si_BadStop_Full ?nq_BadStop_Full ?si_BadStop_Gone ?nq_BadStop_Gone ?si_BadStop_NoBlock ?nq_BadStop_NoBlock ?si_BadStop_Stopped ?nq_BadStop_Stopped ?yg_Empty ?yk_Empty ?yd_Empty ?ya_Empty ?ym_Empty ?sv_Empty ?si_Empty_BadBlock ?nq_Empty_BadBlock ?si_Empty_BadDisk ?nq_Empty_BadDisk ?si_Empty_BadOrder ?nq_Empty_BadOrder ?si_Empty_BadRow ?nq_Empty_BadRow ?si_Empty_BadStop ?nq_Empty_BadStop ?si_Empty_Empty ?si_Empty_Full ?nq_Empty_Full ?si_Empty_Gone ?nq_Empty_Gone ?si_Empty_NoBlock ?nq_Empty_NoBlock ?si_Empty_Stopped ?nq_Empty_Stopped ?yg_Full ?yk_Full ?yd_Full ?ya_Full ?ym_Full ?sv_Full ?si_Full_BadBlock ?nq_Full_BadBlock ?si_Full_BadDisk ?nq_Full_BadDisk ?si_Full_BadOrder ?nq_Full_BadOrder ?si_Full_BadRow ?nq_Full_BadRow ?si_Full_BadStop ?nq_Full_BadStop ?si_Full_Empty ?nq_Full_Empty ?si_Full_Full ?si_Full_Gone ?nq_Full_Gone ?si_Full_NoBlock ?nq_Full_NoBlock ?si_Full_Stopped ?nq_Full_Stopped ?yg_Gone ?yk_Gone ?yd_Gone ?ya_Gone ?ym_Gone ?sv_Gone ?si_Gone_BadBlock ?nq_Gone_BadBlock ?si_Gone_BadDisk ?nq_Gone_BadDisk ?si_Gone_BadOrder ?nq_Gone_BadOrder ?si_Gone_BadRow ?nq_Gone_BadRow ?si_Gone_BadStop ?nq_Gone_BadStop ?si_Gone_Empty ?nq_Gone_Empty ?si_Gone_Full ?nq_Gone_Full ?si_Gone_Gone ?si_Gone_NoBlock ?nq_Gone_NoBlock ?si_Gone_Stopped ?nq_Gone_Stopped ?yg_NoBlock ?yk_NoBlock ?yd_NoBlock ?ya_NoBlock ?ym_NoBlock ?sv_NoBlock ?si_NoBlock_BadBlock ?nq_NoBlock_BadBlock ?si_NoBlock_BadDisk ?nq_NoBlock_BadDisk ?si_NoBlock_BadOrder ?nq_NoBlock_BadOrder ?si_NoBlock_BadRow ?nq_NoBlock_BadRow ?si_NoBlock_BadStop ?nq_NoBlock_BadStop ?si_NoBlock_Empty ?nq_NoBlock_Empty ?si_NoBlock_Full ?nq_NoBlock_Full ?si_NoBlock_Gone ?nq_NoBlock_Gone ?si_NoBlock_NoBlock ?si_NoBlock_Stopped ?nq_NoBlock_Stopped ?yg_Stopped ?yk_Stopped ?yd_Stopped ?ya_Stopped ?ym_Stopped ?sv_Stopped ?si_Stopped_BadBlock ?nq_Stopped_BadBlock ?si_Stopped_BadDisk ?nq_Stopped_BadDisk ?si_Stopped_BadOrder ?nq_Stopped_BadOrder ?si_Stopped_BadRow ?nq_Stopped_BadRow ?si_Stopped_BadStop ?nq_Stopped_BadStop ?si_Stopped_Empty ?nq_Stopped_Empty ?si_Stopped_Full ?nq_Stopped_Full ?si_Stopped_Gone ?nq_Stopped_Gone ?si_Stopped_NoBlock ?nq_Stopped_NoBlock ?si_Stopped_Stopped ?s_BadBlock_LogError ?s_BadDisk_LogError ?s_BadOrder_LogError ?s_BadRow_LogError ?s_BadStop_LogError ?s_Empty_LogError ?s_Full_LogError ?s_Gone_LogError ?s_NoBlock_LogError ?s_Stopped_LogError ?a0 ?l0 ?c0 ?k0 ?a1 ?l1 ?c1 ?k1 ?a2 ?l2 ?c2 ?k2 ?a3 ?l3 ?c3 ?k3 ?a4 ?l4 ?c4 ?k4 ?a5 ?l5 ?c5 ?k5 ?a6 ?l6 ?c6 ?k6 ?a7 ?l7 ?c7 ?k7 ?a8 ?l8 ?c8 ?k8 ?a9 ?l9 ?c9 ?k9 ?a10 ?l10 ?c10 ?k10 ?a11 ?l11 ?c11 ?k11 ?a12 ?l12 ?c12 ?k12 ?a13 ?l13 ?c13 ?k13 ?a14 ?l14 ?c14 ?k14 ?a15 ?l15 ?c15 ?k15 ?a16 ?l16 ?c16 ?k16 ?a17 ?l17 ?c17 ?k17 ?a18 ?l18 ?c18 ?k18 ?a19 ?l19 ?c19 ?k19 ?a20 ?i20 ?l20 ?c20 ?k20 ?a21 ?i21 ?l21 ?c21 ?k21 ?a22 ?i22 ?l22 ?c22 ?k22 ?a23 ?i23 ?l23 ?c23 ?k23 ?a24 ?i24 ?l24 ?c24 ?k24 ?a25 ?i25 ?l25 ?c25 ?k25 ?a26 ?i26 ?l26 ?c26 ?k26 ?a27 ?i27 ?l27 ?c27 ?k27 ?a28 ?i28 ?l28 ?c28 ?k28 ?a29 ?i29 ?l29 ?c29 ?k29 ?a30 ?i30 ?l30 ?c30 ?k30 ?a31 ?i31 ?l31 ?c31 ?k31 ?a32 ?i32 ?l32 ?c32 ?k32 ?a33 ?l33 ?c33 ?k33 ?a34 ?l34 ?c34 ?k34 ?a35 ?i35 ?l35 ?c35 ?k35 ?a36 ?i36 ?l36 ?c36 ?k36 ?a37 ?i37 ?l37 ?c37 ?k37 ?a38 ?i38 ?l38 ?c38 ?k38 ?a39 ?i39 ?l39 ?c39 ?k39 ?a40 ?i40 ?l40 ?c40 ?k40 ?a41 ?i41 ?l41 ?c41 ?k41 ?a42 ?i42 ?l42 ?c42 ?k42 ?a43 ?i43 ?l43 ?c43 ?k43 ?a44 ?i44 ?l44 ?c44 ?k44 ?a45 ?i45 ?l45 ?c45 ?k45 ?a46 ?l46 ?c46 ?k46 ?a47 ?l47 ?c47 ?k47 ?a48 ?l48 ?c48 ?k48 ?a49 ?l49 ?c49 ?k49 ?a50 ?l50 ?c50 ?k50 ?a51 ?l51 ?c51 ?k51 ?a52 ?l52 ?c52 ?k52 ?a53 ?l53 ?c53 ?k53 ?a54 ?l54 ?c54 ?k54 ?z_ValueError ?z_all ?z_bool ?z_enumerate ?z_int ?z_isinstance ?z_len ?z_list ?z_range ?z_str ?z_sum ?z_tuple ?q_PIECE_WORDS ?q_NUMBER ?q_FLOOR ?q_BEGIN ?q_LEFT ?q_DATA_FROM ?q_DATA_TO ?q_NO_BEGIN ?q_LEFT_OF_MARK ?q_LEFT_OF_FAREWELL ?q_MOST_WORDS ?q_MOST_WORD_OF_ROW ?q_LEAST_BLOCKS ?q_MOST_BLOCKS ?q_BLOCK_WORDS ?q_MOST_WORD ?q_MOST_COUNT ?q_MOST_PART ?q_BARE_ORDERS ?w_BARE_ORDERS
    (case aC_Log => k_is)
    (case aC_Disk => k_is)
    (case aC_BadBlock => k_is)
    (case aC_BadDisk => k_is)
    (case aC_BadOrder => k_is)
    (case aC_BadRow => k_is)
    (case aC_BadStop => k_is)
    (case aC_Empty => k_is)
    (case aC_Full => k_is)
    (case aC_Gone => k_is)
    (case aC_LogError => k_is)
    (case aC_NoBlock => k_is)
    (case aC_Stopped => k_is)
    (case pg_Log => k_is)
    (case hd_Log => k_is)
    (case po_Log => k_is)
    (case sa_Log => k_is)
    (case mk_Log => k_is)
    (case kc_Log => k_is)
    (case na_Log__cut => k_is)
    (case na_Log__disk => k_is)
    (case na_Log__gone => k_is)
    (case na_Log__number => k_is)
    (case na_Log__rows => k_is)
    (case na_Log__torn => k_is)
    (case pg_Disk => k_is)
    (case hd_Disk => k_is)
    (case po_Disk => k_is)
    (case sa_Disk => k_is)
    (case mk_Disk => k_is)
    (case kc_Disk => k_is)
    (case na_Disk__blocks => k_is)
    (case na_Disk__let => k_is)
    (case na_Disk__part => k_is)
    (case na_Disk__reads => k_is)
    (case na_Disk__writes => k_is)
    (case x_BadBlock => k_exc)
    (case kp_BadBlock => k_is)
    (case sb_BadBlock => k_is)
    (case ty_BadBlock => k_is)
    (case ic_BadBlock => k_is)
    (case x_BadDisk => k_exc)
    (case kp_BadDisk => k_is)
    (case sb_BadDisk => k_is)
    (case ty_BadDisk => k_is)
    (case ic_BadDisk => k_is)
    (case x_BadOrder => k_exc)
    (case kp_BadOrder => k_is)
    (case sb_BadOrder => k_is)
    (case ty_BadOrder => k_is)
    (case ic_BadOrder => k_is)
    (case x_BadRow => k_exc)
    (case kp_BadRow => k_is)
    (case sb_BadRow => k_is)
    (case ty_BadRow => k_is)
    (case ic_BadRow => k_is)
    (case x_BadStop => k_exc)
    (case kp_BadStop => k_is)
    (case sb_BadStop => k_is)
    (case ty_BadStop => k_is)
    (case ic_BadStop => k_is)
    (case x_Empty => k_exc)
    (case kp_Empty => k_is)
    (case sb_Empty => k_is)
    (case ty_Empty => k_is)
    (case ic_Empty => k_is)
    (case x_Full => k_exc)
    (case kp_Full => k_is)
    (case sb_Full => k_is)
    (case ty_Full => k_is)
    (case ic_Full => k_is)
    (case x_Gone => k_exc)
    (case kp_Gone => k_is)
    (case sb_Gone => k_is)
    (case ty_Gone => k_is)
    (case ic_Gone => k_is)
    (case x_LogError => k_exc)
    (case kp_LogError => k_is)
    (case sb_LogError => k_is)
    (case ty_LogError => k_is)
    (case ic_LogError => k_is)
    (case x_NoBlock => k_exc)
    (case kp_NoBlock => k_is)
    (case sb_NoBlock => k_is)
    (case ty_NoBlock => k_is)
    (case ic_NoBlock => k_is)
    (case x_Stopped => k_exc)
    (case kp_Stopped => k_is)
    (case sb_Stopped => k_is)
    (case ty_Stopped => k_is)
    (case ic_Stopped => k_is)
    (case yn => k_is)
    (case yt => k_is)
    (case yg_BadBlock => k_is)
    (case yk_BadBlock => k_is)
    (case yd_BadBlock => k_is)
    (case ya_BadBlock => k_is)
    (case ym_BadBlock => k_is)
    (case sv_BadBlock => k_is)
    (case si_BadBlock_BadBlock => first | rfl | k_is)
    (case si_BadBlock_BadDisk => k_is)
    (case nq_BadBlock_BadDisk => rfl)
    (case si_BadBlock_BadOrder => k_is)
    (case nq_BadBlock_BadOrder => rfl)
    (case si_BadBlock_BadRow => k_is)
    (case nq_BadBlock_BadRow => rfl)
    (case si_BadBlock_BadStop => k_is)
    (case nq_BadBlock_BadStop => rfl)
    (case si_BadBlock_Empty => k_is)
    (case nq_BadBlock_Empty => rfl)
    (case si_BadBlock_Full => k_is)
    (case nq_BadBlock_Full => rfl)
    (case si_BadBlock_Gone => k_is)
    (case nq_BadBlock_Gone => rfl)
    (case si_BadBlock_NoBlock => k_is)
    (case nq_BadBlock_NoBlock => rfl)
    (case si_BadBlock_Stopped => k_is)
    (case nq_BadBlock_Stopped => rfl)
    (case yg_BadDisk => k_is)
    (case yk_BadDisk => k_is)
    (case yd_BadDisk => k_is)
    (case ya_BadDisk => k_is)
    (case ym_BadDisk => k_is)
    (case sv_BadDisk => k_is)
    (case si_BadDisk_BadBlock => k_is)
    (case nq_BadDisk_BadBlock => rfl)
    (case si_BadDisk_BadDisk => first | rfl | k_is)
    (case si_BadDisk_BadOrder => k_is)
    (case nq_BadDisk_BadOrder => rfl)
    (case si_BadDisk_BadRow => k_is)
    (case nq_BadDisk_BadRow => rfl)
    (case si_BadDisk_BadStop => k_is)
    (case nq_BadDisk_BadStop => rfl)
    (case si_BadDisk_Empty => k_is)
    (case nq_BadDisk_Empty => rfl)
    (case si_BadDisk_Full => k_is)
    (case nq_BadDisk_Full => rfl)
    (case si_BadDisk_Gone => k_is)
    (case nq_BadDisk_Gone => rfl)
    (case si_BadDisk_NoBlock => k_is)
    (case nq_BadDisk_NoBlock => rfl)
    (case si_BadDisk_Stopped => k_is)
    (case nq_BadDisk_Stopped => rfl)
    (case yg_BadOrder => k_is)
    (case yk_BadOrder => k_is)
    (case yd_BadOrder => k_is)
    (case ya_BadOrder => k_is)
    (case ym_BadOrder => k_is)
    (case sv_BadOrder => k_is)
    (case si_BadOrder_BadBlock => k_is)
    (case nq_BadOrder_BadBlock => rfl)
    (case si_BadOrder_BadDisk => k_is)
    (case nq_BadOrder_BadDisk => rfl)
    (case si_BadOrder_BadOrder => first | rfl | k_is)
    (case si_BadOrder_BadRow => k_is)
    (case nq_BadOrder_BadRow => rfl)
    (case si_BadOrder_BadStop => k_is)
    (case nq_BadOrder_BadStop => rfl)
    (case si_BadOrder_Empty => k_is)
    (case nq_BadOrder_Empty => rfl)
    (case si_BadOrder_Full => k_is)
    (case nq_BadOrder_Full => rfl)
    (case si_BadOrder_Gone => k_is)
    (case nq_BadOrder_Gone => rfl)
    (case si_BadOrder_NoBlock => k_is)
    (case nq_BadOrder_NoBlock => rfl)
    (case si_BadOrder_Stopped => k_is)
    (case nq_BadOrder_Stopped => rfl)
    (case yg_BadRow => k_is)
    (case yk_BadRow => k_is)
    (case yd_BadRow => k_is)
    (case ya_BadRow => k_is)
    (case ym_BadRow => k_is)
    (case sv_BadRow => k_is)
    (case si_BadRow_BadBlock => k_is)
    (case nq_BadRow_BadBlock => rfl)
    (case si_BadRow_BadDisk => k_is)
    (case nq_BadRow_BadDisk => rfl)
    (case si_BadRow_BadOrder => k_is)
    (case nq_BadRow_BadOrder => rfl)
    (case si_BadRow_BadRow => first | rfl | k_is)
    (case si_BadRow_BadStop => k_is)
    (case nq_BadRow_BadStop => rfl)
    (case si_BadRow_Empty => k_is)
    (case nq_BadRow_Empty => rfl)
    (case si_BadRow_Full => k_is)
    (case nq_BadRow_Full => rfl)
    (case si_BadRow_Gone => k_is)
    (case nq_BadRow_Gone => rfl)
    (case si_BadRow_NoBlock => k_is)
    (case nq_BadRow_NoBlock => rfl)
    (case si_BadRow_Stopped => k_is)
    (case nq_BadRow_Stopped => rfl)
    (case yg_BadStop => k_is)
    (case yk_BadStop => k_is)
    (case yd_BadStop => k_is)
    (case ya_BadStop => k_is)
    (case ym_BadStop => k_is)
    (case sv_BadStop => k_is)
    (case si_BadStop_BadBlock => k_is)
    (case nq_BadStop_BadBlock => rfl)
    (case si_BadStop_BadDisk => k_is)
    (case nq_BadStop_BadDisk => rfl)
    (case si_BadStop_BadOrder => k_is)
    (case nq_BadStop_BadOrder => rfl)
    (case si_BadStop_BadRow => k_is)
    (case nq_BadStop_BadRow => rfl)
    (case si_BadStop_BadStop => first | rfl | k_is)
    (case si_BadStop_Empty => k_is)
    (case nq_BadStop_Empty => rfl)
    (case si_BadStop_Full => k_is)
    (case nq_BadStop_Full => rfl)
    (case si_BadStop_Gone => k_is)
    (case nq_BadStop_Gone => rfl)
    (case si_BadStop_NoBlock => k_is)
    (case nq_BadStop_NoBlock => rfl)
    (case si_BadStop_Stopped => k_is)
    (case nq_BadStop_Stopped => rfl)
    (case yg_Empty => k_is)
    (case yk_Empty => k_is)
    (case yd_Empty => k_is)
    (case ya_Empty => k_is)
    (case ym_Empty => k_is)
    (case sv_Empty => k_is)
    (case si_Empty_BadBlock => k_is)
    (case nq_Empty_BadBlock => rfl)
    (case si_Empty_BadDisk => k_is)
    (case nq_Empty_BadDisk => rfl)
    (case si_Empty_BadOrder => k_is)
    (case nq_Empty_BadOrder => rfl)
    (case si_Empty_BadRow => k_is)
    (case nq_Empty_BadRow => rfl)
    (case si_Empty_BadStop => k_is)
    (case nq_Empty_BadStop => rfl)
    (case si_Empty_Empty => first | rfl | k_is)
    (case si_Empty_Full => k_is)
    (case nq_Empty_Full => rfl)
    (case si_Empty_Gone => k_is)
    (case nq_Empty_Gone => rfl)
    (case si_Empty_NoBlock => k_is)
    (case nq_Empty_NoBlock => rfl)
    (case si_Empty_Stopped => k_is)
    (case nq_Empty_Stopped => rfl)
    (case yg_Full => k_is)
    (case yk_Full => k_is)
    (case yd_Full => k_is)
    (case ya_Full => k_is)
    (case ym_Full => k_is)
    (case sv_Full => k_is)
    (case si_Full_BadBlock => k_is)
    (case nq_Full_BadBlock => rfl)
    (case si_Full_BadDisk => k_is)
    (case nq_Full_BadDisk => rfl)
    (case si_Full_BadOrder => k_is)
    (case nq_Full_BadOrder => rfl)
    (case si_Full_BadRow => k_is)
    (case nq_Full_BadRow => rfl)
    (case si_Full_BadStop => k_is)
    (case nq_Full_BadStop => rfl)
    (case si_Full_Empty => k_is)
    (case nq_Full_Empty => rfl)
    (case si_Full_Full => first | rfl | k_is)
    (case si_Full_Gone => k_is)
    (case nq_Full_Gone => rfl)
    (case si_Full_NoBlock => k_is)
    (case nq_Full_NoBlock => rfl)
    (case si_Full_Stopped => k_is)
    (case nq_Full_Stopped => rfl)
    (case yg_Gone => k_is)
    (case yk_Gone => k_is)
    (case yd_Gone => k_is)
    (case ya_Gone => k_is)
    (case ym_Gone => k_is)
    (case sv_Gone => k_is)
    (case si_Gone_BadBlock => k_is)
    (case nq_Gone_BadBlock => rfl)
    (case si_Gone_BadDisk => k_is)
    (case nq_Gone_BadDisk => rfl)
    (case si_Gone_BadOrder => k_is)
    (case nq_Gone_BadOrder => rfl)
    (case si_Gone_BadRow => k_is)
    (case nq_Gone_BadRow => rfl)
    (case si_Gone_BadStop => k_is)
    (case nq_Gone_BadStop => rfl)
    (case si_Gone_Empty => k_is)
    (case nq_Gone_Empty => rfl)
    (case si_Gone_Full => k_is)
    (case nq_Gone_Full => rfl)
    (case si_Gone_Gone => first | rfl | k_is)
    (case si_Gone_NoBlock => k_is)
    (case nq_Gone_NoBlock => rfl)
    (case si_Gone_Stopped => k_is)
    (case nq_Gone_Stopped => rfl)
    (case yg_NoBlock => k_is)
    (case yk_NoBlock => k_is)
    (case yd_NoBlock => k_is)
    (case ya_NoBlock => k_is)
    (case ym_NoBlock => k_is)
    (case sv_NoBlock => k_is)
    (case si_NoBlock_BadBlock => k_is)
    (case nq_NoBlock_BadBlock => rfl)
    (case si_NoBlock_BadDisk => k_is)
    (case nq_NoBlock_BadDisk => rfl)
    (case si_NoBlock_BadOrder => k_is)
    (case nq_NoBlock_BadOrder => rfl)
    (case si_NoBlock_BadRow => k_is)
    (case nq_NoBlock_BadRow => rfl)
    (case si_NoBlock_BadStop => k_is)
    (case nq_NoBlock_BadStop => rfl)
    (case si_NoBlock_Empty => k_is)
    (case nq_NoBlock_Empty => rfl)
    (case si_NoBlock_Full => k_is)
    (case nq_NoBlock_Full => rfl)
    (case si_NoBlock_Gone => k_is)
    (case nq_NoBlock_Gone => rfl)
    (case si_NoBlock_NoBlock => first | rfl | k_is)
    (case si_NoBlock_Stopped => k_is)
    (case nq_NoBlock_Stopped => rfl)
    (case yg_Stopped => k_is)
    (case yk_Stopped => k_is)
    (case yd_Stopped => k_is)
    (case ya_Stopped => k_is)
    (case ym_Stopped => k_is)
    (case sv_Stopped => k_is)
    (case si_Stopped_BadBlock => k_is)
    (case nq_Stopped_BadBlock => rfl)
    (case si_Stopped_BadDisk => k_is)
    (case nq_Stopped_BadDisk => rfl)
    (case si_Stopped_BadOrder => k_is)
    (case nq_Stopped_BadOrder => rfl)
    (case si_Stopped_BadRow => k_is)
    (case nq_Stopped_BadRow => rfl)
    (case si_Stopped_BadStop => k_is)
    (case nq_Stopped_BadStop => rfl)
    (case si_Stopped_Empty => k_is)
    (case nq_Stopped_Empty => rfl)
    (case si_Stopped_Full => k_is)
    (case nq_Stopped_Full => rfl)
    (case si_Stopped_Gone => k_is)
    (case nq_Stopped_Gone => rfl)
    (case si_Stopped_NoBlock => k_is)
    (case nq_Stopped_NoBlock => rfl)
    (case si_Stopped_Stopped => first | rfl | k_is)
    (case s_BadBlock_LogError => k_is)
    (case s_BadDisk_LogError => k_is)
    (case s_BadOrder_LogError => k_is)
    (case s_BadRow_LogError => k_is)
    (case s_BadStop_LogError => k_is)
    (case s_Empty_LogError => k_is)
    (case s_Full_LogError => k_is)
    (case s_Gone_LogError => k_is)
    (case s_NoBlock_LogError => k_is)
    (case s_Stopped_LogError => k_is)
    (case a0 => k_is)
    (case l0 => k_is)
    (case c0 => k_is)
    (case k0 => k_is)
    (case a1 => k_is)
    (case l1 => k_is)
    (case c1 => k_is)
    (case k1 => k_is)
    (case a2 => k_is)
    (case l2 => k_is)
    (case c2 => k_is)
    (case k2 => k_is)
    (case a3 => k_is)
    (case l3 => k_is)
    (case c3 => k_is)
    (case k3 => k_is)
    (case a4 => k_is)
    (case l4 => k_is)
    (case c4 => k_is)
    (case k4 => k_is)
    (case a5 => k_is)
    (case l5 => k_is)
    (case c5 => k_is)
    (case k5 => k_is)
    (case a6 => k_is)
    (case l6 => k_is)
    (case c6 => k_is)
    (case k6 => k_is)
    (case a7 => k_is)
    (case l7 => k_is)
    (case c7 => k_is)
    (case k7 => k_is)
    (case a8 => k_is)
    (case l8 => k_is)
    (case c8 => k_is)
    (case k8 => k_is)
    (case a9 => k_is)
    (case l9 => k_is)
    (case c9 => k_is)
    (case k9 => k_is)
    (case a10 => k_is)
    (case l10 => k_is)
    (case c10 => k_is)
    (case k10 => k_is)
    (case a11 => k_is)
    (case l11 => k_is)
    (case c11 => k_is)
    (case k11 => k_is)
    (case a12 => k_is)
    (case l12 => k_is)
    (case c12 => k_is)
    (case k12 => k_is)
    (case a13 => k_is)
    (case l13 => k_is)
    (case c13 => k_is)
    (case k13 => k_is)
    (case a14 => k_is)
    (case l14 => k_is)
    (case c14 => k_is)
    (case k14 => k_is)
    (case a15 => k_is)
    (case l15 => k_is)
    (case c15 => k_is)
    (case k15 => k_is)
    (case a16 => k_is)
    (case l16 => k_is)
    (case c16 => k_is)
    (case k16 => k_is)
    (case a17 => k_is)
    (case l17 => k_is)
    (case c17 => k_is)
    (case k17 => k_is)
    (case a18 => k_is)
    (case l18 => k_is)
    (case c18 => k_is)
    (case k18 => k_is)
    (case a19 => k_is)
    (case l19 => k_is)
    (case c19 => k_is)
    (case k19 => k_is)
    (case a20 => k_is)
    (case i20 => k_is)
    (case l20 => k_is)
    (case c20 => k_is)
    (case k20 => k_is)
    (case a21 => k_is)
    (case i21 => k_is)
    (case l21 => k_is)
    (case c21 => k_is)
    (case k21 => k_is)
    (case a22 => k_is)
    (case i22 => k_is)
    (case l22 => k_is)
    (case c22 => k_is)
    (case k22 => k_is)
    (case a23 => k_is)
    (case i23 => k_is)
    (case l23 => k_is)
    (case c23 => k_is)
    (case k23 => k_is)
    (case a24 => k_is)
    (case i24 => k_is)
    (case l24 => k_is)
    (case c24 => k_is)
    (case k24 => k_is)
    (case a25 => k_is)
    (case i25 => k_is)
    (case l25 => k_is)
    (case c25 => k_is)
    (case k25 => k_is)
    (case a26 => k_is)
    (case i26 => k_is)
    (case l26 => k_is)
    (case c26 => k_is)
    (case k26 => k_is)
    (case a27 => k_is)
    (case i27 => k_is)
    (case l27 => k_is)
    (case c27 => k_is)
    (case k27 => k_is)
    (case a28 => k_is)
    (case i28 => k_is)
    (case l28 => k_is)
    (case c28 => k_is)
    (case k28 => k_is)
    (case a29 => k_is)
    (case i29 => k_is)
    (case l29 => k_is)
    (case c29 => k_is)
    (case k29 => k_is)
    (case a30 => k_is)
    (case i30 => k_is)
    (case l30 => k_is)
    (case c30 => k_is)
    (case k30 => k_is)
    (case a31 => k_is)
    (case i31 => k_is)
    (case l31 => k_is)
    (case c31 => k_is)
    (case k31 => k_is)
    (case a32 => k_is)
    (case i32 => k_is)
    (case l32 => k_is)
    (case c32 => k_is)
    (case k32 => k_is)
    (case a33 => k_is)
    (case l33 => k_is)
    (case c33 => k_is)
    (case k33 => k_is)
    (case a34 => k_is)
    (case l34 => k_is)
    (case c34 => k_is)
    (case k34 => k_is)
    (case a35 => k_is)
    (case i35 => k_is)
    (case l35 => k_is)
    (case c35 => k_is)
    (case k35 => k_is)
    (case a36 => k_is)
    (case i36 => k_is)
    (case l36 => k_is)
    (case c36 => k_is)
    (case k36 => k_is)
    (case a37 => k_is)
    (case i37 => k_is)
    (case l37 => k_is)
    (case c37 => k_is)
    (case k37 => k_is)
    (case a38 => k_is)
    (case i38 => k_is)
    (case l38 => k_is)
    (case c38 => k_is)
    (case k38 => k_is)
    (case a39 => k_is)
    (case i39 => k_is)
    (case l39 => k_is)
    (case c39 => k_is)
    (case k39 => k_is)
    (case a40 => k_is)
    (case i40 => k_is)
    (case l40 => k_is)
    (case c40 => k_is)
    (case k40 => k_is)
    (case a41 => k_is)
    (case i41 => k_is)
    (case l41 => k_is)
    (case c41 => k_is)
    (case k41 => k_is)
    (case a42 => k_is)
    (case i42 => k_is)
    (case l42 => k_is)
    (case c42 => k_is)
    (case k42 => k_is)
    (case a43 => k_is)
    (case i43 => k_is)
    (case l43 => k_is)
    (case c43 => k_is)
    (case k43 => k_is)
    (case a44 => k_is)
    (case i44 => k_is)
    (case l44 => k_is)
    (case c44 => k_is)
    (case k44 => k_is)
    (case a45 => k_is)
    (case i45 => k_is)
    (case l45 => k_is)
    (case c45 => k_is)
    (case k45 => k_is)
    (case a46 => k_is)
    (case l46 => k_is)
    (case c46 => k_is)
    (case k46 => k_is)
    (case a47 => k_is)
    (case l47 => k_is)
    (case c47 => k_is)
    (case k47 => k_is)
    (case a48 => k_is)
    (case l48 => k_is)
    (case c48 => k_is)
    (case k48 => k_is)
    (case a49 => k_is)
    (case l49 => k_is)
    (case c49 => k_is)
    (case k49 => k_is)
    (case a50 => k_is)
    (case l50 => k_is)
    (case c50 => k_is)
    (case k50 => k_is)
    (case a51 => k_is)
    (case l51 => k_is)
    (case c51 => k_is)
    (case k51 => k_is)
    (case a52 => k_is)
    (case l52 => k_is)
    (case c52 => k_is)
    (case k52 => k_is)
    (case a53 => k_is)
    (case l53 => k_is)
    (case c53 => k_is)
    (case k53 => k_is)
    (case a54 => k_is)
    (case l54 => k_is)
    (case c54 => k_is)
    (case k54 => k_is)
    (case z_ValueError => k_is)
    (case z_all => k_is)
    (case z_bool => k_is)
    (case z_enumerate => k_is)
    (case z_int => k_is)
    (case z_isinstance => k_is)
    (case z_len => k_is)
    (case z_list => k_is)
    (case z_range => k_is)
    (case z_str => k_is)
    (case z_sum => k_is)
    (case z_tuple => k_is)
    (case q_PIECE_WORDS => k_is)
    (case q_NUMBER => k_is)
    (case q_FLOOR => k_is)
    (case q_BEGIN => k_is)
    (case q_LEFT => k_is)
    (case q_DATA_FROM => k_is)
    (case q_DATA_TO => k_is)
    (case q_NO_BEGIN => k_is)
    (case q_LEFT_OF_MARK => k_is)
    (case q_LEFT_OF_FAREWELL => k_is)
    (case q_MOST_WORDS => k_is)
    (case q_MOST_WORD_OF_ROW => k_is)
    (case q_LEAST_BLOCKS => k_is)
    (case q_MOST_BLOCKS => k_is)
    (case q_BLOCK_WORDS => k_is)
    (case q_MOST_WORD => k_is)
    (case q_MOST_COUNT => k_is)
    (case q_MOST_PART => k_is)
    (case q_BARE_ORDERS => k_is)
    (case w_BARE_ORDERS => k_is)

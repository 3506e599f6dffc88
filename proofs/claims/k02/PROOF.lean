import PyProof.Rows.All
import Wide.All
import OpenK.AllK
import Wide.FinOn
import HandS.ForMost
import HandS.Star
import HandS.IsInst
import HandS.Walk
import HandS.WideBits
import HandS.ForExc
import HandS.TryMany
import HandS.Dict
import HandS.Sort
import PySem.Challenge.RW_ringlog_k02_disks
set_option Elab.async false
set_option maxRecDepth 100000
set_option maxHeartbeats 1000000
set_option linter.all false
namespace RL
open PySem L2 StX
/-! ### range as a value; x not in range(n) for ints, None, texts -/
def rRng1 : List V → Hp → VK → Prop := fun vs H Q => ∃ j : Int, vs = [.int j] ∧ ∀ p, H p = none → Q (.ref p) (upd H p (.rng 0 j))
theorem cr_range1 {X : Cx} : CallR X (.type "range") rRng1 := by
  intro pins s σ H vs us Q I r h
  obtain ⟨j, rfl, q⟩ := h
  obtain ⟨u1, rfl, t, rfl⟩ : ∃ u1, us = [u1] ∧ ∃ t, u1 = Value.int j t := by
    cases r with
    | cons r1 r2 =>
      cases r2
      exact ⟨_, rfl, r1⟩
  refine call_range_1 ⟨.ref s.heap.objs.size, upd H s.heap.objs.size (.rng 0 j), ?_, rfl, q _ (I.hok.fresh (Nat.le_refl _))⟩
  exact Inv.laid I (fun b o e => Heap.get?_push_of_some _ e) (Nat.le_refl _) ⟨_, _, _, Heap.get?_push_size s.heap rfl⟩
theorem plain_rng_loop : plainId "range.__contains__.loop" = true := by decide +kernel
theorem entry_rng_loop : entryFor table "range.__contains__.loop" = some Builtin.«range.__contains__.loop» := entryFor_of_fast (by kernel_rfl)
def NoInt (x : Value) : Prop := x = .none ∨ ∃ z k, x = .str z k
theorem NoInt.eq {x : Value} (h : NoInt x) (A : Around) (s : Shared) (i : Int) (t : Tok) : SeqAt.EqAt A s (.int i t) x false := by
  rcases h with rfl | ⟨z, k, rfl⟩
  · exact SeqAt.EqAt.int_none i t
  · exact SeqAt.EqAt.int_str i t z k
theorem rng_loop (r : Addr) (n : Int) (t u v : Tok) (x : Value) (hx : NoInt x) (k : Nat) :
    ∀ i : Nat, n.toNat - i = k → Meets (Builtin.«range.__contains__.loop» ⟨[.ref r, x, rawInt i], []⟩)
      (fun _ R s => s.heap.get? r = some { cls := .type "range", dict := none, data := .fields #[.int 0 t, .int n u, .int 1 v], slots := #[] } ∧ ∀ t', R (.ok (.ret (.bool false))) { s with toks := t' }) := by
  have e : Builtin.Range.rangeSize 0 n 1 = n.toNat := by
    unfold Builtin.Range.rangeSize
    rw [if_pos (by decide)]
    split <;> omega
  induction k with
  | zero =>
    intro i hk prog w A R s h
    obtain ⟨hp, g, d, tk, os⟩ := s; obtain ⟨hl, h⟩ := h
    wp_walk
    rw [if_pos (by rw [e]; omega)]
    wp_walk
    exact h _
  | succ k ih =>
    intro i hk prog w A R s h
    obtain ⟨hp, g, d, tk, os⟩ := s; obtain ⟨hl, h⟩ := h
    wp_walk
    rw [if_neg (by rw [e]; omega)]
    generalize hE : eqBool = eB
    wp_walk
    subst hE
    refine hx.eq _ _ _ _ prog w _ _ ?_
    have hc : ((i : Int) + 1) = ((i + 1 : Nat) : Int) := by push_cast; rfl
    wp_walk
    rw [hc]
    exact ⟨plainId_quiet plain_rng_loop _, codeAny_builtin entry_rng_loop (by
      rw [Around.under_plainId plain_rng_loop _]
      exact ih (i + 1) (by omega) prog w A R _ ⟨hl, h⟩)⟩
theorem q_containsNo (r : Addr) (n : Int) (t u v : Tok) (x : Value) (hx : NoInt x) :
    Meets (Builtin.«range.__contains__» ⟨[.ref r, x], []⟩) (fun _ R s => s.heap.get? r = some { cls := .type "range", dict := none, data := .fields #[.int 0 t, .int n u, .int 1 v], slots := #[] } ∧ ∀ t', R (.ok (.ret (.bool false))) { s with toks := t' }) := by
  intro prog w A R s h
  obtain ⟨hp, g, d, tk, os⟩ := s; obtain ⟨hl, h⟩ := h
  have e : Builtin.Range.rangeExactInt? x = none := by
    rcases hx with rfl | ⟨z, k, rfl⟩ <;> rfl
  wp_walk
  rw [e]
  wp_walk
  exact ⟨plainId_quiet plain_rng_loop _, codeAny_builtin entry_rng_loop (by
    rw [Around.under_plainId plain_rng_loop _]
    exact rng_loop r n t u v x hx _ 0 rfl prog w A R _ ⟨hl, h⟩)⟩
def rNotRng : R2 := fun x y H Q => ∃ a n, y = .ref a ∧ H a = some (.rng 0 n) ∧ ((∃ i, x = .int i ∧ Q (.bl (!decide (0 ≤ i ∧ i < n))) H) ∨ ((x = .non ∨ ∃ z, x = .str z) ∧ Q (.bl true) H))
theorem op_notInRng {X : Cx} : OpR X (compareOp .NotIn) rNotRng := by
  intro pins s σ H x y v u Q I rx ry h
  obtain ⟨a, n, rfl, ha, h⟩ := h
  obtain rfl : u = Value.ref a := ry
  obtain ⟨t1, t2, t3, ho⟩ := I.hok a _ ha
  show wpAny _ _ (do return Value.bool (!(← contains (Value.ref a) v))) _ _ s
  rcases h with ⟨i, rfl, q⟩ | ⟨hx, q⟩
  · obtain ⟨k, rfl⟩ := rx
    refine wpAny_bind (wpAny_contains_slot (T := "range") ⟨_, ho, rfl⟩ F.slot_range_contains (call_meets F.slot_range_contains ⟨_, ho, rfl⟩ F.entry_range_contains (F.args_range_contains_2 _ _) (q_contains a 0 n i t1 t2 t3 k)
      ⟨ho, wpAny_truthy_bool (wpAny_pure ⟨.bl _, H, I, rfl, ?_⟩)⟩))
    rw [place1]
    exact q
  · have hn : NoInt v := by
      rcases hx with rfl | ⟨z, rfl⟩
      · exact .inl rx
      · obtain ⟨t, rfl⟩ := rx
        exact .inr ⟨_, _, rfl⟩
    refine wpAny_bind (wpAny_contains_slot (T := "range") ⟨_, ho, rfl⟩ F.slot_range_contains (call_meets F.slot_range_contains ⟨_, ho, rfl⟩ F.entry_range_contains (F.args_range_contains_2 _ _) (q_containsNo a n t1 t2 t3 v hn)
      ⟨ho, fun t' => wpAny_truthy_bool (wpAny_pure ⟨.bl _, H, I.tok t', rfl, ?_⟩)⟩))
    exact q
end RL
namespace RL
open PySem L2 StX

/-! ### heaps as lists of what stands where -/
structure Holds (H : Hp) (L : List (Addr × HO)) : Prop where
  nd : (L.map Prod.fst).Nodup
  at_ : ∀ x ∈ L, H x.1 = some x.2
theorem Holds.get {H : Hp} {L : List (Addr × HO)} {a : Addr} {o : HO} (h : Holds H L) (m : (a, o) ∈ L) : H a = some o := h.at_ _ m
theorem Holds.fresh {H : Hp} {L : List (Addr × HO)} (h : Holds H L) {p : Addr} (hp : H p = none) : p ∉ L.map Prod.fst := fun hm => by
  obtain ⟨x, hx, e⟩ := List.mem_map.mp hm
  have := h.at_ x hx
  rw [e, hp] at this
  cases this
theorem Holds.nil {H : Hp} : Holds H [] := ⟨List.nodup_nil, fun _ h => nomatch h⟩
theorem Holds.one {H : Hp} {a : Addr} {o : HO} (h : H a = some o) : Holds H [(a, o)] := ⟨by simp, fun x hx => by
  obtain rfl : x = (a, o) := by simpa using hx
  exact h⟩
theorem Holds.tl {H : Hp} {L : List (Addr × HO)} {x : Addr × HO} (h : Holds H (x :: L)) : Holds H L :=
  ⟨(List.nodup_cons.mp h.nd).2, fun y hy => h.at_ y (List.mem_cons_of_mem _ hy)⟩
/-- a new object -/
theorem Holds.new {H : Hp} {L : List (Addr × HO)} (h : Holds H L) {p : Addr} (hp : H p = none) (o : HO) : Holds (upd H p o) ((p, o) :: L) := by
  refine ⟨?_, fun x hx => ?_⟩
  · rw [List.map_cons, List.nodup_cons]
    exact ⟨h.fresh hp, h.nd⟩
  · rcases List.mem_cons.mp hx with e | hx
    · rw [e]
      exact upd_same
    · have := h.at_ x hx
      rw [upd_ne (ne_of_none this hp)]
      exact this
/-- a new object that is let go -/
theorem Holds.lost {H : Hp} {L : List (Addr × HO)} (h : Holds H L) {p : Addr} (hp : H p = none) (o : HO) : Holds (upd H p o) L := (h.new hp o).tl
theorem Holds.drop2 {H : Hp} {L : List (Addr × HO)} {x y : Addr × HO} (h : Holds H (x :: y :: L)) : Holds H (x :: L) := by
  refine ⟨?_, fun z hz => h.at_ z ?_⟩
  · have := h.nd
    simp only [List.map_cons, List.nodup_cons, List.mem_cons, not_or] at this ⊢
    exact ⟨this.1.2, this.2.2⟩
  · rcases List.mem_cons.mp hz with e | e
    · rw [e]; exact List.mem_cons_self
    · exact List.mem_cons_of_mem _ (List.mem_cons_of_mem _ e)
/-- L' is L with o' at a -/
inductive Rep : List (Addr × HO) → Addr → HO → List (Addr × HO) → Prop
  | here {a : Addr} {o o' : HO} {L : List (Addr × HO)} : Rep ((a, o) :: L) a o' ((a, o') :: L)
  | there {a : Addr} {o' : HO} {x : Addr × HO} {L L' : List (Addr × HO)} : Rep L a o' L' → Rep (x :: L) a o' (x :: L')
theorem Rep.fst {L L' : List (Addr × HO)} {a : Addr} {o' : HO} (r : Rep L a o' L') : L'.map Prod.fst = L.map Prod.fst := by
  induction r with
  | here => rfl
  | there _ ih => simp [ih]
theorem Rep.mem {L L' : List (Addr × HO)} {a : Addr} {o' : HO} (r : Rep L a o' L') : (a, o') ∈ L' := by
  induction r with
  | here => exact List.mem_cons_self
  | there _ ih => exact List.mem_cons_of_mem _ ih
theorem Rep.old {L L' : List (Addr × HO)} {a : Addr} {o' : HO} (r : Rep L a o' L') (nd : (L.map Prod.fst).Nodup) : ∀ x ∈ L', x = (a, o') ∨ (x ∈ L ∧ x.1 ≠ a) := by
  induction r with
  | @here a o o' L =>
    intro x hx
    rcases List.mem_cons.mp hx with e | hx
    · exact .inl e
    · refine .inr ⟨List.mem_cons_of_mem _ hx, fun e => ?_⟩
      rw [List.map_cons, List.nodup_cons] at nd
      exact nd.1 (List.mem_map.mpr ⟨x, hx, e⟩)
  | @there a o' y L L' r ih =>
    intro x hx
    rw [List.map_cons, List.nodup_cons] at nd
    rcases List.mem_cons.mp hx with e | hx
    · refine .inr ⟨e ▸ List.mem_cons_self, fun q => ?_⟩
      have hm : a ∈ L.map Prod.fst := r.fst ▸ List.mem_map_of_mem (f := Prod.fst) r.mem
      rw [e] at q
      exact nd.1 (q ▸ hm)
    · rcases ih nd.2 x hx with e | ⟨h1, h2⟩
      · exact .inl e
      · exact .inr ⟨List.mem_cons_of_mem _ h1, h2⟩
/-- a store -/
theorem Holds.put {H : Hp} {L L' : List (Addr × HO)} {a : Addr} {o' : HO} (h : Holds H L) (r : Rep L a o' L') : Holds (upd H a o') L' := by
  refine ⟨by rw [r.fst]; exact h.nd, fun x hx => ?_⟩
  rcases r.old h.nd x hx with e | ⟨h1, h2⟩
  · rw [e]
    exact upd_same
  · rw [upd_ne h2]
    exact h.at_ x h1
/-- what stood and is none of W stands as it was -/
def Upto (W : List Addr) (H H' : Hp) : Prop := ∀ b o, b ∉ W → H b = some o → H' b = some o
theorem Upto.refl (W : List Addr) (H : Hp) : Upto W H H := fun _ _ _ h => h
theorem Upto.trans {W : List Addr} {H H1 H2 : Hp} (a : Upto W H H1) (b : Upto W H1 H2) : Upto W H H2 := fun c o n h => b c o n (a c o n h)
theorem Upto.mono {W W' : List Addr} {H H1 : Hp} (a : Upto W H H1) (s : ∀ x ∈ W, x ∈ W') : Upto W' H H1 := fun c o n h => a c o (fun z => n (s c z)) h
theorem Upto.new {W : List Addr} {H : Hp} {p : Addr} {o : HO} (hp : H p = none) : Upto W H (upd H p o) := fun b u _ q => by rw [upd_ne (ne_of_none q hp)]; exact q
theorem Upto.put {W : List Addr} {H : Hp} {p : Addr} {o : HO} (hp : p ∈ W) : Upto W H (upd H p o) := fun b u n q => by
  have hb : b ≠ p := fun e => n (by rw [e]; exact hp)
  rw [upd_ne hb]
  exact q
theorem Same.upto {W : List Addr} {H H' : Hp} (s : Same H H') : Upto W H H' := fun b o _ h => s b o h
theorem Upto.same {H H' : Hp} (s : Upto [] H H') : Same H H' := fun b o h => s b o (by simp) h
theorem Holds.same {H H' : Hp} {L : List (Addr × HO)} (h : Holds H L) (s : Same H H') : Holds H' L := ⟨h.nd, fun x hx => s _ _ (h.at_ x hx)⟩
theorem Holds.away {H H' : Hp} {L : List (Addr × HO)} {W : List Addr} (h : Holds H L) (u : Upto W H H') (d : ∀ x ∈ L, x.1 ∉ W) : Holds H' L := ⟨h.nd, fun x hx => u _ _ (d x hx) (h.at_ x hx)⟩
/-- behind a call that changes a alone -/
theorem Holds.upto {H H' : Hp} {L L' : List (Addr × HO)} {a : Addr} {o' : HO} (h : Holds H L) (u : Upto [a] H H') (e : H' a = some o') (r : Rep L a o' L') : Holds H' L' := by
  refine ⟨by rw [r.fst]; exact h.nd, fun x hx => ?_⟩
  rcases r.old h.nd x hx with q | ⟨h1, h2⟩
  · rw [q]
    exact e
  · exact u _ _ (by simpa using h2) (h.at_ x h1)
theorem same_new {H : Hp} {p : Addr} (h : H p = none) (o : HO) : Same H (upd H p o) := fun b u q => by rw [upd_ne (ne_of_none q h)]; exact q
theorem Holds.uptoNew {H H' : Hp} {W : List Addr} {p : Addr} (h : Upto W H H') (n : H' p = none) (hw : p ∉ W) : H p = none := by
  cases q : H p with
  | none => rfl
  | some o =>
    rw [h p o hw q] at n
    cases n

/-! ### calls of the module's defs -/
structure DefOk (P : Program) (w : World) (K : PySem.W.Frag) (mg : Str → Option Value) (base : Heap) (CX : CXT) (k : Nat) (x : Str) (ps : List Str) (sp : Sp) : Prop where
  ex : ∃ (f : Addr) (fd : FuncData), FnOk P w K mg base CX k f fd ps sp ∧ Binds K fd ps [] ∧ PySem.W.keepIn K (.ref f) = true ∧ mg x = some (.ref f)
section
variable {X : Cx} {CX : CXT} {k n : Nat} {ps : List Str} {sp : Sp} {E : XK} {x : Str} {p pos : Pos} {e : Expr} {es : List Expr} {t : TA}
theorem pe_callD (D : DefOk X.prog X.w X.K X.mg X.base CX k x ps sp) (hr : Room n X.A) (hg : Gl X x) (hx : Passes CX X E)
    (ha : PA X (e :: es) t) (hk : k ≤ n := by first | decide | exact Nat.le_refl _) (hdb : (x == ("__debug__" : Str)) = false := by decide) (he : starEach (e :: es) X.env = (false, eval e X.env) :: starEach es X.env := by rfl) (hpl : (backTo pos (starEach es X.env)).any (·.1) = false := by rfl) :
    PE X (.Call (.Name x p) (e :: es) [] pos) (tCall sp [] E t) := by
  obtain ⟨f, fd, F, b, kp, m⟩ := D.ex
  exact pe_call F (hr.mono hk) hg m kp b .nil hx ha hdb he hpl
theorem pe_callD0 (D : DefOk X.prog X.w X.K X.mg X.base CX k x ps sp) (hr : Room n X.A) (hg : Gl X x) (hx : Passes CX X E)
    (hk : k ≤ n := by first | decide | exact Nat.le_refl _) (hdb : (x == ("__debug__" : Str)) = false := by decide) :
    PE X (.Call (.Name x p) [] [] pos) (tCall sp [] E tNil) := by
  obtain ⟨f, fd, F, b, kp, m⟩ := D.ex
  exact pe_call0 F (hr.mono hk) hg m kp b .nil hx hdb
end

/-! ### the state of a body: W may be written, H0 at the entry, H now; M what may be written (W's and what is new), I what is read -/
structure Hs (W : List Addr) (H0 H : Hp) (M I : List (Addr × HO)) : Prop where
  up : Upto W H0 H
  nd : ((M ++ I).map Prod.fst).Nodup
  at_ : ∀ x ∈ M ++ I, H x.1 = some x.2
  mu : ∀ x ∈ M, x.1 ∈ W ∨ H0 x.1 = none
section
variable {W : List Addr} {H0 H H' : Hp} {M M' I : List (Addr × HO)} {a p : Addr} {o o' : HO}
theorem Hs.holds (h : Hs W H0 H M I) : Holds H (M ++ I) := ⟨h.nd, h.at_⟩
theorem Hs.getM (h : Hs W H0 H M I) (m : (a, o) ∈ M) : H a = some o := h.at_ _ (List.mem_append_left _ m)
theorem Hs.getI (h : Hs W H0 H M I) (m : (a, o) ∈ I) : H a = some o := h.at_ _ (List.mem_append_right _ m)
theorem Hs.start {H : Hp} {M I : List (Addr × HO)} (nd : ((M ++ I).map Prod.fst).Nodup) (h : ∀ x ∈ M ++ I, H x.1 = some x.2) : Hs (M.map Prod.fst) H H M I :=
  ⟨Upto.refl _ _, nd, h, fun _ hx => .inl (List.mem_map_of_mem hx)⟩
theorem Hs.new (h : Hs W H0 H M I) (hp : H p = none) (o : HO) : Hs W H0 (upd H p o) ((p, o) :: M) I := by
  have q := h.holds.new hp o
  refine ⟨h.up.trans (Upto.new hp), q.nd, q.at_, fun x hx => ?_⟩
  rcases List.mem_cons.mp hx with e | hx
  · rw [e]
    by_cases hw : p ∈ W
    · exact .inl hw
    · exact .inr (Holds.uptoNew h.up hp hw)
  · exact h.mu x hx
theorem Hs.lost (h : Hs W H0 H M I) (hp : H p = none) (o : HO) : Hs W H0 (upd H p o) M I :=
  ⟨h.up.trans (Upto.new hp), h.nd, (h.holds.lost hp o).at_, h.mu⟩
theorem Rep.app {L L' : List (Addr × HO)} (r : Rep L a o' L') (I : List (Addr × HO)) : Rep (L ++ I) a o' (L' ++ I) := by
  induction r with
  | here => exact .here
  | there _ ih => exact .there ih
theorem Rep.memL {L L' : List (Addr × HO)} (r : Rep L a o' L') : ∃ o, (a, o) ∈ L := by
  induction r with
  | here => exact ⟨_, List.mem_cons_self⟩
  | there _ ih =>
    obtain ⟨o, ho⟩ := ih
    exact ⟨o, List.mem_cons_of_mem _ ho⟩
theorem Hs.mu' (h : Hs W H0 H M I) (r : Rep M a o' M') : ∀ x ∈ M', x.1 ∈ W ∨ H0 x.1 = none := fun x hx => by
  have : x.1 ∈ M.map Prod.fst := r.fst ▸ List.mem_map_of_mem hx
  obtain ⟨y, hy, e⟩ := List.mem_map.mp this
  rw [← e]
  exact h.mu y hy
theorem Hs.put (h : Hs W H0 H M I) (r : Rep M a o' M') : Hs W H0 (upd H a o') M' I := by
  have q := h.holds.put (r.app I)
  refine ⟨fun b u n e => ?_, q.nd, q.at_, h.mu' r⟩
  have e1 := h.up b u n e
  have hb : b ≠ a := fun z => by
    obtain ⟨o, hm⟩ := r.memL
    rcases h.mu _ hm with w | w
    · exact n (z ▸ w)
    · rw [z] at e
      rw [w] at e
      cases e
  rw [upd_ne hb]
  exact e1
/-- behind a call that changes a alone -/
theorem Hs.call1 (h : Hs W H0 H M I) (u : Upto [a] H H') (e : H' a = some o') (r : Rep M a o' M') : Hs W H0 H' M' I := by
  have q := h.holds.upto u e (r.app I)
  refine ⟨fun b v n eb => ?_, q.nd, q.at_, h.mu' r⟩
  have hb : b ≠ a := fun z => by
    obtain ⟨o, hm⟩ := r.memL
    rcases h.mu _ hm with w | w
    · exact n (z ▸ w)
    · rw [z] at eb
      rw [w] at eb
      cases eb
  exact u b v (by simpa using hb) (h.up b v n eb)
/-- behind a call that changes nothing -/
theorem Hs.call0 (h : Hs W H0 H M I) (u : Upto [] H H') : Hs W H0 H' M I :=
  ⟨h.up.trans (u.mono fun _ z => nomatch z), h.nd, fun x hx => u _ _ (by simp) (h.at_ x hx), h.mu⟩
/-- what stands at a place that was free ahead, too -/
theorem Hs.add (h : Hs W H0 H M I) (h' : Hs W H0 H' M' I) (e : M'.map Prod.fst = M.map Prod.fst) (hp : H p = none) (hq : H' p = some o) : Hs W H0 H' ((p, o) :: M') I := by
  have f := h.holds.fresh hp
  refine ⟨h'.up, ?_, fun x hx => ?_, fun x hx => ?_⟩
  · rw [List.cons_append, List.map_cons, List.nodup_cons]
    refine ⟨?_, h'.nd⟩
    rw [List.map_append, e, ← List.map_append]
    exact f
  · rw [List.cons_append] at hx
    rcases List.mem_cons.mp hx with z | hx
    · rw [z]
      exact hq
    · exact h'.at_ x hx
  · rcases List.mem_cons.mp hx with z | hx
    · rw [z]
      by_cases hw : p ∈ W
      · exact .inl hw
      · exact .inr (Holds.uptoNew h.up hp hw)
    · exact h'.mu x hx
theorem Hs.free (h : Hs W H0 H M I) (hp : H p = none) (hw : p ∉ W) : H0 p = none := Holds.uptoNew h.up hp hw
/-- forget -/
theorem Hs.tl {x : Addr × HO} (h : Hs W H0 H (x :: M) I) : Hs W H0 H M I :=
  ⟨h.up, by have := h.nd; rw [List.cons_append, List.map_cons, List.nodup_cons] at this; exact this.2, fun y hy => h.at_ y (List.mem_cons_of_mem _ hy), fun y hy => h.mu y (List.mem_cons_of_mem _ hy)⟩
theorem Hs.tl2 {x y : Addr × HO} (h : Hs W H0 H (x :: y :: M) I) : Hs W H0 H (x :: M) I := by
  refine ⟨h.up, ?_, fun z hz => h.at_ z ?_, fun z hz => h.mu z ?_⟩
  · have := h.nd
    simp only [List.cons_append, List.map_cons, List.nodup_cons, List.mem_cons, not_or] at this ⊢
    exact ⟨this.1.2, this.2.2⟩
  · rw [List.cons_append] at hz
    rcases List.mem_cons.mp hz with e | e
    · rw [e]; exact List.mem_cons_self
    · exact List.mem_cons_of_mem _ (List.mem_cons_of_mem _ e)
  · rcases List.mem_cons.mp hz with e | e
    · rw [e]; exact List.mem_cons_self
    · exact List.mem_cons_of_mem _ (List.mem_cons_of_mem _ e)
end

/-! ### constants of the module -/
theorem pe_globC {X : Cx} {x : Str} {i : Int} {pos : Pos} (m : ∃ t, X.mg x = some (.int i t)) (hg : Gl X x) (hd : (x == ("__debug__" : Str)) = false := by decide) : PE X (.Name x pos) (tC (.int i)) := by
  obtain ⟨t, m⟩ := m
  exact pe_glob hg m ⟨_, rfl⟩ hd

/-! ### readings by steps -/
inductive SetAt : St → Nat → V → St → Prop
  | here {x : Option V} {σ : St} {v : V} : SetAt (x :: σ) 0 v (some v :: σ)
  | there {x : Option V} {σ σ' : St} {v : V} {i : Nat} : SetAt σ i v σ' → SetAt (x :: σ) (i + 1) v (x :: σ')
theorem SetAt.eq {σ σ' : St} {i : Nat} {v : V} (h : SetAt σ i v σ') : σ.set i (some v) = σ' := by
  induction h with
  | here => rfl
  | there _ ih => rw [List.set_cons_succ, ih]
def SetI (xs : List V) (i : Int) (v : V) (zs : List V) : Prop := ∃ k, ixN xs.length i = some k ∧ xs.set k v = zs
theorem SetI.nat {xs : List V} {n : Nat} {v : V} (h : n < xs.length) : SetI xs (n : Int) v (xs.set n v) := ⟨n, by
  unfold ixN
  rw [if_pos (by omega), if_pos (by omega)]
  rfl, rfl⟩
theorem SetI.s0 {x v : V} {xs : List V} : SetI (x :: xs) 0 v (v :: xs) := SetI.nat (n := 0) (by simp)
theorem SetI.s1 {x y v : V} {xs : List V} : SetI (x :: y :: xs) 1 v (x :: v :: xs) := SetI.nat (n := 1) (by simp)
theorem SetI.s2 {x y z v : V} {xs : List V} : SetI (x :: y :: z :: xs) 2 v (x :: y :: v :: xs) := SetI.nat (n := 2) (by simp)
def kRng1 (R : It → Hp → Prop) : List V → Hp → Prop := fun vs H1 => ∃ j : Int, vs = [.int j] ∧ -(2 ^ 62) ≤ j ∧ j < 2 ^ 62 ∧ R (Itr 0 j.toNat) H1
def kRng2 (R : It → Hp → Prop) : List V → Hp → Prop := fun vs H1 => ∃ i j : Int, vs = [.int i, .int j] ∧ (-(2 ^ 62) ≤ i ∧ i < 2 ^ 62 ∧ -(2 ^ 62) ≤ j ∧ j < 2 ^ 62) ∧ R (Itr i (j - i).toNat) H1
def kLst (K : PySem.W.Frag) (R : It → Hp → Prop) : V → Hp → Prop := fun x H1 => ∃ a, x = .ref a ∧ (∃ xs, SqL K H1 a xs) ∧ R (Itl K a) H1
def kTup (K : PySem.W.Frag) (R : It → Hp → Prop) : V → Hp → Prop := fun x H1 => ∃ a, x = .ref a ∧ (∃ xs, SqT K H1 a xs) ∧ R (Itt K a) H1
def kFor (J : It) (g : TG) (tb : TS) (D : Ends) : St → Hp → Prop := fun σ H1 => ∃ W : Nat → Nat → St → Hp → Prop, (∃ m, W 0 m σ H1) ∧ ∀ i m σ H, W i m σ H →
  (J.stop i H ∧ D.nx σ H) ∨ (J.go i H ∧ ∃ N : St → Hp → Prop, (∀ σ' H', N σ' H' → ∃ m', m' < m ∧ W (i + 1) m' σ' H') ∧ ∀ x H', J.yld i H x H' → g x σ H' fun σ2 H2 => tb { D with nx := N, ct := N, bk := D.nx } σ2 H2)
def kLc (J : It) (g : TG) (tt : TT) (te : TE) (vs : List Nat) (σ : St) (Q : VK) : Hp → Prop := fun H1 => ∀ D, H1 D = none → ∃ W : Nat → Nat → Hp → Prop, (∃ m, W 0 m (upd H1 D (.lst []))) ∧ ∀ i m H, W i m H →
  (J.stop i H ∧ Q (.ref D) H) ∨ (J.go i H ∧ ∃ Nx : Hp → Prop, (∀ H', Nx H' → ∃ m', m' < m ∧ W (i + 1) m' H') ∧ ∀ x H', J.yld i H x H' → g x (wipe σ vs) H' fun σ2 H2 => wipe σ2 vs = wipe σ vs ∧ tt σ2 H2 fun b H3 =>
    if b = true then te σ2 H3 fun y H4 => ∃ acc, H4 D = some (.lst acc) ∧ acc.length < sizeLine ∧ Nx (upd H4 D (.lst (acc ++ [y]))) else Nx H3)
def newL (xs : List V) (H : Hp) (Q : VK) : Prop := xs.length ≤ sizeLine ∧ ∀ p, H p = none → Q (.ref p) (upd H p (.lst xs))
def newT (xs : List V) (H : Hp) (Q : VK) : Prop := xs.length ≤ sizeLine ∧ ∀ p, H p = none → Q (.ref p) (upd H p (.tup xs))
def kBl (Q : Bool → Hp → Prop) : VK := fun x H => ∃ k, x = .bl k ∧ Q k H
section
variable {D : Ends} {σ σ' : St} {H H' : Hp} {nx bk ct : St → Hp → Prop} {rt : VK} {t u : TS} {te ta tb tc : TE} {tt : TA} {c c2 : TT} {Q : VK} {QA : List V → Hp → Prop} {QB : Bool → Hp → Prop} {g : TG} {v x y : V} {vs : List V} {i j : Int} {n : Nat} {K : PySem.W.Frag}
theorem s_start {N : List Str} (e : start N vs = σ) (h : t D σ H) : t D (start N vs) H := by rw [e]; exact h
theorem s_seq (h : t ⟨u ⟨nx, rt, bk, ct⟩, rt, bk, ct⟩ σ H) : tSeq t u ⟨nx, rt, bk, ct⟩ σ H := h
theorem s_asg (h : te σ H fun x H1 => g x σ H1 nx) : tAsg te g ⟨nx, rt, bk, ct⟩ σ H := h
theorem s_next (h : nx σ H) : tNext ⟨nx, rt, bk, ct⟩ σ H := h
theorem s_ret (h : te σ H rt) : tRet te ⟨nx, rt, bk, ct⟩ σ H := h
theorem s_retN (h : rt .non H) : tRetN ⟨nx, rt, bk, ct⟩ σ H := h
theorem s_drop (h : te σ H fun _ H1 => nx σ H1) : tDrop te ⟨nx, rt, bk, ct⟩ σ H := h
theorem s_ifs (h : c σ H fun b H1 => if b = true then t D σ H1 else u D σ H1) : tIfS c t u D σ H := h
theorem s_gname (s : SetAt σ n v σ') (h : nx σ' H) : gName n v σ H nx := by
  show nx (σ.set n (some v)) H
  rw [s.eq]
  exact h
theorem s_var (e : σ[n]? = some (some v)) (h : Q v H) : tVar n σ H Q := ⟨v, e, h⟩
theorem s_c (h : Q v H) : tC v σ H Q := h
theorem s_op {r : R2} (h : ta σ H fun x H1 => tb σ H1 fun y H2 => r x y H2 Q) : tOp r ta tb σ H Q := h
theorem s_un {r : V → Hp → VK → Prop} (h : ta σ H fun x H1 => r x H1 Q) : tUn r ta σ H Q := h
theorem s_rU {g : Int → V} (h : Q (g i) H) : rU g (.int i) H Q := ⟨i, rfl, h⟩
theorem s_rI0 {g : Int → Int → V} (h : Q (g i j) H) : rI0 g (.int i) (.int j) H Q := ⟨i, j, rfl, rfl, h⟩
theorem s_rI {C : Int → Int → Prop} {g : Int → Int → V} (hc : C i j) (h : Q (g i j) H) : rI C g (.int i) (.int j) H Q := ⟨i, j, rfl, rfl, hc, h⟩
theorem s_eqI (h : Q (.bl (decide (i = j))) H) : rEq (.int i) (.int j) H Q := ⟨rfl, by
  have e : decide (V.int i = V.int j) = decide (i = j) := by rw [dec_int]; rfl
  rw [e]; exact h⟩
theorem s_neI (h : Q (.bl (decide (i ≠ j))) H) : rNe (.int i) (.int j) H Q := ⟨rfl, by
  have e : (!decide (V.int i = V.int j)) = decide (i ≠ j) := by rw [dec_int, decide_not]; rfl
  rw [e]; exact h⟩
theorem s_test (h : te σ H (kBl QB)) : tTest te σ H QB := h
theorem s_tB (h : te σ H (kBl QB)) : tB te σ H QB := h
theorem s_kBl {b : Bool} (h : QB b H) : kBl QB (.bl b) H := ⟨b, rfl, h⟩
theorem s_and (h : c σ H fun b H1 => if b = true then c2 σ H1 QB else QB false H1) : tAnd c c2 σ H QB := h
theorem s_or (h : c σ H fun b H1 => if b = true then QB true H1 else c2 σ H1 QB) : tOr c c2 σ H QB := h
theorem s_not (h : c σ H fun b H1 => QB (!b) H1) : tNot c σ H QB := h
theorem s_andV (h : ta σ H (kBl fun b H1 => if b = true then tb σ H1 Q else Q (.bl false) H1)) : tAndV ta tb σ H Q := h
theorem s_orV (h : ta σ H (kBl fun b H1 => if b = true then Q (.bl true) H1 else tb σ H1 Q)) : tOrV ta tb σ H Q := h
theorem s_notV (h : ta σ H (kBl fun b H1 => Q (.bl (!b)) H1)) : tNotV ta σ H Q := h
theorem s_ifE (h : c σ H fun b H1 => if b = true then ta σ H1 Q else tb σ H1 Q) : tIf c ta tb σ H Q := h
theorem s_chain {r r' : R2} (h : ta σ H fun x H1 => tb σ H1 fun y H2 => r x y H2 (kBl fun k H3 => if k = true then tc σ H3 fun w' H4 => r' y w' H4 Q else Q (.bl false) H3)) : tChain r r' ta tb tc σ H Q := h
theorem s_tup (h : tt σ H fun xs H1 => newT xs H1 Q) : tTup tt σ H Q := h
theorem s_lst (h : tt σ H fun xs H1 => newL xs H1 Q) : tLst tt σ H Q := h
theorem s_nil (h : QA [] H) : tNil σ H QA := h
theorem s_cons (h : ta σ H fun x H1 => tt σ H1 fun xs H2 => QA (x :: xs) H2) : tCons ta tt σ H QA := h
def kStar (K : PySem.W.Frag) (tt : TA) (σ : St) (QA : List V → Hp → Prop) : VK := fun x H1 => ∃ p xs, x = V.ref p ∧ (SqT K H1 p xs ∨ SqL K H1 p xs) ∧ tt σ H1 fun ys H2 => QA (xs ++ ys) H2
theorem s_star (h : te σ H (kStar K tt σ QA)) : StX.tStar K te tt σ H QA := h
theorem s_kStarL {a : Addr} {xs : List V} (hs : SqL K H a xs) (h : tt σ H fun ys H2 => QA (xs ++ ys) H2) : kStar K tt σ QA (.ref a) H := ⟨a, xs, rfl, .inr hs, h⟩
theorem s_call {sp : Sp} {E : XK} (h : tt σ H fun vs H1 => sp vs H1 Q E) : tCall sp [] E tt σ H Q := by
  show tt σ H fun vs H1 => sp (vs ++ []) H1 Q E
  have e : (fun (vs : List V) (H1 : Hp) => sp (vs ++ []) H1 Q E) = fun vs H1 => sp vs H1 Q E := by
    funext vs H1
    rw [List.append_nil]
  rw [e]
  exact h
theorem s_CB {r : List V → Hp → VK → Prop} (h : tt σ H fun vs H1 => r vs H1 Q) : tCB r tt σ H Q := h
theorem s_ixL {a : Addr} {xs : List V} (h1 : SqL K H a xs) (h2 : atI xs i = some v) (h : Q v H) : rIxL K (.ref a) (.int i) H Q := ⟨a, xs, i, v, rfl, rfl, h1, h2, h⟩
theorem s_ixT {a : Addr} {xs : List V} (h1 : SqT K H a xs) (h2 : atI xs i = some v) (h : Q v H) : rIxT K (.ref a) (.int i) H Q := ⟨a, xs, i, v, rfl, rfl, h1, h2, h⟩
theorem s_gSub {s : TSet} (h : ta σ H fun o H1 => tb σ H1 fun i H2 => s o i v H2 fun H3 => nx σ H3) : gSub ta tb s v σ H nx := h
theorem s_forR1 (h : tt σ H (kRng1 fun J H1 => kFor J g t D σ H1)) : tFor (iRng1 tt) g t D σ H := h
theorem s_forR2 (h : tt σ H (kRng2 fun J H1 => kFor J g t D σ H1)) : tFor (iRng2 tt) g t D σ H := h
theorem s_forL (h : te σ H (kLst K fun J H1 => kFor J g t D σ H1)) : tFor (iList K te) g t D σ H := h
theorem s_forT (h : te σ H (kTup K fun J H1 => kFor J g t D σ H1)) : tFor (iTup K te) g t D σ H := h
variable {ws : List Nat}
theorem s_lcR1 (h : tt σ H (kRng1 fun J H1 => kLc J g c te ws σ Q H1)) : tLc (iRng1 tt) g c te ws σ H Q := h
theorem s_lcR2 (h : tt σ H (kRng2 fun J H1 => kLc J g c te ws σ Q H1)) : tLc (iRng2 tt) g c te ws σ H Q := h
theorem s_lcL (h : ta σ H (kLst K fun J H1 => kLc J g c te ws σ Q H1)) : tLc (iList K ta) g c te ws σ H Q := h
theorem s_kRng1 {R : It → Hp → Prop} (h1 : -(2 ^ 62) ≤ i) (h2 : i < 2 ^ 62) (h : R (Itr 0 i.toNat) H) : kRng1 R [.int i] H := ⟨i, rfl, h1, h2, h⟩
theorem s_kRng2 {R : It → Hp → Prop} (h1 : -(2 ^ 62) ≤ i) (h2 : i < 2 ^ 62) (h3 : -(2 ^ 62) ≤ j) (h4 : j < 2 ^ 62) (h : R (Itr i (j - i).toNat) H) : kRng2 R [.int i, .int j] H := ⟨i, j, rfl, ⟨h1, h2, h3, h4⟩, h⟩
theorem s_kLst {R : It → Hp → Prop} {a : Addr} {xs : List V} (h1 : SqL K H a xs) (h : R (Itl K a) H) : kLst K R (.ref a) H := ⟨a, rfl, ⟨xs, h1⟩, h⟩
theorem s_kTup {R : It → Hp → Prop} {a : Addr} {xs : List V} (h1 : SqT K H a xs) (h : R (Itt K a) H) : kTup K R (.ref a) H := ⟨a, rfl, ⟨xs, h1⟩, h⟩
theorem s_iteT {A B : Prop} (h : A) : if true = true then A else B := iteT h
theorem s_iteF {A B : Prop} (h : B) : if false = true then A else B := iteF h
theorem s_iteP {p A B : Prop} [Decidable p] (hp : p) (h : A) : if decide p = true then A else B := by rw [if_pos (decide_eq_true hp)]; exact h
theorem s_iteN {p A B : Prop} [Decidable p] (hp : ¬ p) (h : B) : if decide p = true then A else B := by rw [if_neg (by simpa using hp)]; exact h
theorem s_iteD {p A B : Prop} [Decidable p] (h1 : p → A) (h2 : ¬ p → B) : if decide p = true then A else B := by
  by_cases hp : p
  · exact s_iteP hp (h1 hp)
  · exact s_iteN hp (h2 hp)
/-- what a def gives -/
theorem s_parE {n m : Nat} (h : tt σ H fun vs H1 => ∃ v w, vs = [v, w] ∧ nx ((σ.set n (some v)).set m (some w)) H1) : tPar n m tt ⟨nx, rt, bk, ct⟩ σ H := h
def kPar (n m : Nat) (σ : St) (nx : St → Hp → Prop) : List V → Hp → Prop := fun vs H1 => ∃ v w, vs = [v, w] ∧ nx ((σ.set n (some v)).set m (some w)) H1
theorem s_par {n m : Nat} (h : tt σ H (kPar n m σ nx)) : tPar n m tt ⟨nx, rt, bk, ct⟩ σ H := h
theorem s_kPar {n m : Nat} {w : V} {σ1 : St} (s1 : SetAt σ n v σ1) (s2 : SetAt σ1 m w σ') (h : nx σ' H) : kPar n m σ nx [v, w] H := ⟨v, w, rfl, by rw [s1.eq, s2.eq]; exact h⟩
variable {W : List Addr} {H0 : Hp} {M M' I : List (Addr × HO)} {a b p : Addr} {xs zs : List V}
theorem s_newL (hs : Hs W H0 H M I) (hz : xs.length ≤ sizeLine) (h : ∀ p H', Hs W H0 H' ((p, .lst xs) :: M) I → Upto [] H H' → H p = none → Q (.ref p) H') : newL xs H Q :=
  ⟨hz, fun p hp => h p _ (hs.new hp _) (Upto.new hp) hp⟩
theorem s_newT (hs : Hs W H0 H M I) (hz : xs.length ≤ sizeLine) (h : ∀ p H', Hs W H0 H' ((p, .tup xs) :: M) I → Upto [] H H' → H p = none → Q (.ref p) H') : newT xs H Q :=
  ⟨hz, fun p hp => h p _ (hs.new hp _) (Upto.new hp) hp⟩
theorem s_setL {QH : Hp → Prop} (hs : Hs W H0 H M I) (h1 : H a = some (.lst xs)) (h2 : SetI xs i v zs) (r : Rep M a (.lst zs) M') (h : ∀ H', Hs W H0 H' M' I → Upto [a] H H' → QH H') : rSetL (.ref a) (.int i) v H QH := by
  obtain ⟨k, h2, h3⟩ := h2
  exact ⟨a, xs, i, k, rfl, rfl, h1, h2, by rw [h3]; exact h _ (hs.put r) (Upto.put (by simp))⟩
theorem s_cat (hs : Hs W H0 H M I) (h1 : H a = some (.lst xs)) (h2 : H b = some (.lst zs)) (hz : xs.length + zs.length ≤ sizeLine) (h : ∀ p H', Hs W H0 H' ((p, .lst (xs ++ zs)) :: M) I → Upto [] H H' → H p = none → Q (.ref p) H') : rCat (.ref a) (.ref b) H Q :=
  ⟨a, b, xs, zs, rfl, rfl, h1, h2, hz, fun p hp => h p _ (hs.new hp _) (Upto.new hp) hp⟩
theorem s_rep {k : Int} (hs : Hs W H0 H M I) (h1 : H a = some (.lst xs)) (hk : -(2 ^ 63) ≤ k ∧ k < 2 ^ 63) (hz : xs.length * k.toNat ≤ sizeLine) (h : ∀ p H', Hs W H0 H' ((p, .lst (List.replicate k.toNat xs).flatten) :: M) I → Upto [] H H' → H p = none → Q (.ref p) H') : rRep (.ref a) (.int k) H Q :=
  ⟨a, k, xs, rfl, rfl, h1, hk.1, hk.2, hz, fun p hp => h p _ (hs.new hp _) (Upto.new hp) hp⟩
/-- a slice -/
theorem s_sl {r : V → Option Int → Option Int → Hp → VK → Prop} {tl th : TO} (h : te σ H fun x H1 => tl σ H1 fun l H2 => th σ H2 fun u H3 => r x l u H3 Q) : tSl r te tl th σ H Q := h
theorem s_noPart {QO : Option Int → Hp → Prop} (h : QO none H) : tNoPart σ H QO := h
def kPart (QO : Option Int → Hp → Prop) : VK := fun x H1 => ∃ i, x = .int i ∧ QO (some i) H1
theorem s_part {QO : Option Int → Hp → Prop} (h : te σ H (kPart QO)) : tPart te σ H QO := h
theorem s_kPart {QO : Option Int → Hp → Prop} (h : QO (some i) H) : kPart QO (.int i) H := ⟨i, rfl, h⟩
theorem s_slL {lo hi : Option Int} (hs : Hs W H0 H M I) (h1 : SqL K H a xs) (h : ∀ p H', Hs W H0 H' ((p, .lst (cutV xs lo hi)) :: M) I → Upto [] H H' → H p = none → Q (.ref p) H') : rSlL K (.ref a) lo hi H Q :=
  ⟨a, xs, rfl, h1, fun p hp => h p _ (hs.new hp _) (Upto.new hp) hp⟩
/-- built-ins by name -/
def rLenS (K : PySem.W.Frag) : List V → Hp → VK → Prop := fun xs H Q => ∃ p ys, xs = [.ref p] ∧ (SqL K H p ys ∨ SqT K H p ys) ∧ Q (.int ys.length) H
theorem call_lenS {X : Cx} : CallR X (.builtin "len") (rLenS X.K) := call_len_seq
theorem s_lenL (h1 : SqL K H a xs) (h : Q (.int xs.length) H) : rLenS K [.ref a] H Q := ⟨a, xs, rfl, .inl h1, h⟩
theorem s_lenT (h1 : SqT K H a xs) (h : Q (.int xs.length) H) : rLenS K [.ref a] H Q := ⟨a, xs, rfl, .inr h1, h⟩
def rMax2 : List V → Hp → VK → Prop := fun xs H Q => ∃ i j, xs = [.int i, .int j] ∧ Q (.int (if j > i then j else i)) H
theorem call_max2' {X : Cx} (hc : X.calm = true) : CallR X (.builtin "max") rMax2 := call_max2 hc
theorem s_max2 (h : ∀ k : Int, (i ≤ k ∧ j ≤ k ∧ (k = i ∨ k = j)) → Q (.int k) H) : rMax2 [.int i, .int j] H Q := ⟨i, j, rfl, by
  apply h
  split <;> omega⟩
def rListOf (K : PySem.W.Frag) : List V → Hp → VK → Prop := fun xs H Q => ∃ p ys, xs = [.ref p] ∧ (SqL K H p ys ∨ SqT K H p ys) ∧ ∀ l, H l = none → Q (.ref l) (upd H l (.lst ys))
theorem call_listOf {X : Cx} : CallR X (.type "list") (rListOf X.K) := call_list_of
theorem s_listOf (hs : Hs W H0 H M I) (h1 : SqL K H a xs) (h : ∀ p H', Hs W H0 H' ((p, .lst xs) :: M) I → Upto [] H H' → H p = none → Q (.ref p) H') : rListOf K [.ref a] H Q :=
  ⟨a, xs, rfl, .inl h1, fun p hp => h p _ (hs.new hp _) (Upto.new hp) hp⟩
theorem s_isi {x c : V} {b : Bool} {t u : Value} (hc : ClsV c u) (ht : TyX K H x t) (hk : PySem.W.kitOne K t u = some b) (h : Q (.bl b) H) : rIsi K [x, c] H Q := ⟨x, c, t, u, b, rfl, hc, ht, hk, h⟩
/-- methods of lists -/
theorem s_bm0 {T : String} {r : V → List V → Hp → VK → Prop} (h : te σ H fun x H1 => tyV K T x H1 ∧ r x [] H1 Q) : tBM0 K T r te σ H Q := h
theorem s_bm {T : String} {r : V → List V → Hp → VK → Prop} (h : te σ H fun x H1 => tyV K T x H1 ∧ tt σ H1 fun xs H2 => r x xs H2 Q) : tBM K T r te tt σ H Q := h
theorem s_tyL {A : Prop} (h1 : SqL K H a xs) (h : A) : tyV K "list" (.ref a) H ∧ A := ⟨.inl ⟨rfl, _, h1⟩, h⟩
theorem s_clear (hs : Hs W H0 H M I) (h1 : H a = some (.lst xs)) (r : Rep M a (.lst []) M') (h : ∀ H', Hs W H0 H' M' I → Upto [a] H H' → Q .non H') : rClear (.ref a) [] H Q :=
  ⟨a, xs, rfl, rfl, h1, h _ (hs.put r) (Upto.put (by simp))⟩
theorem s_append (hs : Hs W H0 H M I) (h1 : H a = some (.lst xs)) (hz : xs.length < sizeLine) (r : Rep M a (.lst (xs ++ [v])) M') (h : ∀ H', Hs W H0 H' M' I → Upto [a] H H' → Q .non H') : rAppend (.ref a) [v] H Q :=
  ⟨a, xs, v, rfl, rfl, h1, hz, h _ (hs.put r) (Upto.put (by simp))⟩
theorem s_extend (hs : Hs W H0 H M I) (h1 : H a = some (.lst xs)) (h2 : H b = some (.lst zs)) (hz : xs.length + zs.length ≤ sizeLine) (r : Rep M a (.lst (xs ++ zs)) M') (h : ∀ H', Hs W H0 H' M' I → Upto [a] H H' → Q .non H') : rExtend (.ref a) [.ref b] H Q :=
  ⟨a, b, xs, zs, rfl, rfl, h1, h2, hz, h _ (hs.put r) (Upto.put (by simp))⟩
/-- tuples as targets -/
theorem s_gTup {t : TGs} (h1 : SqT K H a xs) (hn : xs.length = n) (h : t xs σ H nx) : gTup K n t (.ref a) σ H nx := ⟨a, xs, rfl, h1, hn, h⟩
theorem s_gCons {t : TG} {u : TGs} (h : t v σ H fun σ' H' => u vs σ' H' nx) : gCons t u (v :: vs) σ H nx := ⟨v, vs, rfl, h⟩
theorem s_gNil (h : nx σ H) : gNil [] σ H nx := ⟨rfl, h⟩
/-- a for over a range, a list -/
theorem f_range {lo : Int} (Pv : Nat → St → Hp → Prop) (h0 : Pv 0 σ H)
    (hs : ∀ i σ H, i < n → Pv i σ H → g (.int (lo + i)) σ H fun σ2 H2 => t ⟨Pv (i + 1), rt, nx, Pv (i + 1)⟩ σ2 H2) (hd : ∀ σ H, Pv n σ H → nx σ H) : kFor (Itr lo n) g t ⟨nx, rt, bk, ct⟩ σ H := for_range Pv h0 hs hd
theorem f_list (Pv : Nat → St → Hp → Prop) (h0 : Pv 0 σ H) (hl : ∀ i σ H, i ≤ xs.length → Pv i σ H → SqL K H a xs)
    (hs : ∀ i x σ H, xs[i]? = some x → Pv i σ H → g x σ H fun σ2 H2 => t ⟨Pv (i + 1), rt, nx, Pv (i + 1)⟩ σ2 H2) (hd : ∀ σ H, Pv xs.length σ H → nx σ H) : kFor (Itl K a) g t ⟨nx, rt, bk, ct⟩ σ H := for_list Pv h0 hl hs hd
end

/-! ### the law's script, and how a body starts -/
def ScrL (K : PySem.W.Frag) (sc : Addr) (ns : List Int) (S : List (Addr × HO)) : Prop := ∀ H : Hp, Holds H S → SqL K H sc (ns.map V.int)
section
variable {W : List Addr} {H0 H H' : Hp} {M M' S I : List (Addr × HO)} {a p r sc : Addr} {o o' : HO} {K : PySem.W.Frag} {ns : List Int}
theorem ScrL.of (h : SqL K H sc (ns.map V.int)) : ∃ S, ScrL K sc ns S ∧ Holds H S := by
  rcases h with (h | ⟨o, h⟩) | h
  · exact ⟨[(sc, _)], fun H' hh => .inl (.inl (hh.at_ _ List.mem_cons_self)), Holds.one h⟩
  · exact ⟨[(sc, _)], fun H' hh => .inl (.inr ⟨o, hh.at_ _ List.mem_cons_self⟩), Holds.one h⟩
  · exact ⟨[], fun H' _ => .inr h, Holds.nil⟩
theorem Hs.holdsI (h : Hs W H0 H M I) : Holds H I :=
  ⟨by have := h.nd; rw [List.map_append, List.nodup_append] at this; exact this.2.1, fun x hx => h.at_ x (List.mem_append_right _ hx)⟩
theorem Hs.scr (h : Hs W H0 H M S) (s : ScrL K sc ns S) : SqL K H sc (ns.map V.int) := s H h.holdsI
theorem Hs.row (h : Hs W H0 H M S) (m : (r, o) ∈ M) : Holds H ((r, o) :: S) := by
  refine ⟨?_, fun x hx => ?_⟩
  · have nd := h.nd
    rw [List.map_append, List.nodup_append] at nd
    rw [List.map_cons, List.nodup_cons]
    refine ⟨fun z => nd.2.2 r (List.mem_map_of_mem (f := Prod.fst) m) r z rfl, nd.2.1⟩
  · rcases List.mem_cons.mp hx with e | hx
    · rw [e]
      exact h.at_ _ (List.mem_append_left _ m)
    · exact h.at_ x (List.mem_append_right _ hx)
theorem Hs.start0 : Hs [] H H [] [] := ⟨Upto.refl _ _, List.nodup_nil, fun _ h => (nomatch h), fun _ h => (nomatch h)⟩
theorem Hs.startI (h : Holds H I) : Hs [] H H [] I := ⟨Upto.refl _ _, h.nd, h.at_, fun _ h => (nomatch h)⟩
theorem Hs.start1 (h : Holds H ((r, o) :: I)) : Hs [r] H H [(r, o)] I := ⟨Upto.refl _ _, h.nd, h.at_, fun x hx => .inl (by
  obtain rfl : x = (r, o) := by simpa using hx
  simp)⟩
theorem Hs.startM {M : List (Addr × HO)} (h : Holds H (M ++ I)) : Hs (M.map Prod.fst) H H M I := ⟨Upto.refl _ _, h.nd, h.at_, fun _ hx => .inl (List.mem_map_of_mem hx)⟩
end

theorem atI_int {α : Type} {xs : List α} {i : Int} (h0 : 0 ≤ i) (h1 : i < xs.length) : ∃ x, atI xs i = some x ∧ xs[i.toNat]? = some x := by
  obtain ⟨n, rfl⟩ : ∃ n : Nat, i = (n : Int) := ⟨i.toNat, by omega⟩
  have hl : n < xs.length := by omega
  exact ⟨xs[n], atI_nat (List.getElem?_eq_getElem hl), List.getElem?_eq_getElem hl⟩
theorem atI_ints {ns : List Int} {i : Int} (h0 : 0 ≤ i) (h1 : i < ns.length) : ∃ v, atI (ns.map V.int) i = some (V.int v) := by
  obtain ⟨x, h, e⟩ := atI_int (xs := ns.map V.int) h0 (by rw [List.length_map]; exact h1)
  rw [List.getElem?_map] at e
  cases q : ns[i.toNat]? with
  | none => rw [q] at e; cases e
  | some u =>
    rw [q] at e
    exact ⟨u, by rw [h]; exact e.symm⟩

/-! ### data, types, comprehensions -/
theorem SqL.tyx {K : PySem.W.Frag} {H : Hp} {a : Addr} {xs : List V} (h : SqL K H a xs) : TyX K H (.ref a) (.type "list") := by
  rcases h with (h | ⟨o, h⟩) | ⟨o, its, n, hk, hc, _⟩
  · exact .base (.lst h)
  · exact .base (.frz h)
  · exact .kList hk hc
theorem SqT.tyx {K : PySem.W.Frag} {H : Hp} {a : Addr} {xs : List V} (h : SqT K H a xs) : TyX K H (.ref a) (.type "tuple") := by
  rcases h with (h | ⟨o, h⟩) | ⟨o, its, n, hk, hc, _⟩
  · exact .base (.tup h)
  · exact .fTuple h
  · exact .kTuple hk hc
theorem same_seqT {K : PySem.W.Frag} {H H' : Hp} {a : Addr} {xs : List V} (e : Same H H') (h : SqT K H a xs) : SqT K H' a xs := by
  rcases h with (h | ⟨o, h⟩) | h
  · exact .inl (.inl (e _ _ h))
  · exact .inl (.inr ⟨o, e _ _ h⟩)
  · exact .inr h
mutual
theorem Dp.same {K : PySem.W.Frag} {H H' : Hp} (e : Same H H') : ∀ {v : V} {d : PyData}, Dp K H v d → Dp K H' v d
  | _, _, .non => .non
  | _, _, .bl b => .bl b
  | _, _, .int i => .int i
  | _, _, .str x => .str x
  | _, _, .lst s a => .lst (e.seq s) (DpAll.same e a)
  | _, _, .tup s a => .tup (same_seqT e s) (DpAll.same e a)
theorem DpAll.same {K : PySem.W.Frag} {H H' : Hp} (e : Same H H') : ∀ {vs : List V} {ds : List PyData}, DpAll K H vs ds → DpAll K H' vs ds
  | _, _, .nil => .nil
  | _, _, .cons h t => .cons (Dp.same e h) (DpAll.same e t)
end
theorem DpAll.len {K : PySem.W.Frag} {H : Hp} : ∀ {vs : List V} {ds : List PyData}, DpAll K H vs ds → vs.length = ds.length
  | _, _, .nil => rfl
  | _, _, .cons _ t => by simp [DpAll.len t]
theorem DpAll.get {K : PySem.W.Frag} {H : Hp} : ∀ {vs : List V} {ds : List PyData} {i : Nat} {d : PyData}, DpAll K H vs ds → ds[i]? = some d → ∃ v, vs[i]? = some v ∧ Dp K H v d
  | _, _, _, _, .nil, e => by simp at e
  | _, _, 0, _, .cons h _, e => by
    simp at e
    subst e
    exact ⟨_, rfl, h⟩
  | _, _, i + 1, _, .cons _ t, e => by
    obtain ⟨v, h1, h2⟩ := DpAll.get (i := i) t (by simpa using e)
    exact ⟨v, by simpa using h1, h2⟩
theorem DpAll.ints {K : PySem.W.Frag} {H : Hp} : ∀ ns : List Int, DpAll K H (ns.map V.int) (ns.map PyData.int)
  | [] => .nil
  | n :: ns => .cons (.int n) (DpAll.ints ns)
theorem Dp.ints {K : PySem.W.Frag} {H : Hp} {a : Addr} {ns : List Int} (h : SqL K H a (ns.map V.int)) : Dp K H (.ref a) (.list (ns.map PyData.int)) := .lst h (DpAll.ints ns)
/-- data of a shape: n deep, no long lists -/
inductive Sh : Nat → PyData → Prop
  | non {n : Nat} : Sh (n + 1) .none
  | bl {n : Nat} (b : Bool) : Sh (n + 1) (.bool b)
  | int {n : Nat} (i : Int) : Sh (n + 1) (.int i)
  | str {n : Nat} (x : Str) : Sh (n + 1) (.str x)
  | lst {n : Nat} {ds : List PyData} (h : ds.length ≤ 100000) (a : ∀ d ∈ ds, Sh n d) : Sh (n + 1) (.list ds)
  | tup {n : Nat} {ds : List PyData} (h : ds.length ≤ 100000) (a : ∀ d ∈ ds, Sh n d) : Sh (n + 1) (.tuple ds)
theorem Sh.ints {n : Nat} {ns : List Int} (h : ns.length ≤ 100000) : Sh (n + 2) (.list (ns.map PyData.int)) := .lst (by rw [List.length_map]; exact h) fun d hd => by
  obtain ⟨i, _, rfl⟩ := List.mem_map.mp hd
  exact .int i
theorem eqv_ints (ns : List Int) : PyData.eqvAll (ns.map PyData.int) (ns.map PyData.int) = true := by
  induction ns with
  | nil => rfl
  | cons n ns ih =>
    rw [List.map_cons, PyData.eqvAll, ih]
    simp [PyData.eqv]
theorem lay_ints (ns : List Int) : PyData.canLayAll0 (ns.map PyData.int) = true := by
  induction ns with
  | nil => rfl
  | cons n ns ih =>
    rw [List.map_cons, PyData.canLayAll0, ih]
    rfl
theorem dep_ints (ns : List Int) : PyData.depthAll (ns.map PyData.int) = 0 := by
  induction ns with
  | nil => rfl
  | cons n ns ih =>
    rw [List.map_cons, PyData.depthAll, ih]
    rfl
theorem shaped_ints (ns : List Int) : SeqAt.shaped (.list (ns.map PyData.int)) = true := by
  unfold SeqAt.shaped
  rw [PyData.canLay0, lay_ints, PyData.depth, dep_ints]
  rfl
def kAcc (D : Addr) (P : Hp → Prop) : VK := fun y H4 => ∃ acc, H4 D = some (.lst acc) ∧ acc.length < sizeLine ∧ P (upd H4 D (.lst (acc ++ [y])))
section
variable {σ : St} {H H' : Hp} {g : TG} {tt : TT} {te : TE} {Q : VK} {n v : Nat} {lo : Int} {K : PySem.W.Frag} {a b D : Addr} {xs acc : List V} {P : Hp → Prop} {y : V} {W : List Addr} {H0 : Hp} {M M' I : List (Addr × HO)} {QB : Bool → Hp → Prop} {ns ms : List Int}
theorem wipe1 (σ : St) (v : Nat) (x : V) : (wipe σ [v]).set v (some x) = σ.set v (some x) := by
  show (σ.set v none).set v (some x) = _
  rw [List.set_set]
theorem wipe2 (σ : St) (v : Nat) (x : V) : wipe (σ.set v (some x)) [v] = wipe σ [v] := by
  show (σ.set v (some x)).set v none = σ.set v none
  rw [List.set_set]
theorem f_lcR (h : ∀ D, H D = none → ∃ Pv : Nat → Hp → Prop, Pv 0 (upd H D (.lst [])) ∧
    (∀ i H, i < n → Pv i H → gName v (.int (lo + i)) σ H fun σ2 H2 => tt σ2 H2 fun b H3 => if b = true then te σ2 H3 (kAcc D (Pv (i + 1))) else Pv (i + 1) H3) ∧ ∀ H, Pv n H → Q (.ref D) H) : kLc (Itr lo n) (gName v) tt te [v] σ Q H := by
  intro D hD
  obtain ⟨Pv, h0, hs, hd⟩ := h D hD
  refine lc_range (Qd := fun H => Q (.ref D) H) Pv h0 (fun i H hi p => ?_) hd
  have q := hs i H hi p
  unfold gName at q ⊢
  rw [wipe1]
  exact ⟨wipe2 _ _ _, q⟩
theorem f_lcL (h : ∀ D, H D = none → ∃ Pv : Nat → Hp → Prop, Pv 0 (upd H D (.lst [])) ∧ (∀ i H, i ≤ xs.length → Pv i H → SqL K H a xs) ∧
    (∀ i x H, xs[i]? = some x → Pv i H → gName v x σ H fun σ2 H2 => tt σ2 H2 fun b H3 => if b = true then te σ2 H3 (kAcc D (Pv (i + 1))) else Pv (i + 1) H3) ∧ ∀ H, Pv xs.length H → Q (.ref D) H) : kLc (Itl K a) (gName v) tt te [v] σ Q H := by
  intro D hD
  obtain ⟨Pv, h0, hl, hs, hd⟩ := h D hD
  refine lc_list (Qd := fun H => Q (.ref D) H) Pv h0 hl (fun i x H hx p => ?_) hd
  have q := hs i x H hx p
  unfold gName at q ⊢
  rw [wipe1]
  exact ⟨wipe2 _ _ _, q⟩
theorem s_acc (hs : Hs W H0 H M I) (h1 : H D = some (.lst acc)) (hz : acc.length < sizeLine) (r : Rep M D (.lst (acc ++ [y])) M') (h : ∀ H', Hs W H0 H' M' I → Upto [D] H H' → P H') : kAcc D P y H :=
  ⟨acc, h1, hz, h _ (hs.put r) (Upto.put (by simp))⟩
theorem s_yes (h : QB true H) : tYes σ H QB := h
theorem s_isiT {x : V} {tp : Addr} {cs : List V} {t : Value} {us : List Value} {b : Bool} (h1 : H tp = some (.tup cs)) (h2 : Paired ClsV cs us) (ht : TyX K H x t) (hk : PySem.W.kitAny K t us = some b) (h : Q (.bl b) H) : rIsiT K [x, .ref tp] H Q := ⟨x, tp, cs, t, us, b, rfl, h1, h2, ht, hk, h⟩
theorem s_neB {b c : Bool} (h : Q (.bl (decide (b ≠ c))) H) : rNe (.bl b) (.bl c) H Q := ⟨rfl, by
  have e : (!decide (V.bl b = V.bl c)) = decide (b ≠ c) := by cases b <;> cases c <;> rfl
  rw [e]; exact h⟩
theorem s_eqB {b c : Bool} (h : Q (.bl (decide (b = c))) H) : rEq (.bl b) (.bl c) H Q := ⟨rfl, by
  have e : decide (V.bl b = V.bl c) = decide (b = c) := by cases b <;> cases c <;> rfl
  rw [e]; exact h⟩
theorem s_eqS {x z : Str} (h : Q (.bl (decide (x = z))) H) : rEq (.str x) (.str z) H Q := ⟨rfl, by
  have e : decide (V.str x = V.str z) = decide (x = z) := by
    by_cases q : x = z
    · rw [q]; simp
    · rw [decide_eq_false q, decide_eq_false (fun z => q (V.str.inj z))]
  rw [e]; exact h⟩
theorem s_neS {x z : Str} (h : Q (.bl (decide (x ≠ z))) H) : rNe (.str x) (.str z) H Q := ⟨rfl, by
  have e : (!decide (V.str x = V.str z)) = decide (x ≠ z) := by
    by_cases q : x = z
    · rw [q]; simp
    · rw [decide_eq_true q, decide_eq_false (fun z => q (V.str.inj z))]; rfl
  rw [e]; exact h⟩
def rIsN' : R2 := fun x y H Q => y = .non ∧ Q (.bl (decide (x = .non))) H
theorem op_isN' {X : Cx} : OpR X (compareOp .Is) rIsN' := op_isN
def rNotN' : R2 := fun x y H Q => y = .non ∧ Q (.bl (!decide (x = .non))) H
theorem op_notN' {X : Cx} : OpR X (compareOp .IsNot) rNotN' := op_notN
theorem s_isN {x : V} (h : Q (.bl (decide (x = .non))) H) : rIsN' x .non H Q := ⟨rfl, h⟩
theorem s_notN {x : V} (h : Q (.bl (decide (x ≠ .non))) H) : rNotN' x .non H Q := ⟨rfl, by rw [← decide_not]; exact h⟩
theorem s_iteNP {p A B : Prop} [Decidable p] (hp : p) (h : B) : if (!decide p) = true then A else B := by rw [if_neg (by simpa using hp)]; exact h
theorem s_iteNN {p A B : Prop} [Decidable p] (hp : ¬ p) (h : A) : if (!decide p) = true then A else B := by rw [if_pos (by simpa using hp)]; exact h
theorem s_iteNT {A B : Prop} (h : B) : if (!true) = true then A else B := iteF h
theorem s_iteNF {A B : Prop} (h : A) : if (!false) = true then A else B := iteT h
/-- lists of ints that are equal, that are not -/
theorem s_eqDL (ha : SqL K H a (ns.map V.int)) (hb : SqL K H b (ns.map V.int)) (h : Q (.bl true) H) : rEqD K (.ref a) (.ref b) H Q :=
  ⟨_, _, Dp.ints ha, Dp.ints hb, shaped_ints ns, shaped_ints ns, by rw [PyData.eqv, eqv_ints]; exact h⟩
theorem s_neDL (ha : SqL K H a (ns.map V.int)) (hb : SqL K H b (ns.map V.int)) (h : Q (.bl false) H) : rNeD K (.ref a) (.ref b) H Q :=
  ⟨_, _, Dp.ints ha, Dp.ints hb, shaped_ints ns, shaped_ints ns, by rw [PyData.eqv, eqv_ints]; exact h⟩
end
/-- a new object comes back -/
def NewO (o : HO) (H : Hp) (Q : VK) : Prop := ∀ p H', Upto [] H H' → H p = none → H' p = some o → Q (.ref p) H'
section
variable {W : List Addr} {H0 H H' : Hp} {M I : List (Addr × HO)} {o : HO} {Q : VK} {p : Addr}
theorem Hs.newO (hs : Hs W H0 H M I) (h : ∀ p H', Hs W H0 H' ((p, o) :: M) I → Upto [] H H' → H p = none → Q (.ref p) H') : NewO o H Q :=
  fun p H' u hp hq => h p H' (hs.add (hs.call0 u) rfl hp hq) u hp
theorem NewO.end_ {Hq : Hp} (k : NewO o H0 Q) (hn : Hq p = none) (hs0 : Hs [] H0 Hq M I) {M' I' : List (Addr × HO)} (hs : Hs [] H0 H' M' I') (hp : H' p = some o) : Q (.ref p) H' :=
  k p H' hs.up (hs0.free hn (by simp)) hp
end

/-! ### the rules that read the written part, with that part as a letter -/
section
variable {X : Cx} {K : PySem.W.Frag} {e o value : Expr} {es : List Expr} {te ta tv to : TE} {t : TA} {f name : Str} {pos pos' tpos apos cpos : Pos} {tg l : Expr} {T id : String} {r : V → List V → Hp → VK → Prop}
theorem ix_listK (hK : X.K = K := by rfl) : IxR X (rIxL K) := by subst hK; exact ix_list
theorem ix_tupK (hK : X.K = K := by rfl) : IxR X (rIxT K) := by subst hK; exact ix_tup
theorem call_lenK (hK : X.K = K := by rfl) : CallR X (.builtin "len") (rLenS K) := by subst hK; exact call_lenS
theorem call_listOfK (hK : X.K = K := by rfl) : CallR X (.type "list") (rListOf K) := by subst hK; exact call_listOf
theorem call_isiK' (hK : X.K = K := by rfl) : CallR X (.builtin "isinstance") (rIsi K) := by subst hK; exact call_isi
theorem call_isiTK (hK : X.K = K := by rfl) : CallR X (.builtin "isinstance") (rIsiT K) := by subst hK; exact call_isiT
theorem op_eqDK (hu : X.A.units + 64 < cLine) (hK : X.K = K := by rfl) : OpR X (compareOp .Eq) (rEqD K) := by subst hK; exact op_eqD hu
theorem op_neDK (hu : X.A.units + 64 < cLine) (hK : X.K = K := by rfl) : OpR X (compareOp .NotEq) (rNeD K) := by subst hK; exact op_neD hu
theorem op_inK (hK : X.K = K := by rfl) : OpR X (compareOp .In) (rIn K false) := by subst hK; exact op_in_seq
theorem op_notInK (hK : X.K = K := by rfl) : OpR X (compareOp .NotIn) (rIn K true) := by subst hK; exact op_notIn_seq
theorem op_catTK (hK : X.K = K := by rfl) : OpR X (binaryOp .Add) (rCatT K) := by subst hK; exact op_catT
theorem sl_listK (hK : X.K = K := by rfl) : SlR X (rSlL K) := by subst hK; exact sl_list
theorem cr_maxK (hc : X.calm = true) (hK : X.K = K := by rfl) : CallR X (.builtin "max") (rMax K) := by subst hK; exact cr_max hc
theorem cr_minK (hc : X.calm = true) (hK : X.K = K := by rfl) : CallR X (.builtin "min") (rMin K) := by subst hK; exact cr_min hc
theorem cr_allK (hc : X.calm = true) (hK : X.K = K := by rfl) : CallR X (.builtin "all") (rAll K) := by subst hK; exact cr_all hc
theorem pi_listK (hl : PE X l te) (hK : X.K = K := by rfl) : PI X tg l (iList K te) := by subst hK; exact pi_list hl
theorem pi_tupK (hl : PE X l te) (hK : X.K = K := by rfl) : PI X tg l (iTup K te) := by subst hK; exact pi_tup hl
theorem pg_tupK {k : Nat} {tt : TGs} {n : Nat} (hc : X.calm = true) (h : PGs X es tt) (hK : X.K = K := by rfl)
    (hn : (assignEach es X.env).length = n := by rfl) (hst : (assignEach es X.env).findIdx? (·.1) = none := by rfl) : PG X (.Tuple es k pos) (gTup K n tt) := by subst hK; exact pg_tup hc h hn hst
theorem pa_starK {p : Pos} (he : PE X e te) (hr : PA X es t) (hK : X.K = K := by rfl) (hs : starEach (.Starred e p :: es) X.env = (true, eval e X.env) :: starEach es X.env := by rfl) : PA X (.Starred e p :: es) (tStar K te t) := by subst hK; exact pa_star he hr hs
theorem pe_fldK (he : PE X e ta) (hb : attributeBase e f X.env (eval e X.env) = eval e X.env) (hK : X.K = K := by rfl) : PE X (.Attribute e f pos) (tFld K ta f) := by subst hK; exact pe_fld he hb
theorem ps_fldK (ha : PE X o ta) (hv : PE X value tv) (hs : swapsWith value (some (.Attribute o f pos')) pos.line X.env = pure false) (hK : X.K = K := by rfl) : PS X (.Assign [.Attribute o f pos'] value pos) (sFld K ta tv f) := by subst hK; exact ps_fld ha hv hs
theorem ps_fldaugK {op : Operator} {rd : V → V → Hp → VK → Prop} (ha : PE X o ta) (hv : PE X value tv) (hop : InOp X op rd) (hK : X.K = K := by rfl) : PS X (.AugAssign (.Attribute o f tpos) op value pos) (sFldAug K ta tv rd f) := by subst hK; exact ps_fldaug ha hv hop
theorem pe_bm0K (pa : PlainAttrs T) (slot : Slot T name id) (hty : typeOf (.builtin id) = pure (.type "method_descriptor")) (hm : MtR X id r) (ho : PE X o to) (hK : X.K = K := by rfl)
    (hbase : attributeBase o name X.env (eval o X.env) = eval o X.env := by rfl) (hline : (apos.endLine == cpos.line) = true := by rfl) : PE X (.Call (.Attribute o name apos) [] [] cpos) (tBM0 K T r to) := by subst hK; exact pe_bm0 pa slot hty hm ho hbase hline
theorem pe_bmK (pa : PlainAttrs T) (slot : Slot T name id) (hty : typeOf (.builtin id) = pure (.type "method_descriptor")) (hm : MtR X id r) (ho : PE X o to) (ha : PA X (e :: es) t) (hK : X.K = K := by rfl)
    (hbase : attributeBase o name X.env (eval o X.env) = eval o X.env := by rfl)
    (hfew : ((backTo cpos (starEach (e :: es) X.env)).all (fun x => !x.1) && (backToKw cpos (keywordEach [] X.env)).all (fun x => x.1.isSome)
      && decide ((e :: es).length + ([] : List Keyword).length + (if ([] : List Keyword).isEmpty then 0 else 1) < 30)) = true := by rfl)
    (hline : (apos.endLine == cpos.line) = true := by rfl) (hs : starEach (e :: es) X.env = (false, eval e X.env) :: starEach es X.env := by rfl) (hplain : (backTo cpos (starEach es X.env)).any (·.1) = false := by rfl) :
    PE X (.Call (.Attribute o name apos) (e :: es) [] cpos) (tBM K T r to t) := by subst hK; exact pe_bm pa slot hty hm ho ha hbase hfew hline hs hplain
end

theorem kitTL_list {K : PySem.W.Frag} : PySem.W.kitAny K (.type "list") [.type "tuple", .type "list"] = some true :=
  kitAny_cons (b := false) (kit_ty (by decide +kernel)) (fun _ => kitAny_cons (b := true) (kit_ty (by decide +kernel)) (fun z => nomatch z) fun _ => rfl) fun z => nomatch z
theorem kitTL_tuple {K : PySem.W.Frag} : PySem.W.kitAny K (.type "tuple") [.type "tuple", .type "list"] = some true :=
  kitAny_cons (b := true) (kit_ty (by decide +kernel)) (fun z => nomatch z) fun _ => rfl
theorem s_eqDnil {K : PySem.W.Frag} {H : Hp} {a b : Addr} {Q : VK} (ha : H a = some (.lst [])) (hb : H b = some (.lst [])) (h : Q (.bl true) H) : rEqD K (.ref a) (.ref b) H Q :=
  s_eqDL (ns := []) (SqL.of ha) (SqL.of hb) h

/-- an item of a list or a tuple -/
def rIxA (K : PySem.W.Frag) : R2 := fun x y H Q => rIxL K x y H Q ∨ rIxT K x y H Q
theorem ix_anyK {X : Cx} {K : PySem.W.Frag} (hK : X.K = K := by rfl) : IxR X (rIxA K) := by subst hK; exact ix_list.or ix_tup
theorem s_ixAL {K : PySem.W.Frag} {H : Hp} {Q : VK} {a : Addr} {xs : List V} {i : Int} {v : V} (h1 : SqL K H a xs) (h2 : atI xs i = some v) (h : Q v H) : rIxA K (.ref a) (.int i) H Q := .inl ⟨a, xs, i, v, rfl, rfl, h1, h2, h⟩
theorem s_ixAT {K : PySem.W.Frag} {H : Hp} {Q : VK} {a : Addr} {xs : List V} {i : Int} {v : V} (h1 : SqT K H a xs) (h2 : atI xs i = some v) (h : Q v H) : rIxA K (.ref a) (.int i) H Q := .inr ⟨a, xs, i, v, rfl, rfl, h1, h2, h⟩

/-! ### what a callee leaves, seen by the caller -/
section
variable {W : List Addr} {H0 H H' : Hp} {M M' N I S : List (Addr × HO)} {r : Addr} {o' : HO}
theorem Hs.sub (h : Hs W H0 H M I) (s : M'.Sublist M) : Hs W H0 H M' I :=
  ⟨h.up, List.Nodup.sublist ((s.append (List.Sublist.refl I)).map Prod.fst) h.nd, fun x hx => h.at_ x ((s.append (List.Sublist.refl I)).subset hx), fun x hx => h.mu x (s.subset hx)⟩
theorem Hs.frame (hc : Hs [r] H H' (N ++ [(r, o')]) S) (h : Hs W H0 H M S) (rp : Rep M r o' M') : Hs W H0 H' (N ++ M') S := by
  have e : H' r = some o' := hc.at_ (r, o') (by simp)
  have h1 : Hs W H0 H' M' S := h.call1 hc.up e rp
  have nr : ∀ x ∈ N, x.1 ≠ r := fun x hx q => by
    have nd := hc.nd
    simp only [List.map_append, List.map_cons, List.map_nil, List.append_assoc, List.nodup_append] at nd
    exact nd.2.2 x.1 (List.mem_map_of_mem (f := Prod.fst) hx) r (by simp) q
  have fr : ∀ x ∈ N, H x.1 = none := fun x hx => by
    rcases hc.mu x (List.mem_append_left _ hx) with w | w
    · exact absurd (by simpa using w) (nr x hx)
    · exact w
  have hM := h.holds
  refine ⟨h1.up, ?_, fun x hx => ?_, fun x hx => ?_⟩
  · have n1 := hc.nd
    have n2 := h1.nd
    rw [List.append_assoc, List.map_append, List.nodup_append]
    refine ⟨?_, n2, fun a ha b hb q => ?_⟩
    · rw [List.append_assoc, List.map_append, List.nodup_append] at n1
      exact n1.1
    · obtain ⟨x, hx, rfl⟩ := List.mem_map.mp ha
      have hb' : b ∈ (M ++ S).map Prod.fst := by
        rw [List.map_append, ← rp.fst, ← List.map_append]
        exact hb
      rw [← q] at hb'
      exact hM.fresh (fr x hx) hb'
  · rw [List.append_assoc] at hx
    rcases List.mem_append.mp hx with hx | hx
    · exact hc.at_ x (List.mem_append_left _ (List.mem_append_left _ hx))
    · exact h1.at_ x hx
  · rcases List.mem_append.mp hx with hx | hx
    · by_cases hw : x.1 ∈ W
      · exact .inl hw
      · exact .inr (Holds.uptoNew h.up (fr x hx) hw)
    · exact h1.mu x hx
end
theorem s_ixPick {K : PySem.W.Frag} {H : Hp} {Q : VK} {a : Addr} {xs : List V} {i : Int} (h1 : SqL K H a xs) (h2 : 0 ≤ i) (h3 : i < xs.length) (h : ∀ x, x ∈ xs → Q x H) : rIxL K (.ref a) (.int i) H Q := by
  obtain ⟨x, e, ex⟩ := atI_int (xs := xs) h2 h3
  exact ⟨a, xs, i, x, rfl, rfl, h1, e, h x (List.mem_of_getElem? ex)⟩

/-! ### slices of lists of ints -/
def cutI (ns : List Int) (lo hi : Option Int) : List Int := (ns.drop (HT.sIx ns.length 0 lo)).take (HT.sIx ns.length ns.length hi - HT.sIx ns.length 0 lo)
theorem cutV_ints (ns : List Int) (lo hi : Option Int) : cutV (ns.map V.int) lo hi = (cutI ns lo hi).map V.int := by
  unfold cutV cutI
  rw [List.length_map, List.map_take, List.map_drop]
theorem sIx_in {n d : Nat} {p : Int} (h0 : 0 ≤ p) (h1 : p ≤ n) : HT.sIx n d (some p) = p.toNat := by
  obtain ⟨k, rfl⟩ : ∃ k : Nat, p = (k : Int) := ⟨p.toNat, by omega⟩
  rw [HT.sIx_nat]
  omega
theorem cutI_upto {ns : List Int} {p : Int} (h0 : 0 ≤ p) (h1 : p ≤ ns.length) : cutI ns none (some p) = ns.take p.toNat := by
  unfold cutI
  rw [sIx_in h0 h1, HT.sIx_none, List.drop_zero, Nat.sub_zero]
theorem cutI_from {ns : List Int} {p : Int} (h0 : 0 ≤ p) (h1 : p ≤ ns.length) : cutI ns (some p) none = ns.drop p.toNat := by
  unfold cutI
  rw [sIx_in h0 h1, HT.sIx_none]
  exact List.take_of_length_le (by rw [List.length_drop]; exact Nat.le_refl _)
theorem eight {ws : List Int} (h : ws.length = 8) : ∃ a b c d e f g i, ws = [a, b, c, d, e, f, g, i] :=
  match ws, h with
  | [a, b, c, d, e, f, g, i], _ => ⟨a, b, c, d, e, f, g, i, rfl⟩
theorem mix8 {ws zs : List Int} {p : Int} (h1 : ws.length = 8) (h2 : zs.length = 8) (h0 : 0 ≤ p) (hp : p ≤ 8) : ∃ a b c d e f g i, cutV (ws.map V.int) none (some p) ++ cutV (zs.map V.int) (some p) none = [V.int a, V.int b, V.int c, V.int d, V.int e, V.int f, V.int g, V.int i] := by
  have hl : (ws.take p.toNat ++ zs.drop p.toNat).length = 8 := by
    rw [List.length_append, List.length_take, List.length_drop]
    omega
  obtain ⟨a, b, c, d, e, f, g, i, q⟩ := eight hl
  refine ⟨a, b, c, d, e, f, g, i, ?_⟩
  rw [cutV_ints, cutV_ints, cutI_upto h0 (by omega), cutI_from h0 (by omega), ← List.map_append, q]
  rfl
theorem s_repI {W : List Addr} {H0 H : Hp} {M I : List (Addr × HO)} {a : Addr} {z k : Int} {Q : VK} (hs : Hs W H0 H M I) (h1 : H a = some (.lst [.int z])) (hk : 0 ≤ k ∧ k ≤ 100000) (h : ∀ p H', Hs W H0 H' ((p, .lst ((List.replicate k.toNat z).map V.int)) :: M) I → Upto [] H H' → H p = none → Q (.ref p) H') : rRep (.ref a) (.int k) H Q := by
  refine s_rep hs h1 (by omega) (by rw [sizeLine_eq]; simp; omega) ?_
  have e : (List.replicate k.toNat [V.int z]).flatten = (List.replicate k.toNat z).map V.int := by
    simp
  rw [e]
  exact h

theorem len_app {xs ys : List V} {a b : Nat} (h1 : xs.length ≤ a) (h2 : ys.length ≤ b) : (xs ++ ys).length ≤ a + b := by rw [List.length_append]; omega
theorem len_cut {xs : List V} {lo hi : Option Int} {a : Nat} (h1 : xs.length ≤ a) : (cutV xs lo hi).length ≤ a := Nat.le_trans (cutV_length _ _ _) h1

theorem none_left {P : Program} {w : World} {K : PySem.W.Frag} {mg : Str → Option Value} {base : Heap} {f : Addr} {fd : FuncData} {ps : List Str} {sp : Sp} (no : ∀ vs H Q E, ¬ sp vs H Q E) : FnOk P w K mg base CX0 0 f fd ps sp :=
  ⟨fun vs H Q E h => absurd h (no vs H Q E), fun A outer s H args us vs Q E _ _ _ _ h => absurd h (no vs H Q E)⟩

/-! ### while; ranges by a step; lists of lists -/
def kWh (m : Nat) (Pv : Nat → St → Hp → Prop) (t : TS) (nx : St → Hp → Prop) (rt : VK) : St → Hp → Prop := fun σ H1 => ∃ N : St → Hp → Prop, (∀ σ' H', N σ' H' → ∃ m', m' < m ∧ Pv m' σ' H') ∧ t ⟨N, rt, nx, N⟩ σ H1
def kRng3 (R : It → Hp → Prop) : List V → Hp → Prop := fun vs H1 => ∃ (i j c : Int) (n : Nat), vs = [.int i, .int j, .int c] ∧ RgC i j c n ∧ R (Itc i c n) H1
theorem rgc3 {j : Int} (h0 : 0 ≤ j) (h1 : j < 2 ^ 60) : RgC 0 j 3 ((j + 2) / 3).toNat := by
  have e : Builtin.Range.rangeSize 0 j 3 = (j + 2) / 3 := by
    rw [PyProof.Rows.rangeSize_pos (by omega) h0]
    congr 1
    omega
  refine ⟨by decide, by decide, ?_, by rw [e]; omega⟩
  unfold Builtin.Range.small
  rw [e]
  simp only [Builtin.Range.rangeFitsLong, Bool.and_eq_true, Bool.or_eq_true, decide_eq_true_eq, beq_iff_eq, show ((3 : Int) > 0) by decide, if_true]
  omega
section
variable {σ : St} {H : Hp} {nx bk ct : St → Hp → Prop} {rt : VK} {t : TS} {c : TT} {tt : TA} {te : TE} {g : TG} {Q : VK} {ws : List Nat} {D : Ends} {j lo st : Int} {n v : Nat}
theorem f_while (m : Nat) (Pv : Nat → St → Hp → Prop) (h0 : Pv m σ H) (hs : ∀ m σ H, Pv m σ H → c σ H fun b H1 => if b = true then kWh m Pv t nx rt σ H1 else nx σ H1) : tWhile c t ⟨nx, rt, bk, ct⟩ σ H := ⟨Pv, ⟨m, h0⟩, hs⟩
theorem s_kWh {m : Nat} {Pv : Nat → St → Hp → Prop} (h : t ⟨fun σ' H' => ∃ m', m' < m ∧ Pv m' σ' H', rt, nx, fun σ' H' => ∃ m', m' < m ∧ Pv m' σ' H'⟩ σ H) : kWh m Pv t nx rt σ H := ⟨_, fun _ _ q => q, h⟩
theorem s_forR3 (h : tt σ H (kRng3 fun J H1 => kFor J g t D σ H1)) : tFor (iRng3 tt) g t D σ H := h
theorem s_lcR3 (h : tt σ H (kRng3 fun J H1 => kLc J g c te ws σ Q H1)) : tLc (iRng3 tt) g c te ws σ H Q := h
theorem s_kRng3 {R : It → Hp → Prop} (h0 : 0 ≤ j) (h1 : j < 2 ^ 60) (h : R (Itc 0 3 ((j + 2) / 3).toNat) H) : kRng3 R [.int 0, .int j, .int 3] H := ⟨0, j, 3, _, rfl, rgc3 h0 h1, h⟩
theorem f_lcC (h : ∀ D, H D = none → ∃ Pv : Nat → Hp → Prop, Pv 0 (upd H D (.lst [])) ∧
    (∀ i H, i < n → Pv i H → gName v (.int (lo + (i : Nat) * st)) σ H fun σ2 H2 => c σ2 H2 fun b H3 => if b = true then te σ2 H3 (kAcc D (Pv (i + 1))) else Pv (i + 1) H3) ∧ ∀ H, Pv n H → Q (.ref D) H) : kLc (Itc lo st n) (gName v) c te [v] σ Q H := by
  intro D hD
  obtain ⟨Pv, h0, hs, hd⟩ := h D hD
  refine lc_it (Qd := fun H => Q (.ref D) H) walk_rangeC Pv h0 (fun _ _ _ _ => trivial) (fun i x H H' hi p y => ?_) hd
  obtain ⟨rfl, rfl⟩ := y
  have q := hs i _ hi p
  unfold gName at q ⊢
  rw [wipe1]
  exact ⟨wipe2 _ _ _, q⟩
end
def rowsL : List Addr → List (List Int) → List (Addr × HO)
  | q :: qs, xs :: xss => (q, .lst (xs.map V.int)) :: rowsL qs xss
  | [], _ => []
  | _ :: _, [] => []
theorem rowsL_nil (xss : List (List Int)) : rowsL [] xss = [] := rfl
theorem rowsL_get : ∀ {qs : List Addr} {xss : List (List Int)} {i : Nat} {q : Addr} {xs : List Int}, qs[i]? = some q → xss[i]? = some xs → (q, HO.lst (xs.map V.int)) ∈ rowsL qs xss
  | [], _, _, _, _, h, _ => by simp at h
  | _ :: _, [], _, _, _, _, h => by simp at h
  | q :: qs, x :: xss, 0, _, _, h, h' => by
    simp at h h'
    subst h h'
    exact List.mem_cons_self
  | q :: qs, x :: xss, i + 1, _, _, h, h' => List.mem_cons_of_mem _ (rowsL_get (i := i) (by simpa using h) (by simpa using h'))
theorem rowsL_snoc : ∀ {qs : List Addr} {xss : List (List Int)} (q : Addr) (xs : List Int), qs.length = xss.length → rowsL (qs ++ [q]) (xss ++ [xs]) = rowsL qs xss ++ [(q, HO.lst (xs.map V.int))]
  | [], [], _, _, _ => rfl
  | [], _ :: _, _, _, h => by simp at h
  | _ :: _, [], _, _, h => by simp at h
  | a :: qs, b :: xss, q, xs, h => by
    show _ :: rowsL (qs ++ [q]) (xss ++ [xs]) = _ :: (rowsL qs xss ++ _)
    rw [rowsL_snoc q xs (by simpa using h)]
theorem dp_rows {K : PySem.W.Frag} {H : Hp} : ∀ {qs : List Addr} {xss : List (List Int)}, (∀ x ∈ rowsL qs xss, H x.1 = some x.2) → qs.length = xss.length → DpAll K H (qs.map V.ref) (xss.map fun xs => PyData.list (xs.map PyData.int))
  | [], [], _, _ => .nil
  | [], _ :: _, _, h => by simp at h
  | _ :: _, [], _, h => by simp at h
  | q :: qs, x :: xss, hh, h => .cons (Dp.ints (SqL.of (hh _ List.mem_cons_self))) (dp_rows (fun y hy => hh y (List.mem_cons_of_mem _ hy)) (by simpa using h))
section
variable {W : List Addr} {H0 H H' : Hp} {M M' N A I I' : List (Addr × HO)} {a p D : Addr} {o oD : HO}
theorem Hs.perm (h : Hs W H0 H M I) (s : M'.Perm M) : Hs W H0 H M' I :=
  ⟨h.up, (((s.append (List.Perm.refl I)).map Prod.fst).nodup_iff).mpr h.nd, fun x hx => h.at_ x ((s.append (List.Perm.refl I)).mem_iff.mp hx), fun x hx => h.mu x (s.mem_iff.mp hx)⟩
theorem Hs.snoc (h : Hs W H0 H ((p, o) :: (D, oD) :: (A ++ M)) I) : Hs W H0 H ((D, oD) :: ((A ++ [(p, o)]) ++ M)) I := by
  refine h.perm ?_
  refine List.Perm.trans ?_ (List.Perm.swap _ _ _)
  refine List.Perm.cons _ ?_
  rw [List.append_assoc]
  exact List.perm_middle
theorem Hs.dropI (h : Hs W H0 H M I) : Hs W H0 H M [] :=
  ⟨h.up, by
    have := h.nd
    rw [List.map_append, List.nodup_append] at this
    rw [List.append_nil]
    exact this.1, fun x hx => h.at_ x (List.mem_append_left _ (by simpa using hx)), h.mu⟩
/-- what a callee that changes nothing has made -/
theorem Hs.frame0 (hc : Hs [] H H' N I') (h : Hs W H0 H M I) : Hs W H0 H' (N ++ M) I := by
  have h1 : Hs W H0 H' M I := h.call0 hc.up
  have fr : ∀ x ∈ N, H x.1 = none := fun x hx => by
    rcases hc.mu x hx with w | w
    · exact absurd w (by simp)
    · exact w
  refine ⟨h1.up, ?_, fun x hx => ?_, fun x hx => ?_⟩
  · have n1 := hc.nd
    rw [List.append_assoc, List.map_append, List.nodup_append]
    refine ⟨?_, h1.nd, fun a ha b hb q => ?_⟩
    · rw [List.map_append, List.nodup_append] at n1
      exact n1.1
    · obtain ⟨x, hx, rfl⟩ := List.mem_map.mp ha
      rw [← q] at hb
      exact h.holds.fresh (fr x hx) hb
  · rw [List.append_assoc] at hx
    rcases List.mem_append.mp hx with hx | hx
    · exact hc.at_ x (List.mem_append_left _ hx)
    · exact h1.at_ x hx
  · rcases List.mem_append.mp hx with hx | hx
    · by_cases hw : x.1 ∈ W
      · exact .inl hw
      · exact .inr (Holds.uptoNew h.up (fr x hx) hw)
    · exact h1.mu x hx
theorem Hs.part (h : Hs W H0 H M I) (s : N.Sublist M) : Holds H N := ⟨by
    have n1 := h.nd
    rw [List.map_append, List.nodup_append] at n1
    exact List.Nodup.sublist (s.map _) n1.1, fun x hx => h.at_ x (List.mem_append_left _ (s.subset hx))⟩
theorem Rep.skip {L L' : List (Addr × HO)} {a : Addr} {o' : HO} (r : Rep L a o' L') : ∀ A : List (Addr × HO), Rep (A ++ L) a o' (A ++ L')
  | [] => r
  | _ :: A => .there (Rep.skip r A)
end

theorem Hs.rows {W : List Addr} {H0 H : Hp} {M I N : List (Addr × HO)} (h : Hs W H0 H M I) (s : N.Sublist M) : ∀ x ∈ N, H x.1 = some x.2 := fun x hx => h.at_ x (List.mem_append_left _ (s.subset hx))
theorem Sh.lists {n : Nat} {xss : List (List Int)} (h : xss.length ≤ 100000) (h2 : ∀ xs ∈ xss, xs.length ≤ 100000) : Sh (n + 3) (.list (xss.map fun xs => PyData.list (xs.map PyData.int))) := .lst (by rw [List.length_map]; exact h) fun d hd => by
  obtain ⟨xs, hx, rfl⟩ := List.mem_map.mp hd
  exact Sh.ints (h2 xs hx)
theorem Rep.memOf {L : List (Addr × HO)} {a : Addr} {o o' : HO} (m : (a, o) ∈ L) : ∃ L', Rep L a o' L' := by
  induction L with
  | nil => cases m
  | cons x L ih =>
    rcases List.mem_cons.mp m with e | m
    · rw [← e]
      exact ⟨_, .here⟩
    · obtain ⟨L', r⟩ := ih m
      exact ⟨_, .there r⟩

theorem lk {H : Hp} {a : Addr} {o o' : HO} (h : H a = some o) (e : o = o') : H a = some o' := e ▸ h
theorem lkL {K : PySem.W.Frag} {H : Hp} {a : Addr} {o : HO} {xs : List V} (h : H a = some o) (e : o = .lst xs) : SqL K H a xs := SqL.of (e ▸ h)
theorem lkT {K : PySem.W.Frag} {H : Hp} {a : Addr} {o : HO} {xs : List V} (h : H a = some o) (e : o = .tup xs) : SqT K H a xs := SqT.of (e ▸ h)
end RL
namespace RL
open PySem L2 StX

/-! ### fields of objects -/
def kFld (K : PySem.W.Frag) (f : Str) (Q : VK) : VK := fun x H1 => ∃ a C dx fs v, x = .ref a ∧ H1 a = some (.ins C dx fs) ∧ Cls K C ∧ NoAttr K C f ∧ fs.lookup f = some v ∧ Q v H1
def kSet (K : PySem.W.Frag) (f : Str) (y : V) (R : Hp → Prop) : VK := fun x H2 => ∃ a C dx fs, x = .ref a ∧ H2 a = some (.ins C dx fs) ∧ Cls K C ∧ NoAttr K C f ∧ fs.length < 1000 ∧ R (upd H2 a (.ins C dx (putF f y fs)))
def kMeth (C : Addr) (m : Str) (sp : Sp) (E : XK) (t : TA) (σ : St) (Q : VK) : VK := fun x H1 => ∃ a dx fs, x = .ref a ∧ H1 a = some (.ins C dx fs) ∧ fs.lookup m = none ∧ t σ H1 fun vs H2 => sp (x :: (vs ++ [])) H2 Q E
def kMake (C : Addr) (sp : Sp) (E : XK) (Q : VK) : List V → Hp → Prop := fun vs H1 => ∀ x dx, H1 x = none → H1 dx = none → dx ≠ x → sp (.ref x :: (vs ++ [])) (upd (upd H1 dx (.own x)) x (.ins C dx [])) (fun v H2 => v = .non ∧ Q (.ref x) H2) E
def kRaise (C : Addr) (E : XK) : TS := fun _ _ H => E (.ref C) none H
theorem ps_raiseK {X : Cx} {C : Addr} {E : XK} {e : Expr} {pos : Pos} (hc : X.calm = true) (tk : Takes X (fun cls d _ H => E cls d H)) (mk : PMk X e (fun _ H Q => Q (.ref C) none H)) : PS X (.Raise (some e) none pos) (kRaise C E) := ps_raise hc tk mk
section
variable {σ : St} {H H' : Hp} {nx bk ct : St → Hp → Prop} {rt : VK} {ta tv te : TE} {tt : TA} {Q : VK} {K : PySem.W.Frag} {f m : Str} {sp : Sp} {E : XK} {a C dx p : Addr} {fs fs' : List (Str × V)} {v y : V} {W : List Addr} {H0 : Hp} {M M' I : List (Addr × HO)} {D : Ends} {R : Hp → Prop} {vs : List V} {i : Int} {n : Nat}
theorem s_fld (h : ta σ H (kFld K f Q)) : tFld K ta f σ H Q := h
theorem s_kFld (h1 : H a = some (.ins C dx fs)) (c : Cls K C) (na : NoAttr K C f) (l : fs.lookup f = some v) (h : Q v H) : kFld K f Q (.ref a) H := ⟨a, C, dx, fs, v, rfl, h1, c, na, l, h⟩
theorem s_sfld (h : tv σ H fun y H1 => ta σ H1 (kSet K f y (nx σ))) : sFld K ta tv f ⟨nx, rt, bk, ct⟩ σ H := h
theorem s_kSet (hs : Hs W H0 H M I) (h1 : H a = some (.ins C dx fs)) (c : Cls K C) (na : NoAttr K C f) (hl : fs.length < 1000) (e : putF f y fs = fs') (r : Rep M a (.ins C dx fs') M') (h : ∀ H', Hs W H0 H' M' I → Upto [a] H H' → R H') : kSet K f y R (.ref a) H :=
  ⟨a, C, dx, fs, rfl, h1, c, na, hl, by rw [e]; exact h _ (hs.put r) (Upto.put (by simp))⟩
theorem s_meth (h : ta σ H (kMeth C m sp E tt σ Q)) : tMeth C m sp [] E ta tt σ H Q := h
theorem s_kMeth (h1 : H a = some (.ins C dx fs)) (h2 : fs.lookup m = none) (h : tt σ H fun vs H2 => sp (.ref a :: vs) H2 Q E) : kMeth C m sp E tt σ Q (.ref a) H := by
  refine ⟨a, dx, fs, rfl, h1, h2, ?_⟩
  have e : (fun (vs : List V) (H2 : Hp) => sp (.ref a :: (vs ++ [])) H2 Q E) = fun vs H2 => sp (.ref a :: vs) H2 Q E := by
    funext vs H1
    rw [List.append_nil]
  rw [e]
  exact h
theorem s_make (h : tt σ H (kMake C sp E Q)) : tMake C sp [] E tt σ H Q := h
theorem s_kMake (hs : Hs W H0 H M I) (h : ∀ x dx H', Hs W H0 H' ((x, .ins C dx []) :: (dx, .own x) :: M) I → Upto [] H H' → H x = none → H dx = none → sp (.ref x :: vs) H' (fun v H2 => v = .non ∧ Q (.ref x) H2) E) : kMake C sp E Q vs H := by
  intro x dx hx hd ne
  rw [List.append_nil]
  have h1 := hs.new hd (.own x)
  have hx1 : upd H dx (.own x) x = none := by rw [upd_ne (Ne.symm ne)]; exact hx
  exact h x dx _ (h1.new hx1 _) ((Upto.new hd).trans (Upto.new hx1)) hx hd
theorem s_raise (h : E (.ref C) none H) : kRaise C E D σ H := h
/-- o.f += 1, o.f -= 1 -/
theorem s_aug1 (hs : Hs W H0 H M I) (e0 : σ[n]? = some (some (.ref a))) (h1 : H a = some (.ins C dx fs)) (c : Cls K C) (na : NoAttr K C f) (l : fs.lookup f = some (.int i)) (hl : fs.length < 1000) (e : putF f (.int (i + 1)) fs = fs') (r : Rep M a (.ins C dx fs') M') (h : ∀ H', Hs W H0 H' M' I → Upto [a] H H' → nx σ H') :
    sFldAug K (tVar n) (tC (.int 1)) rAdd f ⟨nx, rt, bk, ct⟩ σ H := ⟨_, e0, a, C, dx, fs, _, rfl, h1, c, na, l, i, 1, rfl, rfl, dx, fs, h1, hl, by rw [e]; exact h _ (hs.put r) (Upto.put (by simp))⟩
theorem s_sub1 (hs : Hs W H0 H M I) (e0 : σ[n]? = some (some (.ref a))) (h1 : H a = some (.ins C dx fs)) (c : Cls K C) (na : NoAttr K C f) (l : fs.lookup f = some (.int i)) (hl : fs.length < 1000) (e : putF f (.int (i - 1)) fs = fs') (r : Rep M a (.ins C dx fs') M') (h : ∀ H', Hs W H0 H' M' I → Upto [a] H H' → nx σ H') :
    sFldAug K (tVar n) (tC (.int 1)) rSub f ⟨nx, rt, bk, ct⟩ σ H := ⟨_, e0, a, C, dx, fs, _, rfl, h1, c, na, l, i, 1, rfl, rfl, dx, fs, h1, hl, by rw [e]; exact h _ (hs.put r) (Upto.put (by simp))⟩
end

/-! ### dicts -/
def kDGet (x : V) (Q : VK) : VK := fun y H2 => ∃ a v, x = .ref a ∧ DGet H2 a y (some v) ∧ Q v H2
def kDPut (x v : V) (R : Hp → Prop) : VK := fun y H3 => ∃ a H4, x = .ref a ∧ DPut H3 a y v H4 ∧ R H4
def kDisp (p : Addr) (Q : VK) : List (V × V) → Hp → Prop := fun ps H2 => H2 p = some (.dK []) ∧ ∃ kvs : List (Key × V), ps = kvs.map (fun kv => (kV kv.1, kv.2)) ∧ kvs.length ≤ 15 ∧ Q (.ref p) (upd H2 p (.dK (mergeK [] kvs)))
def unV : List (V × V) → Option (List (Key × V))
  | [] => some []
  | (.str x, v) :: r => (unV r).map fun l => (Sum.inr x, v) :: l
  | _ => none
theorem unV_eq : ∀ {ps : List (V × V)} {kvs : List (Key × V)}, unV ps = some kvs → ps = kvs.map fun kv => (kV kv.1, kv.2)
  | [], kvs, h => by
    simp [unV] at h
    subst h
    rfl
  | (.str x, v) :: r, kvs, h => by
    unfold unV at h
    cases e : unV r with
    | none => rw [e] at h; cases h
    | some l =>
      rw [e] at h
      obtain rfl := Option.some.inj h
      rw [unV_eq e]
      rfl
  | (.non, _) :: _, _, h => by simp [unV] at h
  | (.bl _, _) :: _, _, h => by simp [unV] at h
  | (.int _, _) :: _, _, h => by simp [unV] at h
  | (.byt _, _) :: _, _, h => by simp [unV] at h
  | (.flt _, _) :: _, _, h => by simp [unV] at h
  | (.ref _, _) :: _, _, h => by simp [unV] at h
  | (.ty _, _) :: _, _, h => by simp [unV] at h
def rUpd : V → List V → Hp → VK → Prop := fun x vs H Q => ∃ d e ks ls, x = .ref d ∧ vs = [.ref e] ∧ H d = some (.dK ks) ∧ H e = some (.dK ls) ∧ d ≠ e ∧ ks.length + ls.length ≤ sizeLine ∧ Q .non (upd H d (.dK (mergeK ks ls)))
theorem mt_update {X : Cx} : MtR X "dict.update" rUpd := by
  intro pins s σ H x vs v us Q I rx rv h
  obtain ⟨d, e, ks, ls, rfl, rfl, hd, he, hne, hz, q⟩ := h
  cases (show v = Value.ref d from rx)
  obtain rfl := Vals.ref1 rv
  obtain ⟨z1, y1, vs1, r1, D1⟩ := (show ObjOk X.prog X.w H s.heap d (.dK ks) from I.hok d _ hd)
  obtain ⟨z2, y2, vs2, r2, D2⟩ := (show ObjOk X.prog X.w H s.heap e (.dK ls) from I.hok e _ he)
  refine PySem.call_meetsIn PySem.F.slot_dict_update D1.typeIs PySem.F.entry_dict_update (PySem.F.args_dict_update_2 _ _) (PySem.meets_dict_update (L2.mixKind X.prog X.w) d e hne y2)
    ⟨vs1, vs2, D1, D2, by rw [← r1.length, ← r2.length]; exact hz, fun h' hm _ hs => ?_⟩
  have mu : Mut (H d) := by rw [hd]; trivial
  obtain ⟨o', ho', _⟩ := Heap.dictOf_iff.mp hm
  refine ⟨.non, _, I.write (o := .dK (mergeK ks ls)) (t' := s.toks) mu (.inl rfl) (fun b u nb eb => (hs.2 b nb).trans eb) ⟨_, ho'⟩ ?_, rfl, q⟩
  exact ⟨Nat.le_trans (length_mergeK ls ks) hz, y1, _, KV.merge r2 r1, hm⟩
section
variable {σ : St} {H H' : Hp} {nx bk ct : St → Hp → Prop} {rt : VK} {td ty tv : TE} {Q : VK} {a b p : Addr} {kvs kvs' ks ls : List (Key × V)} {v y : V} {x : Str} {W : List Addr} {H0 : Hp} {M M' I : List (Addr × HO)} {R : Hp → Prop} {trs : List (TE × TE)} {ps : List (V × V)} {QP : List (V × V) → Hp → Prop} {K : PySem.W.Frag} {A : Prop}
theorem s_dget (h : td σ H fun x H1 => ty σ H1 (kDGet x Q)) : tDGet td ty σ H Q := h
theorem s_kDGet (h1 : H a = some (.dK kvs)) (l : valV kvs (Sum.inr x : Key) = some v) (h : Q v H) : kDGet (.ref a) Q (.str x) H := ⟨a, v, rfl, by have q := DGet.k (k := Sum.inr x) h1; rw [l] at q; exact q, h⟩
theorem s_dput (h : tv σ H fun v H1 => td σ H1 fun x H2 => ty σ H2 (kDPut x v (nx σ))) : sDPut td ty tv ⟨nx, rt, bk, ct⟩ σ H := h
theorem s_kDPut (hs : Hs W H0 H M I) (h1 : H a = some (.dK kvs)) (hl : kvs.length < sizeLine) (e : putK kvs (Sum.inr x : Key) v = kvs') (r : Rep M a (.dK kvs') M') (h : ∀ H', Hs W H0 H' M' I → Upto [a] H H' → R H') : kDPut (.ref a) v R (.str x) H :=
  ⟨a, _, rfl, DPut.k (k := Sum.inr x) h1 hl, by rw [e]; exact h _ (hs.put r) (Upto.put (by simp))⟩
theorem s_disp (hs : Hs W H0 H M I) (h : ∀ p H', Hs W H0 H' ((p, .dK []) :: M) I → Upto [] H H' → H p = none → tPairs trs σ H' (kDisp p Q)) : tDisp trs σ H Q := fun p hp => h p _ (hs.new hp _) (Upto.new hp) hp
theorem s_pairs0 (h : QP [] H) : tPairs [] σ H QP := h
theorem s_pairs (h : td σ H fun x H1 => tv σ H1 fun y H2 => tPairs trs σ H2 fun ps H3 => QP ((x, y) :: ps) H3) : tPairs ((td, tv) :: trs) σ H QP := h
theorem s_kDisp (hs : Hs W H0 H M I) (h1 : H p = some (.dK [])) (e : unV ps = some kvs) (hz : kvs.length ≤ 15) (em : mergeK [] kvs = kvs') (r : Rep M p (.dK kvs') M') (h : ∀ H', Hs W H0 H' M' I → Upto [p] H H' → Q (.ref p) H') : kDisp p Q ps H :=
  ⟨h1, kvs, unV_eq e, hz, by rw [em]; exact h _ (hs.put r) (Upto.put (by simp))⟩
theorem s_tyD (h1 : H a = some (.dK kvs)) (h : A) : tyV K "dict" (.ref a) H ∧ A := ⟨.inr (.inr (.inl ⟨rfl, .inl ⟨_, h1⟩⟩)), h⟩
theorem s_upd (hs : Hs W H0 H M I) (h1 : H a = some (.dK ks)) (h2 : H b = some (.dK ls)) (ne : a ≠ b) (hz : ks.length + ls.length ≤ sizeLine) (e : mergeK ks ls = kvs') (r : Rep M a (.dK kvs') M') (h : ∀ H', Hs W H0 H' M' I → Upto [a] H H' → Q .non H') : rUpd (.ref a) [.ref b] H Q :=
  ⟨a, b, ks, ls, rfl, rfl, h1, h2, ne, hz, by rw [e]; exact h _ (hs.put r) (Upto.put (by simp))⟩
end
end RL
namespace RL
open PySem L2 StX
/-! ### methods, new objects in a try -/
def tMethS (C : Addr) (m : Str) (sp : Sp) (E : St → XK) (ta : TE) (t : TA) : TE := fun σ H Q => ta σ H (kMeth C m sp (E σ) t σ Q)
def tMakeS (C : Addr) (sp : Sp) (E : St → XK) (t : TA) : TE := fun σ H Q => t σ H (kMake C sp (E σ) Q)
section
variable {X : Cx} {CX : CXT} {k : Nat} {f C : Addr} {fd : FuncData} {ps : List Str} {sp : Sp} {E : St → XK} {x m : Str} {p pos apos : Pos} {e o : Expr} {es : List Expr} {ta : TE} {t : TA}
theorem pe_methS {pl : Sem Bool} (he : PE X o ta) (c : Cls X.K C) (hm : Meth X.K C m f) (F : FnOk X.prog X.w X.K X.mg X.base CX k f fd ps sp) (hr : Room k X.A) (hb : Binds X.K fd ps []) (hx : ∀ σ, PassesAt CX X σ (E σ)) (ha : PA X (e :: es) t)
    (hst : starEach (e :: es) X.env = (false, eval e X.env) :: starEach es X.env := by rfl) (hpl : (backTo pos (starEach es X.env)).any (·.1) = false := by rfl)
    (ht : eval (.Call (.Attribute o m apos) (e :: es) [] pos) X.env = (do let ov ← eval o X.env; standAt apos.atName; let (f, first) ← holding [ov] (getMethod ov m pl); callWith pos f first (backTo pos (starEach (e :: es) X.env)) (backToKw pos (keywordEach [] X.env))) := by rfl) :
    PE X (.Call (.Attribute o m apos) (e :: es) [] pos) (tMethS C m sp E ta t) := ⟨fun pins s σ H Q I h => by
  refine PySem.W.methodCall_KW (pl := pl) (thn (he.run pins s σ H _ I h) fun u s1 q0 => ?_) ht
  obtain ⟨y, H1, I1, rx, a, dx, fs, ey, ea, l, q⟩ := q0
  subst ey
  obtain rfl : u = Value.ref a := rx
  refine getmeth_ok I1 ea c hm l (PySem.W.callWith_K (first := [.ref a]) (h₀ := X.base) I1.ok.mod.kin hm.kp (thn (ha.run pos pins s1 σ H1 _ I1 q) fun us s2 q1 => ?_) hst hpl)
  obtain ⟨vs, H2, I2, r, q2⟩ := q1
  rw [List.append_nil] at q2
  exact ⟨I2.kIn, run_fnS (us := .ref a :: us) (vs := .ref a :: vs) F hr hb (hx σ) I2 (.cons rfl r) q2⟩⟩
theorem run_makeS {pins : List (Addr × Obj)} {σ : St} {H : Hp} {s : Shared} {Q : VK} {us : List Value} {vs : List V} (M : Mk X.K C f) (F : FnOk X.prog X.w X.K X.mg X.base CX k f fd ps sp) (hr : Room (k + 1) X.A) (hb : Binds X.K fd ps [])
    (hx : PassesAt CX X σ (E σ)) (I : Inv X pins σ H s) (r : Vals vs us) (h : kMake C sp (E σ) Q vs H) : wpAny (model X.prog X.w) X.A (call (.ref C) us) (EP X pins σ Q) X.xe s := by
  have q0 := h (s.heap.objs.size + 1) s.heap.objs.size (I.hok.fresh (Nat.le_succ _)) (I.hok.fresh (Nat.le_refl _)) (Nat.ne_of_lt (Nat.lt_succ_self _))
  rw [List.append_nil] at q0
  have J := Inv.made (C := C) I
  have r2 : Vals (V.ref (s.heap.objs.size + 1) :: vs) (Value.ref (s.heap.objs.size + 1) :: us) := .cons rfl r
  have hl : (Value.ref (s.heap.objs.size + 1) :: us).length = ps.length := by rw [← r2.length]; exact F.len _ _ _ _ q0
  have b := hb _ (Value.ref (s.heap.objs.size + 1) :: us) J.kIn (by rw [List.append_nil]; exact hl)
  rw [List.append_nil] at b
  refine wpAny_call (make_map (f := f) I.kIn M.makes M.init (beq_iff_eq.mp M.fn) (codeAny_mono (F.run _ X.stack _ _ ⟨Value.ref (s.heap.objs.size + 1) :: us, []⟩ (Value.ref (s.heap.objs.size + 1) :: us) _ _ (E σ) (hr.make C us []) (J.env0.make C us []) b r2 q0) fun r s' hq => ?_))
  match r, hq with
  | .error e, hq => exact hx pins _ _ e s' J hq
  | .ok (.ret u), hq =>
    obtain ⟨v, H', I3, rv, ev, q3⟩ := J.after hq
    subst ev
    exact ⟨rv, ⟨V.ref (s.heap.objs.size + 1), H', I3, rfl, q3⟩⟩
  | .ok .next, hq => exact hq.elim
  | .ok .brk, hq => exact hq.elim
  | .ok .cont, hq => exact hq.elim
theorem pe_makeS (M : Mk X.K C f) (F : FnOk X.prog X.w X.K X.mg X.base CX k f fd ps sp) (hr : Room (k + 1) X.A) (hg : Gl X x) (hm : X.mg x = some (.ref C)) (hb : Binds X.K fd ps []) (hx : ∀ σ, PassesAt CX X σ (E σ)) (ha : PA X (e :: es) t)
    (hdb : (x == ("__debug__" : Str)) = false := by decide) (he : starEach (e :: es) X.env = (false, eval e X.env) :: starEach es X.env := by rfl) (hpl : (backTo pos (starEach es X.env)).any (·.1) = false := by rfl) :
    PE X (.Call (.Name x p) (e :: es) [] pos) (tMakeS C sp E t) := ⟨fun pins s σ H Q I h => by
  refine wpAny_Call_Name_kw (ld_glob I hg hm (PySem.W.callWith_K (h₀ := X.base) I.ok.mod.kin M.kp (thn (ha.run pos pins s σ H _ I h) fun us s1 q1 => ?_) he hpl) hdb)
  obtain ⟨vs, H1, I1, r, q⟩ := q1
  exact ⟨I1.kIn, run_makeS M F hr hb (hx σ) I1 r q⟩⟩
theorem s_methS {σ : St} {H : Hp} {Q : VK} (h : ta σ H (kMeth C m sp (E σ) t σ Q)) : tMethS C m sp E ta t σ H Q := h
theorem s_makeS {σ : St} {H : Hp} {Q : VK} (h : t σ H (kMake C sp (E σ) Q)) : tMakeS C sp E t σ H Q := h
end
/-- a method of an own class, its __init__ -/
structure MethOk (P : Program) (w : World) (K : PySem.W.Frag) (mg : Str → Option Value) (base : Heap) (CX : CXT) (k : Nat) (C : Addr) (m : Str) (ps : List Str) (sp : Sp) : Prop where
  ex : ∃ (f : Addr) (fd : FuncData), FnOk P w K mg base CX k f fd ps sp ∧ Binds K fd ps [] ∧ Meth K C m f
structure MakeOk (P : Program) (w : World) (K : PySem.W.Frag) (mg : Str → Option Value) (base : Heap) (CX : CXT) (k : Nat) (C : Addr) (ps : List Str) (sp : Sp) : Prop where
  ex : ∃ (f : Addr) (fd : FuncData), FnOk P w K mg base CX k f fd ps sp ∧ Binds K fd ps [] ∧ Mk K C f
/-- what the clauses wish -/
theorem s_only {K : PySem.W.Frag} {c cls : Value} {ts : Addr → Value → Option Addr → TS} {Wout : WX} {D : Ends} {d : Option Addr} {σ : St} {H : Hp} (e : PySem.W.exmOne K cls c = some true) (h : ∀ a, H a = none → ts a cls d D σ H) : wOnly K c ts Wout D cls d σ H :=
  ⟨true, e, fun _ => h, fun z => nomatch z⟩
theorem s_many {K : PySem.W.Frag} {c cls : Value} {ts : Addr → Value → Option Addr → TS} {l : List (Value × (Addr → Value → Option Addr → TS))} {Wout : WX} {D : Ends} {d : Option Addr} {σ : St} {H : Hp} (e : PySem.W.exmOne K cls c = some true) (h : ∀ a, H a = none → ts a cls d D σ H) : wMany K Wout D ((c, ts) :: l) cls d σ H :=
  ⟨true, e, fun _ => h, fun z => nomatch z⟩
theorem s_manyNo {K : PySem.W.Frag} {c cls : Value} {ts : Addr → Value → Option Addr → TS} {l : List (Value × (Addr → Value → Option Addr → TS))} {Wout : WX} {D : Ends} {d : Option Addr} {σ : St} {H : Hp} (e : PySem.W.exmOne K cls c = some false) (h : wMany K Wout D l cls d σ H) : wMany K Wout D ((c, ts) :: l) cls d σ H :=
  ⟨false, e, (fun z => nomatch z), fun _ => h⟩
end RL
namespace RL
open PySem L2 StX
/-! ### footprints: what a callee may change, and what stands there behind it -/
structure Frm (L L' : List (Addr × HO)) (H H' : Hp) : Prop where
  up : Upto (L.map Prod.fst) H H'
  ok : Holds H' L'
  fr : ∀ x ∈ L', x.1 ∈ L.map Prod.fst ∨ H x.1 = none
inductive SegRep : List (Addr × HO) → List (Addr × HO) → List (Addr × HO) → List (Addr × HO) → Prop
  | here {L L' B : List (Addr × HO)} : SegRep (L ++ B) L L' (L' ++ B)
  | end_ {L L' : List (Addr × HO)} : SegRep L L L' L'
  | there {x : Addr × HO} {M M' L L' : List (Addr × HO)} : SegRep M L L' M' → SegRep (x :: M) L L' (x :: M')
  | skip {A M M' L L' : List (Addr × HO)} : SegRep M L L' M' → SegRep (A ++ M) L L' (A ++ M')
  | two {L₁ L₂ L₁' L₂' B : List (Addr × HO)} : SegRep (L₁ ++ (L₂ ++ B)) (L₁ ++ L₂) (L₁' ++ L₂') (L₁' ++ (L₂' ++ B))
theorem SegRep.split {M L L' M' : List (Addr × HO)} (s : SegRep M L L' M') : ∃ A B, M = A ++ (L ++ B) ∧ M' = A ++ (L' ++ B) := by
  induction s with
  | @here L L' B => exact ⟨[], B, rfl, rfl⟩
  | @end_ L L' => exact ⟨[], [], by simp, by simp⟩
  | @there x M M' L L' _ ih =>
    obtain ⟨A, B, rfl, rfl⟩ := ih
    exact ⟨x :: A, B, rfl, rfl⟩
  | @skip A0 M M' L L' _ ih =>
    obtain ⟨A, B, rfl, rfl⟩ := ih
    exact ⟨A0 ++ A, B, by simp, by simp⟩
  | @two L₁ L₂ L₁' L₂' B => exact ⟨[], B, by simp, by simp⟩
section
variable {W : List Addr} {H0 H H' H1 : Hp} {M M' L L' L2' I : List (Addr × HO)}
theorem Frm.of (h : Hs (L.map Prod.fst) H H' M I) (s : L'.Sublist M) : Frm L L' H H' :=
  ⟨h.up, h.part s, fun x hx => h.mu x (s.subset hx)⟩
theorem Frm.refl (h : Holds H L) : Frm L L H H := ⟨Upto.refl _ _, h, fun x hx => .inl (List.mem_map_of_mem hx)⟩
theorem Hs.seg (h : Hs W H0 H M I) (f : Frm L L' H H') (s : SegRep M L L' M') : Hs W H0 H' M' I := by
  obtain ⟨A, B, rfl, rfl⟩ := s.split
  have nd := h.nd
  have ndL' := f.ok.nd
  -- what is of A, B, I stands apart from L, and so from what is new
  have out : ∀ x ∈ (A ++ (L ++ B)) ++ I, x.1 ∉ L.map Prod.fst → H' x.1 = some x.2 := fun x hx n => f.up _ _ n (h.at_ x hx)
  simp only [List.map_append, List.append_assoc, List.nodup_append, List.mem_append] at nd
  obtain ⟨ndA, ⟨ndL, ⟨ndB, ndI, dBI⟩, dL⟩, dA⟩ := nd
  have nA : ∀ x ∈ A, x.1 ∉ L.map Prod.fst := fun x hx z => dA x.1 (List.mem_map_of_mem hx) x.1 (.inl z) rfl
  have nB : ∀ x ∈ B, x.1 ∉ L.map Prod.fst := fun x hx z => dL x.1 z x.1 (.inl (List.mem_map_of_mem hx)) rfl
  have nI : ∀ x ∈ I, x.1 ∉ L.map Prod.fst := fun x hx z => dL x.1 z x.1 (.inr (List.mem_map_of_mem hx)) rfl
  have sep : ∀ x ∈ L', ∀ y ∈ (A ++ (L ++ B)) ++ I, y.1 ∉ L.map Prod.fst → x.1 ≠ y.1 := fun x hx y hy ny e => by
    rcases f.fr x hx with z | z
    · exact ny (e ▸ z)
    · rw [e, h.at_ y hy] at z
      cases z
  have inA : ∀ x ∈ A, x ∈ (A ++ (L ++ B)) ++ I := fun x hx => by simp [hx]
  have inB : ∀ x ∈ B, x ∈ (A ++ (L ++ B)) ++ I := fun x hx => by simp [hx]
  have inI : ∀ x ∈ I, x ∈ (A ++ (L ++ B)) ++ I := fun x hx => by simp [hx]
  have muL : ∀ a ∈ L.map Prod.fst, a ∈ W ∨ H0 a = none := fun a ha => by
    obtain ⟨y, hy, rfl⟩ := List.mem_map.mp ha
    exact h.mu y (by simp [hy])
  refine ⟨fun b o n e => ?_, ?_, fun x hx => ?_, fun x hx => ?_⟩
  · refine f.up b o (fun z => ?_) (h.up b o n e)
    rcases muL b z with w | w
    · exact n w
    · rw [w] at e
      cases e
  · simp only [List.map_append, List.append_assoc, List.nodup_append, List.mem_append]
    refine ⟨ndA, ⟨ndL', ⟨ndB, ndI, dBI⟩, ?_⟩, ?_⟩
    · rintro a ha b hb rfl
      obtain ⟨x, hx, rfl⟩ := List.mem_map.mp ha
      rcases hb with hb | hb
      · obtain ⟨y, hy, e⟩ := List.mem_map.mp hb
        exact sep x hx y (inB y hy) (nB y hy) e.symm
      · obtain ⟨y, hy, e⟩ := List.mem_map.mp hb
        exact sep x hx y (inI y hy) (nI y hy) e.symm
    · rintro a ha b hb rfl
      obtain ⟨x, hx, rfl⟩ := List.mem_map.mp ha
      rcases hb with hb | hb | hb
      · obtain ⟨y, hy, e⟩ := List.mem_map.mp hb
        exact sep y hy x (inA x hx) (nA x hx) e
      · exact dA x.1 ha x.1 (.inr (.inl hb)) rfl
      · exact dA x.1 ha x.1 (.inr (.inr hb)) rfl
  · simp only [List.mem_append] at hx
    rcases hx with (hx | hx | hx) | hx
    · exact out x (inA x hx) (nA x hx)
    · exact f.ok.at_ x hx
    · exact out x (inB x hx) (nB x hx)
    · exact out x (inI x hx) (nI x hx)
  · simp only [List.mem_append] at hx
    rcases hx with hx | hx | hx
    · exact h.mu x (by simp [hx])
    · rcases f.fr x hx with z | z
      · exact muL _ z
      · by_cases hw : x.1 ∈ W
        · exact .inl hw
        · exact .inr (Holds.uptoNew h.up z hw)
    · exact h.mu x (by simp [hx])
theorem Hs.startL (h : Holds H L) : Hs (L.map Prod.fst) H H L [] := ⟨Upto.refl _ _, by rw [List.append_nil]; exact h.nd, fun x hx => h.at_ x (by simpa using hx), fun _ hx => .inl (List.mem_map_of_mem hx)⟩
/-- the caller hands a part of what it holds -/
theorem SegRep.sub {M L L' M' : List (Addr × HO)} (s : SegRep M L L' M') : L.Sublist M := by
  obtain ⟨A, B, rfl, _⟩ := s.split
  exact (List.sublist_append_left L B).trans (List.sublist_append_right A _)
end
theorem rowsL_set : ∀ {bs : List Addr} {ws : List (List Int)} {i : Nat} (q : Addr) (w : List Int), i < bs.length → bs.length = ws.length → ∃ x, ((q, HO.lst (w.map V.int)) :: rowsL bs ws).Perm (x :: rowsL (bs.set i q) (ws.set i w))
  | [], _, _, _, _, h, _ => by simp at h
  | _ :: _, [], _, _, _, _, h => by simp at h
  | b :: bs, v :: ws, 0, q, w, _, _ => ⟨(b, .lst (v.map V.int)), List.Perm.swap _ _ _⟩
  | b :: bs, v :: ws, i + 1, q, w, h, h' => by
    obtain ⟨x, p⟩ := rowsL_set (bs := bs) (ws := ws) (i := i) q w (by simpa using h) (by simpa using h')
    refine ⟨x, (List.Perm.swap _ _ _).trans ?_⟩
    refine (List.Perm.cons _ p).trans ?_
    exact List.Perm.swap _ _ _
theorem Hs.setRow {W : List Addr} {H0 H : Hp} {A B I : List (Addr × HO)} {bs : List Addr} {ws : List (List Int)} {i : Nat} {q : Addr} {w : List Int} (h : Hs W H0 H ((q, HO.lst (w.map V.int)) :: (A ++ (rowsL bs ws ++ B))) I) (hi : i < bs.length) (hl : bs.length = ws.length) :
    Hs W H0 H (A ++ (rowsL (bs.set i q) (ws.set i w) ++ B)) I := by
  obtain ⟨x, p⟩ := rowsL_set (i := i) q w hi hl
  have h2 : Hs W H0 H (x :: (A ++ (rowsL (bs.set i q) (ws.set i w) ++ B))) I := by
    refine h.perm ?_
    refine List.Perm.trans ?_ (List.perm_middle (a := (q, HO.lst (w.map V.int))) (l₁ := A) (l₂ := rowsL bs ws ++ B))
    refine List.Perm.trans (List.perm_middle (a := x) (l₁ := A) (l₂ := rowsL (bs.set i q) (ws.set i w) ++ B)).symm ?_
    refine List.Perm.append_left A ?_
    exact (List.Perm.append_right B p).symm
  exact h2.tl
end RL
namespace RL
open PySem L2 StX
def rTupOf (K : PySem.W.Frag) : List V → Hp → VK → Prop := fun xs H Q => ∃ p ys, xs = [.ref p] ∧ ((SqL K H p ys ∧ ∀ l, H l = none → Q (.ref l) (upd H l (.tup ys))) ∨ (SqT K H p ys ∧ Q (.ref p) H))
theorem call_tupleOfK {X : Cx} {K : PySem.W.Frag} (hK : X.K = K := by rfl) : CallR X (.type "tuple") (rTupOf K) := by subst hK; exact call_tuple_of
end RL
namespace RL
open PySem L2 StX
theorem Hs.setRow0 {W : List Addr} {H0 H : Hp} {A I : List (Addr × HO)} {bs : List Addr} {ws : List (List Int)} {i : Nat} {q : Addr} {w : List Int} (h : Hs W H0 H ((q, HO.lst (w.map V.int)) :: (A ++ rowsL bs ws)) I) (hi : i < bs.length) (hl : bs.length = ws.length) :
    Hs W H0 H (A ++ rowsL (bs.set i q) (ws.set i w)) I := by
  have q1 := Hs.setRow (B := []) (A := A) (i := i) (by rw [List.append_nil]; exact h) hi hl
  rw [List.append_nil] at q1
  exact q1
theorem SetI.refs {bs : List Addr} {i : Nat} {q : Addr} (h : i < bs.length) : SetI (bs.map V.ref) (i : Int) (.ref q) ((bs.set i q).map V.ref) := by
  have := SetI.nat (xs := bs.map V.ref) (n := i) (v := .ref q) (by rw [List.length_map]; exact h)
  rw [List.map_set]
  exact this
theorem s_eqV {x y : V} {H : Hp} {Q : VK} (hs : scal x y = true) (h : Q (.bl (decide (x = y))) H) : rEq x y H Q := ⟨hs, h⟩
theorem s_neV {x y : V} {H : Hp} {Q : VK} (hs : scal x y = true) (h : Q (.bl (decide (x ≠ y))) H) : rNe x y H Q := ⟨hs, by rw [← decide_not]; exact h⟩
theorem Hs.startC {H : Hp} {x : Addr × HO} {L : List (Addr × HO)} (h : Holds H (x :: L)) : Hs (L.map Prod.fst) H H L [x] := by
  refine ⟨Upto.refl _ _, ?_, ?_, fun _ hx => .inl (List.mem_map_of_mem hx)⟩
  · have p1 : (L ++ [x]).Perm (x :: L) := List.perm_append_comm
    exact ((p1.map Prod.fst).nodup_iff).mpr h.nd
  · intro y hy
    refine h.at_ y ?_
    simp only [List.mem_append, List.mem_singleton] at hy
    rcases hy with hy | hy
    · exact List.mem_cons_of_mem _ hy
    · rw [hy]; exact List.mem_cons_self
theorem Hs.cons1 {W : List Addr} {H0 H : Hp} {x : Addr × HO} {L : List (Addr × HO)} (h : Hs W H0 H L [x]) : Holds H (x :: L) := by
  refine ⟨?_, ?_⟩
  · have p1 : (L ++ [x]).Perm (x :: L) := List.perm_append_comm
    exact ((p1.map Prod.fst).nodup_iff).mp h.nd
  · intro y hy
    refine h.at_ y ?_
    simp only [List.mem_append, List.mem_singleton]
    rcases List.mem_cons.mp hy with hy | hy
    · exact .inr hy
    · exact .inl hy
end RL
namespace RL
open PySem L2 StX
/-! ### data that are equal to themselves -/
theorem eqvAll_refl : ∀ {ds : List PyData}, (∀ d ∈ ds, d.eqv d = true) → PyData.eqvAll ds ds = true
  | [], _ => rfl
  | d :: ds, h => by
    rw [PyData.eqvAll, h d List.mem_cons_self, eqvAll_refl fun x hx => h x (List.mem_cons_of_mem _ hx)]
    rfl
theorem layAll {ds : List PyData} (h : ∀ d ∈ ds, d.canLay0 = true) : PyData.canLayAll0 ds = true := by
  induction ds with
  | nil => rfl
  | cons d ds ih =>
    rw [PyData.canLayAll0, h d List.mem_cons_self, ih fun x hx => h x (List.mem_cons_of_mem _ hx)]
    rfl
theorem depAll {n : Nat} {ds : List PyData} (h : ∀ d ∈ ds, d.depth ≤ n) : PyData.depthAll ds ≤ n := by
  induction ds with
  | nil => exact Nat.zero_le _
  | cons d ds ih =>
    rw [PyData.depthAll]
    exact Nat.max_le.mpr ⟨h d List.mem_cons_self, ih fun x hx => h x (List.mem_cons_of_mem _ hx)⟩
theorem Sh.refl : ∀ {n : Nat} {d : PyData}, Sh n d → d.eqv d = true ∧ d.depth ≤ n := by
  intro n
  induction n with
  | zero => intro d h; cases h
  | succ n ih =>
    intro d h
    cases h with
    | non => exact ⟨rfl, Nat.zero_le _⟩
    | bl b => exact ⟨by cases b <;> rfl, Nat.zero_le _⟩
    | int i => exact ⟨by simp [PyData.eqv], Nat.zero_le _⟩
    | str x => exact ⟨by simp [PyData.eqv], Nat.zero_le _⟩
    | lst _ a =>
      refine ⟨?_, ?_⟩
      · rw [PyData.eqv]; exact eqvAll_refl fun d hd => (ih (a d hd)).1
      · rw [PyData.depth]; have := depAll fun d hd => (ih (a d hd)).2; omega
    | tup _ a =>
      refine ⟨?_, ?_⟩
      · rw [PyData.eqv]; exact eqvAll_refl fun d hd => (ih (a d hd)).1
      · rw [PyData.depth]; have := depAll fun d hd => (ih (a d hd)).2; omega
theorem Sh.shaped {n : Nat} {d : PyData} (h : Sh n d) (hn : n ≤ 64) (hl : d.canLay0 = true) : SeqAt.shaped d = true := by
  unfold SeqAt.shaped
  rw [hl, Bool.true_and]
  have := h.refl.2
  exact decide_eq_true (by omega)
section
variable {K : PySem.W.Frag} {H H' : Hp} {x y : V} {d : PyData} {n : Nat} {Q : VK} {W : List Addr} {H0 : Hp} {M M' I : List (Addr × HO)} {a p : Addr} {xs : List V} {ns : List Int} {bs : List Bool} {i j : Int} {m : Int} {z : Str}
theorem s_eqDD (hx : Dp K H x d) (hy : Dp K H y d) (s : Sh n d) (hl : d.canLay0 = true) (hn : n ≤ 64) (h : Q (.bl true) H) : rEqD K x y H Q :=
  ⟨_, _, hx, hy, s.shaped hn hl, s.shaped hn hl, by rw [s.refl.1]; exact h⟩
theorem s_neDD (hx : Dp K H x d) (hy : Dp K H y d) (s : Sh n d) (hl : d.canLay0 = true) (hn : n ≤ 64) (h : Q (.bl false) H) : rNeD K x y H Q :=
  ⟨_, _, hx, hy, s.shaped hn hl, s.shaped hn hl, by rw [s.refl.1]; exact h⟩
/-- min, max, all of lists -/
theorem s_minL (h1 : SqL K H a (ns.map V.int)) (hz : 0 < ns.length) (h : ∀ m, m ∈ ns → (∀ y, y ∈ ns → m ≤ y) → Q (.int m) H) : rMin K [.ref a] H Q := ⟨a, ns, rfl, h1, hz, h⟩
theorem s_maxL (h1 : SqL K H a (ns.map V.int)) (hz : 0 < ns.length) (h : ∀ m, m ∈ ns → (∀ y, y ∈ ns → y ≤ m) → Q (.int m) H) : rMax K [.ref a] H Q := ⟨a, ns, rfl, h1, hz, h⟩
theorem s_allL (h1 : SqL K H a (bs.map V.bl)) (h : Q (.bl (bs.all id)) H) : rAll K [.ref a] H Q := ⟨a, bs, rfl, h1, h⟩
/-- range(n) as a value; x not in it -/
theorem s_rng1 (hs : Hs W H0 H M I) (h : ∀ p H', Hs W H0 H' ((p, .rng 0 j) :: M) I → Upto [] H H' → H p = none → Q (.ref p) H') : rRng1 [.int j] H Q := ⟨j, rfl, fun p hp => h p _ (hs.new hp _) (Upto.new hp) hp⟩
theorem s_notRngI (h1 : H a = some (.rng 0 j)) (h : Q (.bl (!decide (0 ≤ i ∧ i < j))) H) : rNotRng (.int i) (.ref a) H Q := ⟨a, j, rfl, h1, .inl ⟨i, rfl, h⟩⟩
theorem s_notRngN (h1 : H a = some (.rng 0 j)) (h : Q (.bl true) H) : rNotRng .non (.ref a) H Q := ⟨a, j, rfl, h1, .inr ⟨.inl rfl, h⟩⟩
theorem s_notRngS (h1 : H a = some (.rng 0 j)) (h : Q (.bl true) H) : rNotRng (.str z) (.ref a) H Q := ⟨a, j, rfl, h1, .inr ⟨.inr ⟨z, rfl⟩, h⟩⟩
/-- tuple(list) -/
theorem s_tupOfL (hs : Hs W H0 H M I) (h1 : SqL K H a xs) (h : ∀ p H', Hs W H0 H' ((p, .tup xs) :: M) I → Upto [] H H' → H p = none → Q (.ref p) H') : rTupOf K [.ref a] H Q :=
  ⟨a, xs, rfl, .inl ⟨h1, fun p hp => h p _ (hs.new hp _) (Upto.new hp) hp⟩⟩
end
end RL
namespace RL
open PySem L2 StX
theorem Hs.neq {W : List Addr} {H0 H : Hp} {M I : List (Addr × HO)} {a b : Addr} {o o' : HO} (hs : Hs W H0 H M I) (s : [(a, o), (b, o')].Sublist M) : a ≠ b := by
  have n1 := hs.nd
  rw [List.map_append, List.nodup_append] at n1
  have n2 := List.Nodup.sublist (s.map Prod.fst) n1.1
  simpa using n2
end RL
namespace RL
open PySem L2 StX
theorem Hs.cast {W : List Addr} {H0 H : Hp} {M M' I : List (Addr × HO)} (h : Hs W H0 H M I) (e : M = M') : Hs W H0 H M' I := e ▸ h
end RL
namespace RL
theorem ltK {a b : Nat} (h : Nat.ble (a + 1) b = true) : a < b := Nat.le_of_ble_eq_true h
theorem leK {a b : Nat} (h : Nat.ble a b = true) : a ≤ b := Nat.le_of_ble_eq_true h
end RL
namespace RL
open PySem L2 StX
theorem cutV_mem {xs : List V} {lo hi : Option Int} {x : V} (h : x ∈ cutV xs lo hi) : x ∈ xs := by
  unfold cutV at h
  exact List.mem_of_mem_drop (List.mem_of_mem_take h)
end RL
namespace RL
open PySem L2 StX
theorem Holds.sub {H : Hp} {L N : List (Addr × HO)} (h : Holds H L) (s : N.Sublist L) : Holds H N := ⟨List.Nodup.sublist (s.map _) h.nd, fun x hx => h.at_ x (s.subset hx)⟩
theorem ScrL.app {K : PySem.W.Frag} {sc : Addr} {ns : List Int} {S A : List (Addr × HO)} (h : ScrL K sc ns S) : ScrL K sc ns (A ++ S) := fun H hh => h H (hh.sub (List.sublist_append_right _ _))
theorem Hs.partI {W : List Addr} {H0 H : Hp} {M N I : List (Addr × HO)} (h : Hs W H0 H M I) (s : N.Sublist M) : Holds H (N ++ I) := h.holds.sub (s.append (List.Sublist.refl I))
end RL
namespace RL
open PySem L2 StX
/-- a middle: what holds behind the first statement, whatever way was taken -/
theorem s_join {t u : TS} {nx bk ct : St → Hp → Prop} {rt : VK} {σ : St} {H : Hp} (P : St → Hp → Prop) (hj : ∀ σ' H', P σ' H' → u ⟨nx, rt, bk, ct⟩ σ' H') (h : ∀ U : St → Hp → Prop, (∀ σ' H', P σ' H' → U σ' H') → t ⟨U, rt, bk, ct⟩ σ H) : tSeq t u ⟨nx, rt, bk, ct⟩ σ H := h _ hj
theorem sub_two {L₁ L₂ B : List (Addr × HO)} : (L₁ ++ L₂).Sublist (L₁ ++ (L₂ ++ B)) := by
  rw [← List.append_assoc]
  exact List.sublist_append_left _ _
theorem s_repR {W : List Addr} {H0 H : Hp} {M I : List (Addr × HO)} {a : Addr} {x : V} {k : Nat} {Q : VK} (hs : Hs W H0 H M I) (h1 : H a = some (.lst [x])) (hk : k ≤ 100000) (h : ∀ p H', Hs W H0 H' ((p, .lst (List.replicate k x)) :: M) I → Upto [] H H' → H p = none → Q (.ref p) H') : rRep (.ref a) (.int k) H Q := by
  refine s_rep hs h1 (by omega) (by rw [sizeLine_eq]; simp; omega) ?_
  have e : (List.replicate ((k : Int)).toNat [x]).flatten = List.replicate k x := by simp
  rw [e]
  exact h
end RL
namespace RL
theorem perm4 {α : Type} (A B C : List α) (r : α) : (r :: (A ++ (B ++ C))).Perm (B ++ (C ++ (A ++ [r]))) := by
  rw [← List.append_assoc B C]
  refine List.Perm.trans ?_ List.perm_append_comm
  rw [List.append_assoc A [r]]
  exact (List.perm_middle).symm
end RL
namespace RL
open PySem L2 StX
theorem s_join2 {t t2 u : TS} {nx bk ct : St → Hp → Prop} {rt : VK} {σ : St} {H : Hp} (P : St → Hp → Prop) (hj : ∀ σ' H', P σ' H' → u ⟨nx, rt, bk, ct⟩ σ' H') (h : ∀ U : St → Hp → Prop, (∀ σ' H', P σ' H' → U σ' H') → tSeq t t2 ⟨U, rt, bk, ct⟩ σ H) : tSeq t (tSeq t2 u) ⟨nx, rt, bk, ct⟩ σ H := h _ hj
theorem sub_one {X R R' : List (Addr × HO)} {x : Addr × HO} (h : x ∈ X) (s : R'.Sublist R) : (x :: R').Sublist (X ++ R) := List.Sublist.append (l₁ := [x]) (List.singleton_sublist.mpr h) s
end RL
namespace RL
open PySem L2 StX
theorem s_neSs {x : Str} {H : Hp} {Q : VK} (h : Q (.bl false) H) : rNe (.str x) (.str x) H Q := s_neS (by rw [decide_eq_false (fun q => q rfl)]; exact h)
theorem s_eqSs {x : Str} {H : Hp} {Q : VK} (h : Q (.bl true) H) : rEq (.str x) (.str x) H Q := s_eqS (by rw [decide_eq_true rfl]; exact h)
theorem s_neNN {H : Hp} {Q : VK} (h : Q (.bl false) H) : rNe .non .non H Q := s_neV rfl (by rw [decide_eq_false (fun q => q rfl)]; exact h)
end RL
namespace RL
theorem perm5 {α : Type} (A B C : List α) (r : α) : (C ++ (r :: (A ++ B))).Perm (r :: (A ++ (B ++ C))) := by
  refine List.perm_append_comm.trans ?_
  rw [List.cons_append, List.append_assoc]
end RL
namespace RL
open PySem L2 StX
/-! ### enumerate, pairs in comprehensions, truth of lists, continue, pop(0), methods without arguments in a try -/
theorem pi_enumK {X : Cx} {K : PySem.W.Frag} {e : Expr} {ta : TA} {p pos tpos : Pos} {elts : List Expr} {kk : Nat} (hg : Gl X "enumerate") (hm : X.mg "enumerate" = none) (ha : PA X [e] ta) (hK : X.K = K := by rfl) (hs : starEach [e] X.env = [(false, eval e X.env)] := by rfl) :
    PI X (.Tuple elts kk tpos) (.Call (.Name "enumerate" p) [e] [] pos) (iEnum K ta) := by subst hK; exact pi_enum hg hm ha hs
def kEnm (K : PySem.W.Frag) (R : It → Hp → Prop) : List V → Hp → Prop := fun vs H1 => ∃ a xs, vs = [.ref a] ∧ SqL K H1 a xs ∧ R (Ite K a) H1
def kTru (K : PySem.W.Frag) (Q : Bool → Hp → Prop) : VK := fun x H => ∃ k, TruV K x H k ∧ Q k H
def tTruK (K : PySem.W.Frag) (ta : TE) : TT := fun σ H Q => ta σ H (kTru K Q)
theorem pt_truthK {X : Cx} {K : PySem.W.Frag} {a : Expr} {ta : TE} (ha : PE X a ta) (he : ∀ whole, isTrue a X.env whole = (do let v ← whole; standAt a.pos; holding [v] (truthy v))) (hK : X.K = K := by rfl) : PT X a (tTruK K ta) := by subst hK; exact pt_truth ha he
theorem pe_methS0 {X : Cx} {CX : CXT} {k : Nat} {f C : Addr} {fd : FuncData} {ps : List Str} {sp : Sp} {E : St → XK} {m : Str} {pos apos : Pos} {o : Expr} {ta : TE} {pl : Sem Bool} (he : PE X o ta) (c : Cls X.K C) (hm : Meth X.K C m f) (F : FnOk X.prog X.w X.K X.mg X.base CX k f fd ps sp) (hr : Room k X.A) (hb : Binds X.K fd ps []) (hx : ∀ σ, PassesAt CX X σ (E σ))
    (ht : eval (.Call (.Attribute o m apos) [] [] pos) X.env = (do let ov ← eval o X.env; standAt apos.atName; let (f, first) ← holding [ov] (getMethod ov m pl); callWith pos f first (backTo pos (starEach [] X.env)) (backToKw pos (keywordEach [] X.env))) := by rfl) :
    PE X (.Call (.Attribute o m apos) [] [] pos) (tMethS C m sp E ta tNil) := ⟨fun pins s σ H Q I h => by
  refine PySem.W.methodCall_KW (pl := pl) (thn (he.run pins s σ H _ I h) fun u s1 q0 => ?_) ht
  obtain ⟨y, H1, I1, rx, a, dx, fs, ey, ea, l, q⟩ := q0
  subst ey
  obtain rfl : u = Value.ref a := rx
  refine getmeth_ok I1 ea c hm l ?_
  exact PySem.W.callWith_K0 (first := [.ref a]) I1.kIn hm.kp (run_fnS (us := [.ref a]) (vs := [.ref a]) F hr hb (hx σ) I1 (.cons rfl .nil) q)⟩
theorem pe_callDS {X : Cx} {CX : CXT} {k n : Nat} {ps : List Str} {sp : Sp} {E : St → XK} {x : Str} {p pos : Pos} {e : Expr} {es : List Expr} {t : TA} (D : DefOk X.prog X.w X.K X.mg X.base CX k x ps sp) (hr : Room n X.A) (hg : Gl X x) (hx : ∀ σ, PassesAt CX X σ (E σ))
    (ha : PA X (e :: es) t) (hk : k ≤ n := by first | decide | exact Nat.le_refl _) (hdb : (x == ("__debug__" : Str)) = false := by decide) (he : starEach (e :: es) X.env = (false, eval e X.env) :: starEach es X.env := by rfl) (hpl : (backTo pos (starEach es X.env)).any (·.1) = false := by rfl) :
    PE X (.Call (.Name x p) (e :: es) [] pos) (tCallS sp E t) := by
  obtain ⟨f, fd, F, b, kp, m⟩ := D.ex
  exact pe_callS F (hr.mono hk) hg m kp b hx ha hdb he hpl
theorem s_callS {sp : Sp} {E : St → XK} {t : TA} {σ : St} {H : Hp} {Q : VK} (h : t σ H fun vs H1 => sp vs H1 Q (E σ)) : tCallS sp E t σ H Q := h
section
variable {σ : St} {H H' : Hp} {nx bk ct : St → Hp → Prop} {rt : VK} {g : TG} {t : TS} {tt : TT} {ta : TA} {te : TE} {Q : VK} {QB : Bool → Hp → Prop} {K : PySem.W.Frag} {a : Addr} {xs zs : List V} {y : V} {D : Ends} {v w : Nat} {W : List Addr} {H0 : Hp} {M M' I : List (Addr × HO)}
theorem s_forE (h : ta σ H (kEnm K fun J H1 => kFor J g t D σ H1)) : tFor (iEnum K ta) g t D σ H := h
theorem s_kEnm {R : It → Hp → Prop} (h1 : SqL K H a xs) (h : R (Ite K a) H) : kEnm K R [.ref a] H := ⟨a, xs, rfl, h1, h⟩
theorem f_enum (Pv : Nat → St → Hp → Prop) (h0 : Pv 0 σ H) (hl : ∀ i σ H, i ≤ xs.length → Pv i σ H → SqL K H a xs)
    (hs : ∀ i x T σ H, xs[i]? = some x → Pv i σ H → H T = none → g (.ref T) σ (upd H T (.tup [.int (i : Nat), x])) fun σ2 H2 => t ⟨Pv (i + 1), rt, nx, Pv (i + 1)⟩ σ2 H2) (hd : ∀ σ H, Pv xs.length σ H → nx σ H) : kFor (Ite K a) g t ⟨nx, rt, bk, ct⟩ σ H :=
  for_it walk_enum Pv h0 hl (fun i v σ H H' _ p y => by
    obtain ⟨T, a1, x, rfl, hT, rfl, e1, e2⟩ := y
    cases e1
    exact hs i x T σ H e2 p hT) hd
theorem s_cont (h : ct σ H) : tCont ⟨nx, rt, bk, ct⟩ σ H := h
theorem s_truth (h : te σ H (kTru K QB)) : tTruK K te σ H QB := h
theorem s_kTruL (h1 : SqL K H a xs) (h : QB (!xs.isEmpty) H) : kTru K QB (.ref a) H := ⟨_, .inl ⟨xs, h1, rfl⟩, h⟩
theorem s_iteE0 {A B : Prop} (h : A) : if (!!([] : List V).isEmpty) = true then A else B := iteT h
theorem s_iteEc {A B : Prop} (h : B) : if (!!(y :: zs).isEmpty) = true then A else B := iteF h
theorem s_iteE1 {A B : Prop} (h : B) : if (!([] : List V).isEmpty) = true then A else B := iteF h
theorem s_iteEd {A B : Prop} (h : A) : if (!(y :: zs).isEmpty) = true then A else B := iteT h
theorem s_pop0 (hs : Hs W H0 H M I) (h1 : H a = some (.lst (y :: zs))) (r : Rep M a (.lst zs) M') (h : ∀ H', Hs W H0 H' M' I → Upto [a] H H' → Q y H') : rPopAt (.ref a) [.int 0] H Q :=
  ⟨a, _, 0, 0, y, rfl, rfl, h1, by decide, by decide, by
    unfold seqIndex?
    simp, rfl, h _ (hs.put r) (Upto.put (by simp))⟩
theorem SetAt.twice {σ1 σ2 : St} {x : V} {z : Option V} (h : SetAt σ v x σ1) : (σ.set v z).set v (some x) = σ1 := by rw [List.set_set, h.eq]
theorem f_lcL2 (hvw : v ≠ w) (h : ∀ D, H D = none → ∃ Pv : Nat → Hp → Prop, Pv 0 (upd H D (.lst [])) ∧ (∀ i H, i ≤ xs.length → Pv i H → SqL K H a xs) ∧
    (∀ i x H, xs[i]? = some x → Pv i H → ∃ p q T σ1 σ2, x = .ref T ∧ SqT K H T [p, q] ∧ SetAt σ v p σ1 ∧ SetAt σ1 w q σ2 ∧ tt σ2 H fun b H3 => if b = true then te σ2 H3 (kAcc D (Pv (i + 1))) else Pv (i + 1) H3) ∧ ∀ H, Pv xs.length H → Q (.ref D) H) :
    kLc (Itl K a) (gTup K 2 (gCons (gName v) (gCons (gName w) gNil))) tt te [v, w] σ Q H := by
  intro D hD
  obtain ⟨Pv, h0, hl, hs, hd⟩ := h D hD
  refine lc_list (Qd := fun H => Q (.ref D) H) Pv h0 hl (fun i x H hx p => ?_) hd
  obtain ⟨y1, y2, T, σ1, σ2, rfl, hT, s1, s2, q⟩ := hs i x H hx p
  have e : ((wipe σ [v, w]).set v (some y1)).set w (some y2) = σ2 := by
    show ((((σ.set w none).set v none).set v (some y1)).set w (some y2)) = σ2
    rw [List.set_set, List.set_comm _ _ hvw, List.set_set, List.set_comm _ _ hvw.symm, s1.eq, s2.eq]
  have e2 : wipe σ2 [v, w] = wipe σ [v, w] := by
    rw [← e]
    show (((((σ.set w none).set v none).set v (some y1)).set w (some y2)).set w none).set v none = (σ.set w none).set v none
    simp only [List.set_set]
    rw [List.set_comm _ _ hvw]
    simp only [List.set_set]
  refine ⟨T, _, rfl, hT, rfl, _, _, rfl, _, _, rfl, rfl, ?_⟩
  show wipe (((wipe σ [v, w]).set v (some y1)).set w (some y2)) [v, w] = _ ∧ _
  rw [e]
  exact ⟨e2, q⟩
end
theorem atI_end {α : Type} {xs : List α} {v : α} : atI (xs ++ [v]) (-1) = some v := atI_last xs v
/-! ### blocks, groups of blocks, rows: as they stand in the heap -/
def bcell (x : Addr × List Int) : Addr × HO := (x.1, .lst (x.2.map V.int))
def bL (pb : List (Addr × List Int)) : List (Addr × HO) := pb.map bcell
abbrev rf (x : Addr × List Int) : V := .ref x.1
def gcell (x : Addr × List (Addr × List Int)) : Addr × HO := (x.1, .lst (x.2.map rf))
def gL (xs : List (Addr × List (Addr × List Int))) : List (Addr × HO) := xs.map gcell
abbrev gf (x : Addr × List (Addr × List Int)) : V := .ref x.1
abbrev RA := (Addr × Addr) × (Int × List Int)
def rL : List RA → List (Addr × HO)
  | [] => []
  | x :: xs => (x.1.1, .tup [.int x.2.1, .ref x.1.2]) :: (x.1.2, .lst (x.2.2.map V.int)) :: rL xs
abbrev tf (x : RA) : V := .ref x.1.1
theorem rL_app : ∀ xs ys : List RA, rL (xs ++ ys) = rL xs ++ rL ys
  | [], _ => rfl
  | x :: xs, ys => by
    show _ :: _ :: rL (xs ++ ys) = _ :: _ :: (rL xs ++ rL ys)
    rw [rL_app xs ys]
theorem rL_tup : ∀ {xs : List RA} {x : RA}, x ∈ xs → (x.1.1, HO.tup [.int x.2.1, .ref x.1.2]) ∈ rL xs ∧ (x.1.2, HO.lst (x.2.2.map V.int)) ∈ rL xs
  | y :: xs, x, h => by
    rcases List.mem_cons.mp h with h | h
    · subst h
      exact ⟨List.mem_cons_self, List.mem_cons_of_mem _ List.mem_cons_self⟩
    · have := rL_tup h
      exact ⟨List.mem_cons_of_mem _ (List.mem_cons_of_mem _ this.1), List.mem_cons_of_mem _ (List.mem_cons_of_mem _ this.2)⟩
theorem bL_rows : ∀ pb : List (Addr × List Int), bL pb = rowsL (pb.map Prod.fst) (pb.map Prod.snd)
  | [] => rfl
  | x :: pb => by
    show bcell x :: bL pb = _ :: rowsL _ _
    rw [bL_rows pb]
    rfl
theorem bL_mem {pb : List (Addr × List Int)} {x : Addr × List Int} (h : x ∈ pb) : (x.1, HO.lst (x.2.map V.int)) ∈ bL pb := List.mem_map_of_mem (f := bcell) h
theorem gL_mem {xs : List (Addr × List (Addr × List Int))} {x : Addr × List (Addr × List Int)} (h : x ∈ xs) : (x.1, HO.lst (x.2.map rf)) ∈ gL xs := List.mem_map_of_mem (f := gcell) h
/-- data of rows -/
theorem dp_rL {K : PySem.W.Frag} {H : Hp} : ∀ {xs : List RA}, (∀ y ∈ rL xs, H y.1 = some y.2) → DpAll K H (xs.map tf) (xs.map fun x => PyData.tuple [.int x.2.1, .list (x.2.2.map PyData.int)])
  | [], _ => .nil
  | x :: xs, h => .cons (.tup (SqT.of (h (x.1.1, _) List.mem_cons_self)) (.cons (.int _) (.cons (Dp.ints (SqL.of (h (x.1.2, _) (List.mem_cons_of_mem _ List.mem_cons_self)))) .nil)))
      (dp_rL fun y hy => h y (List.mem_cons_of_mem _ (List.mem_cons_of_mem _ hy)))
end RL
namespace RL
open PySem L2 StX
theorem s_join3 {t t2 t3 u : TS} {nx bk ct : St → Hp → Prop} {rt : VK} {σ : St} {H : Hp} (P : St → Hp → Prop) (hj : ∀ σ' H', P σ' H' → u ⟨nx, rt, bk, ct⟩ σ' H') (h : ∀ U : St → Hp → Prop, (∀ σ' H', P σ' H' → U σ' H') → tSeq t (tSeq t2 t3) ⟨U, rt, bk, ct⟩ σ H) : tSeq t (tSeq t2 (tSeq t3 u)) ⟨nx, rt, bk, ct⟩ σ H := h _ hj
theorem s_ifJ {c : TT} {t u : TS} {D : Ends} {σ : St} {H : Hp} (P : Bool → Hp → Prop) (h1 : ∀ H', P true H' → t D σ H') (h2 : ∀ H', P false H' → u D σ H') (h : ∀ U : Bool → Hp → Prop, (∀ b H', P b H' → U b H') → c σ H U) : tIfS c t u D σ H :=
  h _ fun b H' p => by
    cases b with
    | true => exact iteT (h1 H' p)
    | false => exact iteF (h2 H' p)
theorem s_eqDX {K : PySem.W.Frag} {x y : V} {d e : PyData} {H : Hp} {Q : VK} (hx : Dp K H x d) (hy : Dp K H y e) (sd : SeqAt.shaped d = true) (se : SeqAt.shaped e = true) (h : Q (.bl (PyData.eqv d e)) H) : rEqD K x y H Q := ⟨d, e, hx, hy, sd, se, h⟩
theorem Holds.pick {H : Hp} {A B : List (Addr × HO)} {x : Addr × HO} (h : Holds H (A ++ B)) (hx : x ∈ B) : Holds H (x :: A) := by
  have nd := h.nd
  rw [List.map_append, List.nodup_append] at nd
  refine ⟨?_, fun y hy => ?_⟩
  · rw [List.map_cons, List.nodup_cons]
    exact ⟨fun z => nd.2.2 x.1 z x.1 (List.mem_map_of_mem (f := Prod.fst) hx) rfl, nd.1⟩
  · rcases List.mem_cons.mp hy with hy | hy
    · rw [hy]
      exact h.at_ x (List.mem_append_right _ hx)
    · exact h.at_ y (List.mem_append_left _ hy)
end RL
namespace RL
open PySem L2 StX
theorem perm_in {α : Type} (w r : α) (A B C : List α) : (r :: (A ++ (B ++ (w :: C)))).Perm (w :: r :: (A ++ (B ++ C))) := by
  rw [← List.append_assoc, ← List.append_assoc]
  exact List.perm_middle (l₁ := r :: (A ++ B))
theorem Hs.pick3 {W : List Addr} {H0 H : Hp} {x y : Addr × HO} {A B C I : List (Addr × HO)} (h : Hs W H0 H (x :: (A ++ (B ++ C))) I) (hy : y ∈ C) : Holds H (y :: (A ++ B)) := by
  have h1 : Holds H ((x :: (A ++ B)) ++ C) := by
    have := h.part (List.Sublist.refl _)
    rw [← List.append_assoc] at this
    exact this
  exact (h1.pick hy).sub (.cons₂ _ (.cons _ (List.Sublist.refl _)))
end RL
namespace RL
open PySem L2 StX
def rInt1 : List V → Hp → VK → Prop := fun xs H Q => (∃ i, xs = [.int i] ∧ Q (.int i) H) ∨ ∃ k, xs = [.bl k] ∧ Q (.int (if k then 1 else 0)) H
theorem call_int1' {X : Cx} : CallR X (.type "int") rInt1 := call_int1
theorem s_int1T {H : Hp} {Q : VK} (h : Q (.int 1) H) : rInt1 [.bl true] H Q := .inr ⟨true, rfl, h⟩
theorem s_int1F {H : Hp} {Q : VK} (h : Q (.int 0) H) : rInt1 [.bl false] H Q := .inr ⟨false, rfl, h⟩
theorem s_rep1 {W : List Addr} {H0 H : Hp} {M I : List (Addr × HO)} {a : Addr} {x : V} {Q : VK} (hs : Hs W H0 H M I) (h1 : H a = some (.lst [x])) (h : ∀ p H', Hs W H0 H' ((p, .lst [x]) :: M) I → Upto [] H H' → H p = none → Q (.ref p) H') : rRep (.ref a) (.int 1) H Q :=
  s_rep hs h1 (by decide) (by rw [sizeLine_eq]; show 1 * 1 ≤ 16777216; decide) h
theorem s_rep0 {W : List Addr} {H0 H : Hp} {M I : List (Addr × HO)} {a : Addr} {x : V} {Q : VK} (hs : Hs W H0 H M I) (h1 : H a = some (.lst [x])) (h : ∀ p H', Hs W H0 H' ((p, .lst []) :: M) I → Upto [] H H' → H p = none → Q (.ref p) H') : rRep (.ref a) (.int 0) H Q :=
  s_rep hs h1 (by decide) (by rw [sizeLine_eq]; show 1 * 0 ≤ 16777216; decide) h
theorem perm_mid {α : Type} (A B T : List α) : (A ++ (B ++ T)).Perm (B ++ (A ++ T)) := by
  rw [← List.append_assoc, ← List.append_assoc]
  exact List.Perm.append_right _ List.perm_append_comm
end RL
namespace RL
open PySem L2 StX
def top (i : Nat) : Stmt := PySem.Challenge.pw_ringlog_k02_disks.main.body.getD i (.Pass ⟨0, 0, 0, 0⟩)
abbrev st_is_whole : Stmt := top 8
abbrev st_is_block : Stmt := top 16
abbrev st_Disk___init__ : Stmt := inClass (top 17) 0
abbrev st_Disk_blocks : Stmt := inClass (top 17) 1
abbrev st_Disk_read : Stmt := inClass (top 17) 2
abbrev st_Disk_write : Stmt := inClass (top 17) 3
abbrev st_Disk_reads : Stmt := inClass (top 17) 4
abbrev st_Disk_writes : Stmt := inClass (top 17) 5
abbrev st_Disk_stop_after : Stmt := inClass (top 17) 6
abbrev st_Disk_go_on : Stmt := inClass (top 17) 7
abbrev st_Disk_twin : Stmt := inClass (top 17) 8
abbrev st_Disk__need_place : Stmt := inClass (top 17) 9
abbrev st_Disk__write_part : Stmt := inClass (top 17) 10
abbrev st_law_taken : Stmt := top 19
abbrev st_law_fresh : Stmt := top 20
abbrev st_law_stop : Stmt := top 21
abbrev st_law_on : Stmt := top 22
abbrev st_law_alike : Stmt := top 23
abbrev st_law_lies : Stmt := top 24
abbrev st_law_words : Stmt := top 25
abbrev st_law_good : Stmt := top 26
abbrev st_law_place : Stmt := top 27
abbrev st_law_wrote : Stmt := top 28
abbrev st_law_to_write : Stmt := top 29
abbrev st_law_read : Stmt := top 30
abbrev st_law_bad_stop : Stmt := top 31
abbrev st_law_bad_disk : Stmt := top 32
abbrev st_law : Stmt := top 33
structure Ad where
  none_ : Unit
  LogError : Addr
  BadDisk : Addr
  NoBlock : Addr
  BadBlock : Addr
  BadStop : Addr
  Stopped : Addr
  Disk : Addr
structure Txt (K : PySem.W.Frag) (mg : Str → Option Value) (Z : Ad) : Prop where
  ok_ : True
  m_all : mg "all" = none
  m_bool : mg "bool" = none
  m_int : mg "int" = none
  m_isinstance : mg "isinstance" = none
  m_len : mg "len" = none
  m_list : mg "list" = none
  m_max : mg "max" = none
  m_min : mg "min" = none
  m_range : mg "range" = none
  m_str : mg "str" = none
  m_tuple : mg "tuple" = none
  cl_Disk : Cls K Z.Disk
  g_Disk : mg "Disk" = some (.ref Z.Disk)
  na_Disk__blocks : NoAttr K Z.Disk "_blocks"
  na_Disk__let : NoAttr K Z.Disk "_let"
  na_Disk__part : NoAttr K Z.Disk "_part"
  na_Disk__reads : NoAttr K Z.Disk "_reads"
  na_Disk__writes : NoAttr K Z.Disk "_writes"
  g_BadBlock : mg "BadBlock" = some (.ref Z.BadBlock)
  x_BadBlock : PySem.W.excIn K Z.BadBlock [.type "ValueError", .type "Exception", .type "BaseException", .type "object"] "ValueError.__new__" = true
  kp_BadBlock : PySem.W.keepIn K (.ref Z.BadBlock) = true
  sb_BadBlock : PySem.W.subIn K (.ref Z.BadBlock) (.type "BaseException") = some true
  ty_BadBlock : PySem.W.typeIn K (.ref Z.BadBlock) = some (.type "type")
  g_BadDisk : mg "BadDisk" = some (.ref Z.BadDisk)
  x_BadDisk : PySem.W.excIn K Z.BadDisk [.type "ValueError", .type "Exception", .type "BaseException", .type "object"] "ValueError.__new__" = true
  kp_BadDisk : PySem.W.keepIn K (.ref Z.BadDisk) = true
  sb_BadDisk : PySem.W.subIn K (.ref Z.BadDisk) (.type "BaseException") = some true
  ty_BadDisk : PySem.W.typeIn K (.ref Z.BadDisk) = some (.type "type")
  g_BadStop : mg "BadStop" = some (.ref Z.BadStop)
  x_BadStop : PySem.W.excIn K Z.BadStop [.type "ValueError", .type "Exception", .type "BaseException", .type "object"] "ValueError.__new__" = true
  kp_BadStop : PySem.W.keepIn K (.ref Z.BadStop) = true
  sb_BadStop : PySem.W.subIn K (.ref Z.BadStop) (.type "BaseException") = some true
  ty_BadStop : PySem.W.typeIn K (.ref Z.BadStop) = some (.type "type")
  g_NoBlock : mg "NoBlock" = some (.ref Z.NoBlock)
  x_NoBlock : PySem.W.excIn K Z.NoBlock [.type "ValueError", .type "Exception", .type "BaseException", .type "object"] "ValueError.__new__" = true
  kp_NoBlock : PySem.W.keepIn K (.ref Z.NoBlock) = true
  sb_NoBlock : PySem.W.subIn K (.ref Z.NoBlock) (.type "BaseException") = some true
  ty_NoBlock : PySem.W.typeIn K (.ref Z.NoBlock) = some (.type "type")
  g_Stopped : mg "Stopped" = some (.ref Z.Stopped)
  x_Stopped : PySem.W.excIn K Z.Stopped [.type "ValueError", .type "Exception", .type "BaseException", .type "object"] "ValueError.__new__" = true
  kp_Stopped : PySem.W.keepIn K (.ref Z.Stopped) = true
  sb_Stopped : PySem.W.subIn K (.ref Z.Stopped) (.type "BaseException") = some true
  ty_Stopped : PySem.W.typeIn K (.ref Z.Stopped) = some (.type "type")
  e_BadBlock_BadBlock : PySem.W.exmOne K (.ref Z.BadBlock) (.ref Z.BadBlock) = some true
  e_BadBlock_BadDisk : PySem.W.exmOne K (.ref Z.BadBlock) (.ref Z.BadDisk) = some false
  e_BadBlock_BadStop : PySem.W.exmOne K (.ref Z.BadBlock) (.ref Z.BadStop) = some false
  e_BadBlock_NoBlock : PySem.W.exmOne K (.ref Z.BadBlock) (.ref Z.NoBlock) = some false
  e_BadBlock_Stopped : PySem.W.exmOne K (.ref Z.BadBlock) (.ref Z.Stopped) = some false
  e_BadDisk_BadBlock : PySem.W.exmOne K (.ref Z.BadDisk) (.ref Z.BadBlock) = some false
  e_BadDisk_BadDisk : PySem.W.exmOne K (.ref Z.BadDisk) (.ref Z.BadDisk) = some true
  e_BadDisk_BadStop : PySem.W.exmOne K (.ref Z.BadDisk) (.ref Z.BadStop) = some false
  e_BadDisk_NoBlock : PySem.W.exmOne K (.ref Z.BadDisk) (.ref Z.NoBlock) = some false
  e_BadDisk_Stopped : PySem.W.exmOne K (.ref Z.BadDisk) (.ref Z.Stopped) = some false
  e_BadStop_BadBlock : PySem.W.exmOne K (.ref Z.BadStop) (.ref Z.BadBlock) = some false
  e_BadStop_BadDisk : PySem.W.exmOne K (.ref Z.BadStop) (.ref Z.BadDisk) = some false
  e_BadStop_BadStop : PySem.W.exmOne K (.ref Z.BadStop) (.ref Z.BadStop) = some true
  e_BadStop_NoBlock : PySem.W.exmOne K (.ref Z.BadStop) (.ref Z.NoBlock) = some false
  e_BadStop_Stopped : PySem.W.exmOne K (.ref Z.BadStop) (.ref Z.Stopped) = some false
  e_NoBlock_BadBlock : PySem.W.exmOne K (.ref Z.NoBlock) (.ref Z.BadBlock) = some false
  e_NoBlock_BadDisk : PySem.W.exmOne K (.ref Z.NoBlock) (.ref Z.BadDisk) = some false
  e_NoBlock_BadStop : PySem.W.exmOne K (.ref Z.NoBlock) (.ref Z.BadStop) = some false
  e_NoBlock_NoBlock : PySem.W.exmOne K (.ref Z.NoBlock) (.ref Z.NoBlock) = some true
  e_NoBlock_Stopped : PySem.W.exmOne K (.ref Z.NoBlock) (.ref Z.Stopped) = some false
  e_Stopped_BadBlock : PySem.W.exmOne K (.ref Z.Stopped) (.ref Z.BadBlock) = some false
  e_Stopped_BadDisk : PySem.W.exmOne K (.ref Z.Stopped) (.ref Z.BadDisk) = some false
  e_Stopped_BadStop : PySem.W.exmOne K (.ref Z.Stopped) (.ref Z.BadStop) = some false
  e_Stopped_NoBlock : PySem.W.exmOne K (.ref Z.Stopped) (.ref Z.NoBlock) = some false
  e_Stopped_Stopped : PySem.W.exmOne K (.ref Z.Stopped) (.ref Z.Stopped) = some true
  c_LEAST_BLOCKS : ∃ t, mg "LEAST_BLOCKS" = some (.int 4 t)
  c_MOST_BLOCKS : ∃ t, mg "MOST_BLOCKS" = some (.int 64 t)
  c_BLOCK_WORDS : ∃ t, mg "BLOCK_WORDS" = some (.int 8 t)
  c_MOST_WORD : ∃ t, mg "MOST_WORD" = some (.int 1000000000000000 t)
  c_MOST_COUNT : ∃ t, mg "MOST_COUNT" = some (.int 1000000000000000 t)
  c_MOST_PART : ∃ t, mg "MOST_PART" = some (.int 7 t)
section
variable {P : Program} {w : World} {K : PySem.W.Frag} {mg : Str → Option Value} {base : Heap} {Z : Ad}
/-- a value that is no object -/
def FlatV : V → Prop
  | .int _ => True
  | .bl _ => True
  | .str x => (PyData.str x).canLay0 = true
  | .non => True
  | _ => False
def wholeB (v : V) (lo hi : Int) : Bool := match v with
  | .int i => decide (lo ≤ i) && decide (i ≤ hi)
  | _ => false
theorem wholeB_int {v : V} {lo hi : Int} (h : wholeB v lo hi = true) : ∃ i, v = .int i ∧ lo ≤ i ∧ i ≤ hi := by
  cases v with
  | int i =>
    simp only [wholeB, Bool.and_eq_true, decide_eq_true_eq] at h
    exact ⟨i, rfl, h.1, h.2⟩
  | _ => simp [wholeB] at h
def sp_is_whole (K : PySem.W.Frag) (_ : Ad) : Sp := fun vs H Q _ => ∃ (v : V) (lo hi : Int), vs = [v, .int lo, .int hi] ∧ FlatV v ∧ Q (.bl (wholeB v lo hi)) H
theorem sc_is_whole : FnScope ["value", "low", "high"] ["value", "low", "high"] (defScope st_is_whole) := ⟨rfl, rfl, rfl, by decide +kernel, rfl, by decide +kernel, by decide +kernel⟩
theorem s_is_whole {H : Hp} {v : V} {lo hi : Int} {Q : VK} {E : XK} (hv : FlatV v) (h : Q (.bl (wholeB v lo hi)) H) : sp_is_whole K Z [v, .int lo, .int hi] H Q E := ⟨v, lo, hi, rfl, hv, h⟩
def blockB (items : List V) : Bool := decide (items.length = 8) && items.all fun v => wholeB v 0 1000000000000000
theorem blockB_ints {items : List V} (h : blockB items = true) : ∃ w : List Int, items = w.map V.int ∧ w.length = 8 := by
  simp only [blockB, Bool.and_eq_true, decide_eq_true_eq, List.all_eq_true] at h
  obtain ⟨h1, h2⟩ := h
  have : ∀ l : List V, (∀ x ∈ l, wholeB x 0 1000000000000000 = true) → ∃ w : List Int, l = w.map V.int := by
    intro l
    induction l with
    | nil => exact fun _ => ⟨[], rfl⟩
    | cons x l ih =>
      intro hx
      obtain ⟨w, rfl⟩ := ih fun y hy => hx y (List.mem_cons_of_mem _ hy)
      obtain ⟨i, rfl, _⟩ := wholeB_int (hx x List.mem_cons_self)
      exact ⟨i :: w, rfl⟩
  obtain ⟨w, rfl⟩ := this items h2
  exact ⟨w, rfl, by rw [← h1, List.length_map]⟩
def sp_is_block (K : PySem.W.Frag) (_ : Ad) : Sp := fun vs H Q _ => ∃ (a : Addr) (b : Bool) (items : List V), vs = [.ref a] ∧ H a = some (if b then .lst items else .tup items) ∧ (∀ x ∈ items, FlatV x) ∧ items.length ≤ 1000 ∧
  ∀ H', Upto [] H H' → Q (.bl (b && blockB items)) H'
theorem sc_is_block : FnScope ["words", "word"] ["words"] (defScope st_is_block) := ⟨rfl, rfl, rfl, by decide +kernel, rfl, by decide +kernel, by decide +kernel⟩
theorem s_is_block {W : List Addr} {H0 H : Hp} {M I : List (Addr × HO)} {a : Addr} {b : Bool} {items : List V} {Q : VK} {E : XK} (hs : Hs W H0 H M I) (h1 : H a = some (if b then .lst items else .tup items)) (hf : ∀ x ∈ items, FlatV x) (hz : items.length ≤ 1000)
    (h : ∀ H', Hs W H0 H' M I → Upto [] H H' → Q (.bl (b && blockB items)) H') : sp_is_block K Z [.ref a] H Q E := ⟨a, b, items, rfl, h1, hf, hz, fun H' u => h H' (hs.call0 u) u⟩
structure DS where
  dx : Addr
  bl : Addr
  bs : List Addr
  ws : List (List Int)
  r : Int
  w : Int
  lt : Option Int
  p : Int
def ltV : Option Int → V
  | none => .non
  | some i => .int i
def dF (s : DS) : List (Str × V) := [("_blocks", .ref s.bl), ("_reads", .int s.r), ("_writes", .int s.w), ("_let", ltV s.lt), ("_part", .int s.p)]
def diskL (Z : Ad) (d : Addr) (s : DS) : List (Addr × HO) := (d, .ins Z.Disk s.dx (dF s)) :: (s.dx, .own d) :: (s.bl, .lst (s.bs.map V.ref)) :: rowsL s.bs s.ws
structure DS.Ok (s : DS) : Prop where
  len : s.bs.length = s.ws.length
  lo : 4 ≤ s.ws.length
  hi : s.ws.length ≤ 64
  each : ∀ w ∈ s.ws, w.length = 8
/-- the words behind a stopped write -/
def mixW (p : Int) (new old : List Int) : List Int := new.take p.toNat ++ old.drop p.toNat
theorem mixW_len {p : Int} {new old : List Int} (h : new.length = 8) (h' : old.length = 8) (hp : 0 ≤ p) (hp' : p ≤ 7) : (mixW p new old).length = 8 := by
  unfold mixW
  rw [List.length_append, List.length_take, List.length_drop]
  omega
theorem mixV {p : Int} {new old : List Int} (h : new.length = 8) (h' : old.length = 8) (hp : 0 ≤ p) (hp' : p ≤ 7) : cutV (new.map V.int) none (some p) ++ cutV (old.map V.int) (some p) none = (mixW p new old).map V.int := by
  rw [cutV_ints, cutV_ints, cutI_upto hp (by omega), cutI_from hp (by omega), ← List.map_append]
  rfl
def sp_Disk___init__ (K : PySem.W.Frag) (Z : Ad) : Sp := fun vs H Q E => ∃ (x dx : Addr) (v : V), vs = [.ref x, v] ∧ Holds H [(x, .ins Z.Disk dx []), (dx, .own x)] ∧ FlatV v ∧
  (wholeB v 4 64 = false → ∀ H', Upto [] H H' → E (.ref Z.BadDisk) none H') ∧
  (∀ n : Int, v = .int n → 4 ≤ n → n ≤ 64 → ∀ (bl : Addr) (bs : List Addr) (H' : Hp), bs.length = n.toNat →
    Frm [(x, .ins Z.Disk dx []), (dx, .own x)] (diskL Z x ⟨dx, bl, bs, List.replicate n.toNat (List.replicate 8 0), 0, 0, none, 0⟩) H H' → Q .non H')
theorem sc_Disk___init__ : FnScope ["self", "many", "_"] ["self", "many"] (defScope st_Disk___init__) := ⟨rfl, rfl, rfl, by decide +kernel, rfl, by decide +kernel, by decide +kernel⟩
def sp_Disk_blocks (K : PySem.W.Frag) (Z : Ad) : Sp := fun vs H Q _ => ∃ (d : Addr) (s : DS), vs = [.ref d] ∧ Holds H (diskL Z d s) ∧ s.Ok ∧ Q (.int s.ws.length) H
theorem sc_Disk_blocks : FnScope ["self"] ["self"] (defScope st_Disk_blocks) := ⟨rfl, rfl, rfl, by decide +kernel, rfl, by decide +kernel, by decide +kernel⟩
def sp_Disk__need_place (K : PySem.W.Frag) (Z : Ad) : Sp := fun vs H Q E => ∃ (d : Addr) (s : DS) (v : V), vs = [.ref d, v] ∧ Holds H (diskL Z d s) ∧ s.Ok ∧ FlatV v ∧ (wholeB v 0 (s.ws.length - 1) = false → E (.ref Z.NoBlock) none H) ∧ (wholeB v 0 (s.ws.length - 1) = true → Q .non H)
theorem sc_Disk__need_place : FnScope ["self", "place"] ["self", "place"] (defScope st_Disk__need_place) := ⟨rfl, rfl, rfl, by decide +kernel, rfl, by decide +kernel, by decide +kernel⟩
def sp_Disk_read (K : PySem.W.Frag) (Z : Ad) : Sp := fun vs H Q E => ∃ (d : Addr) (s : DS) (v : V), vs = [.ref d, v] ∧ Holds H (diskL Z d s) ∧ s.Ok ∧ FlatV v ∧ (wholeB v 0 (s.ws.length - 1) = false → E (.ref Z.NoBlock) none H) ∧
  (∀ i : Nat, v = .int i → i < s.ws.length → ∀ (q : Addr) (H' : Hp), Frm (diskL Z d s) ((q, .lst ((s.ws.getD i []).map V.int)) :: diskL Z d { s with r := s.r + 1 }) H H' → Q (.ref q) H')
theorem sc_Disk_read : FnScope ["self", "place"] ["self", "place"] (defScope st_Disk_read) := ⟨rfl, rfl, rfl, by decide +kernel, rfl, by decide +kernel, by decide +kernel⟩
def sp_Disk__write_part (K : PySem.W.Frag) (Z : Ad) : Sp := fun vs H Q _ => ∃ (d wa : Addr) (s : DS) (i : Nat) (w : List Int), vs = [.ref d, .int i, .ref wa] ∧ Holds H ((wa, .lst (w.map V.int)) :: diskL Z d s) ∧ s.Ok ∧ i < s.ws.length ∧ w.length = 8 ∧ 0 ≤ s.p ∧ s.p ≤ 7 ∧
  (∀ (bs : List Addr) (H' : Hp), bs.length = s.bs.length → Frm (diskL Z d s) (diskL Z d { s with bs := bs, ws := s.ws.set i (mixW s.p w (s.ws.getD i [])), p := 0 }) H H' → Q .non H')
theorem sc_Disk__write_part : FnScope ["self", "place", "words"] ["self", "place", "words"] (defScope st_Disk__write_part) := ⟨rfl, rfl, rfl, by decide +kernel, rfl, by decide +kernel, by decide +kernel⟩
def sp_Disk_write (K : PySem.W.Frag) (Z : Ad) : Sp := fun vs H Q E => ∃ (d wa : Addr) (s : DS) (v : V) (l : Bool) (items : List V), vs = [.ref d, v, .ref wa] ∧ Holds H ((wa, if l then .lst items else .tup items) :: diskL Z d s) ∧ s.Ok ∧ FlatV v ∧ (∀ x ∈ items, FlatV x) ∧ items.length ≤ 1000 ∧ 0 ≤ s.p ∧ s.p ≤ 7 ∧
  (wholeB v 0 (s.ws.length - 1) = false → E (.ref Z.NoBlock) none H) ∧
  (wholeB v 0 (s.ws.length - 1) = true → (l && blockB items) = false → ∀ H', Upto [] H H' → E (.ref Z.BadBlock) none H') ∧
  (∀ (i : Nat) (w : List Int), v = .int i → i < s.ws.length → l = true → items = w.map V.int → w.length = 8 → blockB items = true →
    (s.lt = some 0 → ∀ (bs : List Addr) (H' : Hp), bs.length = s.bs.length → Frm (diskL Z d s) (diskL Z d { s with bs := bs, ws := s.ws.set i (mixW s.p w (s.ws.getD i [])), p := 0 }) H H' → E (.ref Z.Stopped) none H') ∧
    (s.lt ≠ some 0 → ∀ (bs : List Addr) (H' : Hp), bs.length = s.bs.length → Frm (diskL Z d s) (diskL Z d { s with bs := bs, ws := s.ws.set i w, w := s.w + 1, lt := s.lt.map (· - 1) }) H H' → Q .non H'))
theorem sc_Disk_write : FnScope ["self", "place", "words"] ["self", "place", "words"] (defScope st_Disk_write) := ⟨rfl, rfl, rfl, by decide +kernel, rfl, by decide +kernel, by decide +kernel⟩
def sp_Disk_reads (K : PySem.W.Frag) (Z : Ad) : Sp := fun vs H Q _ => ∃ (d : Addr) (s : DS), vs = [.ref d] ∧ Holds H (diskL Z d s) ∧ Q (.int s.r) H
theorem sc_Disk_reads : FnScope ["self"] ["self"] (defScope st_Disk_reads) := ⟨rfl, rfl, rfl, by decide +kernel, rfl, by decide +kernel, by decide +kernel⟩
def sp_Disk_writes (K : PySem.W.Frag) (Z : Ad) : Sp := fun vs H Q _ => ∃ (d : Addr) (s : DS), vs = [.ref d] ∧ Holds H (diskL Z d s) ∧ Q (.int s.w) H
theorem sc_Disk_writes : FnScope ["self"] ["self"] (defScope st_Disk_writes) := ⟨rfl, rfl, rfl, by decide +kernel, rfl, by decide +kernel, by decide +kernel⟩
def sp_Disk_stop_after (K : PySem.W.Frag) (Z : Ad) : Sp := fun vs H Q E => ∃ (d : Addr) (s : DS) (u v : V), vs = [.ref d, u, v] ∧ Holds H (diskL Z d s) ∧ FlatV u ∧ FlatV v ∧
  ((wholeB u 0 1000000000000000 && wholeB v 0 7) = false → E (.ref Z.BadStop) none H) ∧
  (∀ i j : Int, u = .int i → v = .int j → (wholeB u 0 1000000000000000 && wholeB v 0 7) = true → ∀ H', Frm (diskL Z d s) (diskL Z d { s with lt := some i, p := j }) H H' → Q .non H')
theorem sc_Disk_stop_after : FnScope ["self", "count", "part"] ["self", "count", "part"] (defScope st_Disk_stop_after) := ⟨rfl, rfl, rfl, by decide +kernel, rfl, by decide +kernel, by decide +kernel⟩
def sp_Disk_go_on (K : PySem.W.Frag) (Z : Ad) : Sp := fun vs H Q _ => ∃ (d : Addr) (s : DS), vs = [.ref d] ∧ Holds H (diskL Z d s) ∧ ∀ H', Frm (diskL Z d s) (diskL Z d { s with lt := none }) H H' → Q .non H'
theorem sc_Disk_go_on : FnScope ["self"] ["self"] (defScope st_Disk_go_on) := ⟨rfl, rfl, rfl, by decide +kernel, rfl, by decide +kernel, by decide +kernel⟩
def sp_Disk_twin (K : PySem.W.Frag) (Z : Ad) : Sp := fun vs H Q _ => ∃ (d : Addr) (s : DS), vs = [.ref d] ∧ Holds H (diskL Z d s) ∧ s.Ok ∧
  (∀ (x dx bl : Addr) (bs : List Addr) (H' : Hp), bs.length = s.ws.length → Frm [] (diskL Z x ⟨dx, bl, bs, s.ws, 0, 0, none, 0⟩) H H' → Q (.ref x) H')
theorem sc_Disk_twin : FnScope ["self", "other", "words"] ["self"] (defScope st_Disk_twin) := ⟨rfl, rfl, rfl, by decide +kernel, rfl, by decide +kernel, by decide +kernel⟩
def RowO (sc : Addr) (o : HO) : Prop := ∃ i m : Int, 0 ≤ i ∧ o = .lst [.ref sc, .int i, .int m]
/-- the next cell's rest: some number below n -/
def sp_law_taken (K : PySem.W.Frag) (_ : Ad) : Sp := fun vs H Q _ => ∃ (r sc : Addr) (o : HO) (ns : List Int) (S : List (Addr × HO)) (n : Int), vs = [.ref r, .int n] ∧ Holds H ((r, o) :: S) ∧ RowO sc o ∧ ScrL K sc ns S ∧ 0 < n ∧
  ∀ (v : Int) (o' : HO) (H' : Hp), 0 ≤ v → v < n → Upto [r] H H' → H' r = some o' → RowO sc o' → Q (.int v) H'
theorem sc_law_taken : FnScope ["_law_row", "_law_many", "_law_cell"] ["_law_row", "_law_many"] (defScope st_law_taken) := ⟨rfl, rfl, rfl, by decide +kernel, rfl, by decide +kernel, by decide +kernel⟩
theorem s_taken {W : List Addr} {H0 H : Hp} {M S : List (Addr × HO)} {r sc : Addr} {o : HO} {ns : List Int} {n : Int} {Q : VK} {E : XK} (hs : Hs W H0 H M S) (m : (r, o) ∈ M) (ro : RowO sc o) (sl : ScrL K sc ns S) (hn : 0 < n)
    (h : ∀ (v : Int) (o' : HO) (H' : Hp), 0 ≤ v → v < n → RowO sc o' → (∀ M', Rep M r o' M' → Hs W H0 H' M' S) → Upto [r] H H' → Q (.int v) H') : sp_law_taken K Z [.ref r, .int n] H Q E :=
  ⟨r, sc, o, ns, S, n, rfl, hs.row m, ro, sl, hn, fun v o' H' h1 h2 u e ro' => h v o' H' h1 h2 ro' (fun _ rp => hs.call1 u e rp) u⟩
/-- what the law keeps of a disk: the dict's pairs (s.dx is of no use) -/
def mK0 (s : DS) (many : Int) (ra ca : Addr) : List (Key × V) := [(Sum.inr "many", V.int many), (Sum.inr "disk", V.ref s.bl), (Sum.inr "number", V.int (many - 1)), (Sum.inr "floor", V.int (many - 1)), (Sum.inr "rows", V.ref ra), (Sum.inr "cut", V.ref ca), (Sum.inr "torn", V.non), (Sum.inr "left", ltV s.lt), (Sum.inr "part", V.int s.p), (Sum.inr "writes", V.int s.w), (Sum.inr "gone", V.bl false)]
def mK (s : DS) (many : Int) (ra ca : Addr) : List (Key × V) := mK0 s many ra ca ++ ([((Sum.inr "reads" : Key), V.int s.r)] : List (Key × V))
section
variable {s : DS} {n c : Int} {ra ca : Addr}
theorem mK_many : valV (mK s n ra ca) (Sum.inr "many" : Key) = some (.int n) := by kernel_rfl
theorem mK_disk : valV (mK s n ra ca) (Sum.inr "disk" : Key) = some (.ref s.bl) := by kernel_rfl
theorem mK_left : valV (mK s n ra ca) (Sum.inr "left" : Key) = some (ltV s.lt) := by kernel_rfl
theorem mK_part : valV (mK s n ra ca) (Sum.inr "part" : Key) = some (.int s.p) := by kernel_rfl
theorem mK_writes : valV (mK s n ra ca) (Sum.inr "writes" : Key) = some (.int s.w) := by kernel_rfl
theorem mK_reads : valV (mK s n ra ca) (Sum.inr "reads" : Key) = some (.int s.r) := by kernel_rfl
theorem mK_pleft : putK (mK s n ra ca) (Sum.inr "left" : Key) (.int c) = mK { s with lt := some c } n ra ca := by kernel_rfl
theorem mK_pleftN : putK (mK s n ra ca) (Sum.inr "left" : Key) .non = mK { s with lt := none } n ra ca := by kernel_rfl
theorem mK_ppart : putK (mK s n ra ca) (Sum.inr "part" : Key) (.int c) = mK { s with p := c } n ra ca := by kernel_rfl
theorem mK_pwrites : putK (mK s n ra ca) (Sum.inr "writes" : Key) (.int c) = mK { s with w := c } n ra ca := by kernel_rfl
theorem mK_preads : putK (mK s n ra ca) (Sum.inr "reads" : Key) (.int c) = mK { s with r := c } n ra ca := by kernel_rfl
theorem mK0_preads : putK (mK0 s n ra ca) (Sum.inr "reads" : Key) (.int c) = mK { s with r := c } n ra ca := by kernel_rfl
theorem mK_len : (mK s n ra ca).length < sizeLine := ltK (by kernel_rfl)
theorem mK0_len : (mK0 s n ra ca).length < sizeLine := ltK (by kernel_rfl)
end
/-- what the law keeps, as it stands in the heap -/
def mL (md : Addr) (s : DS) (n : Int) (ra ca : Addr) : List (Addr × HO) := (md, .dK (mK s n ra ca)) :: (s.bl, .lst (s.bs.map V.ref)) :: rowsL s.bs s.ws
def sp_law_fresh (K : PySem.W.Frag) (_ : Ad) : Sp := fun vs H Q _ => ∃ n : Nat, vs = [.int n] ∧ 4 ≤ n ∧ n ≤ 64 ∧
  ∀ (md dl ra ca : Addr) (bs : List Addr) (H' : Hp), bs.length = n → Frm [] ((md, .dK (mK0 ⟨0, dl, bs, List.replicate n (List.replicate 8 0), 0, 0, none, 0⟩ n ra ca)) :: (dl, .lst (bs.map V.ref)) :: rowsL bs (List.replicate n (List.replicate 8 0))) H H' → Q (.ref md) H'
theorem sc_law_fresh : FnScope ["_law_many", "_law_found", "_law_place_here"] ["_law_many"] (defScope st_law_fresh) := ⟨rfl, rfl, rfl, by decide +kernel, rfl, by decide +kernel, by decide +kernel⟩
/-- the disk and what is kept of it agree -/
structure Agree (s m : DS) : Prop where
  ok : s.Ok
  okm : m.Ok
  ws : s.ws = m.ws
  r : s.r = m.r
  w : s.w = m.w
  lt : s.lt = m.lt
  p : s.lt ≠ none → s.p = m.p
  p0 : 0 ≤ s.p
  p7 : s.p ≤ 7
  q0 : 0 ≤ m.p
  q7 : m.p ≤ 7
abbrev both (Z : Ad) (d md : Addr) (s m : DS) (n : Int) (ra ca : Addr) : List (Addr × HO) := diskL Z d s ++ mL md m n ra ca
def sp_law_stop (K : PySem.W.Frag) (Z : Ad) : Sp := fun vs H Q _ => ∃ (d md ra ca : Addr) (s m : DS) (n c p : Int), vs = [.ref d, .ref md, .int c, .int p] ∧ Holds H (both Z d md s m n ra ca) ∧ Agree s m ∧ 0 ≤ c ∧ c ≤ 1000000000000000 ∧ 0 ≤ p ∧ p ≤ 7 ∧
  ∀ (H' : Hp), Agree { s with lt := some c, p := p } { m with lt := some c, p := p } → Frm (both Z d md s m n ra ca) (both Z d md { s with lt := some c, p := p } { m with lt := some c, p := p } n ra ca) H H' → Q (.bl true) H'
theorem sc_law_stop : FnScope ["_law_disk", "_law_m", "_law_count", "_law_part", "_law_is_right"] ["_law_disk", "_law_m", "_law_count", "_law_part"] (defScope st_law_stop) := ⟨rfl, rfl, rfl, by decide +kernel, rfl, by decide +kernel, by decide +kernel⟩
def sp_law_on (K : PySem.W.Frag) (Z : Ad) : Sp := fun vs H Q _ => ∃ (d md ra ca : Addr) (s m : DS) (n : Int), vs = [.ref d, .ref md] ∧ Holds H (both Z d md s m n ra ca) ∧ Agree s m ∧
  ∀ (H' : Hp), Agree { s with lt := none } { m with lt := none, p := 0 } → Frm (both Z d md s m n ra ca) (both Z d md { s with lt := none } { m with lt := none, p := 0 } n ra ca) H H' → Q (.bl true) H'
theorem sc_law_on : FnScope ["_law_disk", "_law_m", "_law_is_right"] ["_law_disk", "_law_m"] (defScope st_law_on) := ⟨rfl, rfl, rfl, by decide +kernel, rfl, by decide +kernel, by decide +kernel⟩
/-- of equal data: True, and nothing is changed -/
def sp_law_alike (K : PySem.W.Frag) (_ : Ad) (n : Nat) : Sp := fun vs H Q _ => ∃ (x y : V) (d : PyData), vs = [x, y] ∧ Dp K H x d ∧ Dp K H y d ∧ Sh n d ∧ ∀ H', Upto [] H H' → Q (.bl true) H'
theorem no_law_alike {K : PySem.W.Frag} {Z : Ad} : ∀ vs H Q E, ¬ sp_law_alike K Z 0 vs H Q E := fun vs H Q E h => by
  obtain ⟨_, _, _, _, _, _, s, _⟩ := h
  cases s
theorem sc_law_alike : FnScope ["_law_found", "_law_due", "_law_k"] ["_law_found", "_law_due"] (defScope st_law_alike) := ⟨rfl, rfl, rfl, by decide +kernel, rfl, by decide +kernel, by decide +kernel⟩
/-- two lists of the same ints -/
theorem s_alikeL {W : List Addr} {H0 H : Hp} {M I : List (Addr × HO)} {a b : Addr} {ns : List Int} {Q : VK} {E : XK} (hs : Hs W H0 H M I) (h1 : H a = some (.lst (ns.map V.int))) (h2 : H b = some (.lst (ns.map V.int))) (hz : ns.length ≤ 100000)
    (h : ∀ H', Hs W H0 H' M I → Upto [] H H' → Q (.bl true) H') : sp_law_alike K Z 6 [.ref a, .ref b] H Q E :=
  ⟨_, _, _, rfl, Dp.ints (SqL.of h1), Dp.ints (SqL.of h2), Sh.ints hz, fun H' u => h H' (hs.call0 u) u⟩
theorem s_alikeI {W : List Addr} {H0 H : Hp} {M I : List (Addr × HO)} {i : Int} {Q : VK} {E : XK} (hs : Hs W H0 H M I)
    (h : ∀ H', Hs W H0 H' M I → Upto [] H H' → Q (.bl true) H') : sp_law_alike K Z 6 [.int i, .int i] H Q E :=
  ⟨_, _, _, rfl, .int i, .int i, .int i, fun H' u => h H' (hs.call0 u) u⟩
theorem s_alikeLL {W : List Addr} {H0 H : Hp} {M I : List (Addr × HO)} {a b : Addr} {qs ps : List Addr} {xss : List (List Int)} {Q : VK} {E : XK} (hs : Hs W H0 H M I) (m1 : ((a, HO.lst (qs.map V.ref)) :: rowsL qs xss).Sublist M) (m2 : ((b, HO.lst (ps.map V.ref)) :: rowsL ps xss).Sublist M)
    (l1 : qs.length = xss.length) (l2 : ps.length = xss.length) (hz : xss.length ≤ 100000) (hx : ∀ xs ∈ xss, xs.length ≤ 100000) (h : ∀ H', Hs W H0 H' M I → Upto [] H H' → Q (.bl true) H') : sp_law_alike K Z 6 [.ref a, .ref b] H Q E := by
  have r1 := hs.rows m1
  have r2 := hs.rows m2
  exact ⟨_, _, _, rfl, .lst (SqL.of (r1 _ List.mem_cons_self)) (dp_rows (fun x hx => r1 x (List.mem_cons_of_mem _ hx)) l1), .lst (SqL.of (r2 _ List.mem_cons_self)) (dp_rows (fun x hx => r2 x (List.mem_cons_of_mem _ hx)) l2), Sh.lists hz hx, fun H' u => h H' (hs.call0 u) u⟩
theorem Sh.blocks {ws : List (List Int)} (h : ws.length ≤ 64) (h8 : ∀ w ∈ ws, w.length = 8) : Sh 4 (.list (ws.map fun xs => PyData.list (xs.map PyData.int))) := Sh.lists (by omega) fun xs hx => by rw [h8 xs hx]; decide
theorem lay_lists (ws : List (List Int)) : (PyData.list (ws.map fun xs => PyData.list (xs.map PyData.int))).canLay0 = true := by
  rw [PyData.canLay0]
  refine layAll fun d hd => ?_
  obtain ⟨xs, _, rfl⟩ := List.mem_map.mp hd
  rw [PyData.canLay0, lay_ints]

def sp_law_lies (K : PySem.W.Frag) (Z : Ad) : Sp := fun vs H Q _ => ∃ (d md ra ca : Addr) (s m : DS) (N : Nat), vs = [.ref d, .ref md] ∧ s.ws.length = N ∧ Holds H (both Z d md s m N ra ca) ∧ s.Ok ∧ m.Ok ∧ s.ws = m.ws ∧
  ∀ (r : Int) (H' : Hp), Frm (both Z d md s m N ra ca) (both Z d md { s with r := r } m N ra ca) H H' → Q (.bl true) H'
theorem sc_law_lies : FnScope ["_law_disk", "_law_m", "_law_place_here"] ["_law_disk", "_law_m"] (defScope st_law_lies) := ⟨rfl, rfl, rfl, by decide +kernel, rfl, by decide +kernel, by decide +kernel⟩
def sp_law_words (K : PySem.W.Frag) (_ : Ad) : Sp := fun vs H Q _ => ∃ (r sc : Addr) (o : HO) (ns : List Int) (S : List (Addr × HO)), vs = [.ref r] ∧ Holds H ((r, o) :: S) ∧ RowO sc o ∧ ScrL K sc ns S ∧
  ∀ (o' : HO) (l : Bool) (items : List V) (p : Addr) (H' : Hp), items.length ≤ 1000 → (∀ x ∈ items, FlatV x) → RowO sc o' → Hs [r] H H' [(p, if l then .lst items else .tup items), (r, o')] S → Q (.ref p) H'
theorem sc_law_words : FnScope ["_law_row", "_law_found", "_law_k", "_law_way", "_law_word", "_law_odd"] ["_law_row"] (defScope st_law_words) := ⟨rfl, rfl, rfl, by decide +kernel, rfl, by decide +kernel, by decide +kernel⟩
theorem s_law_words {W : List Addr} {H0 H : Hp} {M S : List (Addr × HO)} {r sc : Addr} {o : HO} {ns : List Int} {Q : VK} {E : XK} (hs : Hs W H0 H M S) (m : (r, o) ∈ M) (ro : RowO sc o) (sl : ScrL K sc ns S)
    (h : ∀ (o' : HO) (l : Bool) (items : List V) (p : Addr) (H' : Hp), items.length ≤ 1000 → (∀ x ∈ items, FlatV x) → RowO sc o' → (∀ M', Rep M r o' M' → Hs W H0 H' ((p, if l then .lst items else .tup items) :: M') S) → Q (.ref p) H') : sp_law_words K Z [.ref r] H Q E :=
  ⟨r, sc, o, ns, S, rfl, hs.row m, ro, sl, fun o' l items p H' h1 h2 ro' hc => h o' l items p H' h1 h2 ro' fun _ rp => Hs.frame (N := [_]) hc hs rp⟩
def isI : V → Bool
  | .int _ => true
  | _ => false
theorem isI_ints : ∀ {l : List V}, (∀ x ∈ l, isI x = true) → ∃ ns : List Int, l = ns.map V.int
  | [], _ => ⟨[], rfl⟩
  | x :: l, h => by
    obtain ⟨ns, rfl⟩ := isI_ints (l := l) fun y hy => h y (List.mem_cons_of_mem _ hy)
    have h0 := h x List.mem_cons_self
    cases x with
    | int i => exact ⟨i :: ns, rfl⟩
    | _ => cases h0
def flatD : V → PyData
  | .int i => .int i
  | .bl b => .bool b
  | .str x => .str x
  | _ => .none
theorem Dp.flat {K : PySem.W.Frag} {H : Hp} {v : V} (h : FlatV v) : Dp K H v (flatD v) := by
  cases v with
  | int i => exact .int i
  | bl b => exact .bl b
  | str x => exact .str x
  | non => exact .non
  | byt b => exact h.elim
  | flt b => exact h.elim
  | ref b => exact h.elim
  | ty b => exact h.elim
theorem DpAll.flat {K : PySem.W.Frag} {H : Hp} : ∀ {l : List V}, (∀ x ∈ l, FlatV x) → DpAll K H l (l.map flatD)
  | [], _ => .nil
  | x :: l, h => .cons (Dp.flat (h x List.mem_cons_self)) (DpAll.flat fun y hy => h y (List.mem_cons_of_mem _ hy))
theorem flat_lay {v : V} (h : FlatV v) : (flatD v).canLay0 = true := by
  cases v with
  | int i => rfl
  | bl b => rfl
  | str x => exact h
  | _ => rfl
theorem flat_lays {l : List V} (h : ∀ x ∈ l, FlatV x) : (PyData.list (l.map flatD)).canLay0 = true := by
  rw [PyData.canLay0]
  refine layAll fun d hd => ?_
  obtain ⟨x, hx, rfl⟩ := List.mem_map.mp hd
  exact flat_lay (h x hx)
theorem flat_sh {n : Nat} {v : V} : Sh (n + 1) (flatD v) := by
  cases v with
  | int i => exact .int i
  | bl b => exact .bl b
  | str x => exact .str x
  | _ => exact .non
theorem flat_shs {n : Nat} {l : List V} (h : l.length ≤ 100000) : Sh (n + 2) (.list (l.map flatD)) := .lst (by rw [List.length_map]; exact h) fun d hd => by
  obtain ⟨x, _, rfl⟩ := List.mem_map.mp hd
  exact flat_sh
theorem flat_layt {l : List V} (h : ∀ x ∈ l, FlatV x) : (PyData.tuple (l.map flatD)).canLay0 = true := by
  rw [PyData.canLay0]
  refine layAll fun d hd => ?_
  obtain ⟨x, hx, rfl⟩ := List.mem_map.mp hd
  exact flat_lay (h x hx)
theorem flat_sht {n : Nat} {l : List V} (h : l.length ≤ 100000) : Sh (n + 2) (.tuple (l.map flatD)) := .tup (by rw [List.length_map]; exact h) fun d hd => by
  obtain ⟨x, _, rfl⟩ := List.mem_map.mp hd
  exact flat_sh
/-- two lists, two tuples of the same flat items -/
theorem s_neH {K : PySem.W.Frag} {H : Hp} {a b : Addr} {l : Bool} {items : List V} {Q : VK} (h1 : H a = some (if l then .lst items else .tup items)) (h2 : H b = some (if l then .lst items else .tup items)) (hf : ∀ x ∈ items, FlatV x) (hz : items.length ≤ 1000) (h : Q (.bl false) H) : rNeD K (.ref a) (.ref b) H Q := by
  cases l with
  | true => exact s_neDD (n := 2) (.lst (SqL.of h1) (DpAll.flat hf)) (.lst (SqL.of h2) (DpAll.flat hf)) (flat_shs (by omega)) (flat_lays hf) (by decide) h
  | false => exact s_neDD (n := 2) (.tup (SqT.of h1) (DpAll.flat hf)) (.tup (SqT.of h2) (DpAll.flat hf)) (flat_sht (by omega)) (flat_layt hf) (by decide) h
theorem flat_shaped {l : List V} (h : ∀ x ∈ l, FlatV x) (hz : l.length ≤ 1000) : SeqAt.shaped (.list (l.map flatD)) = true := (flat_shs (n := 0) (by omega)).shaped (by decide) (flat_lays h)
def sp_law_good (K : PySem.W.Frag) (_ : Ad) : Sp := fun vs H Q _ => ∃ (a : Addr) (b : Bool) (items : List V), vs = [.ref a] ∧ H a = some (if b then .lst items else .tup items) ∧ (∀ x ∈ items, FlatV x) ∧ items.length ≤ 1000 ∧
  ∀ H', Upto [] H H' → Q (.bl (b && blockB items)) H'
theorem sc_law_good : FnScope ["_law_words_here", "_law_bad", "_law_word"] ["_law_words_here"] (defScope st_law_good) := ⟨rfl, rfl, rfl, by decide +kernel, rfl, by decide +kernel, by decide +kernel⟩
theorem s_law_good {W : List Addr} {H0 H : Hp} {M I : List (Addr × HO)} {a : Addr} {b : Bool} {items : List V} {Q : VK} {E : XK} (hs : Hs W H0 H M I) (h1 : H a = some (if b then .lst items else .tup items)) (hf : ∀ x ∈ items, FlatV x) (hz : items.length ≤ 1000)
    (h : ∀ H', Hs W H0 H' M I → Upto [] H H' → Q (.bl (b && blockB items)) H') : sp_law_good K Z [.ref a] H Q E := ⟨a, b, items, rfl, h1, hf, hz, fun H' u => h H' (hs.call0 u) u⟩
def sp_law_place (K : PySem.W.Frag) (_ : Ad) : Sp := fun vs H Q _ => ∃ (r sc : Addr) (o : HO) (ns : List Int) (S : List (Addr × HO)) (n : Int), vs = [.ref r, .int n] ∧ Holds H ((r, o) :: S) ∧ RowO sc o ∧ ScrL K sc ns S ∧ 0 < n ∧
  ∀ (v : V) (o' : HO) (H' : Hp), FlatV v → Upto [r] H H' → H' r = some o' → RowO sc o' → Q v H'
theorem sc_law_place : FnScope ["_law_row", "_law_many", "_law_odd"] ["_law_row", "_law_many"] (defScope st_law_place) := ⟨rfl, rfl, rfl, by decide +kernel, rfl, by decide +kernel, by decide +kernel⟩
theorem s_law_place {W : List Addr} {H0 H : Hp} {M S : List (Addr × HO)} {r sc : Addr} {o : HO} {ns : List Int} {n : Int} {Q : VK} {E : XK} (hs : Hs W H0 H M S) (m : (r, o) ∈ M) (ro : RowO sc o) (sl : ScrL K sc ns S) (hn : 0 < n)
    (h : ∀ (v : V) (o' : HO) (H' : Hp), FlatV v → RowO sc o' → (∀ M', Rep M r o' M' → Hs W H0 H' M' S) → Upto [r] H H' → Q v H') : sp_law_place K Z [.ref r, .int n] H Q E :=
  ⟨r, sc, o, ns, S, n, rfl, hs.row m, ro, sl, hn, fun v o' H' h1 u e ro' => h v o' H' h1 ro' (fun _ rp => hs.call1 u e rp) u⟩
/-- what a write is answered with, by hand: 0 the place, 1 the words, 2 stopped, 3 done -/
def sp_law_wrote (K : PySem.W.Frag) (Z : Ad) : Sp := fun vs H Q _ => ∃ (d wa : Addr) (s : DS) (v : V) (l : Bool) (items : List V), vs = [.ref d, v, .ref wa] ∧ Holds H ((wa, if l then .lst items else .tup items) :: diskL Z d s) ∧ s.Ok ∧ FlatV v ∧ (∀ x ∈ items, FlatV x) ∧ items.length ≤ 1000 ∧ 0 ≤ s.p ∧ s.p ≤ 7 ∧
  (wholeB v 0 (s.ws.length - 1) = false → ∀ H', Upto [] H H' → Q (.str "place") H') ∧
  (wholeB v 0 (s.ws.length - 1) = true → (l && blockB items) = false → ∀ H', Upto [] H H' → Q (.str "words") H') ∧
  (∀ (i : Nat) (w : List Int), v = .int i → i < s.ws.length → l = true → items = w.map V.int → w.length = 8 → blockB items = true →
    (s.lt = some 0 → ∀ (bs : List Addr) (H' : Hp), bs.length = s.bs.length → Frm (diskL Z d s) (diskL Z d { s with bs := bs, ws := s.ws.set i (mixW s.p w (s.ws.getD i [])), p := 0 }) H H' → Q (.str "stopped") H') ∧
    (s.lt ≠ some 0 → ∀ (bs : List Addr) (H' : Hp), bs.length = s.bs.length → Frm (diskL Z d s) (diskL Z d { s with bs := bs, ws := s.ws.set i w, w := s.w + 1, lt := s.lt.map (· - 1) }) H H' → Q .non H'))
theorem sc_law_wrote : FnScope ["_law_disk", "_law_place_here", "_law_words_here"] ["_law_disk", "_law_place_here", "_law_words_here"] (defScope st_law_wrote) := ⟨rfl, rfl, rfl, by decide +kernel, rfl, by decide +kernel, by decide +kernel⟩
def sp_law_to_write (K : PySem.W.Frag) (_ : Ad) : Sp := fun vs H Q _ => ∃ (md wa ra ca : Addr) (m : DS) (v : V) (l : Bool) (items : List V) (N : Nat), vs = [.ref md, v, .ref wa] ∧ m.ws.length = N ∧ Holds H ((wa, if l then .lst items else .tup items) :: mL md m N ra ca) ∧ m.Ok ∧ FlatV v ∧ (∀ x ∈ items, FlatV x) ∧ items.length ≤ 1000 ∧ 0 ≤ m.p ∧ m.p ≤ 7 ∧
  (wholeB v 0 (m.ws.length - 1) = false → ∀ H', Upto [] H H' → Q (.str "place") H') ∧
  (wholeB v 0 (m.ws.length - 1) = true → (l && blockB items) = false → ∀ H', Upto [] H H' → Q (.str "words") H') ∧
  (∀ (i : Nat) (w : List Int), v = .int i → i < m.ws.length → l = true → items = w.map V.int → w.length = 8 → blockB items = true →
    (m.lt = some 0 → ∀ (bs : List Addr) (H' : Hp), bs.length = m.bs.length → Frm (mL md m N ra ca) (mL md { m with bs := bs, ws := m.ws.set i (mixW m.p w (m.ws.getD i [])), p := 0 } N ra ca) H H' → Q (.str "stopped") H') ∧
    (m.lt ≠ some 0 → ∀ (bs : List Addr) (H' : Hp), bs.length = m.bs.length → Frm (mL md m N ra ca) (mL md { m with bs := bs, ws := m.ws.set i w, w := m.w + 1, lt := m.lt.map (· - 1) } N ra ca) H H' → Q .non H'))
theorem sc_law_to_write : FnScope ["_law_m", "_law_place_here", "_law_words_here", "_law_part"] ["_law_m", "_law_place_here", "_law_words_here"] (defScope st_law_to_write) := ⟨rfl, rfl, rfl, by decide +kernel, rfl, by decide +kernel, by decide +kernel⟩
theorem okSet {dx bl : Addr} {bs : List Addr} {r wn p : Int} {lt : Option Int} {s : DS} (ok : s.Ok) (hb : bs.length = s.bs.length) {i : Nat} {w : List Int} (hw : w.length = 8) : DS.Ok ⟨dx, bl, bs, s.ws.set i w, r, wn, lt, p⟩ := by
  refine ⟨?_, ?_, ?_, ?_⟩
  · show bs.length = (s.ws.set i w).length
    rw [List.length_set, hb, ok.len]
  · show 4 ≤ (s.ws.set i w).length
    rw [List.length_set]; exact ok.lo
  · show (s.ws.set i w).length ≤ 64
    rw [List.length_set]; exact ok.hi
  · intro v hv
    rcases List.mem_or_eq_of_mem_set hv with h | rfl
    · exact ok.each v h
    · exact hw
theorem DS.Ok.at_ {s : DS} (ok : s.Ok) {i : Nat} (hi : i < s.ws.length) : (s.ws.getD i []).length = 8 := by
  rw [List.getD_eq_getElem?_getD, List.getElem?_eq_getElem hi]
  exact ok.each _ (List.getElem_mem hi)
/-- a write that was stopped, one that was done -/
theorem Agree.stopped {s m : DS} (ag : Agree s m) {i : Nat} {w : List Int} (hw : w.length = 8) (hi : i < s.ws.length) (e : m.lt = some 0) {bs bs' : List Addr} (hb : bs.length = s.bs.length) (hb' : bs'.length = m.bs.length) :
    Agree { s with bs := bs, ws := s.ws.set i (mixW s.p w (s.ws.getD i [])), p := 0 } { m with bs := bs', ws := m.ws.set i (mixW m.p w (m.ws.getD i [])), p := 0 } := by
  have ep : s.p = m.p := ag.p (by rw [ag.lt, e]; simp)
  have him : i < m.ws.length := by rw [← ag.ws]; exact hi
  refine ⟨okSet ag.ok hb (mixW_len hw (ag.ok.at_ hi) ag.p0 ag.p7), okSet ag.okm hb' (mixW_len hw (ag.okm.at_ him) ag.q0 ag.q7), ?_, ag.r, ag.w, ag.lt, fun _ => rfl, Int.le_refl 0, show (0 : Int) ≤ 7 by decide, Int.le_refl 0, show (0 : Int) ≤ 7 by decide⟩
  show s.ws.set i _ = m.ws.set i _
  rw [ag.ws, ep]
theorem Agree.done {s m : DS} (ag : Agree s m) {i : Nat} {w : List Int} (hw : w.length = 8) {bs bs' : List Addr} (hb : bs.length = s.bs.length) (hb' : bs'.length = m.bs.length) :
    Agree { s with bs := bs, ws := s.ws.set i w, w := s.w + 1, lt := s.lt.map (· - 1) } { m with bs := bs', ws := m.ws.set i w, w := m.w + 1, lt := m.lt.map (· - 1) } := by
  refine ⟨okSet ag.ok hb hw, okSet ag.okm hb' hw, ?_, ag.r, ?_, ?_, fun h => ag.p fun z => h ?_, ag.p0, ag.p7, ag.q0, ag.q7⟩
  · show s.ws.set i _ = m.ws.set i _
    rw [ag.ws]
  · show s.w + 1 = m.w + 1
    rw [ag.w]
  · show s.lt.map (· - 1) = m.lt.map (· - 1)
    rw [ag.lt]
  · show s.lt.map (· - 1) = none
    rw [z]
    rfl
theorem Agree.reads {s m : DS} (ag : Agree s m) (r : Int) : Agree { s with r := r } { m with r := r } := ⟨⟨ag.ok.len, ag.ok.lo, ag.ok.hi, ag.ok.each⟩, ⟨ag.okm.len, ag.okm.lo, ag.okm.hi, ag.okm.each⟩, ag.ws, rfl, ag.w, ag.lt, ag.p, ag.p0, ag.p7, ag.q0, ag.q7⟩
def sp_law_read (K : PySem.W.Frag) (Z : Ad) : Sp := fun vs H Q _ => ∃ (d md ra ca : Addr) (s m : DS) (v : V) (N : Nat), vs = [.ref d, .ref md, v] ∧ s.ws.length = N ∧ Holds H (both Z d md s m N ra ca) ∧ Agree s m ∧ FlatV v ∧
  ∀ (r : Int) (H' : Hp), Frm (both Z d md s m N ra ca) (both Z d md { s with r := r } { m with r := r } N ra ca) H H' → Q (.bl true) H'
theorem sc_law_read : FnScope ["_law_disk", "_law_m", "_law_place_here", "_law_good_here", "_law_found"] ["_law_disk", "_law_m", "_law_place_here"] (defScope st_law_read) := ⟨rfl, rfl, rfl, by decide +kernel, rfl, by decide +kernel, by decide +kernel⟩
def sp_law_bad_stop (K : PySem.W.Frag) (Z : Ad) : Sp := fun vs H Q _ => ∃ (d r sc : Addr) (o : HO) (ns : List Int) (S : List (Addr × HO)) (s : DS), vs = [.ref d, .ref r] ∧ Holds H (((r, o) :: diskL Z d s) ++ S) ∧ RowO sc o ∧ ScrL K sc ns S ∧
  ∀ (o' : HO) (H' : Hp), RowO sc o' → Upto [r] H H' → H' r = some o' → Q (.bl true) H'
theorem sc_law_bad_stop : FnScope ["_law_disk", "_law_row", "_law_some", "_law_count", "_law_part"] ["_law_disk", "_law_row"] (defScope st_law_bad_stop) := ⟨rfl, rfl, rfl, by decide +kernel, rfl, by decide +kernel, by decide +kernel⟩
def sp_law_bad_disk (K : PySem.W.Frag) (Z : Ad) : Sp := fun vs H Q _ => ∃ (r sc : Addr) (o : HO) (ns : List Int) (S : List (Addr × HO)), vs = [.ref r] ∧ Holds H ((r, o) :: S) ∧ RowO sc o ∧ ScrL K sc ns S ∧
  ∀ (H' : Hp), Q (.bl true) H'
theorem sc_law_bad_disk : FnScope ["_law_row"] ["_law_row"] (defScope st_law_bad_disk) := ⟨rfl, rfl, rfl, by decide +kernel, rfl, by decide +kernel, by decide +kernel⟩
def sp_law (K : PySem.W.Frag) (_ : Ad) : Sp := fun vs H Q _ => ∃ (a : Addr) (ns : List Int), vs = [.ref a] ∧ SqL K H a (ns.map V.int) ∧ ns.length ≤ 63 ∧ ∀ H', Q (.bl true) H'
/-- a disk of noughts -/
def dsR (dx bl : Addr) (bs : List Addr) (N : Nat) (q : Int) : DS := ⟨dx, bl, bs, List.replicate N (List.replicate 8 0), q, 0, none, 0⟩
def ds0 (dx bl : Addr) (bs : List Addr) (N : Nat) : DS := dsR dx bl bs N 0
theorem dsR_ok {dx bl : Addr} {bs : List Addr} {N : Nat} {q : Int} (h : bs.length = N) (h4 : 4 ≤ N) (h64 : N ≤ 64) : (dsR dx bl bs N q).Ok := by
  refine ⟨?_, ?_, ?_, ?_⟩
  · show bs.length = (List.replicate N _).length
    rw [List.length_replicate, h]
  · show 4 ≤ (List.replicate N _).length
    rw [List.length_replicate]; exact h4
  · show (List.replicate N _).length ≤ 64
    rw [List.length_replicate]; exact h64
  · intro w hw
    rw [(List.mem_replicate.mp hw).2, List.length_replicate]
theorem ds0_ok {dx bl : Addr} {bs : List Addr} {N : Nat} (h : bs.length = N) (h4 : 4 ≤ N) (h64 : N ≤ 64) : (ds0 dx bl bs N).Ok := dsR_ok h h4 h64
theorem DpAll.rep {K : PySem.W.Frag} {H : Hp} {x : V} {d : PyData} (h : Dp K H x d) : ∀ n : Nat, DpAll K H (List.replicate n x) (List.replicate n d)
  | 0 => .nil
  | n + 1 => by
    rw [List.replicate_succ, List.replicate_succ]
    exact .cons h (DpAll.rep h n)
theorem sc_law : FnScope ["_law_script", "_law_row", "_law_many", "_law_disk", "_law_other", "_law_m", "_law_k", "_law_blank", "_law_way", "_law_place_here", "_law_words_here", "_law_handed", "_law_due"] ["_law_script"] (defScope st_law) := ⟨rfl, rfl, rfl, by decide +kernel, rfl, by decide +kernel, by decide +kernel⟩
end
/-- lookups -/
local macro_rules | `(tactic| k_data) => `(tactic| first | exact List.mem_cons_self | assumption | (apply List.mem_cons_of_mem; k_data) | (apply List.mem_append_right; k_data) | (apply List.mem_append_left; k_data))
local macro_rules | `(tactic| k_get) => `(tactic| first | exact Rep.here | (apply Rep.there; k_get) | (apply Rep.skip; k_get))
local macro_rules | `(tactic| k_put) => `(tactic| first | exact SetAt.here | (apply SetAt.there; k_put))
local macro_rules | `(tactic| k_obj1) => `(tactic| first | assumption | exact Hs.getM (by assumption) (by k_data) | exact Hs.getI (by assumption) (by k_data))
local macro_rules | `(tactic| k_here) => `(tactic| first | (apply lk; k_obj1; rfl) | (apply lkL; k_obj1; rfl) | (apply lkT; k_obj1; rfl) | assumption | exact Hs.scr (by assumption) (by assumption) | exact (Upto.same (Hs.up (by assumption))).seq (by assumption) | exact same_seqT (Upto.same (Hs.up (by assumption))) (by assumption))
local macro_rules | `(tactic| k_few) => `(tactic| first | assumption | omega | (simp only [List.length_cons, List.length_nil, List.length_append, List.length_map, List.length_replicate, sizeLine_eq]; omega))
local macro_rules | `(tactic| k_closed) => `(tactic| first | assumption | rfl | omega | (focus (intro h; cases h; done)) | (exact fun h => h rfl) | decide)
local macro_rules | `(tactic| k_not) => `(tactic| first | omega | (unfold CMul; omega) | (unfold CDiv; omega) | assumption)
local macro_rules | `(tactic| k_ownname) => `(tactic| first | exact SetI.s0 | exact SetI.s1 | exact SetI.s2 | assumption)
local macro_rules | `(tactic| k_is) => `(tactic| first | rfl | assumption)
/-- one step of a reading -/
local macro_rules | `(tactic| k_one) => `(tactic| first
  | with_reducible apply s_asg
  | with_reducible apply s_ifs
  | with_reducible apply s_op
  | ((with_reducible apply s_var); rfl)
  | with_reducible apply s_c
  | ((with_reducible apply s_gname); k_put)
  | with_reducible apply s_cons
  | with_reducible apply s_nil
  | with_reducible apply s_call
  | with_reducible apply s_CB
  | with_reducible apply s_rI0
  | ((with_reducible apply s_rI); k_not)
  | ((with_reducible apply s_ixL); k_here; k_is)
  | ((with_reducible apply s_ixT); k_here; k_is)
  | with_reducible apply s_eqI
  | with_reducible apply s_neI
  | with_reducible apply s_test
  | with_reducible apply s_tB
  | with_reducible apply s_kBl
  | with_reducible apply s_iteT
  | with_reducible apply s_iteF
  | ((with_reducible apply s_iteP); k_closed)
  | ((with_reducible apply s_iteN); k_closed)
  | with_reducible apply s_and
  | with_reducible apply s_or
  | with_reducible apply s_not
  | with_reducible apply s_andV
  | with_reducible apply s_orV
  | with_reducible apply s_notV
  | with_reducible apply s_ifE
  | with_reducible apply s_chain
  | with_reducible apply s_lst
  | with_reducible apply s_tup
  | ((with_reducible apply s_newL); assumption; k_few; intro _ _ _ _ _)
  | ((with_reducible apply s_newT); assumption; k_few; intro _ _ _ _ _)
  | with_reducible apply s_star
  | ((with_reducible apply s_kStarL); k_here)
  | with_reducible apply s_gSub
  | ((with_reducible apply s_setL); assumption; k_here; k_ownname; k_get; intro _ _ _)
  | with_reducible apply s_ret
  | with_reducible apply s_retN
  | with_reducible apply s_next
  | with_reducible apply s_drop
  | with_reducible apply s_un
  | with_reducible apply s_rU
  | ((with_reducible apply s_cat); assumption; k_here; k_here; k_few; intro _ _ _ _ _)
  | with_reducible apply s_sl
  | with_reducible apply s_noPart
  | with_reducible apply s_part
  | with_reducible apply s_kPart
  | ((with_reducible apply s_slL); assumption; k_here; intro _ _ _ _ _)
  | ((with_reducible apply s_lenL); k_here)
  | ((with_reducible apply s_lenT); k_here)
  | ((with_reducible apply s_listOf); assumption; k_here; intro _ _ _ _ _)
  | (with_reducible apply s_max2; intro _ _)
  | with_reducible apply s_forR1
  | with_reducible apply s_forR2
  | with_reducible apply s_forL
  | with_reducible apply s_forT
  | with_reducible apply s_lcR1
  | with_reducible apply s_lcR2
  | with_reducible apply s_lcL
  | ((with_reducible apply s_kRng1); k_few; k_few)
  | ((with_reducible apply s_kRng2); k_few; k_few; k_few; k_few)
  | ((with_reducible apply s_kLst); k_here)
  | ((with_reducible apply s_kTup); k_here)
  | with_reducible apply s_bm0
  | with_reducible apply s_bm
  | ((with_reducible apply s_tyL); k_here)
  | ((with_reducible apply s_clear); assumption; k_here; k_get; intro _ _ _)
  | ((with_reducible apply s_append); assumption; k_here; k_few; k_get; intro _ _ _)
  | ((with_reducible apply s_extend); assumption; k_here; k_here; k_few; k_get; intro _ _ _)
  | with_reducible apply s_par
  | ((with_reducible apply s_kPar); k_put; k_put)
  | ((with_reducible apply s_gTup); k_here; rfl)
  | with_reducible apply s_gCons
  | with_reducible apply s_gNil
  | ((with_reducible apply s_start); (simp only [L2.start, List.map_cons, List.map_nil, List.length_cons, List.length_nil, Nat.reduceAdd, Nat.reduceSub, List.replicate, List.cons_append, List.nil_append]; rfl)))
local macro_rules | `(tactic| k_slotget) => `(tactic| first | exact TyX.base (.int _) | exact TyX.base (.bl _) | exact TyX.base .non | exact TyX.base (.str _) | exact SqL.tyx (by k_here) | exact SqT.tyx (by k_here) | assumption)
local macro_rules | `(tactic| k_data) => `(tactic| first | exact List.mem_cons_self | assumption | (apply List.mem_cons_of_mem; k_data) | (apply List.mem_append_right; k_data) | (apply List.mem_append_left; k_data))
local macro_rules | `(tactic| k_one) => `(tactic| first
  | ((with_reducible apply s_isi); exact ClsV.ty _; k_slotget; (first | exact kit_ty (r := true) (by decide +kernel) | exact kit_ty (r := false) (by decide +kernel)))
  | ((with_reducible apply s_ixAL); k_here; k_is)
  | ((with_reducible apply s_ixAT); k_here; k_is)
  | ((with_reducible apply s_isiT); k_here; (exact .cons (.ty _) (.cons (.ty _) .nil)); k_slotget; (first | exact kitTL_list | exact kitTL_tuple))
  | ((with_reducible apply s_repI); assumption; k_here; k_few; intro _ _ _ _ _)
  | with_reducible apply s_neB
  | with_reducible apply s_eqB
  | with_reducible apply s_eqS
  | with_reducible apply s_neS
  | with_reducible apply s_isN
  | with_reducible apply s_notN
  | ((with_reducible apply s_iteNP); k_closed)
  | ((with_reducible apply s_iteNN); k_closed)
  | with_reducible apply s_iteNT
  | with_reducible apply s_iteNF
  | with_reducible apply s_yes
  | with_reducible apply s_forR3
  | with_reducible apply s_lcR3
  | ((with_reducible apply s_kRng3); k_few; k_few)
  | with_reducible apply s_kWh
  | ((with_reducible apply s_acc); assumption; k_here; k_few; k_get; intro _ _ _)
  | ((with_reducible apply s_eqDnil); k_here; k_here)
  | ((with_reducible apply s_eqDL); k_here; k_here)
  | ((with_reducible apply s_neDL); k_here; k_here))
local macro_rules | `(tactic| k_sweep) => `(tactic| repeat (first | with_reducible apply s_seq | k_one))
local macro_rules | `(tactic| k_spoken) => `(tactic| repeat k_one)
local macro_rules | `(tactic| k_node) => `(tactic| ((with_reducible apply s_seq); k_spoken))
local macro_rules | `(tactic| k_splitN) => `(tactic| repeat' (first | with_reducible apply s_seq | k_one | (apply s_iteD <;> intro _)))
local macro_rules | `(tactic| k_drop) => `(tactic| first | exact List.Sublist.slnil | (apply List.Sublist.cons₂; k_drop) | (apply List.Sublist.append (List.Sublist.refl _); k_drop) | exact List.Sublist.refl _ | exact List.sublist_append_left _ _ | (apply List.Sublist.cons; k_drop) | (refine List.Sublist.trans ?_ (List.sublist_append_right _ _); k_drop) | exact List.nil_sublist _)
local macro_rules | `(tactic| k_lenW) => `(tactic| first | (apply len_app; k_lenW; k_lenW) | (apply len_cut; k_lenW) | exact Nat.le_refl _)
local macro_rules | `(tactic| k_few) => `(tactic| (apply Nat.le_trans; (apply Nat.add_le_add; k_lenW; k_lenW); (focus (simp only [List.length_cons, List.length_nil, List.length_append, List.length_map, List.length_replicate, sizeLine_eq]; omega))))
local macro_rules | `(tactic| k_one) => `(tactic| first
  | with_reducible apply s_fld
  | ((with_reducible apply s_kFld); k_here; assumption; assumption; rfl)
  | with_reducible apply s_sfld
  | ((with_reducible apply s_kSet); assumption; k_here; assumption; assumption; (first | exact ltK (by kernel_rfl) | exact leK (by kernel_rfl)); rfl; k_get; intro _ _ _)
  | with_reducible apply s_meth
  | with_reducible apply s_methS
  | ((with_reducible apply s_kMeth); k_here; rfl)
  | with_reducible apply s_make
  | with_reducible apply s_makeS
  | with_reducible apply s_raise
  | ((with_reducible apply s_aug1); assumption; rfl; k_here; assumption; assumption; rfl; (first | exact ltK (by kernel_rfl) | exact leK (by kernel_rfl)); rfl; k_get; intro _ _ _)
  | ((with_reducible apply s_sub1); assumption; rfl; k_here; assumption; assumption; rfl; (first | exact ltK (by kernel_rfl) | exact leK (by kernel_rfl)); rfl; k_get; intro _ _ _)
  | with_reducible apply s_dget
  | ((with_reducible apply s_kDGet); k_here; rfl)
  | with_reducible apply s_dput
  | ((with_reducible apply s_kDPut); assumption; k_here; k_few; rfl; k_get; intro _ _ _)
  | ((with_reducible apply s_disp); assumption; intro _ _ _ _ _)
  | with_reducible apply s_pairs0
  | with_reducible apply s_pairs
  | ((with_reducible apply s_kDisp); assumption; k_here; rfl; k_few; rfl; k_get; intro _ _ _)
  | ((with_reducible apply s_tyD); k_here))
local macro_rules | `(tactic| k_one) => `(tactic| first
  | ((with_reducible apply s_rng1); assumption; intro _ _ _ _ _)
  | ((with_reducible apply s_notRngI); k_here)
  | ((with_reducible apply s_notRngN); k_here)
  | ((with_reducible apply s_notRngS); k_here)
  | ((with_reducible apply s_tupOfL); assumption; k_here; intro _ _ _ _ _))
local macro_rules | `(tactic| k_one) => `(tactic| ((with_reducible apply s_upd); assumption; k_here; k_here; (first | exact Hs.neq (by assumption) (by k_drop) | exact (Hs.neq (by assumption) (by k_drop)).symm); (first | exact ltK (by kernel_rfl) | exact leK (by kernel_rfl)); rfl; k_get; intro _ _ _))
local macro_rules | `(tactic| k_not) => `(tactic| (focus (unfold CPow; decide)))
local macro_rules | `(tactic| k_one) => `(tactic| first | with_reducible apply s_neSs | with_reducible apply s_eqSs | with_reducible apply s_neNN)
local macro_rules | `(tactic| k_one) => `(tactic| first
  | with_reducible apply s_forE
  | ((with_reducible apply s_kEnm); k_here)
  | with_reducible apply s_cont
  | with_reducible apply s_iteE0
  | with_reducible apply s_iteEc
  | with_reducible apply s_iteE1
  | with_reducible apply s_iteEd
  | with_reducible apply s_callS
  | with_reducible apply s_truth
  | ((with_reducible apply s_kTruL); k_here)
  | ((with_reducible apply s_pop0); assumption; k_here; k_get; intro _ _ _))
local macro_rules | `(tactic| k_one) => `(tactic| first
  | with_reducible apply s_int1T
  | with_reducible apply s_int1F
  | ((with_reducible apply s_rep1); assumption; k_here; intro _ _ _ _ _)
  | ((with_reducible apply s_rep0); assumption; k_here; intro _ _ _ _ _))
local macro_rules | `(tactic| k_one) => `(tactic| ((with_reducible apply s_is_whole); assumption))
local macro_rules | `(tactic| k_one) => `(tactic| ((with_reducible apply s_taken); assumption; k_data; assumption; assumption; k_few; (intro _ _ _ _ _ _ hq _; have hq2 := hq _ (by k_get); clear hq)))
local macro_rules | `(tactic| k_one) => `(tactic| first
  | ((with_reducible apply s_kDGet); k_here; first | exact mK_many | exact mK_disk | exact mK_left | exact mK_part | exact mK_writes | exact mK_reads)
  | ((with_reducible apply s_kDPut); assumption; k_here; (first | exact mK_len | exact mK0_len); (first | exact mK_pleft | exact mK_pleftN | exact mK_ppart | exact mK_pwrites | exact mK_preads | exact mK0_preads); k_get; intro _ _ _))
local macro_rules | `(tactic| k_one) => `(tactic| ((with_reducible apply s_alikeI); assumption; intro _ _ _))
local macro_rules | `(tactic| k_one) => `(tactic| ((with_reducible apply s_alikeL); assumption; k_here; k_here; k_few; intro _ _ _))
local macro_rules | `(tactic| k_one) => `(tactic| ((with_reducible apply s_law_words); assumption; k_data; assumption; assumption; (intro _ _ _ _ _ _ _ _ hq; have hq2 := hq _ (by k_get); clear hq)))
local macro_rules | `(tactic| k_one) => `(tactic| ((with_reducible apply s_law_place); assumption; k_data; assumption; assumption; k_few; (intro _ _ _ _ _ hq _; have hq2 := hq _ (by k_get); clear hq)))
section
variable {P : Program} {w : World} {K : PySem.W.Frag} {mg : Str → Option Value} {base : Heap} {Z : Ad}
theorem ok_is_whole {f : Addr} {fd : FuncData} (F : Fun K "is_whole" "is_whole" st_is_whole f fd) (T : Txt K mg Z)  : FnOk P w K mg base CX0 1 f fd ["value", "low", "high"] (sp_is_whole K Z) := by
  have cl_Disk := T.cl_Disk
  have na_Disk__blocks := T.na_Disk__blocks
  have na_Disk__let := T.na_Disk__let
  have na_Disk__part := T.na_Disk__part
  have na_Disk__reads := T.na_Disk__reads
  have na_Disk__writes := T.na_Disk__writes
  refine F.ok sc_is_whole (fun vs H Q E h => ?_) (fun cdv A outer s H vs Q E hr h => ?_)
  · obtain ⟨_, _, _, rfl, _⟩ := h
    rfl
  obtain ⟨v, lo, hi, rfl, hv, k⟩ := h
  refine ⟨_, (pss_one (ps_ret (pe_and (pe_callB (call_isiK' (K := K)) (by rfl) T.m_isinstance (by decide +kernel) (pa_cons (pv 0) (pa_cons (pe_bltn (v := .ty "int") (by rfl) T.m_int (by decide +kernel) rfl) pa_nil))) (pe_and (pe_not (pe_callB (call_isiK' (K := K)) (by rfl) T.m_isinstance (by decide +kernel) (pa_cons (pv 0) (pa_cons (pe_bltn (v := .ty "bool") (by rfl) T.m_bool (by decide +kernel) rfl) pa_nil)))) (pe_one (pe_chain op_le op_le (pv 1) (pv 0) (pv 2))))))), ?_⟩
  refine s_start (by simp only [L2.start, List.map_cons, List.map_nil, List.length_cons, List.length_nil, Nat.reduceAdd, Nat.reduceSub, List.replicate, List.cons_append, List.nil_append]; rfl) ?_
  cases v with
  | int i =>
    k_splitN
    · rename_i c
      have e : wholeB (.int i) lo hi = decide (i ≤ hi) := by simp [wholeB, c]
      rw [e] at k
      exact k
    · rename_i c
      have e : wholeB (.int i) lo hi = false := by simp [wholeB, c]
      rw [e] at k
      exact k
  | bl b => k_sweep; exact k
  | str b => k_sweep; exact k
  | non => k_sweep; exact k
  | byt b => exact hv.elim
  | flt b => exact hv.elim
  | ref b => exact hv.elim
  | ty b => exact hv.elim
theorem ok_is_block {f : Addr} {fd : FuncData} (F : Fun K "_is_block" "_is_block" st_is_block f fd) (T : Txt K mg Z) (D_is_whole : DefOk P w K mg base CX0 1 "is_whole" ["value", "low", "high"] (sp_is_whole K Z)) : FnOk P w K mg base CX0 2 f fd ["words"] (sp_is_block K Z) := by
  have cl_Disk := T.cl_Disk
  have na_Disk__blocks := T.na_Disk__blocks
  have na_Disk__let := T.na_Disk__let
  have na_Disk__part := T.na_Disk__part
  have na_Disk__reads := T.na_Disk__reads
  have na_Disk__writes := T.na_Disk__writes
  refine F.ok sc_is_block (fun vs H Q E h => ?_) (fun cdv A outer s H vs Q E hr h => ?_)
  · obtain ⟨_, _, _, rfl, _⟩ := h
    rfl
  obtain ⟨a, b, items, rfl, ha, hf, hz, k⟩ := h
  have hS := Hs.startI (Holds.one ha)
  refine ⟨_, (pss_cons (ps_if (PW.pt (pw_or (pt_not (pt_val (pe_callB (call_isiK' (K := K)) (by rfl) T.m_isinstance (by decide +kernel) (pa_cons (pv 0) (pa_cons (pe_bltn (v := .ty "list") (by rfl) T.m_list (by decide +kernel) rfl) pa_nil))))) (pw_or1 (pt_cmpR op_ne (pe_callB (call_lenK (K := K)) (by rfl) T.m_len (by decide +kernel) (pa_cons (pv 0) pa_nil)) (pe_globC T.c_BLOCK_WORDS rfl) (nomark _))))) (pss_one (ps_ret pe_bl)) pss_nil)
      (pss_one (ps_ret (pe_callB (cr_allK (K := K) rfl) (by rfl) T.m_all (by decide +kernel) (pa_cons (pe_lc (own := [("word", 1)]) (g := gName 1) (by rfl) sc_is_block.nd (pi_listK (K := K) (pv 0)) (blkOk_by (N := ["words", "word"]) (sc := defScope st_is_block) (by decide +kernel)) (fun _ _ _ _ _ => pg_name (i := 1) sc_is_block.nd rfl (Or.inl rfl)) (fun _ _ _ _ _ => pts_nil) (fun _ _ _ _ _ => (pe_callD D_is_whole hr (by rfl) pass0 (pa_cons (pv 1) (pa_cons pe_int (pa_cons (pe_globC T.c_MOST_WORD rfl) pa_nil)))))) pa_nil))))), ?_⟩
  refine s_start (by simp only [L2.start, List.map_cons, List.map_nil, List.length_cons, List.length_nil, Nat.reduceAdd, Nat.reduceSub, List.replicate, List.cons_append, List.nil_append]; rfl) ?_
  cases b with
  | false =>
    simp only [Bool.false_eq_true, if_false] at hS
    k_sweep
    exact k _ (Hs.up (by assumption))
  | true =>
    simp only [if_true] at hS
    k_node
    apply s_iteD
    · intro c
      k_sweep
      have e : blockB items = false := by
        simp only [blockB, Bool.and_eq_false_iff, decide_eq_false_iff_not]
        left
        omega
      rw [e] at k
      exact k _ (Hs.up (by assumption))
    · intro c
      k_sweep
      refine f_lcL (xs := items) fun Dn hD => ⟨fun i H' => Hs [] H H' [(Dn, .lst (((items.take i).map fun v => wholeB v 0 1000000000000000).map V.bl))] [(a, .lst items)], hS.new hD _, ?_, ?_, ?_⟩
      · intro i H' _ h2
        exact SqL.of (h2.getI List.mem_cons_self)
      · intro i x H2 hx hS2
        have hfx := hf x (List.mem_of_getElem? hx)
        have hlt : i < items.length := (List.getElem?_eq_some_iff.mp hx).1
        k_spoken
        have hll : (((items.take i).map fun v => wholeB v 0 1000000000000000).map V.bl).length < sizeLine := by
          rw [List.length_map, List.length_map, List.length_take, sizeLine_eq]
          omega
        k_spoken
        have e : items.take (i + 1) = items.take i ++ [x] := by
          rw [List.take_add_one, hx]
          rfl
        show Hs [] H _ [(Dn, .lst (((items.take (i + 1)).map fun v => wholeB v 0 1000000000000000).map V.bl))] [(a, .lst items)]
        rw [e, List.map_append, List.map_append]
        assumption
      · intro H2 hS2
        rw [List.take_length] at hS2
        k_spoken
        refine ⟨Dn, _, rfl, SqL.of (hS2.getM List.mem_cons_self), ?_⟩
        have e : (true && blockB items) = (items.map fun v => wholeB v 0 1000000000000000).all id := by
          have c' : items.length = 8 := by omega
          simp [blockB, c', List.all_map, Function.comp_def]
        rw [e] at k
        exact k _ hS2.up
theorem ok_Disk___init__ {f : Addr} {fd : FuncData} (F : Fun K "__init__" "Disk.__init__" st_Disk___init__ f fd) (T : Txt K mg Z) (D_is_whole : DefOk P w K mg base CX0 1 "is_whole" ["value", "low", "high"] (sp_is_whole K Z)) : FnOk P w K mg base (L2.CX P w) 2 f fd ["self", "many"] (sp_Disk___init__ K Z) := by
  have cl_Disk := T.cl_Disk
  have na_Disk__blocks := T.na_Disk__blocks
  have na_Disk__let := T.na_Disk__let
  have na_Disk__part := T.na_Disk__part
  have na_Disk__reads := T.na_Disk__reads
  have na_Disk__writes := T.na_Disk__writes
  refine F.okX sc_Disk___init__ (fun vs H Q E h => ?_) (fun cdv A outer s H vs Q E hr h => ?_)
  · obtain ⟨_, _, _, rfl, _⟩ := h
    rfl
  obtain ⟨x, dx, v, rfl, hH, hv, kE, k⟩ := h
  have hS := Hs.startL hH
  refine ⟨_, (pss_cons (ps_if (pt_not (pt_val (pe_callD D_is_whole hr (by rfl) pass0 (pa_cons (pv 1) (pa_cons (pe_globC T.c_LEAST_BLOCKS rfl) (pa_cons (pe_globC T.c_MOST_BLOCKS rfl) pa_nil)))))) (pss_one (ps_raiseK rfl (takes_of rfl rfl rfl rfl) (pmk_own PySem.F.excBase_ValueError T.x_BadDisk T.g_BadDisk T.kp_BadDisk (raises_own T.sb_BadDisk T.ty_BadDisk) rfl))) pss_nil)
      (pss_cons (ps_fldK (K := K) (pv 0) (pe_lc (own := [("_", 2)]) (g := gName 2) (by rfl) sc_Disk___init__.nd (pi_range1 rfl T.m_range (pa_cons (pv 1) pa_nil)) (blkOk_by (N := ["self", "many", "_"]) (sc := defScope st_Disk___init__) (by decide +kernel)) (fun _ _ _ _ _ => pg_name (i := 2) sc_Disk___init__.nd rfl (Or.inl rfl)) (fun _ _ _ _ _ => pts_nil) (fun _ _ _ _ _ => (pe_op op_rep (pe_lst (pa_cons pe_int pa_nil)) (pe_globC T.c_BLOCK_WORDS rfl)))) rfl)
      (pss_cons (ps_fldK (K := K) (pv 0) pe_int rfl)
      (pss_cons (ps_fldK (K := K) (pv 0) pe_int rfl)
      (pss_cons (ps_fldK (K := K) (pv 0) pe_non rfl)
      (pss_one (ps_fldK (K := K) (pv 0) pe_int rfl))))))), ?_⟩
  refine s_start (by simp only [L2.start, List.map_cons, List.map_nil, List.length_cons, List.length_nil, Nat.reduceAdd, Nat.reduceSub, List.replicate, List.cons_append, List.nil_append]; rfl) ?_
  k_node
  cases hw : wholeB v 4 64 with
  | false =>
    k_spoken
    exact kE hw _ (Upto.refl _ _)
  | true =>
    obtain ⟨n, rfl, h0, h1⟩ := wholeB_int hw
    k_spoken
    k_node
    refine f_lcR fun Dn hD => ⟨fun i H' => ∃ bs : List Addr, bs.length = i ∧ Hs [x, dx] H H' ((Dn, .lst (bs.map V.ref)) :: (rowsL bs (List.replicate i (List.replicate 8 0)) ++ ([(x, HO.ins Z.Disk dx []), (dx, HO.own x)] : List (Addr × HO)))) [], ⟨[], rfl, hS.new hD _⟩, ?_, ?_⟩
    · rintro i H2 hi ⟨bs, hl, hS2⟩
      k_spoken
      rename_i q H3 hS3 _ _ H4 hS4 _
      refine ⟨bs ++ [q], by rw [List.length_append, hl]; rfl, ?_⟩
      have hS5 := Hs.sub (M' := (q, .lst ((List.replicate 8 0).map V.int)) :: (Dn, .lst (bs.map V.ref ++ [V.ref q])) :: (rowsL bs (List.replicate i (List.replicate 8 0)) ++ [(x, .ins Z.Disk dx []), (dx, .own x)])) hS4 (by k_drop)
      rw [List.replicate_succ', rowsL_snoc _ _ (by rw [List.length_replicate, hl]), List.map_append]
      exact Hs.snoc hS5
    · rintro H2 ⟨bs, hl, hS2⟩
      k_sweep
      rename_i H3 hS3 _
      refine k n rfl h0 h1 Dn bs _ hl (Frm.of (Hs.perm hS3 ?_) (List.Sublist.refl _))
      refine List.Perm.trans ?_ (List.perm_append_comm (l₁ := _ :: rowsL bs _) (l₂ := [_, _])).symm
      exact List.Perm.refl _
theorem ok_Disk_blocks {f : Addr} {fd : FuncData} (F : Fun K "blocks" "Disk.blocks" st_Disk_blocks f fd) (T : Txt K mg Z)  : FnOk P w K mg base CX0 1 f fd ["self"] (sp_Disk_blocks K Z) := by
  have cl_Disk := T.cl_Disk
  have na_Disk__blocks := T.na_Disk__blocks
  have na_Disk__let := T.na_Disk__let
  have na_Disk__part := T.na_Disk__part
  have na_Disk__reads := T.na_Disk__reads
  have na_Disk__writes := T.na_Disk__writes
  refine F.ok sc_Disk_blocks (fun vs H Q E h => ?_) (fun cdv A outer s H vs Q E hr h => ?_)
  · obtain ⟨_, _, rfl, _⟩ := h
    rfl
  obtain ⟨d, s, rfl, hH, ok, k⟩ := h
  have hS := Hs.startL hH
  refine ⟨_, (pss_one (ps_ret (pe_callB (call_lenK (K := K)) (by rfl) T.m_len (by decide +kernel) (pa_cons (pe_fldK (K := K) (pv 0) rfl) pa_nil)))), ?_⟩
  refine s_start (by simp only [L2.start, List.map_cons, List.map_nil, List.length_cons, List.length_nil, Nat.reduceAdd, Nat.reduceSub, List.replicate, List.cons_append, List.nil_append]; rfl) ?_
  k_sweep
  rw [List.length_map, ok.len]
  exact k
theorem ok_Disk_read {f : Addr} {fd : FuncData} (F : Fun K "read" "Disk.read" st_Disk_read f fd) (T : Txt K mg Z) (M_Disk__need_place : MethOk P w K mg base (L2.CX P w) 2 Z.Disk "_need_place" ["self", "place"] (sp_Disk__need_place K Z)) : FnOk P w K mg base (L2.CX P w) 3 f fd ["self", "place"] (sp_Disk_read K Z) := by
  obtain ⟨f_Disk__need_place, fd_Disk__need_place, G_Disk__need_place, b_Disk__need_place, m_Disk__need_place⟩ := M_Disk__need_place.ex
  have cl_Disk := T.cl_Disk
  have na_Disk__blocks := T.na_Disk__blocks
  have na_Disk__let := T.na_Disk__let
  have na_Disk__part := T.na_Disk__part
  have na_Disk__reads := T.na_Disk__reads
  have na_Disk__writes := T.na_Disk__writes
  refine F.okX sc_Disk_read (fun vs H Q E h => ?_) (fun cdv A outer s H vs Q E hr h => ?_)
  · obtain ⟨_, _, _, rfl, _⟩ := h
    rfl
  obtain ⟨d, s, v, rfl, hH, ok, hv, kE, k⟩ := h
  have hS := Hs.startL hH
  refine ⟨_, (pss_cons (ps_expr (pe_meth (pv 0) T.cl_Disk m_Disk__need_place G_Disk__need_place (hr.mono (by decide)) b_Disk__need_place .nil (passes_call (takes_of rfl rfl rfl rfl) (fun _ _ _ _ h => h)) (pa_cons (pv 1) pa_nil)))
      (pss_cons (ps_fldaugK (K := K) (pv 0) pe_int in_add)
      (pss_one (ps_ret (pe_callTy (call_listOfK (K := K)) (by rfl) T.m_list (by decide +kernel) (pa_cons (pe_ix (ix_listK (K := K)) (pe_fldK (K := K) (pv 0) rfl) (pv 1) (fun _ _ => rfl)) pa_nil)))))), ?_⟩
  refine s_start (by simp only [L2.start, List.map_cons, List.map_nil, List.length_cons, List.length_nil, Nat.reduceAdd, Nat.reduceSub, List.replicate, List.cons_append, List.nil_append]; rfl) ?_
  k_node
  refine ⟨d, s, v, rfl, hH, ok, hv, fun c => ?_, fun c => ?_⟩
  · exact kE c
  obtain ⟨i0, rfl, h0, h1⟩ := wholeB_int c
  obtain ⟨i, rfl⟩ : ∃ i : Nat, i0 = (i : Int) := ⟨i0.toNat, by omega⟩
  have hi : i < s.ws.length := by omega
  obtain ⟨b, hb⟩ : ∃ b, s.bs[i]? = some b := ⟨_, List.getElem?_eq_getElem (by rw [ok.len]; exact hi)⟩
  have hw := List.getElem?_eq_getElem hi
  have a1 : atI (s.bs.map V.ref) (i : Int) = some (V.ref b) := atI_nat (by rw [List.getElem?_map, hb]; rfl)
  have hmem := rowsL_get hb hw
  have hg : s.ws.getD i [] = s.ws[i] := by rw [List.getD_eq_getElem?_getD, hw]; rfl
  k_spoken
  k_sweep
  rename_i q H3 hS3 _ _
  refine k i rfl hi q _ ?_
  rw [hg]
  exact Frm.of hS3 (by k_drop)
theorem ok_Disk_write {f : Addr} {fd : FuncData} (F : Fun K "write" "Disk.write" st_Disk_write f fd) (T : Txt K mg Z) (D_is_block : DefOk P w K mg base CX0 2 "_is_block" ["words"] (sp_is_block K Z)) (M_Disk__need_place : MethOk P w K mg base (L2.CX P w) 2 Z.Disk "_need_place" ["self", "place"] (sp_Disk__need_place K Z)) (M_Disk__write_part : MethOk P w K mg base CX0 1 Z.Disk "_write_part" ["self", "place", "words"] (sp_Disk__write_part K Z)) : FnOk P w K mg base (L2.CX P w) 3 f fd ["self", "place", "words"] (sp_Disk_write K Z) := by
  obtain ⟨f_Disk__need_place, fd_Disk__need_place, G_Disk__need_place, b_Disk__need_place, m_Disk__need_place⟩ := M_Disk__need_place.ex
  obtain ⟨f_Disk__write_part, fd_Disk__write_part, G_Disk__write_part, b_Disk__write_part, m_Disk__write_part⟩ := M_Disk__write_part.ex
  have cl_Disk := T.cl_Disk
  have na_Disk__blocks := T.na_Disk__blocks
  have na_Disk__let := T.na_Disk__let
  have na_Disk__part := T.na_Disk__part
  have na_Disk__reads := T.na_Disk__reads
  have na_Disk__writes := T.na_Disk__writes
  refine F.okX sc_Disk_write (fun vs H Q E h => ?_) (fun cdv A outer s H vs Q E hr h => ?_)
  · obtain ⟨_, _, _, _, _, _, rfl, _⟩ := h
    rfl
  obtain ⟨d, wa, s, v, l, items, rfl, hH, ok, hv, hf, hz, hp0, hp1, kN, kB, kW⟩ := h
  refine ⟨_, (pss_cons (ps_expr (pe_meth (pv 0) T.cl_Disk m_Disk__need_place G_Disk__need_place (hr.mono (by decide)) b_Disk__need_place .nil (passes_call (takes_of rfl rfl rfl rfl) (fun _ _ _ _ h => h)) (pa_cons (pv 1) pa_nil)))
      (pss_cons (ps_if (pt_not (pt_val (pe_callD D_is_block hr (by rfl) pass0 (pa_cons (pv 2) pa_nil)))) (pss_one (ps_raiseK rfl (takes_of rfl rfl rfl rfl) (pmk_own PySem.F.excBase_ValueError T.x_BadBlock T.g_BadBlock T.kp_BadBlock (raises_own T.sb_BadBlock T.ty_BadBlock) rfl))) pss_nil)
      (pss_cons (ps_if (pt_cmpR op_eq (pe_fldK (K := K) (pv 0) rfl) pe_int (nomark _)) (pss_cons (ps_expr (pe_meth (pv 0) T.cl_Disk m_Disk__write_part G_Disk__write_part (hr.mono (by decide)) b_Disk__write_part .nil pass0 (pa_cons (pv 1) (pa_cons (pv 2) pa_nil))))
      (pss_one (ps_raiseK rfl (takes_of rfl rfl rfl rfl) (pmk_own PySem.F.excBase_ValueError T.x_Stopped T.g_Stopped T.kp_Stopped (raises_own T.sb_Stopped T.ty_Stopped) rfl)))) pss_nil)
      (pss_cons (ps_asg (pe_callTy (call_listOfK (K := K)) (by rfl) T.m_list (by decide +kernel) (pa_cons (pv 2) pa_nil)) (pg_sub (pe_fldK (K := K) (pv 0) rfl) (pv 1) set_list))
      (pss_cons (ps_fldaugK (K := K) (pv 0) pe_int in_add)
      (pss_one (ps_if (pt_cmpR op_notN' (pe_fldK (K := K) (pv 0) rfl) pe_non (nomark _)) (pss_one (ps_fldaugK (K := K) (pv 0) pe_int in_sub)) pss_nil))))))), ?_⟩
  refine s_start (by simp only [L2.start, List.map_cons, List.map_nil, List.length_cons, List.length_nil, Nat.reduceAdd, Nat.reduceSub, List.replicate, List.cons_append, List.nil_append]; rfl) ?_
  have hS := Hs.startC hH
  k_node
  refine ⟨d, s, v, rfl, hH.tl, ok, hv, kN, fun c => ?_⟩
  obtain ⟨i0, rfl, h0, h1⟩ := wholeB_int c
  obtain ⟨i, rfl⟩ : ∃ i : Nat, i0 = (i : Int) := ⟨i0.toNat, by omega⟩
  have hi : i < s.ws.length := by omega
  k_spoken
  k_node
  refine s_is_block hS (hS.getI List.mem_cons_self) hf hz ?_
  intro H1 hS1 u1
  cases hbk : (l && blockB items) with
  | false =>
    k_spoken
    exact kB c hbk _ u1
  | true =>
    obtain ⟨rfl, hb2⟩ : l = true ∧ blockB items = true := by simpa using hbk
    obtain ⟨w, rfl, hw8⟩ := blockB_ints hb2
    obtain ⟨kS, kG⟩ := kW i w rfl hi rfl rfl hw8 hb2
    simp only [if_true] at hS1
    have hg : (s.ws.getD i []) = s.ws[i] := by rw [List.getD_eq_getElem?_getD, List.getElem?_eq_getElem hi]; rfl
    have hib : i < s.bs.length := by rw [ok.len]; exact hi
    k_spoken
    k_node
    cases hlt : s.lt with
    | none =>
      refine s_eqV rfl ?_
      simp only [hlt, ltV, reduceCtorEq, decide_false]
      k_spoken
      k_node
      rename_i p H2 hS2 _ _
      refine s_setL hS2 (by k_here) (SetI.refs hib) (by k_get) ?_
      intro H3 hS3 _
      k_node
      k_spoken
      simp only [hlt, ltV]
      k_sweep
      rename_i H4 hS4 _
      have hS5 := Hs.setRow0 (i := i) (A := [(d, HO.ins Z.Disk s.dx (dF { s with w := s.w + 1, lt := s.lt })), (s.dx, .own d), (s.bl, .lst ((s.bs.set i p).map V.ref))]) hS4 hib ok.len
      refine kG (by rw [hlt]; simp) (s.bs.set i p) _ (by rw [List.length_set]) ?_
      rw [show s.lt.map (· - 1) = s.lt by rw [hlt]; rfl]
      exact Frm.of hS5 (List.Sublist.refl _)
    | some t =>
      simp only [ltV]
      k_spoken
      apply s_iteD
      · intro e0
        have e1 : t = 0 := by simpa using e0
        subst e1
        k_node
        refine ⟨d, wa, s, i, w, rfl, hS1.cons1, ok, hi, hw8, hp0, hp1, fun bs H2 hl f => ?_⟩
        have hS2 := hS1.seg f .end_
        k_sweep
        exact kS hlt bs _ hl (Frm.of hS2 (List.Sublist.refl _))
      · intro e0
        rw [show diskL Z d s = (d, .ins Z.Disk s.dx [("_blocks", .ref s.bl), ("_reads", .int s.r), ("_writes", .int s.w), ("_let", V.int t), ("_part", .int s.p)]) :: (s.dx, .own d) :: (s.bl, .lst (s.bs.map V.ref)) :: rowsL s.bs s.ws from by unfold diskL dF; rw [hlt]; rfl] at hS1
        k_spoken
        k_node
        rename_i p H2 hS2 _ _
        refine s_setL hS2 (by k_here) (SetI.refs hib) (by k_get) ?_
        intro H3 hS3 _
        k_node
        k_sweep
        rename_i H4 hS4 _
        have hS5 := Hs.setRow0 (i := i) (A := [(d, HO.ins Z.Disk s.dx (dF { s with w := s.w + 1, lt := some (t - 1) })), (s.dx, .own d), (s.bl, .lst ((s.bs.set i p).map V.ref))]) hS4 hib ok.len
        refine kG (by rw [hlt]; simpa using e0) (s.bs.set i p) _ (by rw [List.length_set]) ?_
        rw [hlt]
        exact Frm.of hS5 (List.Sublist.refl _)
theorem ok_Disk_reads {f : Addr} {fd : FuncData} (F : Fun K "reads" "Disk.reads" st_Disk_reads f fd) (T : Txt K mg Z)  : FnOk P w K mg base CX0 1 f fd ["self"] (sp_Disk_reads K Z) := by
  have cl_Disk := T.cl_Disk
  have na_Disk__blocks := T.na_Disk__blocks
  have na_Disk__let := T.na_Disk__let
  have na_Disk__part := T.na_Disk__part
  have na_Disk__reads := T.na_Disk__reads
  have na_Disk__writes := T.na_Disk__writes
  refine F.ok sc_Disk_reads (fun vs H Q E h => ?_) (fun cdv A outer s H vs Q E hr h => ?_)
  · obtain ⟨_, _, rfl, _⟩ := h
    rfl
  obtain ⟨d, s, rfl, hH, k⟩ := h
  have hS := Hs.startL hH
  refine ⟨_, (pss_one (ps_ret (pe_fldK (K := K) (pv 0) rfl))), ?_⟩
  refine s_start (by simp only [L2.start, List.map_cons, List.map_nil, List.length_cons, List.length_nil, Nat.reduceAdd, Nat.reduceSub, List.replicate, List.cons_append, List.nil_append]; rfl) ?_
  k_sweep
  exact k
theorem ok_Disk_writes {f : Addr} {fd : FuncData} (F : Fun K "writes" "Disk.writes" st_Disk_writes f fd) (T : Txt K mg Z)  : FnOk P w K mg base CX0 1 f fd ["self"] (sp_Disk_writes K Z) := by
  have cl_Disk := T.cl_Disk
  have na_Disk__blocks := T.na_Disk__blocks
  have na_Disk__let := T.na_Disk__let
  have na_Disk__part := T.na_Disk__part
  have na_Disk__reads := T.na_Disk__reads
  have na_Disk__writes := T.na_Disk__writes
  refine F.ok sc_Disk_writes (fun vs H Q E h => ?_) (fun cdv A outer s H vs Q E hr h => ?_)
  · obtain ⟨_, _, rfl, _⟩ := h
    rfl
  obtain ⟨d, s, rfl, hH, k⟩ := h
  have hS := Hs.startL hH
  refine ⟨_, (pss_one (ps_ret (pe_fldK (K := K) (pv 0) rfl))), ?_⟩
  refine s_start (by simp only [L2.start, List.map_cons, List.map_nil, List.length_cons, List.length_nil, Nat.reduceAdd, Nat.reduceSub, List.replicate, List.cons_append, List.nil_append]; rfl) ?_
  k_sweep
  exact k
theorem ok_Disk_stop_after {f : Addr} {fd : FuncData} (F : Fun K "stop_after" "Disk.stop_after" st_Disk_stop_after f fd) (T : Txt K mg Z) (D_is_whole : DefOk P w K mg base CX0 1 "is_whole" ["value", "low", "high"] (sp_is_whole K Z)) : FnOk P w K mg base (L2.CX P w) 2 f fd ["self", "count", "part"] (sp_Disk_stop_after K Z) := by
  have cl_Disk := T.cl_Disk
  have na_Disk__blocks := T.na_Disk__blocks
  have na_Disk__let := T.na_Disk__let
  have na_Disk__part := T.na_Disk__part
  have na_Disk__reads := T.na_Disk__reads
  have na_Disk__writes := T.na_Disk__writes
  refine F.okX sc_Disk_stop_after (fun vs H Q E h => ?_) (fun cdv A outer s H vs Q E hr h => ?_)
  · obtain ⟨_, _, _, _, rfl, _⟩ := h
    rfl
  obtain ⟨d, s, u, v, rfl, hH, hu, hv, kE, k⟩ := h
  have hS := Hs.startL hH
  refine ⟨_, (pss_cons (ps_if (pt_not (pt_val (pe_callD D_is_whole hr (by rfl) pass0 (pa_cons (pv 1) (pa_cons pe_int (pa_cons (pe_globC T.c_MOST_COUNT rfl) pa_nil)))))) (pss_one (ps_raiseK rfl (takes_of rfl rfl rfl rfl) (pmk_own PySem.F.excBase_ValueError T.x_BadStop T.g_BadStop T.kp_BadStop (raises_own T.sb_BadStop T.ty_BadStop) rfl))) pss_nil)
      (pss_cons (ps_if (pt_not (pt_val (pe_callD D_is_whole hr (by rfl) pass0 (pa_cons (pv 2) (pa_cons pe_int (pa_cons (pe_globC T.c_MOST_PART rfl) pa_nil)))))) (pss_one (ps_raiseK rfl (takes_of rfl rfl rfl rfl) (pmk_own PySem.F.excBase_ValueError T.x_BadStop T.g_BadStop T.kp_BadStop (raises_own T.sb_BadStop T.ty_BadStop) rfl))) pss_nil)
      (pss_cons (ps_fldK (K := K) (pv 0) (pv 1) rfl)
      (pss_one (ps_fldK (K := K) (pv 0) (pv 2) rfl))))), ?_⟩
  refine s_start (by simp only [L2.start, List.map_cons, List.map_nil, List.length_cons, List.length_nil, Nat.reduceAdd, Nat.reduceSub, List.replicate, List.cons_append, List.nil_append]; rfl) ?_
  k_node
  cases hwu : wholeB u 0 1000000000000000 with
  | false =>
    k_spoken
    exact kE (by rw [hwu]; rfl)
  | true =>
    obtain ⟨i, rfl, _⟩ := wholeB_int hwu
    k_spoken
    k_node
    cases hwv : wholeB v 0 7 with
    | false =>
      k_spoken
      exact kE (by rw [hwu, hwv]; rfl)
    | true =>
      obtain ⟨j, rfl, _⟩ := wholeB_int hwv
      k_sweep
      exact k i j rfl rfl (by rw [hwu, hwv]; rfl) _ (Frm.of (by assumption) (by k_drop))
theorem ok_Disk_go_on {f : Addr} {fd : FuncData} (F : Fun K "go_on" "Disk.go_on" st_Disk_go_on f fd) (T : Txt K mg Z)  : FnOk P w K mg base CX0 1 f fd ["self"] (sp_Disk_go_on K Z) := by
  have cl_Disk := T.cl_Disk
  have na_Disk__blocks := T.na_Disk__blocks
  have na_Disk__let := T.na_Disk__let
  have na_Disk__part := T.na_Disk__part
  have na_Disk__reads := T.na_Disk__reads
  have na_Disk__writes := T.na_Disk__writes
  refine F.ok sc_Disk_go_on (fun vs H Q E h => ?_) (fun cdv A outer s H vs Q E hr h => ?_)
  · obtain ⟨_, _, rfl, _⟩ := h
    rfl
  obtain ⟨d, s, rfl, hH, k⟩ := h
  have hS := Hs.startL hH
  refine ⟨_, (pss_one (ps_fldK (K := K) (pv 0) pe_non rfl)), ?_⟩
  refine s_start (by simp only [L2.start, List.map_cons, List.map_nil, List.length_cons, List.length_nil, Nat.reduceAdd, Nat.reduceSub, List.replicate, List.cons_append, List.nil_append]; rfl) ?_
  k_sweep
  exact k _ (Frm.of (by assumption) (by k_drop))
theorem ok_Disk_twin {f : Addr} {fd : FuncData} (F : Fun K "twin" "Disk.twin" st_Disk_twin f fd) (T : Txt K mg Z) (M_Disk___init__ : MakeOk P w K mg base (L2.CX P w) 2 Z.Disk ["self", "many"] (sp_Disk___init__ K Z)) (M_Disk_blocks : MethOk P w K mg base CX0 1 Z.Disk "blocks" ["self"] (sp_Disk_blocks K Z)) : FnOk P w K mg base CX0 4 f fd ["self"] (sp_Disk_twin K Z) := by
  obtain ⟨f_Disk___init__, fd_Disk___init__, G_Disk___init__, b_Disk___init__, m_Disk___init__⟩ := M_Disk___init__.ex
  obtain ⟨f_Disk_blocks, fd_Disk_blocks, G_Disk_blocks, b_Disk_blocks, m_Disk_blocks⟩ := M_Disk_blocks.ex
  have cl_Disk := T.cl_Disk
  have na_Disk__blocks := T.na_Disk__blocks
  have na_Disk__let := T.na_Disk__let
  have na_Disk__part := T.na_Disk__part
  have na_Disk__reads := T.na_Disk__reads
  have na_Disk__writes := T.na_Disk__writes
  refine F.ok sc_Disk_twin (fun vs H Q E h => ?_) (fun cdv A outer s H vs Q E hr h => ?_)
  · obtain ⟨_, _, rfl, _⟩ := h
    rfl
  obtain ⟨d, s, rfl, hH, ok, k⟩ := h
  have hS := Hs.startI hH
  refine ⟨_, (pss_cons (ps_set (i := 1) sc_Disk_twin.nd rfl (Or.inl rfl) (pe_make m_Disk___init__ G_Disk___init__ (hr.mono (by decide)) (by rfl) T.g_Disk b_Disk___init__ .nil passL (pa_cons (pe_meth0 (pv 0) T.cl_Disk m_Disk_blocks G_Disk_blocks (hr.mono (by decide)) b_Disk_blocks .nil pass0) pa_nil)))
      (pss_cons (ps_fldK (K := K) (pv 1) (pe_lc (own := [("words", 2)]) (g := gName 2) (by rfl) sc_Disk_twin.nd (pi_listK (K := K) (pe_fldK (K := K) (pv 0) rfl)) (blkOk_by (N := ["self", "other", "words"]) (sc := defScope st_Disk_twin) (by decide +kernel)) (fun _ _ _ _ _ => pg_name (i := 2) sc_Disk_twin.nd rfl (Or.inl rfl)) (fun _ _ _ _ _ => pts_nil) (fun _ _ _ _ _ => (pe_callTy (call_listOfK (K := K)) (by rfl) T.m_list (by decide +kernel) (pa_cons (pv 2) pa_nil)))) rfl)
      (pss_one (ps_ret (pv 1))))), ?_⟩
  refine s_start (by simp only [L2.start, List.map_cons, List.map_nil, List.length_cons, List.length_nil, Nat.reduceAdd, Nat.reduceSub, List.replicate, List.cons_append, List.nil_append]; rfl) ?_
  k_node
  refine ⟨d, s, rfl, hH, ok, ?_⟩
  have h4 := ok.lo
  have h64 := ok.hi
  k_spoken
  refine s_kMake hS ?_
  intro x dx H1 hS1 u1 hx hd
  refine ⟨x, dx, .int s.ws.length, rfl, hS1.part (List.Sublist.refl _), trivial, fun c => ?_, fun n en _ _ bl bs H2 hl f => ?_⟩
  · simp only [wholeB, Bool.and_eq_false_iff, decide_eq_false_iff_not] at c
    omega
  obtain rfl : (s.ws.length : Int) = n := by cases en; rfl
  have hS2 := hS1.seg f .end_
  rw [Int.toNat_natCast] at hl hS2
  refine ⟨rfl, ?_⟩
  k_spoken
  k_node
  refine f_lcL (xs := s.bs.map V.ref) fun Dn hD => ⟨fun i H' => ∃ cs : List Addr, cs.length = i ∧ Hs [] H H' ((Dn, .lst (cs.map V.ref)) :: (rowsL cs (s.ws.take i) ++ diskL Z x ⟨dx, bl, bs, List.replicate s.ws.length (List.replicate 8 0), 0, 0, none, 0⟩)) (diskL Z d s), ⟨[], rfl, hS2.new hD _⟩, ?_, ?_, ?_⟩
  · rintro i H' _ ⟨cs, hl, h2⟩
    exact SqL.of (h2.getI (by k_data))
  · rintro i y H3 hy ⟨cs, hl, hS3⟩
    obtain ⟨b, hb, rfl⟩ : ∃ b, s.bs[i]? = some b ∧ V.ref b = y := by simpa using hy
    have hi : i < s.ws.length := by rw [← ok.len]; exact (List.getElem?_eq_some_iff.mp hb).1
    have hw := List.getElem?_eq_getElem hi
    have hmem := rowsL_get hb hw
    k_spoken
    rename_i q H4 hS4 _ _ H5 hS5 _
    refine ⟨cs ++ [q], by rw [List.length_append, hl]; rfl, ?_⟩
    rw [List.take_add_one, hw]
    show Hs _ _ _ (_ :: (rowsL (cs ++ [q]) (s.ws.take i ++ [s.ws[i]]) ++ _)) _
    rw [rowsL_snoc _ _ (by rw [List.length_take, hl]; omega), List.map_append]
    exact Hs.snoc hS5
  · rintro H3 ⟨cs, hl, hS3⟩
    rw [List.length_map, ok.len, List.take_length] at hS3
    k_sweep
    rename_i H4 hS4 _
    have hS5 : Hs [] H H4 ((Dn, .lst (cs.map V.ref)) :: (rowsL cs s.ws ++ ([(x, HO.ins Z.Disk dx (dF ⟨dx, Dn, cs, s.ws, 0, 0, none, 0⟩)), (dx, HO.own x)] : List (Addr × HO)))) (diskL Z d s) :=
      hS4.sub (.cons₂ _ (List.Sublist.append (List.Sublist.refl _) (.cons₂ _ (.cons₂ _ (List.nil_sublist _)))))
    refine k x dx Dn cs _ (by rw [hl, List.length_map, ok.len]) (Frm.of (L := []) (hS5.perm (M' := diskL Z x ⟨dx, Dn, cs, s.ws, 0, 0, none, 0⟩) ?_) (List.Sublist.refl _))
    unfold diskL
    refine List.Perm.trans ?_ (List.Perm.cons _ (List.perm_append_comm (l₁ := [_, _]) (l₂ := rowsL cs s.ws)))
    exact (List.Perm.cons _ (List.Perm.swap _ _ _)).trans (List.Perm.swap _ _ _)
theorem ok_Disk__need_place {f : Addr} {fd : FuncData} (F : Fun K "_need_place" "Disk._need_place" st_Disk__need_place f fd) (T : Txt K mg Z) (D_is_whole : DefOk P w K mg base CX0 1 "is_whole" ["value", "low", "high"] (sp_is_whole K Z)) : FnOk P w K mg base (L2.CX P w) 2 f fd ["self", "place"] (sp_Disk__need_place K Z) := by
  have cl_Disk := T.cl_Disk
  have na_Disk__blocks := T.na_Disk__blocks
  have na_Disk__let := T.na_Disk__let
  have na_Disk__part := T.na_Disk__part
  have na_Disk__reads := T.na_Disk__reads
  have na_Disk__writes := T.na_Disk__writes
  refine F.okX sc_Disk__need_place (fun vs H Q E h => ?_) (fun cdv A outer s H vs Q E hr h => ?_)
  · obtain ⟨_, _, _, rfl, _⟩ := h
    rfl
  obtain ⟨d, s, v, rfl, hH, ok, hv, kE, k⟩ := h
  have hS := Hs.startL hH
  refine ⟨_, (pss_one (ps_if (pt_not (pt_val (pe_callD D_is_whole hr (by rfl) pass0 (pa_cons (pv 1) (pa_cons pe_int (pa_cons (pe_op op_sub (pe_callB (call_lenK (K := K)) (by rfl) T.m_len (by decide +kernel) (pa_cons (pe_fldK (K := K) (pv 0) rfl) pa_nil)) pe_int) pa_nil)))))) (pss_one (ps_raiseK rfl (takes_of rfl rfl rfl rfl) (pmk_own PySem.F.excBase_ValueError T.x_NoBlock T.g_NoBlock T.kp_NoBlock (raises_own T.sb_NoBlock T.ty_NoBlock) rfl))) pss_nil)), ?_⟩
  refine s_start (by simp only [L2.start, List.map_cons, List.map_nil, List.length_cons, List.length_nil, Nat.reduceAdd, Nat.reduceSub, List.replicate, List.cons_append, List.nil_append]; rfl) ?_
  k_spoken
  rw [List.length_map, ok.len]
  cases hw : wholeB v 0 (s.ws.length - 1) with
  | false =>
    k_spoken
    exact kE hw
  | true =>
    k_spoken
    exact k hw
theorem ok_Disk__write_part {f : Addr} {fd : FuncData} (F : Fun K "_write_part" "Disk._write_part" st_Disk__write_part f fd) (T : Txt K mg Z)  : FnOk P w K mg base CX0 1 f fd ["self", "place", "words"] (sp_Disk__write_part K Z) := by
  have cl_Disk := T.cl_Disk
  have na_Disk__blocks := T.na_Disk__blocks
  have na_Disk__let := T.na_Disk__let
  have na_Disk__part := T.na_Disk__part
  have na_Disk__reads := T.na_Disk__reads
  have na_Disk__writes := T.na_Disk__writes
  refine F.ok sc_Disk__write_part (fun vs H Q E h => ?_) (fun cdv A outer s H vs Q E hr h => ?_)
  · obtain ⟨_, _, _, _, _, rfl, _⟩ := h
    rfl
  obtain ⟨d, wa, s, i, w, rfl, hH, ok, hi, hw8, hp0, hp1, k⟩ := h
  have hS0 := Hs.startL hH.tl
  refine ⟨_, (pss_cons (ps_asg (pe_op op_cat (pe_slice (sl_listK (K := K)) (pv 2) po_none (po_some (pe_fldK (K := K) (pv 0) rfl))) (pe_slice (sl_listK (K := K)) (pe_ix (ix_listK (K := K)) (pe_fldK (K := K) (pv 0) rfl) (pv 1) (fun _ _ => rfl)) (po_some (pe_fldK (K := K) (pv 0) rfl)) po_none)) (pg_sub (pe_fldK (K := K) (pv 0) rfl) (pv 1) set_list))
      (pss_one (ps_fldK (K := K) (pv 0) pe_int rfl))), ?_⟩
  refine s_start (by simp only [L2.start, List.map_cons, List.map_nil, List.length_cons, List.length_nil, Nat.reduceAdd, Nat.reduceSub, List.replicate, List.cons_append, List.nil_append]; rfl) ?_
  have hS : Hs ((diskL Z d s).map Prod.fst) H H (diskL Z d s) [(wa, .lst (w.map V.int))] := by
    refine ⟨Upto.refl _ _, ?_, ?_, fun _ hx => .inl (List.mem_map_of_mem hx)⟩
    · have p1 : (diskL Z d s ++ [(wa, HO.lst (w.map V.int))]).Perm ((wa, HO.lst (w.map V.int)) :: diskL Z d s) := List.perm_append_comm
      exact ((p1.map Prod.fst).nodup_iff).mpr hH.nd
    · intro x hx
      refine hH.at_ x ?_
      simp only [List.mem_append, List.mem_singleton] at hx
      rcases hx with hx | hx
      · exact List.mem_cons_of_mem _ hx
      · rw [hx]; exact List.mem_cons_self
  obtain ⟨b, hb⟩ : ∃ b, s.bs[i]? = some b := ⟨_, List.getElem?_eq_getElem (by rw [ok.len]; exact hi)⟩
  have hw := List.getElem?_eq_getElem hi
  have a1 : atI (s.bs.map V.ref) (i : Int) = some (V.ref b) := atI_nat (by rw [List.getElem?_map, hb]; rfl)
  have hmem := rowsL_get hb hw
  have hg : s.ws.getD i [] = s.ws[i] := by rw [List.getD_eq_getElem?_getD, hw]; rfl
  have ho8 : s.ws[i].length = 8 := ok.each _ (List.getElem_mem hi)
  k_node
  rename_i p H1 hS1 _ _
  rw [mixV hw8 ho8 hp0 hp1] at hS1
  have hib : i < s.bs.length := by rw [ok.len]; exact hi
  refine s_setL hS1 (by k_here) (SetI.refs hib) (by k_get) ?_
  intro H2 hS2 _
  k_sweep
  rename_i H3 hS3 _
  have hS4 : Hs ((diskL Z d s).map Prod.fst) H H3 ((p, .lst ((mixW s.p w s.ws[i]).map V.int)) :: ([(d, HO.ins Z.Disk s.dx (dF { s with p := 0 })), (s.dx, .own d), (s.bl, .lst ((s.bs.set i p).map V.ref))] ++ rowsL s.bs s.ws)) [(wa, .lst (w.map V.int))] := Hs.sub hS3 (by k_drop)
  have hS5 := Hs.setRow0 (i := i) hS4 hib ok.len
  refine k (s.bs.set i p) _ (by rw [List.length_set]) ?_
  rw [hg]
  exact Frm.of hS5 (List.Sublist.refl _)
theorem ok_law_taken {f : Addr} {fd : FuncData} (F : Fun K "_law_taken" "_law_taken" st_law_taken f fd) (T : Txt K mg Z)  : FnOk P w K mg base CX0 1 f fd ["_law_row", "_law_many"] (sp_law_taken K Z) := by
  have cl_Disk := T.cl_Disk
  have na_Disk__blocks := T.na_Disk__blocks
  have na_Disk__let := T.na_Disk__let
  have na_Disk__part := T.na_Disk__part
  have na_Disk__reads := T.na_Disk__reads
  have na_Disk__writes := T.na_Disk__writes
  refine F.ok sc_law_taken (fun vs H Q E h => ?_) (fun cdv A outer s H vs Q E hr h => ?_)
  · obtain ⟨_, _, _, _, _, _, rfl, _⟩ := h
    rfl
  obtain ⟨r, sc, o, ns, S, n, rfl, hH, ⟨i, m, hi, rfl⟩, hs, hn, k⟩ := h
  have hS := Hs.start1 hH
  refine ⟨_, (pss_cons (ps_asg (pe_op op_add (pe_ix (ix_listK (K := K)) (pv 0) pe_int (fun _ _ => rfl)) pe_int) (pg_sub (pv 0) pe_int set_list))
      (pss_cons (ps_if (pt_cmpR op_gt (pe_ix (ix_listK (K := K)) (pv 0) pe_int (fun _ _ => rfl)) (pe_callB (call_lenK (K := K)) (by rfl) T.m_len (by decide +kernel) (pa_cons (pe_ix (ix_listK (K := K)) (pv 0) pe_int (fun _ _ => rfl)) pa_nil)) (nomark _)) (pss_cons (ps_asg (pe_op op_mod (pe_op op_add (pe_op op_mul (pe_ix (ix_listK (K := K)) (pv 0) pe_int (fun _ _ => rfl)) pe_int) pe_int) pe_int) (pg_sub (pv 0) pe_int set_list))
      (pss_one (ps_ret (pe_op op_mod (pe_op op_fdiv (pe_ix (ix_listK (K := K)) (pv 0) pe_int (fun _ _ => rfl)) pe_int) (pv 1))))) pss_nil)
      (pss_cons (ps_set (i := 2) sc_law_taken.nd rfl (Or.inl rfl) (pe_ix (ix_listK (K := K)) (pe_ix (ix_listK (K := K)) (pv 0) pe_int (fun _ _ => rfl)) (pe_op op_sub (pe_ix (ix_listK (K := K)) (pv 0) pe_int (fun _ _ => rfl)) pe_int) (fun _ _ => rfl)))
      (pss_cons (ps_asg (pe_op op_mod (pe_op op_add (pe_op op_add (pe_op op_mul (pe_ix (ix_listK (K := K)) (pv 0) pe_int (fun _ _ => rfl)) pe_int) (pv 2)) pe_int) pe_int) (pg_sub (pv 0) pe_int set_list))
      (pss_one (ps_ret (pe_op op_mod (pv 2) (pv 1)))))))), ?_⟩
  refine s_start (by simp only [L2.start, List.map_cons, List.map_nil, List.length_cons, List.length_nil, Nat.reduceAdd, Nat.reduceSub, List.replicate, List.cons_append, List.nil_append]; rfl) ?_
  k_sweep
  apply s_iteD
  · intro c
    k_sweep
    exact k _ _ _ (Int.emod_nonneg _ (by omega)) (Int.emod_lt_of_pos _ hn) (Hs.up (by assumption)) (by k_here) ⟨_, _, by omega, rfl⟩
  · intro c
    rw [List.length_map] at c
    obtain ⟨v, hv⟩ : ∃ v, atI (ns.map V.int) (i + 1 - 1) = some (V.int v) := atI_ints (by omega) (by omega)
    k_sweep
    exact k _ _ _ (Int.emod_nonneg _ (by omega)) (Int.emod_lt_of_pos _ hn) (Hs.up (by assumption)) (by k_here) ⟨_, _, by omega, rfl⟩
theorem ok_law_fresh {f : Addr} {fd : FuncData} (F : Fun K "_law_fresh" "_law_fresh" st_law_fresh f fd) (T : Txt K mg Z)  : FnOk P w K mg base CX0 1 f fd ["_law_many"] (sp_law_fresh K Z) := by
  have cl_Disk := T.cl_Disk
  have na_Disk__blocks := T.na_Disk__blocks
  have na_Disk__let := T.na_Disk__let
  have na_Disk__part := T.na_Disk__part
  have na_Disk__reads := T.na_Disk__reads
  have na_Disk__writes := T.na_Disk__writes
  refine F.ok sc_law_fresh (fun vs H Q E h => ?_) (fun cdv A outer s H vs Q E hr h => ?_)
  · obtain ⟨_, rfl, _⟩ := h
    rfl
  obtain ⟨n, rfl, h4, h64, k⟩ := h
  have hS : Hs [] H H [] [] := Hs.start0
  refine ⟨_, (pss_cons (ps_set (i := 1) sc_law_fresh.nd rfl (Or.inl rfl) (pe_disp (pps_cons pe_str (pv 0) (pps_cons pe_str (pe_lc (own := [("_law_place_here", 2)]) (g := gName 2) (by rfl) sc_law_fresh.nd (pi_range1 rfl T.m_range (pa_cons (pv 0) pa_nil)) (blkOk_by (N := ["_law_many", "_law_found", "_law_place_here"]) (sc := defScope st_law_fresh) (by decide +kernel)) (fun _ _ _ _ _ => pg_name (i := 2) sc_law_fresh.nd rfl (Or.inl rfl)) (fun _ _ _ _ _ => pts_nil) (fun _ _ _ _ _ => (pe_op op_rep (pe_lst (pa_cons pe_int pa_nil)) pe_int))) (pps_cons pe_str (pe_op op_sub (pv 0) pe_int) (pps_cons pe_str (pe_op op_sub (pv 0) pe_int) pps_nil)))) (by rfl) (by rfl) (fun z => by cases z) (by decide)))
      (pss_cons (ps_expr (pe_bmK (K := K) PySem.F.plainAttrs_dict PySem.F.slot_dict_update PySem.F.type_dict_update mt_update (pv 1) (pa_cons (pe_disp (pps_cons pe_str (pe_lst pa_nil) (pps_cons pe_str (pe_lst pa_nil) (pps_cons pe_str pe_non (pps_cons pe_str pe_non (pps_cons pe_str pe_int (pps_cons pe_str pe_int (pps_cons pe_str pe_bl pps_nil))))))) (by rfl) (by rfl) (fun z => by cases z) (by decide)) pa_nil)))
      (pss_one (ps_ret (pv 1))))), ?_⟩
  refine s_start (by simp only [L2.start, List.map_cons, List.map_nil, List.length_cons, List.length_nil, Nat.reduceAdd, Nat.reduceSub, List.replicate, List.cons_append, List.nil_append]; rfl) ?_
  k_node
  rename_i md H1 hS1 _ _
  rw [Int.toNat_natCast]
  refine f_lcR fun Dn hD => ⟨fun i H' => ∃ bs : List Addr, bs.length = i ∧ Hs [] H H' ((Dn, .lst (bs.map V.ref)) :: (rowsL bs (List.replicate i (List.replicate 8 0)) ++ ([(md, HO.dK [])] : List (Addr × HO)))) [], ⟨[], rfl, hS1.new hD _⟩, ?_, ?_⟩
  · rintro i H2 hi ⟨bs, hl, hS2⟩
    k_spoken
    rename_i q H3 hS3 _ _ H4 hS4 _
    refine ⟨bs ++ [q], by rw [List.length_append, hl]; rfl, ?_⟩
    have hS5 := Hs.sub (M' := (q, .lst ((List.replicate 8 0).map V.int)) :: (Dn, .lst (bs.map V.ref ++ [V.ref q])) :: (rowsL bs (List.replicate i (List.replicate 8 0)) ++ [(md, HO.dK [])])) hS4 (by k_drop)
    rw [List.replicate_succ', rowsL_snoc _ _ (by rw [List.length_replicate, hl]), List.map_append]
    exact Hs.snoc hS5
  · rintro H2 ⟨bs, hl, hS2⟩
    k_sweep
    rename_i ra _ _ _ _ ca _ _ _ _ _ _ _ H5 hS5 _
    have hS6 := hS5.sub (M' := (Dn, .lst (bs.map V.ref)) :: (rowsL bs (List.replicate n (List.replicate 8 0)) ++ [(md, _)])) (by k_drop)
    have hS7 := hS6.cast (M' := (Dn, .lst (bs.map V.ref)) :: (rowsL bs (List.replicate n (List.replicate 8 0)) ++ [(md, .dK (mK0 ⟨0, Dn, bs, List.replicate n (List.replicate 8 0), 0, 0, none, 0⟩ n ra ca))])) (by kernel_rfl)
    refine k md Dn ra ca bs H5 hl (Frm.of (L := []) (hS7.perm ?_) (List.Sublist.refl _))
    refine List.Perm.trans ?_ (List.Perm.cons _ (List.perm_append_comm (l₁ := [_])))
    exact List.Perm.swap _ _ _
theorem ok_law_stop {f : Addr} {fd : FuncData} (F : Fun K "_law_stop" "_law_stop" st_law_stop f fd) (T : Txt K mg Z) (M_Disk_stop_after : MethOk P w K mg base (L2.CX P w) 2 Z.Disk "stop_after" ["self", "count", "part"] (sp_Disk_stop_after K Z)) : FnOk P w K mg base CX0 3 f fd ["_law_disk", "_law_m", "_law_count", "_law_part"] (sp_law_stop K Z) := by
  obtain ⟨f_Disk_stop_after, fd_Disk_stop_after, G_Disk_stop_after, b_Disk_stop_after, m_Disk_stop_after⟩ := M_Disk_stop_after.ex
  have cl_Disk := T.cl_Disk
  have na_Disk__blocks := T.na_Disk__blocks
  have na_Disk__let := T.na_Disk__let
  have na_Disk__part := T.na_Disk__part
  have na_Disk__reads := T.na_Disk__reads
  have na_Disk__writes := T.na_Disk__writes
  refine F.ok sc_law_stop (fun vs H Q E h => ?_) (fun cdv A outer s H vs Q E hr h => ?_)
  · obtain ⟨_, _, _, _, _, _, _, _, _, rfl, _⟩ := h
    rfl
  obtain ⟨d, md, ra, ca, s, m, n, c, p, rfl, hH, ag, hc0, hc1, hp0, hp1, k⟩ := h
  have hS := Hs.startL hH
  refine ⟨_, (pss_cons (ps_set (i := 4) sc_law_stop.nd rfl (Or.inl rfl) (pe_cmpR op_isN' (pe_meth (pv 0) T.cl_Disk m_Disk_stop_after G_Disk_stop_after (hr.mono (by decide)) b_Disk_stop_after .nil passL (pa_cons (pv 2) (pa_cons (pv 3) pa_nil))) pe_non (nomark _)))
      (pss_cons (ps_dput (have h := hu_of hr; h) (pv 1) pe_str (pv 2) rfl)
      (pss_cons (ps_dput (have h := hu_of hr; h) (pv 1) pe_str (pv 3) rfl)
      (pss_one (ps_ret (pv 4)))))), ?_⟩
  refine s_start (by simp only [L2.start, List.map_cons, List.map_nil, List.length_cons, List.length_nil, Nat.reduceAdd, Nat.reduceSub, List.replicate, List.cons_append, List.nil_append]; rfl) ?_
  unfold both at hS
  have w1 : wholeB (.int c) 0 1000000000000000 = true := by simp [wholeB, hc0, hc1]
  have w2 : wholeB (.int p) 0 7 = true := by simp [wholeB, hp0, hp1]
  k_node
  refine ⟨d, s, .int c, .int p, rfl, hS.part (List.sublist_append_left _ _), trivial, trivial, fun z => ?_, fun i j e1 e2 _ H1 f => ?_⟩
  · rw [w1, w2] at z
    cases z
  obtain rfl : c = i := by cases e1; rfl
  obtain rfl : p = j := by cases e2; rfl
  have hS1 := hS.seg f .here
  k_sweep
  rename_i H3 hS3 _
  rw [show decide (V.non = V.non) = true from decide_eq_true rfl]
  exact k _ ⟨⟨ag.ok.len, ag.ok.lo, ag.ok.hi, ag.ok.each⟩, ⟨ag.okm.len, ag.okm.lo, ag.okm.hi, ag.okm.each⟩, ag.ws, ag.r, ag.w, rfl, fun _ => rfl, hp0, hp1, hp0, hp1⟩ (Frm.of hS3 (List.Sublist.refl _))
theorem ok_law_on {f : Addr} {fd : FuncData} (F : Fun K "_law_on" "_law_on" st_law_on f fd) (T : Txt K mg Z) (M_Disk_go_on : MethOk P w K mg base CX0 1 Z.Disk "go_on" ["self"] (sp_Disk_go_on K Z)) : FnOk P w K mg base CX0 2 f fd ["_law_disk", "_law_m"] (sp_law_on K Z) := by
  obtain ⟨f_Disk_go_on, fd_Disk_go_on, G_Disk_go_on, b_Disk_go_on, m_Disk_go_on⟩ := M_Disk_go_on.ex
  have cl_Disk := T.cl_Disk
  have na_Disk__blocks := T.na_Disk__blocks
  have na_Disk__let := T.na_Disk__let
  have na_Disk__part := T.na_Disk__part
  have na_Disk__reads := T.na_Disk__reads
  have na_Disk__writes := T.na_Disk__writes
  refine F.ok sc_law_on (fun vs H Q E h => ?_) (fun cdv A outer s H vs Q E hr h => ?_)
  · obtain ⟨_, _, _, _, _, _, _, rfl, _⟩ := h
    rfl
  obtain ⟨d, md, ra, ca, s, m, n, rfl, hH, ag, k⟩ := h
  have hS := Hs.startL hH
  refine ⟨_, (pss_cons (ps_set (i := 2) sc_law_on.nd rfl (Or.inl rfl) (pe_cmpR op_isN' (pe_meth0 (pv 0) T.cl_Disk m_Disk_go_on G_Disk_go_on (hr.mono (by decide)) b_Disk_go_on .nil pass0) pe_non (nomark _)))
      (pss_cons (ps_dput (have h := hu_of hr; h) (pv 1) pe_str pe_non rfl)
      (pss_cons (ps_dput (have h := hu_of hr; h) (pv 1) pe_str pe_int rfl)
      (pss_one (ps_ret (pv 2)))))), ?_⟩
  refine s_start (by simp only [L2.start, List.map_cons, List.map_nil, List.length_cons, List.length_nil, Nat.reduceAdd, Nat.reduceSub, List.replicate, List.cons_append, List.nil_append]; rfl) ?_
  unfold both at hS
  k_node
  refine ⟨d, s, rfl, hS.part (List.sublist_append_left _ _), fun H1 f => ?_⟩
  have hS1 := hS.seg f .here
  k_sweep
  rename_i H3 hS3 _
  rw [show decide (V.non = V.non) = true from decide_eq_true rfl]
  exact k _ ⟨⟨ag.ok.len, ag.ok.lo, ag.ok.hi, ag.ok.each⟩, ⟨ag.okm.len, ag.okm.lo, ag.okm.hi, ag.okm.each⟩, ag.ws, ag.r, ag.w, rfl, fun z => absurd rfl z, ag.p0, ag.p7, Int.le_refl 0, show (0 : Int) ≤ 7 by decide⟩ (Frm.of hS3 (List.Sublist.refl _))
theorem ok_law_alike {n : Nat} {f : Addr} {fd : FuncData} (F : Fun K "_law_alike" "_law_alike" st_law_alike f fd) (T : Txt K mg Z) (D_law_alike : DefOk P w K mg base CX0 n "_law_alike" ["_law_found", "_law_due"] (sp_law_alike K Z n)) : FnOk P w K mg base CX0 (n + 1) f fd ["_law_found", "_law_due"] (sp_law_alike K Z (n + 1)) := by
  have cl_Disk := T.cl_Disk
  have na_Disk__blocks := T.na_Disk__blocks
  have na_Disk__let := T.na_Disk__let
  have na_Disk__part := T.na_Disk__part
  have na_Disk__reads := T.na_Disk__reads
  have na_Disk__writes := T.na_Disk__writes
  refine F.ok sc_law_alike (fun vs H Q E h => ?_) (fun cdv A outer s H vs Q E hr h => ?_)
  · obtain ⟨_, _, _, rfl, _⟩ := h
    rfl
  obtain ⟨x, y, d, rfl, hx, hy, hsh, k⟩ := h
  have hS : Hs [] H H [] [] := Hs.start0
  refine ⟨_, (pss_cons (ps_if (PW.pt (pw_or (pt_val (pe_callB (call_isiK' (K := K)) (by rfl) T.m_isinstance (by decide +kernel) (pa_cons (pv 1) (pa_cons (pe_bltn (v := .ty "tuple") (by rfl) T.m_tuple (by decide +kernel) rfl) pa_nil)))) (pw_or1 (pt_val (pe_callB (call_isiK' (K := K)) (by rfl) T.m_isinstance (by decide +kernel) (pa_cons (pv 1) (pa_cons (pe_bltn (v := .ty "list") (by rfl) T.m_list (by decide +kernel) rfl) pa_nil))))))) (pss_cons (ps_if (PW.pt (pw_or (pt_cmpR op_ne (pe_callB (call_isiK' (K := K)) (by rfl) T.m_isinstance (by decide +kernel) (pa_cons (pv 0) (pa_cons (pe_bltn (v := .ty "tuple") (by rfl) T.m_tuple (by decide +kernel) rfl) pa_nil))) (pe_callB (call_isiK' (K := K)) (by rfl) T.m_isinstance (by decide +kernel) (pa_cons (pv 1) (pa_cons (pe_bltn (v := .ty "tuple") (by rfl) T.m_tuple (by decide +kernel) rfl) pa_nil))) (nomark _)) (pw_or1 (pt_not (pt_val (pe_callB (call_isiTK (K := K)) (by rfl) T.m_isinstance (by decide +kernel) (pa_cons (pv 0) (pa_cons (pe_tup (pa_cons (pe_bltn (v := .ty "tuple") (by rfl) T.m_tuple (by decide +kernel) rfl) (pa_cons (pe_bltn (v := .ty "list") (by rfl) T.m_list (by decide +kernel) rfl) pa_nil))) pa_nil)))))))) (pss_one (ps_ret pe_bl)) pss_nil)
      (pss_cons (ps_if (pt_cmpR op_ne (pe_callB (call_lenK (K := K)) (by rfl) T.m_len (by decide +kernel) (pa_cons (pv 0) pa_nil)) (pe_callB (call_lenK (K := K)) (by rfl) T.m_len (by decide +kernel) (pa_cons (pv 1) pa_nil)) (nomark _)) (pss_one (ps_ret pe_bl)) pss_nil)
      (pss_one (ps_ret (pe_cmpR (op_eqDK (K := K) hr.units) (pe_lc (own := [("_law_k", 2)]) (g := gName 2) (by rfl) sc_law_alike.nd (pi_range1 rfl T.m_range (pa_cons (pe_callB (call_lenK (K := K)) (by rfl) T.m_len (by decide +kernel) (pa_cons (pv 1) pa_nil)) pa_nil)) (blkOk_by (N := ["_law_found", "_law_due", "_law_k"]) (sc := defScope st_law_alike) (by decide +kernel)) (fun _ _ _ _ _ => pg_name (i := 2) sc_law_alike.nd rfl (Or.inl rfl)) (fun _ _ _ _ _ => (pts_one (pt_not (pt_val (pe_callD D_law_alike hr (by rfl) pass0 (pa_cons (pe_ix (ix_anyK (K := K)) (pv 0) (pv 2) (fun _ _ => rfl)) (pa_cons (pe_ix (ix_anyK (K := K)) (pv 1) (pv 2) (fun _ _ => rfl)) pa_nil))))))) (fun _ _ _ _ _ => (pv 2))) (pe_lst pa_nil) (nomark _)))))) pss_nil)
      (pss_cons (ps_if (PW.pt (pw_or (pt_cmpR op_isN' (pv 1) pe_non (nomark _)) (pw_or1 (pt_cmpR op_isN' (pv 0) pe_non (nomark _))))) (pss_one (ps_ret (pe_and (pe_cmpR op_isN' (pv 1) pe_non (nomark _)) (pe_one (pe_cmpR op_isN' (pv 0) pe_non (nomark _)))))) pss_nil)
      (pss_cons (ps_if (PW.pt (pw_or (pt_val (pe_callB (call_isiK' (K := K)) (by rfl) T.m_isinstance (by decide +kernel) (pa_cons (pv 1) (pa_cons (pe_bltn (v := .ty "bool") (by rfl) T.m_bool (by decide +kernel) rfl) pa_nil)))) (pw_or1 (pt_val (pe_callB (call_isiK' (K := K)) (by rfl) T.m_isinstance (by decide +kernel) (pa_cons (pv 0) (pa_cons (pe_bltn (v := .ty "bool") (by rfl) T.m_bool (by decide +kernel) rfl) pa_nil))))))) (pss_one (ps_ret (pe_and (pe_callB (call_isiK' (K := K)) (by rfl) T.m_isinstance (by decide +kernel) (pa_cons (pv 1) (pa_cons (pe_bltn (v := .ty "bool") (by rfl) T.m_bool (by decide +kernel) rfl) pa_nil))) (pe_and (pe_callB (call_isiK' (K := K)) (by rfl) T.m_isinstance (by decide +kernel) (pa_cons (pv 0) (pa_cons (pe_bltn (v := .ty "bool") (by rfl) T.m_bool (by decide +kernel) rfl) pa_nil))) (pe_one (pe_cmpR op_eq (pv 0) (pv 1) (nomark _))))))) pss_nil)
      (pss_cons (ps_if (pt_val (pe_callB (call_isiK' (K := K)) (by rfl) T.m_isinstance (by decide +kernel) (pa_cons (pv 1) (pa_cons (pe_bltn (v := .ty "str") (by rfl) T.m_str (by decide +kernel) rfl) pa_nil)))) (pss_one (ps_ret (pe_and (pe_callB (call_isiK' (K := K)) (by rfl) T.m_isinstance (by decide +kernel) (pa_cons (pv 0) (pa_cons (pe_bltn (v := .ty "str") (by rfl) T.m_str (by decide +kernel) rfl) pa_nil))) (pe_one (pe_cmpR op_eq (pv 0) (pv 1) (nomark _)))))) pss_nil)
      (pss_one (ps_ret (pe_and (pe_callB (call_isiK' (K := K)) (by rfl) T.m_isinstance (by decide +kernel) (pa_cons (pv 0) (pa_cons (pe_bltn (v := .ty "int") (by rfl) T.m_int (by decide +kernel) rfl) pa_nil))) (pe_one (pe_cmpR op_eq (pv 0) (pv 1) (nomark _)))))))))), ?_⟩
  refine s_start (by simp only [L2.start, List.map_cons, List.map_nil, List.length_cons, List.length_nil, Nat.reduceAdd, Nat.reduceSub, List.replicate, List.cons_append, List.nil_append]; rfl) ?_
  cases hsh with
  | non =>
    cases hx
    cases hy
    k_sweep
    exact k _ (Hs.up (by assumption))
  | bl b =>
    cases hx
    cases hy
    k_sweep
    try rw [decide_eq_true rfl]
    exact k _ (Hs.up (by assumption))
  | int i =>
    cases hx
    cases hy
    k_sweep
    try rw [decide_eq_true rfl]
    exact k _ (Hs.up (by assumption))
  | str i =>
    cases hx
    cases hy
    k_sweep
    try rw [decide_eq_true rfl]
    exact k _ (Hs.up (by assumption))
  | @lst _ ds hl ha =>
    cases hx with
    | @lst a1 xs _ sx ax =>
      cases hy with
      | @lst a2 ys _ sy ay =>
        have hlx := DpAll.len ax
        have hly := DpAll.len ay
        k_sweep
        refine f_lcR fun D hD => ⟨fun _ H' => ∃ M, Hs [] H H' ((D, .lst []) :: M) [], ⟨_, Hs.new (by assumption) hD _⟩, ?_, ?_⟩
        · rintro i H2 hi ⟨M2, hS2⟩
          obtain ⟨d', hd'⟩ : ∃ d', ds[i]? = some d' := ⟨ds[i]'(by omega), List.getElem?_eq_getElem _⟩
          obtain ⟨v1, e1, p1⟩ := DpAll.get ax hd'
          obtain ⟨v2, e2, p2⟩ := DpAll.get ay hd'
          have a1 : atI xs (0 + (i : Int)) = some v1 := by rw [Int.zero_add]; exact atI_nat e1
          have a2 : atI ys (0 + (i : Int)) = some v2 := by rw [Int.zero_add]; exact atI_nat e2
          k_sweep
          refine ⟨v1, v2, d', rfl, Dp.same hS2.up.same p1, Dp.same hS2.up.same p2, ha _ (List.mem_of_getElem? hd'), fun H3 u => ?_⟩
          k_sweep
          exact ⟨_, hS2.call0 u⟩
        · rintro H2 ⟨M2, hS2⟩
          k_sweep
          exact k _ (Hs.up (by assumption))
  | @tup _ ds hl ha =>
    cases hx with
    | @tup a1 xs _ sx ax =>
      cases hy with
      | @tup a2 ys _ sy ay =>
        have hlx := DpAll.len ax
        have hly := DpAll.len ay
        k_sweep
        refine f_lcR fun D hD => ⟨fun _ H' => ∃ M, Hs [] H H' ((D, .lst []) :: M) [], ⟨_, Hs.new (by assumption) hD _⟩, ?_, ?_⟩
        · rintro i H2 hi ⟨M2, hS2⟩
          obtain ⟨d', hd'⟩ : ∃ d', ds[i]? = some d' := ⟨ds[i]'(by omega), List.getElem?_eq_getElem _⟩
          obtain ⟨v1, e1, p1⟩ := DpAll.get ax hd'
          obtain ⟨v2, e2, p2⟩ := DpAll.get ay hd'
          have a1 : atI xs (0 + (i : Int)) = some v1 := by rw [Int.zero_add]; exact atI_nat e1
          have a2 : atI ys (0 + (i : Int)) = some v2 := by rw [Int.zero_add]; exact atI_nat e2
          k_sweep
          refine ⟨v1, v2, d', rfl, Dp.same hS2.up.same p1, Dp.same hS2.up.same p2, ha _ (List.mem_of_getElem? hd'), fun H3 u => ?_⟩
          k_sweep
          exact ⟨_, hS2.call0 u⟩
        · rintro H2 ⟨M2, hS2⟩
          k_sweep
          exact k _ (Hs.up (by assumption))
theorem ok_law_lies {f : Addr} {fd : FuncData} (F : Fun K "_law_lies" "_law_lies" st_law_lies f fd) (T : Txt K mg Z) (M_Disk_read : MethOk P w K mg base (L2.CX P w) 3 Z.Disk "read" ["self", "place"] (sp_Disk_read K Z)) : FnOk P w K mg base CX0 4 f fd ["_law_disk", "_law_m"] (sp_law_lies K Z) := by
  obtain ⟨f_Disk_read, fd_Disk_read, G_Disk_read, b_Disk_read, m_Disk_read⟩ := M_Disk_read.ex
  have cl_Disk := T.cl_Disk
  have na_Disk__blocks := T.na_Disk__blocks
  have na_Disk__let := T.na_Disk__let
  have na_Disk__part := T.na_Disk__part
  have na_Disk__reads := T.na_Disk__reads
  have na_Disk__writes := T.na_Disk__writes
  refine F.ok sc_law_lies (fun vs H Q E h => ?_) (fun cdv A outer s H vs Q E hr h => ?_)
  · obtain ⟨_, _, _, _, _, _, _, rfl, _⟩ := h
    rfl
  obtain ⟨d, md, ra, ca, s, m, N, rfl, rfl, hH, ok, okm, ew, k⟩ := h
  have hS := Hs.startL hH
  refine ⟨_, (pss_one (ps_ret (pe_cmpR (op_eqDK (K := K) hr.units) (pe_lc (own := [("_law_place_here", 2)]) (g := gName 2) (by rfl) sc_law_lies.nd (pi_range1 rfl T.m_range (pa_cons (pe_dget (have h := hu_of hr; h) (pv 1) pe_str (fun _ _ => rfl)) pa_nil)) (blkOk_by (N := ["_law_disk", "_law_m", "_law_place_here"]) (sc := defScope st_law_lies) (by decide +kernel)) (fun _ _ _ _ _ => pg_name (i := 2) sc_law_lies.nd rfl (Or.inl rfl)) (fun _ _ _ _ _ => pts_nil) (fun _ _ _ _ _ => (pe_meth (pv 0) T.cl_Disk m_Disk_read G_Disk_read (hr.mono (by decide)) b_Disk_read .nil passL (pa_cons (pv 2) pa_nil)))) (pe_dget (have h := hu_of hr; h) (pv 1) pe_str (fun _ _ => rfl)) (nomark _)))), ?_⟩
  refine s_start (by simp only [L2.start, List.map_cons, List.map_nil, List.length_cons, List.length_nil, Nat.reduceAdd, Nat.reduceSub, List.replicate, List.cons_append, List.nil_append]; rfl) ?_
  unfold both at hS
  have h64 := ok.hi
  k_spoken
  rw [Int.toNat_natCast]
  refine f_lcR fun Dn hD => ⟨fun i H' => ∃ (cs : List Addr) (r : Int), cs.length = i ∧ Hs ((diskL Z d s ++ mL md m s.ws.length ra ca).map Prod.fst) H H' ((Dn, .lst (cs.map V.ref)) :: (rowsL cs (s.ws.take i) ++ (diskL Z d { s with r := r } ++ mL md m s.ws.length ra ca))) [], ⟨[], s.r, rfl, hS.new hD _⟩, ?_, ?_⟩
  · rintro i H2 hi ⟨cs, r, hl, hS2⟩
    have hw := List.getElem?_eq_getElem hi
    have hg : s.ws.getD i [] = s.ws[i] := by rw [List.getD_eq_getElem?_getD, hw]; rfl
    k_spoken
    refine ⟨d, { s with r := r }, _, rfl, hS2.part (by k_drop), ⟨ok.len, ok.lo, ok.hi, ok.each⟩, trivial, fun z => ?_, fun j ej hj q H3 f => ?_⟩
    · simp only [wholeB, Bool.and_eq_false_iff, decide_eq_false_iff_not] at z
      omega
    obtain rfl : j = i := by
      have : (0 : Int) + i = j := by cases ej; rfl
      omega
    have hS3 := hS2.seg f (.there (.skip .here))
    k_spoken
    rename_i H4 hS4 _
    refine ⟨cs ++ [q], r + 1, by rw [List.length_append, hl]; rfl, ?_⟩
    rw [List.take_add_one, hw]
    show Hs _ _ _ (_ :: (rowsL (cs ++ [q]) (s.ws.take j ++ [s.ws[j]]) ++ _)) _
    rw [rowsL_snoc _ _ (by rw [List.length_take, hl]; omega), List.map_append (l₁ := cs), List.append_assoc (rowsL cs _)]
    rw [← hg]
    exact hS4
  · rintro H2 ⟨cs, r, hl, hS2⟩
    rw [List.take_length] at hS2
    k_spoken
    have a1 : ∀ x ∈ rowsL cs s.ws, H2 x.1 = some x.2 := fun x hx => hS2.getM (by simp [hx])
    have a2 : ∀ x ∈ rowsL m.bs s.ws, H2 x.1 = some x.2 := fun x hx => hS2.getM (by simp [mL, ← ew, hx])
    refine s_eqDD (.lst (SqL.of (hS2.getM List.mem_cons_self)) (dp_rows a1 hl)) (.lst (SqL.of (hS2.getM (o := .lst (m.bs.map V.ref)) (by simp [mL]))) (dp_rows a2 (by rw [okm.len, ew]))) (Sh.blocks h64 ok.each) (lay_lists _) (by decide) ?_
    exact k r _ (Frm.of hS2 (by k_drop))
theorem ok_law_words {f : Addr} {fd : FuncData} (F : Fun K "_law_words" "_law_words" st_law_words f fd) (T : Txt K mg Z) (D_law_taken : DefOk P w K mg base CX0 1 "_law_taken" ["_law_row", "_law_many"] (sp_law_taken K Z)) : FnOk P w K mg base CX0 2 f fd ["_law_row"] (sp_law_words K Z) := by
  have cl_Disk := T.cl_Disk
  have na_Disk__blocks := T.na_Disk__blocks
  have na_Disk__let := T.na_Disk__let
  have na_Disk__part := T.na_Disk__part
  have na_Disk__reads := T.na_Disk__reads
  have na_Disk__writes := T.na_Disk__writes
  refine F.ok sc_law_words (fun vs H Q E h => ?_) (fun cdv A outer s H vs Q E hr h => ?_)
  · obtain ⟨_, _, _, _, _, rfl, _⟩ := h
    rfl
  obtain ⟨r, sc, o, ns, S, rfl, hH, ro, hs, k⟩ := h
  have hS := Hs.start1 hH
  refine ⟨_, (pss_cons (ps_set (i := 1) sc_law_words.nd rfl (Or.inl rfl) (pe_lst pa_nil))
      (pss_cons (ps_for PassesOwn.never rfl (pi_range1 rfl T.m_range (pa_cons pe_int pa_nil)) (pg_name (i := 2) sc_law_words.nd rfl (Or.inl rfl))
      (pss_cons (ps_set (i := 4) sc_law_words.nd rfl (Or.inl rfl) (pe_callD D_law_taken hr (by rfl) pass0 (pa_cons (pv 0) (pa_cons pe_int pa_nil))))
      (pss_one (ps_expr (pe_bmK (K := K) PySem.F.plainAttrs_list PySem.F.slot_list_append PySem.F.type_list_append mt_append (pv 1) (pa_cons (pe_ix (ix_listK (K := K)) (pe_lst (pa_cons (pv 4) (pa_cons pe_int (pa_cons (pe_op op_sub (pe_op op_pow pe_int pe_int) (pv 4)) pa_nil)))) (pe_callD D_law_taken hr (by rfl) pass0 (pa_cons (pv 0) (pa_cons pe_int pa_nil))) (fun _ _ => rfl)) pa_nil))))))
      (pss_cons (ps_set (i := 3) sc_law_words.nd rfl (Or.inl rfl) (pe_callD D_law_taken hr (by rfl) pass0 (pa_cons (pv 0) (pa_cons pe_int pa_nil))))
      (pss_cons (ps_set (i := 2) sc_law_words.nd rfl (Or.inl rfl) (pe_callD D_law_taken hr (by rfl) pass0 (pa_cons (pv 0) (pa_cons pe_int pa_nil))))
      (pss_cons (ps_if (pt_cmpR op_eq (pv 3) pe_int (nomark _)) (pss_one (ps_ret (pe_slice (sl_listK (K := K)) (pv 1) po_none (po_some (pv 2))))) pss_nil)
      (pss_cons (ps_if (pt_cmpR op_eq (pv 3) pe_int (nomark _)) (pss_one (ps_ret (pe_op op_cat (pv 1) (pe_lst (pa_cons pe_int pa_nil))))) pss_nil)
      (pss_cons (ps_if (pt_cmpR op_eq (pv 3) pe_int (nomark _)) (pss_one (ps_ret (pe_callTy (call_tupleOfK (K := K)) (by rfl) T.m_tuple (by decide +kernel) (pa_cons (pv 1) pa_nil)))) pss_nil)
      (pss_cons (ps_if (pt_cmpR op_eq (pv 3) pe_int (nomark _)) (pss_cons (ps_set (i := 5) sc_law_words.nd rfl (Or.inl rfl) (pe_ix (ix_listK (K := K)) (pe_lst (pa_cons (pe_op op_sub pe_int pe_int) (pa_cons (pe_op op_add (pe_op op_pow pe_int pe_int) pe_int) (pa_cons pe_bl (pa_cons pe_str (pa_cons pe_non pa_nil)))))) (pe_callD D_law_taken hr (by rfl) pass0 (pa_cons (pv 0) (pa_cons pe_int pa_nil))) (fun _ _ => rfl)))
      (pss_one (ps_ret (pe_op op_cat (pe_op op_cat (pe_slice (sl_listK (K := K)) (pv 1) po_none (po_some (pv 2))) (pe_lst (pa_cons (pv 5) pa_nil))) (pe_slice (sl_listK (K := K)) (pv 1) (po_some (pe_op op_add (pv 2) pe_int)) po_none))))) pss_nil)
      (pss_one (ps_ret (pv 1))))))))))), ?_⟩
  refine s_start (by simp only [L2.start, List.map_cons, List.map_nil, List.length_cons, List.length_nil, Nat.reduceAdd, Nat.reduceSub, List.replicate, List.cons_append, List.nil_append]; rfl) ?_
  k_node
  rename_i D H1 hS1 _ _
  k_node
  refine f_range (fun i σ H' => ∃ (xs : List V) (o : HO) (x2 x3 x4 x5 : Option V), xs.length = i ∧ (∀ x ∈ xs, FlatV x) ∧ σ = [some (.ref r), some (.ref D), x2, x3, x4, x5] ∧ RowO sc o ∧ Hs [r] H H' [(D, .lst xs), (r, o)] S) ⟨[], _, _, _, _, _, rfl, by simp, rfl, ro, hS1⟩ ?_ ?_
  · rintro i σ H3 hi ⟨xs, o3, x2, x3, x4, x5, hl, hf, rfl, ro3, hS3⟩
    k_spoken
    k_node
    apply s_ixPick
    k_here
    assumption
    assumption
    intro x hx
    have hfx : FlatV x := by
      simp only [List.mem_cons, List.not_mem_nil, or_false] at hx
      rcases hx with rfl | rfl | rfl <;> exact trivial
    have hlt : xs.length < 1000 := by omega
    k_spoken
    rename_i o5 H5 _ _ ro5 _ hS5 H6 hS6 _
    refine ⟨xs ++ [x], _, _, _, _, _, by rw [List.length_append, hl]; rfl, ?_, rfl, ro5, hS6.sub (by k_drop)⟩
    intro y hy
    rcases List.mem_append.mp hy with hy | hy
    · exact hf y hy
    · rw [List.mem_singleton.mp hy]; exact hfx
  · rintro σ H3 ⟨xs, o3, x2, x3, x4, x5, hl, hf, rfl, ro3, hS3⟩
    have hl8 : xs.length = 8 := hl
    k_node
    k_node
    rename_i way o4 H4 hw0 hw1 ro4 _ hS4 kk o5 H5 hk0 hk1 ro5 _ hS5
    k_node
    apply s_iteD
    · intro _
      k_sweep
      rename_i p H6 hS6 _ _
      refine k _ true _ p H6 ?_ ?_ ro5 (hS6.sub (by k_drop))
      · exact Nat.le_trans (cutV_length _ _ _) (by omega)
      · exact fun x hx => hf x (cutV_mem hx)
    · intro _
      k_sweep
      apply s_iteD
      · intro _
        k_sweep
        rename_i q H6 hS6 _ _ p H7 hS7 _ _
        refine k _ true _ p H7 ?_ ?_ ro5 (hS7.sub (by k_drop))
        · rw [List.length_append]; simp; omega
        · intro y hy
          rcases List.mem_append.mp hy with hy | hy
          · exact hf y hy
          · rw [List.mem_singleton.mp hy]; exact trivial
      · intro _
        k_sweep
        apply s_iteD
        · intro _
          k_sweep
          rename_i p H6 hS6 _ _
          exact k _ false xs p H6 (by omega) hf ro5 (hS6.sub (by k_drop))
        · intro _
          k_sweep
          apply s_iteD
          · intro _
            k_sweep
            rename_i v o6 H6 _ _ ro6 _ hS6
            apply s_ixPick
            k_here
            assumption
            assumption
            intro x hx
            have hfx : FlatV x := by
              simp only [List.mem_cons, List.not_mem_nil, or_false] at hx
              rcases hx with rfl | rfl | rfl | rfl | rfl
              · exact trivial
              · exact trivial
              · exact trivial
              · exact (show (PyData.str "1").canLay0 = true by decide +kernel)
              · exact trivial
            have c1 := cutV_length xs none (some kk)
            have c2 := cutV_length xs (some (kk + 1)) none
            k_sweep
            rename_i p H9 hS9 _ _
            refine k _ true _ p H9 ?_ ?_ ro6 (hS9.sub (by k_drop))
            · simp only [List.length_append, List.length_cons, List.length_nil]; omega
            · intro y hy
              simp only [List.mem_append, List.mem_singleton] at hy
              rcases hy with (hy | rfl) | hy
              · exact hf y (cutV_mem hy)
              · exact hfx
              · exact hf y (cutV_mem hy)
          · intro _
            k_sweep
            exact k _ true xs D H5 (by omega) hf ro5 hS5
theorem ok_law_good {f : Addr} {fd : FuncData} (F : Fun K "_law_good" "_law_good" st_law_good f fd) (T : Txt K mg Z)  : FnOk P w K mg base CX0 1 f fd ["_law_words_here"] (sp_law_good K Z) := by
  have cl_Disk := T.cl_Disk
  have na_Disk__blocks := T.na_Disk__blocks
  have na_Disk__let := T.na_Disk__let
  have na_Disk__part := T.na_Disk__part
  have na_Disk__reads := T.na_Disk__reads
  have na_Disk__writes := T.na_Disk__writes
  refine F.ok sc_law_good (fun vs H Q E h => ?_) (fun cdv A outer s H vs Q E hr h => ?_)
  · obtain ⟨_, _, _, rfl, _⟩ := h
    rfl
  obtain ⟨a, b, items, rfl, ha, hf, hz, k⟩ := h
  have hS := Hs.startI (Holds.one ha)
  refine ⟨_, (pss_cons (ps_if (PW.pt (pw_or (pt_not (pt_val (pe_callB (call_isiK' (K := K)) (by rfl) T.m_isinstance (by decide +kernel) (pa_cons (pv 0) (pa_cons (pe_bltn (v := .ty "list") (by rfl) T.m_list (by decide +kernel) rfl) pa_nil))))) (pw_or1 (pt_cmpR op_ne (pe_callB (call_lenK (K := K)) (by rfl) T.m_len (by decide +kernel) (pa_cons (pv 0) pa_nil)) pe_int (nomark _))))) (pss_one (ps_ret pe_bl)) pss_nil)
      (pss_cons (ps_setLc (i := 1) (own := [("_law_word", 2)]) (g := gName 2) (by rfl) sc_law_good.nd rfl rfl (sw_true rfl rfl rfl (by decide +kernel)) (pi_listK (K := K) (pv 0)) (blkOk_by (N := ["_law_words_here", "_law_bad", "_law_word"]) (sc := defScope st_law_good) (by decide +kernel)) (fun _ _ _ _ _ => pg_name (i := 2) sc_law_good.nd rfl (Or.inl rfl)) (fun _ _ _ _ _ => (pts_one (PW.pt (pw_or (pt_not (pt_val (pe_callB (call_isiK' (K := K)) (by rfl) T.m_isinstance (by decide +kernel) (pa_cons (pv 2) (pa_cons (pe_bltn (v := .ty "int") (by rfl) T.m_int (by decide +kernel) rfl) pa_nil))))) (pw_or1 (pt_val (pe_callB (call_isiK' (K := K)) (by rfl) T.m_isinstance (by decide +kernel) (pa_cons (pv 2) (pa_cons (pe_bltn (v := .ty "bool") (by rfl) T.m_bool (by decide +kernel) rfl) pa_nil))))))))) (fun _ _ _ _ _ => (pv 2)))
      (pss_one (ps_ret (pe_and (pe_cmpR (op_eqDK (K := K) hr.units) (pv 1) (pe_lst pa_nil) (nomark _)) (pe_and (pe_cmpR op_ge (pe_callB (cr_minK (K := K) rfl) (by rfl) T.m_min (by decide +kernel) (pa_cons (pv 0) pa_nil)) pe_int (nomark _)) (pe_one (pe_cmpR op_le (pe_callB (cr_maxK (K := K) rfl) (by rfl) T.m_max (by decide +kernel) (pa_cons (pv 0) pa_nil)) (pe_op op_pow pe_int pe_int) (nomark _))))))))), ?_⟩
  refine s_start (by simp only [L2.start, List.map_cons, List.map_nil, List.length_cons, List.length_nil, Nat.reduceAdd, Nat.reduceSub, List.replicate, List.cons_append, List.nil_append]; rfl) ?_
  cases b with
  | false =>
    simp only [Bool.false_eq_true, if_false] at hS
    k_sweep
    exact k _ (Hs.up (by assumption))
  | true =>
    simp only [if_true] at hS
    k_node
    apply s_iteD
    · intro c
      k_sweep
      have e : blockB items = false := by
        simp only [blockB, Bool.and_eq_false_iff, decide_eq_false_iff_not]
        left
        omega
      rw [e] at k
      exact k _ (Hs.up (by assumption))
    · intro c
      k_sweep
      have hl8 : items.length = 8 := by omega
      refine f_lcL (xs := items) fun Dn hD => ⟨fun i H' => Hs [] H H' [(Dn, .lst ((items.take i).filter fun v => !isI v))] [(a, .lst items)], hS.new hD _, ?_, ?_, ?_⟩
      · intro i H' _ h2
        exact SqL.of (h2.getI List.mem_cons_self)
      · intro i x H2 hx hS2
        have hfx := hf x (List.mem_of_getElem? hx)
        have hlt : i < items.length := (List.getElem?_eq_some_iff.mp hx).1
        have hll : ((items.take i).filter fun v => !isI v).length < 1000 := by
          refine Nat.lt_of_le_of_lt (List.length_filter_le _ _) ?_
          rw [List.length_take]
          omega
        have e : items.take (i + 1) = items.take i ++ [x] := by
          rw [List.take_add_one, hx]
          rfl
        cases x with
        | int m =>
          k_spoken
          show Hs [] H _ [(Dn, .lst ((items.take (i + 1)).filter fun v => !isI v))] [(a, .lst items)]
          rw [e, List.filter_append]
          show Hs [] H _ [(Dn, .lst (_ ++ []))] [(a, .lst items)]
          rw [List.append_nil]
          exact hS2
        | bl m =>
          k_spoken
          show Hs [] H _ [(Dn, .lst ((items.take (i + 1)).filter fun v => !isI v))] [(a, .lst items)]
          rw [e, List.filter_append]
          assumption
        | str m =>
          k_spoken
          show Hs [] H _ [(Dn, .lst ((items.take (i + 1)).filter fun v => !isI v))] [(a, .lst items)]
          rw [e, List.filter_append]
          assumption
        | non =>
          k_spoken
          show Hs [] H _ [(Dn, .lst ((items.take (i + 1)).filter fun v => !isI v))] [(a, .lst items)]
          rw [e, List.filter_append]
          assumption
        | byt b => exact hfx.elim
        | flt b => exact hfx.elim
        | ref b => exact hfx.elim
        | ty b => exact hfx.elim
      · intro H2 hS2
        rw [List.take_length] at hS2
        k_spoken
        rename_i p H3 hS3 _ _
        by_cases hall : ∀ x ∈ items, isI x = true
        · obtain ⟨ns, rfl⟩ := isI_ints hall
          have e : (ns.map V.int).filter (fun v => !isI v) = [] := by
            rw [List.filter_eq_nil_iff]
            intro x hx
            rw [hall x hx]
            simp
          rw [e] at hS3
          rw [List.length_map] at hl8
          k_spoken
          refine s_minL (SqL.of (hS3.getI List.mem_cons_self)) (by omega) ?_
          intro lo hlo1 hlo2
          k_spoken
          apply s_iteD
          · intro h0
            k_spoken
            refine s_maxL (SqL.of (hS3.getI List.mem_cons_self)) (by omega) ?_
            intro hi hhi1 hhi2
            k_spoken
            have e2 : (true && blockB (ns.map V.int)) = decide (hi ≤ 10 ^ Int.toNat 15) := by
              rw [show (10 : Int) ^ Int.toNat 15 = 1000000000000000 from rfl]
              simp only [blockB, List.length_map, hl8, decide_true, Bool.true_and]
              rw [Bool.eq_iff_iff, List.all_eq_true, decide_eq_true_eq]
              constructor
              · intro q
                have := q (.int hi) (List.mem_map_of_mem hhi1)
                simp only [wholeB, Bool.and_eq_true, decide_eq_true_eq] at this
                exact this.2
              · rintro q v hv
                obtain ⟨y, hy, rfl⟩ := List.mem_map.mp hv
                simp only [wholeB, Bool.and_eq_true, decide_eq_true_eq]
                have := hlo2 y hy
                have := hhi2 y hy
                omega
            rw [e2] at k
            exact k _ hS3.up
          · intro h0
            k_spoken
            have e2 : (true && blockB (ns.map V.int)) = false := by
              rw [Bool.true_and]
              simp only [blockB, Bool.and_eq_false_iff, List.all_eq_false]
              right
              refine ⟨.int lo, List.mem_map_of_mem hlo1, ?_⟩
              simp only [wholeB, Bool.and_eq_true, decide_eq_true_eq]
              omega
            rw [e2] at k
            exact k _ hS3.up
        · have hb : ∀ x ∈ items.filter (fun v => !isI v), FlatV x := fun x hx => hf x (List.mem_filter.mp hx).1
          have hz2 : (items.filter fun v => !isI v).length ≤ 1000 := Nat.le_trans (List.length_filter_le _ _) hz
          refine ⟨_, .list [], .lst (SqL.of (hS3.getM (by k_data))) (DpAll.flat hb), .lst (SqL.of (hS3.getM (by k_data))) .nil, flat_shaped hb hz2, rfl, ?_⟩
          obtain ⟨x, hx, hxi⟩ : ∃ x, x ∈ items ∧ ¬ isI x = true := by simpa using hall
          have hm : x ∈ items.filter fun v => !isI v := List.mem_filter.mpr ⟨hx, by simpa using hxi⟩
          have e : PyData.eqv (.list ((items.filter fun v => !isI v).map flatD)) (.list []) = false := by
            cases h : items.filter fun v => !isI v with
            | nil => rw [h] at hm; cases hm
            | cons y l => rfl
          rw [e]
          k_spoken
          have e2 : (true && blockB items) = false := by
            rw [Bool.true_and]
            simp only [blockB, Bool.and_eq_false_iff, List.all_eq_false]
            right
            refine ⟨x, hx, ?_⟩
            cases x with
            | int i => exact absurd rfl hxi
            | _ => exact fun z => by cases z
          rw [e2] at k
          exact k _ hS3.up
theorem ok_law_place {f : Addr} {fd : FuncData} (F : Fun K "_law_place" "_law_place" st_law_place f fd) (T : Txt K mg Z) (D_law_taken : DefOk P w K mg base CX0 1 "_law_taken" ["_law_row", "_law_many"] (sp_law_taken K Z)) : FnOk P w K mg base CX0 2 f fd ["_law_row", "_law_many"] (sp_law_place K Z) := by
  have cl_Disk := T.cl_Disk
  have na_Disk__blocks := T.na_Disk__blocks
  have na_Disk__let := T.na_Disk__let
  have na_Disk__part := T.na_Disk__part
  have na_Disk__reads := T.na_Disk__reads
  have na_Disk__writes := T.na_Disk__writes
  refine F.ok sc_law_place (fun vs H Q E h => ?_) (fun cdv A outer s H vs Q E hr h => ?_)
  · obtain ⟨_, _, _, _, _, _, rfl, _⟩ := h
    rfl
  obtain ⟨r, sc, o, ns, S, n, rfl, hH, ro, hs, hn, k⟩ := h
  have hS := Hs.start1 hH
  refine ⟨_, (pss_cons (ps_set (i := 2) sc_law_place.nd rfl (Or.inl rfl) (pe_lst (pa_cons (pe_op op_sub pe_int pe_int) (pa_cons (pv 1) (pa_cons pe_non (pa_cons pe_str (pa_cons pe_bl pa_nil)))))))
      (pss_one (ps_ret (pe_ifExp (pt_cmpR op_eq (pe_callD D_law_taken hr (by rfl) pass0 (pa_cons (pv 0) (pa_cons pe_int pa_nil))) pe_int (nomark _)) (pe_ix (ix_listK (K := K)) (pv 2) (pe_callD D_law_taken hr (by rfl) pass0 (pa_cons (pv 0) (pa_cons pe_int pa_nil))) (fun _ _ => rfl)) (pe_callD D_law_taken hr (by rfl) pass0 (pa_cons (pv 0) (pa_cons (pv 1) pa_nil))))))), ?_⟩
  refine s_start (by simp only [L2.start, List.map_cons, List.map_nil, List.length_cons, List.length_nil, Nat.reduceAdd, Nat.reduceSub, List.replicate, List.cons_append, List.nil_append]; rfl) ?_
  k_sweep
  rename_i v o1 H1 _ _ ro1 _ hS1
  apply s_iteD
  · intro _
    k_spoken
    apply s_ixPick
    k_here
    assumption
    assumption
    intro x hx
    have hfx : FlatV x := by
      simp only [List.mem_cons, List.not_mem_nil, or_false] at hx
      rcases hx with rfl | rfl | rfl | rfl | rfl
      · exact trivial
      · exact trivial
      · exact trivial
      · exact (show (PyData.str "0").canLay0 = true by decide +kernel)
      · exact trivial
    exact k _ _ _ hfx (Hs.up (by assumption)) (by k_here) (by assumption)
  · intro _
    k_spoken
    exact k _ _ _ trivial (Hs.up (by assumption)) (by k_here) (by assumption)
theorem ok_law_wrote {f : Addr} {fd : FuncData} (F : Fun K "_law_wrote" "_law_wrote" st_law_wrote f fd) (T : Txt K mg Z) (M_Disk_write : MethOk P w K mg base (L2.CX P w) 3 Z.Disk "write" ["self", "place", "words"] (sp_Disk_write K Z)) : FnOk P w K mg base CX0 4 f fd ["_law_disk", "_law_place_here", "_law_words_here"] (sp_law_wrote K Z) := by
  obtain ⟨f_Disk_write, fd_Disk_write, G_Disk_write, b_Disk_write, m_Disk_write⟩ := M_Disk_write.ex
  have cl_Disk := T.cl_Disk
  have na_Disk__blocks := T.na_Disk__blocks
  have na_Disk__let := T.na_Disk__let
  have na_Disk__part := T.na_Disk__part
  have na_Disk__reads := T.na_Disk__reads
  have na_Disk__writes := T.na_Disk__writes
  refine F.ok sc_law_wrote (fun vs H Q E h => ?_) (fun cdv A outer s H vs Q E hr h => ?_)
  · obtain ⟨_, _, _, _, _, _, rfl, _⟩ := h
    rfl
  obtain ⟨d, wa, s, v, l, items, rfl, hH, ok, hv, hf, hz, hp0, hp1, kN, kB, kW⟩ := h
  have hS : Hs (List.map Prod.fst ((wa, if l then HO.lst items else .tup items) :: diskL Z d s)) H H ((wa, if l then HO.lst items else .tup items) :: diskL Z d s) [] := Hs.startL hH
  refine ⟨_, (pss_one (ps_try_many rfl rfl takes0 (fun W pn xe tk _ => (pss_one (ps_ret (pe_methS (pv 0) T.cl_Disk m_Disk_write G_Disk_write (hr.mono (by decide)) b_Disk_write (fun σ => passAt tk σ) (pa_cons (pv 1) (pa_cons (pv 2) pa_nil)))))) (HdsOk.cons ⟨rfl, by decide, .inl T.g_NoBlock⟩ (fun a oe cls d pn hz hf => (pss_one (ps_ret pe_str))) (HdsOk.cons ⟨rfl, by decide, .inl T.g_BadBlock⟩ (fun a oe cls d pn hz hf => (pss_one (ps_ret pe_str))) (HdsOk.cons ⟨rfl, by decide, .inl T.g_Stopped⟩ (fun a oe cls d pn hz hf => (pss_one (ps_ret pe_str))) HdsOk.nil))))), ?_⟩
  refine s_start (by simp only [L2.start, List.map_cons, List.map_nil, List.length_cons, List.length_nil, Nat.reduceAdd, Nat.reduceSub, List.replicate, List.cons_append, List.nil_append]; rfl) ?_
  k_spoken
  refine ⟨d, wa, s, v, l, items, rfl, hH, ok, hv, hf, hz, hp0, hp1, fun c => ?_, fun c1 c2 H' u => ?_, fun i w e1 e2 e3 e4 e5 eb => ⟨fun e6 bs H' hl f => ?_, fun e6 bs H' hl f => (kW i w e1 e2 e3 e4 e5 eb).2 e6 bs H' hl f⟩⟩
  · refine s_many T.e_NoBlock_NoBlock fun a ha => ?_
    k_spoken
    exact kN c _ (Upto.refl _ _)
  · refine s_manyNo T.e_BadBlock_NoBlock (s_many T.e_BadBlock_BadBlock fun a ha => ?_)
    k_spoken
    exact kB c1 c2 _ u
  · refine s_manyNo T.e_Stopped_NoBlock (s_manyNo T.e_Stopped_BadBlock (s_many T.e_Stopped_Stopped fun a ha => ?_))
    k_spoken
    exact (kW i w e1 e2 e3 e4 e5 eb).1 e6 bs _ hl f
theorem ok_law_to_write {f : Addr} {fd : FuncData} (F : Fun K "_law_to_write" "_law_to_write" st_law_to_write f fd) (T : Txt K mg Z) (D_law_good : DefOk P w K mg base CX0 1 "_law_good" ["_law_words_here"] (sp_law_good K Z)) : FnOk P w K mg base CX0 2 f fd ["_law_m", "_law_place_here", "_law_words_here"] (sp_law_to_write K Z) := by
  have cl_Disk := T.cl_Disk
  have na_Disk__blocks := T.na_Disk__blocks
  have na_Disk__let := T.na_Disk__let
  have na_Disk__part := T.na_Disk__part
  have na_Disk__reads := T.na_Disk__reads
  have na_Disk__writes := T.na_Disk__writes
  refine F.ok sc_law_to_write (fun vs H Q E h => ?_) (fun cdv A outer s H vs Q E hr h => ?_)
  · obtain ⟨_, _, _, _, _, _, _, _, _, rfl, _⟩ := h
    rfl
  obtain ⟨md, wa, ra, ca, m, v, l, items, N, rfl, rfl, hH, ok, hv, hf, hz, hp0, hp1, kN, kB, kW⟩ := h
  have hS := Hs.startC hH
  refine ⟨_, (pss_cons (ps_if (PW.pt (pw_or (pt_val (pe_callB (call_isiK' (K := K)) (by rfl) T.m_isinstance (by decide +kernel) (pa_cons (pv 1) (pa_cons (pe_bltn (v := .ty "bool") (by rfl) T.m_bool (by decide +kernel) rfl) pa_nil)))) (pw_or1 (pt_cmpR op_notInRng (pv 1) (pe_callTy cr_range1 (by rfl) T.m_range (by decide +kernel) (pa_cons (pe_dget (have h := hu_of hr; h) (pv 0) pe_str (fun _ _ => rfl)) pa_nil)) (by rfl))))) (pss_one (ps_ret pe_str)) pss_nil)
      (pss_cons (ps_if (pt_not (pt_val (pe_callD D_law_good hr (by rfl) pass0 (pa_cons (pv 2) pa_nil)))) (pss_one (ps_ret pe_str)) pss_nil)
      (pss_cons (ps_if (pt_cmpR op_eq (pe_dget (have h := hu_of hr; h) (pv 0) pe_str (fun _ _ => rfl)) pe_int (nomark _)) (pss_cons (ps_set (i := 3) sc_law_to_write.nd rfl (Or.inl rfl) (pe_dget (have h := hu_of hr; h) (pv 0) pe_str (fun _ _ => rfl)))
      (pss_cons (ps_asg (pe_op op_cat (pe_slice (sl_listK (K := K)) (pv 2) po_none (po_some (pv 3))) (pe_slice (sl_listK (K := K)) (pe_ix (ix_listK (K := K)) (pe_dget (have h := hu_of hr; h) (pv 0) pe_str (fun _ _ => rfl)) (pv 1) (fun _ _ => rfl)) (po_some (pv 3)) po_none)) (pg_sub (pe_dget (have h := hu_of hr; h) (pv 0) pe_str (fun _ _ => rfl)) (pv 1) set_list))
      (pss_cons (ps_dput (have h := hu_of hr; h) (pv 0) pe_str pe_int rfl)
      (pss_one (ps_ret pe_str))))) pss_nil)
      (pss_cons (ps_if (pt_cmpR op_notN' (pe_dget (have h := hu_of hr; h) (pv 0) pe_str (fun _ _ => rfl)) pe_non (nomark _)) (pss_one (ps_dput (have h := hu_of hr; h) (pv 0) pe_str (pe_op op_sub (pe_dget (have h := hu_of hr; h) (pv 0) pe_str (fun _ _ => rfl)) pe_int) rfl)) pss_nil)
      (pss_cons (ps_asg (pe_callTy (call_listOfK (K := K)) (by rfl) T.m_list (by decide +kernel) (pa_cons (pv 2) pa_nil)) (pg_sub (pe_dget (have h := hu_of hr; h) (pv 0) pe_str (fun _ _ => rfl)) (pv 1) set_list))
      (pss_cons (ps_dput (have h := hu_of hr; h) (pv 0) pe_str (pe_op op_add (pe_dget (have h := hu_of hr; h) (pv 0) pe_str (fun _ _ => rfl)) pe_int) rfl)
      (pss_one (ps_ret pe_non)))))))), ?_⟩
  refine s_start (by simp only [L2.start, List.map_cons, List.map_nil, List.length_cons, List.length_nil, Nat.reduceAdd, Nat.reduceSub, List.replicate, List.cons_append, List.nil_append]; rfl) ?_
  unfold mL at hS
  have h4 := ok.lo
  cases v with
  | byt b => exact hv.elim
  | flt b => exact hv.elim
  | ref b => exact hv.elim
  | ty b => exact hv.elim
  | bl b =>
    k_sweep
    exact kN rfl _ (Upto.refl _ _)
  | non =>
    k_sweep
    exact kN rfl _ (by assumption)
  | str b =>
    k_sweep
    exact kN rfl _ (by assumption)
  | int i0 =>
    by_cases hin : 0 ≤ i0 ∧ i0 < m.ws.length
    · obtain ⟨i, rfl⟩ : ∃ i : Nat, i0 = (i : Int) := ⟨i0.toNat, by omega⟩
      have hi : i < m.ws.length := by omega
      have hwB : wholeB (.int i) 0 (m.ws.length - 1) = true := by
        simp only [wholeB, Bool.and_eq_true, decide_eq_true_eq]
        omega
      have hg : (m.ws.getD i []) = m.ws[i] := by rw [List.getD_eq_getElem?_getD, List.getElem?_eq_getElem hi]; rfl
      obtain ⟨b, hb⟩ : ∃ b, m.bs[i]? = some b := ⟨_, List.getElem?_eq_getElem (by rw [ok.len]; exact hi)⟩
      have hw := List.getElem?_eq_getElem hi
      have a1 : atI (m.bs.map V.ref) (i : Int) = some (V.ref b) := atI_nat (by rw [List.getElem?_map, hb]; rfl)
      have hmem := rowsL_get hb hw
      have ho8 : m.ws[i].length = 8 := ok.each _ (List.getElem_mem hi)
      have hib : i < m.bs.length := by rw [ok.len]; exact hi
      k_node
      rename_i pr H1 hS1 u1 _
      k_node
      refine s_law_good hS1 (hS1.getI List.mem_cons_self) hf hz ?_
      intro H2 hS2 u2
      have u12 := u1.trans u2
      have hS2 := hS2.tl
      cases hbk : (l && blockB items) with
      | false =>
        k_spoken
        exact kB hwB hbk _ u12
      | true =>
        obtain ⟨rfl, hb2⟩ : l = true ∧ blockB items = true := by simpa using hbk
        obtain ⟨w, rfl, hw8⟩ := blockB_ints hb2
        obtain ⟨kS, kG⟩ := kW i w rfl hi rfl rfl hw8 hb2
        simp only [if_true] at hS2
        k_spoken
        k_node
        cases hlt : m.lt with
        | none =>
          refine s_eqV rfl ?_
          simp only [hlt, ltV, reduceCtorEq, decide_false]
          k_spoken
          k_node
          simp only [hlt, ltV]
          k_spoken
          k_node
          rename_i p H3 hS3 _ _
          refine s_setL hS3 (by k_here) (SetI.refs hib) (by k_get) ?_
          intro H4 hS4 _
          k_sweep
          rename_i H5 hS5 _
          have hS6 := Hs.setRow0 (i := i) (A := [(md, HO.dK (mK { m with w := m.w + 1 } m.ws.length ra ca)), (m.bl, .lst ((m.bs.set i p).map V.ref))]) hS5 hib ok.len
          refine kG (by rw [hlt]; simp) (m.bs.set i p) _ (by rw [List.length_set]) ?_
          rw [show m.lt.map (· - 1) = m.lt by rw [hlt]; rfl]
          exact Frm.of hS6 (List.Sublist.refl _)
        | some t =>
          simp only [ltV]
          k_spoken
          apply s_iteD
          · intro e0
            have e1 : t = 0 := by simpa using e0
            subst e1
            k_node
            k_node
            rename_i p H3 hS3 _ _
            rw [mixV hw8 ho8 hp0 hp1] at hS3
            refine s_setL hS3 (by k_here) (SetI.refs hib) (by k_get) ?_
            intro H4 hS4 _
            k_sweep
            rename_i H5 hS5 _
            have hS6 : Hs _ H H5 ((p, .lst ((mixW m.p w m.ws[i]).map V.int)) :: ([(md, HO.dK (mK { m with p := 0 } m.ws.length ra ca)), (m.bl, .lst ((m.bs.set i p).map V.ref))] ++ rowsL m.bs m.ws)) [(wa, .lst (w.map V.int))] := Hs.sub hS5 (by k_drop)
            have hS7 := Hs.setRow0 (i := i) hS6 hib ok.len
            refine kS hlt (m.bs.set i p) _ (by rw [List.length_set]) ?_
            rw [hg]
            exact Frm.of hS7 (List.Sublist.refl _)
          · intro e0
            k_spoken
            k_node
            simp only [hlt, ltV]
            k_spoken
            simp only [hlt, ltV]
            k_spoken
            k_node
            rename_i p H3 hS3 _ _
            refine s_setL hS3 (by k_here) (SetI.refs hib) (by k_get) ?_
            intro H4 hS4 _
            k_sweep
            rename_i H5 hS5 _
            have hS6 := Hs.setRow0 (i := i) (A := [(md, HO.dK (mK { m with w := m.w + 1, lt := some (t - 1) } m.ws.length ra ca)), (m.bl, .lst ((m.bs.set i p).map V.ref))]) hS5 hib ok.len
            refine kG (by rw [hlt]; simpa using e0) (m.bs.set i p) _ (by rw [List.length_set]) ?_
            rw [show m.lt.map (· - 1) = some (t - 1) by rw [hlt]; rfl]
            exact Frm.of hS6 (List.Sublist.refl _)
    · have hwB : wholeB (.int i0) 0 (m.ws.length - 1) = false := by
        simp only [wholeB, Bool.and_eq_false_iff, decide_eq_false_iff_not]
        omega
      k_sweep
      exact kN hwB _ (by assumption)
theorem ok_law_read {f : Addr} {fd : FuncData} (F : Fun K "_law_read" "_law_read" st_law_read f fd) (T : Txt K mg Z) (M_Disk_read : MethOk P w K mg base (L2.CX P w) 3 Z.Disk "read" ["self", "place"] (sp_Disk_read K Z)) (D_law_alike : DefOk P w K mg base CX0 6 "_law_alike" ["_law_found", "_law_due"] (sp_law_alike K Z 6)) : FnOk P w K mg base CX0 7 f fd ["_law_disk", "_law_m", "_law_place_here"] (sp_law_read K Z) := by
  obtain ⟨f_Disk_read, fd_Disk_read, G_Disk_read, b_Disk_read, m_Disk_read⟩ := M_Disk_read.ex
  have cl_Disk := T.cl_Disk
  have na_Disk__blocks := T.na_Disk__blocks
  have na_Disk__let := T.na_Disk__let
  have na_Disk__part := T.na_Disk__part
  have na_Disk__reads := T.na_Disk__reads
  have na_Disk__writes := T.na_Disk__writes
  refine F.ok sc_law_read (fun vs H Q E h => ?_) (fun cdv A outer s H vs Q E hr h => ?_)
  · obtain ⟨_, _, _, _, _, _, _, _, rfl, _⟩ := h
    rfl
  obtain ⟨d, md, ra, ca, s, m, v, N, rfl, rfl, hH, ag, hv, k⟩ := h
  have hS := Hs.startL hH
  refine ⟨_, (pss_cons (ps_try_only rfl rfl ⟨rfl, by decide, .inl T.g_NoBlock⟩ takes0 (fun W pn xe tk _ => (pss_one (ps_set (i := 4) sc_law_read.nd rfl (Or.inl rfl) (pe_methS (pv 0) T.cl_Disk m_Disk_read G_Disk_read (hr.mono (by decide)) b_Disk_read (fun σ => passAt tk σ) (pa_cons (pv 2) pa_nil))))) (fun a oe cls d pn hz hf => (pss_one (ps_ret (pe_or (pe_callB (call_isiK' (K := K)) (by rfl) T.m_isinstance (by decide +kernel) (pa_cons (pv 2) (pa_cons (pe_bltn (v := .ty "bool") (by rfl) T.m_bool (by decide +kernel) rfl) pa_nil))) (pe_one (pe_cmpR op_notInRng (pv 2) (pe_callTy cr_range1 (by rfl) T.m_range (by decide +kernel) (pa_cons (pe_dget (have h := hu_of hr; h) (pv 1) pe_str (fun _ _ => rfl)) pa_nil)) (by rfl))))))))
      (pss_cons (ps_dput (have h := hu_of hr; h) (pv 1) pe_str (pe_op op_add (pe_dget (have h := hu_of hr; h) (pv 1) pe_str (fun _ _ => rfl)) pe_int) rfl)
      (pss_cons (ps_set (i := 3) sc_law_read.nd rfl (Or.inl rfl) (pe_and (pe_not (pe_callB (call_isiK' (K := K)) (by rfl) T.m_isinstance (by decide +kernel) (pa_cons (pv 2) (pa_cons (pe_bltn (v := .ty "bool") (by rfl) T.m_bool (by decide +kernel) rfl) pa_nil)))) (pe_one (pe_callD D_law_alike hr (by rfl) pass0 (pa_cons (pv 4) (pa_cons (pe_ix (ix_listK (K := K)) (pe_dget (have h := hu_of hr; h) (pv 1) pe_str (fun _ _ => rfl)) (pv 2) (fun _ _ => rfl)) pa_nil))))))
      (pss_cons (ps_expr (pe_bm0K (K := K) PySem.F.plainAttrs_list PySem.F.slot_list_clear PySem.F.type_list_clear mt_clear (pv 4)))
      (pss_one (ps_ret (pv 3))))))), ?_⟩
  refine s_start (by simp only [L2.start, List.map_cons, List.map_nil, List.length_cons, List.length_nil, Nat.reduceAdd, Nat.reduceSub, List.replicate, List.cons_append, List.nil_append]; rfl) ?_
  unfold both at hS
  have h4 := ag.ok.lo
  k_node
  refine ⟨d, s, v, rfl, hS.part (by k_drop), ag.ok, hv, fun c => ?_, fun i ei hi q H1 f => ?_⟩
  · refine s_only T.e_NoBlock_NoBlock fun a ha => ?_
    have hS2 : Hs _ H H (diskL Z d s ++ mL md m s.ws.length ra ca) [] := hS
    unfold mL at hS2
    have fin : ∀ H', Hs ((both Z d md s m s.ws.length ra ca).map Prod.fst) H H' (diskL Z d s ++ mL md m s.ws.length ra ca) [] → Q (.bl true) H' := fun H' h => by
      refine k s.r H' (Frm.of h ?_)
      have e : ({ m with r := s.r } : DS) = m := by rw [ag.r]
      rw [e]
      exact List.Sublist.refl _
    cases v with
    | byt b => exact hv.elim
    | flt b => exact hv.elim
    | ref b => exact hv.elim
    | ty b => exact hv.elim
    | bl b =>
      k_spoken
      exact fin _ hS2
    | non =>
      k_spoken
      rename_i h _ _
      exact fin _ h.tl
    | str b =>
      k_spoken
      rename_i h _ _
      exact fin _ h.tl
    | int i0 =>
      k_spoken
      rename_i h _ _
      have e : (!decide (0 ≤ i0 ∧ i0 < (s.ws.length : Int))) = true := by
        simp only [wholeB, Bool.and_eq_false_iff, decide_eq_false_iff_not] at c
        rw [Bool.not_eq_true', decide_eq_false_iff_not]
        omega
      rw [e]
      exact fin _ h.tl
  · subst ei
    have ews := ag.ws
    have hS1 := hS.seg f .here
    unfold mL at hS1
    have him : i < m.ws.length := by rw [← ews]; exact hi
    obtain ⟨b, hb⟩ : ∃ b, m.bs[i]? = some b := ⟨_, List.getElem?_eq_getElem (by rw [ag.okm.len]; exact him)⟩
    have hw : m.ws[i]? = some (s.ws.getD i []) := by rw [← ews, List.getD_eq_getElem?_getD, List.getElem?_eq_getElem hi]; rfl
    have a1 : atI (m.bs.map V.ref) (i : Int) = some (V.ref b) := atI_nat (by rw [List.getElem?_map, hb]; rfl)
    have hmem := rowsL_get hb hw
    have h8 : (s.ws.getD i []).length = 8 := ag.okm.each _ (List.mem_of_getElem? hw)
    k_spoken
    k_node
    k_sweep
    rename_i H5 hS5 _
    have e : m.r + 1 = s.r + 1 := by rw [ag.r]
    rw [e] at hS5
    exact k (s.r + 1) _ (Frm.of hS5 (by k_drop))
theorem ok_law_bad_stop {f : Addr} {fd : FuncData} (F : Fun K "_law_bad_stop" "_law_bad_stop" st_law_bad_stop f fd) (T : Txt K mg Z) (M_Disk_stop_after : MethOk P w K mg base (L2.CX P w) 2 Z.Disk "stop_after" ["self", "count", "part"] (sp_Disk_stop_after K Z)) (D_law_taken : DefOk P w K mg base CX0 1 "_law_taken" ["_law_row", "_law_many"] (sp_law_taken K Z)) : FnOk P w K mg base CX0 3 f fd ["_law_disk", "_law_row"] (sp_law_bad_stop K Z) := by
  obtain ⟨f_Disk_stop_after, fd_Disk_stop_after, G_Disk_stop_after, b_Disk_stop_after, m_Disk_stop_after⟩ := M_Disk_stop_after.ex
  have cl_Disk := T.cl_Disk
  have na_Disk__blocks := T.na_Disk__blocks
  have na_Disk__let := T.na_Disk__let
  have na_Disk__part := T.na_Disk__part
  have na_Disk__reads := T.na_Disk__reads
  have na_Disk__writes := T.na_Disk__writes
  refine F.ok sc_law_bad_stop (fun vs H Q E h => ?_) (fun cdv A outer s H vs Q E hr h => ?_)
  · obtain ⟨_, _, _, _, _, _, _, rfl, _⟩ := h
    rfl
  obtain ⟨d, r, sc, o, ns, S, s, rfl, hH, ro, hs0, k⟩ := h
  refine ⟨_, (pss_cons (ps_set (i := 2) sc_law_bad_stop.nd rfl (Or.inl rfl) (pe_lst (pa_cons (pe_tup (pa_cons (pe_op op_sub pe_int pe_int) (pa_cons pe_int pa_nil))) (pa_cons (pe_tup (pa_cons pe_int (pa_cons pe_int pa_nil))) (pa_cons (pe_tup (pa_cons pe_bl (pa_cons pe_int pa_nil))) (pa_cons (pe_tup (pa_cons pe_int (pa_cons (pe_op op_sub pe_int pe_int) pa_nil))) (pa_cons (pe_tup (pa_cons (pe_op op_add (pe_op op_pow pe_int pe_int) pe_int) (pa_cons pe_int pa_nil))) (pa_cons (pe_tup (pa_cons pe_int (pa_cons pe_non pa_nil))) pa_nil))))))))
      (pss_cons (ps_asg (pe_ix (ix_listK (K := K)) (pv 2) (pe_callD D_law_taken hr (by rfl) pass0 (pa_cons (pv 1) (pa_cons pe_int pa_nil))) (fun _ _ => rfl)) (pg_tupK (K := K) rfl (pgs_cons (pg_name (i := 3) sc_law_bad_stop.nd rfl (Or.inl rfl)) (pgs_cons (pg_name (i := 4) sc_law_bad_stop.nd rfl (Or.inl rfl)) pgs_nil))))
      (pss_one (ps_try_only rfl rfl ⟨rfl, by decide, .inl T.g_BadStop⟩ takes0 (fun W pn xe tk _ => (pss_cons (ps_expr (pe_methS (pv 0) T.cl_Disk m_Disk_stop_after G_Disk_stop_after (hr.mono (by decide)) b_Disk_stop_after (fun σ => passAt tk σ) (pa_cons (pv 3) (pa_cons (pv 4) pa_nil))))
      (pss_one (ps_ret pe_bl)))) (fun a oe cls d pn hz hf => (pss_one (ps_ret pe_bl))))))), ?_⟩
  refine s_start (by simp only [L2.start, List.map_cons, List.map_nil, List.length_cons, List.length_nil, Nat.reduceAdd, Nat.reduceSub, List.replicate, List.cons_append, List.nil_append]; rfl) ?_
  have hs : ScrL K sc ns (diskL Z d s ++ S) := hs0.app
  have hS : Hs [r] H H [(r, o)] (diskL Z d s ++ S) := Hs.start1 hH
  k_node
  k_node
  rename_i H1 _ _ ro1 _ hS1
  apply s_ixPick
  k_here
  assumption
  assumption
  intro x hx
  have fin : ∀ H', Hs [r] H H' [(r, _)] (diskL Z d s ++ S) → Q (.bl true) H' := fun H' h => k _ H' ro1 h.up (h.getM List.mem_cons_self)
  simp only [List.mem_cons, List.not_mem_nil, or_false] at hx
  rcases hx with rfl | rfl | rfl | rfl | rfl | rfl
  all_goals
    k_sweep
    refine ⟨d, s, _, _, rfl, hS1.holdsI.sub (List.sublist_append_left _ _), trivial, trivial, fun z => ?_, fun i j ei ej hw => ?_⟩
    · refine s_only T.e_BadStop_BadStop fun a ha => ?_
      k_spoken
      exact fin _ (hS1.sub (by k_drop))
    · exfalso
      revert hw
      decide
theorem ok_law_bad_disk {f : Addr} {fd : FuncData} (F : Fun K "_law_bad_disk" "_law_bad_disk" st_law_bad_disk f fd) (T : Txt K mg Z) (M_Disk___init__ : MakeOk P w K mg base (L2.CX P w) 2 Z.Disk ["self", "many"] (sp_Disk___init__ K Z)) (D_law_taken : DefOk P w K mg base CX0 1 "_law_taken" ["_law_row", "_law_many"] (sp_law_taken K Z)) : FnOk P w K mg base CX0 4 f fd ["_law_row"] (sp_law_bad_disk K Z) := by
  obtain ⟨f_Disk___init__, fd_Disk___init__, G_Disk___init__, b_Disk___init__, m_Disk___init__⟩ := M_Disk___init__.ex
  have cl_Disk := T.cl_Disk
  have na_Disk__blocks := T.na_Disk__blocks
  have na_Disk__let := T.na_Disk__let
  have na_Disk__part := T.na_Disk__part
  have na_Disk__reads := T.na_Disk__reads
  have na_Disk__writes := T.na_Disk__writes
  refine F.ok sc_law_bad_disk (fun vs H Q E h => ?_) (fun cdv A outer s H vs Q E hr h => ?_)
  · obtain ⟨_, _, _, _, _, rfl, _⟩ := h
    rfl
  obtain ⟨r, sc, o, ns, S, rfl, hH, ro, hs, k⟩ := h
  have hS := Hs.start1 hH
  refine ⟨_, (pss_one (ps_try_only rfl rfl ⟨rfl, by decide, .inl T.g_BadDisk⟩ takes0 (fun W pn xe tk _ => (pss_cons (ps_expr (pe_makeS m_Disk___init__ G_Disk___init__ (hr.mono (by decide)) (by rfl) T.g_Disk b_Disk___init__ (fun σ => passAt tk σ) (pa_cons (pe_ix (ix_listK (K := K)) (pe_lst (pa_cons pe_int (pa_cons pe_int (pa_cons pe_int (pa_cons pe_bl (pa_cons pe_non (pa_cons pe_str (pa_cons (pe_op op_sub pe_int pe_int) pa_nil)))))))) (pe_callD D_law_taken hr (by rfl) pass0 (pa_cons (pv 0) (pa_cons pe_int pa_nil))) (fun _ _ => rfl)) pa_nil)))
      (pss_one (ps_ret pe_bl)))) (fun a oe cls d pn hz hf => (pss_one (ps_ret pe_bl))))), ?_⟩
  refine s_start (by simp only [L2.start, List.map_cons, List.map_nil, List.length_cons, List.length_nil, Nat.reduceAdd, Nat.reduceSub, List.replicate, List.cons_append, List.nil_append]; rfl) ?_
  k_node
  rename_i hS1
  apply s_ixPick
  k_here
  assumption
  assumption
  intro v hv
  k_spoken
  refine s_kMake hS1 ?_
  intro x dx H2 hS2 u2 hx hd
  have bad : wholeB v 4 64 = false ∧ FlatV v := by
    simp only [List.mem_cons, List.not_mem_nil, or_false] at hv
    rcases hv with rfl | rfl | rfl | rfl | rfl | rfl | rfl
    all_goals first | exact ⟨by decide, trivial⟩ | exact ⟨rfl, show (PyData.str "8").canLay0 = true by decide +kernel⟩
  refine ⟨x, dx, v, rfl, hS2.part (by k_drop), bad.2, fun _ H' u => ?_, fun n en h1 h2 => ?_⟩
  · refine s_only T.e_BadDisk_BadDisk fun a ha => ?_
    k_spoken
    exact k _
  · exfalso
    subst en
    have := bad.1
    simp only [wholeB, Bool.and_eq_false_iff, decide_eq_false_iff_not] at this
    omega
theorem ok_law {f : Addr} {fd : FuncData} (F : Fun K "law" "law" st_law f fd) (T : Txt K mg Z) (M_Disk___init__ : MakeOk P w K mg base (L2.CX P w) 2 Z.Disk ["self", "many"] (sp_Disk___init__ K Z)) (M_Disk_blocks : MethOk P w K mg base CX0 1 Z.Disk "blocks" ["self"] (sp_Disk_blocks K Z)) (M_Disk_read : MethOk P w K mg base (L2.CX P w) 3 Z.Disk "read" ["self", "place"] (sp_Disk_read K Z)) (M_Disk_reads : MethOk P w K mg base CX0 1 Z.Disk "reads" ["self"] (sp_Disk_reads K Z)) (M_Disk_writes : MethOk P w K mg base CX0 1 Z.Disk "writes" ["self"] (sp_Disk_writes K Z)) (M_Disk_twin : MethOk P w K mg base CX0 4 Z.Disk "twin" ["self"] (sp_Disk_twin K Z)) (D_law_taken : DefOk P w K mg base CX0 1 "_law_taken" ["_law_row", "_law_many"] (sp_law_taken K Z)) (D_law_fresh : DefOk P w K mg base CX0 1 "_law_fresh" ["_law_many"] (sp_law_fresh K Z)) (D_law_stop : DefOk P w K mg base CX0 3 "_law_stop" ["_law_disk", "_law_m", "_law_count", "_law_part"] (sp_law_stop K Z)) (D_law_on : DefOk P w K mg base CX0 2 "_law_on" ["_law_disk", "_law_m"] (sp_law_on K Z)) (D_law_alike : DefOk P w K mg base CX0 6 "_law_alike" ["_law_found", "_law_due"] (sp_law_alike K Z 6)) (D_law_lies : DefOk P w K mg base CX0 4 "_law_lies" ["_law_disk", "_law_m"] (sp_law_lies K Z)) (D_law_words : DefOk P w K mg base CX0 2 "_law_words" ["_law_row"] (sp_law_words K Z)) (D_law_place : DefOk P w K mg base CX0 2 "_law_place" ["_law_row", "_law_many"] (sp_law_place K Z)) (D_law_wrote : DefOk P w K mg base CX0 4 "_law_wrote" ["_law_disk", "_law_place_here", "_law_words_here"] (sp_law_wrote K Z)) (D_law_to_write : DefOk P w K mg base CX0 2 "_law_to_write" ["_law_m", "_law_place_here", "_law_words_here"] (sp_law_to_write K Z)) (D_law_read : DefOk P w K mg base CX0 7 "_law_read" ["_law_disk", "_law_m", "_law_place_here"] (sp_law_read K Z)) (D_law_bad_stop : DefOk P w K mg base CX0 3 "_law_bad_stop" ["_law_disk", "_law_row"] (sp_law_bad_stop K Z)) (D_law_bad_disk : DefOk P w K mg base CX0 4 "_law_bad_disk" ["_law_row"] (sp_law_bad_disk K Z)) : FnOk P w K mg base CX0 8 f fd ["_law_script"] (sp_law K Z) := by
  obtain ⟨f_Disk___init__, fd_Disk___init__, G_Disk___init__, b_Disk___init__, m_Disk___init__⟩ := M_Disk___init__.ex
  obtain ⟨f_Disk_blocks, fd_Disk_blocks, G_Disk_blocks, b_Disk_blocks, m_Disk_blocks⟩ := M_Disk_blocks.ex
  obtain ⟨f_Disk_read, fd_Disk_read, G_Disk_read, b_Disk_read, m_Disk_read⟩ := M_Disk_read.ex
  obtain ⟨f_Disk_reads, fd_Disk_reads, G_Disk_reads, b_Disk_reads, m_Disk_reads⟩ := M_Disk_reads.ex
  obtain ⟨f_Disk_writes, fd_Disk_writes, G_Disk_writes, b_Disk_writes, m_Disk_writes⟩ := M_Disk_writes.ex
  obtain ⟨f_Disk_twin, fd_Disk_twin, G_Disk_twin, b_Disk_twin, m_Disk_twin⟩ := M_Disk_twin.ex
  have cl_Disk := T.cl_Disk
  have na_Disk__blocks := T.na_Disk__blocks
  have na_Disk__let := T.na_Disk__let
  have na_Disk__part := T.na_Disk__part
  have na_Disk__reads := T.na_Disk__reads
  have na_Disk__writes := T.na_Disk__writes
  refine F.ok sc_law (fun vs H Q E h => ?_) (fun cdv A outer s H vs Q E hr h => ?_)
  · obtain ⟨_, _, rfl, _⟩ := h
    rfl
  obtain ⟨sc, ns, rfl, hs0, hz, k⟩ := h
  obtain ⟨S, hsc, hS0⟩ := ScrL.of hs0
  have hS := Hs.startI hS0
  refine ⟨_, (pss_cons (ps_set (i := 1) sc_law.nd rfl (Or.inl rfl) (pe_lst (pa_cons (pv 0) (pa_cons pe_int (pa_cons pe_int pa_nil)))))
      (pss_cons (ps_set (i := 2) sc_law.nd rfl (Or.inl rfl) (pe_ix (ix_listK (K := K)) (pe_lst (pa_cons pe_int (pa_cons pe_int (pa_cons (pe_op op_add pe_int (pe_callD D_law_taken hr (by rfl) pass0 (pa_cons (pv 1) (pa_cons pe_int pa_nil)))) pa_nil)))) (pe_callD D_law_taken hr (by rfl) pass0 (pa_cons (pv 1) (pa_cons pe_int pa_nil))) (fun _ _ => rfl)))
      (pss_cons (ps_set (i := 3) sc_law.nd rfl (Or.inl rfl) (pe_make m_Disk___init__ G_Disk___init__ (hr.mono (by decide)) (by rfl) T.g_Disk b_Disk___init__ .nil passL (pa_cons (pv 2) pa_nil)))
      (pss_cons (ps_set (i := 4) sc_law.nd rfl (Or.inr rfl) (pe_meth0 (pv 3) T.cl_Disk m_Disk_twin G_Disk_twin (hr.mono (by decide)) b_Disk_twin .nil pass0))
      (pss_cons (ps_set (i := 5) sc_law.nd rfl (Or.inl rfl) (pe_callD D_law_fresh hr (by rfl) pass0 (pa_cons (pv 2) pa_nil)))
      (pss_cons (ps_dput (have h := hu_of hr; h) (pv 5) pe_str pe_int rfl)
      (pss_cons (ps_for PassesOwn.never rfl (pi_range1 rfl T.m_range (pa_cons (pe_callD D_law_taken hr (by rfl) pass0 (pa_cons (pv 1) (pa_cons pe_int pa_nil))) pa_nil)) (pg_name (i := 6) sc_law.nd rfl (Or.inl rfl))
      (pss_cons (ps_set (i := 8) sc_law.nd rfl (Or.inl rfl) (pe_callD D_law_taken hr (by rfl) pass0 (pa_cons (pv 1) (pa_cons pe_int pa_nil))))
      (pss_cons (ps_set (i := 9) sc_law.nd rfl (Or.inl rfl) (pe_callD D_law_place hr (by rfl) pass0 (pa_cons (pv 1) (pa_cons (pv 2) pa_nil))))
      (pss_cons (ps_if (pt_cmpR op_eq (pv 8) pe_int (nomark _)) (pss_one (ps_if (pt_not (pt_val (pe_callD D_law_stop hr (by rfl) pass0 (pa_cons (pv 3) (pa_cons (pv 5) (pa_cons (pe_callD D_law_taken hr (by rfl) pass0 (pa_cons (pv 1) (pa_cons pe_int pa_nil))) (pa_cons (pe_callD D_law_taken hr (by rfl) pass0 (pa_cons (pv 1) (pa_cons pe_int pa_nil))) pa_nil))))))) (pss_one (ps_ret pe_bl)) pss_nil)) (pss_one (ps_if (pt_cmpR op_eq (pv 8) pe_int (nomark _)) (pss_one (ps_if (pt_not (pt_val (pe_callD D_law_on hr (by rfl) pass0 (pa_cons (pv 3) (pa_cons (pv 5) pa_nil))))) (pss_one (ps_ret pe_bl)) pss_nil)) pss_nil)))
      (pss_cons (ps_if (PW.pt (pw_and (pt_cmpR op_eq (pv 8) pe_int (nomark _)) (pw_and1 (pt_cmpR op_eq (pe_callD D_law_taken hr (by rfl) pass0 (pa_cons (pv 1) (pa_cons pe_int pa_nil))) pe_int (nomark _))))) (pss_cons (ps_set (i := 3) sc_law.nd rfl (Or.inl rfl) (pe_meth0 (pv 3) T.cl_Disk m_Disk_twin G_Disk_twin (hr.mono (by decide)) b_Disk_twin .nil pass0))
      (pss_one (ps_expr (pe_bmK (K := K) PySem.F.plainAttrs_dict PySem.F.slot_dict_update PySem.F.type_dict_update mt_update (pv 5) (pa_cons (pe_disp (pps_cons pe_str pe_int (pps_cons pe_str pe_int (pps_cons pe_str pe_non (pps_cons pe_str pe_int pps_nil)))) (by rfl) (by rfl) (fun z => by cases z) (by decide)) pa_nil))))) pss_nil)
      (pss_cons (ps_set (i := 10) sc_law.nd rfl (Or.inl rfl) (pe_callD D_law_words hr (by rfl) pass0 (pa_cons (pv 1) pa_nil)))
      (pss_cons (ps_set (i := 11) sc_law.nd rfl (Or.inl rfl) (pe_ifExp (pt_val (pe_callB (call_isiK' (K := K)) (by rfl) T.m_isinstance (by decide +kernel) (pa_cons (pv 10) (pa_cons (pe_bltn (v := .ty "list") (by rfl) T.m_list (by decide +kernel) rfl) pa_nil)))) (pe_callTy (call_listOfK (K := K)) (by rfl) T.m_list (by decide +kernel) (pa_cons (pv 10) pa_nil)) (pv 10)))
      (pss_cons (ps_set (i := 12) sc_law.nd rfl (Or.inl rfl) (pe_callD D_law_to_write hr (by rfl) pass0 (pa_cons (pv 5) (pa_cons (pv 9) (pa_cons (pv 10) pa_nil)))))
      (pss_cons (ps_if (PW.pt (pw_or (pt_cmpR op_ne (pe_callD D_law_wrote hr (by rfl) pass0 (pa_cons (pv 3) (pa_cons (pv 9) (pa_cons (pv 11) pa_nil)))) (pv 12) (nomark _)) (pw_or1 (pt_cmpR (op_neDK (K := K) hr.units) (pv 11) (pv 10) (nomark _))))) (pss_one (ps_ret pe_bl)) pss_nil)
      (pss_cons (ps_if (pt_val (pe_callB (call_isiK' (K := K)) (by rfl) T.m_isinstance (by decide +kernel) (pa_cons (pv 11) (pa_cons (pe_bltn (v := .ty "list") (by rfl) T.m_list (by decide +kernel) rfl) pa_nil)))) (pss_one (ps_expr (pe_bm0K (K := K) PySem.F.plainAttrs_list PySem.F.slot_list_clear PySem.F.type_list_clear mt_clear (pv 11)))) pss_nil)
      (pss_cons (ps_if (PW.pt (pw_or (pt_not (pt_val (pe_callD D_law_read hr (by rfl) pass0 (pa_cons (pv 3) (pa_cons (pv 5) (pa_cons (pv 9) pa_nil)))))) (pw_or1 (pt_not (pt_val (pe_callD D_law_read hr (by rfl) pass0 (pa_cons (pv 3) (pa_cons (pv 5) (pa_cons (pe_callD D_law_place hr (by rfl) pass0 (pa_cons (pv 1) (pa_cons (pv 2) pa_nil))) pa_nil))))))))) (pss_one (ps_ret pe_bl)) pss_nil)
      (pss_one (ps_if (pt_not (pt_val (pe_callD D_law_alike hr (by rfl) pass0 (pa_cons (pe_tup (pa_cons (pe_meth0 (pv 3) T.cl_Disk m_Disk_blocks G_Disk_blocks (hr.mono (by decide)) b_Disk_blocks .nil pass0) (pa_cons (pe_meth0 (pv 3) T.cl_Disk m_Disk_reads G_Disk_reads (hr.mono (by decide)) b_Disk_reads .nil pass0) (pa_cons (pe_meth0 (pv 3) T.cl_Disk m_Disk_writes G_Disk_writes (hr.mono (by decide)) b_Disk_writes .nil pass0) pa_nil)))) (pa_cons (pe_tup (pa_cons (pv 2) (pa_cons (pe_dget (have h := hu_of hr; h) (pv 5) pe_str (fun _ _ => rfl)) (pa_cons (pe_dget (have h := hu_of hr; h) (pv 5) pe_str (fun _ _ => rfl)) pa_nil)))) pa_nil))))) (pss_one (ps_ret pe_bl)) pss_nil)))))))))))))
      (pss_cons (ps_setLc (i := 7) (own := [("_law_place_here", 9)]) (g := gName 9) (by rfl) sc_law.nd rfl rfl (sw_true rfl rfl rfl (by decide +kernel)) (pi_range1 rfl T.m_range (pa_cons (pv 2) pa_nil)) (blkOk_by (N := ["_law_script", "_law_row", "_law_many", "_law_disk", "_law_other", "_law_m", "_law_k", "_law_blank", "_law_way", "_law_place_here", "_law_words_here", "_law_handed", "_law_due"]) (sc := defScope st_law) (by decide +kernel)) (fun _ _ _ _ _ => pg_name (i := 9) sc_law.nd rfl (Or.inl rfl)) (fun _ _ _ _ _ => pts_nil) (fun _ _ _ _ _ => (pe_meth (pv 4) T.cl_Disk m_Disk_read G_Disk_read (hr.mono (by decide)) b_Disk_read .nil passL (pa_cons (pv 9) pa_nil))))
      (pss_cons (ps_if (PW.pt (pw_or (pt_not (pt_val (pe_callD D_law_lies hr (by rfl) pass0 (pa_cons (pv 3) (pa_cons (pv 5) pa_nil))))) (pw_or1 (pt_cmpR (op_neDK (K := K) hr.units) (pv 7) (pe_op op_rep (pe_lst (pa_cons (pe_op op_rep (pe_lst (pa_cons pe_int pa_nil)) pe_int) pa_nil)) (pv 2)) (nomark _))))) (pss_one (ps_ret pe_bl)) pss_nil)
      (pss_one (ps_ret (pe_and (pe_callD D_law_bad_stop hr (by rfl) pass0 (pa_cons (pv 3) (pa_cons (pv 1) pa_nil))) (pe_one (pe_callD D_law_bad_disk hr (by rfl) pass0 (pa_cons (pv 1) pa_nil))))))))))))))), ?_⟩
  refine s_start (by simp only [L2.start, List.map_cons, List.map_nil, List.length_cons, List.length_nil, Nat.reduceAdd, Nat.reduceSub, List.replicate, List.cons_append, List.nil_append]; rfl) ?_
  k_sweep
  rename_i r H1 hS1 _ _
  have ro1 : RowO sc (.lst [.ref sc, .int 0, .int 0]) := ⟨0, 0, Int.le_refl 0, rfl⟩
  k_spoken
  rename_i v1 o1 H2 hv0 hv1 ro2 _ hS2 pl H3 hS3 _ _ v2 o3 H4 _ _ ro3 _ hS4
  apply s_ixPick
  k_here
  assumption
  assumption
  intro x hx
  obtain ⟨N, rfl, h4, h64⟩ : ∃ N : Nat, x = V.int N ∧ 4 ≤ N ∧ N ≤ 64 := by
    simp only [List.mem_cons, List.not_mem_nil, or_false] at hx
    rcases hx with rfl | rfl | rfl
    · exact ⟨4, rfl, by decide, by decide⟩
    · exact ⟨64, rfl, by decide, by decide⟩
    · refine ⟨(4 + v1).toNat, ?_, by omega, by omega⟩
      congr 1
      omega
  clear hx
  have hS4 : Hs [] H H4 [(r, o3)] S := hS4.sub (by k_drop)
  k_spoken
  k_node
  refine s_kMake hS4 ?_
  intro d dx H5 hS5 _ hd hdx
  refine ⟨d, dx, .int N, rfl, hS5.part (by k_drop), trivial, fun c => ?_, fun n en _ _ bl bs H6 hl f => ?_⟩
  · simp only [wholeB, Bool.and_eq_false_iff, decide_eq_false_iff_not] at c
    omega
  obtain rfl : (N : Int) = n := by cases en; rfl
  rw [Int.toNat_natCast] at hl f
  have hS6 : Hs [] H H6 (diskL Z d (ds0 dx bl bs N) ++ [(r, o3)]) S := hS5.seg f (.here (L := [_, _]))
  have ok0 : (ds0 dx bl bs N).Ok := ds0_ok hl h4 h64
  refine ⟨rfl, ?_⟩
  k_spoken
  k_node
  refine ⟨d, ds0 dx bl bs N, rfl, hS6.part (by k_drop), ok0, fun t tx tl ts H7 ht f2 => ?_⟩
  have hS7 := hS6.seg f2 (.here (L := []))
  have hwN : (ds0 dx bl bs N).ws.length = N := List.length_replicate
  rw [hwN] at ht
  have hS7 : Hs [] H H7 (diskL Z t (ds0 tx tl ts N) ++ (diskL Z d (ds0 dx bl bs N) ++ [(r, o3)])) S := hS7
  k_spoken
  k_node
  refine ⟨N, rfl, h4, h64, fun md dl ra ca cs H8 hcs f3 => ?_⟩
  have hS8 := hS7.seg f3 (.here (L := []))
  k_spoken
  k_node
  rename_i H9 hS9 _
  have hS10 : Hs [] H H9 ((r, o3) :: (diskL Z d (ds0 dx bl bs N) ++ (mL md (ds0 0 dl cs N) N ra ca ++ diskL Z t (ds0 tx tl ts N)))) S :=
    Hs.perm (M := mL md (ds0 0 dl cs N) N ra ca ++ (diskL Z t (ds0 tx tl ts N) ++ (diskL Z d (ds0 dx bl bs N) ++ [(r, o3)]))) hS9 (perm4 _ _ _ _)
  clear hS9 hS8 hS7 hS6 hS5 hS4 f f2 f3
  have ag0 : Agree (ds0 dx bl bs N) (ds0 0 dl cs N) := ⟨ok0, ds0_ok hcs h4 h64, rfl, rfl, rfl, rfl, fun _ => rfl, Int.le_refl 0, show (0 : Int) ≤ 7 by decide, Int.le_refl 0, show (0 : Int) ≤ 7 by decide⟩
  k_node
  rename_i v9 o4 H11 hv90 hv91 ro4 _ hS11
  clear hS10
  refine f_range (fun i σ H' => ∃ d s m o x6 x7 x8 x9 x10 x11 x12, σ = [some (.ref sc), some (.ref r), some (.int N), some (.ref d), some (.ref t), some (.ref md), x6, x7, x8, x9, x10, x11, x12] ∧ RowO sc o ∧ Agree s m ∧ s.ws.length = N ∧ Hs [] H H' ((r, o) :: (diskL Z d s ++ (mL md m N ra ca ++ diskL Z t (ds0 tx tl ts N)))) S)
    ⟨d, ds0 dx bl bs N, ds0 0 dl cs N, o4, _, _, _, _, _, _, _, rfl, ro4, ag0, hwN, hS11⟩ ?_ ?_
  · clear hS11 ag0 ok0 hwN
    rintro i σ H12 hi ⟨d, s, m, o, x6, x7, x8, x9, x10, x11, x12, rfl, ro, ag, hN, hS12⟩
    k_spoken
    k_node
    rename_i way o5 H13 hw0 hw1 ro5 _ hS13
    k_node
    rename_i pv o6 H14 hpv ro6 _ hS14
    clear hS12 hS13
    refine s_join (fun σ' H' => ∃ s m o, σ' = [some (.ref sc), some (.ref r), some (.int N), some (.ref d), some (.ref t), some (.ref md), some (.int ((0 : Int) + i)), x7, some (.int way), some pv, x10, x11, x12] ∧ RowO sc o ∧ Agree s m ∧ s.ws.length = N ∧ Hs [] H H' ((r, o) :: (diskL Z d s ++ (mL md m N ra ca ++ diskL Z t (ds0 tx tl ts N)))) S) ?_ ?_
    · clear hS14
      clear ag hN ro ro5 ro6 hw0 hw1 s m
      rintro σ' H15 ⟨s, m, o, rfl, ro, ag, hN, hS15⟩
      refine s_join (fun σ' H' => ∃ d s m o, σ' = [some (.ref sc), some (.ref r), some (.int N), some (.ref d), some (.ref t), some (.ref md), some (.int ((0 : Int) + i)), x7, some (.int way), some pv, x10, x11, x12] ∧ RowO sc o ∧ Agree s m ∧ s.ws.length = N ∧ Hs [] H H' ((r, o) :: (diskL Z d s ++ (mL md m N ra ca ++ diskL Z t (ds0 tx tl ts N)))) S) ?_ ?_
      · clear hS15 ro ag hN
        clear s m
        rintro σ' H16 ⟨d, s, m, o, rfl, ro, ag, hN, hS16⟩
        k_node
        rename_i o7 l items wa H17 hz hfi ro7 hS17
        refine s_join (fun σ' H' => ∃ hd X, σ' = [some (.ref sc), some (.ref r), some (.int N), some (.ref d), some (.ref t), some (.ref md), some (.int ((0 : Int) + i)), x7, some (.int way), some pv, some (.ref wa), some (.ref hd), x12] ∧ (hd, if l then HO.lst items else .tup items) ∈ X ∧ (wa, if l then HO.lst items else .tup items) ∈ X ∧ Hs [] H H' (X ++ ((r, o7) :: (diskL Z d s ++ (mL md m N ra ca ++ diskL Z t (ds0 tx tl ts N))))) S) ?_ ?_
        · rintro σ' H18 ⟨hd, X, rfl, hX1, hX2, hS18⟩
          clear hS17 hS16
          refine s_join2 (fun σ' H' => ∃ s m x12, σ' = [some (.ref sc), some (.ref r), some (.int N), some (.ref d), some (.ref t), some (.ref md), some (.int ((0 : Int) + i)), x7, some (.int way), some pv, some (.ref wa), some (.ref hd), x12] ∧ Agree s m ∧ s.ws.length = N ∧ Hs [] H H' ((hd, if l then HO.lst items else .tup items) :: ((r, o7) :: (diskL Z d s ++ (mL md m N ra ca ++ diskL Z t (ds0 tx tl ts N))))) S) ?_ ?_
          · clear hS18 hX1 hX2 ag hN
            clear s m
            rintro σ' H19 ⟨s, m, x12, rfl, ag, hN, hS19⟩
            refine s_join (fun σ' H' => σ' = [some (.ref sc), some (.ref r), some (.int N), some (.ref d), some (.ref t), some (.ref md), some (.int ((0 : Int) + i)), x7, some (.int way), some pv, some (.ref wa), some (.ref hd), x12] ∧ Hs [] H H' ((r, o7) :: (diskL Z d s ++ (mL md m N ra ca ++ diskL Z t (ds0 tx tl ts N)))) S) ?_ ?_
            · rintro σ' H20 ⟨rfl, hS20⟩
              clear hS19
              k_node
              refine ⟨d, md, ra, ca, s, m, pv, N, rfl, hN, hS20.part (.cons _ sub_two), ag, hpv, fun r1 H21 f => ?_⟩
              have hS21 := hS20.seg f (.there .two)
              have ag1 := ag.reads r1
              clear f hS20
              k_spoken
              rename_i pv2 o8 H22 hpv2 ro8 _ hS22
              refine ⟨d, md, ra, ca, { s with r := r1 }, { m with r := r1 }, pv2, N, rfl, hN, hS22.part (.cons _ sub_two), ag1, hpv2, fun r2 H23 f => ?_⟩
              have hS23 := hS22.seg f (.there .two)
              have ag2 := ag1.reads r2
              clear f hS22 hS21 ag1
              have hpd := hS23.part (.cons _ (List.sublist_append_left _ _))
              k_spoken
              refine ⟨d, _, rfl, hpd, ag2.ok, ?_⟩
              k_spoken
              refine ⟨d, _, rfl, hpd, ?_⟩
              k_spoken
              refine ⟨d, _, rfl, hpd, ?_⟩
              k_spoken
              rename_i p1 _ _ _ _ p2 H25 hS25 _ _
              have q1 : H25 p1 = some (.tup [.int N, .int r2, .int m.w]) := (hS25.getM (.tail _ (.head _))).trans (by
                show some (HO.tup [V.int (s.ws.length : Int), V.int r2, V.int s.w]) = _
                rw [hN, ag.w])
              have q2 : H25 p2 = some (.tup [.int N, .int r2, .int m.w]) := hS25.getM (.head _)
              refine ⟨_, _, .tuple [.int N, .int r2, .int m.w], rfl, .tup (SqT.of q1) (.cons (.int _) (.cons (.int _) (.cons (.int _) .nil))), .tup (SqT.of q2) (.cons (.int _) (.cons (.int _) (.cons (.int _) .nil))), .tup (by simp) ?_, fun H26 u => ?_⟩
              · intro x hx
                simp only [List.mem_cons, List.not_mem_nil, or_false] at hx
                rcases hx with rfl | rfl | rfl <;> exact .int _
              have hS26 := hS25.call0 u
              k_spoken
              exact ⟨d, { s with r := r2 }, { m with r := r2 }, o8, _, _, _, _, _, _, _, rfl, ro8, ag2, hN, hS26.tl.tl⟩
            · intro U hU
              cases l with
              | true =>
                simp only [if_true] at hS19
                k_spoken
                rename_i H20 hS20 _
                exact hU _ _ ⟨rfl, hS20.tl⟩
              | false =>
                simp only [Bool.false_eq_true, if_false] at hS19
                k_spoken
                exact hU _ _ ⟨rfl, hS19.tl⟩
          · intro U hU
            have hwm : s.ws.length = m.ws.length := by rw [ag.ws]
            have hNm : m.ws.length = N := by rw [← hwm, hN]
            k_node
            refine ⟨md, wa, ra, ca, m, pv, l, items, N, rfl, hNm, hS18.part (sub_one hX2 (.cons _ ((List.sublist_append_left _ _).trans (List.sublist_append_right _ _)))), ag.okm, hpv, hfi, hz, ag.q0, ag.q7, fun c H' u => ?_, fun c1 c2 H' u => ?_, fun i w e1 e2 e3 e4 e5 eb => ⟨fun e6 bs H' hl f => ?_, fun e6 bs H' hl f => ?_⟩⟩
            · have hS19 := hS18.call0 u
              k_spoken
              refine ⟨d, hd, s, pv, l, items, rfl, hS19.part (sub_one hX1 (.cons _ (List.sublist_append_left _ _))), ag.ok, hpv, hfi, hz, ag.p0, ag.p7, fun _ H20 u2 => ?_, fun c1 _ => ?_, fun i w e1 e2 => ?_⟩
              · have hS20 := hS19.call0 u2
                have f1 := hS20.getM (List.mem_append_left _ hX1)
                have f2 := hS20.getM (List.mem_append_left _ hX2)
                k_spoken
                refine s_neH f1 f2 hfi hz ?_
                k_spoken
                exact hU _ _ ⟨s, m, _, rfl, ag, hN, hS20.sub (sub_one hX1 (List.Sublist.refl _))⟩
              · rw [hwm, c] at c1
                cases c1
              · exfalso
                subst e1
                simp only [wholeB, Bool.and_eq_false_iff, decide_eq_false_iff_not] at c
                omega
            · have hS19 := hS18.call0 u
              k_spoken
              refine ⟨d, hd, s, pv, l, items, rfl, hS19.part (sub_one hX1 (.cons _ (List.sublist_append_left _ _))), ag.ok, hpv, hfi, hz, ag.p0, ag.p7, fun c => ?_, fun _ _ H20 u2 => ?_, fun i w e1 e2 e3 e4 e5 eb => ?_⟩
              · rw [hwm, c1] at c
                cases c
              · have hS20 := hS19.call0 u2
                have f1 := hS20.getM (List.mem_append_left _ hX1)
                have f2 := hS20.getM (List.mem_append_left _ hX2)
                k_spoken
                refine s_neH f1 f2 hfi hz ?_
                k_spoken
                exact hU _ _ ⟨s, m, _, rfl, ag, hN, hS20.sub (sub_one hX1 (List.Sublist.refl _))⟩
              · exfalso
                subst e1 e3 e4
                rw [Bool.true_and] at c2
                rw [c2] at eb
                cases eb
            · have hS19 := hS18.seg f (.skip (.there (.skip .here)))
              have his : i < s.ws.length := by rw [hwm]; exact e2
              have hwB : wholeB pv 0 (s.ws.length - 1) = true := by
                rw [e1]
                simp only [wholeB, Bool.and_eq_true, decide_eq_true_eq]
                omega
              have hbl : (l && blockB items) = true := by rw [e3, eb]; rfl
              k_spoken
              refine ⟨d, hd, s, pv, l, items, rfl, hS19.part (sub_one hX1 (.cons _ (List.sublist_append_left _ _))), ag.ok, hpv, hfi, hz, ag.p0, ag.p7, fun c => ?_, fun _ c => ?_, fun i2 w2 q1 q2 q3 q4 q5 qb => ⟨fun q6 bs2 H20 hl2 f2 => ?_, fun q6 bs2 H20 hl2 f2 => ?_⟩⟩
              · rw [hwB] at c
                cases c
              · rw [hbl] at c
                cases c
              · obtain rfl : i = i2 := by
                  have : (i : Int) = i2 := by rw [e1] at q1; cases q1; rfl
                  omega
                obtain rfl : w = w2 := by
                  rw [e4] at q4
                  exact (List.map_inj_right (fun _ _ h => by cases h; rfl)).mp q4
                have hS20 := hS19.seg f2 (.skip (.there .here))
                have f1 := hS20.getM (List.mem_append_left _ hX1)
                have f2 := hS20.getM (List.mem_append_left _ hX2)
                have f3 := hS20.sub (sub_one hX1 (List.Sublist.refl _))
                clear hS20
                k_spoken
                refine s_neH f1 f2 hfi hz ?_
                k_spoken
                refine hU _ _ ⟨_, _, _, rfl, ?_, ?_, f3⟩
                · exact ag.stopped e5 his e6 hl2 hl
                · show (s.ws.set i _).length = N
                  rw [List.length_set, hN]
              · exact absurd (ag.lt.trans e6) q6
            · have hS19 := hS18.seg f (.skip (.there (.skip .here)))
              have his : i < s.ws.length := by rw [hwm]; exact e2
              have hwB : wholeB pv 0 (s.ws.length - 1) = true := by
                rw [e1]
                simp only [wholeB, Bool.and_eq_true, decide_eq_true_eq]
                omega
              have hbl : (l && blockB items) = true := by rw [e3, eb]; rfl
              k_spoken
              refine ⟨d, hd, s, pv, l, items, rfl, hS19.part (sub_one hX1 (.cons _ (List.sublist_append_left _ _))), ag.ok, hpv, hfi, hz, ag.p0, ag.p7, fun c => ?_, fun _ c => ?_, fun i2 w2 q1 q2 q3 q4 q5 qb => ⟨fun q6 bs2 H20 hl2 f2 => ?_, fun q6 bs2 H20 hl2 f2 => ?_⟩⟩
              · rw [hwB] at c
                cases c
              · rw [hbl] at c
                cases c
              · exact absurd (ag.lt.symm.trans q6) e6
              · obtain rfl : i = i2 := by
                  have : (i : Int) = i2 := by rw [e1] at q1; cases q1; rfl
                  omega
                obtain rfl : w = w2 := by
                  rw [e4] at q4
                  exact (List.map_inj_right (fun _ _ h => by cases h; rfl)).mp q4
                have hS20 := hS19.seg f2 (.skip (.there .here))
                have f1 := hS20.getM (List.mem_append_left _ hX1)
                have f2 := hS20.getM (List.mem_append_left _ hX2)
                have f3 := hS20.sub (sub_one hX1 (List.Sublist.refl _))
                clear hS20
                k_spoken
                refine s_neH f1 f2 hfi hz ?_
                k_spoken
                refine hU _ _ ⟨_, _, _, rfl, ?_, ?_, f3⟩
                · exact ag.done e5 hl2 hl
                · show (s.ws.set i _).length = N
                  rw [List.length_set, hN]
        · intro U hU
          cases l with
          | true =>
            simp only [if_true] at hS17
            k_spoken
            rename_i hd H18 hS18 _ _
            refine hU _ _ ⟨hd, [(hd, .lst items), (wa, .lst items)], rfl, by simp, by simp, hS18⟩
          | false =>
            simp only [Bool.false_eq_true, if_false] at hS17
            k_spoken
            refine hU _ _ ⟨wa, [(wa, .tup items)], rfl, by simp, by simp, hS17⟩
      · intro U hU
        k_spoken
        apply s_iteD
        · intro _
          k_spoken
          rename_i v o7 H16 _ _ ro7 _ hS16
          apply s_iteD
          · intro _
            k_spoken
            k_node
            refine ⟨d, s, rfl, hS16.part (by k_drop), ag.ok, fun x xx xl xs H17 hxs f => ?_⟩
            have hS17 := hS16.seg f (.here (L := []))
            k_spoken
            rename_i pd _ _ _ _ H19 hS19 _ H20 hS20 _
            have hS21 := hS20.tl.cast (M' := diskL Z x ⟨xx, xl, xs, s.ws, 0, 0, none, 0⟩ ++ ((r, o7) :: (diskL Z d s ++ (mL md { m with r := 0, w := 0, lt := none, p := 0 } N ra ca ++ diskL Z t (ds0 tx tl ts N))))) (by kernel_rfl)
            have hS22 := hS21.sub (List.Sublist.append (List.Sublist.refl _) (.cons₂ _ (List.sublist_append_right (diskL Z d s) _)))
            have hS23 := hS22.perm (List.perm_middle.symm)
            exact hU _ _ ⟨x, ⟨xx, xl, xs, s.ws, 0, 0, none, 0⟩, { m with r := 0, w := 0, lt := none, p := 0 }, o7, rfl, ro7, ⟨⟨hxs, ag.ok.lo, ag.ok.hi, ag.ok.each⟩, ⟨ag.okm.len, ag.okm.lo, ag.okm.hi, ag.okm.each⟩, ag.ws, rfl, rfl, rfl, fun _ => rfl, Int.le_refl 0, show (0 : Int) ≤ 7 by decide, Int.le_refl 0, show (0 : Int) ≤ 7 by decide⟩, hN, hS23⟩
          · intro _
            k_spoken
            exact hU _ _ ⟨d, s, m, o7, rfl, ro7, ag, hN, hS16⟩
        · intro _
          k_spoken
          exact hU _ _ ⟨d, s, m, o, rfl, ro, ag, hN, hS15⟩
    · intro U hU
      k_spoken
      apply s_iteD
      · intro _
        k_spoken
        rename_i c o7 H15 hc0 hc1 ro7 _ hS15 p o8 H16 hp0 hp1 ro8 _ hS16
        refine ⟨d, md, ra, ca, s, m, N, c, p, rfl, hS16.part (by k_drop), ag, hc0, by omega, hp0, by omega, fun H17 ag' f => ?_⟩
        have hS17 := hS16.seg f (.there .two)
        k_spoken
        exact hU _ _ ⟨_, _, _, rfl, ro8, ag', hN, hS17⟩
      · intro _
        k_spoken
        apply s_iteD
        · intro _
          k_spoken
          refine ⟨d, md, ra, ca, s, m, N, rfl, hS14.part (by k_drop), ag, fun H17 ag' f => ?_⟩
          have hS17 := hS14.seg f (.there .two)
          k_spoken
          exact hU _ _ ⟨_, _, _, rfl, ro6, ag', hN, hS17⟩
        · intro _
          k_spoken
          exact hU _ _ ⟨_, _, _, rfl, ro6, ag, hN, hS14⟩
  · clear hS11 ag0 ro4
    rintro σ H12 ⟨d, s, m, o, x6, x7, x8, x9, x10, x11, x12, rfl, ro, ag, hN, hS12⟩
    have hS13 := hS12.perm (perm5 _ _ _ _)
    clear hS12 ok0 hwN
    have hwN : (ds0 tx tl ts N).ws.length = N := List.length_replicate
    with_reducible apply s_seq
    with_reducible apply s_asg
    with_reducible apply s_lcR1
    k_one
    k_one
    k_one
    apply s_kRng1
    have : -(2 ^ 62) ≤ (N : Int) := by omega
    exact this
    have : (N : Int) < 2 ^ 62 := by omega
    exact this
    rw [Int.toNat_natCast]
    refine f_lcR fun Dn hD => ⟨fun i H' => ∃ (es : List Addr) (q : Int), es.length = i ∧ Hs [] H H' ((Dn, .lst (es.map V.ref)) :: (rowsL es ((ds0 tx tl ts N).ws.take i) ++ (diskL Z t (dsR tx tl ts N q) ++ ((r, o) :: (diskL Z d s ++ mL md m N ra ca))))) S, ⟨[], 0, rfl, hS13.new hD _⟩, ?_, ?_⟩
    · rintro i H2 hi ⟨es, q, hl, hS2⟩
      have hit : i < (ds0 tx tl ts N).ws.length := by rw [hwN]; exact hi
      have hw := List.getElem?_eq_getElem hit
      have hg : (ds0 tx tl ts N).ws.getD i [] = (ds0 tx tl ts N).ws[i] := by rw [List.getD_eq_getElem?_getD, hw]; rfl
      k_spoken
      refine ⟨t, dsR tx tl ts N q, _, rfl, hS2.part (.cons _ ((List.sublist_append_left _ _).trans (List.sublist_append_right _ _))), dsR_ok ht h4 h64, trivial, fun z => ?_, fun j ej hj q2 H3 f => ?_⟩
      · simp only [wholeB, Bool.and_eq_false_iff, decide_eq_false_iff_not] at z
        have : (dsR tx tl ts N q).ws.length = N := hwN
        omega
      obtain rfl : j = i := by
        have : (0 : Int) + i = j := by cases ej; rfl
        omega
      have hS3 := hS2.seg f (.there (.skip .here))
      k_spoken
      rename_i H4 hS4 _
      refine ⟨es ++ [q2], q + 1, by rw [List.length_append, hl]; rfl, ?_⟩
      rw [List.take_add_one, hw]
      show Hs _ _ _ (_ :: (rowsL (es ++ [q2]) ((ds0 tx tl ts N).ws.take j ++ [(ds0 tx tl ts N).ws[j]]) ++ _)) _
      rw [rowsL_snoc _ _ (by rw [List.length_take, hl]; omega), List.map_append (l₁ := es), List.append_assoc (rowsL es _)]
      rw [← hg]
      exact hS4
    · rintro H2 ⟨es, q, hl, hS2⟩
      rw [List.take_of_length_le (by rw [hwN]; exact Nat.le_refl _)] at hS2
      k_spoken
      k_node
      refine ⟨d, md, ra, ca, s, m, N, rfl, hN, hS2.part (.cons _ (((List.Sublist.cons _ (List.Sublist.refl _)).trans (List.sublist_append_right _ _)).trans (List.sublist_append_right _ _))), ag.ok, ag.okm, ag.ws, fun r1 H3 f => ?_⟩
      have hS3 := hS2.seg f (.there (.skip (.skip (.there .end_))))
      k_spoken
      rename_i z H4 hS4 _ _ z1 H5 hS5 _ _
      refine s_repR hS5 (by k_here) (by omega) ?_
      intro z2 H6 hS6 _ _
      have f1 : H6 z2 = some (.lst (List.replicate N (V.ref z))) := hS6.getM List.mem_cons_self
      have f2 : H6 z = some (.lst ((List.replicate 8 (0 : Int)).map V.int)) := hS6.getM (.tail _ (.tail _ (.head _)))
      have hS7 := hS6.sub (M' := (Dn, .lst (es.map V.ref)) :: (rowsL es (ds0 tx tl ts N).ws ++ ((r, o) :: diskL Z d { s with r := r1 }))) (.cons _ (.cons _ (.cons _ (.cons _ (.cons₂ _ (.append (.refl _) ((List.Sublist.cons₂ _ (List.sublist_append_left _ _)).trans (List.sublist_append_right _ _))))))))
      have f3 : H6 Dn = some (.lst (es.map V.ref)) := hS7.getM (.head _)
      have a1 : ∀ x ∈ rowsL es (ds0 tx tl ts N).ws, H6 x.1 = some x.2 := fun x hx => hS7.getM (.tail _ (List.mem_append_left _ hx))
      have e1 : ((ds0 tx tl ts N).ws.map fun xs => PyData.list (xs.map PyData.int)) = List.replicate N (PyData.list ((List.replicate 8 (0 : Int)).map PyData.int)) := List.map_replicate
      have hb : DpAll K H6 (es.map V.ref) (List.replicate N (PyData.list ((List.replicate 8 (0 : Int)).map PyData.int))) := by
        rw [← e1]
        exact dp_rows a1 (by rw [hl, hwN])
      have hsh : Sh 4 (.list (List.replicate N (PyData.list ((List.replicate 8 (0 : Int)).map PyData.int)))) := by
        rw [← e1]
        exact Sh.blocks (by rw [hwN]; exact h64) fun w hw => by rw [(List.mem_replicate.mp hw).2, List.length_replicate]
      have hly : (PyData.list (List.replicate N (PyData.list ((List.replicate 8 (0 : Int)).map PyData.int)))).canLay0 = true := by
        rw [← e1]
        exact lay_lists _
      refine s_neDD (.lst (SqL.of f3) hb) (.lst (SqL.of f1) (DpAll.rep (Dp.ints (SqL.of f2)) N)) hsh hly (by decide) ?_
      have hS8 := hS7.sub (M' := (r, o) :: diskL Z d { s with r := r1 }) (.cons _ (List.sublist_append_right _ _))
      clear hS7 hS6 hS5 hS4 hS3 hS2 f1 f2 f3 a1
      k_spoken
      refine ⟨d, r, sc, o, ns, S, { s with r := r1 }, rfl, hS8.partI (List.Sublist.refl _), ro, hsc, fun o' H7 ro' u e => ?_⟩
      have hS9 := (hS8.sub (M' := [(r, o)]) (.cons₂ _ (List.nil_sublist _))).call1 u e .here
      k_spoken
      refine ⟨r, sc, o', ns, S, rfl, hS9.partI (List.Sublist.refl _), ro', hsc, fun H8 => ?_⟩
      k_spoken
      exact k _
end
theorem exm_of {K : PySem.W.Frag} {A B : Addr} {b : Bool} (h1 : PySem.W.subIn K (.ref B) (.type "BaseException") = some true) (h2 : PySem.W.isClsIn K B = true) (h3 : PySem.W.typeIn K (.ref B) = some (.type "type")) (h4 : PySem.W.subIn K (.ref A) (.ref B) = some b) :
    PySem.W.exmOne K (.ref A) (.ref B) = some b := by
  have e1 : (PySem.W.subIn K (.ref B) (.type "BaseException") == some true) = true := by rw [h1] <;> rfl
  have e2 : ((PySem.W.clsIn K B).isSome && PySem.W.typeIn K (.ref B) == some (.type "type")) = true := by
    have h2' : (PySem.W.clsIn K B).isSome = true := h2
    rw [h2', h3] <;> rfl
  show (if (PySem.W.subIn K (.ref B) (.type "BaseException") == some true) = true then (if ((PySem.W.clsIn K B).isSome && PySem.W.typeIn K (.ref B) == some (.type "type")) = true then PySem.W.subIn K (.ref A) (.ref B) else none) else none) = some b
  rw [if_pos e1, if_pos e2]
  exact h4
def Z0 : Ad := ⟨(), 0, 0, 0, 0, 0, 0, 0⟩
theorem all_mk {l : PySem.W.OpenLaw} {w : World} {K : PySem.W.Frag} {h : Heap} {mg : Str → Option Value} {fa f0 f1 f2 f3 f4 f5 f6 f7 f8 f9 f10 f11 f12 f13 f14 f15 f16 f17 f18 f19 f20 f21 f22 f23 f24 f25 f26 f27 C_Disk C_BadBlock C_BadDisk C_BadStop C_NoBlock C_Stopped : Addr} (X : K.In h) (G : h.Ns mainGlobals mg) (hfa : mg "law" = some (.ref fa)) {od0 an0 od1 an1 od2 an2 od3 an3 od4 an4 od5 an5 od6 an6 od7 an7 od8 an8 od9 an9 od10 an10 od11 an11 od12 an12 od13 an13 od14 an14 od15 an15 od16 an16 od17 an17 od18 an18 od19 an19 od20 an20 od21 an21 od22 an22 od23 an23 od24 an24 od25 an25 od26 an26 od27 an27 : Option Addr} {sl0 sl1 sl2 sl3 sl4 sl5 sl6 sl7 sl8 sl9 sl10 sl11 sl12 sl13 sl14 sl15 sl16 sl17 sl18 sl19 sl20 sl21 sl22 sl23 sl24 sl25 sl26 sl27 : Array (Option Value)} {oc0 kV0 dc0 pm0 cd0 ct0 oc1 kV1 dc1 pm1 cd1 ct1 oc2 kV2 dc2 pm2 cd2 ct2 oc3 kV3 dc3 pm3 cd3 ct3 oc4 kV4 dc4 pm4 cd4 ct4 oc5 kV5 dc5 pm5 cd5 ct5 oc6 kV6 dc6 pm6 cd6 ct6 oc7 kV7 dc7 pm7 cd7 ct7 oc8 kV8 dc8 pm8 cd8 ct8 oc9 kV9 dc9 pm9 cd9 ct9 oc10 kV10 dc10 pm10 cd10 ct10 oc11 kV11 dc11 pm11 cd11 ct11 oc12 kV12 dc12 pm12 cd12 ct12 oc13 kV13 dc13 pm13 cd13 ct13 oc14 kV14 dc14 pm14 cd14 ct14 oc15 kV15 dc15 pm15 cd15 ct15 oc16 kV16 dc16 pm16 cd16 ct16 oc17 kV17 dc17 pm17 cd17 ct17 oc18 kV18 dc18 pm18 cd18 ct18 oc19 kV19 dc19 pm19 cd19 ct19 oc20 kV20 dc20 pm20 cd20 ct20 oc21 kV21 dc21 pm21 cd21 ct21 oc22 kV22 dc22 pm22 cd22 ct22 oc23 kV23 dc23 pm23 cd23 ct23 oc24 kV24 dc24 pm24 cd24 ct24 oc25 kV25 dc25 pm25 cd25 ct25 oc26 kV26 dc26 pm26 cd26 ct26 oc27 kV27 dc27 pm27 cd27 ct27 : Value} {t_LEAST_BLOCKS t_MOST_BLOCKS t_BLOCK_WORDS t_MOST_WORD t_MOST_COUNT t_MOST_PART : Tok}
    (aC_Disk : PySem.W.nsIn K mainGlobals "Disk" = some (some (.ref C_Disk)))
    (aC_BadBlock : PySem.W.nsIn K mainGlobals "BadBlock" = some (some (.ref C_BadBlock)))
    (aC_BadDisk : PySem.W.nsIn K mainGlobals "BadDisk" = some (some (.ref C_BadDisk)))
    (aC_BadStop : PySem.W.nsIn K mainGlobals "BadStop" = some (some (.ref C_BadStop)))
    (aC_NoBlock : PySem.W.nsIn K mainGlobals "NoBlock" = some (some (.ref C_NoBlock)))
    (aC_Stopped : PySem.W.nsIn K mainGlobals "Stopped" = some (some (.ref C_Stopped)))
    (pg_Disk : PySem.W.plainGet K C_Disk Str.empty = true)
    (hd_Disk : PySem.W.hasDictIn K C_Disk = true)
    (po_Disk : PySem.W.plainOver K C_Disk = true)
    (sa_Disk : PySem.W.findIn K (.ref C_Disk) "__setattr__" = some (some (.builtin "object.__setattr__")))
    (mk_Disk : PySem.W.makesIn K C_Disk = true)
    (kc_Disk : PySem.W.keepIn K (.ref C_Disk) = true)
    (na_Disk__blocks : PySem.W.findIn K (.ref C_Disk) "_blocks" = some none)
    (na_Disk__let : PySem.W.findIn K (.ref C_Disk) "_let" = some none)
    (na_Disk__part : PySem.W.findIn K (.ref C_Disk) "_part" = some none)
    (na_Disk__reads : PySem.W.findIn K (.ref C_Disk) "_reads" = some none)
    (na_Disk__writes : PySem.W.findIn K (.ref C_Disk) "_writes" = some none)
    (x_BadBlock : PySem.W.excIn K C_BadBlock [.type "ValueError", .type "Exception", .type "BaseException", .type "object"] "ValueError.__new__" = true)
    (kp_BadBlock : PySem.W.keepIn K (.ref C_BadBlock) = true)
    (sb_BadBlock : PySem.W.subIn K (.ref C_BadBlock) (.type "BaseException") = some true)
    (ty_BadBlock : PySem.W.typeIn K (.ref C_BadBlock) = some (.type "type"))
    (ic_BadBlock : PySem.W.isClsIn K C_BadBlock = true)
    (x_BadDisk : PySem.W.excIn K C_BadDisk [.type "ValueError", .type "Exception", .type "BaseException", .type "object"] "ValueError.__new__" = true)
    (kp_BadDisk : PySem.W.keepIn K (.ref C_BadDisk) = true)
    (sb_BadDisk : PySem.W.subIn K (.ref C_BadDisk) (.type "BaseException") = some true)
    (ty_BadDisk : PySem.W.typeIn K (.ref C_BadDisk) = some (.type "type"))
    (ic_BadDisk : PySem.W.isClsIn K C_BadDisk = true)
    (x_BadStop : PySem.W.excIn K C_BadStop [.type "ValueError", .type "Exception", .type "BaseException", .type "object"] "ValueError.__new__" = true)
    (kp_BadStop : PySem.W.keepIn K (.ref C_BadStop) = true)
    (sb_BadStop : PySem.W.subIn K (.ref C_BadStop) (.type "BaseException") = some true)
    (ty_BadStop : PySem.W.typeIn K (.ref C_BadStop) = some (.type "type"))
    (ic_BadStop : PySem.W.isClsIn K C_BadStop = true)
    (x_NoBlock : PySem.W.excIn K C_NoBlock [.type "ValueError", .type "Exception", .type "BaseException", .type "object"] "ValueError.__new__" = true)
    (kp_NoBlock : PySem.W.keepIn K (.ref C_NoBlock) = true)
    (sb_NoBlock : PySem.W.subIn K (.ref C_NoBlock) (.type "BaseException") = some true)
    (ty_NoBlock : PySem.W.typeIn K (.ref C_NoBlock) = some (.type "type"))
    (ic_NoBlock : PySem.W.isClsIn K C_NoBlock = true)
    (x_Stopped : PySem.W.excIn K C_Stopped [.type "ValueError", .type "Exception", .type "BaseException", .type "object"] "ValueError.__new__" = true)
    (kp_Stopped : PySem.W.keepIn K (.ref C_Stopped) = true)
    (sb_Stopped : PySem.W.subIn K (.ref C_Stopped) (.type "BaseException") = some true)
    (ty_Stopped : PySem.W.typeIn K (.ref C_Stopped) = some (.type "type"))
    (ic_Stopped : PySem.W.isClsIn K C_Stopped = true)
    (s_BadBlock_BadBlock : PySem.W.subIn K (.ref C_BadBlock) (.ref C_BadBlock) = some true)
    (s_BadBlock_BadDisk : PySem.W.subIn K (.ref C_BadBlock) (.ref C_BadDisk) = some false)
    (s_BadBlock_BadStop : PySem.W.subIn K (.ref C_BadBlock) (.ref C_BadStop) = some false)
    (s_BadBlock_NoBlock : PySem.W.subIn K (.ref C_BadBlock) (.ref C_NoBlock) = some false)
    (s_BadBlock_Stopped : PySem.W.subIn K (.ref C_BadBlock) (.ref C_Stopped) = some false)
    (s_BadDisk_BadBlock : PySem.W.subIn K (.ref C_BadDisk) (.ref C_BadBlock) = some false)
    (s_BadDisk_BadDisk : PySem.W.subIn K (.ref C_BadDisk) (.ref C_BadDisk) = some true)
    (s_BadDisk_BadStop : PySem.W.subIn K (.ref C_BadDisk) (.ref C_BadStop) = some false)
    (s_BadDisk_NoBlock : PySem.W.subIn K (.ref C_BadDisk) (.ref C_NoBlock) = some false)
    (s_BadDisk_Stopped : PySem.W.subIn K (.ref C_BadDisk) (.ref C_Stopped) = some false)
    (s_BadStop_BadBlock : PySem.W.subIn K (.ref C_BadStop) (.ref C_BadBlock) = some false)
    (s_BadStop_BadDisk : PySem.W.subIn K (.ref C_BadStop) (.ref C_BadDisk) = some false)
    (s_BadStop_BadStop : PySem.W.subIn K (.ref C_BadStop) (.ref C_BadStop) = some true)
    (s_BadStop_NoBlock : PySem.W.subIn K (.ref C_BadStop) (.ref C_NoBlock) = some false)
    (s_BadStop_Stopped : PySem.W.subIn K (.ref C_BadStop) (.ref C_Stopped) = some false)
    (s_NoBlock_BadBlock : PySem.W.subIn K (.ref C_NoBlock) (.ref C_BadBlock) = some false)
    (s_NoBlock_BadDisk : PySem.W.subIn K (.ref C_NoBlock) (.ref C_BadDisk) = some false)
    (s_NoBlock_BadStop : PySem.W.subIn K (.ref C_NoBlock) (.ref C_BadStop) = some false)
    (s_NoBlock_NoBlock : PySem.W.subIn K (.ref C_NoBlock) (.ref C_NoBlock) = some true)
    (s_NoBlock_Stopped : PySem.W.subIn K (.ref C_NoBlock) (.ref C_Stopped) = some false)
    (s_Stopped_BadBlock : PySem.W.subIn K (.ref C_Stopped) (.ref C_BadBlock) = some false)
    (s_Stopped_BadDisk : PySem.W.subIn K (.ref C_Stopped) (.ref C_BadDisk) = some false)
    (s_Stopped_BadStop : PySem.W.subIn K (.ref C_Stopped) (.ref C_BadStop) = some false)
    (s_Stopped_NoBlock : PySem.W.subIn K (.ref C_Stopped) (.ref C_NoBlock) = some false)
    (s_Stopped_Stopped : PySem.W.subIn K (.ref C_Stopped) (.ref C_Stopped) = some true)
    (a0 : PySem.W.nsIn K mainGlobals "is_whole" = some (some (.ref f0)))
    (l0 : K.lookup f0 = some ⟨oc0, od0, .func (PySem.W.fnOf "is_whole" "is_whole" (defArgs st_is_whole) (defBody st_is_whole) (defScope st_is_whole) .none kV0 dc0 pm0 an0 cd0 ct0), sl0⟩)
    (c0 : PySem.W.codeIn K cd0 "is_whole" = true)
    (k0 : PySem.W.keepIn K (.ref f0) = true)
    (a1 : PySem.W.nsIn K mainGlobals "_is_block" = some (some (.ref f1)))
    (l1 : K.lookup f1 = some ⟨oc1, od1, .func (PySem.W.fnOf "_is_block" "_is_block" (defArgs st_is_block) (defBody st_is_block) (defScope st_is_block) .none kV1 dc1 pm1 an1 cd1 ct1), sl1⟩)
    (c1 : PySem.W.codeIn K cd1 "_is_block" = true)
    (k1 : PySem.W.keepIn K (.ref f1) = true)
    (a2 : PySem.W.findIn K (.ref C_Disk) "__init__" = some (some (.ref f2)))
    (i2 : PySem.W.isFn K (.ref f2) = true)
    (l2 : K.lookup f2 = some ⟨oc2, od2, .func (PySem.W.fnOf "__init__" "Disk.__init__" (defArgs st_Disk___init__) (defBody st_Disk___init__) (defScope st_Disk___init__) .none kV2 dc2 pm2 an2 cd2 ct2), sl2⟩)
    (c2 : PySem.W.codeIn K cd2 "Disk.__init__" = true)
    (k2 : PySem.W.keepIn K (.ref f2) = true)
    (a3 : PySem.W.findIn K (.ref C_Disk) "blocks" = some (some (.ref f3)))
    (i3 : PySem.W.isFn K (.ref f3) = true)
    (l3 : K.lookup f3 = some ⟨oc3, od3, .func (PySem.W.fnOf "blocks" "Disk.blocks" (defArgs st_Disk_blocks) (defBody st_Disk_blocks) (defScope st_Disk_blocks) .none kV3 dc3 pm3 an3 cd3 ct3), sl3⟩)
    (c3 : PySem.W.codeIn K cd3 "Disk.blocks" = true)
    (k3 : PySem.W.keepIn K (.ref f3) = true)
    (a4 : PySem.W.findIn K (.ref C_Disk) "read" = some (some (.ref f4)))
    (i4 : PySem.W.isFn K (.ref f4) = true)
    (l4 : K.lookup f4 = some ⟨oc4, od4, .func (PySem.W.fnOf "read" "Disk.read" (defArgs st_Disk_read) (defBody st_Disk_read) (defScope st_Disk_read) .none kV4 dc4 pm4 an4 cd4 ct4), sl4⟩)
    (c4 : PySem.W.codeIn K cd4 "Disk.read" = true)
    (k4 : PySem.W.keepIn K (.ref f4) = true)
    (a5 : PySem.W.findIn K (.ref C_Disk) "write" = some (some (.ref f5)))
    (i5 : PySem.W.isFn K (.ref f5) = true)
    (l5 : K.lookup f5 = some ⟨oc5, od5, .func (PySem.W.fnOf "write" "Disk.write" (defArgs st_Disk_write) (defBody st_Disk_write) (defScope st_Disk_write) .none kV5 dc5 pm5 an5 cd5 ct5), sl5⟩)
    (c5 : PySem.W.codeIn K cd5 "Disk.write" = true)
    (k5 : PySem.W.keepIn K (.ref f5) = true)
    (a6 : PySem.W.findIn K (.ref C_Disk) "reads" = some (some (.ref f6)))
    (i6 : PySem.W.isFn K (.ref f6) = true)
    (l6 : K.lookup f6 = some ⟨oc6, od6, .func (PySem.W.fnOf "reads" "Disk.reads" (defArgs st_Disk_reads) (defBody st_Disk_reads) (defScope st_Disk_reads) .none kV6 dc6 pm6 an6 cd6 ct6), sl6⟩)
    (c6 : PySem.W.codeIn K cd6 "Disk.reads" = true)
    (k6 : PySem.W.keepIn K (.ref f6) = true)
    (a7 : PySem.W.findIn K (.ref C_Disk) "writes" = some (some (.ref f7)))
    (i7 : PySem.W.isFn K (.ref f7) = true)
    (l7 : K.lookup f7 = some ⟨oc7, od7, .func (PySem.W.fnOf "writes" "Disk.writes" (defArgs st_Disk_writes) (defBody st_Disk_writes) (defScope st_Disk_writes) .none kV7 dc7 pm7 an7 cd7 ct7), sl7⟩)
    (c7 : PySem.W.codeIn K cd7 "Disk.writes" = true)
    (k7 : PySem.W.keepIn K (.ref f7) = true)
    (a8 : PySem.W.findIn K (.ref C_Disk) "stop_after" = some (some (.ref f8)))
    (i8 : PySem.W.isFn K (.ref f8) = true)
    (l8 : K.lookup f8 = some ⟨oc8, od8, .func (PySem.W.fnOf "stop_after" "Disk.stop_after" (defArgs st_Disk_stop_after) (defBody st_Disk_stop_after) (defScope st_Disk_stop_after) .none kV8 dc8 pm8 an8 cd8 ct8), sl8⟩)
    (c8 : PySem.W.codeIn K cd8 "Disk.stop_after" = true)
    (k8 : PySem.W.keepIn K (.ref f8) = true)
    (a9 : PySem.W.findIn K (.ref C_Disk) "go_on" = some (some (.ref f9)))
    (i9 : PySem.W.isFn K (.ref f9) = true)
    (l9 : K.lookup f9 = some ⟨oc9, od9, .func (PySem.W.fnOf "go_on" "Disk.go_on" (defArgs st_Disk_go_on) (defBody st_Disk_go_on) (defScope st_Disk_go_on) .none kV9 dc9 pm9 an9 cd9 ct9), sl9⟩)
    (c9 : PySem.W.codeIn K cd9 "Disk.go_on" = true)
    (k9 : PySem.W.keepIn K (.ref f9) = true)
    (a10 : PySem.W.findIn K (.ref C_Disk) "twin" = some (some (.ref f10)))
    (i10 : PySem.W.isFn K (.ref f10) = true)
    (l10 : K.lookup f10 = some ⟨oc10, od10, .func (PySem.W.fnOf "twin" "Disk.twin" (defArgs st_Disk_twin) (defBody st_Disk_twin) (defScope st_Disk_twin) .none kV10 dc10 pm10 an10 cd10 ct10), sl10⟩)
    (c10 : PySem.W.codeIn K cd10 "Disk.twin" = true)
    (k10 : PySem.W.keepIn K (.ref f10) = true)
    (a11 : PySem.W.findIn K (.ref C_Disk) "_need_place" = some (some (.ref f11)))
    (i11 : PySem.W.isFn K (.ref f11) = true)
    (l11 : K.lookup f11 = some ⟨oc11, od11, .func (PySem.W.fnOf "_need_place" "Disk._need_place" (defArgs st_Disk__need_place) (defBody st_Disk__need_place) (defScope st_Disk__need_place) .none kV11 dc11 pm11 an11 cd11 ct11), sl11⟩)
    (c11 : PySem.W.codeIn K cd11 "Disk._need_place" = true)
    (k11 : PySem.W.keepIn K (.ref f11) = true)
    (a12 : PySem.W.findIn K (.ref C_Disk) "_write_part" = some (some (.ref f12)))
    (i12 : PySem.W.isFn K (.ref f12) = true)
    (l12 : K.lookup f12 = some ⟨oc12, od12, .func (PySem.W.fnOf "_write_part" "Disk._write_part" (defArgs st_Disk__write_part) (defBody st_Disk__write_part) (defScope st_Disk__write_part) .none kV12 dc12 pm12 an12 cd12 ct12), sl12⟩)
    (c12 : PySem.W.codeIn K cd12 "Disk._write_part" = true)
    (k12 : PySem.W.keepIn K (.ref f12) = true)
    (a13 : PySem.W.nsIn K mainGlobals "_law_taken" = some (some (.ref f13)))
    (l13 : K.lookup f13 = some ⟨oc13, od13, .func (PySem.W.fnOf "_law_taken" "_law_taken" (defArgs st_law_taken) (defBody st_law_taken) (defScope st_law_taken) .none kV13 dc13 pm13 an13 cd13 ct13), sl13⟩)
    (c13 : PySem.W.codeIn K cd13 "_law_taken" = true)
    (k13 : PySem.W.keepIn K (.ref f13) = true)
    (a14 : PySem.W.nsIn K mainGlobals "_law_fresh" = some (some (.ref f14)))
    (l14 : K.lookup f14 = some ⟨oc14, od14, .func (PySem.W.fnOf "_law_fresh" "_law_fresh" (defArgs st_law_fresh) (defBody st_law_fresh) (defScope st_law_fresh) .none kV14 dc14 pm14 an14 cd14 ct14), sl14⟩)
    (c14 : PySem.W.codeIn K cd14 "_law_fresh" = true)
    (k14 : PySem.W.keepIn K (.ref f14) = true)
    (a15 : PySem.W.nsIn K mainGlobals "_law_stop" = some (some (.ref f15)))
    (l15 : K.lookup f15 = some ⟨oc15, od15, .func (PySem.W.fnOf "_law_stop" "_law_stop" (defArgs st_law_stop) (defBody st_law_stop) (defScope st_law_stop) .none kV15 dc15 pm15 an15 cd15 ct15), sl15⟩)
    (c15 : PySem.W.codeIn K cd15 "_law_stop" = true)
    (k15 : PySem.W.keepIn K (.ref f15) = true)
    (a16 : PySem.W.nsIn K mainGlobals "_law_on" = some (some (.ref f16)))
    (l16 : K.lookup f16 = some ⟨oc16, od16, .func (PySem.W.fnOf "_law_on" "_law_on" (defArgs st_law_on) (defBody st_law_on) (defScope st_law_on) .none kV16 dc16 pm16 an16 cd16 ct16), sl16⟩)
    (c16 : PySem.W.codeIn K cd16 "_law_on" = true)
    (k16 : PySem.W.keepIn K (.ref f16) = true)
    (a17 : PySem.W.nsIn K mainGlobals "_law_alike" = some (some (.ref f17)))
    (l17 : K.lookup f17 = some ⟨oc17, od17, .func (PySem.W.fnOf "_law_alike" "_law_alike" (defArgs st_law_alike) (defBody st_law_alike) (defScope st_law_alike) .none kV17 dc17 pm17 an17 cd17 ct17), sl17⟩)
    (c17 : PySem.W.codeIn K cd17 "_law_alike" = true)
    (k17 : PySem.W.keepIn K (.ref f17) = true)
    (a18 : PySem.W.nsIn K mainGlobals "_law_lies" = some (some (.ref f18)))
    (l18 : K.lookup f18 = some ⟨oc18, od18, .func (PySem.W.fnOf "_law_lies" "_law_lies" (defArgs st_law_lies) (defBody st_law_lies) (defScope st_law_lies) .none kV18 dc18 pm18 an18 cd18 ct18), sl18⟩)
    (c18 : PySem.W.codeIn K cd18 "_law_lies" = true)
    (k18 : PySem.W.keepIn K (.ref f18) = true)
    (a19 : PySem.W.nsIn K mainGlobals "_law_words" = some (some (.ref f19)))
    (l19 : K.lookup f19 = some ⟨oc19, od19, .func (PySem.W.fnOf "_law_words" "_law_words" (defArgs st_law_words) (defBody st_law_words) (defScope st_law_words) .none kV19 dc19 pm19 an19 cd19 ct19), sl19⟩)
    (c19 : PySem.W.codeIn K cd19 "_law_words" = true)
    (k19 : PySem.W.keepIn K (.ref f19) = true)
    (a20 : PySem.W.nsIn K mainGlobals "_law_good" = some (some (.ref f20)))
    (l20 : K.lookup f20 = some ⟨oc20, od20, .func (PySem.W.fnOf "_law_good" "_law_good" (defArgs st_law_good) (defBody st_law_good) (defScope st_law_good) .none kV20 dc20 pm20 an20 cd20 ct20), sl20⟩)
    (c20 : PySem.W.codeIn K cd20 "_law_good" = true)
    (k20 : PySem.W.keepIn K (.ref f20) = true)
    (a21 : PySem.W.nsIn K mainGlobals "_law_place" = some (some (.ref f21)))
    (l21 : K.lookup f21 = some ⟨oc21, od21, .func (PySem.W.fnOf "_law_place" "_law_place" (defArgs st_law_place) (defBody st_law_place) (defScope st_law_place) .none kV21 dc21 pm21 an21 cd21 ct21), sl21⟩)
    (c21 : PySem.W.codeIn K cd21 "_law_place" = true)
    (k21 : PySem.W.keepIn K (.ref f21) = true)
    (a22 : PySem.W.nsIn K mainGlobals "_law_wrote" = some (some (.ref f22)))
    (l22 : K.lookup f22 = some ⟨oc22, od22, .func (PySem.W.fnOf "_law_wrote" "_law_wrote" (defArgs st_law_wrote) (defBody st_law_wrote) (defScope st_law_wrote) .none kV22 dc22 pm22 an22 cd22 ct22), sl22⟩)
    (c22 : PySem.W.codeIn K cd22 "_law_wrote" = true)
    (k22 : PySem.W.keepIn K (.ref f22) = true)
    (a23 : PySem.W.nsIn K mainGlobals "_law_to_write" = some (some (.ref f23)))
    (l23 : K.lookup f23 = some ⟨oc23, od23, .func (PySem.W.fnOf "_law_to_write" "_law_to_write" (defArgs st_law_to_write) (defBody st_law_to_write) (defScope st_law_to_write) .none kV23 dc23 pm23 an23 cd23 ct23), sl23⟩)
    (c23 : PySem.W.codeIn K cd23 "_law_to_write" = true)
    (k23 : PySem.W.keepIn K (.ref f23) = true)
    (a24 : PySem.W.nsIn K mainGlobals "_law_read" = some (some (.ref f24)))
    (l24 : K.lookup f24 = some ⟨oc24, od24, .func (PySem.W.fnOf "_law_read" "_law_read" (defArgs st_law_read) (defBody st_law_read) (defScope st_law_read) .none kV24 dc24 pm24 an24 cd24 ct24), sl24⟩)
    (c24 : PySem.W.codeIn K cd24 "_law_read" = true)
    (k24 : PySem.W.keepIn K (.ref f24) = true)
    (a25 : PySem.W.nsIn K mainGlobals "_law_bad_stop" = some (some (.ref f25)))
    (l25 : K.lookup f25 = some ⟨oc25, od25, .func (PySem.W.fnOf "_law_bad_stop" "_law_bad_stop" (defArgs st_law_bad_stop) (defBody st_law_bad_stop) (defScope st_law_bad_stop) .none kV25 dc25 pm25 an25 cd25 ct25), sl25⟩)
    (c25 : PySem.W.codeIn K cd25 "_law_bad_stop" = true)
    (k25 : PySem.W.keepIn K (.ref f25) = true)
    (a26 : PySem.W.nsIn K mainGlobals "_law_bad_disk" = some (some (.ref f26)))
    (l26 : K.lookup f26 = some ⟨oc26, od26, .func (PySem.W.fnOf "_law_bad_disk" "_law_bad_disk" (defArgs st_law_bad_disk) (defBody st_law_bad_disk) (defScope st_law_bad_disk) .none kV26 dc26 pm26 an26 cd26 ct26), sl26⟩)
    (c26 : PySem.W.codeIn K cd26 "_law_bad_disk" = true)
    (k26 : PySem.W.keepIn K (.ref f26) = true)
    (a27 : PySem.W.nsIn K mainGlobals "law" = some (some (.ref f27)))
    (l27 : K.lookup f27 = some ⟨oc27, od27, .func (PySem.W.fnOf "law" "law" (defArgs st_law) (defBody st_law) (defScope st_law) .none kV27 dc27 pm27 an27 cd27 ct27), sl27⟩)
    (c27 : PySem.W.codeIn K cd27 "law" = true)
    (k27 : PySem.W.keepIn K (.ref f27) = true)
    (z_all : PySem.W.nsIn K mainGlobals "all" = some none)
    (z_bool : PySem.W.nsIn K mainGlobals "bool" = some none)
    (z_int : PySem.W.nsIn K mainGlobals "int" = some none)
    (z_isinstance : PySem.W.nsIn K mainGlobals "isinstance" = some none)
    (z_len : PySem.W.nsIn K mainGlobals "len" = some none)
    (z_list : PySem.W.nsIn K mainGlobals "list" = some none)
    (z_max : PySem.W.nsIn K mainGlobals "max" = some none)
    (z_min : PySem.W.nsIn K mainGlobals "min" = some none)
    (z_range : PySem.W.nsIn K mainGlobals "range" = some none)
    (z_str : PySem.W.nsIn K mainGlobals "str" = some none)
    (z_tuple : PySem.W.nsIn K mainGlobals "tuple" = some none)
    (q_LEAST_BLOCKS : PySem.W.nsIn K mainGlobals "LEAST_BLOCKS" = some (some (.int 4 t_LEAST_BLOCKS)))
    (q_MOST_BLOCKS : PySem.W.nsIn K mainGlobals "MOST_BLOCKS" = some (some (.int 64 t_MOST_BLOCKS)))
    (q_BLOCK_WORDS : PySem.W.nsIn K mainGlobals "BLOCK_WORDS" = some (some (.int 8 t_BLOCK_WORDS)))
    (q_MOST_WORD : PySem.W.nsIn K mainGlobals "MOST_WORD" = some (some (.int 1000000000000000 t_MOST_WORD)))
    (q_MOST_COUNT : PySem.W.nsIn K mainGlobals "MOST_COUNT" = some (some (.int 1000000000000000 t_MOST_COUNT)))
    (q_MOST_PART : PySem.W.nsIn K mainGlobals "MOST_PART" = some (some (.int 7 t_MOST_PART))) :
    ∃ fd : FuncData, (∀ (s : Shared) (v : Value), BindsTo s fd ⟨[v], []⟩ [("_law_script", v)]) ∧ ∀ base : Heap, K.In base → base.Ns mainGlobals mg → FnOk l.prog w K mg base CX0 8 fa fd ["_law_script"] (sp_law K Z0) := by
  have e := hfa.symm.trans (PySem.W.mg_of X G a27)
  cases e
  have T : Txt K mg ⟨(), 0, C_BadDisk, C_NoBlock, C_BadBlock, C_BadStop, C_Stopped, C_Disk⟩ := { ok_ := trivial, m_all := PySem.W.mg_none_of X G z_all, m_bool := PySem.W.mg_none_of X G z_bool, m_int := PySem.W.mg_none_of X G z_int, m_isinstance := PySem.W.mg_none_of X G z_isinstance, m_len := PySem.W.mg_none_of X G z_len, m_list := PySem.W.mg_none_of X G z_list, m_max := PySem.W.mg_none_of X G z_max, m_min := PySem.W.mg_none_of X G z_min, m_range := PySem.W.mg_none_of X G z_range, m_str := PySem.W.mg_none_of X G z_str, m_tuple := PySem.W.mg_none_of X G z_tuple, cl_Disk := ⟨pg_Disk, hd_Disk, po_Disk, sa_Disk⟩, g_Disk := PySem.W.mg_of X G aC_Disk, na_Disk__blocks := na_Disk__blocks, na_Disk__let := na_Disk__let, na_Disk__part := na_Disk__part, na_Disk__reads := na_Disk__reads, na_Disk__writes := na_Disk__writes, g_BadBlock := PySem.W.mg_of X G aC_BadBlock, x_BadBlock := x_BadBlock, kp_BadBlock := kp_BadBlock, sb_BadBlock := sb_BadBlock, ty_BadBlock := ty_BadBlock, g_BadDisk := PySem.W.mg_of X G aC_BadDisk, x_BadDisk := x_BadDisk, kp_BadDisk := kp_BadDisk, sb_BadDisk := sb_BadDisk, ty_BadDisk := ty_BadDisk, g_BadStop := PySem.W.mg_of X G aC_BadStop, x_BadStop := x_BadStop, kp_BadStop := kp_BadStop, sb_BadStop := sb_BadStop, ty_BadStop := ty_BadStop, g_NoBlock := PySem.W.mg_of X G aC_NoBlock, x_NoBlock := x_NoBlock, kp_NoBlock := kp_NoBlock, sb_NoBlock := sb_NoBlock, ty_NoBlock := ty_NoBlock, g_Stopped := PySem.W.mg_of X G aC_Stopped, x_Stopped := x_Stopped, kp_Stopped := kp_Stopped, sb_Stopped := sb_Stopped, ty_Stopped := ty_Stopped, e_BadBlock_BadBlock := exm_of sb_BadBlock ic_BadBlock ty_BadBlock s_BadBlock_BadBlock, e_BadBlock_BadDisk := exm_of sb_BadDisk ic_BadDisk ty_BadDisk s_BadBlock_BadDisk, e_BadBlock_BadStop := exm_of sb_BadStop ic_BadStop ty_BadStop s_BadBlock_BadStop, e_BadBlock_NoBlock := exm_of sb_NoBlock ic_NoBlock ty_NoBlock s_BadBlock_NoBlock, e_BadBlock_Stopped := exm_of sb_Stopped ic_Stopped ty_Stopped s_BadBlock_Stopped, e_BadDisk_BadBlock := exm_of sb_BadBlock ic_BadBlock ty_BadBlock s_BadDisk_BadBlock, e_BadDisk_BadDisk := exm_of sb_BadDisk ic_BadDisk ty_BadDisk s_BadDisk_BadDisk, e_BadDisk_BadStop := exm_of sb_BadStop ic_BadStop ty_BadStop s_BadDisk_BadStop, e_BadDisk_NoBlock := exm_of sb_NoBlock ic_NoBlock ty_NoBlock s_BadDisk_NoBlock, e_BadDisk_Stopped := exm_of sb_Stopped ic_Stopped ty_Stopped s_BadDisk_Stopped, e_BadStop_BadBlock := exm_of sb_BadBlock ic_BadBlock ty_BadBlock s_BadStop_BadBlock, e_BadStop_BadDisk := exm_of sb_BadDisk ic_BadDisk ty_BadDisk s_BadStop_BadDisk, e_BadStop_BadStop := exm_of sb_BadStop ic_BadStop ty_BadStop s_BadStop_BadStop, e_BadStop_NoBlock := exm_of sb_NoBlock ic_NoBlock ty_NoBlock s_BadStop_NoBlock, e_BadStop_Stopped := exm_of sb_Stopped ic_Stopped ty_Stopped s_BadStop_Stopped, e_NoBlock_BadBlock := exm_of sb_BadBlock ic_BadBlock ty_BadBlock s_NoBlock_BadBlock, e_NoBlock_BadDisk := exm_of sb_BadDisk ic_BadDisk ty_BadDisk s_NoBlock_BadDisk, e_NoBlock_BadStop := exm_of sb_BadStop ic_BadStop ty_BadStop s_NoBlock_BadStop, e_NoBlock_NoBlock := exm_of sb_NoBlock ic_NoBlock ty_NoBlock s_NoBlock_NoBlock, e_NoBlock_Stopped := exm_of sb_Stopped ic_Stopped ty_Stopped s_NoBlock_Stopped, e_Stopped_BadBlock := exm_of sb_BadBlock ic_BadBlock ty_BadBlock s_Stopped_BadBlock, e_Stopped_BadDisk := exm_of sb_BadDisk ic_BadDisk ty_BadDisk s_Stopped_BadDisk, e_Stopped_BadStop := exm_of sb_BadStop ic_BadStop ty_BadStop s_Stopped_BadStop, e_Stopped_NoBlock := exm_of sb_NoBlock ic_NoBlock ty_NoBlock s_Stopped_NoBlock, e_Stopped_Stopped := exm_of sb_Stopped ic_Stopped ty_Stopped s_Stopped_Stopped, c_LEAST_BLOCKS := ⟨_, PySem.W.mg_of X G q_LEAST_BLOCKS⟩, c_MOST_BLOCKS := ⟨_, PySem.W.mg_of X G q_MOST_BLOCKS⟩, c_BLOCK_WORDS := ⟨_, PySem.W.mg_of X G q_BLOCK_WORDS⟩, c_MOST_WORD := ⟨_, PySem.W.mg_of X G q_MOST_WORD⟩, c_MOST_COUNT := ⟨_, PySem.W.mg_of X G q_MOST_COUNT⟩, c_MOST_PART := ⟨_, PySem.W.mg_of X G q_MOST_PART⟩ }
  have F0 := fun_mk (st := st_is_whole) l0 c0 k0
  have b0 := F0.binds (ps := ["value", "low", "high"]) fun _ _ _ _ _ _ us hl => match us, hl with | [_, _, _], _ => rfl
  have F1 := fun_mk (st := st_is_block) l1 c1 k1
  have b1 := F1.binds (ps := ["words"]) fun _ _ _ _ _ _ us hl => match us, hl with | [_], _ => rfl
  have F2 := fun_mk (st := st_Disk___init__) l2 c2 k2
  have b2 := F2.binds (ps := ["self", "many"]) fun _ _ _ _ _ _ us hl => match us, hl with | [_, _], _ => rfl
  have F3 := fun_mk (st := st_Disk_blocks) l3 c3 k3
  have b3 := F3.binds (ps := ["self"]) fun _ _ _ _ _ _ us hl => match us, hl with | [_], _ => rfl
  have F4 := fun_mk (st := st_Disk_read) l4 c4 k4
  have b4 := F4.binds (ps := ["self", "place"]) fun _ _ _ _ _ _ us hl => match us, hl with | [_, _], _ => rfl
  have F5 := fun_mk (st := st_Disk_write) l5 c5 k5
  have b5 := F5.binds (ps := ["self", "place", "words"]) fun _ _ _ _ _ _ us hl => match us, hl with | [_, _, _], _ => rfl
  have F6 := fun_mk (st := st_Disk_reads) l6 c6 k6
  have b6 := F6.binds (ps := ["self"]) fun _ _ _ _ _ _ us hl => match us, hl with | [_], _ => rfl
  have F7 := fun_mk (st := st_Disk_writes) l7 c7 k7
  have b7 := F7.binds (ps := ["self"]) fun _ _ _ _ _ _ us hl => match us, hl with | [_], _ => rfl
  have F8 := fun_mk (st := st_Disk_stop_after) l8 c8 k8
  have b8 := F8.binds (ps := ["self", "count", "part"]) fun _ _ _ _ _ _ us hl => match us, hl with | [_, _, _], _ => rfl
  have F9 := fun_mk (st := st_Disk_go_on) l9 c9 k9
  have b9 := F9.binds (ps := ["self"]) fun _ _ _ _ _ _ us hl => match us, hl with | [_], _ => rfl
  have F10 := fun_mk (st := st_Disk_twin) l10 c10 k10
  have b10 := F10.binds (ps := ["self"]) fun _ _ _ _ _ _ us hl => match us, hl with | [_], _ => rfl
  have F11 := fun_mk (st := st_Disk__need_place) l11 c11 k11
  have b11 := F11.binds (ps := ["self", "place"]) fun _ _ _ _ _ _ us hl => match us, hl with | [_, _], _ => rfl
  have F12 := fun_mk (st := st_Disk__write_part) l12 c12 k12
  have b12 := F12.binds (ps := ["self", "place", "words"]) fun _ _ _ _ _ _ us hl => match us, hl with | [_, _, _], _ => rfl
  have F13 := fun_mk (st := st_law_taken) l13 c13 k13
  have b13 := F13.binds (ps := ["_law_row", "_law_many"]) fun _ _ _ _ _ _ us hl => match us, hl with | [_, _], _ => rfl
  have F14 := fun_mk (st := st_law_fresh) l14 c14 k14
  have b14 := F14.binds (ps := ["_law_many"]) fun _ _ _ _ _ _ us hl => match us, hl with | [_], _ => rfl
  have F15 := fun_mk (st := st_law_stop) l15 c15 k15
  have b15 := F15.binds (ps := ["_law_disk", "_law_m", "_law_count", "_law_part"]) fun _ _ _ _ _ _ us hl => match us, hl with | [_, _, _, _], _ => rfl
  have F16 := fun_mk (st := st_law_on) l16 c16 k16
  have b16 := F16.binds (ps := ["_law_disk", "_law_m"]) fun _ _ _ _ _ _ us hl => match us, hl with | [_, _], _ => rfl
  have F17 := fun_mk (st := st_law_alike) l17 c17 k17
  have b17 := F17.binds (ps := ["_law_found", "_law_due"]) fun _ _ _ _ _ _ us hl => match us, hl with | [_, _], _ => rfl
  have F18 := fun_mk (st := st_law_lies) l18 c18 k18
  have b18 := F18.binds (ps := ["_law_disk", "_law_m"]) fun _ _ _ _ _ _ us hl => match us, hl with | [_, _], _ => rfl
  have F19 := fun_mk (st := st_law_words) l19 c19 k19
  have b19 := F19.binds (ps := ["_law_row"]) fun _ _ _ _ _ _ us hl => match us, hl with | [_], _ => rfl
  have F20 := fun_mk (st := st_law_good) l20 c20 k20
  have b20 := F20.binds (ps := ["_law_words_here"]) fun _ _ _ _ _ _ us hl => match us, hl with | [_], _ => rfl
  have F21 := fun_mk (st := st_law_place) l21 c21 k21
  have b21 := F21.binds (ps := ["_law_row", "_law_many"]) fun _ _ _ _ _ _ us hl => match us, hl with | [_, _], _ => rfl
  have F22 := fun_mk (st := st_law_wrote) l22 c22 k22
  have b22 := F22.binds (ps := ["_law_disk", "_law_place_here", "_law_words_here"]) fun _ _ _ _ _ _ us hl => match us, hl with | [_, _, _], _ => rfl
  have F23 := fun_mk (st := st_law_to_write) l23 c23 k23
  have b23 := F23.binds (ps := ["_law_m", "_law_place_here", "_law_words_here"]) fun _ _ _ _ _ _ us hl => match us, hl with | [_, _, _], _ => rfl
  have F24 := fun_mk (st := st_law_read) l24 c24 k24
  have b24 := F24.binds (ps := ["_law_disk", "_law_m", "_law_place_here"]) fun _ _ _ _ _ _ us hl => match us, hl with | [_, _, _], _ => rfl
  have F25 := fun_mk (st := st_law_bad_stop) l25 c25 k25
  have b25 := F25.binds (ps := ["_law_disk", "_law_row"]) fun _ _ _ _ _ _ us hl => match us, hl with | [_, _], _ => rfl
  have F26 := fun_mk (st := st_law_bad_disk) l26 c26 k26
  have b26 := F26.binds (ps := ["_law_row"]) fun _ _ _ _ _ _ us hl => match us, hl with | [_], _ => rfl
  have F27 := fun_mk (st := st_law) l27 c27 k27
  refine ⟨PySem.W.fnOf "law" "law" (defArgs st_law) (defBody st_law) (defScope st_law) .none kV27 dc27 pm27 an27 cd27 ct27, fun s v => .of_eq rfl, fun base _ _ => ?_⟩
  have D_is_whole : DefOk l.prog w K mg base CX0 1 "is_whole" ["value", "low", "high"] (sp_is_whole K ⟨(), 0, C_BadDisk, C_NoBlock, C_BadBlock, C_BadStop, C_Stopped, C_Disk⟩) := ⟨f0, _, ok_is_whole F0 T , b0, k0, PySem.W.mg_of X G a0⟩
  have M_Disk___init__ : MakeOk l.prog w K mg base (L2.CX l.prog w) 2 C_Disk ["self", "many"] (sp_Disk___init__ K ⟨(), 0, C_BadDisk, C_NoBlock, C_BadBlock, C_BadStop, C_Stopped, C_Disk⟩) := ⟨⟨f2, _, ok_Disk___init__ F2 T D_is_whole, b2, mk_Disk, a2, i2, kc_Disk⟩⟩
  have M_Disk_blocks : MethOk l.prog w K mg base CX0 1 C_Disk "blocks" ["self"] (sp_Disk_blocks K ⟨(), 0, C_BadDisk, C_NoBlock, C_BadBlock, C_BadStop, C_Stopped, C_Disk⟩) := ⟨⟨f3, _, ok_Disk_blocks F3 T , b3, a3, i3, k3⟩⟩
  have M_Disk__need_place : MethOk l.prog w K mg base (L2.CX l.prog w) 2 C_Disk "_need_place" ["self", "place"] (sp_Disk__need_place K ⟨(), 0, C_BadDisk, C_NoBlock, C_BadBlock, C_BadStop, C_Stopped, C_Disk⟩) := ⟨⟨f11, _, ok_Disk__need_place F11 T D_is_whole, b11, a11, i11, k11⟩⟩
  have M_Disk_read : MethOk l.prog w K mg base (L2.CX l.prog w) 3 C_Disk "read" ["self", "place"] (sp_Disk_read K ⟨(), 0, C_BadDisk, C_NoBlock, C_BadBlock, C_BadStop, C_Stopped, C_Disk⟩) := ⟨⟨f4, _, ok_Disk_read F4 T M_Disk__need_place, b4, a4, i4, k4⟩⟩
  have M_Disk_reads : MethOk l.prog w K mg base CX0 1 C_Disk "reads" ["self"] (sp_Disk_reads K ⟨(), 0, C_BadDisk, C_NoBlock, C_BadBlock, C_BadStop, C_Stopped, C_Disk⟩) := ⟨⟨f6, _, ok_Disk_reads F6 T , b6, a6, i6, k6⟩⟩
  have M_Disk_writes : MethOk l.prog w K mg base CX0 1 C_Disk "writes" ["self"] (sp_Disk_writes K ⟨(), 0, C_BadDisk, C_NoBlock, C_BadBlock, C_BadStop, C_Stopped, C_Disk⟩) := ⟨⟨f7, _, ok_Disk_writes F7 T , b7, a7, i7, k7⟩⟩
  have M_Disk_twin : MethOk l.prog w K mg base CX0 4 C_Disk "twin" ["self"] (sp_Disk_twin K ⟨(), 0, C_BadDisk, C_NoBlock, C_BadBlock, C_BadStop, C_Stopped, C_Disk⟩) := ⟨⟨f10, _, ok_Disk_twin F10 T M_Disk___init__ M_Disk_blocks, b10, a10, i10, k10⟩⟩
  have D_law_taken : DefOk l.prog w K mg base CX0 1 "_law_taken" ["_law_row", "_law_many"] (sp_law_taken K ⟨(), 0, C_BadDisk, C_NoBlock, C_BadBlock, C_BadStop, C_Stopped, C_Disk⟩) := ⟨f13, _, ok_law_taken F13 T , b13, k13, PySem.W.mg_of X G a13⟩
  have D_law_fresh : DefOk l.prog w K mg base CX0 1 "_law_fresh" ["_law_many"] (sp_law_fresh K ⟨(), 0, C_BadDisk, C_NoBlock, C_BadBlock, C_BadStop, C_Stopped, C_Disk⟩) := ⟨f14, _, ok_law_fresh F14 T , b14, k14, PySem.W.mg_of X G a14⟩
  have M_Disk_stop_after : MethOk l.prog w K mg base (L2.CX l.prog w) 2 C_Disk "stop_after" ["self", "count", "part"] (sp_Disk_stop_after K ⟨(), 0, C_BadDisk, C_NoBlock, C_BadBlock, C_BadStop, C_Stopped, C_Disk⟩) := ⟨⟨f8, _, ok_Disk_stop_after F8 T D_is_whole, b8, a8, i8, k8⟩⟩
  have D_law_stop : DefOk l.prog w K mg base CX0 3 "_law_stop" ["_law_disk", "_law_m", "_law_count", "_law_part"] (sp_law_stop K ⟨(), 0, C_BadDisk, C_NoBlock, C_BadBlock, C_BadStop, C_Stopped, C_Disk⟩) := ⟨f15, _, ok_law_stop F15 T M_Disk_stop_after, b15, k15, PySem.W.mg_of X G a15⟩
  have M_Disk_go_on : MethOk l.prog w K mg base CX0 1 C_Disk "go_on" ["self"] (sp_Disk_go_on K ⟨(), 0, C_BadDisk, C_NoBlock, C_BadBlock, C_BadStop, C_Stopped, C_Disk⟩) := ⟨⟨f9, _, ok_Disk_go_on F9 T , b9, a9, i9, k9⟩⟩
  have D_law_on : DefOk l.prog w K mg base CX0 2 "_law_on" ["_law_disk", "_law_m"] (sp_law_on K ⟨(), 0, C_BadDisk, C_NoBlock, C_BadBlock, C_BadStop, C_Stopped, C_Disk⟩) := ⟨f16, _, ok_law_on F16 T M_Disk_go_on, b16, k16, PySem.W.mg_of X G a16⟩
  have R_law_alike : ∀ n : Nat, DefOk l.prog w K mg base CX0 n "_law_alike" ["_law_found", "_law_due"] (sp_law_alike K ⟨(), 0, C_BadDisk, C_NoBlock, C_BadBlock, C_BadStop, C_Stopped, C_Disk⟩ n) := fun n => by
    induction n with
    | zero => exact ⟨f17, _, none_left no_law_alike, b17, k17, PySem.W.mg_of X G a17⟩
    | succ n ih => exact ⟨f17, _, ok_law_alike F17 T ih, b17, k17, PySem.W.mg_of X G a17⟩
  have D_law_alike := R_law_alike 6
  have D_law_lies : DefOk l.prog w K mg base CX0 4 "_law_lies" ["_law_disk", "_law_m"] (sp_law_lies K ⟨(), 0, C_BadDisk, C_NoBlock, C_BadBlock, C_BadStop, C_Stopped, C_Disk⟩) := ⟨f18, _, ok_law_lies F18 T M_Disk_read, b18, k18, PySem.W.mg_of X G a18⟩
  have D_law_words : DefOk l.prog w K mg base CX0 2 "_law_words" ["_law_row"] (sp_law_words K ⟨(), 0, C_BadDisk, C_NoBlock, C_BadBlock, C_BadStop, C_Stopped, C_Disk⟩) := ⟨f19, _, ok_law_words F19 T D_law_taken, b19, k19, PySem.W.mg_of X G a19⟩
  have D_law_place : DefOk l.prog w K mg base CX0 2 "_law_place" ["_law_row", "_law_many"] (sp_law_place K ⟨(), 0, C_BadDisk, C_NoBlock, C_BadBlock, C_BadStop, C_Stopped, C_Disk⟩) := ⟨f21, _, ok_law_place F21 T D_law_taken, b21, k21, PySem.W.mg_of X G a21⟩
  have D_is_block : DefOk l.prog w K mg base CX0 2 "_is_block" ["words"] (sp_is_block K ⟨(), 0, C_BadDisk, C_NoBlock, C_BadBlock, C_BadStop, C_Stopped, C_Disk⟩) := ⟨f1, _, ok_is_block F1 T D_is_whole, b1, k1, PySem.W.mg_of X G a1⟩
  have M_Disk__write_part : MethOk l.prog w K mg base CX0 1 C_Disk "_write_part" ["self", "place", "words"] (sp_Disk__write_part K ⟨(), 0, C_BadDisk, C_NoBlock, C_BadBlock, C_BadStop, C_Stopped, C_Disk⟩) := ⟨⟨f12, _, ok_Disk__write_part F12 T , b12, a12, i12, k12⟩⟩
  have M_Disk_write : MethOk l.prog w K mg base (L2.CX l.prog w) 3 C_Disk "write" ["self", "place", "words"] (sp_Disk_write K ⟨(), 0, C_BadDisk, C_NoBlock, C_BadBlock, C_BadStop, C_Stopped, C_Disk⟩) := ⟨⟨f5, _, ok_Disk_write F5 T D_is_block M_Disk__need_place M_Disk__write_part, b5, a5, i5, k5⟩⟩
  have D_law_wrote : DefOk l.prog w K mg base CX0 4 "_law_wrote" ["_law_disk", "_law_place_here", "_law_words_here"] (sp_law_wrote K ⟨(), 0, C_BadDisk, C_NoBlock, C_BadBlock, C_BadStop, C_Stopped, C_Disk⟩) := ⟨f22, _, ok_law_wrote F22 T M_Disk_write, b22, k22, PySem.W.mg_of X G a22⟩
  have D_law_good : DefOk l.prog w K mg base CX0 1 "_law_good" ["_law_words_here"] (sp_law_good K ⟨(), 0, C_BadDisk, C_NoBlock, C_BadBlock, C_BadStop, C_Stopped, C_Disk⟩) := ⟨f20, _, ok_law_good F20 T , b20, k20, PySem.W.mg_of X G a20⟩
  have D_law_to_write : DefOk l.prog w K mg base CX0 2 "_law_to_write" ["_law_m", "_law_place_here", "_law_words_here"] (sp_law_to_write K ⟨(), 0, C_BadDisk, C_NoBlock, C_BadBlock, C_BadStop, C_Stopped, C_Disk⟩) := ⟨f23, _, ok_law_to_write F23 T D_law_good, b23, k23, PySem.W.mg_of X G a23⟩
  have D_law_read : DefOk l.prog w K mg base CX0 7 "_law_read" ["_law_disk", "_law_m", "_law_place_here"] (sp_law_read K ⟨(), 0, C_BadDisk, C_NoBlock, C_BadBlock, C_BadStop, C_Stopped, C_Disk⟩) := ⟨f24, _, ok_law_read F24 T M_Disk_read D_law_alike, b24, k24, PySem.W.mg_of X G a24⟩
  have D_law_bad_stop : DefOk l.prog w K mg base CX0 3 "_law_bad_stop" ["_law_disk", "_law_row"] (sp_law_bad_stop K ⟨(), 0, C_BadDisk, C_NoBlock, C_BadBlock, C_BadStop, C_Stopped, C_Disk⟩) := ⟨f25, _, ok_law_bad_stop F25 T M_Disk_stop_after D_law_taken, b25, k25, PySem.W.mg_of X G a25⟩
  have D_law_bad_disk : DefOk l.prog w K mg base CX0 4 "_law_bad_disk" ["_law_row"] (sp_law_bad_disk K ⟨(), 0, C_BadDisk, C_NoBlock, C_BadBlock, C_BadStop, C_Stopped, C_Disk⟩) := ⟨f26, _, ok_law_bad_disk F26 T M_Disk___init__ D_law_taken, b26, k26, PySem.W.mg_of X G a26⟩
  have q := ok_law (P := l.prog) (w := w) (base := base) F27 T M_Disk___init__ M_Disk_blocks M_Disk_read M_Disk_reads M_Disk_writes M_Disk_twin D_law_taken D_law_fresh D_law_stop D_law_on D_law_alike D_law_lies D_law_words D_law_place D_law_wrote D_law_to_write D_law_read D_law_bad_stop D_law_bad_disk
  exact q
theorem walk {l : PySem.W.OpenLaw} {q : Program} {loose : List Str} {XP : (Str → Option Value) → Heap → Prop} {YP : World → Heap → Prop} {d : DefRec} {K : Params → PySem.W.Frag} (hn : l.most = some 63) (hdf : d.params.defaults = [])
    (hY : ∀ (w : World) (h : Heap), YP w h → (K w.params).In h)
    (F : ∀ (w : World) (mg : Str → Option Value) (fa : Addr) (h : Heap), (K w.params).In h → h.Ns mainGlobals mg → mg d.name = some (.ref fa) →
      ∃ fd : FuncData, (∀ (s : Shared) (u : Value), BindsTo s fd ⟨[u], []⟩ [("_law_script", u)]) ∧ ∀ base : Heap, (K w.params).In base → base.Ns mainGlobals mg → FnOk l.prog w (K w.params) mg base CX0 8 fa fd ["_law_script"] (sp_law (K w.params) Z0)) :
    PySem.W.WalkO q loose XP YP l.row.toRowW d [] (fun f vs => PySem.call f vs) :=
  L2.walk_of (n := 63) (k := 8) (x := "_law_script") (CX := fun _ => CX0) (sp := fun w => sp_law (K w.params) Z0) hn (by decide) hdf ⟨rfl, by decide, by decide⟩ hY F (fun _ _ a ns hl _ hS => ⟨a, ns, rfl, hS, hl, fun _ => rfl⟩) fun _ _ _ _ _ z => z
end RL
open PySem PySem.W PyProof.Rows in
set_option maxRecDepth 100000 in
set_option maxHeartbeats 0 in
theorem PySem.Challenge.cw_ringlog_k02_disks_holds : PySem.Challenge.rw_ringlog_k02_disks.Holds := by
  w_on; o_law; k_head; (case hw => w_witness2)
  k_fill
  refine RL.walk (l := PySem.Challenge.rw_ringlog_k02_disks) rfl rfl (fun w h Y => PySem.W.kIn_of Y) ?F
  case F =>
    intro w mg fa h KX G hmg
    refine' RL.all_mk KX G hmg ?aC_Disk ?aC_BadBlock ?aC_BadDisk ?aC_BadStop ?aC_NoBlock ?aC_Stopped ?pg_Disk ?hd_Disk ?po_Disk ?sa_Disk ?mk_Disk ?kc_Disk ?na_Disk__blocks ?na_Disk__let ?na_Disk__part ?na_Disk__reads ?na_Disk__writes ?x_BadBlock ?kp_BadBlock ?sb_BadBlock ?ty_BadBlock ?ic_BadBlock ?x_BadDisk ?kp_BadDisk ?sb_BadDisk ?ty_BadDisk ?ic_BadDisk ?x_BadStop ?kp_BadStop ?sb_BadStop ?ty_BadStop ?ic_BadStop ?x_NoBlock ?kp_NoBlock ?sb_NoBlock ?ty_NoBlock ?ic_NoBlock ?x_Stopped ?kp_Stopped ?sb_Stopped ?ty_Stopped ?ic_Stopped ?s_BadBlock_BadBlock ?s_BadBlock_BadDisk ?s_BadBlock_BadStop ?s_BadBlock_NoBlock ?s_BadBlock_Stopped ?s_BadDisk_BadBlock ?s_BadDisk_BadDisk ?s_BadDisk_BadStop ?s_BadDisk_NoBlock ?s_BadDisk_Stopped ?s_BadStop_BadBlock ?s_BadStop_BadDisk ?s_BadStop_BadStop ?s_BadStop_NoBlock ?s_BadStop_Stopped ?s_NoBlock_BadBlock ?s_NoBlock_BadDisk ?s_NoBlock_BadStop ?s_NoBlock_NoBlock ?s_NoBlock_Stopped ?s_Stopped_BadBlock ?s_Stopped_BadDisk ?s_Stopped_BadStop ?s_Stopped_NoBlock ?s_Stopped_Stopped ?a0 ?l0 ?c0 ?k0 ?a1 ?l1 ?c1 ?k1 ?a2 ?i2 ?l2 ?c2 ?k2 ?a3 ?i3 ?l3 ?c3 ?k3 ?a4 ?i4 ?l4 ?c4 ?k4 ?a5 ?i5 ?l5 ?c5 ?k5 ?a6 ?i6 ?l6 ?c6 ?k6 ?a7 ?i7 ?l7 ?c7 ?k7 ?a8 ?i8 ?l8 ?c8 ?k8 ?a9 ?i9 ?l9 ?c9 ?k9 ?a10 ?i10 ?l10 ?c10 ?k10 ?a11 ?i11 ?l11 ?c11 ?k11 ?a12 ?i12 ?l12 ?c12 ?k12 ?a13 ?l13 ?c13 ?k13 ?a14 ?l14 ?c14 ?k14 ?a15 ?l15 ?c15 ?k15 ?a16 ?l16 ?c16 ?k16 ?a17 ?l17 ?c17 ?k17 ?a18 ?l18 ?c18 ?k18 ?a19 ?l19 ?c19 ?k19 ?a20 ?l20 ?c20 ?k20 ?a21 ?l21 ?c21 ?k21 ?a22 ?l22 ?c22 ?k22 ?a23 ?l23 ?c23 ?k23 ?a24 ?l24 ?c24 ?k24 ?a25 ?l25 ?c25 ?k25 ?a26 ?l26 ?c26 ?k26 ?a27 ?l27 ?c27 ?k27 ?z_all ?z_bool ?z_int ?z_isinstance ?z_len ?z_list ?z_max ?z_min ?z_range ?z_str ?z_tuple ?q_LEAST_BLOCKS ?q_MOST_BLOCKS ?q_BLOCK_WORDS ?q_MOST_WORD ?q_MOST_COUNT ?q_MOST_PART
    (case aC_Disk => k_is)
    (case aC_BadBlock => k_is)
    (case aC_BadDisk => k_is)
    (case aC_BadStop => k_is)
    (case aC_NoBlock => k_is)
    (case aC_Stopped => k_is)
    (case pg_Disk => k_is)
    (case hd_Disk => k_is)
    (case po_Disk => k_is)
    (case sa_Disk => k_is)
    (case mk_Disk => k_is)
    (case kc_Disk => k_is)
    (case na_Disk__blocks => k_is)
    (case na_Disk__let => k_is)
    (case na_Disk__part => k_is)
    (case na_Disk__reads => k_is)
    (case na_Disk__writes => k_is)
    (case x_BadBlock => k_exc)
    (case kp_BadBlock => k_is)
    (case sb_BadBlock => k_is)
    (case ty_BadBlock => k_is)
    (case ic_BadBlock => k_is)
    (case x_BadDisk => k_exc)
    (case kp_BadDisk => k_is)
    (case sb_BadDisk => k_is)
    (case ty_BadDisk => k_is)
    (case ic_BadDisk => k_is)
    (case x_BadStop => k_exc)
    (case kp_BadStop => k_is)
    (case sb_BadStop => k_is)
    (case ty_BadStop => k_is)
    (case ic_BadStop => k_is)
    (case x_NoBlock => k_exc)
    (case kp_NoBlock => k_is)
    (case sb_NoBlock => k_is)
    (case ty_NoBlock => k_is)
    (case ic_NoBlock => k_is)
    (case x_Stopped => k_exc)
    (case kp_Stopped => k_is)
    (case sb_Stopped => k_is)
    (case ty_Stopped => k_is)
    (case ic_Stopped => k_is)
    (case s_BadBlock_BadBlock => first | rfl | k_is)
    (case s_BadBlock_BadDisk => k_is)
    (case s_BadBlock_BadStop => k_is)
    (case s_BadBlock_NoBlock => k_is)
    (case s_BadBlock_Stopped => k_is)
    (case s_BadDisk_BadBlock => k_is)
    (case s_BadDisk_BadDisk => first | rfl | k_is)
    (case s_BadDisk_BadStop => k_is)
    (case s_BadDisk_NoBlock => k_is)
    (case s_BadDisk_Stopped => k_is)
    (case s_BadStop_BadBlock => k_is)
    (case s_BadStop_BadDisk => k_is)
    (case s_BadStop_BadStop => first | rfl | k_is)
    (case s_BadStop_NoBlock => k_is)
    (case s_BadStop_Stopped => k_is)
    (case s_NoBlock_BadBlock => k_is)
    (case s_NoBlock_BadDisk => k_is)
    (case s_NoBlock_BadStop => k_is)
    (case s_NoBlock_NoBlock => first | rfl | k_is)
    (case s_NoBlock_Stopped => k_is)
    (case s_Stopped_BadBlock => k_is)
    (case s_Stopped_BadDisk => k_is)
    (case s_Stopped_BadStop => k_is)
    (case s_Stopped_NoBlock => k_is)
    (case s_Stopped_Stopped => first | rfl | k_is)
    (case a0 => k_is)
    (case l0 => k_is)
    (case c0 => k_is)
    (case k0 => k_is)
    (case a1 => k_is)
    (case l1 => k_is)
    (case c1 => k_is)
    (case k1 => k_is)
    (case a2 => k_is)
    (case i2 => k_is)
    (case l2 => k_is)
    (case c2 => k_is)
    (case k2 => k_is)
    (case a3 => k_is)
    (case i3 => k_is)
    (case l3 => k_is)
    (case c3 => k_is)
    (case k3 => k_is)
    (case a4 => k_is)
    (case i4 => k_is)
    (case l4 => k_is)
    (case c4 => k_is)
    (case k4 => k_is)
    (case a5 => k_is)
    (case i5 => k_is)
    (case l5 => k_is)
    (case c5 => k_is)
    (case k5 => k_is)
    (case a6 => k_is)
    (case i6 => k_is)
    (case l6 => k_is)
    (case c6 => k_is)
    (case k6 => k_is)
    (case a7 => k_is)
    (case i7 => k_is)
    (case l7 => k_is)
    (case c7 => k_is)
    (case k7 => k_is)
    (case a8 => k_is)
    (case i8 => k_is)
    (case l8 => k_is)
    (case c8 => k_is)
    (case k8 => k_is)
    (case a9 => k_is)
    (case i9 => k_is)
    (case l9 => k_is)
    (case c9 => k_is)
    (case k9 => k_is)
    (case a10 => k_is)
    (case i10 => k_is)
    (case l10 => k_is)
    (case c10 => k_is)
    (case k10 => k_is)
    (case a11 => k_is)
    (case i11 => k_is)
    (case l11 => k_is)
    (case c11 => k_is)
    (case k11 => k_is)
    (case a12 => k_is)
    (case i12 => k_is)
    (case l12 => k_is)
    (case c12 => k_is)
    (case k12 => k_is)
    (case a13 => k_is)
    (case l13 => k_is)
    (case c13 => k_is)
    (case k13 => k_is)
    (case a14 => k_is)
    (case l14 => k_is)
    (case c14 => k_is)
    (case k14 => k_is)
    (case a15 => k_is)
    (case l15 => k_is)
    (case c15 => k_is)
    (case k15 => k_is)
    (case a16 => k_is)
    (case l16 => k_is)
    (case c16 => k_is)
    (case k16 => k_is)
    (case a17 => k_is)
    (case l17 => k_is)
    (case c17 => k_is)
    (case k17 => k_is)
    (case a18 => k_is)
    (case l18 => k_is)
    (case c18 => k_is)
    (case k18 => k_is)
    (case a19 => k_is)
    (case l19 => k_is)
    (case c19 => k_is)
    (case k19 => k_is)
    (case a20 => k_is)
    (case l20 => k_is)
    (case c20 => k_is)
    (case k20 => k_is)
    (case a21 => k_is)
    (case l21 => k_is)
    (case c21 => k_is)
    (case k21 => k_is)
    (case a22 => k_is)
    (case l22 => k_is)
    (case c22 => k_is)
    (case k22 => k_is)
    (case a23 => k_is)
    (case l23 => k_is)
    (case c23 => k_is)
    (case k23 => k_is)
    (case a24 => k_is)
    (case l24 => k_is)
    (case c24 => k_is)
    (case k24 => k_is)
    (case a25 => k_is)
    (case l25 => k_is)
    (case c25 => k_is)
    (case k25 => k_is)
    (case a26 => k_is)
    (case l26 => k_is)
    (case c26 => k_is)
    (case k26 => k_is)
    (case a27 => k_is)
    (case l27 => k_is)
    (case c27 => k_is)
    (case k27 => k_is)
    (case z_all => k_is)
    (case z_bool => k_is)
    (case z_int => k_is)
    (case z_isinstance => k_is)
    (case z_len => k_is)
    (case z_list => k_is)
    (case z_max => k_is)
    (case z_min => k_is)
    (case z_range => k_is)
    (case z_str => k_is)
    (case z_tuple => k_is)
    (case q_LEAST_BLOCKS => k_is)
    (case q_MOST_BLOCKS => k_is)
    (case q_BLOCK_WORDS => k_is)
    (case q_MOST_WORD => k_is)
    (case q_MOST_COUNT => k_is)
    (case q_MOST_PART => k_is)

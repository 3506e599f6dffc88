import PyProof.Rows.All
import Wide.All
import OpenK.AllK
import Wide.FinOn
import HandS.ForMost
import HandS.Star
import HandS.IsInst
import HandS.Walk
import HandS.WideBits
import HandS.ForExc
import HandS.TryMany
import HandS.Dict
import HandS.Sort
import PySem.Challenge.RW_ringlog_k16_whole_alike_on_disks_of_two
set_option Elab.async false
set_option maxRecDepth 100000
set_option maxHeartbeats 1000000
set_option linter.all false
namespace RL
open PySem L2 StX
/-! ### range as a value; x not in range(n) for ints, None, texts -/
def rRng1 : List V → Hp → VK → Prop := fun vs H Q => ∃ j : Int, vs = [.int j] ∧ ∀ p, H p = none → Q (.ref p) (upd H p (.rng 0 j))
theorem cr_range1 {X : Cx} : CallR X (.type "range") rRng1 := by
  intro pins s σ H vs us Q I r h
  obtain ⟨j, rfl, q⟩ := h
  obtain ⟨u1, rfl, t, rfl⟩ : ∃ u1, us = [u1] ∧ ∃ t, u1 = Value.int j t := by
    cases r with
    | cons r1 r2 =>
      cases r2
      exact ⟨_, rfl, r1⟩
  refine call_range_1 ⟨.ref s.heap.objs.size, upd H s.heap.objs.size (.rng 0 j), ?_, rfl, q _ (I.hok.fresh (Nat.le_refl _))⟩
  exact Inv.laid I (fun b o e => Heap.get?_push_of_some _ e) (Nat.le_refl _) ⟨_, _, _, Heap.get?_push_size s.heap rfl⟩
theorem plain_rng_loop : plainId "range.__contains__.loop" = true := by decide +kernel
theorem entry_rng_loop : entryFor table "range.__contains__.loop" = some Builtin.«range.__contains__.loop» := entryFor_of_fast (by kernel_rfl)
def NoInt (x : Value) : Prop := x = .none ∨ ∃ z k, x = .str z k
theorem NoInt.eq {x : Value} (h : NoInt x) (A : Around) (s : Shared) (i : Int) (t : Tok) : SeqAt.EqAt A s (.int i t) x false := by
  rcases h with rfl | ⟨z, k, rfl⟩
  · exact SeqAt.EqAt.int_none i t
  · exact SeqAt.EqAt.int_str i t z k
theorem rng_loop (r : Addr) (n : Int) (t u v : Tok) (x : Value) (hx : NoInt x) (k : Nat) :
    ∀ i : Nat, n.toNat - i = k → Meets (Builtin.«range.__contains__.loop» ⟨[.ref r, x, rawInt i], []⟩)
      (fun _ R s => s.heap.get? r = some { cls := .type "range", dict := none, data := .fields #[.int 0 t, .int n u, .int 1 v], slots := #[] } ∧ ∀ t', R (.ok (.ret (.bool false))) { s with toks := t' }) := by
  have e : Builtin.Range.rangeSize 0 n 1 = n.toNat := by
    unfold Builtin.Range.rangeSize
    rw [if_pos (by decide)]
    split <;> omega
  induction k with
  | zero =>
    intro i hk prog w A R s h
    obtain ⟨hp, g, d, tk, os⟩ := s; obtain ⟨hl, h⟩ := h
    wp_walk
    rw [if_pos (by rw [e]; omega)]
    wp_walk
    exact h _
  | succ k ih =>
    intro i hk prog w A R s h
    obtain ⟨hp, g, d, tk, os⟩ := s; obtain ⟨hl, h⟩ := h
    wp_walk
    rw [if_neg (by rw [e]; omega)]
    generalize hE : eqBool = eB
    wp_walk
    subst hE
    refine hx.eq _ _ _ _ prog w _ _ ?_
    have hc : ((i : Int) + 1) = ((i + 1 : Nat) : Int) := by push_cast; rfl
    wp_walk
    rw [hc]
    exact ⟨plainId_quiet plain_rng_loop _, codeAny_builtin entry_rng_loop (by
      rw [Around.under_plainId plain_rng_loop _]
      exact ih (i + 1) (by omega) prog w A R _ ⟨hl, h⟩)⟩
theorem q_containsNo (r : Addr) (n : Int) (t u v : Tok) (x : Value) (hx : NoInt x) :
    Meets (Builtin.«range.__contains__» ⟨[.ref r, x], []⟩) (fun _ R s => s.heap.get? r = some { cls := .type "range", dict := none, data := .fields #[.int 0 t, .int n u, .int 1 v], slots := #[] } ∧ ∀ t', R (.ok (.ret (.bool false))) { s with toks := t' }) := by
  intro prog w A R s h
  obtain ⟨hp, g, d, tk, os⟩ := s; obtain ⟨hl, h⟩ := h
  have e : Builtin.Range.rangeExactInt? x = none := by
    rcases hx with rfl | ⟨z, k, rfl⟩ <;> rfl
  wp_walk
  rw [e]
  wp_walk
  exact ⟨plainId_quiet plain_rng_loop _, codeAny_builtin entry_rng_loop (by
    rw [Around.under_plainId plain_rng_loop _]
    exact rng_loop r n t u v x hx _ 0 rfl prog w A R _ ⟨hl, h⟩)⟩
def rNotRng : R2 := fun x y H Q => ∃ a n, y = .ref a ∧ H a = some (.rng 0 n) ∧ ((∃ i, x = .int i ∧ Q (.bl (!decide (0 ≤ i ∧ i < n))) H) ∨ ((x = .non ∨ ∃ z, x = .str z) ∧ Q (.bl true) H))
theorem op_notInRng {X : Cx} : OpR X (compareOp .NotIn) rNotRng := by
  intro pins s σ H x y v u Q I rx ry h
  obtain ⟨a, n, rfl, ha, h⟩ := h
  obtain rfl : u = Value.ref a := ry
  obtain ⟨t1, t2, t3, ho⟩ := I.hok a _ ha
  show wpAny _ _ (do return Value.bool (!(← contains (Value.ref a) v))) _ _ s
  rcases h with ⟨i, rfl, q⟩ | ⟨hx, q⟩
  · obtain ⟨k, rfl⟩ := rx
    refine wpAny_bind (wpAny_contains_slot (T := "range") ⟨_, ho, rfl⟩ F.slot_range_contains (call_meets F.slot_range_contains ⟨_, ho, rfl⟩ F.entry_range_contains (F.args_range_contains_2 _ _) (q_contains a 0 n i t1 t2 t3 k)
      ⟨ho, wpAny_truthy_bool (wpAny_pure ⟨.bl _, H, I, rfl, ?_⟩)⟩))
    rw [place1]
    exact q
  · have hn : NoInt v := by
      rcases hx with rfl | ⟨z, rfl⟩
      · exact .inl rx
      · obtain ⟨t, rfl⟩ := rx
        exact .inr ⟨_, _, rfl⟩
    refine wpAny_bind (wpAny_contains_slot (T := "range") ⟨_, ho, rfl⟩ F.slot_range_contains (call_meets F.slot_range_contains ⟨_, ho, rfl⟩ F.entry_range_contains (F.args_range_contains_2 _ _) (q_containsNo a n t1 t2 t3 v hn)
      ⟨ho, fun t' => wpAny_truthy_bool (wpAny_pure ⟨.bl _, H, I.tok t', rfl, ?_⟩)⟩))
    exact q
end RL
namespace RL
open PySem L2 StX

/-! ### heaps as lists of what stands where -/
structure Holds (H : Hp) (L : List (Addr × HO)) : Prop where
  nd : (L.map Prod.fst).Nodup
  at_ : ∀ x ∈ L, H x.1 = some x.2
theorem Holds.get {H : Hp} {L : List (Addr × HO)} {a : Addr} {o : HO} (h : Holds H L) (m : (a, o) ∈ L) : H a = some o := h.at_ _ m
theorem Holds.fresh {H : Hp} {L : List (Addr × HO)} (h : Holds H L) {p : Addr} (hp : H p = none) : p ∉ L.map Prod.fst := fun hm => by
  obtain ⟨x, hx, e⟩ := List.mem_map.mp hm
  have := h.at_ x hx
  rw [e, hp] at this
  cases this
theorem Holds.nil {H : Hp} : Holds H [] := ⟨List.nodup_nil, fun _ h => nomatch h⟩
theorem Holds.one {H : Hp} {a : Addr} {o : HO} (h : H a = some o) : Holds H [(a, o)] := ⟨by simp, fun x hx => by
  obtain rfl : x = (a, o) := by simpa using hx
  exact h⟩
theorem Holds.tl {H : Hp} {L : List (Addr × HO)} {x : Addr × HO} (h : Holds H (x :: L)) : Holds H L :=
  ⟨(List.nodup_cons.mp h.nd).2, fun y hy => h.at_ y (List.mem_cons_of_mem _ hy)⟩
/-- a new object -/
theorem Holds.new {H : Hp} {L : List (Addr × HO)} (h : Holds H L) {p : Addr} (hp : H p = none) (o : HO) : Holds (upd H p o) ((p, o) :: L) := by
  refine ⟨?_, fun x hx => ?_⟩
  · rw [List.map_cons, List.nodup_cons]
    exact ⟨h.fresh hp, h.nd⟩
  · rcases List.mem_cons.mp hx with e | hx
    · rw [e]
      exact upd_same
    · have := h.at_ x hx
      rw [upd_ne (ne_of_none this hp)]
      exact this
/-- a new object that is let go -/
theorem Holds.lost {H : Hp} {L : List (Addr × HO)} (h : Holds H L) {p : Addr} (hp : H p = none) (o : HO) : Holds (upd H p o) L := (h.new hp o).tl
theorem Holds.drop2 {H : Hp} {L : List (Addr × HO)} {x y : Addr × HO} (h : Holds H (x :: y :: L)) : Holds H (x :: L) := by
  refine ⟨?_, fun z hz => h.at_ z ?_⟩
  · have := h.nd
    simp only [List.map_cons, List.nodup_cons, List.mem_cons, not_or] at this ⊢
    exact ⟨this.1.2, this.2.2⟩
  · rcases List.mem_cons.mp hz with e | e
    · rw [e]; exact List.mem_cons_self
    · exact List.mem_cons_of_mem _ (List.mem_cons_of_mem _ e)
/-- L' is L with o' at a -/
inductive Rep : List (Addr × HO) → Addr → HO → List (Addr × HO) → Prop
  | here {a : Addr} {o o' : HO} {L : List (Addr × HO)} : Rep ((a, o) :: L) a o' ((a, o') :: L)
  | there {a : Addr} {o' : HO} {x : Addr × HO} {L L' : List (Addr × HO)} : Rep L a o' L' → Rep (x :: L) a o' (x :: L')
theorem Rep.fst {L L' : List (Addr × HO)} {a : Addr} {o' : HO} (r : Rep L a o' L') : L'.map Prod.fst = L.map Prod.fst := by
  induction r with
  | here => rfl
  | there _ ih => simp [ih]
theorem Rep.mem {L L' : List (Addr × HO)} {a : Addr} {o' : HO} (r : Rep L a o' L') : (a, o') ∈ L' := by
  induction r with
  | here => exact List.mem_cons_self
  | there _ ih => exact List.mem_cons_of_mem _ ih
theorem Rep.old {L L' : List (Addr × HO)} {a : Addr} {o' : HO} (r : Rep L a o' L') (nd : (L.map Prod.fst).Nodup) : ∀ x ∈ L', x = (a, o') ∨ (x ∈ L ∧ x.1 ≠ a) := by
  induction r with
  | @here a o o' L =>
    intro x hx
    rcases List.mem_cons.mp hx with e | hx
    · exact .inl e
    · refine .inr ⟨List.mem_cons_of_mem _ hx, fun e => ?_⟩
      rw [List.map_cons, List.nodup_cons] at nd
      exact nd.1 (List.mem_map.mpr ⟨x, hx, e⟩)
  | @there a o' y L L' r ih =>
    intro x hx
    rw [List.map_cons, List.nodup_cons] at nd
    rcases List.mem_cons.mp hx with e | hx
    · refine .inr ⟨e ▸ List.mem_cons_self, fun q => ?_⟩
      have hm : a ∈ L.map Prod.fst := r.fst ▸ List.mem_map_of_mem (f := Prod.fst) r.mem
      rw [e] at q
      exact nd.1 (q ▸ hm)
    · rcases ih nd.2 x hx with e | ⟨h1, h2⟩
      · exact .inl e
      · exact .inr ⟨List.mem_cons_of_mem _ h1, h2⟩
/-- a store -/
theorem Holds.put {H : Hp} {L L' : List (Addr × HO)} {a : Addr} {o' : HO} (h : Holds H L) (r : Rep L a o' L') : Holds (upd H a o') L' := by
  refine ⟨by rw [r.fst]; exact h.nd, fun x hx => ?_⟩
  rcases r.old h.nd x hx with e | ⟨h1, h2⟩
  · rw [e]
    exact upd_same
  · rw [upd_ne h2]
    exact h.at_ x h1
/-- what stood and is none of W stands as it was -/
def Upto (W : List Addr) (H H' : Hp) : Prop := ∀ b o, b ∉ W → H b = some o → H' b = some o
theorem Upto.refl (W : List Addr) (H : Hp) : Upto W H H := fun _ _ _ h => h
theorem Upto.trans {W : List Addr} {H H1 H2 : Hp} (a : Upto W H H1) (b : Upto W H1 H2) : Upto W H H2 := fun c o n h => b c o n (a c o n h)
theorem Upto.mono {W W' : List Addr} {H H1 : Hp} (a : Upto W H H1) (s : ∀ x ∈ W, x ∈ W') : Upto W' H H1 := fun c o n h => a c o (fun z => n (s c z)) h
theorem Upto.new {W : List Addr} {H : Hp} {p : Addr} {o : HO} (hp : H p = none) : Upto W H (upd H p o) := fun b u _ q => by rw [upd_ne (ne_of_none q hp)]; exact q
theorem Upto.put {W : List Addr} {H : Hp} {p : Addr} {o : HO} (hp : p ∈ W) : Upto W H (upd H p o) := fun b u n q => by
  have hb : b ≠ p := fun e => n (by rw [e]; exact hp)
  rw [upd_ne hb]
  exact q
theorem Same.upto {W : List Addr} {H H' : Hp} (s : Same H H') : Upto W H H' := fun b o _ h => s b o h
theorem Upto.same {H H' : Hp} (s : Upto [] H H') : Same H H' := fun b o h => s b o (by simp) h
theorem Holds.same {H H' : Hp} {L : List (Addr × HO)} (h : Holds H L) (s : Same H H') : Holds H' L := ⟨h.nd, fun x hx => s _ _ (h.at_ x hx)⟩
theorem Holds.away {H H' : Hp} {L : List (Addr × HO)} {W : List Addr} (h : Holds H L) (u : Upto W H H') (d : ∀ x ∈ L, x.1 ∉ W) : Holds H' L := ⟨h.nd, fun x hx => u _ _ (d x hx) (h.at_ x hx)⟩
/-- behind a call that changes a alone -/
theorem Holds.upto {H H' : Hp} {L L' : List (Addr × HO)} {a : Addr} {o' : HO} (h : Holds H L) (u : Upto [a] H H') (e : H' a = some o') (r : Rep L a o' L') : Holds H' L' := by
  refine ⟨by rw [r.fst]; exact h.nd, fun x hx => ?_⟩
  rcases r.old h.nd x hx with q | ⟨h1, h2⟩
  · rw [q]
    exact e
  · exact u _ _ (by simpa using h2) (h.at_ x h1)
theorem same_new {H : Hp} {p : Addr} (h : H p = none) (o : HO) : Same H (upd H p o) := fun b u q => by rw [upd_ne (ne_of_none q h)]; exact q
theorem Holds.uptoNew {H H' : Hp} {W : List Addr} {p : Addr} (h : Upto W H H') (n : H' p = none) (hw : p ∉ W) : H p = none := by
  cases q : H p with
  | none => rfl
  | some o =>
    rw [h p o hw q] at n
    cases n

/-! ### calls of the module's defs -/
structure DefOk (P : Program) (w : World) (K : PySem.W.Frag) (mg : Str → Option Value) (base : Heap) (CX : CXT) (k : Nat) (x : Str) (ps : List Str) (sp : Sp) : Prop where
  ex : ∃ (f : Addr) (fd : FuncData), FnOk P w K mg base CX k f fd ps sp ∧ Binds K fd ps [] ∧ PySem.W.keepIn K (.ref f) = true ∧ mg x = some (.ref f)
section
variable {X : Cx} {CX : CXT} {k n : Nat} {ps : List Str} {sp : Sp} {E : XK} {x : Str} {p pos : Pos} {e : Expr} {es : List Expr} {t : TA}
theorem pe_callD (D : DefOk X.prog X.w X.K X.mg X.base CX k x ps sp) (hr : Room n X.A) (hg : Gl X x) (hx : Passes CX X E)
    (ha : PA X (e :: es) t) (hk : k ≤ n := by first | decide | exact Nat.le_refl _) (hdb : (x == ("__debug__" : Str)) = false := by decide) (he : starEach (e :: es) X.env = (false, eval e X.env) :: starEach es X.env := by rfl) (hpl : (backTo pos (starEach es X.env)).any (·.1) = false := by rfl) :
    PE X (.Call (.Name x p) (e :: es) [] pos) (tCall sp [] E t) := by
  obtain ⟨f, fd, F, b, kp, m⟩ := D.ex
  exact pe_call F (hr.mono hk) hg m kp b .nil hx ha hdb he hpl
theorem pe_callD0 (D : DefOk X.prog X.w X.K X.mg X.base CX k x ps sp) (hr : Room n X.A) (hg : Gl X x) (hx : Passes CX X E)
    (hk : k ≤ n := by first | decide | exact Nat.le_refl _) (hdb : (x == ("__debug__" : Str)) = false := by decide) :
    PE X (.Call (.Name x p) [] [] pos) (tCall sp [] E tNil) := by
  obtain ⟨f, fd, F, b, kp, m⟩ := D.ex
  exact pe_call0 F (hr.mono hk) hg m kp b .nil hx hdb
end

/-! ### the state of a body: W may be written, H0 at the entry, H now; M what may be written (W's and what is new), I what is read -/
structure Hs (W : List Addr) (H0 H : Hp) (M I : List (Addr × HO)) : Prop where
  up : Upto W H0 H
  nd : ((M ++ I).map Prod.fst).Nodup
  at_ : ∀ x ∈ M ++ I, H x.1 = some x.2
  mu : ∀ x ∈ M, x.1 ∈ W ∨ H0 x.1 = none
section
variable {W : List Addr} {H0 H H' : Hp} {M M' I : List (Addr × HO)} {a p : Addr} {o o' : HO}
theorem Hs.holds (h : Hs W H0 H M I) : Holds H (M ++ I) := ⟨h.nd, h.at_⟩
theorem Hs.getM (h : Hs W H0 H M I) (m : (a, o) ∈ M) : H a = some o := h.at_ _ (List.mem_append_left _ m)
theorem Hs.getI (h : Hs W H0 H M I) (m : (a, o) ∈ I) : H a = some o := h.at_ _ (List.mem_append_right _ m)
theorem Hs.start {H : Hp} {M I : List (Addr × HO)} (nd : ((M ++ I).map Prod.fst).Nodup) (h : ∀ x ∈ M ++ I, H x.1 = some x.2) : Hs (M.map Prod.fst) H H M I :=
  ⟨Upto.refl _ _, nd, h, fun _ hx => .inl (List.mem_map_of_mem hx)⟩
theorem Hs.new (h : Hs W H0 H M I) (hp : H p = none) (o : HO) : Hs W H0 (upd H p o) ((p, o) :: M) I := by
  have q := h.holds.new hp o
  refine ⟨h.up.trans (Upto.new hp), q.nd, q.at_, fun x hx => ?_⟩
  rcases List.mem_cons.mp hx with e | hx
  · rw [e]
    by_cases hw : p ∈ W
    · exact .inl hw
    · exact .inr (Holds.uptoNew h.up hp hw)
  · exact h.mu x hx
theorem Hs.lost (h : Hs W H0 H M I) (hp : H p = none) (o : HO) : Hs W H0 (upd H p o) M I :=
  ⟨h.up.trans (Upto.new hp), h.nd, (h.holds.lost hp o).at_, h.mu⟩
theorem Rep.app {L L' : List (Addr × HO)} (r : Rep L a o' L') (I : List (Addr × HO)) : Rep (L ++ I) a o' (L' ++ I) := by
  induction r with
  | here => exact .here
  | there _ ih => exact .there ih
theorem Rep.memL {L L' : List (Addr × HO)} (r : Rep L a o' L') : ∃ o, (a, o) ∈ L := by
  induction r with
  | here => exact ⟨_, List.mem_cons_self⟩
  | there _ ih =>
    obtain ⟨o, ho⟩ := ih
    exact ⟨o, List.mem_cons_of_mem _ ho⟩
theorem Hs.mu' (h : Hs W H0 H M I) (r : Rep M a o' M') : ∀ x ∈ M', x.1 ∈ W ∨ H0 x.1 = none := fun x hx => by
  have : x.1 ∈ M.map Prod.fst := r.fst ▸ List.mem_map_of_mem hx
  obtain ⟨y, hy, e⟩ := List.mem_map.mp this
  rw [← e]
  exact h.mu y hy
theorem Hs.put (h : Hs W H0 H M I) (r : Rep M a o' M') : Hs W H0 (upd H a o') M' I := by
  have q := h.holds.put (r.app I)
  refine ⟨fun b u n e => ?_, q.nd, q.at_, h.mu' r⟩
  have e1 := h.up b u n e
  have hb : b ≠ a := fun z => by
    obtain ⟨o, hm⟩ := r.memL
    rcases h.mu _ hm with w | w
    · exact n (z ▸ w)
    · rw [z] at e
      rw [w] at e
      cases e
  rw [upd_ne hb]
  exact e1
/-- behind a call that changes a alone -/
theorem Hs.call1 (h : Hs W H0 H M I) (u : Upto [a] H H') (e : H' a = some o') (r : Rep M a o' M') : Hs W H0 H' M' I := by
  have q := h.holds.upto u e (r.app I)
  refine ⟨fun b v n eb => ?_, q.nd, q.at_, h.mu' r⟩
  have hb : b ≠ a := fun z => by
    obtain ⟨o, hm⟩ := r.memL
    rcases h.mu _ hm with w | w
    · exact n (z ▸ w)
    · rw [z] at eb
      rw [w] at eb
      cases eb
  exact u b v (by simpa using hb) (h.up b v n eb)
/-- behind a call that changes nothing -/
theorem Hs.call0 (h : Hs W H0 H M I) (u : Upto [] H H') : Hs W H0 H' M I :=
  ⟨h.up.trans (u.mono fun _ z => nomatch z), h.nd, fun x hx => u _ _ (by simp) (h.at_ x hx), h.mu⟩
/-- what stands at a place that was free ahead, too -/
theorem Hs.add (h : Hs W H0 H M I) (h' : Hs W H0 H' M' I) (e : M'.map Prod.fst = M.map Prod.fst) (hp : H p = none) (hq : H' p = some o) : Hs W H0 H' ((p, o) :: M') I := by
  have f := h.holds.fresh hp
  refine ⟨h'.up, ?_, fun x hx => ?_, fun x hx => ?_⟩
  · rw [List.cons_append, List.map_cons, List.nodup_cons]
    refine ⟨?_, h'.nd⟩
    rw [List.map_append, e, ← List.map_append]
    exact f
  · rw [List.cons_append] at hx
    rcases List.mem_cons.mp hx with z | hx
    · rw [z]
      exact hq
    · exact h'.at_ x hx
  · rcases List.mem_cons.mp hx with z | hx
    · rw [z]
      by_cases hw : p ∈ W
      · exact .inl hw
      · exact .inr (Holds.uptoNew h.up hp hw)
    · exact h'.mu x hx
theorem Hs.free (h : Hs W H0 H M I) (hp : H p = none) (hw : p ∉ W) : H0 p = none := Holds.uptoNew h.up hp hw
/-- forget -/
theorem Hs.tl {x : Addr × HO} (h : Hs W H0 H (x :: M) I) : Hs W H0 H M I :=
  ⟨h.up, by have := h.nd; rw [List.cons_append, List.map_cons, List.nodup_cons] at this; exact this.2, fun y hy => h.at_ y (List.mem_cons_of_mem _ hy), fun y hy => h.mu y (List.mem_cons_of_mem _ hy)⟩
theorem Hs.tl2 {x y : Addr × HO} (h : Hs W H0 H (x :: y :: M) I) : Hs W H0 H (x :: M) I := by
  refine ⟨h.up, ?_, fun z hz => h.at_ z ?_, fun z hz => h.mu z ?_⟩
  · have := h.nd
    simp only [List.cons_append, List.map_cons, List.nodup_cons, List.mem_cons, not_or] at this ⊢
    exact ⟨this.1.2, this.2.2⟩
  · rw [List.cons_append] at hz
    rcases List.mem_cons.mp hz with e | e
    · rw [e]; exact List.mem_cons_self
    · exact List.mem_cons_of_mem _ (List.mem_cons_of_mem _ e)
  · rcases List.mem_cons.mp hz with e | e
    · rw [e]; exact List.mem_cons_self
    · exact List.mem_cons_of_mem _ (List.mem_cons_of_mem _ e)
end

/-! ### constants of the module -/
theorem pe_globC {X : Cx} {x : Str} {i : Int} {pos : Pos} (m : ∃ t, X.mg x = some (.int i t)) (hg : Gl X x) (hd : (x == ("__debug__" : Str)) = false := by decide) : PE X (.Name x pos) (tC (.int i)) := by
  obtain ⟨t, m⟩ := m
  exact pe_glob hg m ⟨_, rfl⟩ hd

/-! ### readings by steps -/
inductive SetAt : St → Nat → V → St → Prop
  | here {x : Option V} {σ : St} {v : V} : SetAt (x :: σ) 0 v (some v :: σ)
  | there {x : Option V} {σ σ' : St} {v : V} {i : Nat} : SetAt σ i v σ' → SetAt (x :: σ) (i + 1) v (x :: σ')
theorem SetAt.eq {σ σ' : St} {i : Nat} {v : V} (h : SetAt σ i v σ') : σ.set i (some v) = σ' := by
  induction h with
  | here => rfl
  | there _ ih => rw [List.set_cons_succ, ih]
def SetI (xs : List V) (i : Int) (v : V) (zs : List V) : Prop := ∃ k, ixN xs.length i = some k ∧ xs.set k v = zs
theorem SetI.nat {xs : List V} {n : Nat} {v : V} (h : n < xs.length) : SetI xs (n : Int) v (xs.set n v) := ⟨n, by
  unfold ixN
  rw [if_pos (by omega), if_pos (by omega)]
  rfl, rfl⟩
theorem SetI.s0 {x v : V} {xs : List V} : SetI (x :: xs) 0 v (v :: xs) := SetI.nat (n := 0) (by simp)
theorem SetI.s1 {x y v : V} {xs : List V} : SetI (x :: y :: xs) 1 v (x :: v :: xs) := SetI.nat (n := 1) (by simp)
theorem SetI.s2 {x y z v : V} {xs : List V} : SetI (x :: y :: z :: xs) 2 v (x :: y :: v :: xs) := SetI.nat (n := 2) (by simp)
def kRng1 (R : It → Hp → Prop) : List V → Hp → Prop := fun vs H1 => ∃ j : Int, vs = [.int j] ∧ -(2 ^ 62) ≤ j ∧ j < 2 ^ 62 ∧ R (Itr 0 j.toNat) H1
def kRng2 (R : It → Hp → Prop) : List V → Hp → Prop := fun vs H1 => ∃ i j : Int, vs = [.int i, .int j] ∧ (-(2 ^ 62) ≤ i ∧ i < 2 ^ 62 ∧ -(2 ^ 62) ≤ j ∧ j < 2 ^ 62) ∧ R (Itr i (j - i).toNat) H1
def kLst (K : PySem.W.Frag) (R : It → Hp → Prop) : V → Hp → Prop := fun x H1 => ∃ a, x = .ref a ∧ (∃ xs, SqL K H1 a xs) ∧ R (Itl K a) H1
def kTup (K : PySem.W.Frag) (R : It → Hp → Prop) : V → Hp → Prop := fun x H1 => ∃ a, x = .ref a ∧ (∃ xs, SqT K H1 a xs) ∧ R (Itt K a) H1
def kFor (J : It) (g : TG) (tb : TS) (D : Ends) : St → Hp → Prop := fun σ H1 => ∃ W : Nat → Nat → St → Hp → Prop, (∃ m, W 0 m σ H1) ∧ ∀ i m σ H, W i m σ H →
  (J.stop i H ∧ D.nx σ H) ∨ (J.go i H ∧ ∃ N : St → Hp → Prop, (∀ σ' H', N σ' H' → ∃ m', m' < m ∧ W (i + 1) m' σ' H') ∧ ∀ x H', J.yld i H x H' → g x σ H' fun σ2 H2 => tb { D with nx := N, ct := N, bk := D.nx } σ2 H2)
def kLc (J : It) (g : TG) (tt : TT) (te : TE) (vs : List Nat) (σ : St) (Q : VK) : Hp → Prop := fun H1 => ∀ D, H1 D = none → ∃ W : Nat → Nat → Hp → Prop, (∃ m, W 0 m (upd H1 D (.lst []))) ∧ ∀ i m H, W i m H →
  (J.stop i H ∧ Q (.ref D) H) ∨ (J.go i H ∧ ∃ Nx : Hp → Prop, (∀ H', Nx H' → ∃ m', m' < m ∧ W (i + 1) m' H') ∧ ∀ x H', J.yld i H x H' → g x (wipe σ vs) H' fun σ2 H2 => wipe σ2 vs = wipe σ vs ∧ tt σ2 H2 fun b H3 =>
    if b = true then te σ2 H3 fun y H4 => ∃ acc, H4 D = some (.lst acc) ∧ acc.length < sizeLine ∧ Nx (upd H4 D (.lst (acc ++ [y]))) else Nx H3)
def newL (xs : List V) (H : Hp) (Q : VK) : Prop := xs.length ≤ sizeLine ∧ ∀ p, H p = none → Q (.ref p) (upd H p (.lst xs))
def newT (xs : List V) (H : Hp) (Q : VK) : Prop := xs.length ≤ sizeLine ∧ ∀ p, H p = none → Q (.ref p) (upd H p (.tup xs))
def kBl (Q : Bool → Hp → Prop) : VK := fun x H => ∃ k, x = .bl k ∧ Q k H
section
variable {D : Ends} {σ σ' : St} {H H' : Hp} {nx bk ct : St → Hp → Prop} {rt : VK} {t u : TS} {te ta tb tc : TE} {tt : TA} {c c2 : TT} {Q : VK} {QA : List V → Hp → Prop} {QB : Bool → Hp → Prop} {g : TG} {v x y : V} {vs : List V} {i j : Int} {n : Nat} {K : PySem.W.Frag}
theorem s_start {N : List Str} (e : start N vs = σ) (h : t D σ H) : t D (start N vs) H := by rw [e]; exact h
theorem s_seq (h : t ⟨u ⟨nx, rt, bk, ct⟩, rt, bk, ct⟩ σ H) : tSeq t u ⟨nx, rt, bk, ct⟩ σ H := h
theorem s_asg (h : te σ H fun x H1 => g x σ H1 nx) : tAsg te g ⟨nx, rt, bk, ct⟩ σ H := h
theorem s_next (h : nx σ H) : tNext ⟨nx, rt, bk, ct⟩ σ H := h
theorem s_ret (h : te σ H rt) : tRet te ⟨nx, rt, bk, ct⟩ σ H := h
theorem s_retN (h : rt .non H) : tRetN ⟨nx, rt, bk, ct⟩ σ H := h
theorem s_drop (h : te σ H fun _ H1 => nx σ H1) : tDrop te ⟨nx, rt, bk, ct⟩ σ H := h
theorem s_ifs (h : c σ H fun b H1 => if b = true then t D σ H1 else u D σ H1) : tIfS c t u D σ H := h
theorem s_gname (s : SetAt σ n v σ') (h : nx σ' H) : gName n v σ H nx := by
  show nx (σ.set n (some v)) H
  rw [s.eq]
  exact h
theorem s_var (e : σ[n]? = some (some v)) (h : Q v H) : tVar n σ H Q := ⟨v, e, h⟩
theorem s_c (h : Q v H) : tC v σ H Q := h
theorem s_op {r : R2} (h : ta σ H fun x H1 => tb σ H1 fun y H2 => r x y H2 Q) : tOp r ta tb σ H Q := h
theorem s_un {r : V → Hp → VK → Prop} (h : ta σ H fun x H1 => r x H1 Q) : tUn r ta σ H Q := h
theorem s_rU {g : Int → V} (h : Q (g i) H) : rU g (.int i) H Q := ⟨i, rfl, h⟩
theorem s_rI0 {g : Int → Int → V} (h : Q (g i j) H) : rI0 g (.int i) (.int j) H Q := ⟨i, j, rfl, rfl, h⟩
theorem s_rI {C : Int → Int → Prop} {g : Int → Int → V} (hc : C i j) (h : Q (g i j) H) : rI C g (.int i) (.int j) H Q := ⟨i, j, rfl, rfl, hc, h⟩
theorem s_eqI (h : Q (.bl (decide (i = j))) H) : rEq (.int i) (.int j) H Q := ⟨rfl, by
  have e : decide (V.int i = V.int j) = decide (i = j) := by rw [dec_int]; rfl
  rw [e]; exact h⟩
theorem s_neI (h : Q (.bl (decide (i ≠ j))) H) : rNe (.int i) (.int j) H Q := ⟨rfl, by
  have e : (!decide (V.int i = V.int j)) = decide (i ≠ j) := by rw [dec_int, decide_not]; rfl
  rw [e]; exact h⟩
theorem s_test (h : te σ H (kBl QB)) : tTest te σ H QB := h
theorem s_tB (h : te σ H (kBl QB)) : tB te σ H QB := h
theorem s_kBl {b : Bool} (h : QB b H) : kBl QB (.bl b) H := ⟨b, rfl, h⟩
theorem s_and (h : c σ H fun b H1 => if b = true then c2 σ H1 QB else QB false H1) : tAnd c c2 σ H QB := h
theorem s_or (h : c σ H fun b H1 => if b = true then QB true H1 else c2 σ H1 QB) : tOr c c2 σ H QB := h
theorem s_not (h : c σ H fun b H1 => QB (!b) H1) : tNot c σ H QB := h
theorem s_andV (h : ta σ H (kBl fun b H1 => if b = true then tb σ H1 Q else Q (.bl false) H1)) : tAndV ta tb σ H Q := h
theorem s_orV (h : ta σ H (kBl fun b H1 => if b = true then Q (.bl true) H1 else tb σ H1 Q)) : tOrV ta tb σ H Q := h
theorem s_notV (h : ta σ H (kBl fun b H1 => Q (.bl (!b)) H1)) : tNotV ta σ H Q := h
theorem s_ifE (h : c σ H fun b H1 => if b = true then ta σ H1 Q else tb σ H1 Q) : tIf c ta tb σ H Q := h
theorem s_chain {r r' : R2} (h : ta σ H fun x H1 => tb σ H1 fun y H2 => r x y H2 (kBl fun k H3 => if k = true then tc σ H3 fun w' H4 => r' y w' H4 Q else Q (.bl false) H3)) : tChain r r' ta tb tc σ H Q := h
theorem s_tup (h : tt σ H fun xs H1 => newT xs H1 Q) : tTup tt σ H Q := h
theorem s_lst (h : tt σ H fun xs H1 => newL xs H1 Q) : tLst tt σ H Q := h
theorem s_nil (h : QA [] H) : tNil σ H QA := h
theorem s_cons (h : ta σ H fun x H1 => tt σ H1 fun xs H2 => QA (x :: xs) H2) : tCons ta tt σ H QA := h
def kStar (K : PySem.W.Frag) (tt : TA) (σ : St) (QA : List V → Hp → Prop) : VK := fun x H1 => ∃ p xs, x = V.ref p ∧ (SqT K H1 p xs ∨ SqL K H1 p xs) ∧ tt σ H1 fun ys H2 => QA (xs ++ ys) H2
theorem s_star (h : te σ H (kStar K tt σ QA)) : StX.tStar K te tt σ H QA := h
theorem s_kStarL {a : Addr} {xs : List V} (hs : SqL K H a xs) (h : tt σ H fun ys H2 => QA (xs ++ ys) H2) : kStar K tt σ QA (.ref a) H := ⟨a, xs, rfl, .inr hs, h⟩
theorem s_call {sp : Sp} {E : XK} (h : tt σ H fun vs H1 => sp vs H1 Q E) : tCall sp [] E tt σ H Q := by
  show tt σ H fun vs H1 => sp (vs ++ []) H1 Q E
  have e : (fun (vs : List V) (H1 : Hp) => sp (vs ++ []) H1 Q E) = fun vs H1 => sp vs H1 Q E := by
    funext vs H1
    rw [List.append_nil]
  rw [e]
  exact h
theorem s_CB {r : List V → Hp → VK → Prop} (h : tt σ H fun vs H1 => r vs H1 Q) : tCB r tt σ H Q := h
theorem s_ixL {a : Addr} {xs : List V} (h1 : SqL K H a xs) (h2 : atI xs i = some v) (h : Q v H) : rIxL K (.ref a) (.int i) H Q := ⟨a, xs, i, v, rfl, rfl, h1, h2, h⟩
theorem s_ixT {a : Addr} {xs : List V} (h1 : SqT K H a xs) (h2 : atI xs i = some v) (h : Q v H) : rIxT K (.ref a) (.int i) H Q := ⟨a, xs, i, v, rfl, rfl, h1, h2, h⟩
theorem s_gSub {s : TSet} (h : ta σ H fun o H1 => tb σ H1 fun i H2 => s o i v H2 fun H3 => nx σ H3) : gSub ta tb s v σ H nx := h
theorem s_forR1 (h : tt σ H (kRng1 fun J H1 => kFor J g t D σ H1)) : tFor (iRng1 tt) g t D σ H := h
theorem s_forR2 (h : tt σ H (kRng2 fun J H1 => kFor J g t D σ H1)) : tFor (iRng2 tt) g t D σ H := h
theorem s_forL (h : te σ H (kLst K fun J H1 => kFor J g t D σ H1)) : tFor (iList K te) g t D σ H := h
theorem s_forT (h : te σ H (kTup K fun J H1 => kFor J g t D σ H1)) : tFor (iTup K te) g t D σ H := h
variable {ws : List Nat}
theorem s_lcR1 (h : tt σ H (kRng1 fun J H1 => kLc J g c te ws σ Q H1)) : tLc (iRng1 tt) g c te ws σ H Q := h
theorem s_lcR2 (h : tt σ H (kRng2 fun J H1 => kLc J g c te ws σ Q H1)) : tLc (iRng2 tt) g c te ws σ H Q := h
theorem s_lcL (h : ta σ H (kLst K fun J H1 => kLc J g c te ws σ Q H1)) : tLc (iList K ta) g c te ws σ H Q := h
theorem s_kRng1 {R : It → Hp → Prop} (h1 : -(2 ^ 62) ≤ i) (h2 : i < 2 ^ 62) (h : R (Itr 0 i.toNat) H) : kRng1 R [.int i] H := ⟨i, rfl, h1, h2, h⟩
theorem s_kRng2 {R : It → Hp → Prop} (h1 : -(2 ^ 62) ≤ i) (h2 : i < 2 ^ 62) (h3 : -(2 ^ 62) ≤ j) (h4 : j < 2 ^ 62) (h : R (Itr i (j - i).toNat) H) : kRng2 R [.int i, .int j] H := ⟨i, j, rfl, ⟨h1, h2, h3, h4⟩, h⟩
theorem s_kLst {R : It → Hp → Prop} {a : Addr} {xs : List V} (h1 : SqL K H a xs) (h : R (Itl K a) H) : kLst K R (.ref a) H := ⟨a, rfl, ⟨xs, h1⟩, h⟩
theorem s_kTup {R : It → Hp → Prop} {a : Addr} {xs : List V} (h1 : SqT K H a xs) (h : R (Itt K a) H) : kTup K R (.ref a) H := ⟨a, rfl, ⟨xs, h1⟩, h⟩
theorem s_iteT {A B : Prop} (h : A) : if true = true then A else B := iteT h
theorem s_iteF {A B : Prop} (h : B) : if false = true then A else B := iteF h
theorem s_iteP {p A B : Prop} [Decidable p] (hp : p) (h : A) : if decide p = true then A else B := by rw [if_pos (decide_eq_true hp)]; exact h
theorem s_iteN {p A B : Prop} [Decidable p] (hp : ¬ p) (h : B) : if decide p = true then A else B := by rw [if_neg (by simpa using hp)]; exact h
theorem s_iteD {p A B : Prop} [Decidable p] (h1 : p → A) (h2 : ¬ p → B) : if decide p = true then A else B := by
  by_cases hp : p
  · exact s_iteP hp (h1 hp)
  · exact s_iteN hp (h2 hp)
/-- what a def gives -/
theorem s_parE {n m : Nat} (h : tt σ H fun vs H1 => ∃ v w, vs = [v, w] ∧ nx ((σ.set n (some v)).set m (some w)) H1) : tPar n m tt ⟨nx, rt, bk, ct⟩ σ H := h
def kPar (n m : Nat) (σ : St) (nx : St → Hp → Prop) : List V → Hp → Prop := fun vs H1 => ∃ v w, vs = [v, w] ∧ nx ((σ.set n (some v)).set m (some w)) H1
theorem s_par {n m : Nat} (h : tt σ H (kPar n m σ nx)) : tPar n m tt ⟨nx, rt, bk, ct⟩ σ H := h
theorem s_kPar {n m : Nat} {w : V} {σ1 : St} (s1 : SetAt σ n v σ1) (s2 : SetAt σ1 m w σ') (h : nx σ' H) : kPar n m σ nx [v, w] H := ⟨v, w, rfl, by rw [s1.eq, s2.eq]; exact h⟩
variable {W : List Addr} {H0 : Hp} {M M' I : List (Addr × HO)} {a b p : Addr} {xs zs : List V}
theorem s_newL (hs : Hs W H0 H M I) (hz : xs.length ≤ sizeLine) (h : ∀ p H', Hs W H0 H' ((p, .lst xs) :: M) I → Upto [] H H' → H p = none → Q (.ref p) H') : newL xs H Q :=
  ⟨hz, fun p hp => h p _ (hs.new hp _) (Upto.new hp) hp⟩
theorem s_newT (hs : Hs W H0 H M I) (hz : xs.length ≤ sizeLine) (h : ∀ p H', Hs W H0 H' ((p, .tup xs) :: M) I → Upto [] H H' → H p = none → Q (.ref p) H') : newT xs H Q :=
  ⟨hz, fun p hp => h p _ (hs.new hp _) (Upto.new hp) hp⟩
theorem s_setL {QH : Hp → Prop} (hs : Hs W H0 H M I) (h1 : H a = some (.lst xs)) (h2 : SetI xs i v zs) (r : Rep M a (.lst zs) M') (h : ∀ H', Hs W H0 H' M' I → Upto [a] H H' → QH H') : rSetL (.ref a) (.int i) v H QH := by
  obtain ⟨k, h2, h3⟩ := h2
  exact ⟨a, xs, i, k, rfl, rfl, h1, h2, by rw [h3]; exact h _ (hs.put r) (Upto.put (by simp))⟩
theorem s_cat (hs : Hs W H0 H M I) (h1 : H a = some (.lst xs)) (h2 : H b = some (.lst zs)) (hz : xs.length + zs.length ≤ sizeLine) (h : ∀ p H', Hs W H0 H' ((p, .lst (xs ++ zs)) :: M) I → Upto [] H H' → H p = none → Q (.ref p) H') : rCat (.ref a) (.ref b) H Q :=
  ⟨a, b, xs, zs, rfl, rfl, h1, h2, hz, fun p hp => h p _ (hs.new hp _) (Upto.new hp) hp⟩
theorem s_rep {k : Int} (hs : Hs W H0 H M I) (h1 : H a = some (.lst xs)) (hk : -(2 ^ 63) ≤ k ∧ k < 2 ^ 63) (hz : xs.length * k.toNat ≤ sizeLine) (h : ∀ p H', Hs W H0 H' ((p, .lst (List.replicate k.toNat xs).flatten) :: M) I → Upto [] H H' → H p = none → Q (.ref p) H') : rRep (.ref a) (.int k) H Q :=
  ⟨a, k, xs, rfl, rfl, h1, hk.1, hk.2, hz, fun p hp => h p _ (hs.new hp _) (Upto.new hp) hp⟩
/-- a slice -/
theorem s_sl {r : V → Option Int → Option Int → Hp → VK → Prop} {tl th : TO} (h : te σ H fun x H1 => tl σ H1 fun l H2 => th σ H2 fun u H3 => r x l u H3 Q) : tSl r te tl th σ H Q := h
theorem s_noPart {QO : Option Int → Hp → Prop} (h : QO none H) : tNoPart σ H QO := h
def kPart (QO : Option Int → Hp → Prop) : VK := fun x H1 => ∃ i, x = .int i ∧ QO (some i) H1
theorem s_part {QO : Option Int → Hp → Prop} (h : te σ H (kPart QO)) : tPart te σ H QO := h
theorem s_kPart {QO : Option Int → Hp → Prop} (h : QO (some i) H) : kPart QO (.int i) H := ⟨i, rfl, h⟩
theorem s_slL {lo hi : Option Int} (hs : Hs W H0 H M I) (h1 : SqL K H a xs) (h : ∀ p H', Hs W H0 H' ((p, .lst (cutV xs lo hi)) :: M) I → Upto [] H H' → H p = none → Q (.ref p) H') : rSlL K (.ref a) lo hi H Q :=
  ⟨a, xs, rfl, h1, fun p hp => h p _ (hs.new hp _) (Upto.new hp) hp⟩
/-- built-ins by name -/
def rLenS (K : PySem.W.Frag) : List V → Hp → VK → Prop := fun xs H Q => ∃ p ys, xs = [.ref p] ∧ (SqL K H p ys ∨ SqT K H p ys) ∧ Q (.int ys.length) H
theorem call_lenS {X : Cx} : CallR X (.builtin "len") (rLenS X.K) := call_len_seq
theorem s_lenL (h1 : SqL K H a xs) (h : Q (.int xs.length) H) : rLenS K [.ref a] H Q := ⟨a, xs, rfl, .inl h1, h⟩
theorem s_lenT (h1 : SqT K H a xs) (h : Q (.int xs.length) H) : rLenS K [.ref a] H Q := ⟨a, xs, rfl, .inr h1, h⟩
def rMax2 : List V → Hp → VK → Prop := fun xs H Q => ∃ i j, xs = [.int i, .int j] ∧ Q (.int (if j > i then j else i)) H
theorem call_max2' {X : Cx} (hc : X.calm = true) : CallR X (.builtin "max") rMax2 := call_max2 hc
theorem s_max2 (h : ∀ k : Int, (i ≤ k ∧ j ≤ k ∧ (k = i ∨ k = j)) → Q (.int k) H) : rMax2 [.int i, .int j] H Q := ⟨i, j, rfl, by
  apply h
  split <;> omega⟩
def rListOf (K : PySem.W.Frag) : List V → Hp → VK → Prop := fun xs H Q => ∃ p ys, xs = [.ref p] ∧ (SqL K H p ys ∨ SqT K H p ys) ∧ ∀ l, H l = none → Q (.ref l) (upd H l (.lst ys))
theorem call_listOf {X : Cx} : CallR X (.type "list") (rListOf X.K) := call_list_of
theorem s_listOf (hs : Hs W H0 H M I) (h1 : SqL K H a xs) (h : ∀ p H', Hs W H0 H' ((p, .lst xs) :: M) I → Upto [] H H' → H p = none → Q (.ref p) H') : rListOf K [.ref a] H Q :=
  ⟨a, xs, rfl, .inl h1, fun p hp => h p _ (hs.new hp _) (Upto.new hp) hp⟩
theorem s_isi {x c : V} {b : Bool} {t u : Value} (hc : ClsV c u) (ht : TyX K H x t) (hk : PySem.W.kitOne K t u = some b) (h : Q (.bl b) H) : rIsi K [x, c] H Q := ⟨x, c, t, u, b, rfl, hc, ht, hk, h⟩
/-- methods of lists -/
theorem s_bm0 {T : String} {r : V → List V → Hp → VK → Prop} (h : te σ H fun x H1 => tyV K T x H1 ∧ r x [] H1 Q) : tBM0 K T r te σ H Q := h
theorem s_bm {T : String} {r : V → List V → Hp → VK → Prop} (h : te σ H fun x H1 => tyV K T x H1 ∧ tt σ H1 fun xs H2 => r x xs H2 Q) : tBM K T r te tt σ H Q := h
theorem s_tyL {A : Prop} (h1 : SqL K H a xs) (h : A) : tyV K "list" (.ref a) H ∧ A := ⟨.inl ⟨rfl, _, h1⟩, h⟩
theorem s_clear (hs : Hs W H0 H M I) (h1 : H a = some (.lst xs)) (r : Rep M a (.lst []) M') (h : ∀ H', Hs W H0 H' M' I → Upto [a] H H' → Q .non H') : rClear (.ref a) [] H Q :=
  ⟨a, xs, rfl, rfl, h1, h _ (hs.put r) (Upto.put (by simp))⟩
theorem s_append (hs : Hs W H0 H M I) (h1 : H a = some (.lst xs)) (hz : xs.length < sizeLine) (r : Rep M a (.lst (xs ++ [v])) M') (h : ∀ H', Hs W H0 H' M' I → Upto [a] H H' → Q .non H') : rAppend (.ref a) [v] H Q :=
  ⟨a, xs, v, rfl, rfl, h1, hz, h _ (hs.put r) (Upto.put (by simp))⟩
theorem s_extend (hs : Hs W H0 H M I) (h1 : H a = some (.lst xs)) (h2 : H b = some (.lst zs)) (hz : xs.length + zs.length ≤ sizeLine) (r : Rep M a (.lst (xs ++ zs)) M') (h : ∀ H', Hs W H0 H' M' I → Upto [a] H H' → Q .non H') : rExtend (.ref a) [.ref b] H Q :=
  ⟨a, b, xs, zs, rfl, rfl, h1, h2, hz, h _ (hs.put r) (Upto.put (by simp))⟩
/-- tuples as targets -/
theorem s_gTup {t : TGs} (h1 : SqT K H a xs) (hn : xs.length = n) (h : t xs σ H nx) : gTup K n t (.ref a) σ H nx := ⟨a, xs, rfl, h1, hn, h⟩
theorem s_gCons {t : TG} {u : TGs} (h : t v σ H fun σ' H' => u vs σ' H' nx) : gCons t u (v :: vs) σ H nx := ⟨v, vs, rfl, h⟩
theorem s_gNil (h : nx σ H) : gNil [] σ H nx := ⟨rfl, h⟩
/-- a for over a range, a list -/
theorem f_range {lo : Int} (Pv : Nat → St → Hp → Prop) (h0 : Pv 0 σ H)
    (hs : ∀ i σ H, i < n → Pv i σ H → g (.int (lo + i)) σ H fun σ2 H2 => t ⟨Pv (i + 1), rt, nx, Pv (i + 1)⟩ σ2 H2) (hd : ∀ σ H, Pv n σ H → nx σ H) : kFor (Itr lo n) g t ⟨nx, rt, bk, ct⟩ σ H := for_range Pv h0 hs hd
theorem f_list (Pv : Nat → St → Hp → Prop) (h0 : Pv 0 σ H) (hl : ∀ i σ H, i ≤ xs.length → Pv i σ H → SqL K H a xs)
    (hs : ∀ i x σ H, xs[i]? = some x → Pv i σ H → g x σ H fun σ2 H2 => t ⟨Pv (i + 1), rt, nx, Pv (i + 1)⟩ σ2 H2) (hd : ∀ σ H, Pv xs.length σ H → nx σ H) : kFor (Itl K a) g t ⟨nx, rt, bk, ct⟩ σ H := for_list Pv h0 hl hs hd
end

/-! ### the law's script, and how a body starts -/
def ScrL (K : PySem.W.Frag) (sc : Addr) (ns : List Int) (S : List (Addr × HO)) : Prop := ∀ H : Hp, Holds H S → SqL K H sc (ns.map V.int)
section
variable {W : List Addr} {H0 H H' : Hp} {M M' S I : List (Addr × HO)} {a p r sc : Addr} {o o' : HO} {K : PySem.W.Frag} {ns : List Int}
theorem ScrL.of (h : SqL K H sc (ns.map V.int)) : ∃ S, ScrL K sc ns S ∧ Holds H S := by
  rcases h with (h | ⟨o, h⟩) | h
  · exact ⟨[(sc, _)], fun H' hh => .inl (.inl (hh.at_ _ List.mem_cons_self)), Holds.one h⟩
  · exact ⟨[(sc, _)], fun H' hh => .inl (.inr ⟨o, hh.at_ _ List.mem_cons_self⟩), Holds.one h⟩
  · exact ⟨[], fun H' _ => .inr h, Holds.nil⟩
theorem Hs.holdsI (h : Hs W H0 H M I) : Holds H I :=
  ⟨by have := h.nd; rw [List.map_append, List.nodup_append] at this; exact this.2.1, fun x hx => h.at_ x (List.mem_append_right _ hx)⟩
theorem Hs.scr (h : Hs W H0 H M S) (s : ScrL K sc ns S) : SqL K H sc (ns.map V.int) := s H h.holdsI
theorem Hs.row (h : Hs W H0 H M S) (m : (r, o) ∈ M) : Holds H ((r, o) :: S) := by
  refine ⟨?_, fun x hx => ?_⟩
  · have nd := h.nd
    rw [List.map_append, List.nodup_append] at nd
    rw [List.map_cons, List.nodup_cons]
    refine ⟨fun z => nd.2.2 r (List.mem_map_of_mem (f := Prod.fst) m) r z rfl, nd.2.1⟩
  · rcases List.mem_cons.mp hx with e | hx
    · rw [e]
      exact h.at_ _ (List.mem_append_left _ m)
    · exact h.at_ x (List.mem_append_right _ hx)
theorem Hs.start0 : Hs [] H H [] [] := ⟨Upto.refl _ _, List.nodup_nil, fun _ h => (nomatch h), fun _ h => (nomatch h)⟩
theorem Hs.startI (h : Holds H I) : Hs [] H H [] I := ⟨Upto.refl _ _, h.nd, h.at_, fun _ h => (nomatch h)⟩
theorem Hs.start1 (h : Holds H ((r, o) :: I)) : Hs [r] H H [(r, o)] I := ⟨Upto.refl _ _, h.nd, h.at_, fun x hx => .inl (by
  obtain rfl : x = (r, o) := by simpa using hx
  simp)⟩
theorem Hs.startM {M : List (Addr × HO)} (h : Holds H (M ++ I)) : Hs (M.map Prod.fst) H H M I := ⟨Upto.refl _ _, h.nd, h.at_, fun _ hx => .inl (List.mem_map_of_mem hx)⟩
end

theorem atI_int {α : Type} {xs : List α} {i : Int} (h0 : 0 ≤ i) (h1 : i < xs.length) : ∃ x, atI xs i = some x ∧ xs[i.toNat]? = some x := by
  obtain ⟨n, rfl⟩ : ∃ n : Nat, i = (n : Int) := ⟨i.toNat, by omega⟩
  have hl : n < xs.length := by omega
  exact ⟨xs[n], atI_nat (List.getElem?_eq_getElem hl), List.getElem?_eq_getElem hl⟩
theorem atI_ints {ns : List Int} {i : Int} (h0 : 0 ≤ i) (h1 : i < ns.length) : ∃ v, atI (ns.map V.int) i = some (V.int v) := by
  obtain ⟨x, h, e⟩ := atI_int (xs := ns.map V.int) h0 (by rw [List.length_map]; exact h1)
  rw [List.getElem?_map] at e
  cases q : ns[i.toNat]? with
  | none => rw [q] at e; cases e
  | some u =>
    rw [q] at e
    exact ⟨u, by rw [h]; exact e.symm⟩

/-! ### data, types, comprehensions -/
theorem SqL.tyx {K : PySem.W.Frag} {H : Hp} {a : Addr} {xs : List V} (h : SqL K H a xs) : TyX K H (.ref a) (.type "list") := by
  rcases h with (h | ⟨o, h⟩) | ⟨o, its, n, hk, hc, _⟩
  · exact .base (.lst h)
  · exact .base (.frz h)
  · exact .kList hk hc
theorem SqT.tyx {K : PySem.W.Frag} {H : Hp} {a : Addr} {xs : List V} (h : SqT K H a xs) : TyX K H (.ref a) (.type "tuple") := by
  rcases h with (h | ⟨o, h⟩) | ⟨o, its, n, hk, hc, _⟩
  · exact .base (.tup h)
  · exact .fTuple h
  · exact .kTuple hk hc
theorem same_seqT {K : PySem.W.Frag} {H H' : Hp} {a : Addr} {xs : List V} (e : Same H H') (h : SqT K H a xs) : SqT K H' a xs := by
  rcases h with (h | ⟨o, h⟩) | h
  · exact .inl (.inl (e _ _ h))
  · exact .inl (.inr ⟨o, e _ _ h⟩)
  · exact .inr h
mutual
theorem Dp.same {K : PySem.W.Frag} {H H' : Hp} (e : Same H H') : ∀ {v : V} {d : PyData}, Dp K H v d → Dp K H' v d
  | _, _, .non => .non
  | _, _, .bl b => .bl b
  | _, _, .int i => .int i
  | _, _, .str x => .str x
  | _, _, .lst s a => .lst (e.seq s) (DpAll.same e a)
  | _, _, .tup s a => .tup (same_seqT e s) (DpAll.same e a)
theorem DpAll.same {K : PySem.W.Frag} {H H' : Hp} (e : Same H H') : ∀ {vs : List V} {ds : List PyData}, DpAll K H vs ds → DpAll K H' vs ds
  | _, _, .nil => .nil
  | _, _, .cons h t => .cons (Dp.same e h) (DpAll.same e t)
end
theorem DpAll.len {K : PySem.W.Frag} {H : Hp} : ∀ {vs : List V} {ds : List PyData}, DpAll K H vs ds → vs.length = ds.length
  | _, _, .nil => rfl
  | _, _, .cons _ t => by simp [DpAll.len t]
theorem DpAll.get {K : PySem.W.Frag} {H : Hp} : ∀ {vs : List V} {ds : List PyData} {i : Nat} {d : PyData}, DpAll K H vs ds → ds[i]? = some d → ∃ v, vs[i]? = some v ∧ Dp K H v d
  | _, _, _, _, .nil, e => by simp at e
  | _, _, 0, _, .cons h _, e => by
    simp at e
    subst e
    exact ⟨_, rfl, h⟩
  | _, _, i + 1, _, .cons _ t, e => by
    obtain ⟨v, h1, h2⟩ := DpAll.get (i := i) t (by simpa using e)
    exact ⟨v, by simpa using h1, h2⟩
theorem DpAll.ints {K : PySem.W.Frag} {H : Hp} : ∀ ns : List Int, DpAll K H (ns.map V.int) (ns.map PyData.int)
  | [] => .nil
  | n :: ns => .cons (.int n) (DpAll.ints ns)
theorem Dp.ints {K : PySem.W.Frag} {H : Hp} {a : Addr} {ns : List Int} (h : SqL K H a (ns.map V.int)) : Dp K H (.ref a) (.list (ns.map PyData.int)) := .lst h (DpAll.ints ns)
/-- data of a shape: n deep, no long lists -/
inductive Sh : Nat → PyData → Prop
  | non {n : Nat} : Sh (n + 1) .none
  | bl {n : Nat} (b : Bool) : Sh (n + 1) (.bool b)
  | int {n : Nat} (i : Int) : Sh (n + 1) (.int i)
  | str {n : Nat} (x : Str) : Sh (n + 1) (.str x)
  | lst {n : Nat} {ds : List PyData} (h : ds.length ≤ 100000) (a : ∀ d ∈ ds, Sh n d) : Sh (n + 1) (.list ds)
  | tup {n : Nat} {ds : List PyData} (h : ds.length ≤ 100000) (a : ∀ d ∈ ds, Sh n d) : Sh (n + 1) (.tuple ds)
theorem Sh.ints {n : Nat} {ns : List Int} (h : ns.length ≤ 100000) : Sh (n + 2) (.list (ns.map PyData.int)) := .lst (by rw [List.length_map]; exact h) fun d hd => by
  obtain ⟨i, _, rfl⟩ := List.mem_map.mp hd
  exact .int i
theorem eqv_ints (ns : List Int) : PyData.eqvAll (ns.map PyData.int) (ns.map PyData.int) = true := by
  induction ns with
  | nil => rfl
  | cons n ns ih =>
    rw [List.map_cons, PyData.eqvAll, ih]
    simp [PyData.eqv]
theorem lay_ints (ns : List Int) : PyData.canLayAll0 (ns.map PyData.int) = true := by
  induction ns with
  | nil => rfl
  | cons n ns ih =>
    rw [List.map_cons, PyData.canLayAll0, ih]
    rfl
theorem dep_ints (ns : List Int) : PyData.depthAll (ns.map PyData.int) = 0 := by
  induction ns with
  | nil => rfl
  | cons n ns ih =>
    rw [List.map_cons, PyData.depthAll, ih]
    rfl
theorem shaped_ints (ns : List Int) : SeqAt.shaped (.list (ns.map PyData.int)) = true := by
  unfold SeqAt.shaped
  rw [PyData.canLay0, lay_ints, PyData.depth, dep_ints]
  rfl
def kAcc (D : Addr) (P : Hp → Prop) : VK := fun y H4 => ∃ acc, H4 D = some (.lst acc) ∧ acc.length < sizeLine ∧ P (upd H4 D (.lst (acc ++ [y])))
section
variable {σ : St} {H H' : Hp} {g : TG} {tt : TT} {te : TE} {Q : VK} {n v : Nat} {lo : Int} {K : PySem.W.Frag} {a b D : Addr} {xs acc : List V} {P : Hp → Prop} {y : V} {W : List Addr} {H0 : Hp} {M M' I : List (Addr × HO)} {QB : Bool → Hp → Prop} {ns ms : List Int}
theorem wipe1 (σ : St) (v : Nat) (x : V) : (wipe σ [v]).set v (some x) = σ.set v (some x) := by
  show (σ.set v none).set v (some x) = _
  rw [List.set_set]
theorem wipe2 (σ : St) (v : Nat) (x : V) : wipe (σ.set v (some x)) [v] = wipe σ [v] := by
  show (σ.set v (some x)).set v none = σ.set v none
  rw [List.set_set]
theorem f_lcR (h : ∀ D, H D = none → ∃ Pv : Nat → Hp → Prop, Pv 0 (upd H D (.lst [])) ∧
    (∀ i H, i < n → Pv i H → gName v (.int (lo + i)) σ H fun σ2 H2 => tt σ2 H2 fun b H3 => if b = true then te σ2 H3 (kAcc D (Pv (i + 1))) else Pv (i + 1) H3) ∧ ∀ H, Pv n H → Q (.ref D) H) : kLc (Itr lo n) (gName v) tt te [v] σ Q H := by
  intro D hD
  obtain ⟨Pv, h0, hs, hd⟩ := h D hD
  refine lc_range (Qd := fun H => Q (.ref D) H) Pv h0 (fun i H hi p => ?_) hd
  have q := hs i H hi p
  unfold gName at q ⊢
  rw [wipe1]
  exact ⟨wipe2 _ _ _, q⟩
theorem f_lcL (h : ∀ D, H D = none → ∃ Pv : Nat → Hp → Prop, Pv 0 (upd H D (.lst [])) ∧ (∀ i H, i ≤ xs.length → Pv i H → SqL K H a xs) ∧
    (∀ i x H, xs[i]? = some x → Pv i H → gName v x σ H fun σ2 H2 => tt σ2 H2 fun b H3 => if b = true then te σ2 H3 (kAcc D (Pv (i + 1))) else Pv (i + 1) H3) ∧ ∀ H, Pv xs.length H → Q (.ref D) H) : kLc (Itl K a) (gName v) tt te [v] σ Q H := by
  intro D hD
  obtain ⟨Pv, h0, hl, hs, hd⟩ := h D hD
  refine lc_list (Qd := fun H => Q (.ref D) H) Pv h0 hl (fun i x H hx p => ?_) hd
  have q := hs i x H hx p
  unfold gName at q ⊢
  rw [wipe1]
  exact ⟨wipe2 _ _ _, q⟩
theorem s_acc (hs : Hs W H0 H M I) (h1 : H D = some (.lst acc)) (hz : acc.length < sizeLine) (r : Rep M D (.lst (acc ++ [y])) M') (h : ∀ H', Hs W H0 H' M' I → Upto [D] H H' → P H') : kAcc D P y H :=
  ⟨acc, h1, hz, h _ (hs.put r) (Upto.put (by simp))⟩
theorem s_yes (h : QB true H) : tYes σ H QB := h
theorem s_isiT {x : V} {tp : Addr} {cs : List V} {t : Value} {us : List Value} {b : Bool} (h1 : H tp = some (.tup cs)) (h2 : Paired ClsV cs us) (ht : TyX K H x t) (hk : PySem.W.kitAny K t us = some b) (h : Q (.bl b) H) : rIsiT K [x, .ref tp] H Q := ⟨x, tp, cs, t, us, b, rfl, h1, h2, ht, hk, h⟩
theorem s_neB {b c : Bool} (h : Q (.bl (decide (b ≠ c))) H) : rNe (.bl b) (.bl c) H Q := ⟨rfl, by
  have e : (!decide (V.bl b = V.bl c)) = decide (b ≠ c) := by cases b <;> cases c <;> rfl
  rw [e]; exact h⟩
theorem s_eqB {b c : Bool} (h : Q (.bl (decide (b = c))) H) : rEq (.bl b) (.bl c) H Q := ⟨rfl, by
  have e : decide (V.bl b = V.bl c) = decide (b = c) := by cases b <;> cases c <;> rfl
  rw [e]; exact h⟩
theorem s_eqS {x z : Str} (h : Q (.bl (decide (x = z))) H) : rEq (.str x) (.str z) H Q := ⟨rfl, by
  have e : decide (V.str x = V.str z) = decide (x = z) := by
    by_cases q : x = z
    · rw [q]; simp
    · rw [decide_eq_false q, decide_eq_false (fun z => q (V.str.inj z))]
  rw [e]; exact h⟩
theorem s_neS {x z : Str} (h : Q (.bl (decide (x ≠ z))) H) : rNe (.str x) (.str z) H Q := ⟨rfl, by
  have e : (!decide (V.str x = V.str z)) = decide (x ≠ z) := by
    by_cases q : x = z
    · rw [q]; simp
    · rw [decide_eq_true q, decide_eq_false (fun z => q (V.str.inj z))]; rfl
  rw [e]; exact h⟩
def rIsN' : R2 := fun x y H Q => y = .non ∧ Q (.bl (decide (x = .non))) H
theorem op_isN' {X : Cx} : OpR X (compareOp .Is) rIsN' := op_isN
def rNotN' : R2 := fun x y H Q => y = .non ∧ Q (.bl (!decide (x = .non))) H
theorem op_notN' {X : Cx} : OpR X (compareOp .IsNot) rNotN' := op_notN
theorem s_isN {x : V} (h : Q (.bl (decide (x = .non))) H) : rIsN' x .non H Q := ⟨rfl, h⟩
theorem s_notN {x : V} (h : Q (.bl (decide (x ≠ .non))) H) : rNotN' x .non H Q := ⟨rfl, by rw [← decide_not]; exact h⟩
theorem s_iteNP {p A B : Prop} [Decidable p] (hp : p) (h : B) : if (!decide p) = true then A else B := by rw [if_neg (by simpa using hp)]; exact h
theorem s_iteNN {p A B : Prop} [Decidable p] (hp : ¬ p) (h : A) : if (!decide p) = true then A else B := by rw [if_pos (by simpa using hp)]; exact h
theorem s_iteNT {A B : Prop} (h : B) : if (!true) = true then A else B := iteF h
theorem s_iteNF {A B : Prop} (h : A) : if (!false) = true then A else B := iteT h
/-- lists of ints that are equal, that are not -/
theorem s_eqDL (ha : SqL K H a (ns.map V.int)) (hb : SqL K H b (ns.map V.int)) (h : Q (.bl true) H) : rEqD K (.ref a) (.ref b) H Q :=
  ⟨_, _, Dp.ints ha, Dp.ints hb, shaped_ints ns, shaped_ints ns, by rw [PyData.eqv, eqv_ints]; exact h⟩
theorem s_neDL (ha : SqL K H a (ns.map V.int)) (hb : SqL K H b (ns.map V.int)) (h : Q (.bl false) H) : rNeD K (.ref a) (.ref b) H Q :=
  ⟨_, _, Dp.ints ha, Dp.ints hb, shaped_ints ns, shaped_ints ns, by rw [PyData.eqv, eqv_ints]; exact h⟩
end
/-- a new object comes back -/
def NewO (o : HO) (H : Hp) (Q : VK) : Prop := ∀ p H', Upto [] H H' → H p = none → H' p = some o → Q (.ref p) H'
section
variable {W : List Addr} {H0 H H' : Hp} {M I : List (Addr × HO)} {o : HO} {Q : VK} {p : Addr}
theorem Hs.newO (hs : Hs W H0 H M I) (h : ∀ p H', Hs W H0 H' ((p, o) :: M) I → Upto [] H H' → H p = none → Q (.ref p) H') : NewO o H Q :=
  fun p H' u hp hq => h p H' (hs.add (hs.call0 u) rfl hp hq) u hp
theorem NewO.end_ {Hq : Hp} (k : NewO o H0 Q) (hn : Hq p = none) (hs0 : Hs [] H0 Hq M I) {M' I' : List (Addr × HO)} (hs : Hs [] H0 H' M' I') (hp : H' p = some o) : Q (.ref p) H' :=
  k p H' hs.up (hs0.free hn (by simp)) hp
end

/-! ### the rules that read the written part, with that part as a letter -/
section
variable {X : Cx} {K : PySem.W.Frag} {e o value : Expr} {es : List Expr} {te ta tv to : TE} {t : TA} {f name : Str} {pos pos' tpos apos cpos : Pos} {tg l : Expr} {T id : String} {r : V → List V → Hp → VK → Prop}
theorem ix_listK (hK : X.K = K := by rfl) : IxR X (rIxL K) := by subst hK; exact ix_list
theorem ix_tupK (hK : X.K = K := by rfl) : IxR X (rIxT K) := by subst hK; exact ix_tup
theorem call_lenK (hK : X.K = K := by rfl) : CallR X (.builtin "len") (rLenS K) := by subst hK; exact call_lenS
theorem call_listOfK (hK : X.K = K := by rfl) : CallR X (.type "list") (rListOf K) := by subst hK; exact call_listOf
theorem call_isiK' (hK : X.K = K := by rfl) : CallR X (.builtin "isinstance") (rIsi K) := by subst hK; exact call_isi
theorem call_isiTK (hK : X.K = K := by rfl) : CallR X (.builtin "isinstance") (rIsiT K) := by subst hK; exact call_isiT
theorem op_eqDK (hu : X.A.units + 64 < cLine) (hK : X.K = K := by rfl) : OpR X (compareOp .Eq) (rEqD K) := by subst hK; exact op_eqD hu
theorem op_neDK (hu : X.A.units + 64 < cLine) (hK : X.K = K := by rfl) : OpR X (compareOp .NotEq) (rNeD K) := by subst hK; exact op_neD hu
theorem op_inK (hK : X.K = K := by rfl) : OpR X (compareOp .In) (rIn K false) := by subst hK; exact op_in_seq
theorem op_notInK (hK : X.K = K := by rfl) : OpR X (compareOp .NotIn) (rIn K true) := by subst hK; exact op_notIn_seq
theorem op_catTK (hK : X.K = K := by rfl) : OpR X (binaryOp .Add) (rCatT K) := by subst hK; exact op_catT
theorem sl_listK (hK : X.K = K := by rfl) : SlR X (rSlL K) := by subst hK; exact sl_list
theorem cr_maxK (hc : X.calm = true) (hK : X.K = K := by rfl) : CallR X (.builtin "max") (rMax K) := by subst hK; exact cr_max hc
theorem cr_minK (hc : X.calm = true) (hK : X.K = K := by rfl) : CallR X (.builtin "min") (rMin K) := by subst hK; exact cr_min hc
theorem cr_allK (hc : X.calm = true) (hK : X.K = K := by rfl) : CallR X (.builtin "all") (rAll K) := by subst hK; exact cr_all hc
theorem pi_listK (hl : PE X l te) (hK : X.K = K := by rfl) : PI X tg l (iList K te) := by subst hK; exact pi_list hl
theorem pi_tupK (hl : PE X l te) (hK : X.K = K := by rfl) : PI X tg l (iTup K te) := by subst hK; exact pi_tup hl
theorem pg_tupK {k : Nat} {tt : TGs} {n : Nat} (hc : X.calm = true) (h : PGs X es tt) (hK : X.K = K := by rfl)
    (hn : (assignEach es X.env).length = n := by rfl) (hst : (assignEach es X.env).findIdx? (·.1) = none := by rfl) : PG X (.Tuple es k pos) (gTup K n tt) := by subst hK; exact pg_tup hc h hn hst
theorem pa_starK {p : Pos} (he : PE X e te) (hr : PA X es t) (hK : X.K = K := by rfl) (hs : starEach (.Starred e p :: es) X.env = (true, eval e X.env) :: starEach es X.env := by rfl) : PA X (.Starred e p :: es) (tStar K te t) := by subst hK; exact pa_star he hr hs
theorem pe_fldK (he : PE X e ta) (hb : attributeBase e f X.env (eval e X.env) = eval e X.env) (hK : X.K = K := by rfl) : PE X (.Attribute e f pos) (tFld K ta f) := by subst hK; exact pe_fld he hb
theorem ps_fldK (ha : PE X o ta) (hv : PE X value tv) (hs : swapsWith value (some (.Attribute o f pos')) pos.line X.env = pure false) (hK : X.K = K := by rfl) : PS X (.Assign [.Attribute o f pos'] value pos) (sFld K ta tv f) := by subst hK; exact ps_fld ha hv hs
theorem ps_fldaugK {op : Operator} {rd : V → V → Hp → VK → Prop} (ha : PE X o ta) (hv : PE X value tv) (hop : InOp X op rd) (hK : X.K = K := by rfl) : PS X (.AugAssign (.Attribute o f tpos) op value pos) (sFldAug K ta tv rd f) := by subst hK; exact ps_fldaug ha hv hop
theorem pe_bm0K (pa : PlainAttrs T) (slot : Slot T name id) (hty : typeOf (.builtin id) = pure (.type "method_descriptor")) (hm : MtR X id r) (ho : PE X o to) (hK : X.K = K := by rfl)
    (hbase : attributeBase o name X.env (eval o X.env) = eval o X.env := by rfl) (hline : (apos.endLine == cpos.line) = true := by rfl) : PE X (.Call (.Attribute o name apos) [] [] cpos) (tBM0 K T r to) := by subst hK; exact pe_bm0 pa slot hty hm ho hbase hline
theorem pe_bmK (pa : PlainAttrs T) (slot : Slot T name id) (hty : typeOf (.builtin id) = pure (.type "method_descriptor")) (hm : MtR X id r) (ho : PE X o to) (ha : PA X (e :: es) t) (hK : X.K = K := by rfl)
    (hbase : attributeBase o name X.env (eval o X.env) = eval o X.env := by rfl)
    (hfew : ((backTo cpos (starEach (e :: es) X.env)).all (fun x => !x.1) && (backToKw cpos (keywordEach [] X.env)).all (fun x => x.1.isSome)
      && decide ((e :: es).length + ([] : List Keyword).length + (if ([] : List Keyword).isEmpty then 0 else 1) < 30)) = true := by rfl)
    (hline : (apos.endLine == cpos.line) = true := by rfl) (hs : starEach (e :: es) X.env = (false, eval e X.env) :: starEach es X.env := by rfl) (hplain : (backTo cpos (starEach es X.env)).any (·.1) = false := by rfl) :
    PE X (.Call (.Attribute o name apos) (e :: es) [] cpos) (tBM K T r to t) := by subst hK; exact pe_bm pa slot hty hm ho ha hbase hfew hline hs hplain
end

theorem kitTL_list {K : PySem.W.Frag} : PySem.W.kitAny K (.type "list") [.type "tuple", .type "list"] = some true :=
  kitAny_cons (b := false) (kit_ty (by decide +kernel)) (fun _ => kitAny_cons (b := true) (kit_ty (by decide +kernel)) (fun z => nomatch z) fun _ => rfl) fun z => nomatch z
theorem kitTL_tuple {K : PySem.W.Frag} : PySem.W.kitAny K (.type "tuple") [.type "tuple", .type "list"] = some true :=
  kitAny_cons (b := true) (kit_ty (by decide +kernel)) (fun z => nomatch z) fun _ => rfl
theorem s_eqDnil {K : PySem.W.Frag} {H : Hp} {a b : Addr} {Q : VK} (ha : H a = some (.lst [])) (hb : H b = some (.lst [])) (h : Q (.bl true) H) : rEqD K (.ref a) (.ref b) H Q :=
  s_eqDL (ns := []) (SqL.of ha) (SqL.of hb) h

/-- an item of a list or a tuple -/
def rIxA (K : PySem.W.Frag) : R2 := fun x y H Q => rIxL K x y H Q ∨ rIxT K x y H Q
theorem ix_anyK {X : Cx} {K : PySem.W.Frag} (hK : X.K = K := by rfl) : IxR X (rIxA K) := by subst hK; exact ix_list.or ix_tup
theorem s_ixAL {K : PySem.W.Frag} {H : Hp} {Q : VK} {a : Addr} {xs : List V} {i : Int} {v : V} (h1 : SqL K H a xs) (h2 : atI xs i = some v) (h : Q v H) : rIxA K (.ref a) (.int i) H Q := .inl ⟨a, xs, i, v, rfl, rfl, h1, h2, h⟩
theorem s_ixAT {K : PySem.W.Frag} {H : Hp} {Q : VK} {a : Addr} {xs : List V} {i : Int} {v : V} (h1 : SqT K H a xs) (h2 : atI xs i = some v) (h : Q v H) : rIxA K (.ref a) (.int i) H Q := .inr ⟨a, xs, i, v, rfl, rfl, h1, h2, h⟩

/-! ### what a callee leaves, seen by the caller -/
section
variable {W : List Addr} {H0 H H' : Hp} {M M' N I S : List (Addr × HO)} {r : Addr} {o' : HO}
theorem Hs.sub (h : Hs W H0 H M I) (s : M'.Sublist M) : Hs W H0 H M' I :=
  ⟨h.up, List.Nodup.sublist ((s.append (List.Sublist.refl I)).map Prod.fst) h.nd, fun x hx => h.at_ x ((s.append (List.Sublist.refl I)).subset hx), fun x hx => h.mu x (s.subset hx)⟩
theorem Hs.frame (hc : Hs [r] H H' (N ++ [(r, o')]) S) (h : Hs W H0 H M S) (rp : Rep M r o' M') : Hs W H0 H' (N ++ M') S := by
  have e : H' r = some o' := hc.at_ (r, o') (by simp)
  have h1 : Hs W H0 H' M' S := h.call1 hc.up e rp
  have nr : ∀ x ∈ N, x.1 ≠ r := fun x hx q => by
    have nd := hc.nd
    simp only [List.map_append, List.map_cons, List.map_nil, List.append_assoc, List.nodup_append] at nd
    exact nd.2.2 x.1 (List.mem_map_of_mem (f := Prod.fst) hx) r (by simp) q
  have fr : ∀ x ∈ N, H x.1 = none := fun x hx => by
    rcases hc.mu x (List.mem_append_left _ hx) with w | w
    · exact absurd (by simpa using w) (nr x hx)
    · exact w
  have hM := h.holds
  refine ⟨h1.up, ?_, fun x hx => ?_, fun x hx => ?_⟩
  · have n1 := hc.nd
    have n2 := h1.nd
    rw [List.append_assoc, List.map_append, List.nodup_append]
    refine ⟨?_, n2, fun a ha b hb q => ?_⟩
    · rw [List.append_assoc, List.map_append, List.nodup_append] at n1
      exact n1.1
    · obtain ⟨x, hx, rfl⟩ := List.mem_map.mp ha
      have hb' : b ∈ (M ++ S).map Prod.fst := by
        rw [List.map_append, ← rp.fst, ← List.map_append]
        exact hb
      rw [← q] at hb'
      exact hM.fresh (fr x hx) hb'
  · rw [List.append_assoc] at hx
    rcases List.mem_append.mp hx with hx | hx
    · exact hc.at_ x (List.mem_append_left _ (List.mem_append_left _ hx))
    · exact h1.at_ x hx
  · rcases List.mem_append.mp hx with hx | hx
    · by_cases hw : x.1 ∈ W
      · exact .inl hw
      · exact .inr (Holds.uptoNew h.up (fr x hx) hw)
    · exact h1.mu x hx
end
theorem s_ixPick {K : PySem.W.Frag} {H : Hp} {Q : VK} {a : Addr} {xs : List V} {i : Int} (h1 : SqL K H a xs) (h2 : 0 ≤ i) (h3 : i < xs.length) (h : ∀ x, x ∈ xs → Q x H) : rIxL K (.ref a) (.int i) H Q := by
  obtain ⟨x, e, ex⟩ := atI_int (xs := xs) h2 h3
  exact ⟨a, xs, i, x, rfl, rfl, h1, e, h x (List.mem_of_getElem? ex)⟩

/-! ### slices of lists of ints -/
def cutI (ns : List Int) (lo hi : Option Int) : List Int := (ns.drop (HT.sIx ns.length 0 lo)).take (HT.sIx ns.length ns.length hi - HT.sIx ns.length 0 lo)
theorem cutV_ints (ns : List Int) (lo hi : Option Int) : cutV (ns.map V.int) lo hi = (cutI ns lo hi).map V.int := by
  unfold cutV cutI
  rw [List.length_map, List.map_take, List.map_drop]
theorem sIx_in {n d : Nat} {p : Int} (h0 : 0 ≤ p) (h1 : p ≤ n) : HT.sIx n d (some p) = p.toNat := by
  obtain ⟨k, rfl⟩ : ∃ k : Nat, p = (k : Int) := ⟨p.toNat, by omega⟩
  rw [HT.sIx_nat]
  omega
theorem cutI_upto {ns : List Int} {p : Int} (h0 : 0 ≤ p) (h1 : p ≤ ns.length) : cutI ns none (some p) = ns.take p.toNat := by
  unfold cutI
  rw [sIx_in h0 h1, HT.sIx_none, List.drop_zero, Nat.sub_zero]
theorem cutI_from {ns : List Int} {p : Int} (h0 : 0 ≤ p) (h1 : p ≤ ns.length) : cutI ns (some p) none = ns.drop p.toNat := by
  unfold cutI
  rw [sIx_in h0 h1, HT.sIx_none]
  exact List.take_of_length_le (by rw [List.length_drop]; exact Nat.le_refl _)
theorem eight {ws : List Int} (h : ws.length = 8) : ∃ a b c d e f g i, ws = [a, b, c, d, e, f, g, i] :=
  match ws, h with
  | [a, b, c, d, e, f, g, i], _ => ⟨a, b, c, d, e, f, g, i, rfl⟩
theorem mix8 {ws zs : List Int} {p : Int} (h1 : ws.length = 8) (h2 : zs.length = 8) (h0 : 0 ≤ p) (hp : p ≤ 8) : ∃ a b c d e f g i, cutV (ws.map V.int) none (some p) ++ cutV (zs.map V.int) (some p) none = [V.int a, V.int b, V.int c, V.int d, V.int e, V.int f, V.int g, V.int i] := by
  have hl : (ws.take p.toNat ++ zs.drop p.toNat).length = 8 := by
    rw [List.length_append, List.length_take, List.length_drop]
    omega
  obtain ⟨a, b, c, d, e, f, g, i, q⟩ := eight hl
  refine ⟨a, b, c, d, e, f, g, i, ?_⟩
  rw [cutV_ints, cutV_ints, cutI_upto h0 (by omega), cutI_from h0 (by omega), ← List.map_append, q]
  rfl
theorem s_repI {W : List Addr} {H0 H : Hp} {M I : List (Addr × HO)} {a : Addr} {z k : Int} {Q : VK} (hs : Hs W H0 H M I) (h1 : H a = some (.lst [.int z])) (hk : 0 ≤ k ∧ k ≤ 100000) (h : ∀ p H', Hs W H0 H' ((p, .lst ((List.replicate k.toNat z).map V.int)) :: M) I → Upto [] H H' → H p = none → Q (.ref p) H') : rRep (.ref a) (.int k) H Q := by
  refine s_rep hs h1 (by omega) (by rw [sizeLine_eq]; simp; omega) ?_
  have e : (List.replicate k.toNat [V.int z]).flatten = (List.replicate k.toNat z).map V.int := by
    simp
  rw [e]
  exact h

theorem len_app {xs ys : List V} {a b : Nat} (h1 : xs.length ≤ a) (h2 : ys.length ≤ b) : (xs ++ ys).length ≤ a + b := by rw [List.length_append]; omega
theorem len_cut {xs : List V} {lo hi : Option Int} {a : Nat} (h1 : xs.length ≤ a) : (cutV xs lo hi).length ≤ a := Nat.le_trans (cutV_length _ _ _) h1

theorem none_left {P : Program} {w : World} {K : PySem.W.Frag} {mg : Str → Option Value} {base : Heap} {f : Addr} {fd : FuncData} {ps : List Str} {sp : Sp} (no : ∀ vs H Q E, ¬ sp vs H Q E) : FnOk P w K mg base CX0 0 f fd ps sp :=
  ⟨fun vs H Q E h => absurd h (no vs H Q E), fun A outer s H args us vs Q E _ _ _ _ h => absurd h (no vs H Q E)⟩

/-! ### while; ranges by a step; lists of lists -/
def kWh (m : Nat) (Pv : Nat → St → Hp → Prop) (t : TS) (nx : St → Hp → Prop) (rt : VK) : St → Hp → Prop := fun σ H1 => ∃ N : St → Hp → Prop, (∀ σ' H', N σ' H' → ∃ m', m' < m ∧ Pv m' σ' H') ∧ t ⟨N, rt, nx, N⟩ σ H1
def kRng3 (R : It → Hp → Prop) : List V → Hp → Prop := fun vs H1 => ∃ (i j c : Int) (n : Nat), vs = [.int i, .int j, .int c] ∧ RgC i j c n ∧ R (Itc i c n) H1
theorem rgc3 {j : Int} (h0 : 0 ≤ j) (h1 : j < 2 ^ 60) : RgC 0 j 3 ((j + 2) / 3).toNat := by
  have e : Builtin.Range.rangeSize 0 j 3 = (j + 2) / 3 := by
    rw [PyProof.Rows.rangeSize_pos (by omega) h0]
    congr 1
    omega
  refine ⟨by decide, by decide, ?_, by rw [e]; omega⟩
  unfold Builtin.Range.small
  rw [e]
  simp only [Builtin.Range.rangeFitsLong, Bool.and_eq_true, Bool.or_eq_true, decide_eq_true_eq, beq_iff_eq, show ((3 : Int) > 0) by decide, if_true]
  omega
section
variable {σ : St} {H : Hp} {nx bk ct : St → Hp → Prop} {rt : VK} {t : TS} {c : TT} {tt : TA} {te : TE} {g : TG} {Q : VK} {ws : List Nat} {D : Ends} {j lo st : Int} {n v : Nat}
theorem f_while (m : Nat) (Pv : Nat → St → Hp → Prop) (h0 : Pv m σ H) (hs : ∀ m σ H, Pv m σ H → c σ H fun b H1 => if b = true then kWh m Pv t nx rt σ H1 else nx σ H1) : tWhile c t ⟨nx, rt, bk, ct⟩ σ H := ⟨Pv, ⟨m, h0⟩, hs⟩
theorem s_kWh {m : Nat} {Pv : Nat → St → Hp → Prop} (h : t ⟨fun σ' H' => ∃ m', m' < m ∧ Pv m' σ' H', rt, nx, fun σ' H' => ∃ m', m' < m ∧ Pv m' σ' H'⟩ σ H) : kWh m Pv t nx rt σ H := ⟨_, fun _ _ q => q, h⟩
theorem s_forR3 (h : tt σ H (kRng3 fun J H1 => kFor J g t D σ H1)) : tFor (iRng3 tt) g t D σ H := h
theorem s_lcR3 (h : tt σ H (kRng3 fun J H1 => kLc J g c te ws σ Q H1)) : tLc (iRng3 tt) g c te ws σ H Q := h
theorem s_kRng3 {R : It → Hp → Prop} (h0 : 0 ≤ j) (h1 : j < 2 ^ 60) (h : R (Itc 0 3 ((j + 2) / 3).toNat) H) : kRng3 R [.int 0, .int j, .int 3] H := ⟨0, j, 3, _, rfl, rgc3 h0 h1, h⟩
theorem f_lcC (h : ∀ D, H D = none → ∃ Pv : Nat → Hp → Prop, Pv 0 (upd H D (.lst [])) ∧
    (∀ i H, i < n → Pv i H → gName v (.int (lo + (i : Nat) * st)) σ H fun σ2 H2 => c σ2 H2 fun b H3 => if b = true then te σ2 H3 (kAcc D (Pv (i + 1))) else Pv (i + 1) H3) ∧ ∀ H, Pv n H → Q (.ref D) H) : kLc (Itc lo st n) (gName v) c te [v] σ Q H := by
  intro D hD
  obtain ⟨Pv, h0, hs, hd⟩ := h D hD
  refine lc_it (Qd := fun H => Q (.ref D) H) walk_rangeC Pv h0 (fun _ _ _ _ => trivial) (fun i x H H' hi p y => ?_) hd
  obtain ⟨rfl, rfl⟩ := y
  have q := hs i _ hi p
  unfold gName at q ⊢
  rw [wipe1]
  exact ⟨wipe2 _ _ _, q⟩
end
def rowsL : List Addr → List (List Int) → List (Addr × HO)
  | q :: qs, xs :: xss => (q, .lst (xs.map V.int)) :: rowsL qs xss
  | [], _ => []
  | _ :: _, [] => []
theorem rowsL_nil (xss : List (List Int)) : rowsL [] xss = [] := rfl
theorem rowsL_get : ∀ {qs : List Addr} {xss : List (List Int)} {i : Nat} {q : Addr} {xs : List Int}, qs[i]? = some q → xss[i]? = some xs → (q, HO.lst (xs.map V.int)) ∈ rowsL qs xss
  | [], _, _, _, _, h, _ => by simp at h
  | _ :: _, [], _, _, _, _, h => by simp at h
  | q :: qs, x :: xss, 0, _, _, h, h' => by
    simp at h h'
    subst h h'
    exact List.mem_cons_self
  | q :: qs, x :: xss, i + 1, _, _, h, h' => List.mem_cons_of_mem _ (rowsL_get (i := i) (by simpa using h) (by simpa using h'))
theorem rowsL_snoc : ∀ {qs : List Addr} {xss : List (List Int)} (q : Addr) (xs : List Int), qs.length = xss.length → rowsL (qs ++ [q]) (xss ++ [xs]) = rowsL qs xss ++ [(q, HO.lst (xs.map V.int))]
  | [], [], _, _, _ => rfl
  | [], _ :: _, _, _, h => by simp at h
  | _ :: _, [], _, _, h => by simp at h
  | a :: qs, b :: xss, q, xs, h => by
    show _ :: rowsL (qs ++ [q]) (xss ++ [xs]) = _ :: (rowsL qs xss ++ _)
    rw [rowsL_snoc q xs (by simpa using h)]
theorem dp_rows {K : PySem.W.Frag} {H : Hp} : ∀ {qs : List Addr} {xss : List (List Int)}, (∀ x ∈ rowsL qs xss, H x.1 = some x.2) → qs.length = xss.length → DpAll K H (qs.map V.ref) (xss.map fun xs => PyData.list (xs.map PyData.int))
  | [], [], _, _ => .nil
  | [], _ :: _, _, h => by simp at h
  | _ :: _, [], _, h => by simp at h
  | q :: qs, x :: xss, hh, h => .cons (Dp.ints (SqL.of (hh _ List.mem_cons_self))) (dp_rows (fun y hy => hh y (List.mem_cons_of_mem _ hy)) (by simpa using h))
section
variable {W : List Addr} {H0 H H' : Hp} {M M' N A I I' : List (Addr × HO)} {a p D : Addr} {o oD : HO}
theorem Hs.perm (h : Hs W H0 H M I) (s : M'.Perm M) : Hs W H0 H M' I :=
  ⟨h.up, (((s.append (List.Perm.refl I)).map Prod.fst).nodup_iff).mpr h.nd, fun x hx => h.at_ x ((s.append (List.Perm.refl I)).mem_iff.mp hx), fun x hx => h.mu x (s.mem_iff.mp hx)⟩
theorem Hs.snoc (h : Hs W H0 H ((p, o) :: (D, oD) :: (A ++ M)) I) : Hs W H0 H ((D, oD) :: ((A ++ [(p, o)]) ++ M)) I := by
  refine h.perm ?_
  refine List.Perm.trans ?_ (List.Perm.swap _ _ _)
  refine List.Perm.cons _ ?_
  rw [List.append_assoc]
  exact List.perm_middle
theorem Hs.dropI (h : Hs W H0 H M I) : Hs W H0 H M [] :=
  ⟨h.up, by
    have := h.nd
    rw [List.map_append, List.nodup_append] at this
    rw [List.append_nil]
    exact this.1, fun x hx => h.at_ x (List.mem_append_left _ (by simpa using hx)), h.mu⟩
/-- what a callee that changes nothing has made -/
theorem Hs.frame0 (hc : Hs [] H H' N I') (h : Hs W H0 H M I) : Hs W H0 H' (N ++ M) I := by
  have h1 : Hs W H0 H' M I := h.call0 hc.up
  have fr : ∀ x ∈ N, H x.1 = none := fun x hx => by
    rcases hc.mu x hx with w | w
    · exact absurd w (by simp)
    · exact w
  refine ⟨h1.up, ?_, fun x hx => ?_, fun x hx => ?_⟩
  · have n1 := hc.nd
    rw [List.append_assoc, List.map_append, List.nodup_append]
    refine ⟨?_, h1.nd, fun a ha b hb q => ?_⟩
    · rw [List.map_append, List.nodup_append] at n1
      exact n1.1
    · obtain ⟨x, hx, rfl⟩ := List.mem_map.mp ha
      rw [← q] at hb
      exact h.holds.fresh (fr x hx) hb
  · rw [List.append_assoc] at hx
    rcases List.mem_append.mp hx with hx | hx
    · exact hc.at_ x (List.mem_append_left _ hx)
    · exact h1.at_ x hx
  · rcases List.mem_append.mp hx with hx | hx
    · by_cases hw : x.1 ∈ W
      · exact .inl hw
      · exact .inr (Holds.uptoNew h.up (fr x hx) hw)
    · exact h1.mu x hx
theorem Hs.part (h : Hs W H0 H M I) (s : N.Sublist M) : Holds H N := ⟨by
    have n1 := h.nd
    rw [List.map_append, List.nodup_append] at n1
    exact List.Nodup.sublist (s.map _) n1.1, fun x hx => h.at_ x (List.mem_append_left _ (s.subset hx))⟩
theorem Rep.skip {L L' : List (Addr × HO)} {a : Addr} {o' : HO} (r : Rep L a o' L') : ∀ A : List (Addr × HO), Rep (A ++ L) a o' (A ++ L')
  | [] => r
  | _ :: A => .there (Rep.skip r A)
end

theorem Hs.rows {W : List Addr} {H0 H : Hp} {M I N : List (Addr × HO)} (h : Hs W H0 H M I) (s : N.Sublist M) : ∀ x ∈ N, H x.1 = some x.2 := fun x hx => h.at_ x (List.mem_append_left _ (s.subset hx))
theorem Sh.lists {n : Nat} {xss : List (List Int)} (h : xss.length ≤ 100000) (h2 : ∀ xs ∈ xss, xs.length ≤ 100000) : Sh (n + 3) (.list (xss.map fun xs => PyData.list (xs.map PyData.int))) := .lst (by rw [List.length_map]; exact h) fun d hd => by
  obtain ⟨xs, hx, rfl⟩ := List.mem_map.mp hd
  exact Sh.ints (h2 xs hx)
theorem Rep.memOf {L : List (Addr × HO)} {a : Addr} {o o' : HO} (m : (a, o) ∈ L) : ∃ L', Rep L a o' L' := by
  induction L with
  | nil => cases m
  | cons x L ih =>
    rcases List.mem_cons.mp m with e | m
    · rw [← e]
      exact ⟨_, .here⟩
    · obtain ⟨L', r⟩ := ih m
      exact ⟨_, .there r⟩

theorem lk {H : Hp} {a : Addr} {o o' : HO} (h : H a = some o) (e : o = o') : H a = some o' := e ▸ h
theorem lkL {K : PySem.W.Frag} {H : Hp} {a : Addr} {o : HO} {xs : List V} (h : H a = some o) (e : o = .lst xs) : SqL K H a xs := SqL.of (e ▸ h)
theorem lkT {K : PySem.W.Frag} {H : Hp} {a : Addr} {o : HO} {xs : List V} (h : H a = some o) (e : o = .tup xs) : SqT K H a xs := SqT.of (e ▸ h)
end RL
namespace RL
open PySem L2 StX

/-! ### fields of objects -/
def kFld (K : PySem.W.Frag) (f : Str) (Q : VK) : VK := fun x H1 => ∃ a C dx fs v, x = .ref a ∧ H1 a = some (.ins C dx fs) ∧ Cls K C ∧ NoAttr K C f ∧ fs.lookup f = some v ∧ Q v H1
def kSet (K : PySem.W.Frag) (f : Str) (y : V) (R : Hp → Prop) : VK := fun x H2 => ∃ a C dx fs, x = .ref a ∧ H2 a = some (.ins C dx fs) ∧ Cls K C ∧ NoAttr K C f ∧ fs.length < 1000 ∧ R (upd H2 a (.ins C dx (putF f y fs)))
def kMeth (C : Addr) (m : Str) (sp : Sp) (E : XK) (t : TA) (σ : St) (Q : VK) : VK := fun x H1 => ∃ a dx fs, x = .ref a ∧ H1 a = some (.ins C dx fs) ∧ fs.lookup m = none ∧ t σ H1 fun vs H2 => sp (x :: (vs ++ [])) H2 Q E
def kMake (C : Addr) (sp : Sp) (E : XK) (Q : VK) : List V → Hp → Prop := fun vs H1 => ∀ x dx, H1 x = none → H1 dx = none → dx ≠ x → sp (.ref x :: (vs ++ [])) (upd (upd H1 dx (.own x)) x (.ins C dx [])) (fun v H2 => v = .non ∧ Q (.ref x) H2) E
def kRaise (C : Addr) (E : XK) : TS := fun _ _ H => E (.ref C) none H
theorem ps_raiseK {X : Cx} {C : Addr} {E : XK} {e : Expr} {pos : Pos} (hc : X.calm = true) (tk : Takes X (fun cls d _ H => E cls d H)) (mk : PMk X e (fun _ H Q => Q (.ref C) none H)) : PS X (.Raise (some e) none pos) (kRaise C E) := ps_raise hc tk mk
section
variable {σ : St} {H H' : Hp} {nx bk ct : St → Hp → Prop} {rt : VK} {ta tv te : TE} {tt : TA} {Q : VK} {K : PySem.W.Frag} {f m : Str} {sp : Sp} {E : XK} {a C dx p : Addr} {fs fs' : List (Str × V)} {v y : V} {W : List Addr} {H0 : Hp} {M M' I : List (Addr × HO)} {D : Ends} {R : Hp → Prop} {vs : List V} {i : Int} {n : Nat}
theorem s_fld (h : ta σ H (kFld K f Q)) : tFld K ta f σ H Q := h
theorem s_kFld (h1 : H a = some (.ins C dx fs)) (c : Cls K C) (na : NoAttr K C f) (l : fs.lookup f = some v) (h : Q v H) : kFld K f Q (.ref a) H := ⟨a, C, dx, fs, v, rfl, h1, c, na, l, h⟩
theorem s_sfld (h : tv σ H fun y H1 => ta σ H1 (kSet K f y (nx σ))) : sFld K ta tv f ⟨nx, rt, bk, ct⟩ σ H := h
theorem s_kSet (hs : Hs W H0 H M I) (h1 : H a = some (.ins C dx fs)) (c : Cls K C) (na : NoAttr K C f) (hl : fs.length < 1000) (e : putF f y fs = fs') (r : Rep M a (.ins C dx fs') M') (h : ∀ H', Hs W H0 H' M' I → Upto [a] H H' → R H') : kSet K f y R (.ref a) H :=
  ⟨a, C, dx, fs, rfl, h1, c, na, hl, by rw [e]; exact h _ (hs.put r) (Upto.put (by simp))⟩
theorem s_meth (h : ta σ H (kMeth C m sp E tt σ Q)) : tMeth C m sp [] E ta tt σ H Q := h
theorem s_kMeth (h1 : H a = some (.ins C dx fs)) (h2 : fs.lookup m = none) (h : tt σ H fun vs H2 => sp (.ref a :: vs) H2 Q E) : kMeth C m sp E tt σ Q (.ref a) H := by
  refine ⟨a, dx, fs, rfl, h1, h2, ?_⟩
  have e : (fun (vs : List V) (H2 : Hp) => sp (.ref a :: (vs ++ [])) H2 Q E) = fun vs H2 => sp (.ref a :: vs) H2 Q E := by
    funext vs H1
    rw [List.append_nil]
  rw [e]
  exact h
theorem s_make (h : tt σ H (kMake C sp E Q)) : tMake C sp [] E tt σ H Q := h
theorem s_kMake (hs : Hs W H0 H M I) (h : ∀ x dx H', Hs W H0 H' ((x, .ins C dx []) :: (dx, .own x) :: M) I → Upto [] H H' → H x = none → H dx = none → sp (.ref x :: vs) H' (fun v H2 => v = .non ∧ Q (.ref x) H2) E) : kMake C sp E Q vs H := by
  intro x dx hx hd ne
  rw [List.append_nil]
  have h1 := hs.new hd (.own x)
  have hx1 : upd H dx (.own x) x = none := by rw [upd_ne (Ne.symm ne)]; exact hx
  exact h x dx _ (h1.new hx1 _) ((Upto.new hd).trans (Upto.new hx1)) hx hd
theorem s_raise (h : E (.ref C) none H) : kRaise C E D σ H := h
/-- o.f += 1, o.f -= 1 -/
theorem s_aug1 (hs : Hs W H0 H M I) (e0 : σ[n]? = some (some (.ref a))) (h1 : H a = some (.ins C dx fs)) (c : Cls K C) (na : NoAttr K C f) (l : fs.lookup f = some (.int i)) (hl : fs.length < 1000) (e : putF f (.int (i + 1)) fs = fs') (r : Rep M a (.ins C dx fs') M') (h : ∀ H', Hs W H0 H' M' I → Upto [a] H H' → nx σ H') :
    sFldAug K (tVar n) (tC (.int 1)) rAdd f ⟨nx, rt, bk, ct⟩ σ H := ⟨_, e0, a, C, dx, fs, _, rfl, h1, c, na, l, i, 1, rfl, rfl, dx, fs, h1, hl, by rw [e]; exact h _ (hs.put r) (Upto.put (by simp))⟩
theorem s_sub1 (hs : Hs W H0 H M I) (e0 : σ[n]? = some (some (.ref a))) (h1 : H a = some (.ins C dx fs)) (c : Cls K C) (na : NoAttr K C f) (l : fs.lookup f = some (.int i)) (hl : fs.length < 1000) (e : putF f (.int (i - 1)) fs = fs') (r : Rep M a (.ins C dx fs') M') (h : ∀ H', Hs W H0 H' M' I → Upto [a] H H' → nx σ H') :
    sFldAug K (tVar n) (tC (.int 1)) rSub f ⟨nx, rt, bk, ct⟩ σ H := ⟨_, e0, a, C, dx, fs, _, rfl, h1, c, na, l, i, 1, rfl, rfl, dx, fs, h1, hl, by rw [e]; exact h _ (hs.put r) (Upto.put (by simp))⟩
end

/-! ### dicts -/
def kDGet (x : V) (Q : VK) : VK := fun y H2 => ∃ a v, x = .ref a ∧ DGet H2 a y (some v) ∧ Q v H2
def kDPut (x v : V) (R : Hp → Prop) : VK := fun y H3 => ∃ a H4, x = .ref a ∧ DPut H3 a y v H4 ∧ R H4
def kDisp (p : Addr) (Q : VK) : List (V × V) → Hp → Prop := fun ps H2 => H2 p = some (.dK []) ∧ ∃ kvs : List (Key × V), ps = kvs.map (fun kv => (kV kv.1, kv.2)) ∧ kvs.length ≤ 15 ∧ Q (.ref p) (upd H2 p (.dK (mergeK [] kvs)))
def unV : List (V × V) → Option (List (Key × V))
  | [] => some []
  | (.str x, v) :: r => (unV r).map fun l => (Sum.inr x, v) :: l
  | _ => none
theorem unV_eq : ∀ {ps : List (V × V)} {kvs : List (Key × V)}, unV ps = some kvs → ps = kvs.map fun kv => (kV kv.1, kv.2)
  | [], kvs, h => by
    simp [unV] at h
    subst h
    rfl
  | (.str x, v) :: r, kvs, h => by
    unfold unV at h
    cases e : unV r with
    | none => rw [e] at h; cases h
    | some l =>
      rw [e] at h
      obtain rfl := Option.some.inj h
      rw [unV_eq e]
      rfl
  | (.non, _) :: _, _, h => by simp [unV] at h
  | (.bl _, _) :: _, _, h => by simp [unV] at h
  | (.int _, _) :: _, _, h => by simp [unV] at h
  | (.byt _, _) :: _, _, h => by simp [unV] at h
  | (.flt _, _) :: _, _, h => by simp [unV] at h
  | (.ref _, _) :: _, _, h => by simp [unV] at h
  | (.ty _, _) :: _, _, h => by simp [unV] at h
def rUpd : V → List V → Hp → VK → Prop := fun x vs H Q => ∃ d e ks ls, x = .ref d ∧ vs = [.ref e] ∧ H d = some (.dK ks) ∧ H e = some (.dK ls) ∧ d ≠ e ∧ ks.length + ls.length ≤ sizeLine ∧ Q .non (upd H d (.dK (mergeK ks ls)))
theorem mt_update {X : Cx} : MtR X "dict.update" rUpd := by
  intro pins s σ H x vs v us Q I rx rv h
  obtain ⟨d, e, ks, ls, rfl, rfl, hd, he, hne, hz, q⟩ := h
  cases (show v = Value.ref d from rx)
  obtain rfl := Vals.ref1 rv
  obtain ⟨z1, y1, vs1, r1, D1⟩ := (show ObjOk X.prog X.w H s.heap d (.dK ks) from I.hok d _ hd)
  obtain ⟨z2, y2, vs2, r2, D2⟩ := (show ObjOk X.prog X.w H s.heap e (.dK ls) from I.hok e _ he)
  refine PySem.call_meetsIn PySem.F.slot_dict_update D1.typeIs PySem.F.entry_dict_update (PySem.F.args_dict_update_2 _ _) (PySem.meets_dict_update (L2.mixKind X.prog X.w) d e hne y2)
    ⟨vs1, vs2, D1, D2, by rw [← r1.length, ← r2.length]; exact hz, fun h' hm _ hs => ?_⟩
  have mu : Mut (H d) := by rw [hd]; trivial
  obtain ⟨o', ho', _⟩ := Heap.dictOf_iff.mp hm
  refine ⟨.non, _, I.write (o := .dK (mergeK ks ls)) (t' := s.toks) mu (.inl rfl) (fun b u nb eb => (hs.2 b nb).trans eb) ⟨_, ho'⟩ ?_, rfl, q⟩
  exact ⟨Nat.le_trans (length_mergeK ls ks) hz, y1, _, KV.merge r2 r1, hm⟩
section
variable {σ : St} {H H' : Hp} {nx bk ct : St → Hp → Prop} {rt : VK} {td ty tv : TE} {Q : VK} {a b p : Addr} {kvs kvs' ks ls : List (Key × V)} {v y : V} {x : Str} {W : List Addr} {H0 : Hp} {M M' I : List (Addr × HO)} {R : Hp → Prop} {trs : List (TE × TE)} {ps : List (V × V)} {QP : List (V × V) → Hp → Prop} {K : PySem.W.Frag} {A : Prop}
theorem s_dget (h : td σ H fun x H1 => ty σ H1 (kDGet x Q)) : tDGet td ty σ H Q := h
theorem s_kDGet (h1 : H a = some (.dK kvs)) (l : valV kvs (Sum.inr x : Key) = some v) (h : Q v H) : kDGet (.ref a) Q (.str x) H := ⟨a, v, rfl, by have q := DGet.k (k := Sum.inr x) h1; rw [l] at q; exact q, h⟩
theorem s_dput (h : tv σ H fun v H1 => td σ H1 fun x H2 => ty σ H2 (kDPut x v (nx σ))) : sDPut td ty tv ⟨nx, rt, bk, ct⟩ σ H := h
theorem s_kDPut (hs : Hs W H0 H M I) (h1 : H a = some (.dK kvs)) (hl : kvs.length < sizeLine) (e : putK kvs (Sum.inr x : Key) v = kvs') (r : Rep M a (.dK kvs') M') (h : ∀ H', Hs W H0 H' M' I → Upto [a] H H' → R H') : kDPut (.ref a) v R (.str x) H :=
  ⟨a, _, rfl, DPut.k (k := Sum.inr x) h1 hl, by rw [e]; exact h _ (hs.put r) (Upto.put (by simp))⟩
theorem s_disp (hs : Hs W H0 H M I) (h : ∀ p H', Hs W H0 H' ((p, .dK []) :: M) I → Upto [] H H' → H p = none → tPairs trs σ H' (kDisp p Q)) : tDisp trs σ H Q := fun p hp => h p _ (hs.new hp _) (Upto.new hp) hp
theorem s_pairs0 (h : QP [] H) : tPairs [] σ H QP := h
theorem s_pairs (h : td σ H fun x H1 => tv σ H1 fun y H2 => tPairs trs σ H2 fun ps H3 => QP ((x, y) :: ps) H3) : tPairs ((td, tv) :: trs) σ H QP := h
theorem s_kDisp (hs : Hs W H0 H M I) (h1 : H p = some (.dK [])) (e : unV ps = some kvs) (hz : kvs.length ≤ 15) (em : mergeK [] kvs = kvs') (r : Rep M p (.dK kvs') M') (h : ∀ H', Hs W H0 H' M' I → Upto [p] H H' → Q (.ref p) H') : kDisp p Q ps H :=
  ⟨h1, kvs, unV_eq e, hz, by rw [em]; exact h _ (hs.put r) (Upto.put (by simp))⟩
theorem s_tyD (h1 : H a = some (.dK kvs)) (h : A) : tyV K "dict" (.ref a) H ∧ A := ⟨.inr (.inr (.inl ⟨rfl, .inl ⟨_, h1⟩⟩)), h⟩
theorem s_upd (hs : Hs W H0 H M I) (h1 : H a = some (.dK ks)) (h2 : H b = some (.dK ls)) (ne : a ≠ b) (hz : ks.length + ls.length ≤ sizeLine) (e : mergeK ks ls = kvs') (r : Rep M a (.dK kvs') M') (h : ∀ H', Hs W H0 H' M' I → Upto [a] H H' → Q .non H') : rUpd (.ref a) [.ref b] H Q :=
  ⟨a, b, ks, ls, rfl, rfl, h1, h2, ne, hz, by rw [e]; exact h _ (hs.put r) (Upto.put (by simp))⟩
end
end RL
namespace RL
open PySem L2 StX
/-! ### methods, new objects in a try -/
def tMethS (C : Addr) (m : Str) (sp : Sp) (E : St → XK) (ta : TE) (t : TA) : TE := fun σ H Q => ta σ H (kMeth C m sp (E σ) t σ Q)
def tMakeS (C : Addr) (sp : Sp) (E : St → XK) (t : TA) : TE := fun σ H Q => t σ H (kMake C sp (E σ) Q)
section
variable {X : Cx} {CX : CXT} {k : Nat} {f C : Addr} {fd : FuncData} {ps : List Str} {sp : Sp} {E : St → XK} {x m : Str} {p pos apos : Pos} {e o : Expr} {es : List Expr} {ta : TE} {t : TA}
theorem pe_methS {pl : Sem Bool} (he : PE X o ta) (c : Cls X.K C) (hm : Meth X.K C m f) (F : FnOk X.prog X.w X.K X.mg X.base CX k f fd ps sp) (hr : Room k X.A) (hb : Binds X.K fd ps []) (hx : ∀ σ, PassesAt CX X σ (E σ)) (ha : PA X (e :: es) t)
    (hst : starEach (e :: es) X.env = (false, eval e X.env) :: starEach es X.env := by rfl) (hpl : (backTo pos (starEach es X.env)).any (·.1) = false := by rfl)
    (ht : eval (.Call (.Attribute o m apos) (e :: es) [] pos) X.env = (do let ov ← eval o X.env; standAt apos.atName; let (f, first) ← holding [ov] (getMethod ov m pl); callWith pos f first (backTo pos (starEach (e :: es) X.env)) (backToKw pos (keywordEach [] X.env))) := by rfl) :
    PE X (.Call (.Attribute o m apos) (e :: es) [] pos) (tMethS C m sp E ta t) := ⟨fun pins s σ H Q I h => by
  refine PySem.W.methodCall_KW (pl := pl) (thn (he.run pins s σ H _ I h) fun u s1 q0 => ?_) ht
  obtain ⟨y, H1, I1, rx, a, dx, fs, ey, ea, l, q⟩ := q0
  subst ey
  obtain rfl : u = Value.ref a := rx
  refine getmeth_ok I1 ea c hm l (PySem.W.callWith_K (first := [.ref a]) (h₀ := X.base) I1.ok.mod.kin hm.kp (thn (ha.run pos pins s1 σ H1 _ I1 q) fun us s2 q1 => ?_) hst hpl)
  obtain ⟨vs, H2, I2, r, q2⟩ := q1
  rw [List.append_nil] at q2
  exact ⟨I2.kIn, run_fnS (us := .ref a :: us) (vs := .ref a :: vs) F hr hb (hx σ) I2 (.cons rfl r) q2⟩⟩
theorem run_makeS {pins : List (Addr × Obj)} {σ : St} {H : Hp} {s : Shared} {Q : VK} {us : List Value} {vs : List V} (M : Mk X.K C f) (F : FnOk X.prog X.w X.K X.mg X.base CX k f fd ps sp) (hr : Room (k + 1) X.A) (hb : Binds X.K fd ps [])
    (hx : PassesAt CX X σ (E σ)) (I : Inv X pins σ H s) (r : Vals vs us) (h : kMake C sp (E σ) Q vs H) : wpAny (model X.prog X.w) X.A (call (.ref C) us) (EP X pins σ Q) X.xe s := by
  have q0 := h (s.heap.objs.size + 1) s.heap.objs.size (I.hok.fresh (Nat.le_succ _)) (I.hok.fresh (Nat.le_refl _)) (Nat.ne_of_lt (Nat.lt_succ_self _))
  rw [List.append_nil] at q0
  have J := Inv.made (C := C) I
  have r2 : Vals (V.ref (s.heap.objs.size + 1) :: vs) (Value.ref (s.heap.objs.size + 1) :: us) := .cons rfl r
  have hl : (Value.ref (s.heap.objs.size + 1) :: us).length = ps.length := by rw [← r2.length]; exact F.len _ _ _ _ q0
  have b := hb _ (Value.ref (s.heap.objs.size + 1) :: us) J.kIn (by rw [List.append_nil]; exact hl)
  rw [List.append_nil] at b
  refine wpAny_call (make_map (f := f) I.kIn M.makes M.init (beq_iff_eq.mp M.fn) (codeAny_mono (F.run _ X.stack _ _ ⟨Value.ref (s.heap.objs.size + 1) :: us, []⟩ (Value.ref (s.heap.objs.size + 1) :: us) _ _ (E σ) (hr.make C us []) (J.env0.make C us []) b r2 q0) fun r s' hq => ?_))
  match r, hq with
  | .error e, hq => exact hx pins _ _ e s' J hq
  | .ok (.ret u), hq =>
    obtain ⟨v, H', I3, rv, ev, q3⟩ := J.after hq
    subst ev
    exact ⟨rv, ⟨V.ref (s.heap.objs.size + 1), H', I3, rfl, q3⟩⟩
  | .ok .next, hq => exact hq.elim
  | .ok .brk, hq => exact hq.elim
  | .ok .cont, hq => exact hq.elim
theorem pe_makeS (M : Mk X.K C f) (F : FnOk X.prog X.w X.K X.mg X.base CX k f fd ps sp) (hr : Room (k + 1) X.A) (hg : Gl X x) (hm : X.mg x = some (.ref C)) (hb : Binds X.K fd ps []) (hx : ∀ σ, PassesAt CX X σ (E σ)) (ha : PA X (e :: es) t)
    (hdb : (x == ("__debug__" : Str)) = false := by decide) (he : starEach (e :: es) X.env = (false, eval e X.env) :: starEach es X.env := by rfl) (hpl : (backTo pos (starEach es X.env)).any (·.1) = false := by rfl) :
    PE X (.Call (.Name x p) (e :: es) [] pos) (tMakeS C sp E t) := ⟨fun pins s σ H Q I h => by
  refine wpAny_Call_Name_kw (ld_glob I hg hm (PySem.W.callWith_K (h₀ := X.base) I.ok.mod.kin M.kp (thn (ha.run pos pins s σ H _ I h) fun us s1 q1 => ?_) he hpl) hdb)
  obtain ⟨vs, H1, I1, r, q⟩ := q1
  exact ⟨I1.kIn, run_makeS M F hr hb (hx σ) I1 r q⟩⟩
theorem s_methS {σ : St} {H : Hp} {Q : VK} (h : ta σ H (kMeth C m sp (E σ) t σ Q)) : tMethS C m sp E ta t σ H Q := h
theorem s_makeS {σ : St} {H : Hp} {Q : VK} (h : t σ H (kMake C sp (E σ) Q)) : tMakeS C sp E t σ H Q := h
end
/-- a method of an own class, its __init__ -/
structure MethOk (P : Program) (w : World) (K : PySem.W.Frag) (mg : Str → Option Value) (base : Heap) (CX : CXT) (k : Nat) (C : Addr) (m : Str) (ps : List Str) (sp : Sp) : Prop where
  ex : ∃ (f : Addr) (fd : FuncData), FnOk P w K mg base CX k f fd ps sp ∧ Binds K fd ps [] ∧ Meth K C m f
structure MakeOk (P : Program) (w : World) (K : PySem.W.Frag) (mg : Str → Option Value) (base : Heap) (CX : CXT) (k : Nat) (C : Addr) (ps : List Str) (sp : Sp) : Prop where
  ex : ∃ (f : Addr) (fd : FuncData), FnOk P w K mg base CX k f fd ps sp ∧ Binds K fd ps [] ∧ Mk K C f
/-- what the clauses wish -/
theorem s_only {K : PySem.W.Frag} {c cls : Value} {ts : Addr → Value → Option Addr → TS} {Wout : WX} {D : Ends} {d : Option Addr} {σ : St} {H : Hp} (e : PySem.W.exmOne K cls c = some true) (h : ∀ a, H a = none → ts a cls d D σ H) : wOnly K c ts Wout D cls d σ H :=
  ⟨true, e, fun _ => h, fun z => nomatch z⟩
theorem s_many {K : PySem.W.Frag} {c cls : Value} {ts : Addr → Value → Option Addr → TS} {l : List (Value × (Addr → Value → Option Addr → TS))} {Wout : WX} {D : Ends} {d : Option Addr} {σ : St} {H : Hp} (e : PySem.W.exmOne K cls c = some true) (h : ∀ a, H a = none → ts a cls d D σ H) : wMany K Wout D ((c, ts) :: l) cls d σ H :=
  ⟨true, e, fun _ => h, fun z => nomatch z⟩
theorem s_manyNo {K : PySem.W.Frag} {c cls : Value} {ts : Addr → Value → Option Addr → TS} {l : List (Value × (Addr → Value → Option Addr → TS))} {Wout : WX} {D : Ends} {d : Option Addr} {σ : St} {H : Hp} (e : PySem.W.exmOne K cls c = some false) (h : wMany K Wout D l cls d σ H) : wMany K Wout D ((c, ts) :: l) cls d σ H :=
  ⟨false, e, (fun z => nomatch z), fun _ => h⟩
end RL
namespace RL
open PySem L2 StX
/-! ### footprints: what a callee may change, and what stands there behind it -/
structure Frm (L L' : List (Addr × HO)) (H H' : Hp) : Prop where
  up : Upto (L.map Prod.fst) H H'
  ok : Holds H' L'
  fr : ∀ x ∈ L', x.1 ∈ L.map Prod.fst ∨ H x.1 = none
inductive SegRep : List (Addr × HO) → List (Addr × HO) → List (Addr × HO) → List (Addr × HO) → Prop
  | here {L L' B : List (Addr × HO)} : SegRep (L ++ B) L L' (L' ++ B)
  | end_ {L L' : List (Addr × HO)} : SegRep L L L' L'
  | there {x : Addr × HO} {M M' L L' : List (Addr × HO)} : SegRep M L L' M' → SegRep (x :: M) L L' (x :: M')
  | skip {A M M' L L' : List (Addr × HO)} : SegRep M L L' M' → SegRep (A ++ M) L L' (A ++ M')
  | two {L₁ L₂ L₁' L₂' B : List (Addr × HO)} : SegRep (L₁ ++ (L₂ ++ B)) (L₁ ++ L₂) (L₁' ++ L₂') (L₁' ++ (L₂' ++ B))
theorem SegRep.split {M L L' M' : List (Addr × HO)} (s : SegRep M L L' M') : ∃ A B, M = A ++ (L ++ B) ∧ M' = A ++ (L' ++ B) := by
  induction s with
  | @here L L' B => exact ⟨[], B, rfl, rfl⟩
  | @end_ L L' => exact ⟨[], [], by simp, by simp⟩
  | @there x M M' L L' _ ih =>
    obtain ⟨A, B, rfl, rfl⟩ := ih
    exact ⟨x :: A, B, rfl, rfl⟩
  | @skip A0 M M' L L' _ ih =>
    obtain ⟨A, B, rfl, rfl⟩ := ih
    exact ⟨A0 ++ A, B, by simp, by simp⟩
  | @two L₁ L₂ L₁' L₂' B => exact ⟨[], B, by simp, by simp⟩
section
variable {W : List Addr} {H0 H H' H1 : Hp} {M M' L L' L2' I : List (Addr × HO)}
theorem Frm.of (h : Hs (L.map Prod.fst) H H' M I) (s : L'.Sublist M) : Frm L L' H H' :=
  ⟨h.up, h.part s, fun x hx => h.mu x (s.subset hx)⟩
theorem Frm.refl (h : Holds H L) : Frm L L H H := ⟨Upto.refl _ _, h, fun x hx => .inl (List.mem_map_of_mem hx)⟩
theorem Hs.seg (h : Hs W H0 H M I) (f : Frm L L' H H') (s : SegRep M L L' M') : Hs W H0 H' M' I := by
  obtain ⟨A, B, rfl, rfl⟩ := s.split
  have nd := h.nd
  have ndL' := f.ok.nd
  -- what is of A, B, I stands apart from L, and so from what is new
  have out : ∀ x ∈ (A ++ (L ++ B)) ++ I, x.1 ∉ L.map Prod.fst → H' x.1 = some x.2 := fun x hx n => f.up _ _ n (h.at_ x hx)
  simp only [List.map_append, List.append_assoc, List.nodup_append, List.mem_append] at nd
  obtain ⟨ndA, ⟨ndL, ⟨ndB, ndI, dBI⟩, dL⟩, dA⟩ := nd
  have nA : ∀ x ∈ A, x.1 ∉ L.map Prod.fst := fun x hx z => dA x.1 (List.mem_map_of_mem hx) x.1 (.inl z) rfl
  have nB : ∀ x ∈ B, x.1 ∉ L.map Prod.fst := fun x hx z => dL x.1 z x.1 (.inl (List.mem_map_of_mem hx)) rfl
  have nI : ∀ x ∈ I, x.1 ∉ L.map Prod.fst := fun x hx z => dL x.1 z x.1 (.inr (List.mem_map_of_mem hx)) rfl
  have sep : ∀ x ∈ L', ∀ y ∈ (A ++ (L ++ B)) ++ I, y.1 ∉ L.map Prod.fst → x.1 ≠ y.1 := fun x hx y hy ny e => by
    rcases f.fr x hx with z | z
    · exact ny (e ▸ z)
    · rw [e, h.at_ y hy] at z
      cases z
  have inA : ∀ x ∈ A, x ∈ (A ++ (L ++ B)) ++ I := fun x hx => by simp [hx]
  have inB : ∀ x ∈ B, x ∈ (A ++ (L ++ B)) ++ I := fun x hx => by simp [hx]
  have inI : ∀ x ∈ I, x ∈ (A ++ (L ++ B)) ++ I := fun x hx => by simp [hx]
  have muL : ∀ a ∈ L.map Prod.fst, a ∈ W ∨ H0 a = none := fun a ha => by
    obtain ⟨y, hy, rfl⟩ := List.mem_map.mp ha
    exact h.mu y (by simp [hy])
  refine ⟨fun b o n e => ?_, ?_, fun x hx => ?_, fun x hx => ?_⟩
  · refine f.up b o (fun z => ?_) (h.up b o n e)
    rcases muL b z with w | w
    · exact n w
    · rw [w] at e
      cases e
  · simp only [List.map_append, List.append_assoc, List.nodup_append, List.mem_append]
    refine ⟨ndA, ⟨ndL', ⟨ndB, ndI, dBI⟩, ?_⟩, ?_⟩
    · rintro a ha b hb rfl
      obtain ⟨x, hx, rfl⟩ := List.mem_map.mp ha
      rcases hb with hb | hb
      · obtain ⟨y, hy, e⟩ := List.mem_map.mp hb
        exact sep x hx y (inB y hy) (nB y hy) e.symm
      · obtain ⟨y, hy, e⟩ := List.mem_map.mp hb
        exact sep x hx y (inI y hy) (nI y hy) e.symm
    · rintro a ha b hb rfl
      obtain ⟨x, hx, rfl⟩ := List.mem_map.mp ha
      rcases hb with hb | hb | hb
      · obtain ⟨y, hy, e⟩ := List.mem_map.mp hb
        exact sep y hy x (inA x hx) (nA x hx) e
      · exact dA x.1 ha x.1 (.inr (.inl hb)) rfl
      · exact dA x.1 ha x.1 (.inr (.inr hb)) rfl
  · simp only [List.mem_append] at hx
    rcases hx with (hx | hx | hx) | hx
    · exact out x (inA x hx) (nA x hx)
    · exact f.ok.at_ x hx
    · exact out x (inB x hx) (nB x hx)
    · exact out x (inI x hx) (nI x hx)
  · simp only [List.mem_append] at hx
    rcases hx with hx | hx | hx
    · exact h.mu x (by simp [hx])
    · rcases f.fr x hx with z | z
      · exact muL _ z
      · by_cases hw : x.1 ∈ W
        · exact .inl hw
        · exact .inr (Holds.uptoNew h.up z hw)
    · exact h.mu x (by simp [hx])
theorem Hs.startL (h : Holds H L) : Hs (L.map Prod.fst) H H L [] := ⟨Upto.refl _ _, by rw [List.append_nil]; exact h.nd, fun x hx => h.at_ x (by simpa using hx), fun _ hx => .inl (List.mem_map_of_mem hx)⟩
/-- the caller hands a part of what it holds -/
theorem SegRep.sub {M L L' M' : List (Addr × HO)} (s : SegRep M L L' M') : L.Sublist M := by
  obtain ⟨A, B, rfl, _⟩ := s.split
  exact (List.sublist_append_left L B).trans (List.sublist_append_right A _)
end
theorem rowsL_set : ∀ {bs : List Addr} {ws : List (List Int)} {i : Nat} (q : Addr) (w : List Int), i < bs.length → bs.length = ws.length → ∃ x, ((q, HO.lst (w.map V.int)) :: rowsL bs ws).Perm (x :: rowsL (bs.set i q) (ws.set i w))
  | [], _, _, _, _, h, _ => by simp at h
  | _ :: _, [], _, _, _, _, h => by simp at h
  | b :: bs, v :: ws, 0, q, w, _, _ => ⟨(b, .lst (v.map V.int)), List.Perm.swap _ _ _⟩
  | b :: bs, v :: ws, i + 1, q, w, h, h' => by
    obtain ⟨x, p⟩ := rowsL_set (bs := bs) (ws := ws) (i := i) q w (by simpa using h) (by simpa using h')
    refine ⟨x, (List.Perm.swap _ _ _).trans ?_⟩
    refine (List.Perm.cons _ p).trans ?_
    exact List.Perm.swap _ _ _
theorem Hs.setRow {W : List Addr} {H0 H : Hp} {A B I : List (Addr × HO)} {bs : List Addr} {ws : List (List Int)} {i : Nat} {q : Addr} {w : List Int} (h : Hs W H0 H ((q, HO.lst (w.map V.int)) :: (A ++ (rowsL bs ws ++ B))) I) (hi : i < bs.length) (hl : bs.length = ws.length) :
    Hs W H0 H (A ++ (rowsL (bs.set i q) (ws.set i w) ++ B)) I := by
  obtain ⟨x, p⟩ := rowsL_set (i := i) q w hi hl
  have h2 : Hs W H0 H (x :: (A ++ (rowsL (bs.set i q) (ws.set i w) ++ B))) I := by
    refine h.perm ?_
    refine List.Perm.trans ?_ (List.perm_middle (a := (q, HO.lst (w.map V.int))) (l₁ := A) (l₂ := rowsL bs ws ++ B))
    refine List.Perm.trans (List.perm_middle (a := x) (l₁ := A) (l₂ := rowsL (bs.set i q) (ws.set i w) ++ B)).symm ?_
    refine List.Perm.append_left A ?_
    exact (List.Perm.append_right B p).symm
  exact h2.tl
end RL
namespace RL
open PySem L2 StX
def rTupOf (K : PySem.W.Frag) : List V → Hp → VK → Prop := fun xs H Q => ∃ p ys, xs = [.ref p] ∧ ((SqL K H p ys ∧ ∀ l, H l = none → Q (.ref l) (upd H l (.tup ys))) ∨ (SqT K H p ys ∧ Q (.ref p) H))
theorem call_tupleOfK {X : Cx} {K : PySem.W.Frag} (hK : X.K = K := by rfl) : CallR X (.type "tuple") (rTupOf K) := by subst hK; exact call_tuple_of
end RL
namespace RL
open PySem L2 StX
theorem Hs.setRow0 {W : List Addr} {H0 H : Hp} {A I : List (Addr × HO)} {bs : List Addr} {ws : List (List Int)} {i : Nat} {q : Addr} {w : List Int} (h : Hs W H0 H ((q, HO.lst (w.map V.int)) :: (A ++ rowsL bs ws)) I) (hi : i < bs.length) (hl : bs.length = ws.length) :
    Hs W H0 H (A ++ rowsL (bs.set i q) (ws.set i w)) I := by
  have q1 := Hs.setRow (B := []) (A := A) (i := i) (by rw [List.append_nil]; exact h) hi hl
  rw [List.append_nil] at q1
  exact q1
theorem SetI.refs {bs : List Addr} {i : Nat} {q : Addr} (h : i < bs.length) : SetI (bs.map V.ref) (i : Int) (.ref q) ((bs.set i q).map V.ref) := by
  have := SetI.nat (xs := bs.map V.ref) (n := i) (v := .ref q) (by rw [List.length_map]; exact h)
  rw [List.map_set]
  exact this
theorem s_eqV {x y : V} {H : Hp} {Q : VK} (hs : scal x y = true) (h : Q (.bl (decide (x = y))) H) : rEq x y H Q := ⟨hs, h⟩
theorem s_neV {x y : V} {H : Hp} {Q : VK} (hs : scal x y = true) (h : Q (.bl (decide (x ≠ y))) H) : rNe x y H Q := ⟨hs, by rw [← decide_not]; exact h⟩
theorem Hs.startC {H : Hp} {x : Addr × HO} {L : List (Addr × HO)} (h : Holds H (x :: L)) : Hs (L.map Prod.fst) H H L [x] := by
  refine ⟨Upto.refl _ _, ?_, ?_, fun _ hx => .inl (List.mem_map_of_mem hx)⟩
  · have p1 : (L ++ [x]).Perm (x :: L) := List.perm_append_comm
    exact ((p1.map Prod.fst).nodup_iff).mpr h.nd
  · intro y hy
    refine h.at_ y ?_
    simp only [List.mem_append, List.mem_singleton] at hy
    rcases hy with hy | hy
    · exact List.mem_cons_of_mem _ hy
    · rw [hy]; exact List.mem_cons_self
theorem Hs.cons1 {W : List Addr} {H0 H : Hp} {x : Addr × HO} {L : List (Addr × HO)} (h : Hs W H0 H L [x]) : Holds H (x :: L) := by
  refine ⟨?_, ?_⟩
  · have p1 : (L ++ [x]).Perm (x :: L) := List.perm_append_comm
    exact ((p1.map Prod.fst).nodup_iff).mp h.nd
  · intro y hy
    refine h.at_ y ?_
    simp only [List.mem_append, List.mem_singleton]
    rcases List.mem_cons.mp hy with hy | hy
    · exact .inr hy
    · exact .inl hy
end RL
namespace RL
open PySem L2 StX
/-! ### data that are equal to themselves -/
theorem eqvAll_refl : ∀ {ds : List PyData}, (∀ d ∈ ds, d.eqv d = true) → PyData.eqvAll ds ds = true
  | [], _ => rfl
  | d :: ds, h => by
    rw [PyData.eqvAll, h d List.mem_cons_self, eqvAll_refl fun x hx => h x (List.mem_cons_of_mem _ hx)]
    rfl
theorem layAll {ds : List PyData} (h : ∀ d ∈ ds, d.canLay0 = true) : PyData.canLayAll0 ds = true := by
  induction ds with
  | nil => rfl
  | cons d ds ih =>
    rw [PyData.canLayAll0, h d List.mem_cons_self, ih fun x hx => h x (List.mem_cons_of_mem _ hx)]
    rfl
theorem depAll {n : Nat} {ds : List PyData} (h : ∀ d ∈ ds, d.depth ≤ n) : PyData.depthAll ds ≤ n := by
  induction ds with
  | nil => exact Nat.zero_le _
  | cons d ds ih =>
    rw [PyData.depthAll]
    exact Nat.max_le.mpr ⟨h d List.mem_cons_self, ih fun x hx => h x (List.mem_cons_of_mem _ hx)⟩
theorem Sh.refl : ∀ {n : Nat} {d : PyData}, Sh n d → d.eqv d = true ∧ d.depth ≤ n := by
  intro n
  induction n with
  | zero => intro d h; cases h
  | succ n ih =>
    intro d h
    cases h with
    | non => exact ⟨rfl, Nat.zero_le _⟩
    | bl b => exact ⟨by cases b <;> rfl, Nat.zero_le _⟩
    | int i => exact ⟨by simp [PyData.eqv], Nat.zero_le _⟩
    | str x => exact ⟨by simp [PyData.eqv], Nat.zero_le _⟩
    | lst _ a =>
      refine ⟨?_, ?_⟩
      · rw [PyData.eqv]; exact eqvAll_refl fun d hd => (ih (a d hd)).1
      · rw [PyData.depth]; have := depAll fun d hd => (ih (a d hd)).2; omega
    | tup _ a =>
      refine ⟨?_, ?_⟩
      · rw [PyData.eqv]; exact eqvAll_refl fun d hd => (ih (a d hd)).1
      · rw [PyData.depth]; have := depAll fun d hd => (ih (a d hd)).2; omega
theorem Sh.shaped {n : Nat} {d : PyData} (h : Sh n d) (hn : n ≤ 64) (hl : d.canLay0 = true) : SeqAt.shaped d = true := by
  unfold SeqAt.shaped
  rw [hl, Bool.true_and]
  have := h.refl.2
  exact decide_eq_true (by omega)
section
variable {K : PySem.W.Frag} {H H' : Hp} {x y : V} {d : PyData} {n : Nat} {Q : VK} {W : List Addr} {H0 : Hp} {M M' I : List (Addr × HO)} {a p : Addr} {xs : List V} {ns : List Int} {bs : List Bool} {i j : Int} {m : Int} {z : Str}
theorem s_eqDD (hx : Dp K H x d) (hy : Dp K H y d) (s : Sh n d) (hl : d.canLay0 = true) (hn : n ≤ 64) (h : Q (.bl true) H) : rEqD K x y H Q :=
  ⟨_, _, hx, hy, s.shaped hn hl, s.shaped hn hl, by rw [s.refl.1]; exact h⟩
theorem s_neDD (hx : Dp K H x d) (hy : Dp K H y d) (s : Sh n d) (hl : d.canLay0 = true) (hn : n ≤ 64) (h : Q (.bl false) H) : rNeD K x y H Q :=
  ⟨_, _, hx, hy, s.shaped hn hl, s.shaped hn hl, by rw [s.refl.1]; exact h⟩
/-- min, max, all of lists -/
theorem s_minL (h1 : SqL K H a (ns.map V.int)) (hz : 0 < ns.length) (h : ∀ m, m ∈ ns → (∀ y, y ∈ ns → m ≤ y) → Q (.int m) H) : rMin K [.ref a] H Q := ⟨a, ns, rfl, h1, hz, h⟩
theorem s_maxL (h1 : SqL K H a (ns.map V.int)) (hz : 0 < ns.length) (h : ∀ m, m ∈ ns → (∀ y, y ∈ ns → y ≤ m) → Q (.int m) H) : rMax K [.ref a] H Q := ⟨a, ns, rfl, h1, hz, h⟩
theorem s_allL (h1 : SqL K H a (bs.map V.bl)) (h : Q (.bl (bs.all id)) H) : rAll K [.ref a] H Q := ⟨a, bs, rfl, h1, h⟩
/-- range(n) as a value; x not in it -/
theorem s_rng1 (hs : Hs W H0 H M I) (h : ∀ p H', Hs W H0 H' ((p, .rng 0 j) :: M) I → Upto [] H H' → H p = none → Q (.ref p) H') : rRng1 [.int j] H Q := ⟨j, rfl, fun p hp => h p _ (hs.new hp _) (Upto.new hp) hp⟩
theorem s_notRngI (h1 : H a = some (.rng 0 j)) (h : Q (.bl (!decide (0 ≤ i ∧ i < j))) H) : rNotRng (.int i) (.ref a) H Q := ⟨a, j, rfl, h1, .inl ⟨i, rfl, h⟩⟩
theorem s_notRngN (h1 : H a = some (.rng 0 j)) (h : Q (.bl true) H) : rNotRng .non (.ref a) H Q := ⟨a, j, rfl, h1, .inr ⟨.inl rfl, h⟩⟩
theorem s_notRngS (h1 : H a = some (.rng 0 j)) (h : Q (.bl true) H) : rNotRng (.str z) (.ref a) H Q := ⟨a, j, rfl, h1, .inr ⟨.inr ⟨z, rfl⟩, h⟩⟩
/-- tuple(list) -/
theorem s_tupOfL (hs : Hs W H0 H M I) (h1 : SqL K H a xs) (h : ∀ p H', Hs W H0 H' ((p, .tup xs) :: M) I → Upto [] H H' → H p = none → Q (.ref p) H') : rTupOf K [.ref a] H Q :=
  ⟨a, xs, rfl, .inl ⟨h1, fun p hp => h p _ (hs.new hp _) (Upto.new hp) hp⟩⟩
end
end RL
namespace RL
open PySem L2 StX
theorem Hs.neq {W : List Addr} {H0 H : Hp} {M I : List (Addr × HO)} {a b : Addr} {o o' : HO} (hs : Hs W H0 H M I) (s : [(a, o), (b, o')].Sublist M) : a ≠ b := by
  have n1 := hs.nd
  rw [List.map_append, List.nodup_append] at n1
  have n2 := List.Nodup.sublist (s.map Prod.fst) n1.1
  simpa using n2
end RL
namespace RL
open PySem L2 StX
theorem Hs.cast {W : List Addr} {H0 H : Hp} {M M' I : List (Addr × HO)} (h : Hs W H0 H M I) (e : M = M') : Hs W H0 H M' I := e ▸ h
end RL
namespace RL
theorem ltK {a b : Nat} (h : Nat.ble (a + 1) b = true) : a < b := Nat.le_of_ble_eq_true h
theorem leK {a b : Nat} (h : Nat.ble a b = true) : a ≤ b := Nat.le_of_ble_eq_true h
end RL
namespace RL
open PySem L2 StX
theorem cutV_mem {xs : List V} {lo hi : Option Int} {x : V} (h : x ∈ cutV xs lo hi) : x ∈ xs := by
  unfold cutV at h
  exact List.mem_of_mem_drop (List.mem_of_mem_take h)
end RL
namespace RL
open PySem L2 StX
theorem Holds.sub {H : Hp} {L N : List (Addr × HO)} (h : Holds H L) (s : N.Sublist L) : Holds H N := ⟨List.Nodup.sublist (s.map _) h.nd, fun x hx => h.at_ x (s.subset hx)⟩
theorem ScrL.app {K : PySem.W.Frag} {sc : Addr} {ns : List Int} {S A : List (Addr × HO)} (h : ScrL K sc ns S) : ScrL K sc ns (A ++ S) := fun H hh => h H (hh.sub (List.sublist_append_right _ _))
theorem Hs.partI {W : List Addr} {H0 H : Hp} {M N I : List (Addr × HO)} (h : Hs W H0 H M I) (s : N.Sublist M) : Holds H (N ++ I) := h.holds.sub (s.append (List.Sublist.refl I))
end RL
namespace RL
open PySem L2 StX
/-- a middle: what holds behind the first statement, whatever way was taken -/
theorem s_join {t u : TS} {nx bk ct : St → Hp → Prop} {rt : VK} {σ : St} {H : Hp} (P : St → Hp → Prop) (hj : ∀ σ' H', P σ' H' → u ⟨nx, rt, bk, ct⟩ σ' H') (h : ∀ U : St → Hp → Prop, (∀ σ' H', P σ' H' → U σ' H') → t ⟨U, rt, bk, ct⟩ σ H) : tSeq t u ⟨nx, rt, bk, ct⟩ σ H := h _ hj
theorem sub_two {L₁ L₂ B : List (Addr × HO)} : (L₁ ++ L₂).Sublist (L₁ ++ (L₂ ++ B)) := by
  rw [← List.append_assoc]
  exact List.sublist_append_left _ _
theorem s_repR {W : List Addr} {H0 H : Hp} {M I : List (Addr × HO)} {a : Addr} {x : V} {k : Nat} {Q : VK} (hs : Hs W H0 H M I) (h1 : H a = some (.lst [x])) (hk : k ≤ 100000) (h : ∀ p H', Hs W H0 H' ((p, .lst (List.replicate k x)) :: M) I → Upto [] H H' → H p = none → Q (.ref p) H') : rRep (.ref a) (.int k) H Q := by
  refine s_rep hs h1 (by omega) (by rw [sizeLine_eq]; simp; omega) ?_
  have e : (List.replicate ((k : Int)).toNat [x]).flatten = List.replicate k x := by simp
  rw [e]
  exact h
end RL
namespace RL
theorem perm4 {α : Type} (A B C : List α) (r : α) : (r :: (A ++ (B ++ C))).Perm (B ++ (C ++ (A ++ [r]))) := by
  rw [← List.append_assoc B C]
  refine List.Perm.trans ?_ List.perm_append_comm
  rw [List.append_assoc A [r]]
  exact (List.perm_middle).symm
end RL
namespace RL
open PySem L2 StX
theorem s_join2 {t t2 u : TS} {nx bk ct : St → Hp → Prop} {rt : VK} {σ : St} {H : Hp} (P : St → Hp → Prop) (hj : ∀ σ' H', P σ' H' → u ⟨nx, rt, bk, ct⟩ σ' H') (h : ∀ U : St → Hp → Prop, (∀ σ' H', P σ' H' → U σ' H') → tSeq t t2 ⟨U, rt, bk, ct⟩ σ H) : tSeq t (tSeq t2 u) ⟨nx, rt, bk, ct⟩ σ H := h _ hj
theorem sub_one {X R R' : List (Addr × HO)} {x : Addr × HO} (h : x ∈ X) (s : R'.Sublist R) : (x :: R').Sublist (X ++ R) := List.Sublist.append (l₁ := [x]) (List.singleton_sublist.mpr h) s
end RL
namespace RL
open PySem L2 StX
theorem s_neSs {x : Str} {H : Hp} {Q : VK} (h : Q (.bl false) H) : rNe (.str x) (.str x) H Q := s_neS (by rw [decide_eq_false (fun q => q rfl)]; exact h)
theorem s_eqSs {x : Str} {H : Hp} {Q : VK} (h : Q (.bl true) H) : rEq (.str x) (.str x) H Q := s_eqS (by rw [decide_eq_true rfl]; exact h)
theorem s_neNN {H : Hp} {Q : VK} (h : Q (.bl false) H) : rNe .non .non H Q := s_neV rfl (by rw [decide_eq_false (fun q => q rfl)]; exact h)
end RL
namespace RL
theorem perm5 {α : Type} (A B C : List α) (r : α) : (C ++ (r :: (A ++ B))).Perm (r :: (A ++ (B ++ C))) := by
  refine List.perm_append_comm.trans ?_
  rw [List.cons_append, List.append_assoc]
end RL
namespace RL
open PySem L2 StX
/-! ### enumerate, pairs in comprehensions, truth of lists, continue, pop(0), methods without arguments in a try -/
theorem pi_enumK {X : Cx} {K : PySem.W.Frag} {e : Expr} {ta : TA} {p pos tpos : Pos} {elts : List Expr} {kk : Nat} (hg : Gl X "enumerate") (hm : X.mg "enumerate" = none) (ha : PA X [e] ta) (hK : X.K = K := by rfl) (hs : starEach [e] X.env = [(false, eval e X.env)] := by rfl) :
    PI X (.Tuple elts kk tpos) (.Call (.Name "enumerate" p) [e] [] pos) (iEnum K ta) := by subst hK; exact pi_enum hg hm ha hs
def kEnm (K : PySem.W.Frag) (R : It → Hp → Prop) : List V → Hp → Prop := fun vs H1 => ∃ a xs, vs = [.ref a] ∧ SqL K H1 a xs ∧ R (Ite K a) H1
def kTru (K : PySem.W.Frag) (Q : Bool → Hp → Prop) : VK := fun x H => ∃ k, TruV K x H k ∧ Q k H
def tTruK (K : PySem.W.Frag) (ta : TE) : TT := fun σ H Q => ta σ H (kTru K Q)
theorem pt_truthK {X : Cx} {K : PySem.W.Frag} {a : Expr} {ta : TE} (ha : PE X a ta) (he : ∀ whole, isTrue a X.env whole = (do let v ← whole; standAt a.pos; holding [v] (truthy v))) (hK : X.K = K := by rfl) : PT X a (tTruK K ta) := by subst hK; exact pt_truth ha he
theorem pe_methS0 {X : Cx} {CX : CXT} {k : Nat} {f C : Addr} {fd : FuncData} {ps : List Str} {sp : Sp} {E : St → XK} {m : Str} {pos apos : Pos} {o : Expr} {ta : TE} {pl : Sem Bool} (he : PE X o ta) (c : Cls X.K C) (hm : Meth X.K C m f) (F : FnOk X.prog X.w X.K X.mg X.base CX k f fd ps sp) (hr : Room k X.A) (hb : Binds X.K fd ps []) (hx : ∀ σ, PassesAt CX X σ (E σ))
    (ht : eval (.Call (.Attribute o m apos) [] [] pos) X.env = (do let ov ← eval o X.env; standAt apos.atName; let (f, first) ← holding [ov] (getMethod ov m pl); callWith pos f first (backTo pos (starEach [] X.env)) (backToKw pos (keywordEach [] X.env))) := by rfl) :
    PE X (.Call (.Attribute o m apos) [] [] pos) (tMethS C m sp E ta tNil) := ⟨fun pins s σ H Q I h => by
  refine PySem.W.methodCall_KW (pl := pl) (thn (he.run pins s σ H _ I h) fun u s1 q0 => ?_) ht
  obtain ⟨y, H1, I1, rx, a, dx, fs, ey, ea, l, q⟩ := q0
  subst ey
  obtain rfl : u = Value.ref a := rx
  refine getmeth_ok I1 ea c hm l ?_
  exact PySem.W.callWith_K0 (first := [.ref a]) I1.kIn hm.kp (run_fnS (us := [.ref a]) (vs := [.ref a]) F hr hb (hx σ) I1 (.cons rfl .nil) q)⟩
theorem pe_callDS {X : Cx} {CX : CXT} {k n : Nat} {ps : List Str} {sp : Sp} {E : St → XK} {x : Str} {p pos : Pos} {e : Expr} {es : List Expr} {t : TA} (D : DefOk X.prog X.w X.K X.mg X.base CX k x ps sp) (hr : Room n X.A) (hg : Gl X x) (hx : ∀ σ, PassesAt CX X σ (E σ))
    (ha : PA X (e :: es) t) (hk : k ≤ n := by first | decide | exact Nat.le_refl _) (hdb : (x == ("__debug__" : Str)) = false := by decide) (he : starEach (e :: es) X.env = (false, eval e X.env) :: starEach es X.env := by rfl) (hpl : (backTo pos (starEach es X.env)).any (·.1) = false := by rfl) :
    PE X (.Call (.Name x p) (e :: es) [] pos) (tCallS sp E t) := by
  obtain ⟨f, fd, F, b, kp, m⟩ := D.ex
  exact pe_callS F (hr.mono hk) hg m kp b hx ha hdb he hpl
theorem s_callS {sp : Sp} {E : St → XK} {t : TA} {σ : St} {H : Hp} {Q : VK} (h : t σ H fun vs H1 => sp vs H1 Q (E σ)) : tCallS sp E t σ H Q := h
section
variable {σ : St} {H H' : Hp} {nx bk ct : St → Hp → Prop} {rt : VK} {g : TG} {t : TS} {tt : TT} {ta : TA} {te : TE} {Q : VK} {QB : Bool → Hp → Prop} {K : PySem.W.Frag} {a : Addr} {xs zs : List V} {y : V} {D : Ends} {v w : Nat} {W : List Addr} {H0 : Hp} {M M' I : List (Addr × HO)}
theorem s_forE (h : ta σ H (kEnm K fun J H1 => kFor J g t D σ H1)) : tFor (iEnum K ta) g t D σ H := h
theorem s_kEnm {R : It → Hp → Prop} (h1 : SqL K H a xs) (h : R (Ite K a) H) : kEnm K R [.ref a] H := ⟨a, xs, rfl, h1, h⟩
theorem f_enum (Pv : Nat → St → Hp → Prop) (h0 : Pv 0 σ H) (hl : ∀ i σ H, i ≤ xs.length → Pv i σ H → SqL K H a xs)
    (hs : ∀ i x T σ H, xs[i]? = some x → Pv i σ H → H T = none → g (.ref T) σ (upd H T (.tup [.int (i : Nat), x])) fun σ2 H2 => t ⟨Pv (i + 1), rt, nx, Pv (i + 1)⟩ σ2 H2) (hd : ∀ σ H, Pv xs.length σ H → nx σ H) : kFor (Ite K a) g t ⟨nx, rt, bk, ct⟩ σ H :=
  for_it walk_enum Pv h0 hl (fun i v σ H H' _ p y => by
    obtain ⟨T, a1, x, rfl, hT, rfl, e1, e2⟩ := y
    cases e1
    exact hs i x T σ H e2 p hT) hd
theorem s_cont (h : ct σ H) : tCont ⟨nx, rt, bk, ct⟩ σ H := h
theorem s_truth (h : te σ H (kTru K QB)) : tTruK K te σ H QB := h
theorem s_kTruL (h1 : SqL K H a xs) (h : QB (!xs.isEmpty) H) : kTru K QB (.ref a) H := ⟨_, .inl ⟨xs, h1, rfl⟩, h⟩
theorem s_iteE0 {A B : Prop} (h : A) : if (!!([] : List V).isEmpty) = true then A else B := iteT h
theorem s_iteEc {A B : Prop} (h : B) : if (!!(y :: zs).isEmpty) = true then A else B := iteF h
theorem s_iteE1 {A B : Prop} (h : B) : if (!([] : List V).isEmpty) = true then A else B := iteF h
theorem s_iteEd {A B : Prop} (h : A) : if (!(y :: zs).isEmpty) = true then A else B := iteT h
theorem s_pop0 (hs : Hs W H0 H M I) (h1 : H a = some (.lst (y :: zs))) (r : Rep M a (.lst zs) M') (h : ∀ H', Hs W H0 H' M' I → Upto [a] H H' → Q y H') : rPopAt (.ref a) [.int 0] H Q :=
  ⟨a, _, 0, 0, y, rfl, rfl, h1, by decide, by decide, by
    unfold seqIndex?
    simp, rfl, h _ (hs.put r) (Upto.put (by simp))⟩
theorem SetAt.twice {σ1 σ2 : St} {x : V} {z : Option V} (h : SetAt σ v x σ1) : (σ.set v z).set v (some x) = σ1 := by rw [List.set_set, h.eq]
theorem f_lcL2 (hvw : v ≠ w) (h : ∀ D, H D = none → ∃ Pv : Nat → Hp → Prop, Pv 0 (upd H D (.lst [])) ∧ (∀ i H, i ≤ xs.length → Pv i H → SqL K H a xs) ∧
    (∀ i x H, xs[i]? = some x → Pv i H → ∃ p q T σ1 σ2, x = .ref T ∧ SqT K H T [p, q] ∧ SetAt σ v p σ1 ∧ SetAt σ1 w q σ2 ∧ tt σ2 H fun b H3 => if b = true then te σ2 H3 (kAcc D (Pv (i + 1))) else Pv (i + 1) H3) ∧ ∀ H, Pv xs.length H → Q (.ref D) H) :
    kLc (Itl K a) (gTup K 2 (gCons (gName v) (gCons (gName w) gNil))) tt te [v, w] σ Q H := by
  intro D hD
  obtain ⟨Pv, h0, hl, hs, hd⟩ := h D hD
  refine lc_list (Qd := fun H => Q (.ref D) H) Pv h0 hl (fun i x H hx p => ?_) hd
  obtain ⟨y1, y2, T, σ1, σ2, rfl, hT, s1, s2, q⟩ := hs i x H hx p
  have e : ((wipe σ [v, w]).set v (some y1)).set w (some y2) = σ2 := by
    show ((((σ.set w none).set v none).set v (some y1)).set w (some y2)) = σ2
    rw [List.set_set, List.set_comm _ _ hvw, List.set_set, List.set_comm _ _ hvw.symm, s1.eq, s2.eq]
  have e2 : wipe σ2 [v, w] = wipe σ [v, w] := by
    rw [← e]
    show (((((σ.set w none).set v none).set v (some y1)).set w (some y2)).set w none).set v none = (σ.set w none).set v none
    simp only [List.set_set]
    rw [List.set_comm _ _ hvw]
    simp only [List.set_set]
  refine ⟨T, _, rfl, hT, rfl, _, _, rfl, _, _, rfl, rfl, ?_⟩
  show wipe (((wipe σ [v, w]).set v (some y1)).set w (some y2)) [v, w] = _ ∧ _
  rw [e]
  exact ⟨e2, q⟩
end
theorem atI_end {α : Type} {xs : List α} {v : α} : atI (xs ++ [v]) (-1) = some v := atI_last xs v
/-! ### blocks, groups of blocks, rows: as they stand in the heap -/
def bcell (x : Addr × List Int) : Addr × HO := (x.1, .lst (x.2.map V.int))
def bL (pb : List (Addr × List Int)) : List (Addr × HO) := pb.map bcell
abbrev rf (x : Addr × List Int) : V := .ref x.1
def gcell (x : Addr × List (Addr × List Int)) : Addr × HO := (x.1, .lst (x.2.map rf))
def gL (xs : List (Addr × List (Addr × List Int))) : List (Addr × HO) := xs.map gcell
abbrev gf (x : Addr × List (Addr × List Int)) : V := .ref x.1
abbrev RA := (Addr × Addr) × (Int × List Int)
def rL : List RA → List (Addr × HO)
  | [] => []
  | x :: xs => (x.1.1, .tup [.int x.2.1, .ref x.1.2]) :: (x.1.2, .lst (x.2.2.map V.int)) :: rL xs
abbrev tf (x : RA) : V := .ref x.1.1
theorem rL_app : ∀ xs ys : List RA, rL (xs ++ ys) = rL xs ++ rL ys
  | [], _ => rfl
  | x :: xs, ys => by
    show _ :: _ :: rL (xs ++ ys) = _ :: _ :: (rL xs ++ rL ys)
    rw [rL_app xs ys]
theorem rL_tup : ∀ {xs : List RA} {x : RA}, x ∈ xs → (x.1.1, HO.tup [.int x.2.1, .ref x.1.2]) ∈ rL xs ∧ (x.1.2, HO.lst (x.2.2.map V.int)) ∈ rL xs
  | y :: xs, x, h => by
    rcases List.mem_cons.mp h with h | h
    · subst h
      exact ⟨List.mem_cons_self, List.mem_cons_of_mem _ List.mem_cons_self⟩
    · have := rL_tup h
      exact ⟨List.mem_cons_of_mem _ (List.mem_cons_of_mem _ this.1), List.mem_cons_of_mem _ (List.mem_cons_of_mem _ this.2)⟩
theorem bL_rows : ∀ pb : List (Addr × List Int), bL pb = rowsL (pb.map Prod.fst) (pb.map Prod.snd)
  | [] => rfl
  | x :: pb => by
    show bcell x :: bL pb = _ :: rowsL _ _
    rw [bL_rows pb]
    rfl
theorem bL_mem {pb : List (Addr × List Int)} {x : Addr × List Int} (h : x ∈ pb) : (x.1, HO.lst (x.2.map V.int)) ∈ bL pb := List.mem_map_of_mem (f := bcell) h
theorem gL_mem {xs : List (Addr × List (Addr × List Int))} {x : Addr × List (Addr × List Int)} (h : x ∈ xs) : (x.1, HO.lst (x.2.map rf)) ∈ gL xs := List.mem_map_of_mem (f := gcell) h
/-- data of rows -/
theorem dp_rL {K : PySem.W.Frag} {H : Hp} : ∀ {xs : List RA}, (∀ y ∈ rL xs, H y.1 = some y.2) → DpAll K H (xs.map tf) (xs.map fun x => PyData.tuple [.int x.2.1, .list (x.2.2.map PyData.int)])
  | [], _ => .nil
  | x :: xs, h => .cons (.tup (SqT.of (h (x.1.1, _) List.mem_cons_self)) (.cons (.int _) (.cons (Dp.ints (SqL.of (h (x.1.2, _) (List.mem_cons_of_mem _ List.mem_cons_self)))) .nil)))
      (dp_rL fun y hy => h y (List.mem_cons_of_mem _ (List.mem_cons_of_mem _ hy)))
end RL
namespace RL
open PySem L2 StX
theorem s_join3 {t t2 t3 u : TS} {nx bk ct : St → Hp → Prop} {rt : VK} {σ : St} {H : Hp} (P : St → Hp → Prop) (hj : ∀ σ' H', P σ' H' → u ⟨nx, rt, bk, ct⟩ σ' H') (h : ∀ U : St → Hp → Prop, (∀ σ' H', P σ' H' → U σ' H') → tSeq t (tSeq t2 t3) ⟨U, rt, bk, ct⟩ σ H) : tSeq t (tSeq t2 (tSeq t3 u)) ⟨nx, rt, bk, ct⟩ σ H := h _ hj
theorem s_ifJ {c : TT} {t u : TS} {D : Ends} {σ : St} {H : Hp} (P : Bool → Hp → Prop) (h1 : ∀ H', P true H' → t D σ H') (h2 : ∀ H', P false H' → u D σ H') (h : ∀ U : Bool → Hp → Prop, (∀ b H', P b H' → U b H') → c σ H U) : tIfS c t u D σ H :=
  h _ fun b H' p => by
    cases b with
    | true => exact iteT (h1 H' p)
    | false => exact iteF (h2 H' p)
theorem s_eqDX {K : PySem.W.Frag} {x y : V} {d e : PyData} {H : Hp} {Q : VK} (hx : Dp K H x d) (hy : Dp K H y e) (sd : SeqAt.shaped d = true) (se : SeqAt.shaped e = true) (h : Q (.bl (PyData.eqv d e)) H) : rEqD K x y H Q := ⟨d, e, hx, hy, sd, se, h⟩
theorem Holds.pick {H : Hp} {A B : List (Addr × HO)} {x : Addr × HO} (h : Holds H (A ++ B)) (hx : x ∈ B) : Holds H (x :: A) := by
  have nd := h.nd
  rw [List.map_append, List.nodup_append] at nd
  refine ⟨?_, fun y hy => ?_⟩
  · rw [List.map_cons, List.nodup_cons]
    exact ⟨fun z => nd.2.2 x.1 z x.1 (List.mem_map_of_mem (f := Prod.fst) hx) rfl, nd.1⟩
  · rcases List.mem_cons.mp hy with hy | hy
    · rw [hy]
      exact h.at_ x (List.mem_append_right _ hx)
    · exact h.at_ y (List.mem_append_left _ hy)
end RL
namespace RL
open PySem L2 StX
theorem perm_in {α : Type} (w r : α) (A B C : List α) : (r :: (A ++ (B ++ (w :: C)))).Perm (w :: r :: (A ++ (B ++ C))) := by
  rw [← List.append_assoc, ← List.append_assoc]
  exact List.perm_middle (l₁ := r :: (A ++ B))
theorem Hs.pick3 {W : List Addr} {H0 H : Hp} {x y : Addr × HO} {A B C I : List (Addr × HO)} (h : Hs W H0 H (x :: (A ++ (B ++ C))) I) (hy : y ∈ C) : Holds H (y :: (A ++ B)) := by
  have h1 : Holds H ((x :: (A ++ B)) ++ C) := by
    have := h.part (List.Sublist.refl _)
    rw [← List.append_assoc] at this
    exact this
  exact (h1.pick hy).sub (.cons₂ _ (.cons _ (List.Sublist.refl _)))
end RL
namespace RL
open PySem L2 StX
def rInt1 : List V → Hp → VK → Prop := fun xs H Q => (∃ i, xs = [.int i] ∧ Q (.int i) H) ∨ ∃ k, xs = [.bl k] ∧ Q (.int (if k then 1 else 0)) H
theorem call_int1' {X : Cx} : CallR X (.type "int") rInt1 := call_int1
theorem s_int1T {H : Hp} {Q : VK} (h : Q (.int 1) H) : rInt1 [.bl true] H Q := .inr ⟨true, rfl, h⟩
theorem s_int1F {H : Hp} {Q : VK} (h : Q (.int 0) H) : rInt1 [.bl false] H Q := .inr ⟨false, rfl, h⟩
theorem s_rep1 {W : List Addr} {H0 H : Hp} {M I : List (Addr × HO)} {a : Addr} {x : V} {Q : VK} (hs : Hs W H0 H M I) (h1 : H a = some (.lst [x])) (h : ∀ p H', Hs W H0 H' ((p, .lst [x]) :: M) I → Upto [] H H' → H p = none → Q (.ref p) H') : rRep (.ref a) (.int 1) H Q :=
  s_rep hs h1 (by decide) (by rw [sizeLine_eq]; show 1 * 1 ≤ 16777216; decide) h
theorem s_rep0 {W : List Addr} {H0 H : Hp} {M I : List (Addr × HO)} {a : Addr} {x : V} {Q : VK} (hs : Hs W H0 H M I) (h1 : H a = some (.lst [x])) (h : ∀ p H', Hs W H0 H' ((p, .lst []) :: M) I → Upto [] H H' → H p = none → Q (.ref p) H') : rRep (.ref a) (.int 0) H Q :=
  s_rep hs h1 (by decide) (by rw [sizeLine_eq]; show 1 * 0 ≤ 16777216; decide) h
theorem perm_mid {α : Type} (A B T : List α) : (A ++ (B ++ T)).Perm (B ++ (A ++ T)) := by
  rw [← List.append_assoc, ← List.append_assoc]
  exact List.Perm.append_right _ List.perm_append_comm
end RL
namespace RL
open PySem L2 StX
def top (i : Nat) : Stmt := PySem.Challenge.pw_ringlog_k16_whole_alike_on_disks_of_two.main.body.getD i (.Pass ⟨0, 0, 0, 0⟩)
abbrev st_wall : Stmt := top 0
abbrev st_made : Stmt := top 12
abbrev st_made_mark : Stmt := top 13
abbrev st_is_farewell : Stmt := top 14
abbrev st_kind : Stmt := top 15
abbrev st_pieces : Stmt := top 16
abbrev st_words_of : Stmt := top 17
abbrev st_newest : Stmt := top 30
abbrev st_number_in_last_place : Stmt := top 31
abbrev st_newest_of_round : Stmt := top 32
abbrev st_rows_in : Stmt := top 34
abbrev st_cut_in : Stmt := top 35
abbrev st_by_row : Stmt := top 36
abbrev st_has_last : Stmt := top 37
abbrev st_is_whole : Stmt := top 39
abbrev st_is_row : Stmt := top 43
abbrev st_blocks_of_use : Stmt := top 44
abbrev st_floor_under : Stmt := top 45
abbrev st_Log___init__ : Stmt := inClass (top 46) 0
abbrev st_Log_rows : Stmt := inClass (top 46) 1
abbrev st_Log_room : Stmt := inClass (top 46) 2
abbrev st_Log_scars : Stmt := inClass (top 46) 3
abbrev st_Log_gone : Stmt := inClass (top 46) 4
abbrev st_Log_put : Stmt := inClass (top 46) 5
abbrev st_Log_take : Stmt := inClass (top 46) 6
abbrev st_Log_take_all : Stmt := inClass (top 46) 7
abbrev st_Log_leave : Stmt := inClass (top 46) 8
abbrev st_Log__need_here : Stmt := inClass (top 46) 9
abbrev st_Log__write : Stmt := inClass (top 46) 10
abbrev st_Log__write_end : Stmt := inClass (top 46) 11
abbrev st_Log__wrote : Stmt := inClass (top 46) 12
abbrev st_is_block : Stmt := top 54
abbrev st_Disk___init__ : Stmt := inClass (top 55) 0
abbrev st_Disk_blocks : Stmt := inClass (top 55) 1
abbrev st_Disk_read : Stmt := inClass (top 55) 2
abbrev st_Disk_write : Stmt := inClass (top 55) 3
abbrev st_Disk_reads : Stmt := inClass (top 55) 4
abbrev st_Disk_writes : Stmt := inClass (top 55) 5
abbrev st_Disk_stop_after : Stmt := inClass (top 55) 6
abbrev st_Disk_go_on : Stmt := inClass (top 55) 7
abbrev st_Disk_twin : Stmt := inClass (top 55) 8
abbrev st_Disk__need_place : Stmt := inClass (top 55) 9
abbrev st_Disk__write_part : Stmt := inClass (top 55) 10
abbrev st_law_taken : Stmt := top 57
abbrev st_law_row_of : Stmt := top 58
abbrev st_law_pieces : Stmt := top 59
abbrev st_law_told : Stmt := top 60
abbrev st_law_alike : Stmt := top 61
abbrev st_law_deed : Stmt := top 62
abbrev st_law_done : Stmt := top 63
abbrev st_law : Stmt := top 64
structure Ad where
  none_ : Unit
  LogError : Addr
  BadDisk : Addr
  NoBlock : Addr
  BadBlock : Addr
  BadStop : Addr
  Stopped : Addr
  BadRow : Addr
  Full : Addr
  Empty : Addr
  Gone : Addr
  Log : Addr
  Disk : Addr
structure Txt (K : PySem.W.Frag) (mg : Str → Option Value) (Z : Ad) : Prop where
  ok_ : True
  m_all : mg "all" = none
  m_bool : mg "bool" = none
  m_enumerate : mg "enumerate" = none
  m_int : mg "int" = none
  m_isinstance : mg "isinstance" = none
  m_len : mg "len" = none
  m_list : mg "list" = none
  m_min : mg "min" = none
  m_range : mg "range" = none
  m_str : mg "str" = none
  m_tuple : mg "tuple" = none
  cl_Log : Cls K Z.Log
  g_Log : mg "Log" = some (.ref Z.Log)
  na_Log__cut : NoAttr K Z.Log "_cut"
  na_Log__disk : NoAttr K Z.Log "_disk"
  na_Log__gone : NoAttr K Z.Log "_gone"
  na_Log__number : NoAttr K Z.Log "_number"
  na_Log__rows : NoAttr K Z.Log "_rows"
  na_Log__torn : NoAttr K Z.Log "_torn"
  cl_Disk : Cls K Z.Disk
  g_Disk : mg "Disk" = some (.ref Z.Disk)
  na_Disk__blocks : NoAttr K Z.Disk "_blocks"
  na_Disk__let : NoAttr K Z.Disk "_let"
  na_Disk__part : NoAttr K Z.Disk "_part"
  na_Disk__reads : NoAttr K Z.Disk "_reads"
  na_Disk__writes : NoAttr K Z.Disk "_writes"
  g_BadBlock : mg "BadBlock" = some (.ref Z.BadBlock)
  x_BadBlock : PySem.W.excIn K Z.BadBlock [.type "ValueError", .type "Exception", .type "BaseException", .type "object"] "ValueError.__new__" = true
  kp_BadBlock : PySem.W.keepIn K (.ref Z.BadBlock) = true
  sb_BadBlock : PySem.W.subIn K (.ref Z.BadBlock) (.type "BaseException") = some true
  ty_BadBlock : PySem.W.typeIn K (.ref Z.BadBlock) = some (.type "type")
  g_BadDisk : mg "BadDisk" = some (.ref Z.BadDisk)
  x_BadDisk : PySem.W.excIn K Z.BadDisk [.type "ValueError", .type "Exception", .type "BaseException", .type "object"] "ValueError.__new__" = true
  kp_BadDisk : PySem.W.keepIn K (.ref Z.BadDisk) = true
  sb_BadDisk : PySem.W.subIn K (.ref Z.BadDisk) (.type "BaseException") = some true
  ty_BadDisk : PySem.W.typeIn K (.ref Z.BadDisk) = some (.type "type")
  g_BadRow : mg "BadRow" = some (.ref Z.BadRow)
  x_BadRow : PySem.W.excIn K Z.BadRow [.type "ValueError", .type "Exception", .type "BaseException", .type "object"] "ValueError.__new__" = true
  kp_BadRow : PySem.W.keepIn K (.ref Z.BadRow) = true
  sb_BadRow : PySem.W.subIn K (.ref Z.BadRow) (.type "BaseException") = some true
  ty_BadRow : PySem.W.typeIn K (.ref Z.BadRow) = some (.type "type")
  g_BadStop : mg "BadStop" = some (.ref Z.BadStop)
  x_BadStop : PySem.W.excIn K Z.BadStop [.type "ValueError", .type "Exception", .type "BaseException", .type "object"] "ValueError.__new__" = true
  kp_BadStop : PySem.W.keepIn K (.ref Z.BadStop) = true
  sb_BadStop : PySem.W.subIn K (.ref Z.BadStop) (.type "BaseException") = some true
  ty_BadStop : PySem.W.typeIn K (.ref Z.BadStop) = some (.type "type")
  g_Empty : mg "Empty" = some (.ref Z.Empty)
  x_Empty : PySem.W.excIn K Z.Empty [.type "ValueError", .type "Exception", .type "BaseException", .type "object"] "ValueError.__new__" = true
  kp_Empty : PySem.W.keepIn K (.ref Z.Empty) = true
  sb_Empty : PySem.W.subIn K (.ref Z.Empty) (.type "BaseException") = some true
  ty_Empty : PySem.W.typeIn K (.ref Z.Empty) = some (.type "type")
  g_Full : mg "Full" = some (.ref Z.Full)
  x_Full : PySem.W.excIn K Z.Full [.type "ValueError", .type "Exception", .type "BaseException", .type "object"] "ValueError.__new__" = true
  kp_Full : PySem.W.keepIn K (.ref Z.Full) = true
  sb_Full : PySem.W.subIn K (.ref Z.Full) (.type "BaseException") = some true
  ty_Full : PySem.W.typeIn K (.ref Z.Full) = some (.type "type")
  g_Gone : mg "Gone" = some (.ref Z.Gone)
  x_Gone : PySem.W.excIn K Z.Gone [.type "ValueError", .type "Exception", .type "BaseException", .type "object"] "ValueError.__new__" = true
  kp_Gone : PySem.W.keepIn K (.ref Z.Gone) = true
  sb_Gone : PySem.W.subIn K (.ref Z.Gone) (.type "BaseException") = some true
  ty_Gone : PySem.W.typeIn K (.ref Z.Gone) = some (.type "type")
  g_NoBlock : mg "NoBlock" = some (.ref Z.NoBlock)
  x_NoBlock : PySem.W.excIn K Z.NoBlock [.type "ValueError", .type "Exception", .type "BaseException", .type "object"] "ValueError.__new__" = true
  kp_NoBlock : PySem.W.keepIn K (.ref Z.NoBlock) = true
  sb_NoBlock : PySem.W.subIn K (.ref Z.NoBlock) (.type "BaseException") = some true
  ty_NoBlock : PySem.W.typeIn K (.ref Z.NoBlock) = some (.type "type")
  g_Stopped : mg "Stopped" = some (.ref Z.Stopped)
  x_Stopped : PySem.W.excIn K Z.Stopped [.type "ValueError", .type "Exception", .type "BaseException", .type "object"] "ValueError.__new__" = true
  kp_Stopped : PySem.W.keepIn K (.ref Z.Stopped) = true
  sb_Stopped : PySem.W.subIn K (.ref Z.Stopped) (.type "BaseException") = some true
  ty_Stopped : PySem.W.typeIn K (.ref Z.Stopped) = some (.type "type")
  e_BadBlock_Empty : PySem.W.exmOne K (.ref Z.BadBlock) (.ref Z.Empty) = some false
  e_BadBlock_Full : PySem.W.exmOne K (.ref Z.BadBlock) (.ref Z.Full) = some false
  e_BadBlock_Gone : PySem.W.exmOne K (.ref Z.BadBlock) (.ref Z.Gone) = some false
  e_BadBlock_Stopped : PySem.W.exmOne K (.ref Z.BadBlock) (.ref Z.Stopped) = some false
  e_BadDisk_Empty : PySem.W.exmOne K (.ref Z.BadDisk) (.ref Z.Empty) = some false
  e_BadDisk_Full : PySem.W.exmOne K (.ref Z.BadDisk) (.ref Z.Full) = some false
  e_BadDisk_Gone : PySem.W.exmOne K (.ref Z.BadDisk) (.ref Z.Gone) = some false
  e_BadDisk_Stopped : PySem.W.exmOne K (.ref Z.BadDisk) (.ref Z.Stopped) = some false
  e_BadRow_Empty : PySem.W.exmOne K (.ref Z.BadRow) (.ref Z.Empty) = some false
  e_BadRow_Full : PySem.W.exmOne K (.ref Z.BadRow) (.ref Z.Full) = some false
  e_BadRow_Gone : PySem.W.exmOne K (.ref Z.BadRow) (.ref Z.Gone) = some false
  e_BadRow_Stopped : PySem.W.exmOne K (.ref Z.BadRow) (.ref Z.Stopped) = some false
  e_BadStop_Empty : PySem.W.exmOne K (.ref Z.BadStop) (.ref Z.Empty) = some false
  e_BadStop_Full : PySem.W.exmOne K (.ref Z.BadStop) (.ref Z.Full) = some false
  e_BadStop_Gone : PySem.W.exmOne K (.ref Z.BadStop) (.ref Z.Gone) = some false
  e_BadStop_Stopped : PySem.W.exmOne K (.ref Z.BadStop) (.ref Z.Stopped) = some false
  e_Empty_Empty : PySem.W.exmOne K (.ref Z.Empty) (.ref Z.Empty) = some true
  e_Empty_Full : PySem.W.exmOne K (.ref Z.Empty) (.ref Z.Full) = some false
  e_Empty_Gone : PySem.W.exmOne K (.ref Z.Empty) (.ref Z.Gone) = some false
  e_Empty_Stopped : PySem.W.exmOne K (.ref Z.Empty) (.ref Z.Stopped) = some false
  e_Full_Empty : PySem.W.exmOne K (.ref Z.Full) (.ref Z.Empty) = some false
  e_Full_Full : PySem.W.exmOne K (.ref Z.Full) (.ref Z.Full) = some true
  e_Full_Gone : PySem.W.exmOne K (.ref Z.Full) (.ref Z.Gone) = some false
  e_Full_Stopped : PySem.W.exmOne K (.ref Z.Full) (.ref Z.Stopped) = some false
  e_Gone_Empty : PySem.W.exmOne K (.ref Z.Gone) (.ref Z.Empty) = some false
  e_Gone_Full : PySem.W.exmOne K (.ref Z.Gone) (.ref Z.Full) = some false
  e_Gone_Gone : PySem.W.exmOne K (.ref Z.Gone) (.ref Z.Gone) = some true
  e_Gone_Stopped : PySem.W.exmOne K (.ref Z.Gone) (.ref Z.Stopped) = some false
  e_NoBlock_Empty : PySem.W.exmOne K (.ref Z.NoBlock) (.ref Z.Empty) = some false
  e_NoBlock_Full : PySem.W.exmOne K (.ref Z.NoBlock) (.ref Z.Full) = some false
  e_NoBlock_Gone : PySem.W.exmOne K (.ref Z.NoBlock) (.ref Z.Gone) = some false
  e_NoBlock_Stopped : PySem.W.exmOne K (.ref Z.NoBlock) (.ref Z.Stopped) = some false
  e_Stopped_Empty : PySem.W.exmOne K (.ref Z.Stopped) (.ref Z.Empty) = some false
  e_Stopped_Full : PySem.W.exmOne K (.ref Z.Stopped) (.ref Z.Full) = some false
  e_Stopped_Gone : PySem.W.exmOne K (.ref Z.Stopped) (.ref Z.Gone) = some false
  e_Stopped_Stopped : PySem.W.exmOne K (.ref Z.Stopped) (.ref Z.Stopped) = some true
  c_PIECE_WORDS : ∃ t, mg "PIECE_WORDS" = some (.int 3 t)
  c_NUMBER : ∃ t, mg "NUMBER" = some (.int 0 t)
  c_FLOOR : ∃ t, mg "FLOOR" = some (.int 1 t)
  c_BEGIN : ∃ t, mg "BEGIN" = some (.int 2 t)
  c_LEFT : ∃ t, mg "LEFT" = some (.int 3 t)
  c_DATA_FROM : ∃ t, mg "DATA_FROM" = some (.int 4 t)
  c_DATA_TO : ∃ t, mg "DATA_TO" = some (.int 7 t)
  c_NO_BEGIN : ∃ t, mg "NO_BEGIN" = some (.int 0 t)
  c_LEFT_OF_MARK : ∃ t, mg "LEFT_OF_MARK" = some (.int 0 t)
  c_LEFT_OF_FAREWELL : ∃ t, mg "LEFT_OF_FAREWELL" = some (.int 1 t)
  c_MOST_WORDS : ∃ t, mg "MOST_WORDS" = some (.int 11 t)
  c_MOST_WORD_OF_ROW : ∃ t, mg "MOST_WORD_OF_ROW" = some (.int 999999999 t)
  c_LEAST_BLOCKS : ∃ t, mg "LEAST_BLOCKS" = some (.int 4 t)
  c_MOST_BLOCKS : ∃ t, mg "MOST_BLOCKS" = some (.int 64 t)
  c_BLOCK_WORDS : ∃ t, mg "BLOCK_WORDS" = some (.int 8 t)
  c_MOST_WORD : ∃ t, mg "MOST_WORD" = some (.int 1000000000000000 t)
  c_MOST_COUNT : ∃ t, mg "MOST_COUNT" = some (.int 1000000000000000 t)
  c_MOST_PART : ∃ t, mg "MOST_PART" = some (.int 7 t)
section
variable {P : Program} {w : World} {K : PySem.W.Frag} {mg : Str → Option Value} {base : Heap} {Z : Ad}
def madeL (number floor begin_ left : Int) (data : List Int) : List Int := number :: floor :: begin_ :: left :: (data ++ [number])
theorem madeL_len (n f b l : Int) (ds : List Int) : (madeL n f b l ds).length = ds.length + 5 := by
  unfold madeL
  simp

def sp_made (K : PySem.W.Frag) (_ : Ad) : Sp := fun vs H Q _ => ∃ (n f b l : Int) (a : Addr) (ds : List Int), vs = [.int n, .int f, .int b, .int l, .ref a] ∧ H a = some (.lst (ds.map V.int)) ∧ ds.length ≤ 1000 ∧
  NewO (.lst ((madeL n f b l ds).map V.int)) H Q
theorem sc_made : FnScope ["number", "floor", "begin", "left", "data"] ["number", "floor", "begin", "left", "data"] (defScope st_made) := ⟨rfl, rfl, rfl, by decide +kernel, rfl, by decide +kernel, by decide +kernel⟩
theorem s_made {W : List Addr} {H0 H : Hp} {M I : List (Addr × HO)} {a : Addr} {ds : List Int} {n f b l : Int} {Q : VK} {E : XK} (hs : Hs W H0 H M I) (h1 : H a = some (.lst (ds.map V.int))) (hz : ds.length ≤ 1000)
    (h : ∀ p H', Hs W H0 H' ((p, .lst ((madeL n f b l ds).map V.int)) :: M) I → Upto [] H H' → H p = none → Q (.ref p) H') : sp_made K Z [.int n, .int f, .int b, .int l, .ref a] H Q E :=
  ⟨n, f, b, l, a, ds, rfl, h1, hz, hs.newO h⟩
theorem take_snoc {α : Type} {xs : List α} {i : Nat} {x : α} (h : xs[i]? = some x) : xs.take (i + 1) = xs.take i ++ [x] := by
  rw [List.take_add_one, h]
  rfl
theorem snoc_of {α : Type} : ∀ {l : List α}, l ≠ [] → ∃ ini x, l = ini ++ [x] := fun {l} h => ⟨l.dropLast, l.getLast h, (List.dropLast_concat_getLast h).symm⟩
theorem len_le_sum {α : Type} : ∀ {l : List (List α)} {g : List α}, g ∈ l → g.length ≤ (l.map List.length).sum
  | y :: ys, g, h => by
    rw [List.map_cons, List.sum_cons]
    rcases List.mem_cons.mp h with h | h
    · subst h; omega
    · have := len_le_sum h; omega
theorem eightV {w : List Int} (h : w.length = 8) : w.map V.int = [V.int (w.getD 0 0), V.int (w.getD 1 0), V.int (w.getD 2 0), V.int (w.getD 3 0), V.int (w.getD 4 0), V.int (w.getD 5 0), V.int (w.getD 6 0), V.int (w.getD 7 0)] := by
  obtain ⟨a, b, c, d, e, f, g, i, rfl⟩ := eight h
  rfl
theorem at8 {w : List Int} (h : w.length = 8) {i : Nat} (hi : i < 8) : atI (w.map V.int) (i : Int) = some (V.int (w.getD i 0)) := by
  refine atI_nat ?_
  rw [List.getElem?_map, List.getD_eq_getElem?_getD, List.getElem?_eq_getElem (by omega)]
  rfl
def markB (num f : Int) : List Int := [num, f, 0, 0, 0, 0, 0, num]

def sp_made_mark (K : PySem.W.Frag) (_ : Ad) : Sp := fun vs H Q _ => ∃ (n f : Int), vs = [.int n, .int f] ∧ NewO (.lst ((markB n f).map V.int)) H Q
theorem sc_made_mark : FnScope ["number", "floor"] ["number", "floor"] (defScope st_made_mark) := ⟨rfl, rfl, rfl, by decide +kernel, rfl, by decide +kernel, by decide +kernel⟩
theorem s_made_mark {W : List Addr} {H0 H : Hp} {M I : List (Addr × HO)} {n f : Int} {Q : VK} {E : XK} (hs : Hs W H0 H M I)
    (h : ∀ p H', Hs W H0 H' ((p, .lst ((markB n f).map V.int)) :: M) I → Upto [] H H' → H p = none → Q (.ref p) H') : sp_made_mark K Z [.int n, .int f] H Q E := ⟨n, f, rfl, hs.newO h⟩
def sp_is_farewell (K : PySem.W.Frag) (_ : Ad) : Sp := fun vs H Q _ => ∃ (a : Addr) (w : List Int), vs = [.ref a] ∧ H a = some (.lst (w.map V.int)) ∧ w.length = 8 ∧ Q (.bl (decide (w.getD 2 0 = 0) && decide (w.getD 3 0 = 1))) H
theorem sc_is_farewell : FnScope ["words"] ["words"] (defScope st_is_farewell) := ⟨rfl, rfl, rfl, by decide +kernel, rfl, by decide +kernel, by decide +kernel⟩
def kindS (first last place many : Int) : Str := if first = 0 ∧ last = 0 then "empty" else if first = last ∧ many ≤ first ∧ first % many = place then "whole" else "torn"
def sp_kind (K : PySem.W.Frag) (_ : Ad) : Sp := fun vs H Q _ => ∃ (a : Addr) (w0 w1 w2 w3 w4 w5 w6 w7 p m : Int), vs = [.ref a, .int p, .int m] ∧ H a = some (.lst [.int w0, .int w1, .int w2, .int w3, .int w4, .int w5, .int w6, .int w7]) ∧ 0 < m ∧
  Q (.str (kindS w0 w7 p m)) H
theorem sc_kind : FnScope ["words", "place", "many", "first", "last"] ["words", "place", "many"] (defScope st_kind) := ⟨rfl, rfl, rfl, by decide +kernel, rfl, by decide +kernel, by decide +kernel⟩
theorem s_kind {H : Hp} {a : Addr} {w0 w1 w2 w3 w4 w5 w6 w7 p m : Int} {Q : VK} {E : XK} (h1 : H a = some (.lst [.int w0, .int w1, .int w2, .int w3, .int w4, .int w5, .int w6, .int w7])) (hm : 0 < m)
    (h : Q (.str (kindS w0 w7 p m)) H) : sp_kind K Z [.ref a, .int p, .int m] H Q E := ⟨a, w0, w1, w2, w3, w4, w5, w6, w7, p, m, rfl, h1, hm, h⟩
/-- a row's data, with k noughts behind; the words of three -/
def dL (ns : List Int) (k : Nat) : List Int := (ns.length : Int) :: (ns ++ List.replicate k 0)
def dat (ns : List Int) (j : Nat) : Int := ((ns.length : Int) :: ns).getD j 0
def pcs (ns : List Int) : List (List Int) := (List.range (ns.length / 3 + 1)).map fun i => [dat ns (3 * i), dat ns (3 * i + 1), dat ns (3 * i + 2)]
theorem dL_len (ns : List Int) (k : Nat) : (dL ns k).length = ns.length + 1 + k := by
  unfold dL
  simp
  omega
theorem pcs_len (ns : List Int) : (pcs ns).length = ns.length / 3 + 1 := by simp [pcs]
theorem dL_getD (ns : List Int) (k j : Nat) : (dL ns k).getD j 0 = dat ns j := by
  unfold dL dat
  cases j with
  | zero => rfl
  | succ j =>
    simp only [List.getD_cons_succ]
    rw [List.getD_eq_getElem?_getD, List.getD_eq_getElem?_getD]
    by_cases h : j < ns.length
    · rw [List.getElem?_append_left h]
    · rw [List.getElem?_append_right (by omega), List.getElem?_eq_none (l := ns) (by omega)]
      rw [List.getElem?_replicate]
      split <;> rfl
theorem take3 : ∀ {xs : List Int} {j : Nat}, j + 3 ≤ xs.length → (xs.drop j).take 3 = [xs.getD j 0, xs.getD (j + 1) 0, xs.getD (j + 2) 0]
  | a :: b :: c :: r, 0, _ => by simp
  | x :: xs, j + 1, h => by
    have q := take3 (xs := xs) (j := j) (by simpa using h)
    simpa using q
  | [], _, h => by simp at h
  | [_], 0, h => by simp at h
  | [_, _], 0, h => by simp at h
theorem cut3 {ns : List Int} {k i : Nat} (h : 3 * i + 3 ≤ (dL ns k).length) {a b : Int} (ha : a = (3 * i : Nat)) (hb : b = (3 * i + 3 : Nat)) : cutI (dL ns k) (some a) (some b) = [dat ns (3 * i), dat ns (3 * i + 1), dat ns (3 * i + 2)] := by
  subst ha hb
  unfold cutI
  rw [sIx_in (by omega) (by omega), sIx_in (by omega) (by omega)]
  have e : ((3 * i + 3 : Nat) : Int).toNat - ((3 * i : Nat) : Int).toNat = 3 := by omega
  have e2 : ((3 * i : Nat) : Int).toNat = 3 * i := by omega
  rw [e, e2, take3 (by omega), dL_getD, dL_getD, dL_getD]
theorem pcs_get {ns : List Int} {i : Nat} (h : i < ns.length / 3 + 1) : (pcs ns)[i]? = some [dat ns (3 * i), dat ns (3 * i + 1), dat ns (3 * i + 2)] := by
  unfold pcs
  rw [List.getElem?_map, List.getElem?_range h]
  rfl
theorem dL_snoc (ns : List Int) (k : Nat) : (dL ns k).map V.int ++ [V.int 0] = (dL ns (k + 1)).map V.int := by
  simp [dL, List.replicate_succ']
def sp_pieces (K : PySem.W.Frag) (_ : Ad) : Sp := fun vs H Q _ => ∃ (a : Addr) (ns : List Int), vs = [.ref a] ∧ H a = some (.lst (ns.map V.int)) ∧ ns.length ≤ 1000 ∧
  ∀ (p : Addr) (qs : List Addr) (H' : Hp), qs.length = (pcs ns).length → Hs [] H H' ((p, .lst (qs.map V.ref)) :: rowsL qs (pcs ns)) [] → Q (.ref p) H'
theorem sc_pieces : FnScope ["row", "data", "at"] ["row"] (defScope st_pieces) := ⟨rfl, rfl, rfl, by decide +kernel, rfl, by decide +kernel, by decide +kernel⟩
theorem s_pieces {W : List Addr} {H0 H : Hp} {M I : List (Addr × HO)} {a : Addr} {ns : List Int} {Q : VK} {E : XK} (hs : Hs W H0 H M I) (h1 : H a = some (.lst (ns.map V.int))) (hz : ns.length ≤ 1000)
    (h : ∀ (p : Addr) (qs : List Addr) (H' : Hp), qs.length = (pcs ns).length → Hs W H0 H' ((p, .lst (qs.map V.ref)) :: (rowsL qs (pcs ns) ++ M)) I → Upto [] H H' → Q (.ref p) H') : sp_pieces K Z [.ref a] H Q E :=
  ⟨a, ns, rfl, h1, hz, fun p qs H' hl hc => h p qs H' hl (hc.frame0 hs) hc.up⟩
/-- the data of blocks, one after the other -/
def mids (ws : List (List Int)) : List Int := (ws.map fun w => (w.drop 4).take 3).flatten
theorem cut47 {w : List Int} (h : w.length = 8) : cutI w (some 4) (some 7) = (w.drop 4).take 3 := by
  unfold cutI
  rw [sIx_in (by omega) (by omega), sIx_in (by omega) (by omega)]
  rfl
theorem mids_len : ∀ {ws : List (List Int)}, (∀ w ∈ ws, w.length = 8) → (mids ws).length = 3 * ws.length
  | [], _ => rfl
  | w :: ws, h => by
    have q := mids_len (ws := ws) fun x hx => h x (List.mem_cons_of_mem _ hx)
    have hw := h w List.mem_cons_self
    unfold mids at q ⊢
    rw [List.map_cons, List.flatten_cons, List.length_append, q, List.length_take, List.length_drop, hw, List.length_cons]
    omega
theorem mids_snoc (ws : List (List Int)) (w : List Int) : mids (ws ++ [w]) = mids ws ++ (w.drop 4).take 3 := by simp [mids]
def sp_words_of (K : PySem.W.Frag) (_ : Ad) : Sp := fun vs H Q _ => ∃ (a : Addr) (bs : List Addr) (ws : List (List Int)), vs = [.ref a] ∧ Holds H ((a, .lst (bs.map V.ref)) :: rowsL bs ws) ∧ bs.length = ws.length ∧ (∀ w ∈ ws, w.length = 8) ∧ ws ≠ [] ∧ ws.length ≤ 1000 ∧
  NewO (.lst ((cutI (mids ws) (some 1) (some (1 + (mids ws).getD 0 0))).map V.int)) H Q
theorem sc_words_of : FnScope ["some", "data", "words", "many"] ["some"] (defScope st_words_of) := ⟨rfl, rfl, rfl, by decide +kernel, rfl, by decide +kernel, by decide +kernel⟩
theorem s_words_of {W : List Addr} {H0 H : Hp} {M I : List (Addr × HO)} {a : Addr} {bs : List Addr} {ws : List (List Int)} {Q : VK} {E : XK} (hs : Hs W H0 H M I) (hm : ((a, HO.lst (bs.map V.ref)) :: rowsL bs ws).Sublist M) (hl : bs.length = ws.length) (h8 : ∀ w ∈ ws, w.length = 8) (h0 : ws ≠ []) (hz : ws.length ≤ 1000)
    (h : ∀ p H', Hs W H0 H' ((p, .lst ((cutI (mids ws) (some 1) (some (1 + (mids ws).getD 0 0))).map V.int)) :: M) I → Upto [] H H' → H p = none → Q (.ref p) H') : sp_words_of K Z [.ref a] H Q E :=
  ⟨a, bs, ws, rfl, hs.part hm, hl, h8, h0, hz, hs.newO h⟩
structure DS where
  dx : Addr
  bl : Addr
  bs : List Addr
  ws : List (List Int)
  r : Int
  w : Int
  lt : Option Int
  p : Int
def ltV : Option Int → V
  | none => .non
  | some i => .int i
def dF (s : DS) : List (Str × V) := [("_blocks", .ref s.bl), ("_reads", .int s.r), ("_writes", .int s.w), ("_let", ltV s.lt), ("_part", .int s.p)]
def diskL (Z : Ad) (d : Addr) (s : DS) : List (Addr × HO) := (d, .ins Z.Disk s.dx (dF s)) :: (s.dx, .own d) :: (s.bl, .lst (s.bs.map V.ref)) :: rowsL s.bs s.ws
structure DS.Ok (s : DS) : Prop where
  len : s.bs.length = s.ws.length
  lo : 4 ≤ s.ws.length
  hi : s.ws.length ≤ 64
  each : ∀ w ∈ s.ws, w.length = 8
/-- the words behind a stopped write -/
def mixW (p : Int) (new old : List Int) : List Int := new.take p.toNat ++ old.drop p.toNat
theorem mixW_len {p : Int} {new old : List Int} (h : new.length = 8) (h' : old.length = 8) (hp : 0 ≤ p) (hp' : p ≤ 7) : (mixW p new old).length = 8 := by
  unfold mixW
  rw [List.length_append, List.length_take, List.length_drop]
  omega
theorem mixV {p : Int} {new old : List Int} (h : new.length = 8) (h' : old.length = 8) (hp : 0 ≤ p) (hp' : p ≤ 7) : cutV (new.map V.int) none (some p) ++ cutV (old.map V.int) (some p) none = (mixW p new old).map V.int := by
  rw [cutV_ints, cutV_ints, cutI_upto hp (by omega), cutI_from hp (by omega), ← List.map_append]
  rfl
def sp_Disk_blocks (K : PySem.W.Frag) (Z : Ad) : Sp := fun vs H Q _ => ∃ (d : Addr) (s : DS), vs = [.ref d] ∧ Holds H (diskL Z d s) ∧ s.Ok ∧ Q (.int s.ws.length) H
theorem sc_Disk_blocks : FnScope ["self"] ["self"] (defScope st_Disk_blocks) := ⟨rfl, rfl, rfl, by decide +kernel, rfl, by decide +kernel, by decide +kernel⟩
/-- a value that is no object -/
def FlatV : V → Prop
  | .int _ => True
  | .bl _ => True
  | .str x => (PyData.str x).canLay0 = true
  | .non => True
  | _ => False
def wholeB (v : V) (lo hi : Int) : Bool := match v with
  | .int i => decide (lo ≤ i) && decide (i ≤ hi)
  | _ => false
theorem wholeB_int {v : V} {lo hi : Int} (h : wholeB v lo hi = true) : ∃ i, v = .int i ∧ lo ≤ i ∧ i ≤ hi := by
  cases v with
  | int i =>
    simp only [wholeB, Bool.and_eq_true, decide_eq_true_eq] at h
    exact ⟨i, rfl, h.1, h.2⟩
  | _ => simp [wholeB] at h
def sp_is_whole (K : PySem.W.Frag) (_ : Ad) : Sp := fun vs H Q _ => ∃ (v : V) (lo hi : Int), vs = [v, .int lo, .int hi] ∧ FlatV v ∧ Q (.bl (wholeB v lo hi)) H
theorem sc_is_whole : FnScope ["value", "low", "high"] ["value", "low", "high"] (defScope st_is_whole) := ⟨rfl, rfl, rfl, by decide +kernel, rfl, by decide +kernel, by decide +kernel⟩
theorem s_is_whole {H : Hp} {v : V} {lo hi : Int} {Q : VK} {E : XK} (hv : FlatV v) (h : Q (.bl (wholeB v lo hi)) H) : sp_is_whole K Z [v, .int lo, .int hi] H Q E := ⟨v, lo, hi, rfl, hv, h⟩
def sp_Disk__need_place (K : PySem.W.Frag) (Z : Ad) : Sp := fun vs H Q E => ∃ (d : Addr) (s : DS) (v : V), vs = [.ref d, v] ∧ Holds H (diskL Z d s) ∧ s.Ok ∧ FlatV v ∧ (wholeB v 0 (s.ws.length - 1) = false → E (.ref Z.NoBlock) none H) ∧ (wholeB v 0 (s.ws.length - 1) = true → Q .non H)
theorem sc_Disk__need_place : FnScope ["self", "place"] ["self", "place"] (defScope st_Disk__need_place) := ⟨rfl, rfl, rfl, by decide +kernel, rfl, by decide +kernel, by decide +kernel⟩
def sp_Disk_read (K : PySem.W.Frag) (Z : Ad) : Sp := fun vs H Q E => ∃ (d : Addr) (s : DS) (v : V), vs = [.ref d, v] ∧ Holds H (diskL Z d s) ∧ s.Ok ∧ FlatV v ∧ (wholeB v 0 (s.ws.length - 1) = false → E (.ref Z.NoBlock) none H) ∧
  (∀ i : Nat, v = .int i → i < s.ws.length → ∀ (q : Addr) (H' : Hp), Frm (diskL Z d s) ((q, .lst ((s.ws.getD i []).map V.int)) :: diskL Z d { s with r := s.r + 1 }) H H' → Q (.ref q) H')
theorem sc_Disk_read : FnScope ["self", "place"] ["self", "place"] (defScope st_Disk_read) := ⟨rfl, rfl, rfl, by decide +kernel, rfl, by decide +kernel, by decide +kernel⟩
/-! ### where the blocks lie, and the newest one -/
def fstW (w : List Int) : Int := w.getD 0 0
def lstW (w : List Int) : Int := w.getD 7 0
structure Laid (n : Nat) (ws : List (List Int)) (num : Int) (torn : Option Int) : Prop where
  ge : (n : Int) - 1 ≤ num
  at_ : ∀ (i : Nat) (k : Int), i < n → num - n < k → k ≤ num → k % n = i → (torn = none ∨ k ≠ num + 1 - n) → fstW (ws.getD i []) = (if (n : Int) ≤ k then k else 0) ∧ lstW (ws.getD i []) = (if (n : Int) ≤ k then k else 0)
  tn : ∀ t, torn = some t → t = (num + 1) % n ∧ fstW (ws.getD t.toNat []) = num + 1 ∧ lstW (ws.getD t.toNat []) ≠ num + 1
theorem emod_cases (a : Int) {n : Nat} (hn : 0 < n) : ∃ q r : Int, a = n * q + r ∧ 0 ≤ r ∧ r < n ∧ a % n = r :=
  ⟨a / n, a % n, (Int.mul_ediv_add_emod a n).symm, Int.emod_nonneg _ (by omega), Int.emod_lt_of_pos _ (by omega), rfl⟩
theorem emod_of {a q r : Int} {n : Nat} (h : a = n * q + r) (h0 : 0 ≤ r) (h1 : r < n) : a % n = r := by
  rw [h, Int.add_comm, Int.add_mul_emod_self_left]
  exact Int.emod_eq_of_lt h0 h1
theorem emod_less (a : Int) (n : Nat) : (a - n) % n = a % n := by
  rw [show a - n = a + n * (-1) by omega, Int.add_mul_emod_self_left]
/-- the number that belongs in a place -/
theorem num_at {num : Int} {n i : Nat} (hi : i < n) : ∃ k : Int, num - n < k ∧ k ≤ num ∧ k % n = i := by
  obtain ⟨q, r, e, h0, h1, _⟩ := emod_cases (num - i) (n := n) (by omega)
  refine ⟨num - r, by omega, by omega, ?_⟩
  exact emod_of (q := q) (r := i) (by omega) (by omega) (by omega)
theorem kindS_whole {k m p : Int} (h : m ≤ k) (hm : 0 < m) (hp : k % m = p) : kindS k k p m = "whole" := by
  unfold kindS
  rw [if_neg (by omega), if_pos ⟨rfl, h, hp⟩]
theorem kindS_torn {a b m p : Int} (h : a ≠ b) : kindS a b p m = "torn" := by
  unfold kindS
  rw [if_neg (by omega), if_neg (fun z => h z.1)]
theorem kindS_empty {m p : Int} : kindS 0 0 p m = "empty" := if_pos ⟨rfl, rfl⟩
section
variable {n : Nat} {ws : List (List Int)} {num : Int} {torn : Option Int} (L : Laid n ws num torn) (hn : 0 < n)
include L hn
/-- what stands in place i, by the number that belongs there -/
theorem Laid.look {i : Nat} (hi : i < n) {k : Int} (h1 : num - n < k) (h2 : k ≤ num) (h3 : k % n = i) :
    (torn = some (i : Int) ∧ k = num + 1 - n ∧ kindS (fstW (ws.getD i [])) (lstW (ws.getD i [])) i n = "torn") ∨
    (torn ≠ some (i : Int) ∧ n ≤ k ∧ fstW (ws.getD i []) = k ∧ lstW (ws.getD i []) = k ∧ kindS (fstW (ws.getD i [])) (lstW (ws.getD i [])) i n = "whole") ∨
    (torn ≠ some (i : Int) ∧ k < n ∧ fstW (ws.getD i []) = 0 ∧ lstW (ws.getD i []) = 0 ∧ kindS (fstW (ws.getD i [])) (lstW (ws.getD i [])) i n = "empty") := by
  by_cases ht : torn = some (i : Int)
  · left
    obtain ⟨e1, e2, e22⟩ := L.tn _ ht
    rw [Int.toNat_natCast] at e2 e22
    refine ⟨ht, ?_, kindS_torn (by rw [e2]; exact e22.symm)⟩
    obtain ⟨q, r, e, h0, h1', e3⟩ := emod_cases k hn
    obtain ⟨q2, r2, e', h0', h1'', e3'⟩ := emod_cases (num + 1) hn
    have hr : r = r2 := by omega
    subst hr
    have hq : (n : Int) * (q2 - q) = num + 1 - k := by rw [Int.mul_sub]; omega
    have hq1 : 0 < q2 - q := by
      refine Decidable.byContradiction fun z => ?_
      have := Int.mul_le_mul_of_nonneg_left (show q2 - q ≤ 0 by omega) (show (0 : Int) ≤ n by omega)
      omega
    have hq2 : q2 - q < 2 := by
      refine Decidable.byContradiction fun z => ?_
      have := Int.mul_le_mul_of_nonneg_left (show 2 ≤ q2 - q by omega) (show (0 : Int) ≤ n by omega)
      omega
    have hq3 : q2 - q = 1 := by omega
    rw [hq3] at hq
    omega
  · right
    have hc : torn = none ∨ k ≠ num + 1 - n := by
      cases q : torn with
      | none => exact .inl rfl
      | some t =>
        right
        intro e
        apply ht
        obtain ⟨e1, _⟩ := L.tn _ q
        rw [q, e1]
        congr 1
        rw [← h3, e, emod_less]
    have := L.at_ i k hi h1 h2 h3 hc
    by_cases hk : (n : Int) ≤ k
    · left
      rw [if_pos hk] at this
      refine ⟨ht, hk, this.1, this.2, ?_⟩
      rw [this.1, this.2]
      exact kindS_whole hk (by omega) h3
    · right
      rw [if_neg hk] at this
      refine ⟨ht, by omega, this.1, this.2, ?_⟩
      rw [this.1, this.2]
      exact kindS_empty
end
/-- what a look in the midst tells, where the round's first block is numbered start -/
theorem Laid.mid {n : Nat} {ws : List (List Int)} {num : Int} {torn : Option Int} (L : Laid n ws num torn) {start : Int} {i : Nat} (hs : start % n = 0) (h0 : (n : Int) ≤ start) (h1 : num - n < start) (h2 : start ≤ num) (hi : i < n) (hi0 : 0 < i) :
    (start + i ≤ num → kindS (fstW (ws.getD i [])) (lstW (ws.getD i [])) i n = "whole" ∧ fstW (ws.getD i []) = start + i) ∧
    (num < start + i → ¬ (kindS (fstW (ws.getD i [])) (lstW (ws.getD i [])) i n = "whole" ∧ fstW (ws.getD i []) = start + i) ∧
      ((start + i = num + 1 → torn = none → kindS (fstW (ws.getD i [])) (lstW (ws.getD i [])) i n ≠ "torn") ∧ (start + i = num + 1 → torn ≠ none → torn = some (i : Int) ∧ kindS (fstW (ws.getD i [])) (lstW (ws.getD i [])) i n = "torn") ∧
       (start + i ≠ num + 1 → kindS (fstW (ws.getD i [])) (lstW (ws.getD i [])) i n ≠ "torn"))) := by
  have hn : 0 < n := by omega
  obtain ⟨q, r, e, r0, r1, e3⟩ := emod_cases start hn
  have hr : r = 0 := by omega
  subst hr
  refine ⟨fun c => ?_, fun c => ?_⟩
  · have hk : (start + i) % n = (i : Int) := emod_of (q := q) (r := i) (by omega) (by omega) (by omega)
    rcases L.look hn hi (k := start + i) (by omega) c hk with ⟨_, z, _⟩ | ⟨_, _, z, _, z2⟩ | ⟨_, z, _⟩
    · omega
    · exact ⟨z2, z⟩
    · omega
  · have hk : (start + i - n) % n = (i : Int) := by
      rw [emod_less]
      exact emod_of (q := q) (r := i) (by omega) (by omega) (by omega)
    have hk2 : (start + i) % n = (i : Int) := by rw [← emod_less]; exact hk
    rcases L.look hn hi (k := start + i - n) (by omega) (by omega) hk with ⟨z1, z2, z3⟩ | ⟨z1, z2, z3, _, z4⟩ | ⟨z1, z2, z3, _, z4⟩
    · rw [z3]
      refine ⟨fun w => absurd w.1 (by decide), fun _ w => ?_, fun _ _ => ⟨z1, rfl⟩, fun w => ?_⟩
      · rw [z1] at w; cases w
      · omega
    · rw [z4, z3]
      refine ⟨fun w => by omega, fun _ _ => by decide, fun w1 w2 => ?_, fun _ => by decide⟩
      exfalso
      cases t : torn with
      | none => exact w2 t
      | some t' =>
        apply z1
        rw [t, (L.tn _ t).1, ← w1, hk2]
    · rw [z4, z3]
      refine ⟨fun w => absurd w.1 (by decide), fun _ _ => by decide, fun w1 w2 => ?_, fun _ => by decide⟩
      exfalso
      cases t : torn with
      | none => exact w2 t
      | some t' =>
        apply z1
        rw [t, (L.tn _ t).1, ← w1, hk2]
/-- a look in place 0 -/
theorem Laid.zero {n : Nat} {ws : List (List Int)} {num : Int} {torn : Option Int} (L : Laid n ws num torn) (hn : 0 < n) :
    (kindS (fstW (ws.getD 0 [])) (lstW (ws.getD 0 [])) (0 : Nat) n = "empty" ∧ num = n - 1 ∧ torn = none) ∨
    (kindS (fstW (ws.getD 0 [])) (lstW (ws.getD 0 [])) (0 : Nat) n = "torn" ∧ torn = some 0 ∧ num % n = n - 1) ∨
    (kindS (fstW (ws.getD 0 [])) (lstW (ws.getD 0 [])) (0 : Nat) n = "whole" ∧ ∃ start, fstW (ws.getD 0 []) = start ∧ start % n = 0 ∧ (n : Int) ≤ start ∧ num - n < start ∧ start ≤ num ∧ (start + n = num + 1 → torn = none)) := by
  obtain ⟨k, h1, h2, h3⟩ := num_at (num := num) (n := n) (i := 0) hn
  obtain ⟨q, r, e, r0, r1, e3⟩ := emod_cases k hn
  have hr : r = 0 := by omega
  subst hr
  have last : k + n = num + 1 → num % n = n - 1 := fun z => emod_of (q := q) (r := n - 1) (by omega) (by omega) (by omega)
  have next : k + n = num + 1 → (num + 1) % n = 0 := fun z => emod_of (q := q + 1) (r := 0) (by rw [Int.mul_add]; omega) (by omega) (by omega)
  rcases L.look hn hn h1 h2 h3 with ⟨z1, z2, z3⟩ | ⟨z1, z2, z3, _, z4⟩ | ⟨z1, z2, z3, _, z4⟩
  · exact .inr (.inl ⟨z3, z1, last (by omega)⟩)
  · refine .inr (.inr ⟨z4, k, z3, h3, z2, h1, h2, fun z => ?_⟩)
    cases t : torn with
    | none => rfl
    | some t' =>
      exfalso
      apply z1
      rw [t, (L.tn _ t).1, next z]
      rfl
  · have hq : k = 0 := by
      have : 0 ≤ k := by have := L.ge; omega
      have h4 : (n : Int) * q < n * 1 := by omega
      have h5 : q < 1 := Int.lt_of_mul_lt_mul_left h4 (by omega)
      have h6 : (n : Int) * q ≤ n * 0 := Int.mul_le_mul_of_nonneg_left (by omega) (by omega)
      omega
    have hnum : num = n - 1 := by have := L.ge; omega
    refine .inl ⟨z4, hnum, ?_⟩
    cases t : torn with
    | none => rfl
    | some t' =>
      exfalso
      apply z1
      rw [t, (L.tn _ t).1, next (by omega)]
      rfl
/-- a look in the last place, where place 0 is torn -/
theorem Laid.last {n : Nat} {ws : List (List Int)} {num : Int} (L : Laid n ws num (some 0)) (hn : 1 < n) (h : num % n = n - 1) :
    (kindS (fstW (ws.getD (n - 1) [])) (lstW (ws.getD (n - 1) [])) (n - 1 : Nat) n = "whole" ∧ fstW (ws.getD (n - 1) []) = num) ∨
    (kindS (fstW (ws.getD (n - 1) [])) (lstW (ws.getD (n - 1) [])) (n - 1 : Nat) n = "empty" ∧ num = n - 1) := by
  rcases L.look (i := n - 1) (by omega) (by omega) (k := num) (by omega) (by omega) (by rw [h]; omega) with ⟨z1, z2, z3⟩ | ⟨z1, z2, z3, _, z4⟩ | ⟨z1, z2, z3, _, z4⟩
  · simp only [Option.some.injEq] at z1
    omega
  · exact .inl ⟨z4, z3⟩
  · refine .inr ⟨z4, ?_⟩
    have := L.ge
    omega

def sp_number_in_last_place (K : PySem.W.Frag) (Z : Ad) : Sp := fun vs H Q _ => ∃ (d : Addr) (s : DS) (num : Int), vs = [.ref d] ∧ Holds H (diskL Z d s) ∧ s.Ok ∧ Laid s.ws.length s.ws num (some 0) ∧ num % s.ws.length = s.ws.length - 1 ∧
  ∀ H', Frm (diskL Z d s) (diskL Z d { s with r := s.r + 1 }) H H' → Q (.int num) H'
theorem sc_number_in_last_place : FnScope ["disk", "many", "words"] ["disk"] (defScope st_number_in_last_place) := ⟨rfl, rfl, rfl, by decide +kernel, rfl, by decide +kernel, by decide +kernel⟩
/-- the count of an int's bits -/
def bitsI (m : Int) : Nat := PySem.Builtin.Int.intBits m
theorem bitsI_zero : bitsI 0 = 0 := rfl
theorem bitsI_pos {m : Int} (h : 0 < m) : bitsI m = m.toNat.log2 + 1 := by
  unfold bitsI PySem.Builtin.Int.intBits
  have e : (m == 0) = false := by simpa using (show m ≠ 0 by omega)
  rw [e]
  have : m.natAbs = m.toNat := by omega
  rw [this]
  rfl
theorem bitsI_half {m : Int} (h : 0 < m) : bitsI (m / 2) + 1 = bitsI m := by
  rw [bitsI_pos h]
  by_cases h1 : m = 1
  · subst h1
    rfl
  · have h2 : 0 < m / 2 := by omega
    rw [bitsI_pos h2]
    have e : (m / 2).toNat = m.toNat / 2 := by omega
    rw [e]
    conv => rhs; rw [Nat.log2_def]
    rw [if_pos (by omega)]
theorem bitsI_lt {m : Int} (h : 0 ≤ m) : m < 2 ^ bitsI m := by
  rcases Int.lt_or_eq_of_le h with h | h
  · rw [bitsI_pos h]
    have q := Nat.lt_log2_self (n := m.toNat)
    have : m = (m.toNat : Int) := by omega
    rw [this]
    simp only [Int.toNat_natCast]
    exact_mod_cast q
  · rw [← h]
    decide
theorem bitsI_le {m : Int} (h : 0 < m) : 2 ^ (bitsI m - 1) ≤ m := by
  rw [bitsI_pos h, Nat.add_sub_cancel]
  have q := Nat.log2_self_le (n := m.toNat) (by omega)
  have : m = (m.toNat : Int) := by omega
  rw [this]
  simp only [Int.toNat_natCast]
  exact_mod_cast q
theorem bitsI_most {m : Int} {n : Nat} (h0 : 0 ≤ m) (h : m < 2 ^ n) : bitsI m ≤ n := by
  rcases Int.lt_or_eq_of_le h0 with h0 | h0
  · have q := bitsI_le h0
    have z : 0 < bitsI m := by rw [bitsI_pos h0]; omega
    rcases Nat.lt_or_ge n (bitsI m) with hh | hh
    · have : (2 : Int) ^ n ≤ 2 ^ (bitsI m - 1) := by
        have := Nat.pow_le_pow_right (n := 2) (by decide) (show n ≤ bitsI m - 1 by omega)
        exact_mod_cast this
      omega
    · exact hh
  · rw [← h0]
    exact Nat.zero_le _
def sp_newest_of_round (K : PySem.W.Frag) (Z : Ad) : Sp := fun vs H Q _ => ∃ (d : Addr) (s : DS) (start num : Int) (torn : Option Int), vs = [.ref d, .int start] ∧ Holds H (diskL Z d s) ∧ s.Ok ∧ Laid s.ws.length s.ws num torn ∧
  start % s.ws.length = 0 ∧ (s.ws.length : Int) ≤ start ∧ num - s.ws.length < start ∧ start ≤ num ∧ (start + s.ws.length = num + 1 → torn = none) ∧
  ∀ (t : Addr) (r' : Int) (H' : Hp), s.r ≤ r' → r' ≤ s.r + (bitsI ((s.ws.length : Int) - 1) : Nat) → Frm (diskL Z d s) ((t, .tup [.int num, ltV torn]) :: diskL Z d { s with r := r' }) H H' → Q (.ref t) H'
theorem bitsI_mono {a b : Int} (h0 : 0 ≤ a) (h : a ≤ b) : bitsI a ≤ bitsI b := bitsI_most h0 (Int.lt_of_le_of_lt h (bitsI_lt (by omega)))
/-- a half is less by a bit -/
theorem bitsI_step {l h m : Int} (h1 : 1 < h - l) (hm : m = (l + h) / 2) : bitsI (h - m - 1) + 1 ≤ bitsI (h - l - 1) ∧ bitsI (m - l - 1) + 1 ≤ bitsI (h - l - 1) := by
  have e := bitsI_half (m := h - l - 1) (by omega)
  have a := bitsI_mono (a := h - m - 1) (b := (h - l - 1) / 2) (by omega) (by omega)
  have b := bitsI_mono (a := m - l - 1) (b := (h - l - 1) / 2) (by omega) (by omega)
  omega
theorem sc_newest_of_round : FnScope ["disk", "start", "many", "low", "high", "torn", "middle", "words", "what"] ["disk", "start"] (defScope st_newest_of_round) := ⟨rfl, rfl, rfl, by decide +kernel, rfl, by decide +kernel, by decide +kernel⟩
def sp_newest (K : PySem.W.Frag) (Z : Ad) : Sp := fun vs H Q _ => ∃ (d : Addr) (s : DS) (num : Int) (torn : Option Int), vs = [.ref d] ∧ Holds H (diskL Z d s) ∧ s.Ok ∧ Laid s.ws.length s.ws num torn ∧
  ∀ (t : Addr) (r' : Int) (H' : Hp), s.r ≤ r' → r' ≤ s.r + 2 + (bitsI ((s.ws.length : Int) - 1) : Nat) → Frm (diskL Z d s) ((t, .tup [.int num, ltV torn]) :: diskL Z d { s with r := r' }) H H' → Q (.ref t) H'
theorem sc_newest : FnScope ["disk", "many", "words", "first_kind"] ["disk"] (defScope st_newest) := ⟨rfl, rfl, rfl, by decide +kernel, rfl, by decide +kernel, by decide +kernel⟩
/-! ### the rows among blocks -/
section
variable {α β : Type} (f : α → List Int)
/-- the blocks of each row; none where a later block has no first -/
def grp : List (List α) → List α → Option (List (List α))
  | acc, [] => some acc
  | acc, w :: r => if (f w).getD 2 0 = 0 then grp acc r else if (f w).getD 2 0 = (f w).getD 0 0 then grp (acc ++ [[w]]) r else
    match acc.reverse with
    | [] => none
    | g :: gs => grp (gs.reverse ++ [g ++ [w]]) r
theorem grp_map (g : β → α) : ∀ (r : List β) (acc : List (List β)), grp f (acc.map (List.map g)) (r.map g) = (grp (fun x => f (g x)) acc r).map (List.map (List.map g))
  | [], acc => rfl
  | w :: r, acc => by
    rw [List.map_cons, grp, grp]
    split
    · exact grp_map g r acc
    · split
      · have := grp_map g r (acc ++ [[w]])
        rw [List.map_append] at this
        exact this
      · rw [← List.map_reverse]
        cases e : acc.reverse with
        | nil => rfl
        | cons x xs =>
          have := grp_map g r (xs.reverse ++ [x ++ [w]])
          simp only [List.map_append, List.map_reverse, List.map_cons, List.map_nil] at this
          simp only [List.map_cons]
          exact this
/-- a step at the end -/
def gStep (acc : List (List α)) (w : α) : Option (List (List α)) := if (f w).getD 2 0 = 0 then some acc else if (f w).getD 2 0 = (f w).getD 0 0 then some (acc ++ [[w]]) else
    match acc.reverse with
    | [] => none
    | g :: gs => some (gs.reverse ++ [g ++ [w]])
theorem grp_cons (acc : List (List α)) (w : α) (r : List α) : grp f acc (w :: r) = (gStep f acc w).bind fun a => grp f a r := by
  rw [grp, gStep]
  split
  · rfl
  · split
    · rfl
    · cases acc.reverse <;> rfl
theorem grp_append : ∀ (r s : List α) (acc : List (List α)), grp f acc (r ++ s) = (grp f acc r).bind fun a => grp f a s
  | [], s, acc => rfl
  | w :: r, s, acc => by
    rw [List.cons_append, grp_cons, grp_cons, Option.bind_assoc]
    congr 1
    funext a
    exact grp_append r s a
theorem grp_snoc (r : List α) (w : α) (acc : List (List α)) : grp f acc (r ++ [w]) = (grp f acc r).bind fun a => gStep f a w := by
  rw [grp_append]
  refine congrArg _ (funext fun a => ?_)
  rw [grp_cons]
  cases gStep f a w <;> rfl
/-- what stands ahead stays -/
theorem gStep_app {acc a : List (List α)} {w : α} (pre : List (List α)) (h : gStep f acc w = some a) : gStep f (pre ++ acc) w = some (pre ++ a) := by
  rw [gStep] at h ⊢
  split at h
  · rename_i c
    rw [if_pos c, Option.some.inj h]
  · rename_i c
    rw [if_neg c]
    split at h
    · rename_i c2
      rw [if_pos c2, ← Option.some.inj h, List.append_assoc]
    · rename_i c2
      rw [if_neg c2, List.reverse_append]
      cases e : acc.reverse with
      | nil => rw [e] at h; cases h
      | cons g gs =>
        rw [e] at h
        rw [← Option.some.inj h]
        simp
theorem grp_app : ∀ {r : List α} {acc a : List (List α)} (pre : List (List α)), grp f acc r = some a → grp f (pre ++ acc) r = some (pre ++ a)
  | [], acc, a, pre, h => by rw [grp] at h ⊢; rw [Option.some.inj h]
  | w :: r, acc, a, pre, h => by
    rw [grp_cons] at h ⊢
    cases e : gStep f acc w with
    | none => rw [e] at h; cases h
    | some x =>
      rw [e] at h
      rw [gStep_app f pre e]
      exact grp_app pre h
theorem gStep_mem {acc a : List (List α)} {w : α} (P : List α → Prop) (h : gStep f acc w = some a) (h0 : ∀ g ∈ acc, P g) (h1 : (f w).getD 2 0 = (f w).getD 0 0 → P [w]) (h2 : ∀ g, P g → P (g ++ [w])) : ∀ g ∈ a, P g := by
  rw [gStep] at h
  split at h
  · rw [← Option.some.inj h]; exact h0
  · split at h
    · rename_i c
      rw [← Option.some.inj h]
      intro g hg
      rcases List.mem_append.mp hg with hg | hg
      · exact h0 g hg
      · obtain rfl : g = [w] := by simpa using hg
        exact h1 c
    · cases e : acc.reverse with
      | nil => rw [e] at h; cases h
      | cons g gs =>
        rw [e] at h
        have hm : ∀ x, x ∈ acc ↔ x ∈ g :: gs := fun x => by rw [← e, List.mem_reverse]
        rw [← Option.some.inj h]
        intro x hx
        rcases List.mem_append.mp hx with hx | hx
        · exact h0 x ((hm x).mpr (List.mem_cons_of_mem _ (by simpa using hx)))
        · obtain rfl : x = g ++ [w] := by simpa using hx
          exact h2 g (h0 g ((hm g).mpr List.mem_cons_self))
theorem grp_mem (P : List α → Prop) : ∀ {r : List α} {acc a : List (List α)}, grp f acc r = some a → (∀ g ∈ acc, P g) → (∀ w ∈ r, (f w).getD 2 0 = (f w).getD 0 0 → P [w]) → (∀ w ∈ r, ∀ g, P g → P (g ++ [w])) → ∀ g ∈ a, P g
  | [], acc, a, h, h0, _, _ => by rw [grp] at h; rw [← Option.some.inj h]; exact h0
  | w :: r, acc, a, h, h0, h1, h2 => by
    rw [grp_cons] at h
    cases e : gStep f acc w with
    | none => rw [e] at h; cases h
    | some x =>
      rw [e] at h
      exact grp_mem P h (gStep_mem f P e h0 (h1 w List.mem_cons_self) (h2 w List.mem_cons_self)) (fun y hy => h1 y (List.mem_cons_of_mem _ hy)) (fun y hy => h2 y (List.mem_cons_of_mem _ hy))
end
/-- whether a row's last block is there; its begin; its words -/
def hasLast (g : List (List Int)) : Bool := decide ((g.getLastD []).getD 3 0 = 0)
def begOf (g : List (List Int)) : Int := (g.headD []).getD 2 0
def wordsOf (g : List (List Int)) : List Int := cutI (mids g) (some 1) (some (1 + (mids g).getD 0 0))
def rowsIn (gs : List (List (List Int))) : List (Int × List Int) := (gs.filter hasLast).map fun g => (begOf g, wordsOf g)
def cutIn (gs : List (List (List Int))) : List Int := (gs.filter fun g => !hasLast g).map begOf
theorem rowsIn_snoc (gs : List (List (List Int))) (g : List (List Int)) : rowsIn (gs ++ [g]) = rowsIn gs ++ (if hasLast g = true then [(begOf g, wordsOf g)] else []) := by
  unfold rowsIn
  rw [List.filter_append, List.map_append]
  cases h : hasLast g <;> simp [h]
theorem cutIn_snoc (gs : List (List (List Int))) (g : List (List Int)) : cutIn (gs ++ [g]) = cutIn gs ++ (if hasLast g = true then [] else [begOf g]) := by
  unfold cutIn
  rw [List.filter_append, List.map_append]
  cases h : hasLast g <;> simp [h]
theorem grp_sub {α : Type} (f : α → List Int) : ∀ {r : List α} {acc a : List (List α)}, grp f acc r = some a → ∀ g ∈ a, ∃ h s, (h = [] ∨ h ∈ acc) ∧ s.Sublist r ∧ g = h ++ s
  | [], acc, a, h, g, hg => by
    rw [grp] at h
    rw [← Option.some.inj h] at hg
    exact ⟨g, [], .inr hg, List.Sublist.slnil, by simp⟩
  | w :: r, acc, a, h, g, hg => by
    rw [grp_cons] at h
    cases e : gStep f acc w with
    | none => rw [e] at h; cases h
    | some x =>
      rw [e] at h
      obtain ⟨h1, s, c, hs, rfl⟩ := grp_sub f (r := r) h g hg
      rcases c with c | c
      · exact ⟨[], s, .inl rfl, hs.cons _, by rw [c]⟩
      · rw [gStep] at e
        split at e
        · rw [← Option.some.inj e] at c
          exact ⟨h1, s, .inr c, hs.cons _, rfl⟩
        · split at e
          · rw [← Option.some.inj e] at c
            rcases List.mem_append.mp c with c | c
            · exact ⟨h1, s, .inr c, hs.cons _, rfl⟩
            · obtain rfl : h1 = [w] := by simpa using c
              exact ⟨[], w :: s, .inl rfl, hs.cons₂ _, rfl⟩
          · cases e2 : acc.reverse with
            | nil => rw [e2] at e; cases e
            | cons z zs =>
              rw [e2] at e
              have ea : acc = zs.reverse ++ [z] := by rw [← List.reverse_reverse acc, e2, List.reverse_cons]
              rw [← Option.some.inj e] at c
              rcases List.mem_append.mp c with c | c
              · exact ⟨h1, s, .inr (by rw [ea]; exact List.mem_append_left _ c), hs.cons _, rfl⟩
              · obtain rfl : h1 = z ++ [w] := by simpa using c
                exact ⟨z, w :: s, .inr (by rw [ea]; simp), hs.cons₂ _, by simp⟩
theorem grp_parts {α : Type} (f : α → List Int) {r : List α} {gs : List (List α)} (h : grp f [] r = some gs) : ∀ g ∈ gs, g.Sublist r ∧ g ≠ [] := by
  intro g hg
  obtain ⟨h1, s, c, hs, rfl⟩ := grp_sub f h g hg
  have : h1 = [] := by
    rcases c with c | c
    · exact c
    · cases c
  subst this
  have ne := grp_mem f (fun g => g ≠ []) h (fun _ z => nomatch z) (fun _ _ _ => by simp) (fun _ _ _ _ => by simp)
  exact ⟨hs, ne _ hg⟩
def sp_by_row (K : PySem.W.Frag) (_ : Ad) : Sp := fun vs H Q _ => ∃ (a : Addr) (pb : List (Addr × List Int)) (gs : List (List (Addr × List Int))), vs = [.ref a] ∧ Holds H ((a, .lst (pb.map rf)) :: bL pb) ∧ (∀ x ∈ pb, x.2.length = 8) ∧ grp Prod.snd [] pb = some gs ∧ pb.length ≤ 1000 ∧
  ∀ (D : Addr) (ga : List (Addr × List (Addr × List Int))) (H' : Hp), ga.map Prod.snd = gs → Hs [] H H' ((D, .lst (ga.map gf)) :: gL ga) [] → Q (.ref D) H'
theorem grp_len {α : Type} (f : α → List Int) : ∀ {r : List α} {acc a : List (List α)}, grp f acc r = some a → a.length ≤ acc.length + r.length ∧ ∀ g ∈ a, g.length ≤ (acc.map List.length).sum + r.length
  | [], acc, a, h => by
    rw [grp] at h
    rw [← Option.some.inj h]
    exact ⟨by simp, fun g hg => by have := len_le_sum hg; simp; omega⟩
  | w :: r, acc, a, h => by
    rw [grp_cons] at h
    cases e : gStep f acc w with
    | none => rw [e] at h; cases h
    | some x =>
      rw [e] at h
      have q := grp_len f (r := r) h
      have hx : x.length ≤ acc.length + 1 ∧ (x.map List.length).sum ≤ (acc.map List.length).sum + 1 := by
        rw [gStep] at e
        split at e
        · rw [← Option.some.inj e]; omega
        · split at e
          · rw [← Option.some.inj e]; simp
          · cases e2 : acc.reverse with
            | nil => rw [e2] at e; cases e
            | cons g gs =>
              rw [e2] at e
              have ea : acc = gs.reverse ++ [g] := by rw [← List.reverse_reverse acc, e2, List.reverse_cons]
              rw [← Option.some.inj e, ea]
              simp
              omega
      refine ⟨by have := q.1; have := hx.1; simp; omega, fun g hg => ?_⟩
      have := q.2 g hg
      have := hx.2
      rw [List.length_cons]
      omega
theorem sc_by_row : FnScope ["blocks", "found", "words"] ["blocks"] (defScope st_by_row) := ⟨rfl, rfl, rfl, by decide +kernel, rfl, by decide +kernel, by decide +kernel⟩
def sp_has_last (K : PySem.W.Frag) (_ : Ad) : Sp := fun vs H Q _ => ∃ (a : Addr) (ini : List (Addr × List Int)) (x : Addr × List Int), vs = [.ref a] ∧ H a = some (.lst ((ini ++ [x]).map rf)) ∧ H x.1 = some (.lst (x.2.map V.int)) ∧ x.2.length = 8 ∧ Q (.bl (decide (x.2.getD 3 0 = 0))) H
theorem sc_has_last : FnScope ["some"] ["some"] (defScope st_has_last) := ⟨rfl, rfl, rfl, by decide +kernel, rfl, by decide +kernel, by decide +kernel⟩
def sp_rows_in (K : PySem.W.Frag) (_ : Ad) : Sp := fun vs H Q _ => ∃ (a : Addr) (pb : List (Addr × List Int)) (gs : List (List (Addr × List Int))), vs = [.ref a] ∧ Holds H ((a, .lst (pb.map rf)) :: bL pb) ∧ (∀ x ∈ pb, x.2.length = 8) ∧ grp Prod.snd [] pb = some gs ∧ pb.length ≤ 1000 ∧
  ∀ (D : Addr) (xs : List RA) (H' : Hp), xs.map Prod.snd = rowsIn (gs.map (List.map Prod.snd)) → Hs [] H H' ((D, .lst (xs.map tf)) :: rL xs) [] → Q (.ref D) H'
theorem Hs.snoc2 {W : List Addr} {H0 H : Hp} {t p d : Addr × HO} {A B I : List (Addr × HO)} (h : Hs W H0 H (t :: p :: d :: (A ++ B)) I) : Hs W H0 H (d :: ((A ++ [t, p]) ++ B)) I := by
  refine h.perm ?_
  rw [List.append_assoc]
  refine (List.Perm.cons _ (List.perm_append_comm (l₁ := A) (l₂ := [t, p] ++ B))).trans ?_
  show (d :: t :: p :: (B ++ A)).Perm _
  refine (List.Perm.swap _ _ _).trans (List.Perm.cons _ ((List.Perm.swap _ _ _).trans (List.Perm.cons _ (List.Perm.cons _ List.perm_append_comm))))
theorem sc_rows_in : FnScope ["blocks", "some"] ["blocks"] (defScope st_rows_in) := ⟨rfl, rfl, rfl, by decide +kernel, rfl, by decide +kernel, by decide +kernel⟩
def sp_cut_in (K : PySem.W.Frag) (_ : Ad) : Sp := fun vs H Q _ => ∃ (a : Addr) (pb : List (Addr × List Int)) (gs : List (List (Addr × List Int))), vs = [.ref a] ∧ Holds H ((a, .lst (pb.map rf)) :: bL pb) ∧ (∀ x ∈ pb, x.2.length = 8) ∧ grp Prod.snd [] pb = some gs ∧ pb.length ≤ 1000 ∧
  NewO (.lst ((cutIn (gs.map (List.map Prod.snd))).map V.int)) H Q
theorem sc_cut_in : FnScope ["blocks", "some"] ["blocks"] (defScope st_cut_in) := ⟨rfl, rfl, rfl, by decide +kernel, rfl, by decide +kernel, by decide +kernel⟩
def rowB? (items : List V) : Bool := decide (items.length ≤ 11) && items.all fun v => wholeB v 0 999999999
def sp_is_row (K : PySem.W.Frag) (_ : Ad) : Sp := fun vs H Q _ => ∃ (a : Addr) (b : Bool) (items : List V), vs = [.ref a] ∧ H a = some (if b then .lst items else .tup items) ∧ (∀ x ∈ items, FlatV x) ∧ items.length ≤ 1000 ∧
  ∀ H', Upto [] H H' → Q (.bl (b && rowB? items)) H'
theorem sc_is_row : FnScope ["row", "word"] ["row"] (defScope st_is_row) := ⟨rfl, rfl, rfl, by decide +kernel, rfl, by decide +kernel, by decide +kernel⟩
theorem s_is_row {W : List Addr} {H0 H : Hp} {M I : List (Addr × HO)} {a : Addr} {b : Bool} {items : List V} {Q : VK} {E : XK} (hs : Hs W H0 H M I) (h1 : H a = some (if b then .lst items else .tup items)) (hf : ∀ x ∈ items, FlatV x) (hz : items.length ≤ 1000)
    (h : ∀ H', Hs W H0 H' M I → Upto [] H H' → Q (.bl (b && rowB? items)) H') : sp_is_row K Z [.ref a] H Q E := ⟨a, b, items, rfl, h1, hf, hz, fun H' u => h H' (hs.call0 u) u⟩
theorem rowB_of {ns : List Int} (h : ns.length ≤ 11) (h2 : ∀ x ∈ ns, 0 ≤ x ∧ x ≤ 999999999) : rowB? (ns.map V.int) = true := by
  simp only [rowB?, Bool.and_eq_true, decide_eq_true_eq, List.all_eq_true, List.length_map]
  refine ⟨h, fun v hv => ?_⟩
  obtain ⟨x, hx, rfl⟩ := List.mem_map.mp hv
  have := h2 x hx
  simp only [wholeB, Bool.and_eq_true, decide_eq_true_eq]
  exact this
theorem chunk_flat (xs : List Int) : ∀ m : Nat, 3 * m ≤ xs.length → ((List.range m).map fun i => [xs.getD (3 * i) 0, xs.getD (3 * i + 1) 0, xs.getD (3 * i + 2) 0]).flatten = xs.take (3 * m)
  | 0, _ => by simp
  | m + 1, h => by
    rw [List.range_succ, List.map_append, List.flatten_append, chunk_flat xs m (by omega)]
    have t := take3 (xs := xs) (j := 3 * m) (by omega)
    show _ ++ ([xs.getD (3 * m) 0, xs.getD (3 * m + 1) 0, xs.getD (3 * m + 2) 0] ++ []) = _
    rw [List.append_nil, ← t, show 3 * (m + 1) = 3 * m + 3 by omega, List.take_add]
theorem pcs_flat (ws : List Int) : (pcs ws).flatten = dL ws ((3 - (ws.length + 1) % 3) % 3) := by
  have e : pcs ws = (List.range (ws.length / 3 + 1)).map fun i => [(dL ws ((3 - (ws.length + 1) % 3) % 3)).getD (3 * i) 0, (dL ws ((3 - (ws.length + 1) % 3) % 3)).getD (3 * i + 1) 0, (dL ws ((3 - (ws.length + 1) % 3) % 3)).getD (3 * i + 2) 0] := by
    unfold pcs
    apply List.map_congr_left
    intro i _
    rw [dL_getD, dL_getD, dL_getD]
  rw [e, chunk_flat _ _ (by rw [dL_len]; omega)]
  exact List.take_of_length_le (by rw [dL_len]; omega)
theorem cut_back (ws : List Int) (k : Nat) : cutI (dL ws k) (some 1) (some (1 + (dL ws k).getD 0 0)) = ws := by
  have h0 : (dL ws k).getD 0 0 = ws.length := rfl
  rw [h0]
  unfold cutI
  rw [sIx_in (by omega) (by rw [dL_len]; omega), sIx_in (by omega) (by rw [dL_len]; omega)]
  have e1 : ((1 : Int).toNat) = 1 := rfl
  have e2 : (1 + (ws.length : Int)).toNat - (1 : Int).toNat = ws.length := by omega
  rw [e2, e1]
  show (ws ++ _).take ws.length = ws
  exact List.take_left ..
/-- what a whole block is -/
structure Blk (b : List Int) (num flo : Int) : Prop where
  len : b.length = 8
  first : b.getD 0 0 = num
  last : b.getD 7 0 = num
  floor : b.getD 1 0 = flo
/-- the blocks of a row -/
def rowB (row : List Int) (f b : Int) : List (List Int) := (List.range (pcs row).length).map fun (i : Nat) => madeL (b + (i : Int)) f b (((pcs row).length : Int) - 1 - (i : Int)) ((pcs row).getD i [])
theorem rowB_len (row : List Int) (f b : Int) : (rowB row f b).length = (pcs row).length := by simp [rowB]
theorem rowB_get {row : List Int} {f b : Int} {i : Nat} {x : List Int} (h : (pcs row)[i]? = some x) : (rowB row f b)[i]? = some (madeL (b + i) f b (((pcs row).length : Int) - 1 - i) x) := by
  have hi : i < (pcs row).length := (List.getElem?_eq_some_iff.mp h).1
  unfold rowB
  have hd : (pcs row).getD i [] = x := by rw [List.getD_eq_getElem?_getD, h]; rfl
  rw [List.getElem?_map, List.getElem?_range hi, Option.map_some, hd]
theorem pcs_three {row x : List Int} (h : x ∈ pcs row) : ∃ a b c, x = [a, b, c] := by
  unfold pcs at h
  obtain ⟨i, _, rfl⟩ := List.mem_map.mp h
  exact ⟨_, _, _, rfl⟩
theorem rowB_blk {row : List Int} {f b : Int} {i : Nat} {w : List Int} (h : (rowB row f b)[i]? = some w) : Blk w (b + i) f ∧ w.getD 2 0 = b ∧ w.getD 3 0 = ((pcs row).length : Int) - 1 - i := by
  have hi : i < (pcs row).length := by
    have := (List.getElem?_eq_some_iff.mp h).1
    rwa [rowB_len] at this
  have hp := List.getElem?_eq_getElem hi
  obtain ⟨x, y, z, e⟩ := pcs_three (List.getElem_mem hi)
  rw [e] at hp
  rw [rowB_get hp] at h
  rw [← Option.some.inj h]
  exact ⟨⟨rfl, rfl, rfl, rfl⟩, rfl, rfl⟩
theorem rowB_mids (row : List Int) (f b : Int) : mids (rowB row f b) = (pcs row).flatten := by
  have e : (rowB row f b).map (fun w => (w.drop 4).take 3) = pcs row := by
    apply List.ext_getElem?
    intro i
    rw [List.getElem?_map]
    cases h : (pcs row)[i]? with
    | none =>
      rw [List.getElem?_eq_none (by rw [rowB_len]; exact List.getElem?_eq_none_iff.mp h)]
      rfl
    | some x =>
      rw [rowB_get h]
      obtain ⟨a, b, c, rfl⟩ := pcs_three (List.mem_of_getElem? h)
      rfl
  unfold mids
  rw [e]
theorem rowB_words (row : List Int) (f b : Int) : wordsOf (rowB row f b) = row := by
  unfold wordsOf
  rw [rowB_mids, pcs_flat]
  exact cut_back _ _
theorem headD_take {α : Type} {d : α} {l : List α} {j : Nat} (h : 0 < j) : (l.take j).headD d = l.headD d := by
  cases l with
  | nil => simp
  | cons a l =>
    cases j with
    | zero => omega
    | succ j => rfl
theorem getLastD_snoc {α : Type} {d x : α} (l : List α) : (l ++ [x]).getLastD d = x := by simp
theorem rowB_beg {row : List Int} {f b : Int} {j : Nat} (h : 0 < j) : begOf ((rowB row f b).take j) = b := by
  unfold begOf
  rw [headD_take h]
  have hl : 0 < (pcs row).length := by rw [pcs_len]; omega
  have h0 : ∃ w, (rowB row f b)[0]? = some w := ⟨_, List.getElem?_eq_getElem (by rw [rowB_len]; exact hl)⟩
  obtain ⟨w, hw⟩ := h0
  have q := (rowB_blk hw).2.1
  rw [List.headD_eq_head?_getD, List.head?_eq_getElem?, hw]
  exact q
theorem rowB_last {row : List Int} {f b : Int} {j : Nat} (h : 0 < j) (h2 : j ≤ (pcs row).length) : hasLast ((rowB row f b).take j) = decide (j = (pcs row).length) := by
  obtain ⟨i, rfl⟩ : ∃ i, j = i + 1 := ⟨j - 1, by omega⟩
  obtain ⟨w, hw⟩ : ∃ w, (rowB row f b)[i]? = some w := ⟨_, List.getElem?_eq_getElem (by rw [rowB_len]; omega)⟩
  unfold hasLast
  rw [take_snoc hw, getLastD_snoc, (rowB_blk hw).2.2]
  apply decide_eq_decide.mpr
  omega

/-! ### the next block, written or torn -/
def mixB (p : Int) (new old : List Int) : List Int := new.take p.toNat ++ old.drop p.toNat
theorem mod_inj {n : Nat} {a b : Int} (hn : 0 < n) (h : a % n = b % n) (h1 : b - n < a) (h2 : a ≤ b) : a = b := by
  obtain ⟨q, r, e, h0, h1', e3⟩ := emod_cases a hn
  obtain ⟨q2, r2, e', h0', h1'', e3'⟩ := emod_cases b hn
  have hr : r = r2 := by omega
  subst hr
  have hq : (n : Int) * (q2 - q) = b - a := by rw [Int.mul_sub]; omega
  have hq1 : q2 - q < 1 := by
    refine Decidable.byContradiction fun z => ?_
    have := Int.mul_le_mul_of_nonneg_left (show 1 ≤ q2 - q by omega) (show (0 : Int) ≤ n by omega)
    omega
  have hq2 : 0 ≤ q2 - q := by
    refine Decidable.byContradiction fun z => ?_
    have := Int.mul_le_mul_of_nonneg_left (show q2 - q ≤ -1 by omega) (show (0 : Int) ≤ n by omega)
    omega
  have : q2 - q = 0 := by omega
  rw [this] at hq
  omega
theorem place_lt {n : Nat} (hn : 0 < n) (k : Int) : (k % n).toNat < n ∧ ((k % n).toNat : Int) = k % n := by
  have h0 := Int.emod_nonneg k (show (n : Int) ≠ 0 by omega)
  have h1 := Int.emod_lt_of_pos k (show (0 : Int) < n by omega)
  omega
theorem getD_set {ws : List (List Int)} {i j : Nat} {b : List Int} (hi : i < ws.length) : (ws.set i b).getD j [] = if i = j then b else ws.getD j [] := by
  rw [List.getD_eq_getElem?_getD, List.getElem?_set]
  by_cases c : i = j
  · subst c
    simp [hi]
  · simp [c]
theorem Laid.write {n : Nat} {ws : List (List Int)} {num : Int} {torn : Option Int} {b : List Int} (L : Laid n ws num torn) (hn : 0 < n) (hl : ws.length = n) (h0 : fstW b = num + 1) (h7 : lstW b = num + 1) : Laid n (ws.set ((num + 1) % n).toNat b) (num + 1) none := by
  have hp := place_lt hn (num + 1)
  refine ⟨by have := L.ge; omega, fun i k hi h1 h2 h3 _ => ?_, fun t ht => by cases ht⟩
  rw [getD_set (by omega)]
  split
  · rename_i c
    have hk : k = num + 1 := mod_inj hn (by omega) (by omega) h2
    have := L.ge
    rw [if_pos (by omega), h0, h7, hk]
    exact ⟨rfl, rfl⟩
  · rename_i c
    have hk : k ≠ num + 1 := fun e => c (by rw [e] at h3; omega)
    refine L.at_ i k hi (by omega) (by omega) h3 (.inr (by omega))
theorem Laid.tear {n : Nat} {ws : List (List Int)} {num : Int} {torn : Option Int} {b : List Int} {p : Int} (L : Laid n ws num torn) (hn : 0 < n) (hl : ws.length = n) (h8 : ∀ w ∈ ws, w.length = 8) (hb : b.length = 8) (h0 : fstW b = num + 1) (hp0 : 0 ≤ p) (hp7 : p ≤ 7) :
    Laid n (ws.set ((num + 1) % n).toNat (mixB p b (ws.getD ((num + 1) % n).toNat []))) num (if 0 < p then some ((num + 1) % n) else torn) := by
  have hp := place_lt hn (num + 1)
  have hw : (ws.getD ((num + 1) % n).toNat []).length = 8 := by
    rw [List.getD_eq_getElem?_getD, List.getElem?_eq_getElem (by omega)]
    exact h8 _ (List.getElem_mem _)
  generalize ho : ws.getD ((num + 1) % n).toNat [] = o at hw
  by_cases c : 0 < p
  · rw [if_pos c]
    refine ⟨L.ge, fun i k hi h1 h2 h3 h4 => ?_, fun t ht => ?_⟩
    · rw [getD_set (by omega)]
      have hk : k ≠ num + 1 - n := by
        rcases h4 with h4 | h4
        · cases h4
        · exact h4
      rw [if_neg]
      · exact L.at_ i k hi h1 h2 h3 (.inr hk)
      · intro e
        have e2 : (num + 1 - n) % n = k % n := by rw [emod_less]; omega
        have := mod_inj hn e2 (by omega) (by omega)
        omega
    · cases ht
      refine ⟨rfl, ?_⟩
      rw [getD_set (by omega), if_pos rfl]
      have ol : lstW o ≠ num + 1 := by
        have hg := L.ge
        have key : torn = none ∨ torn = some (((num + 1) % n)) := by
          cases t : torn with
          | none => exact .inl rfl
          | some t' => right; rw [(L.tn _ t).1]
        rcases key with t | t
        · have := (L.at_ ((num + 1) % n).toNat (num + 1 - n) hp.1 (by omega) (by omega) (by rw [emod_less]; omega) (.inl t)).2
          rw [ho] at this
          rw [this]
          split <;> omega
        · have := (L.tn _ t).2.2
          rw [ho] at this
          exact this
      match b, hb, o, hw with
      | [b0, b1, b2, b3, b4, b5, b6, b7], _, [o0, o1, o2, o3, o4, o5, o6, o7], _ =>
        have hc : p = 1 ∨ p = 2 ∨ p = 3 ∨ p = 4 ∨ p = 5 ∨ p = 6 ∨ p = 7 := by omega
        rcases hc with rfl | rfl | rfl | rfl | rfl | rfl | rfl <;> exact ⟨h0, ol⟩
  · have hp1 : p = 0 := by omega
    subst hp1
    rw [if_neg (by decide)]
    have e : ws.set ((num + 1) % n).toNat (mixB 0 b o) = ws := by
      apply List.ext_getElem?
      intro j
      rw [List.getElem?_set]
      split
      · rename_i c2
        subst c2
        rw [if_pos (by omega)]
        show some (([] : List Int) ++ o) = _
        rw [List.nil_append, ← ho, List.getD_eq_getElem?_getD, List.getElem?_eq_getElem (by omega)]
        rfl
      · rfl
    rw [e]
    exact L

/-! ### what a log leaves on a disk -/
def blkOf (n : Nat) (ws : List (List Int)) (k : Int) : List Int := ws.getD (k % n).toNat []
def useB (n : Nat) (ws : List (List Int)) (flo num : Int) : List (List Int) := (List.range (num - flo).toNat).map fun j => blkOf n ws (flo + 1 + (j : Nat))
theorem useB_nil {n : Nat} {ws : List (List Int)} {flo num : Int} (h : num ≤ flo) : useB n ws flo num = [] := by
  unfold useB
  rw [show (num - flo).toNat = 0 by omega]
  rfl
theorem useB_len {n : Nat} {ws : List (List Int)} {flo num : Int} : (useB n ws flo num).length = (num - flo).toNat := by simp [useB]
theorem useB_snoc {n : Nat} {ws : List (List Int)} {flo num : Int} (h : flo ≤ num) : useB n ws flo (num + 1) = useB n ws flo num ++ [blkOf n ws (num + 1)] := by
  unfold useB
  rw [show (num + 1 - flo).toNat = (num - flo).toNat + 1 by omega, List.range_succ, List.map_append]
  rw [show num + 1 = flo + 1 + ((num - flo).toNat : Nat) by omega]
  rfl
theorem useB_split {n : Nat} {ws : List (List Int)} {flo f num : Int} (h1 : flo ≤ f) (h2 : f ≤ num) : useB n ws flo num = useB n ws flo f ++ useB n ws f num := by
  unfold useB
  rw [show (num - flo).toNat = (f - flo).toNat + (num - f).toNat by omega, List.range_add, List.map_append, List.map_map]
  congr 1
  apply List.map_congr_left
  intro j _
  show blkOf n ws _ = blkOf n ws _
  congr 1
  push_cast
  omega
theorem useB_cons {n : Nat} {ws : List (List Int)} {f num : Int} (h : f < num) : useB n ws f num = blkOf n ws (f + 1) :: useB n ws (f + 1) num := by
  rw [useB_split (f := f + 1) (by omega) (by omega)]
  congr 1
  unfold useB
  rw [show (f + 1 - f).toNat = 1 by omega]
  simp
theorem useB_mem {n : Nat} {ws : List (List Int)} {flo num : Int} {b : List Int} (h : b ∈ useB n ws flo num) : ∃ k, flo < k ∧ k ≤ num ∧ b = blkOf n ws k := by
  obtain ⟨j, hj, rfl⟩ := List.mem_map.mp h
  rw [List.mem_range] at hj
  exact ⟨flo + 1 + j, by omega, by omega, rfl⟩
theorem blkOf_set {n : Nat} {ws : List (List Int)} {k j : Int} {b : List Int} (hn : 0 < n) (hl : ws.length = n) : blkOf n (ws.set (k % n).toNat b) j = if k % n = j % n then b else blkOf n ws j := by
  unfold blkOf
  have h1 := place_lt hn k
  have h2 := place_lt hn j
  rw [getD_set (by omega)]
  by_cases c : k % n = j % n
  · rw [if_pos c, if_pos (by omega)]
  · rw [if_neg c, if_neg (by omega)]
/-- a write of the next block changes none of use -/
theorem useB_set {n : Nat} {ws : List (List Int)} {flo num : Int} {b : List Int} (hn : 0 < n) (hl : ws.length = n) (h : num - flo < n) : useB n (ws.set ((num + 1) % n).toNat b) flo num = useB n ws flo num := by
  unfold useB
  apply List.map_congr_left
  intro j hj
  rw [List.mem_range] at hj
  show blkOf n _ _ = _
  rw [blkOf_set hn hl, if_neg]
  intro e
  have := mod_inj hn e.symm (by omega) (by omega)
  omega
def goneB (n : Nat) (ws : List (List Int)) (num : Int) : Bool := decide ((n : Int) ≤ num) && (decide ((blkOf n ws num).getD 2 0 = 0) && decide ((blkOf n ws num).getD 3 0 = 1))
structure View (n : Nat) (ws : List (List Int)) (num flo : Int) (torn : Option Int) (gs : List (List (List Int))) : Prop extends Laid n ws num torn where
  n4 : 4 ≤ n
  n64 : n ≤ 64
  wl : ws.length = n
  w8 : ∀ w ∈ ws, w.length = 8
  f0 : (n : Int) - 1 ≤ flo
  f1 : flo ≤ num
  f2 : num - flo ≤ n - 1
  f3 : (n : Int) ≤ num → flo < num ∧ (blkOf n ws num).getD 1 0 = flo
  gr : grp (fun w => w) [] (useB n ws flo num) = some gs
theorem mem_set' {ws : List (List Int)} {i : Nat} {b w : List Int} (h : w ∈ ws.set i b) : w ∈ ws ∨ w = b := List.mem_or_eq_of_mem_set h
/-- a block begins a row -/
def Begins (b : List Int) : Prop := b.getD 2 0 = b.getD 0 0 ∧ b.getD 2 0 ≠ 0
theorem blkOf_num {n : Nat} {ws : List (List Int)} {num flo : Int} {torn : Option Int} {gs : List (List (List Int))} (v : View n ws num flo torn gs) {k : Int} (h1 : flo < k) (h2 : k ≤ num) : (blkOf n ws k).getD 0 0 = k ∧ (blkOf n ws k).getD 7 0 = k ∧ (blkOf n ws k).length = 8 := by
  have n4 := v.n4
  have hp := place_lt (n := n) (by omega) k
  have f2 := v.f2
  have f0 := v.f0
  have := v.at_ (k % n).toNat k hp.1 (by omega) h2 (by omega) (.inr (by omega))
  rw [if_pos (by omega)] at this
  refine ⟨this.1, this.2, ?_⟩
  unfold blkOf
  rw [List.getD_eq_getElem?_getD, List.getElem?_eq_getElem (by rw [v.wl]; exact hp.1)]
  exact v.w8 _ (List.getElem_mem _)
theorem headD_snoc {α : Type} {d : α} (w : α) : ∀ {g : List α}, g ≠ [] → (g ++ [w]).headD d = g.headD d
  | [], h => absurd rfl h
  | _ :: _, _ => rfl
section
variable {n : Nat} {ws : List (List Int)} {num flo : Int} {torn : Option Int} {gs : List (List (List Int))} (v : View n ws num flo torn gs)
include v
/-- the first block of each row -/
theorem View.heads : ∀ g ∈ gs, g ≠ [] ∧ (∀ b ∈ g, b ∈ useB n ws flo num) ∧ Begins (g.headD []) ∧ flo < begOf g ∧ begOf g ≤ num ∧ g.headD [] = blkOf n ws (begOf g) := by
  have key := grp_mem (fun w : List Int => w) (fun g => g ≠ [] ∧ (∀ b ∈ g, b ∈ useB n ws flo num) ∧ ((g.headD []).getD 2 0 = (g.headD []).getD 0 0) ∧ g.headD [] ∈ useB n ws flo num) v.gr (fun g hg => nomatch hg)
    (fun w hw hb => ⟨by simp, fun b h => by
      obtain rfl : b = w := by simpa using h
      exact hw, hb, hw⟩)
    (fun w hw g hg => ⟨by simp, fun b h => by
      rcases List.mem_append.mp h with h | h
      · exact hg.2.1 b h
      · obtain rfl : b = w := by simpa using h
        exact hw, by rw [headD_snoc w hg.1]; exact hg.2.2.1, by rw [headD_snoc w hg.1]; exact hg.2.2.2⟩)
  intro g hg
  obtain ⟨h1, h2, h3, h4⟩ := key g hg
  obtain ⟨k, k1, k2, k3⟩ := useB_mem h4
  have hk := blkOf_num v k1 k2
  have hb : begOf g = k := by
    unfold begOf
    rw [h3, k3, hk.1]
  have f0 := v.f0
  have n4 := v.n4
  refine ⟨h1, h2, ⟨h3, ?_⟩, by omega, by omega, by rw [hb]; exact k3⟩
  rw [h3, k3, hk.1]
  omega
end
theorem grp_inv {α : Type} (f : α → List Int) : ∀ {r : List α} {acc y : List (List α)} (pre : List (List α)), grp f (pre ++ acc) r = some y → acc ≠ [] → ∃ x, grp f acc r = some x ∧ y = pre ++ x ∧ x ≠ []
  | [], acc, y, pre, h, ha => ⟨acc, rfl, by rw [grp] at h; exact (Option.some.inj h).symm, ha⟩
  | w :: r, acc, y, pre, h, ha => by
    rw [grp_cons] at h
    have hs : ∃ a, gStep f acc w = some a ∧ a ≠ [] := by
      rw [gStep]
      split
      · exact ⟨_, rfl, ha⟩
      · split
        · exact ⟨_, rfl, by simp⟩
        · cases e : acc.reverse with
          | nil => exact absurd (by simpa using e) ha
          | cons g gs => exact ⟨_, rfl, by simp⟩
    obtain ⟨a, e, na⟩ := hs
    rw [gStep_app f pre e] at h
    rw [grp_cons, e]
    exact grp_inv f pre h na
theorem filter_none {α : Type} {p : α → Bool} {l : List α} (h : ∀ x ∈ l, p x = false) : l.filter p = [] := by
  rw [List.filter_eq_nil_iff]
  intro x hx
  rw [h x hx]
  decide
theorem filter_all {α : Type} {p : α → Bool} {l : List α} (h : ∀ x ∈ l, p x = true) : l.filter p = l := by
  rw [List.filter_eq_self]
  exact h
def over (f : Int) (gs : List (List (List Int))) : List (List (List Int)) := gs.filter fun g => decide (f < begOf g)
/-- the floor rises to the begin of a row, or to the end -/
theorem View.over_ {n : Nat} {ws : List (List Int)} {num flo : Int} {torn : Option Int} {gs : List (List (List Int))} (v : View n ws num flo torn gs) {f : Int} (h1 : flo ≤ f) (h2 : f ≤ num) (h3 : f = num ∨ ∃ g ∈ gs, begOf g = f + 1) : grp (fun w => w) [] (useB n ws f num) = some (over f gs) := by
  have hh := v.heads
  rcases h3 with h3 | ⟨g, hg, hb⟩
  · subst h3
    rw [useB_nil (Int.le_refl _)]
    unfold over
    rw [filter_none]
    · rfl
    · intro g hg
      have := (hh g hg).2.2.2.2.1
      rw [decide_eq_false]
      omega
  · have gr := v.gr
    obtain ⟨_, _, hB, g1, g2, g3⟩ := hh g hg
    rw [useB_split h1 h2, grp_append] at gr
    cases e1 : grp (fun w : List Int => w) [] (useB n ws flo f) with
    | none => rw [e1] at gr; cases gr
    | some gs1 =>
      rw [e1, useB_cons (show f < num by omega)] at gr
      have hst : ∀ acc, gStep (fun w : List Int => w) acc (blkOf n ws (f + 1)) = some (acc ++ [[blkOf n ws (f + 1)]]) := fun acc => by
        rw [← hb, ← g3, gStep, if_neg hB.2, if_pos hB.1]
      have gr2 : (gStep (fun w : List Int => w) gs1 (blkOf n ws (f + 1))).bind (fun a => grp (fun w : List Int => w) a (useB n ws (f + 1) num)) = some gs := by
        rw [← grp_cons]
        exact gr
      rw [hst] at gr2
      obtain ⟨x, ex, ey, nx⟩ := grp_inv _ gs1 (acc := [[blkOf n ws (f + 1)]]) gr2 (by simp)
      have q : grp (fun w : List Int => w) [] (useB n ws f num) = some x := by
        rw [useB_cons (show f < num by omega), grp_cons, hst]
        exact ex
      rw [q]
      -- the rows ahead begin up to f, those behind later
      have v1 : ∀ y ∈ gs1, begOf y ≤ f := by
        have key := grp_mem (fun w : List Int => w) (fun g => g ≠ [] ∧ ((g.headD []).getD 2 0 = (g.headD []).getD 0 0) ∧ g.headD [] ∈ useB n ws flo f) e1 (fun g hg => nomatch hg)
          (fun w hw hb => ⟨by simp, hb, hw⟩) (fun w hw g hg => ⟨by simp, by rw [headD_snoc w hg.1]; exact hg.2.1, by rw [headD_snoc w hg.1]; exact hg.2.2⟩)
        intro y hy
        obtain ⟨_, a1, a2⟩ := key y hy
        obtain ⟨k, k1, k2, k3⟩ := useB_mem a2
        have := (blkOf_num v k1 (by omega)).1
        unfold begOf
        rw [a1, k3, this]
        exact k2
      have v2 : ∀ y ∈ x, f < begOf y := by
        have key := grp_mem (fun w : List Int => w) (fun g => g ≠ [] ∧ ((g.headD []).getD 2 0 = (g.headD []).getD 0 0) ∧ g.headD [] ∈ useB n ws f num) q (fun g hg => nomatch hg)
          (fun w hw hb => ⟨by simp, hb, hw⟩) (fun w hw g hg => ⟨by simp, by rw [headD_snoc w hg.1]; exact hg.2.1, by rw [headD_snoc w hg.1]; exact hg.2.2⟩)
        intro y hy
        obtain ⟨_, a1, a2⟩ := key y hy
        obtain ⟨k, k1, k2, k3⟩ := useB_mem a2
        have := (blkOf_num v (show flo < k by omega) k2).1
        unfold begOf
        rw [a1, k3, this]
        exact k1
      rw [ey]
      unfold over
      rw [List.filter_append, filter_none (fun y hy => decide_eq_false (by have := v1 y hy; omega)), filter_all (fun y hy => decide_eq_true (v2 y hy)), List.nil_append]
/-- a write of the next block -/
theorem View.write {n : Nat} {ws : List (List Int)} {num flo : Int} {torn : Option Int} {gs gs' : List (List (List Int))} (v : View n ws num flo torn gs) {b : List Int} {f : Int} (hb : Blk b (num + 1) f) (h1 : flo ≤ f) (h2 : f ≤ num) (h3 : f = num ∨ ∃ g ∈ gs, begOf g = f + 1) (h4 : num + 1 - f ≤ n - 1)
    (hg : gStep (fun w => w) (over f gs) b = some gs') : View n (ws.set ((num + 1) % n).toNat b) (num + 1) f none gs' := by
  have n4 := v.n4
  have wl := v.wl
  have f0 := v.f0
  have f1 := v.f1
  have hn : 0 < n := by omega
  have e1 : blkOf n (ws.set ((num + 1) % n).toNat b) (num + 1) = b := by rw [blkOf_set hn wl, if_pos rfl]
  refine ⟨v.toLaid.write hn wl hb.first hb.last, n4, v.n64, by rw [List.length_set]; exact wl, fun w hw => ?_, by omega, by omega, h4, fun _ => ⟨by omega, by rw [e1]; exact hb.floor⟩, ?_⟩
  · rcases mem_set' hw with hw | hw
    · exact v.w8 w hw
    · rw [hw]; exact hb.len
  · rw [useB_snoc h2, useB_set hn wl (by omega), e1, grp_snoc, v.over_ h1 h2 h3]
    exact hg
theorem View.same {n : Nat} {ws : List (List Int)} {num flo : Int} {torn : Option Int} {gs : List (List (List Int))} (v : View n ws num flo torn gs) : over flo gs = gs := filter_all fun g hg => decide_eq_true (v.heads g hg).2.2.2.1
/-- a later block of the last row -/
theorem View.writeOn {n : Nat} {ws : List (List Int)} {num flo : Int} {torn : Option Int} {gs : List (List (List Int))} {g : List (List Int)} (v : View n ws num flo torn (gs ++ [g])) {b : List Int} (hb : Blk b (num + 1) flo) (h2 : b.getD 2 0 ≠ 0) (h3 : b.getD 2 0 ≠ num + 1) (h4 : num + 1 - flo ≤ n - 1) : View n (ws.set ((num + 1) % n).toNat b) (num + 1) flo none (gs ++ [g ++ [b]]) := by
  have n4 := v.n4
  have wl := v.wl
  have f0 := v.f0
  have f1 := v.f1
  have hn : 0 < n := by omega
  have e1 : blkOf n (ws.set ((num + 1) % n).toNat b) (num + 1) = b := by rw [blkOf_set hn wl, if_pos rfl]
  refine ⟨v.toLaid.write hn wl hb.first hb.last, n4, v.n64, by rw [List.length_set]; exact wl, fun w hw => ?_, f0, by omega, h4, fun _ => ⟨by omega, by rw [e1]; exact hb.floor⟩, ?_⟩
  · rcases mem_set' hw with hw | hw
    · exact v.w8 w hw
    · rw [hw]; exact hb.len
  · rw [useB_snoc f1, useB_set hn wl (by omega), e1, grp_snoc, v.gr]
    show gStep (fun w : List Int => w) (gs ++ [g]) b = _
    have hf := hb.first
    rw [gStep, if_neg h2, if_neg (by rw [hf]; exact h3)]
    simp
/-- a write of which the first words alone come in -/
theorem View.tear {n : Nat} {ws : List (List Int)} {num flo : Int} {torn : Option Int} {gs : List (List (List Int))} (v : View n ws num flo torn gs) {b : List Int} {p : Int} (hb : b.length = 8) (h0 : b.getD 0 0 = num + 1) (hp0 : 0 ≤ p) (hp7 : p ≤ 7) :
    View n (ws.set ((num + 1) % n).toNat (mixB p b (ws.getD ((num + 1) % n).toNat []))) num flo (if 0 < p then some ((num + 1) % n) else torn) gs := by
  have n4 := v.n4
  have wl := v.wl
  have f0 := v.f0
  have f1 := v.f1
  have f2 := v.f2
  have hn : 0 < n := by omega
  have hp := place_lt hn (num + 1)
  refine ⟨v.toLaid.tear hn wl v.w8 hb h0 hp0 hp7, n4, v.n64, by rw [List.length_set]; exact wl, fun w hw => ?_, f0, f1, f2, fun h => ?_, ?_⟩
  · rcases mem_set' hw with hw | hw
    · exact v.w8 w hw
    · rw [hw]
      unfold mixB
      have : (ws.getD ((num + 1) % n).toNat []).length = 8 := by
        rw [List.getD_eq_getElem?_getD, List.getElem?_eq_getElem (by omega)]
        exact v.w8 _ (List.getElem_mem _)
      rw [List.length_append, List.length_take, List.length_drop, this, hb]
      omega
  · rw [blkOf_set hn wl, if_neg]
    · exact v.f3 h
    · intro e
      have := mod_inj hn e.symm (by omega) (by omega)
      omega
  · rw [useB_set hn wl (by omega)]
    exact v.gr
/-! ### rows and cut rows, deed by deed -/
theorem rowsIn_over (f : Int) (gs : List (List (List Int))) : rowsIn (over f gs) = (rowsIn gs).filter fun r => decide (f < r.1) := by
  unfold rowsIn over
  rw [List.filter_map, List.filter_filter, List.filter_filter]
  congr 1
  apply List.filter_congr
  intro g _
  show (_ && _) = (_ && _)
  rw [Bool.and_comm]
  rfl
theorem cutIn_over (f : Int) (gs : List (List (List Int))) : cutIn (over f gs) = (cutIn gs).filter fun b => decide (f < b) := by
  unfold cutIn over
  rw [List.filter_map, List.filter_filter, List.filter_filter]
  congr 1
  apply List.filter_congr
  intro g _
  show (_ && _) = (_ && _)
  rw [Bool.and_comm]
  rfl
/-- the numbers of what begins rows rise -/
theorem grp_sorted : ∀ {r : List (List Int)} {acc y : List (List (List Int))}, grp (fun w => w) acc r = some y → acc.Pairwise (fun a b => begOf a < begOf b) → (∀ g ∈ acc, g ≠ []) → (∀ w ∈ r, ∀ g ∈ acc, begOf g < w.getD 0 0) → r.Pairwise (fun a b => a.getD 0 0 < b.getD 0 0) → y.Pairwise (fun a b => begOf a < begOf b)
  | [], acc, y, h, h1, _, _, _ => by rw [grp] at h; rw [← Option.some.inj h]; exact h1
  | w :: r, acc, y, h, h1, h0, h2, h3 => by
    rw [grp_cons] at h
    rw [List.pairwise_cons] at h3
    rw [gStep] at h
    split at h
    · exact grp_sorted h h1 h0 (fun x hx => h2 x (List.mem_cons_of_mem _ hx)) h3.2
    · split at h
      · rename_i c
        refine grp_sorted h ?_ ?_ ?_ h3.2
        · rw [List.pairwise_append]
          refine ⟨h1, List.pairwise_singleton _ _, fun a ha b hb => ?_⟩
          obtain rfl : b = [w] := by simpa using hb
          have := h2 w List.mem_cons_self a ha
          show _ < w.getD 2 0
          rw [c]
          exact this
        · intro g hg
          rcases List.mem_append.mp hg with hg | hg
          · exact h0 g hg
          · obtain rfl : g = [w] := by simpa using hg
            simp
        · intro x hx g hg
          rcases List.mem_append.mp hg with hg | hg
          · exact h2 x (List.mem_cons_of_mem _ hx) g hg
          · obtain rfl : g = [w] := by simpa using hg
            show w.getD 2 0 < _
            rw [c]
            exact h3.1 x hx
      · cases e : acc.reverse with
        | nil => rw [e] at h; cases h
        | cons g gs =>
          rw [e] at h
          have ea : acc = gs.reverse ++ [g] := by rw [← List.reverse_reverse acc, e, List.reverse_cons]
          have hg0 : g ≠ [] := h0 g (by rw [ea]; simp)
          have hbe : begOf (g ++ [w]) = begOf g := by unfold begOf; rw [headD_snoc w hg0]
          refine grp_sorted (acc := gs.reverse ++ [g ++ [w]]) h ?_ ?_ ?_ h3.2
          · rw [ea, List.pairwise_append] at h1
            rw [List.pairwise_append]
            refine ⟨h1.1, List.pairwise_singleton _ _, fun a ha b hb => ?_⟩
            obtain rfl : b = g ++ [w] := by simpa using hb
            rw [hbe]
            exact h1.2.2 a ha g (by simp)
          · intro x hx
            rcases List.mem_append.mp hx with hx | hx
            · exact h0 x (by rw [ea]; exact List.mem_append_left _ hx)
            · obtain rfl : x = g ++ [w] := by simpa using hx
              simp
          · intro x hx y hy
            rcases List.mem_append.mp hy with hy | hy
            · exact h2 x (List.mem_cons_of_mem _ hx) y (by rw [ea]; exact List.mem_append_left _ hy)
            · obtain rfl : y = g ++ [w] := by simpa using hy
              rw [hbe]
              exact h2 x (List.mem_cons_of_mem _ hx) g (by rw [ea]; simp)
theorem View.sorted {n : Nat} {ws : List (List Int)} {num flo : Int} {torn : Option Int} {gs : List (List (List Int))} (v : View n ws num flo torn gs) : gs.Pairwise (fun a b => begOf a < begOf b) := by
  refine grp_sorted v.gr List.Pairwise.nil (fun _ h => nomatch h) (fun _ _ _ h => nomatch h) ?_
  unfold useB
  rw [List.pairwise_map]
  refine List.Pairwise.imp_of_mem ?_ List.pairwise_lt_range
  intro a b ha hb hab
  rw [List.mem_range] at ha hb
  rw [(blkOf_num v (k := flo + 1 + a) (by omega) (by omega)).1, (blkOf_num v (k := flo + 1 + b) (by omega) (by omega)).1]
  omega
def floorU (rows : List (Int × List Int)) (num : Int) : Int := match rows with
  | [] => num
  | r :: _ => r.1 - 1
/-- the log's state, and the disk's words -/
def MInv (n : Nat) (ws : List (List Int)) (num flo : Int) (torn : Option Int) (rows : List (Int × List Int)) (cut : List Int) : Prop := ∃ gs, View n ws num flo torn gs ∧ rowsIn gs = rows ∧ cutIn gs = cut
theorem MInv.sorted {n : Nat} {ws : List (List Int)} {num flo : Int} {torn : Option Int} {rows : List (Int × List Int)} {cut : List Int} (h : MInv n ws num flo torn rows cut) : rows.Pairwise (fun a b => a.1 < b.1) := by
  obtain ⟨gs, v, rfl, _⟩ := h
  unfold rowsIn
  rw [List.pairwise_map]
  exact v.sorted.sublist List.filter_sublist
theorem MInv.begs {n : Nat} {ws : List (List Int)} {num flo : Int} {torn : Option Int} {rows : List (Int × List Int)} {cut : List Int} (h : MInv n ws num flo torn rows cut) : ∀ r ∈ rows, flo < r.1 ∧ r.1 ≤ num := by
  obtain ⟨gs, v, rfl, _⟩ := h
  intro r hr
  obtain ⟨g, hg, rfl⟩ := List.mem_map.mp hr
  have := v.heads g (List.mem_filter.mp hg).1
  exact ⟨this.2.2.2.1, this.2.2.2.2.1⟩
/-- a floor that may be written: of some rows that stand, the newest ones -/
structure FloorOk (rows later : List (Int × List Int)) (num f : Int) : Prop where
  is : f = floorU later num
  suf : ∃ pre, rows = pre ++ later
theorem MInv.floor {n : Nat} {ws : List (List Int)} {num flo f : Int} {torn : Option Int} {rows later : List (Int × List Int)} {gs : List (List (List Int))} (v : View n ws num flo torn gs) (hr : rowsIn gs = rows) (h : FloorOk rows later num f) :
    flo ≤ f ∧ f ≤ num ∧ (f = num ∨ ∃ g ∈ gs, begOf g = f + 1) ∧ rowsIn (over f gs) = later := by
  have hs := MInv.sorted ⟨gs, v, hr, rfl⟩
  have hb := MInv.begs ⟨gs, v, hr, rfl⟩
  obtain ⟨pre, hp⟩ := h.suf
  have f1 := v.f1
  rw [rowsIn_over, hr]
  cases later with
  | nil =>
    have hf : f = num := h.is
    refine ⟨by omega, by omega, .inl hf, filter_none fun r hr => decide_eq_false ?_⟩
    have := hb r hr
    omega
  | cons r rest =>
    have hf : f = r.1 - 1 := h.is
    have hm : r ∈ rows := by rw [hp]; simp
    have hb' := hb r hm
    rw [hp, List.pairwise_append, List.pairwise_cons] at hs
    refine ⟨by omega, by omega, .inr ?_, ?_⟩
    · rw [← hr] at hm
      obtain ⟨g, hg, e⟩ := List.mem_map.mp hm
      exact ⟨g, (List.mem_filter.mp hg).1, by rw [hf, ← e]; show _ = begOf g - 1 + 1; omega⟩
    · rw [hp, List.filter_append, filter_none, filter_all, List.nil_append]
      · intro x hx
        rcases List.mem_cons.mp hx with hx | hx
        · rw [hx]; exact decide_eq_true (by omega)
        · have := hs.2.1.1 x hx
          exact decide_eq_true (by omega)
      · intro x hx
        have := hs.2.2 x hx r List.mem_cons_self
        exact decide_eq_false (by omega)
/-- the disk's words behind writes of the next blocks -/
def putWs (n : Nat) : List (List Int) → Int → List (List Int) → List (List Int)
  | ws, _, [] => ws
  | ws, num, b :: bs => putWs n (ws.set ((num + 1) % n).toNat b) (num + 1) bs
theorem putWs_snoc (n : Nat) (b : List Int) : ∀ (bs ws : List (List Int)) (num : Int), putWs n ws num (bs ++ [b]) = (putWs n ws num bs).set ((num + bs.length + 1) % n).toNat b
  | [], ws, num => by simp [putWs]
  | a :: bs, ws, num => by
    rw [List.cons_append, putWs, putWs_snoc n b bs, putWs]
    congr 3
    rw [List.length_cons]
    push_cast
    omega
theorem putWs_len (n : Nat) : ∀ (bs ws : List (List Int)) (num : Int), (putWs n ws num bs).length = ws.length
  | [], ws, num => rfl
  | a :: bs, ws, num => by rw [putWs, putWs_len n bs, List.length_set]

def sp_blocks_of_use (K : PySem.W.Frag) (Z : Ad) : Sp := fun vs H Q _ => ∃ (d : Addr) (s : DS) (num flo : Int) (torn : Option Int) (gs : List (List (List Int))), vs = [.ref d, .int num] ∧ Holds H (diskL Z d s) ∧ s.Ok ∧ View s.ws.length s.ws num flo torn gs ∧ num ≤ 1000000000000000 ∧
  ∀ (D : Addr) (pb : List (Addr × List Int)) (r' : Int) (H' : Hp), pb.map Prod.snd = useB s.ws.length s.ws flo num → s.r ≤ r' → r' ≤ s.r + (num - flo) → Frm (diskL Z d s) ((D, .lst (pb.map rf)) :: (bL pb ++ diskL Z d { s with r := r' })) H H' → Q (.ref D) H'
theorem sc_blocks_of_use : FnScope ["disk", "number", "many", "last", "found", "earlier"] ["disk", "number"] (defScope st_blocks_of_use) := ⟨rfl, rfl, rfl, by decide +kernel, rfl, by decide +kernel, by decide +kernel⟩
def sp_floor_under (K : PySem.W.Frag) (_ : Ad) : Sp := fun vs H Q _ => ∃ (a : Addr) (xs : List RA) (num : Int), vs = [.ref a, .int num] ∧ Holds H ((a, .lst (xs.map tf)) :: rL xs) ∧ ∀ H', Upto [] H H' → Q (.int (floorU (xs.map Prod.snd) num)) H'
theorem sc_floor_under : FnScope ["rows", "number", "begin", "_"] ["rows", "number"] (defScope st_floor_under) := ⟨rfl, rfl, rfl, by decide +kernel, rfl, by decide +kernel, by decide +kernel⟩
/-! ### a log, as it stands in the heap -/
structure LS where
  dx : Addr
  d : Addr
  num : Int
  torn : Option Int
  ca : Addr
  cut : List Int
  gone : Bool
  ra : Addr
  rows : List RA
def lF (l : LS) : List (Str × V) := [("_disk", .ref l.d), ("_number", .int l.num), ("_torn", ltV l.torn), ("_cut", .ref l.ca), ("_gone", .bl l.gone), ("_rows", .ref l.ra)]
def logL (Z : Ad) (lg : Addr) (l : LS) : List (Addr × HO) := (lg, .ins Z.Log l.dx (lF l)) :: (l.dx, .own lg) :: (l.ca, .lst (l.cut.map V.int)) :: (l.ra, .lst (l.rows.map tf)) :: rL l.rows
def LS.rw (l : LS) : List (Int × List Int) := l.rows.map Prod.snd

def sp_Log___init__ (K : PySem.W.Frag) (Z : Ad) : Sp := fun vs H Q _ => ∃ (x dx d : Addr) (s : DS) (num flo : Int) (torn : Option Int) (gs : List (List (List Int))), vs = [.ref x, .ref d] ∧ Holds H ((x, .ins Z.Log dx []) :: (dx, .own x) :: diskL Z d s) ∧ s.Ok ∧ View s.ws.length s.ws num flo torn gs ∧ num ≤ 1000000000000000 ∧
  ∀ (ca ra : Addr) (xs : List RA) (r' : Int) (H' : Hp), xs.map Prod.snd = (if goneB s.ws.length s.ws num = true then [] else rowsIn gs) → s.r ≤ r' → r' ≤ s.r + 2 + (bitsI ((s.ws.length : Int) - 1) : Nat) + (num - flo) →
    Frm ((x, .ins Z.Log dx []) :: (dx, .own x) :: diskL Z d s) (logL Z x ⟨dx, d, num, torn, ca, cutIn gs, goneB s.ws.length s.ws num, ra, xs⟩ ++ diskL Z d { s with r := r' }) H H' → Q .non H'
theorem perm_a {α : Type} (r c x d : α) (L : List α) : (x :: d :: c :: r :: L).Perm (r :: c :: x :: d :: L) := by
  have h1 : ([x, d] ++ ([c, r] ++ L)).Perm ([c, r] ++ ([x, d] ++ L)) := by
    rw [← List.append_assoc, ← List.append_assoc]
    exact List.Perm.append_right _ List.perm_append_comm
  exact h1.trans (List.Perm.swap _ _ _)
theorem perm_b {α : Type} (r c x d : α) (A L : List α) : (x :: d :: c :: r :: (A ++ L)).Perm (r :: (A ++ (c :: x :: d :: L))) := by
  have h1 : ([x, d, c, r] ++ (A ++ L)).Perm (([r] ++ A) ++ ([c, x, d] ++ L)) := by
    have e1 : [x, d, c, r] ++ (A ++ L) = ([x, d, c] ++ ([r] ++ A)) ++ L := by simp
    have e2 : ([r] ++ A) ++ ([c, x, d] ++ L) = (([r] ++ A) ++ [c, x, d]) ++ L := by simp
    rw [e1, e2]
    refine List.Perm.append_right _ (List.perm_append_comm.trans (List.Perm.append_left _ ?_))
    exact (List.Perm.cons _ (List.Perm.swap _ _ _)).trans (List.Perm.swap _ _ _) |>.trans (List.Perm.refl _)
  exact h1
theorem sc_Log___init__ : FnScope ["self", "disk", "number", "torn", "blocks"] ["self", "disk"] (defScope st_Log___init__) := ⟨rfl, rfl, rfl, by decide +kernel, rfl, by decide +kernel, by decide +kernel⟩
def sp_Log_rows (K : PySem.W.Frag) (Z : Ad) : Sp := fun vs H Q _ => ∃ (lg : Addr) (l : LS), vs = [.ref lg] ∧ Holds H (logL Z lg l) ∧ l.rows.length ≤ 1000 ∧
  ∀ (D : Addr) (qs : List Addr) (H' : Hp), qs.length = l.rows.length → Hs [] H H' ((D, .lst (qs.map V.ref)) :: rowsL qs (l.rows.map fun x => x.2.2)) [] → Q (.ref D) H'
theorem sc_Log_rows : FnScope ["self", "_", "row"] ["self"] (defScope st_Log_rows) := ⟨rfl, rfl, rfl, by decide +kernel, rfl, by decide +kernel, by decide +kernel⟩
def sp_Log_room (K : PySem.W.Frag) (Z : Ad) : Sp := fun vs H Q _ => ∃ (lg : Addr) (l : LS) (s : DS), vs = [.ref lg] ∧ Holds H (logL Z lg l ++ diskL Z l.d s) ∧ s.Ok ∧ ∀ H', Upto [] H H' → Q (.int ((s.ws.length : Int) - 1 - (l.num - floorU l.rw l.num))) H'
theorem sc_Log_room : FnScope ["self", "floor"] ["self"] (defScope st_Log_room) := ⟨rfl, rfl, rfl, by decide +kernel, rfl, by decide +kernel, by decide +kernel⟩
def sp_Log_gone (K : PySem.W.Frag) (Z : Ad) : Sp := fun vs H Q _ => ∃ (lg : Addr) (l : LS), vs = [.ref lg] ∧ Holds H (logL Z lg l) ∧ Q (.bl l.gone) H
theorem sc_Log_gone : FnScope ["self"] ["self"] (defScope st_Log_gone) := ⟨rfl, rfl, rfl, by decide +kernel, rfl, by decide +kernel, by decide +kernel⟩
def sp_Log__need_here (K : PySem.W.Frag) (Z : Ad) : Sp := fun vs H Q E => ∃ (lg : Addr) (l : LS), vs = [.ref lg] ∧ Holds H (logL Z lg l) ∧ (l.gone = true → E (.ref Z.Gone) none H) ∧ (l.gone = false → Q .non H)
theorem sc_Log__need_here : FnScope ["self"] ["self"] (defScope st_Log__need_here) := ⟨rfl, rfl, rfl, by decide +kernel, rfl, by decide +kernel, by decide +kernel⟩
def blockB (items : List V) : Bool := decide (items.length = 8) && items.all fun v => wholeB v 0 1000000000000000
theorem blockB_ints {items : List V} (h : blockB items = true) : ∃ w : List Int, items = w.map V.int ∧ w.length = 8 := by
  simp only [blockB, Bool.and_eq_true, decide_eq_true_eq, List.all_eq_true] at h
  obtain ⟨h1, h2⟩ := h
  have : ∀ l : List V, (∀ x ∈ l, wholeB x 0 1000000000000000 = true) → ∃ w : List Int, l = w.map V.int := by
    intro l
    induction l with
    | nil => exact fun _ => ⟨[], rfl⟩
    | cons x l ih =>
      intro hx
      obtain ⟨w, rfl⟩ := ih fun y hy => hx y (List.mem_cons_of_mem _ hy)
      obtain ⟨i, rfl, _⟩ := wholeB_int (hx x List.mem_cons_self)
      exact ⟨i :: w, rfl⟩
  obtain ⟨w, rfl⟩ := this items h2
  exact ⟨w, rfl, by rw [← h1, List.length_map]⟩
def sp_is_block (K : PySem.W.Frag) (_ : Ad) : Sp := fun vs H Q _ => ∃ (a : Addr) (b : Bool) (items : List V), vs = [.ref a] ∧ H a = some (if b then .lst items else .tup items) ∧ (∀ x ∈ items, FlatV x) ∧ items.length ≤ 1000 ∧
  ∀ H', Upto [] H H' → Q (.bl (b && blockB items)) H'
theorem sc_is_block : FnScope ["words", "word"] ["words"] (defScope st_is_block) := ⟨rfl, rfl, rfl, by decide +kernel, rfl, by decide +kernel, by decide +kernel⟩
theorem s_is_block {W : List Addr} {H0 H : Hp} {M I : List (Addr × HO)} {a : Addr} {b : Bool} {items : List V} {Q : VK} {E : XK} (hs : Hs W H0 H M I) (h1 : H a = some (if b then .lst items else .tup items)) (hf : ∀ x ∈ items, FlatV x) (hz : items.length ≤ 1000)
    (h : ∀ H', Hs W H0 H' M I → Upto [] H H' → Q (.bl (b && blockB items)) H') : sp_is_block K Z [.ref a] H Q E := ⟨a, b, items, rfl, h1, hf, hz, fun H' u => h H' (hs.call0 u) u⟩
def sp_Disk__write_part (K : PySem.W.Frag) (Z : Ad) : Sp := fun vs H Q _ => ∃ (d wa : Addr) (s : DS) (i : Nat) (w : List Int), vs = [.ref d, .int i, .ref wa] ∧ Holds H ((wa, .lst (w.map V.int)) :: diskL Z d s) ∧ s.Ok ∧ i < s.ws.length ∧ w.length = 8 ∧ 0 ≤ s.p ∧ s.p ≤ 7 ∧
  (∀ (bs : List Addr) (H' : Hp), bs.length = s.bs.length → Frm (diskL Z d s) (diskL Z d { s with bs := bs, ws := s.ws.set i (mixW s.p w (s.ws.getD i [])), p := 0 }) H H' → Q .non H')
theorem sc_Disk__write_part : FnScope ["self", "place", "words"] ["self", "place", "words"] (defScope st_Disk__write_part) := ⟨rfl, rfl, rfl, by decide +kernel, rfl, by decide +kernel, by decide +kernel⟩
def sp_Disk_write (K : PySem.W.Frag) (Z : Ad) : Sp := fun vs H Q E => ∃ (d wa : Addr) (s : DS) (v : V) (l : Bool) (items : List V), vs = [.ref d, v, .ref wa] ∧ Holds H ((wa, if l then .lst items else .tup items) :: diskL Z d s) ∧ s.Ok ∧ FlatV v ∧ (∀ x ∈ items, FlatV x) ∧ items.length ≤ 1000 ∧ 0 ≤ s.p ∧ s.p ≤ 7 ∧
  (wholeB v 0 (s.ws.length - 1) = false → E (.ref Z.NoBlock) none H) ∧
  (wholeB v 0 (s.ws.length - 1) = true → (l && blockB items) = false → ∀ H', Upto [] H H' → E (.ref Z.BadBlock) none H') ∧
  (∀ (i : Nat) (w : List Int), v = .int i → i < s.ws.length → l = true → items = w.map V.int → w.length = 8 → blockB items = true →
    (s.lt = some 0 → ∀ (bs : List Addr) (H' : Hp), bs.length = s.bs.length → Frm (diskL Z d s) (diskL Z d { s with bs := bs, ws := s.ws.set i (mixW s.p w (s.ws.getD i [])), p := 0 }) H H' → E (.ref Z.Stopped) none H') ∧
    (s.lt ≠ some 0 → ∀ (bs : List Addr) (H' : Hp), bs.length = s.bs.length → Frm (diskL Z d s) (diskL Z d { s with bs := bs, ws := s.ws.set i w, w := s.w + 1, lt := s.lt.map (· - 1) }) H H' → Q .non H'))
theorem sc_Disk_write : FnScope ["self", "place", "words"] ["self", "place", "words"] (defScope st_Disk_write) := ⟨rfl, rfl, rfl, by decide +kernel, rfl, by decide +kernel, by decide +kernel⟩
def sp_Log__write (K : PySem.W.Frag) (Z : Ad) : Sp := fun vs H Q E => ∃ (lg wa : Addr) (l : LS) (s : DS) (b : List Int), vs = [.ref lg, .ref wa] ∧ Holds H ((wa, .lst (b.map V.int)) :: (lg, .ins Z.Log l.dx (lF l)) :: diskL Z l.d s) ∧ s.Ok ∧ b.length = 8 ∧ blockB (b.map V.int) = true ∧ 0 ≤ s.p ∧ s.p ≤ 7 ∧
  (s.lt = some 0 → ∀ (bs : List Addr) (H' : Hp), bs.length = s.bs.length → Frm (diskL Z l.d s) (diskL Z l.d { s with bs := bs, ws := s.ws.set (b.getD 0 0 % s.ws.length).toNat (mixW s.p b (s.ws.getD (b.getD 0 0 % s.ws.length).toNat [])), p := 0 }) H H' → E (.ref Z.Stopped) none H') ∧
  (s.lt ≠ some 0 → ∀ (bs : List Addr) (H' : Hp), bs.length = s.bs.length → Frm (diskL Z l.d s) (diskL Z l.d { s with bs := bs, ws := s.ws.set (b.getD 0 0 % s.ws.length).toNat b, w := s.w + 1, lt := s.lt.map (· - 1) }) H H' → Q .non H')
theorem sc_Log__write : FnScope ["self", "words"] ["self", "words"] (defScope st_Log__write) := ⟨rfl, rfl, rfl, by decide +kernel, rfl, by decide +kernel, by decide +kernel⟩
def sp_Log__wrote (K : PySem.W.Frag) (Z : Ad) : Sp := fun vs H Q _ => ∃ (lg : Addr) (l : LS) (n f : Int), vs = [.ref lg, .int n, .int f] ∧ Holds H (logL Z lg l) ∧ l.cut.length ≤ 1000 ∧
  ∀ (ca : Addr) (H' : Hp), Frm (logL Z lg l) (logL Z lg { l with num := n, torn := none, ca := ca, cut := l.cut.filter fun b => decide (f < b) }) H H' → Q .non H'
theorem sc_Log__wrote : FnScope ["self", "number", "floor", "begin"] ["self", "number", "floor"] (defScope st_Log__wrote) := ⟨rfl, rfl, rfl, by decide +kernel, rfl, by decide +kernel, by decide +kernel⟩
/-- some of a row's blocks are written -/
theorem View.puts {n : Nat} {ws : List (List Int)} {num flo f : Int} {torn : Option Int} {gs : List (List (List Int))} {rows : List (Int × List Int)} (v : View n ws num flo torn gs) (hr : rowsIn gs = rows) (hf : f = floorU rows num) {row : List Int} (hk : ((pcs row).length : Int) ≤ n - 1 - (num - f)) :
    ∀ j : Nat, 0 < j → j ≤ (pcs row).length → View n (putWs n ws num ((rowB row f (num + 1)).take j)) (num + j) f none (over f gs ++ [(rowB row f (num + 1)).take j]) := by
  have hfl := MInv.floor v hr (f := f) (later := rows) ⟨hf, [], rfl⟩
  intro j
  induction j with
  | zero => intro h; omega
  | succ j ih =>
    intro _ hj
    obtain ⟨w, hw⟩ : ∃ w, (rowB row f (num + 1))[j]? = some w := ⟨_, List.getElem?_eq_getElem (by rw [rowB_len]; omega)⟩
    obtain ⟨hb, h2, h3⟩ := rowB_blk hw
    have hlen : ((rowB row f (num + 1)).take j).length = j := by rw [List.length_take, rowB_len]; omega
    rw [take_snoc hw, putWs_snoc, hlen]
    by_cases hj0 : j = 0
    · subst hj0
      simp only [List.take_zero, List.nil_append, putWs, Int.ofNat_zero, Int.add_zero] at hb ⊢
      have e2 : num + ((0 + 1 : Nat) : Int) = num + 1 := by omega
      rw [e2]
      have hb' : Blk w (num + 1) f := hb
      refine v.write hb' hfl.1 hfl.2.1 hfl.2.2.1 (by omega) ?_
      have f0 := v.f0
      have f1 := v.f1
      have n4 := v.n4
      rw [gStep, if_neg (by rw [h2]; omega), if_pos (by rw [h2, hb'.first])]
    · have ih' := ih (by omega) (by omega)
      have e1 : num + ((j + 1 : Nat) : Int) = num + (j : Int) + 1 := by push_cast; omega
      rw [e1]
      have hb' : Blk w (num + (j : Int) + 1) f := by
        have : num + 1 + (j : Int) = num + (j : Int) + 1 := by omega
        rw [← this]
        exact hb
      have f0 := v.f0
      have f1 := v.f1
      have n4 := v.n4
      exact ih'.writeOn hb' (by rw [h2]; omega) (by rw [h2]; omega) (by omega)
theorem MInv.putOk {n : Nat} {ws : List (List Int)} {num flo f : Int} {torn : Option Int} {rows : List (Int × List Int)} {cut : List Int} (h : MInv n ws num flo torn rows cut) (hf : f = floorU rows num) {row : List Int} (hk : ((pcs row).length : Int) ≤ n - 1 - (num - f)) :
    MInv n (putWs n ws num (rowB row f (num + 1))) (num + ((pcs row).length : Nat)) f none (rows ++ [(num + 1, row)]) (cut.filter fun b => decide (f < b)) := by
  obtain ⟨gs, v, hr, hc⟩ := h
  have hl : 0 < (pcs row).length := by rw [pcs_len]; omega
  have q := v.puts hr hf hk (pcs row).length hl (Nat.le_refl _)
  have hfl := MInv.floor v hr (f := f) (later := rows) ⟨hf, [], rfl⟩
  have hla := rowB_last (row := row) (f := f) (b := num + 1) hl (Nat.le_refl _)
  have hbe := rowB_beg (row := row) (f := f) (b := num + 1) hl
  have e : (rowB row f (num + 1)).take (pcs row).length = rowB row f (num + 1) := List.take_of_length_le (by rw [rowB_len]; exact Nat.le_refl _)
  rw [e] at q hla hbe
  rw [decide_eq_true rfl] at hla
  refine ⟨_, q, ?_, ?_⟩
  · rw [rowsIn_snoc, hfl.2.2.2, if_pos hla, hbe, rowB_words]
  · rw [cutIn_snoc, if_pos hla, cutIn_over, hc, List.append_nil]
theorem MInv.tear {n : Nat} {ws : List (List Int)} {num flo : Int} {torn : Option Int} {rows : List (Int × List Int)} {cut : List Int} (h : MInv n ws num flo torn rows cut) {b : List Int} {p : Int} (hb : b.length = 8) (h0 : b.getD 0 0 = num + 1) (hp0 : 0 ≤ p) (hp7 : p ≤ 7) :
    MInv n (ws.set ((num + 1) % n).toNat (mixB p b (ws.getD ((num + 1) % n).toNat []))) num flo (if 0 < p then some ((num + 1) % n) else torn) rows cut := by
  obtain ⟨gs, v, hr, hc⟩ := h
  exact ⟨gs, v.tear hb h0 hp0 hp7, hr, hc⟩
/-- t blocks of a row are written, no more -/
theorem MInv.putPart {n : Nat} {ws : List (List Int)} {num flo f : Int} {torn : Option Int} {rows : List (Int × List Int)} {cut : List Int} (h : MInv n ws num flo torn rows cut) (hf : f = floorU rows num) {row : List Int} (hk : ((pcs row).length : Int) ≤ n - 1 - (num - f)) {t : Nat} (ht : t < (pcs row).length) :
    MInv n (putWs n ws num ((rowB row f (num + 1)).take t)) (num + (t : Nat)) (if t = 0 then flo else f) (if t = 0 then torn else none) rows (if t = 0 then cut else (cut.filter fun b => decide (f < b)) ++ [num + 1]) := by
  by_cases h0 : t = 0
  · subst h0
    have e : num + ((0 : Nat) : Int) = num := by omega
    rw [if_pos rfl, if_pos rfl, if_pos rfl, e]
    exact h
  · rw [if_neg h0, if_neg h0, if_neg h0]
    obtain ⟨gs, v, hr, hc⟩ := h
    have hfl := MInv.floor v hr (f := f) (later := rows) ⟨hf, [], rfl⟩
    have q := v.puts hr hf hk t (by omega) (by omega)
    have hla := rowB_last (row := row) (f := f) (b := num + 1) (j := t) (by omega) (by omega)
    rw [decide_eq_false (by omega)] at hla
    have hbe := rowB_beg (row := row) (f := f) (b := num + 1) (j := t) (by omega)
    refine ⟨_, q, ?_, ?_⟩
    · rw [rowsIn_snoc, hfl.2.2.2, if_neg (by rw [hla]; decide), List.append_nil]
    · rw [cutIn_snoc, if_neg (by rw [hla]; decide), cutIn_over, hc, hbe]
/-- a mark, by which the rows ahead are taken -/
theorem MInv.mark {n : Nat} {ws : List (List Int)} {num flo f : Int} {torn : Option Int} {rows later : List (Int × List Int)} {cut : List Int} (h : MInv n ws num flo torn rows cut) (hf : FloorOk rows later num f) (hk : num + 1 - f ≤ n - 1) {left : Int} :
    MInv n (ws.set ((num + 1) % n).toNat [num + 1, f, 0, left, 0, 0, 0, num + 1]) (num + 1) f none later (cut.filter fun b => decide (f < b)) := by
  obtain ⟨gs, v, hr, hc⟩ := h
  obtain ⟨a1, a2, a3, a4⟩ := MInv.floor v hr hf
  exact ⟨over f gs, v.write ⟨rfl, rfl, rfl, rfl⟩ a1 a2 a3 hk rfl, a4, by rw [cutIn_over, hc]⟩
theorem MInv.room {n : Nat} {ws : List (List Int)} {num flo : Int} {torn : Option Int} {rows : List (Int × List Int)} {cut : List Int} (h : MInv n ws num flo torn rows cut) : flo ≤ floorU rows num ∧ floorU rows num ≤ num ∧ num - floorU rows num ≤ n - 1 := by
  obtain ⟨gs, v, hr, hc⟩ := h
  obtain ⟨a1, a2, a3, a4⟩ := MInv.floor v hr (f := floorU rows num) (later := rows) ⟨rfl, [], rfl⟩
  have := v.f2
  exact ⟨a1, a2, by omega⟩
/-- the floor behind a take leaves a block for the mark -/
theorem MInv.takeRoom {n : Nat} {ws : List (List Int)} {num flo : Int} {torn : Option Int} {r : Int × List Int} {later : List (Int × List Int)} {cut : List Int} (h : MInv n ws num flo torn (r :: later) cut) : FloorOk (r :: later) later num (floorU later num) ∧ num + 1 - floorU later num ≤ n - 1 := by
  refine ⟨⟨rfl, [r], rfl⟩, ?_⟩
  have hs := h.sorted
  have hb := h.begs r List.mem_cons_self
  obtain ⟨gs, v, hr, hc⟩ := h
  have f2 := v.f2
  have n4 := v.n4
  rw [List.pairwise_cons] at hs
  cases later with
  | nil => show num + 1 - num ≤ _; omega
  | cons x xs =>
    have := hs.1 x List.mem_cons_self
    show num + 1 - (x.1 - 1) ≤ _
    omega
/-- a fresh disk -/
theorem getD_rep {n i : Nat} {w : List Int} (h : i < n) : (List.replicate n w).getD i [] = w := by
  rw [List.getD_eq_getElem?_getD, List.getElem?_replicate, if_pos h]
  rfl
theorem MInv.fresh {n : Nat} (h4 : 4 ≤ n) (h64 : n ≤ 64) : MInv n (List.replicate n (List.replicate 8 0)) (n - 1) (n - 1) none [] [] := by
  refine ⟨[], ⟨⟨Int.le_refl _, fun i k hi h1 h2 h3 _ => ?_, fun t ht => by cases ht⟩, h4, h64, List.length_replicate, fun w hw => ?_, Int.le_refl _, Int.le_refl _, by omega, fun h => by omega, ?_⟩, rfl, rfl⟩
  · rw [getD_rep hi, if_neg (by omega)]
    exact ⟨rfl, rfl⟩
  · rw [(List.mem_replicate.mp hw).2, List.length_replicate]
  · rw [useB_nil (Int.le_refl _)]
    rfl

theorem mixB_eq : mixB = mixW := rfl
theorem blockB_of {b : List Int} (h : b.length = 8) (h2 : ∀ x ∈ b, 0 ≤ x ∧ x ≤ 1000000000000000) : blockB (b.map V.int) = true := by
  simp only [blockB, Bool.and_eq_true, decide_eq_true_eq, List.all_eq_true, List.length_map]
  refine ⟨h, fun v hv => ?_⟩
  obtain ⟨x, hx, rfl⟩ := List.mem_map.mp hv
  have := h2 x hx
  simp only [wholeB, Bool.and_eq_true, decide_eq_true_eq]
  exact this
/-- the disk behind some writes that are let be -/
def dPut (s : DS) (bs : List Addr) (num : Int) (bl : List (List Int)) : DS := { s with bs := bs, ws := putWs s.ws.length s.ws num bl, w := s.w + (bl.length : Nat), lt := s.lt.map (· - (bl.length : Nat)) }
/-- and behind one more that meets the stop -/
def dCut (s : DS) (bs : List Addr) (num : Int) (bl : List (List Int)) (b : List Int) : DS :=
  { s with bs := bs, ws := (putWs s.ws.length s.ws num bl).set ((num + bl.length + 1) % s.ws.length).toNat (mixB s.p b ((putWs s.ws.length s.ws num bl).getD ((num + bl.length + 1) % s.ws.length).toNat [])), w := s.w + (bl.length : Nat), lt := some 0, p := 0 }
theorem dPut_ok {s : DS} {bs : List Addr} {num : Int} {bl : List (List Int)} (ok : s.Ok) (hb : bs.length = s.bs.length) (h8 : ∀ b ∈ bl, b.length = 8) : (dPut s bs num bl).Ok := by
  refine ⟨?_, ?_, ?_, ?_⟩
  · show bs.length = (putWs _ _ _ _).length
    rw [putWs_len, hb, ok.len]
  · show 4 ≤ (putWs _ _ _ _).length
    rw [putWs_len]; exact ok.lo
  · show (putWs _ _ _ _).length ≤ 64
    rw [putWs_len]; exact ok.hi
  · show ∀ w ∈ putWs _ _ _ _, _
    have : ∀ (bl ws : List (List Int)) (num : Int), (∀ b ∈ bl, b.length = 8) → (∀ w ∈ ws, w.length = 8) → ∀ w ∈ putWs s.ws.length ws num bl, w.length = 8 := by
      intro bl
      induction bl with
      | nil => intro ws num _ h; exact h
      | cons b bl ih =>
        intro ws num hb hw
        refine ih _ _ (fun x hx => hb x (List.mem_cons_of_mem _ hx)) fun w hw2 => ?_
        rcases mem_set' hw2 with hw2 | hw2
        · exact hw w hw2
        · rw [hw2]; exact hb b List.mem_cons_self
    exact this bl s.ws num h8 ok.each
/-- a log and what stands behind it -/
def logC (Z : Ad) (lg : Addr) (l : LS) (C : List (Addr × HO)) : List (Addr × HO) := (lg, .ins Z.Log l.dx (lF l)) :: (l.dx, .own lg) :: (l.ca, .lst (l.cut.map V.int)) :: (l.ra, .lst (l.rows.map tf)) :: (rL l.rows ++ C)
theorem logC_eq (Z : Ad) (lg : Addr) (l : LS) (C : List (Addr × HO)) : logL Z lg l ++ C = logC Z lg l C := rfl
theorem logC_sub (Z : Ad) (lg : Addr) (l : LS) {C C' : List (Addr × HO)} (h : C'.Sublist C) : (logC Z lg l C').Sublist (logC Z lg l C) := .cons₂ _ (.cons₂ _ (.cons₂ _ (.cons₂ _ (List.Sublist.append (List.Sublist.refl _) h))))
theorem logC_log (Z : Ad) (lg : Addr) (l : LS) (C : List (Addr × HO)) : (logL Z lg l).Sublist (logC Z lg l C) := List.sublist_append_left _ _
theorem logC_C (Z : Ad) (lg : Addr) (l : LS) (C : List (Addr × HO)) : C.Sublist (logC Z lg l C) := List.sublist_append_right (logL Z lg l) _
/-- the bounds of a row's blocks -/
theorem rowB_ok {row : List Int} {f b : Int} {i : Nat} {w : List Int} (h : (rowB row f b)[i]? = some w) (hr : ∀ x ∈ row, 0 ≤ x ∧ x ≤ 999999999) (hl : row.length ≤ 11) (hf : 0 ≤ f ∧ f ≤ 999999999999999) (hb : 0 ≤ b ∧ b ≤ 999999999999900) : w.length = 8 ∧ blockB (w.map V.int) = true ∧ w.getD 0 0 = b + i := by
  have hi : i < (pcs row).length := by
    have := (List.getElem?_eq_some_iff.mp h).1
    rwa [rowB_len] at this
  have hpl := pcs_len row
  have q := rowB_blk h
  refine ⟨q.1.len, ?_, q.1.first⟩
  have hp := List.getElem?_eq_getElem hi
  rw [rowB_get hp] at h
  have hx : ∀ x ∈ (pcs row)[i], 0 ≤ x ∧ x ≤ 999999999 := by
    have hm := List.getElem_mem hi
    unfold pcs at hm
    obtain ⟨j, _, e⟩ := List.mem_map.mp hm
    have dd : ∀ k, 0 ≤ dat row k ∧ dat row k ≤ 999999999 := by
      intro k
      unfold dat
      rw [List.getD_eq_getElem?_getD]
      cases e : ((row.length : Int) :: row)[k]? with
      | none => simp
      | some x =>
        have := List.mem_of_getElem? e
        rcases List.mem_cons.mp this with z | z
        · subst z
          show 0 ≤ (row.length : Int) ∧ (row.length : Int) ≤ _
          omega
        · exact hr x z
    intro x hx
    have e' : (pcs row)[i] = [dat row (3 * j), dat row (3 * j + 1), dat row (3 * j + 2)] := e.symm
    rw [e'] at hx
    simp only [List.mem_cons, List.not_mem_nil, or_false] at hx
    rcases hx with rfl | rfl | rfl <;> exact dd _
  refine blockB_of q.1.len fun x hxw => ?_
  rw [← Option.some.inj h] at hxw
  unfold madeL at hxw
  simp only [List.mem_cons, List.mem_append, List.not_mem_nil, or_false] at hxw
  rcases hxw with rfl | rfl | rfl | rfl | hxw | rfl
  · omega
  · omega
  · omega
  · omega
  · have := hx x hxw
    omega
  · omega
theorem logC_add (Z : Ad) (lg : Addr) (l : LS) (t p : Addr) (b : Int) (row : List Int) (C : List (Addr × HO)) : (logC Z lg { l with rows := l.rows ++ [((t, p), (b, row))] } C).Perm ((t, HO.tup [.int b, .ref p]) :: (p, .lst (row.map V.int)) :: (lg, .ins Z.Log l.dx (lF l)) :: (l.dx, .own lg) :: (l.ca, .lst (l.cut.map V.int)) :: (l.ra, .lst (l.rows.map tf ++ [V.ref t])) :: (rL l.rows ++ C)) := by
  unfold logC
  show ((lg, HO.ins Z.Log l.dx (lF l)) :: (l.dx, HO.own lg) :: (l.ca, HO.lst (l.cut.map V.int)) :: (l.ra, HO.lst ((l.rows ++ [((t, p), (b, row))]).map tf)) :: (rL (l.rows ++ [((t, p), (b, row))]) ++ C)).Perm _
  rw [rL_app, List.map_append, List.append_assoc]
  show (([(lg, HO.ins Z.Log l.dx (lF l)), (l.dx, HO.own lg), (l.ca, HO.lst (l.cut.map V.int)), (l.ra, HO.lst (l.rows.map tf ++ [V.ref t]))] ++ rL l.rows) ++ ([(t, HO.tup [.int b, .ref p]), (p, .lst (row.map V.int))] ++ C)).Perm ([(t, HO.tup [.int b, .ref p]), (p, .lst (row.map V.int))] ++ (([(lg, HO.ins Z.Log l.dx (lF l)), (l.dx, HO.own lg), (l.ca, HO.lst (l.cut.map V.int)), (l.ra, HO.lst (l.rows.map tf ++ [V.ref t]))] ++ rL l.rows) ++ C))
  rw [← List.append_assoc, ← List.append_assoc]
  exact List.Perm.append_right _ List.perm_append_comm
theorem dPut_nil (s : DS) (num : Int) : dPut s s.bs num [] = s := by
  cases s with
  | mk dx bl bs ws r w lt p =>
    show DS.mk dx bl bs ws r (w + ((0 : Nat) : Int)) (lt.map fun x => x - ((0 : Nat) : Int)) p = _
    congr 1
    · omega
    · cases lt with
      | none => rfl
      | some t => show some (t - ((0 : Nat) : Int)) = some t; congr 1; omega
theorem dPut_next {s : DS} {bs bs' : List Addr} {num : Int} {bl : List (List Int)} {b : List Int} (h0 : b.getD 0 0 = num + (bl.length : Nat) + 1) :
    ({ dPut s bs num bl with bs := bs', ws := (dPut s bs num bl).ws.set (b.getD 0 0 % ((dPut s bs num bl).ws.length : Nat)).toNat b, w := (dPut s bs num bl).w + 1, lt := (dPut s bs num bl).lt.map (· - 1) } : DS) = dPut s bs' num (bl ++ [b]) := by
  unfold dPut
  rw [putWs_snoc, List.length_append, List.length_singleton, h0]
  show DS.mk _ _ _ ((putWs s.ws.length s.ws num bl).set ((num + (bl.length : Nat) + 1) % ((putWs s.ws.length s.ws num bl).length : Nat)).toNat b) _ _ _ _ = _
  rw [putWs_len]
  congr 1
  · push_cast; omega
  · rw [Option.map_map]
    congr 1
    funext x
    show x - (bl.length : Nat) - 1 = x - ((bl.length + 1 : Nat) : Int)
    push_cast
    omega
theorem dCut_next {s : DS} {bs bs' : List Addr} {num : Int} {bl : List (List Int)} {b : List Int} (h0 : b.getD 0 0 = num + (bl.length : Nat) + 1) (hlt : (dPut s bs num bl).lt = some 0) :
    ({ dPut s bs num bl with bs := bs', ws := (dPut s bs num bl).ws.set (b.getD 0 0 % ((dPut s bs num bl).ws.length : Nat)).toNat (mixW (dPut s bs num bl).p b ((dPut s bs num bl).ws.getD (b.getD 0 0 % ((dPut s bs num bl).ws.length : Nat)).toNat [])), p := 0 } : DS) = dCut s bs' num bl b := by
  unfold dCut
  rw [h0]
  have e : (dPut s bs num bl).ws.length = s.ws.length := putWs_len _ _ _ _
  rw [e]
  show DS.mk _ _ _ _ _ _ (dPut s bs num bl).lt _ = _
  rw [hlt]
  rfl
theorem dPut_lt {s : DS} {bs : List Addr} {num : Int} {bl : List (List Int)} : (dPut s bs num bl).lt = some 0 ↔ s.lt = some ((bl.length : Nat) : Int) := by
  show s.lt.map (fun x : Int => x - ((bl.length : Nat) : Int)) = some 0 ↔ _
  cases s.lt with
  | none => simp
  | some t => simp; omega
theorem swapEnds {α : Type} (a b : α) (m R : List α) : (a :: (m ++ b :: R)).Perm (b :: (m ++ a :: R)) :=
  (List.Perm.cons _ List.perm_middle).trans ((List.Perm.swap _ _ _).trans (List.Perm.cons _ List.perm_middle.symm))
theorem swapFst {α : Type} (a : α) (m R : List α) : ((m ++ [a]) ++ R).Perm (a :: (m ++ R)) := by
  rw [List.append_assoc]
  exact List.perm_middle

def sp_Log_put (K : PySem.W.Frag) (Z : Ad) : Sp := fun vs H Q E => ∃ (lg wr : Addr) (l : LS) (s : DS) (row : List Int), vs = [.ref lg, .ref wr] ∧ Holds H ((wr, .lst (row.map V.int)) :: (logL Z lg l ++ diskL Z l.d s)) ∧ s.Ok ∧ 0 ≤ s.p ∧ s.p ≤ 7 ∧ (∀ t, s.lt = some t → 0 ≤ t) ∧
  row.length ≤ 11 ∧ (∀ x ∈ row, 0 ≤ x ∧ x ≤ 999999999) ∧ l.cut.length ≤ 1000 ∧ l.rows.length ≤ 1000 ∧ 0 ≤ l.num ∧ l.num ≤ 999999999999000 ∧ 0 ≤ floorU l.rw l.num ∧ floorU l.rw l.num ≤ l.num ∧
  (l.gone = true → E (.ref Z.Gone) none H) ∧
  (l.gone = false → (s.ws.length : Int) - 1 - (l.num - floorU l.rw l.num) < (pcs row).length → ∀ H', Upto [] H H' → E (.ref Z.Full) none H') ∧
  (l.gone = false → ((pcs row).length : Int) ≤ s.ws.length - 1 - (l.num - floorU l.rw l.num) →
    (∀ (t : Nat) (b : List Int) (bs : List Addr) (H' : Hp), s.lt = some (t : Int) → (rowB row (floorU l.rw l.num) (l.num + 1))[t]? = some b → bs.length = s.bs.length → Frm (logL Z lg l ++ diskL Z l.d s) (diskL Z l.d (dCut s bs l.num ((rowB row (floorU l.rw l.num) (l.num + 1)).take t) b)) H H' → E (.ref Z.Stopped) none H') ∧
    ((∀ t, s.lt = some t → ((pcs row).length : Int) ≤ t) → ∀ (bs : List Addr) (ca ta wa : Addr) (H' : Hp), bs.length = s.bs.length →
      Frm (logL Z lg l ++ diskL Z l.d s) (logL Z lg { l with num := l.num + ((pcs row).length : Nat), torn := none, ca := ca, cut := l.cut.filter (fun b => decide (floorU l.rw l.num < b)), rows := l.rows ++ [((ta, wa), (l.num + 1, row))] } ++ diskL Z l.d (dPut s bs l.num (rowB row (floorU l.rw l.num) (l.num + 1)))) H H' → Q (.int (l.num + 1)) H'))
theorem sc_Log_put : FnScope ["self", "row", "data", "begin", "floor", "last", "at", "piece"] ["self", "row"] (defScope st_Log_put) := ⟨rfl, rfl, rfl, by decide +kernel, rfl, by decide +kernel, by decide +kernel⟩
def sp_Log_take (K : PySem.W.Frag) (Z : Ad) : Sp := fun vs H Q E => ∃ (lg : Addr) (l : LS) (s : DS), vs = [.ref lg] ∧ Holds H (logL Z lg l ++ diskL Z l.d s) ∧ s.Ok ∧ 0 ≤ s.p ∧ s.p ≤ 7 ∧ l.cut.length ≤ 1000 ∧ l.rows.length ≤ 1000 ∧ 0 ≤ l.num ∧ l.num ≤ 999999999999000 ∧
  0 ≤ floorU l.rw.tail l.num ∧ floorU l.rw.tail l.num ≤ l.num ∧
  (l.gone = true → E (.ref Z.Gone) none H) ∧ (l.gone = false → l.rows = [] → E (.ref Z.Empty) none H) ∧
  (l.gone = false → ∀ (x : RA) (xs : List RA), l.rows = x :: xs →
    (s.lt = some 0 → ∀ (bs : List Addr) (H' : Hp), bs.length = s.bs.length → Frm (logL Z lg l ++ diskL Z l.d s) (diskL Z l.d (dCut s bs l.num [] (markB (l.num + 1) (floorU l.rw.tail l.num)))) H H' → E (.ref Z.Stopped) none H') ∧
    (s.lt ≠ some 0 → ∀ (bs : List Addr) (ca ra : Addr) (H' : Hp), bs.length = s.bs.length →
      Frm (logL Z lg l ++ diskL Z l.d s) ((x.1.2, .lst (x.2.2.map V.int)) :: (logL Z lg { l with num := l.num + 1, torn := none, ca := ca, cut := l.cut.filter (fun b => decide (floorU l.rw.tail l.num < b)), ra := ra, rows := xs } ++ diskL Z l.d (dPut s bs l.num [markB (l.num + 1) (floorU l.rw.tail l.num)]))) H H' → Q (.ref x.1.2) H'))
theorem sc_Log_take : FnScope ["self", "_", "row", "later", "floor", "number"] ["self"] (defScope st_Log_take) := ⟨rfl, rfl, rfl, by decide +kernel, rfl, by decide +kernel, by decide +kernel⟩
def sp_Disk___init__ (K : PySem.W.Frag) (Z : Ad) : Sp := fun vs H Q E => ∃ (x dx : Addr) (v : V), vs = [.ref x, v] ∧ Holds H [(x, .ins Z.Disk dx []), (dx, .own x)] ∧ FlatV v ∧
  (wholeB v 4 64 = false → ∀ H', Upto [] H H' → E (.ref Z.BadDisk) none H') ∧
  (∀ n : Int, v = .int n → 4 ≤ n → n ≤ 64 → ∀ (bl : Addr) (bs : List Addr) (H' : Hp), bs.length = n.toNat →
    Frm [(x, .ins Z.Disk dx []), (dx, .own x)] (diskL Z x ⟨dx, bl, bs, List.replicate n.toNat (List.replicate 8 0), 0, 0, none, 0⟩) H H' → Q .non H')
theorem sc_Disk___init__ : FnScope ["self", "many", "_"] ["self", "many"] (defScope st_Disk___init__) := ⟨rfl, rfl, rfl, by decide +kernel, rfl, by decide +kernel, by decide +kernel⟩
def sp_Disk_writes (K : PySem.W.Frag) (Z : Ad) : Sp := fun vs H Q _ => ∃ (d : Addr) (s : DS), vs = [.ref d] ∧ Holds H (diskL Z d s) ∧ Q (.int s.w) H
theorem sc_Disk_writes : FnScope ["self"] ["self"] (defScope st_Disk_writes) := ⟨rfl, rfl, rfl, by decide +kernel, rfl, by decide +kernel, by decide +kernel⟩
def sp_Disk_stop_after (K : PySem.W.Frag) (Z : Ad) : Sp := fun vs H Q E => ∃ (d : Addr) (s : DS) (u v : V), vs = [.ref d, u, v] ∧ Holds H (diskL Z d s) ∧ FlatV u ∧ FlatV v ∧
  ((wholeB u 0 1000000000000000 && wholeB v 0 7) = false → E (.ref Z.BadStop) none H) ∧
  (∀ i j : Int, u = .int i → v = .int j → (wholeB u 0 1000000000000000 && wholeB v 0 7) = true → ∀ H', Frm (diskL Z d s) (diskL Z d { s with lt := some i, p := j }) H H' → Q .non H')
theorem sc_Disk_stop_after : FnScope ["self", "count", "part"] ["self", "count", "part"] (defScope st_Disk_stop_after) := ⟨rfl, rfl, rfl, by decide +kernel, rfl, by decide +kernel, by decide +kernel⟩
def sp_Disk_go_on (K : PySem.W.Frag) (Z : Ad) : Sp := fun vs H Q _ => ∃ (d : Addr) (s : DS), vs = [.ref d] ∧ Holds H (diskL Z d s) ∧ ∀ H', Frm (diskL Z d s) (diskL Z d { s with lt := none }) H H' → Q .non H'
theorem sc_Disk_go_on : FnScope ["self"] ["self"] (defScope st_Disk_go_on) := ⟨rfl, rfl, rfl, by decide +kernel, rfl, by decide +kernel, by decide +kernel⟩
def RowO (sc : Addr) (o : HO) : Prop := ∃ i m : Int, 0 ≤ i ∧ o = .lst [.ref sc, .int i, .int m]
/-- the next cell's rest: some number below n -/
def sp_law_taken (K : PySem.W.Frag) (_ : Ad) : Sp := fun vs H Q _ => ∃ (r sc : Addr) (o : HO) (ns : List Int) (S : List (Addr × HO)) (n : Int), vs = [.ref r, .int n] ∧ Holds H ((r, o) :: S) ∧ RowO sc o ∧ ScrL K sc ns S ∧ 0 < n ∧
  ∀ (v : Int) (o' : HO) (H' : Hp), 0 ≤ v → v < n → Upto [r] H H' → H' r = some o' → RowO sc o' → Q (.int v) H'
theorem sc_law_taken : FnScope ["_law_row", "_law_many", "_law_cell"] ["_law_row", "_law_many"] (defScope st_law_taken) := ⟨rfl, rfl, rfl, by decide +kernel, rfl, by decide +kernel, by decide +kernel⟩
theorem s_taken {W : List Addr} {H0 H : Hp} {M S : List (Addr × HO)} {r sc : Addr} {o : HO} {ns : List Int} {n : Int} {Q : VK} {E : XK} (hs : Hs W H0 H M S) (m : (r, o) ∈ M) (ro : RowO sc o) (sl : ScrL K sc ns S) (hn : 0 < n)
    (h : ∀ (v : Int) (o' : HO) (H' : Hp), 0 ≤ v → v < n → RowO sc o' → (∀ M', Rep M r o' M' → Hs W H0 H' M' S) → Upto [r] H H' → Q (.int v) H') : sp_law_taken K Z [.ref r, .int n] H Q E :=
  ⟨r, sc, o, ns, S, n, rfl, hs.row m, ro, sl, hn, fun v o' H' h1 h2 u e ro' => h v o' H' h1 h2 ro' (fun _ rp => hs.call1 u e rp) u⟩
def sp_law_row_of (K : PySem.W.Frag) (_ : Ad) : Sp := fun vs H Q _ => ∃ (r sc : Addr) (o : HO) (ns : List Int) (S : List (Addr × HO)), vs = [.ref r] ∧ Holds H ((r, o) :: S) ∧ RowO sc o ∧ ScrL K sc ns S ∧
  ∀ (o' : HO) (ws : List Int) (p : Addr) (H' : Hp), ws.length ≤ 11 → (∀ x ∈ ws, 0 ≤ x ∧ x ≤ 999999999) → RowO sc o' → Hs [r] H H' [(p, .lst (ws.map V.int)), (r, o')] S → Q (.ref p) H'
theorem sc_law_row_of : FnScope ["_law_row", "_law_found", "_law_k"] ["_law_row"] (defScope st_law_row_of) := ⟨rfl, rfl, rfl, by decide +kernel, rfl, by decide +kernel, by decide +kernel⟩
theorem s_law_row_of {W : List Addr} {H0 H : Hp} {M S : List (Addr × HO)} {r sc : Addr} {o : HO} {ns : List Int} {Q : VK} {E : XK} (hs : Hs W H0 H M S) (m : (r, o) ∈ M) (ro : RowO sc o) (sl : ScrL K sc ns S)
    (h : ∀ (o' : HO) (ws : List Int) (p : Addr) (H' : Hp), ws.length ≤ 11 → (∀ x ∈ ws, 0 ≤ x ∧ x ≤ 999999999) → RowO sc o' → (∀ M', Rep M r o' M' → Hs W H0 H' ((p, .lst (ws.map V.int)) :: M') S) → Q (.ref p) H') : sp_law_row_of K Z [.ref r] H Q E :=
  ⟨r, sc, o, ns, S, rfl, hs.row m, ro, sl, fun o' ws p H' h1 h2 ro' hc => h o' ws p H' h1 h2 ro' fun _ rp => Hs.frame (N := [_]) hc hs rp⟩
def sp_law_pieces (K : PySem.W.Frag) (_ : Ad) : Sp := fun vs H Q _ => ∃ (a : Addr) (ns : List Int), vs = [.ref a] ∧ H a = some (.lst (ns.map V.int)) ∧ ns.length ≤ 1000 ∧
  ∀ (p : Addr) (qs : List Addr) (H' : Hp), qs.length = (pcs ns).length → Hs [] H H' ((p, .lst (qs.map V.ref)) :: rowsL qs (pcs ns)) [] → Q (.ref p) H'
theorem sc_law_pieces : FnScope ["_law_words", "_law_data", "_law_at"] ["_law_words"] (defScope st_law_pieces) := ⟨rfl, rfl, rfl, by decide +kernel, rfl, by decide +kernel, by decide +kernel⟩
theorem s_law_pieces {W : List Addr} {H0 H : Hp} {M I : List (Addr × HO)} {a : Addr} {ns : List Int} {Q : VK} {E : XK} (hs : Hs W H0 H M I) (h1 : H a = some (.lst (ns.map V.int))) (hz : ns.length ≤ 1000)
    (h : ∀ (p : Addr) (qs : List Addr) (H' : Hp), qs.length = (pcs ns).length → Hs W H0 H' ((p, .lst (qs.map V.ref)) :: (rowsL qs (pcs ns) ++ M)) I → Upto [] H H' → Q (.ref p) H') : sp_law_pieces K Z [.ref a] H Q E :=
  ⟨a, ns, rfl, h1, hz, fun p qs H' hl hc => h p qs H' hl (hc.frame0 hs) hc.up⟩
def sp_law_told (K : PySem.W.Frag) (Z : Ad) : Sp := fun vs H Q _ => (∃ (lg : Addr) (l : LS) (s : DS), vs = [.ref lg, .non] ∧ Holds H (logL Z lg l ++ diskL Z l.d s) ∧ s.Ok ∧ 0 ≤ s.p ∧ s.p ≤ 7 ∧ l.cut.length ≤ 1000 ∧ l.rows.length ≤ 1000 ∧ 0 ≤ l.num ∧ l.num ≤ 999999999999000 ∧
  0 ≤ floorU l.rw.tail l.num ∧ floorU l.rw.tail l.num ≤ l.num ∧
  (l.gone = true → Q (.str "gone") H) ∧ (l.gone = false → l.rows = [] → Q (.str "empty") H) ∧
  (l.gone = false → ∀ (x : RA) (xs : List RA), l.rows = x :: xs →
    (s.lt = some 0 → ∀ (bs : List Addr) (H' : Hp), bs.length = s.bs.length → Frm (logL Z lg l ++ diskL Z l.d s) (diskL Z l.d (dCut s bs l.num [] (markB (l.num + 1) (floorU l.rw.tail l.num)))) H H' → Q (.str "stopped") H') ∧
    (s.lt ≠ some 0 → ∀ (bs : List Addr) (ca ra : Addr) (H' : Hp), bs.length = s.bs.length →
      Frm (logL Z lg l ++ diskL Z l.d s) ((x.1.2, .lst (x.2.2.map V.int)) :: (logL Z lg { l with num := l.num + 1, torn := none, ca := ca, cut := l.cut.filter (fun b => decide (floorU l.rw.tail l.num < b)), ra := ra, rows := xs } ++ diskL Z l.d (dPut s bs l.num [markB (l.num + 1) (floorU l.rw.tail l.num)]))) H H' → Q (.ref x.1.2) H'))) ∨
  (∃ (lg wr : Addr) (l : LS) (s : DS) (row : List Int), vs = [.ref lg, .ref wr] ∧ Holds H ((wr, .lst (row.map V.int)) :: (logL Z lg l ++ diskL Z l.d s)) ∧ s.Ok ∧ 0 ≤ s.p ∧ s.p ≤ 7 ∧ (∀ t, s.lt = some t → 0 ≤ t) ∧
  row.length ≤ 11 ∧ (∀ x ∈ row, 0 ≤ x ∧ x ≤ 999999999) ∧ l.cut.length ≤ 1000 ∧ l.rows.length ≤ 1000 ∧ 0 ≤ l.num ∧ l.num ≤ 999999999999000 ∧ 0 ≤ floorU l.rw l.num ∧ floorU l.rw l.num ≤ l.num ∧
  (l.gone = true → ∀ H', Upto [] H H' → Q (.str "gone") H') ∧
  (l.gone = false → (s.ws.length : Int) - 1 - (l.num - floorU l.rw l.num) < (pcs row).length → ∀ H', Upto [] H H' → Q (.str "full") H') ∧
  (l.gone = false → ((pcs row).length : Int) ≤ s.ws.length - 1 - (l.num - floorU l.rw l.num) →
    (∀ (t : Nat) (b : List Int) (bs : List Addr) (H' : Hp), s.lt = some (t : Int) → (rowB row (floorU l.rw l.num) (l.num + 1))[t]? = some b → bs.length = s.bs.length → Frm (logL Z lg l ++ diskL Z l.d s) (diskL Z l.d (dCut s bs l.num ((rowB row (floorU l.rw l.num) (l.num + 1)).take t) b)) H H' → Q (.str "stopped") H') ∧
    ((∀ t, s.lt = some t → ((pcs row).length : Int) ≤ t) → ∀ (bs : List Addr) (ca ta wa : Addr) (H' : Hp), bs.length = s.bs.length →
      Frm (logL Z lg l ++ diskL Z l.d s) (logL Z lg { l with num := l.num + ((pcs row).length : Nat), torn := none, ca := ca, cut := l.cut.filter (fun b => decide (floorU l.rw l.num < b)), rows := l.rows ++ [((ta, wa), (l.num + 1, row))] } ++ diskL Z l.d (dPut s bs l.num (rowB row (floorU l.rw l.num) (l.num + 1)))) H H' → Q (.int (l.num + 1)) H')))
theorem sc_law_told : FnScope ["_law_log", "_law_words"] ["_law_log", "_law_words"] (defScope st_law_told) := ⟨rfl, rfl, rfl, by decide +kernel, rfl, by decide +kernel, by decide +kernel⟩
/-- of equal data: True, and nothing is changed -/
def sp_law_alike (K : PySem.W.Frag) (_ : Ad) (n : Nat) : Sp := fun vs H Q _ => ∃ (x y : V) (d : PyData), vs = [x, y] ∧ Dp K H x d ∧ Dp K H y d ∧ Sh n d ∧ ∀ H', Upto [] H H' → Q (.bl true) H'
theorem no_law_alike {K : PySem.W.Frag} {Z : Ad} : ∀ vs H Q E, ¬ sp_law_alike K Z 0 vs H Q E := fun vs H Q E h => by
  obtain ⟨_, _, _, _, _, _, s, _⟩ := h
  cases s
theorem sc_law_alike : FnScope ["_law_found", "_law_due", "_law_k"] ["_law_found", "_law_due"] (defScope st_law_alike) := ⟨rfl, rfl, rfl, by decide +kernel, rfl, by decide +kernel, by decide +kernel⟩
/-- two lists of the same ints -/
theorem s_alikeL {W : List Addr} {H0 H : Hp} {M I : List (Addr × HO)} {a b : Addr} {ns : List Int} {Q : VK} {E : XK} (hs : Hs W H0 H M I) (h1 : H a = some (.lst (ns.map V.int))) (h2 : H b = some (.lst (ns.map V.int))) (hz : ns.length ≤ 100000)
    (h : ∀ H', Hs W H0 H' M I → Upto [] H H' → Q (.bl true) H') : sp_law_alike K Z 6 [.ref a, .ref b] H Q E :=
  ⟨_, _, _, rfl, Dp.ints (SqL.of h1), Dp.ints (SqL.of h2), Sh.ints hz, fun H' u => h H' (hs.call0 u) u⟩
theorem s_alikeI {W : List Addr} {H0 H : Hp} {M I : List (Addr × HO)} {i : Int} {Q : VK} {E : XK} (hs : Hs W H0 H M I)
    (h : ∀ H', Hs W H0 H' M I → Upto [] H H' → Q (.bl true) H') : sp_law_alike K Z 6 [.int i, .int i] H Q E :=
  ⟨_, _, _, rfl, .int i, .int i, .int i, fun H' u => h H' (hs.call0 u) u⟩
theorem s_alikeLL {W : List Addr} {H0 H : Hp} {M I : List (Addr × HO)} {a b : Addr} {qs ps : List Addr} {xss : List (List Int)} {Q : VK} {E : XK} (hs : Hs W H0 H M I) (m1 : ((a, HO.lst (qs.map V.ref)) :: rowsL qs xss).Sublist M) (m2 : ((b, HO.lst (ps.map V.ref)) :: rowsL ps xss).Sublist M)
    (l1 : qs.length = xss.length) (l2 : ps.length = xss.length) (hz : xss.length ≤ 100000) (hx : ∀ xs ∈ xss, xs.length ≤ 100000) (h : ∀ H', Hs W H0 H' M I → Upto [] H H' → Q (.bl true) H') : sp_law_alike K Z 6 [.ref a, .ref b] H Q E := by
  have r1 := hs.rows m1
  have r2 := hs.rows m2
  exact ⟨_, _, _, rfl, .lst (SqL.of (r1 _ List.mem_cons_self)) (dp_rows (fun x hx => r1 x (List.mem_cons_of_mem _ hx)) l1), .lst (SqL.of (r2 _ List.mem_cons_self)) (dp_rows (fun x hx => r2 x (List.mem_cons_of_mem _ hx)) l2), Sh.lists hz hx, fun H' u => h H' (hs.call0 u) u⟩
def sp_law_deed (K : PySem.W.Frag) (_ : Ad) : Sp := fun vs H Q _ => ∃ (r sc : Addr) (o : HO) (ns : List Int) (S : List (Addr × HO)), vs = [.ref r] ∧ Holds H ((r, o) :: S) ∧ RowO sc o ∧ ScrL K sc ns S ∧
  (∀ (o' : HO) (H' : Hp), RowO sc o' → Hs [r] H H' [(r, o')] S → Q .non H') ∧
  ∀ (o' : HO) (ws : List Int) (p : Addr) (H' : Hp), ws.length ≤ 11 → (∀ x ∈ ws, 0 ≤ x ∧ x ≤ 999999999) → RowO sc o' → Hs [r] H H' [(p, .lst (ws.map V.int)), (r, o')] S → Q (.ref p) H'
theorem sc_law_deed : FnScope ["_law_row"] ["_law_row"] (defScope st_law_deed) := ⟨rfl, rfl, rfl, by decide +kernel, rfl, by decide +kernel, by decide +kernel⟩
theorem s_law_deed {W : List Addr} {H0 H : Hp} {M S : List (Addr × HO)} {r sc : Addr} {o : HO} {ns : List Int} {Q : VK} {E : XK} (hs : Hs W H0 H M S) (m : (r, o) ∈ M) (ro : RowO sc o) (sl : ScrL K sc ns S)
    (h1 : ∀ (o' : HO) (H' : Hp), RowO sc o' → (∀ M', Rep M r o' M' → Hs W H0 H' M' S) → Q .non H')
    (h2 : ∀ (o' : HO) (ws : List Int) (p : Addr) (H' : Hp), ws.length ≤ 11 → (∀ x ∈ ws, 0 ≤ x ∧ x ≤ 999999999) → RowO sc o' → (∀ M', Rep M r o' M' → Hs W H0 H' ((p, .lst (ws.map V.int)) :: M') S) → Q (.ref p) H') : sp_law_deed K Z [.ref r] H Q E :=
  ⟨r, sc, o, ns, S, rfl, hs.row m, ro, sl, fun o' H' ro' hc => h1 o' H' ro' (fun _ rp => Hs.frame (N := []) hc hs rp), fun o' ws p H' h3 h4 ro' hc => h2 o' ws p H' h3 h4 ro' fun _ rp => Hs.frame (N := [_]) hc hs rp⟩
/-! ### what the law keeps of a log -/
structure MS where
  n : Nat
  dl : Addr
  bs : List Addr
  ws : List (List Int)
  num : Int
  flo : Int
  ra : Addr
  rows : List RA
  ca : Addr
  cut : List Int
  torn : Option Int
  lt : Option Int
  p : Int
  w : Int
  gone : Bool
def MS.rw (m : MS) : List (Int × List Int) := m.rows.map Prod.snd
def gK (m : MS) : List (Key × V) := [(Sum.inr "many", V.int m.n), (Sum.inr "disk", V.ref m.dl), (Sum.inr "number", V.int m.num), (Sum.inr "floor", V.int m.flo), (Sum.inr "rows", V.ref m.ra), (Sum.inr "cut", V.ref m.ca), (Sum.inr "torn", ltV m.torn), (Sum.inr "left", ltV m.lt), (Sum.inr "part", V.int m.p), (Sum.inr "writes", V.int m.w), (Sum.inr "gone", V.bl m.gone)]
section
variable {m : MS} {c : Int} {a : Addr}
theorem gK_many : valV (gK m) (Sum.inr "many" : Key) = some (.int m.n) := by kernel_rfl
theorem gK_disk : valV (gK m) (Sum.inr "disk" : Key) = some (.ref m.dl) := by kernel_rfl
theorem gK_number : valV (gK m) (Sum.inr "number" : Key) = some (.int m.num) := by kernel_rfl
theorem gK_floor : valV (gK m) (Sum.inr "floor" : Key) = some (.int m.flo) := by kernel_rfl
theorem gK_rows : valV (gK m) (Sum.inr "rows" : Key) = some (.ref m.ra) := by kernel_rfl
theorem gK_cut : valV (gK m) (Sum.inr "cut" : Key) = some (.ref m.ca) := by kernel_rfl
theorem gK_torn : valV (gK m) (Sum.inr "torn" : Key) = some (ltV m.torn) := by kernel_rfl
theorem gK_left : valV (gK m) (Sum.inr "left" : Key) = some (ltV m.lt) := by kernel_rfl
theorem gK_part : valV (gK m) (Sum.inr "part" : Key) = some (.int m.p) := by kernel_rfl
theorem gK_writes : valV (gK m) (Sum.inr "writes" : Key) = some (.int m.w) := by kernel_rfl
theorem gK_gone : valV (gK m) (Sum.inr "gone" : Key) = some (.bl m.gone) := by kernel_rfl
theorem gK_pnumber : putK (gK m) (Sum.inr "number" : Key) (.int c) = gK { m with num := c } := by kernel_rfl
theorem gK_pfloor : putK (gK m) (Sum.inr "floor" : Key) (.int c) = gK { m with flo := c } := by kernel_rfl
theorem gK_pcut : putK (gK m) (Sum.inr "cut" : Key) (.ref a) = gK { m with ca := a } := by kernel_rfl
theorem gK_ptorn : putK (gK m) (Sum.inr "torn" : Key) (.int c) = gK { m with torn := some c } := by kernel_rfl
theorem gK_ptornN : putK (gK m) (Sum.inr "torn" : Key) .non = gK { m with torn := none } := by kernel_rfl
theorem gK_pleft : putK (gK m) (Sum.inr "left" : Key) (.int c) = gK { m with lt := some c } := by kernel_rfl
theorem gK_pleftN : putK (gK m) (Sum.inr "left" : Key) .non = gK { m with lt := none } := by kernel_rfl
theorem gK_ppart : putK (gK m) (Sum.inr "part" : Key) (.int c) = gK { m with p := c } := by kernel_rfl
theorem gK_pwrites : putK (gK m) (Sum.inr "writes" : Key) (.int c) = gK { m with w := c } := by kernel_rfl
theorem gK_len : (gK m).length < sizeLine := ltK (by kernel_rfl)
end
/-- what the law keeps, as it stands in the heap -/
def mC (md : Addr) (m : MS) (C : List (Addr × HO)) : List (Addr × HO) := (md, .dK (gK m)) :: (m.dl, .lst (m.bs.map V.ref)) :: (m.ra, .lst (m.rows.map tf)) :: (m.ca, .lst (m.cut.map V.int)) :: (rL m.rows ++ (rowsL m.bs m.ws ++ C))
theorem mC_C (md : Addr) (m : MS) (C : List (Addr × HO)) : C.Sublist (mC md m C) := .cons _ (.cons _ (.cons _ (.cons _ ((List.sublist_append_right _ _).trans (List.sublist_append_right _ _)))))
theorem mC_app (md : Addr) (m : MS) (C D : List (Addr × HO)) : mC md m C ++ D = mC md m (C ++ D) := by simp [mC]
theorem mC_sub (md : Addr) (m : MS) {C D : List (Addr × HO)} (h : D.Sublist C) : (mC md m D).Sublist (mC md m C) := .cons₂ _ (.cons₂ _ (.cons₂ _ (.cons₂ _ (List.Sublist.append (List.Sublist.refl _) (List.Sublist.append (List.Sublist.refl _) h)))))
structure MS.Ok (m : MS) : Prop where
  n4 : 4 ≤ m.n
  n64 : m.n ≤ 64
  bl : m.bs.length = m.n
  wl : m.ws.length = m.n
  w8 : ∀ w ∈ m.ws, w.length = 8
  p0 : 0 ≤ m.p
  p7 : m.p ≤ 7
  cl : m.cut.length ≤ 1000
  rl : m.rows.length ≤ 1000
  rr : ∀ x ∈ m.rows, x.2.2.length ≤ 11
  lt0 : ∀ t, m.lt = some t → 0 ≤ t
theorem perm_m {α : Type} (a b c d : α) (R : List α) : (a :: b :: c :: d :: R).Perm (d :: c :: b :: (R ++ [a])) := by
  have h1 : ([a] ++ ([b, c, d] ++ R)).Perm (([b, c, d] ++ R) ++ [a]) := List.perm_append_comm
  refine h1.trans ?_
  show (b :: c :: d :: (R ++ [a])).Perm _
  exact (List.Perm.cons _ (List.Perm.swap _ _ _)).trans ((List.Perm.swap _ _ _).trans (List.Perm.cons _ (List.Perm.swap _ _ _)))
def mTear (m : MS) (bs : List Addr) (b : List Int) : MS := { m with bs := bs, ws := m.ws.set (b.getD 0 0 % m.n).toNat (mixW m.p b (m.ws.getD (b.getD 0 0 % m.n).toNat [])), torn := if 0 < m.p then some (b.getD 0 0 % m.n) else m.torn, p := 0 }
def mWrite (m : MS) (bs : List Addr) (ca : Addr) (b : List Int) : MS := { m with bs := bs, ws := m.ws.set (b.getD 0 0 % m.n).toNat b, lt := m.lt.map (· - 1), w := m.w + 1, num := b.getD 0 0, flo := b.getD 1 0, torn := none, ca := ca, cut := m.cut.filter fun x => decide (b.getD 1 0 < x) }

/-! ### what the law keeps, behind some blocks of a row -/
def mPut (m : MS) (bs : List Addr) (ca : Addr) (f : Int) (bl : List (List Int)) : MS :=
  { m with bs := bs, ws := putWs m.n m.ws m.num bl, lt := m.lt.map (· - (bl.length : Nat)), w := m.w + (bl.length : Nat), num := m.num + (bl.length : Nat), flo := if bl.length = 0 then m.flo else f, torn := if bl.length = 0 then m.torn else none, ca := ca,
           cut := if bl.length = 0 then m.cut else m.cut.filter fun x => decide (f < x) }
def mCut (m : MS) (bs : List Addr) (ca : Addr) (f : Int) (bl : List (List Int)) (b : List Int) : MS :=
  { mTear (mPut m bs ca f bl) bs b with cut := (if bl.length = 0 then m.cut else (m.cut.filter fun x => decide (f < x)) ++ [m.num + 1]) }
theorem mPut_nil (m : MS) (f : Int) : mPut m m.bs m.ca f [] = m := by
  cases m with
  | mk n dl bs ws num flo ra rows ca cut torn lt p w gone =>
    show MS.mk n dl bs ws (num + ((0 : Nat) : Int)) flo ra rows ca cut torn (lt.map fun x => x - ((0 : Nat) : Int)) p (w + ((0 : Nat) : Int)) gone = _
    congr 1
    · omega
    · cases lt with
      | none => rfl
      | some t => show some (t - ((0 : Nat) : Int)) = some t; congr 1; omega
    · omega
theorem mWrite_next {m : MS} {bs bs' : List Addr} {ca ca' : Addr} {f : Int} {bl : List (List Int)} {b : List Int} (h0 : b.getD 0 0 = m.num + (bl.length : Nat) + 1) (h1 : b.getD 1 0 = f) : mWrite (mPut m bs ca f bl) bs' ca' b = mPut m bs' ca' f (bl ++ [b]) := by
  unfold mWrite mPut
  rw [putWs_snoc, List.length_append, List.length_singleton, h0, h1]
  show MS.mk m.n m.dl bs' ((putWs m.n m.ws m.num bl).set ((m.num + (bl.length : Nat) + 1) % (m.n : Int)).toNat b) (m.num + (bl.length : Nat) + 1) f m.ra m.rows ca' ((if bl.length = 0 then m.cut else m.cut.filter fun x => decide (f < x)).filter fun x => decide (f < x)) none ((m.lt.map (· - ((bl.length : Nat) : Int))).map (· - 1)) m.p (m.w + (bl.length : Nat) + 1) m.gone = _
  rw [if_neg (show ¬ bl.length + 1 = 0 by omega), if_neg (show ¬ bl.length + 1 = 0 by omega), if_neg (show ¬ bl.length + 1 = 0 by omega)]
  congr 1
  · push_cast; omega
  · split
    · rfl
    · rw [List.filter_filter]
      congr 1
      funext x
      rw [Bool.and_self]
  · rw [Option.map_map]
    congr 1
    funext x
    show x - (bl.length : Nat) - 1 = x - ((bl.length + 1 : Nat) : Int)
    push_cast
    omega
  · push_cast; omega
theorem mPut_ok {m : MS} {bs : List Addr} {ca : Addr} {f : Int} {bl : List (List Int)} (ok : m.Ok) (hb : bs.length = m.bs.length) (h8 : ∀ b ∈ bl, b.length = 8) (hlt : ∀ t, m.lt = some t → (bl.length : Int) ≤ t) : (mPut m bs ca f bl).Ok := by
  refine ⟨ok.n4, ok.n64, hb.trans ok.bl, ?_, ?_, ok.p0, ok.p7, ?_, ok.rl, ok.rr, ?_⟩
  · show (putWs _ _ _ _).length = _
    rw [putWs_len]; exact ok.wl
  · show ∀ w ∈ putWs m.n m.ws m.num bl, _
    have : ∀ (bl ws : List (List Int)) (num : Int), (∀ b ∈ bl, b.length = 8) → (∀ w ∈ ws, w.length = 8) → ∀ w ∈ putWs m.n ws num bl, w.length = 8 := by
      intro bl
      induction bl with
      | nil => intro ws num _ h; exact h
      | cons b bl ih =>
        intro ws num hb hw
        refine ih _ _ (fun x hx => hb x (List.mem_cons_of_mem _ hx)) fun w hw2 => ?_
        rcases mem_set' hw2 with hw2 | hw2
        · exact hw w hw2
        · rw [hw2]; exact hb b List.mem_cons_self
    exact this bl m.ws m.num h8 ok.w8
  · show (if bl.length = 0 then m.cut else m.cut.filter fun x => decide (f < x)).length ≤ 1000
    split
    · exact ok.cl
    · exact Nat.le_trans (List.length_filter_le _ _) ok.cl
  · intro t ht
    have ht : m.lt.map (· - ((bl.length : Nat) : Int)) = some t := ht
    cases e : m.lt with
    | none => rw [e] at ht; cases ht
    | some u =>
      rw [e] at ht
      have h1 := hlt u e
      have h2 : u - ((bl.length : Nat) : Int) = t := Option.some.inj ht
      omega
theorem mPut_lt {m : MS} {bs : List Addr} {ca : Addr} {f : Int} {bl : List (List Int)} : (mPut m bs ca f bl).lt = some 0 ↔ m.lt = some ((bl.length : Nat) : Int) := by
  show m.lt.map (fun x : Int => x - ((bl.length : Nat) : Int)) = some 0 ↔ _
  cases m.lt with
  | none => simp
  | some t => simp; omega
theorem perm_call {α : Type} (x : α) (J A C : List α) : ((x :: A) ++ (J ++ C)).Perm (x :: (J ++ (A ++ C))) := by
  refine List.Perm.cons _ ?_
  show (A ++ (J ++ C)).Perm (J ++ (A ++ C))
  rw [← List.append_assoc, ← List.append_assoc]
  exact List.Perm.append_right _ List.perm_append_comm
theorem cut_one (x : Int) (k : Nat) : cutI [x] none (some (k : Int)) = if k = 0 then [] else [x] := by
  unfold cutI
  rw [HT.sIx_nat, HT.sIx_none]
  cases k with
  | zero => rfl
  | succ k =>
    have : min (k + 1) [x].length = 1 := by simp
    rw [this]
    rfl
theorem perm_row {α : Type} (T w : α) (A R B : List α) : (A ++ ((R ++ [T, w]) ++ (B ++ []))).Perm (T :: (A ++ (R ++ (B ++ [w])))) := by
  rw [List.append_nil]
  have h1 : (A ++ ((R ++ [T, w]) ++ B)).Perm (A ++ (R ++ (T :: (B ++ [w])))) := by
    refine List.Perm.append_left _ ?_
    rw [List.append_assoc]
    refine List.Perm.append_left _ ?_
    refine List.Perm.cons _ ?_
    exact List.perm_append_comm (l₁ := [w])
  refine h1.trans ?_
  rw [← List.append_assoc, ← List.append_assoc]
  exact List.perm_middle
theorem perm_cut {α : Type} (nc w : α) (A R B : List α) : (w :: (A ++ (nc :: (R ++ (B ++ []))))).Perm (nc :: (A ++ (R ++ (B ++ [w])))) := by
  rw [List.append_nil]
  have h1 : (w :: (A ++ (nc :: (R ++ B)))).Perm (nc :: (w :: (A ++ (R ++ B)))) := by
    exact (List.perm_middle (a := nc) (l₁ := w :: A) (l₂ := R ++ B))
  refine h1.trans (List.Perm.cons _ ?_)
  have h2 : ((A ++ (R ++ B)) ++ [w]).Perm ([w] ++ (A ++ (R ++ B))) := List.perm_append_comm
  have e : (A ++ (R ++ B)) ++ [w] = A ++ (R ++ (B ++ [w])) := by simp
  rw [e] at h2
  exact h2.symm

/-! ### what every block of a disk is: words within the bounds, no begin but of a row, a mark, a farewell -/
def GoodB (w : List Int) : Prop := (∀ x ∈ w, 0 ≤ x ∧ x ≤ 1000000000000000) ∧ (w.getD 0 0 = w.getD 7 0 → w.getD 2 0 = 0 → w.getD 3 0 = 0 ∨ w.getD 3 0 = 1)

theorem blockB_mem {w : List Int} (h : blockB (w.map V.int) = true) : ∀ x ∈ w, 0 ≤ x ∧ x ≤ 1000000000000000 := by
  intro x hx
  simp only [blockB, Bool.and_eq_true, List.all_eq_true] at h
  have := h.2 (V.int x) (List.mem_map_of_mem hx)
  simpa [wholeB] using this
theorem GoodB.row {row : List Int} {f b : Int} {i : Nat} {w : List Int} (h : (rowB row f b)[i]? = some w) (hr : ∀ x ∈ row, 0 ≤ x ∧ x ≤ 999999999) (hl : row.length ≤ 11) (hf : 0 ≤ f ∧ f ≤ 999999999999999) (hb : 0 < b ∧ b ≤ 999999999999900) : GoodB w :=
  ⟨blockB_mem (rowB_ok h hr hl hf ⟨by omega, hb.2⟩).2.1, fun _ c => by rw [(rowB_blk h).2.1] at c; omega⟩
theorem GoodB.zeros : GoodB (List.replicate 8 0) := ⟨fun x hx => by rw [(List.mem_replicate.mp hx).2]; omega, fun _ _ => .inl rfl⟩
theorem GoodB.end_ {a f l : Int} (ha : 0 ≤ a ∧ a ≤ 1000000000000000) (hf : 0 ≤ f ∧ f ≤ 1000000000000000) (hl : l = 0 ∨ l = 1) : GoodB [a, f, 0, l, 0, 0, 0, a] :=
  ⟨fun x hx => by
    simp only [List.mem_cons, List.not_mem_nil, or_false] at hx
    rcases hx with rfl | rfl | rfl | rfl | rfl | rfl | rfl | rfl <;> omega, fun _ _ => hl⟩
theorem GoodB.puts {n : Nat} : ∀ {bl ws : List (List Int)} {num : Int}, (∀ b ∈ bl, GoodB b) → (∀ w ∈ ws, GoodB w) → ∀ w ∈ putWs n ws num bl, GoodB w
  | [], _, _, _, h => h
  | b :: bl, ws, num, hb, h => GoodB.puts (bl := bl) (fun x hx => hb x (List.mem_cons_of_mem _ hx)) fun w hw => by
    rcases mem_set' hw with hw | hw
    · exact h w hw
    · rw [hw]; exact hb b List.mem_cons_self
theorem GoodB.mix {p : Int} {b o : List Int} (hb : GoodB b) (ho : GoodB o) (lb : b.length = 8) (h0 : 0 ≤ p) (h7 : p ≤ 7) (h : 0 < p → (mixB p b o).getD 7 0 ≠ b.getD 0 0) : GoodB (mixB p b o) := by
  refine ⟨fun x hx => ?_, fun e => ?_⟩
  · unfold mixB at hx
    rcases List.mem_append.mp hx with hx | hx
    · exact hb.1 x (List.mem_of_mem_take hx)
    · exact ho.1 x (List.mem_of_mem_drop hx)
  · by_cases c : 0 < p
    · exfalso
      refine h c ?_
      rw [← e]
      have hc : p = 1 ∨ p = 2 ∨ p = 3 ∨ p = 4 ∨ p = 5 ∨ p = 6 ∨ p = 7 := by omega
      match b, lb with
      | [b0, b1, b2, b3, b4, b5, b6, b7], _ => rcases hc with rfl | rfl | rfl | rfl | rfl | rfl | rfl <;> rfl
    · have e2 : mixB p b o = o := by
        unfold mixB
        rw [show p.toNat = 0 by omega]
        rfl
      rw [e2] at e ⊢
      exact ho.2 e

/-! ### the disk, the log, and what the law keeps -/
theorem MInv.count {n : Nat} {ws : List (List Int)} {num flo : Int} {torn : Option Int} {rows : List (Int × List Int)} {cut : List Int} (h : MInv n ws num flo torn rows cut) : rows.length ≤ 63 ∧ cut.length ≤ 63 := by
  obtain ⟨gs, v, rfl, rfl⟩ := h
  have hl := (grp_len _ v.gr).1
  rw [useB_len] at hl
  have f2 := v.f2
  have n64 := v.n64
  have : gs.length ≤ 63 := by simp at hl; omega
  unfold rowsIn cutIn
  rw [List.length_map, List.length_map]
  exact ⟨Nat.le_trans (List.length_filter_le _ _) this, Nat.le_trans (List.length_filter_le _ _) this⟩
structure DRel (s : DS) (m : MS) : Prop where
  ok : s.Ok
  bl : m.bs.length = m.n
  n : s.ws.length = m.n
  ws : s.ws = m.ws
  w : s.w = m.w
  lt : s.lt = m.lt
  p : s.lt ≠ none → s.p = m.p
  p0 : 0 ≤ s.p
  p7 : s.p ≤ 7
  q0 : 0 ≤ m.p
  q7 : m.p ≤ 7
  lt0 : ∀ t, m.lt = some t → 0 ≤ t
  inv : MInv m.n m.ws m.num m.flo m.torn m.rw m.cut
  rr : ∀ x ∈ m.rows, x.2.2.length ≤ 11
  gn : m.gone = false
  gb : goneB m.n m.ws m.num = false
  gw : m.num ≤ 999999999999000 → ∀ w ∈ m.ws, GoodB w
  rb : ∀ x ∈ m.rows, ∀ y ∈ x.2.2, 0 ≤ y ∧ y ≤ 999999999
structure LRel (l : LS) (m : MS) : Prop where
  num : l.num = m.num
  torn : l.torn = m.torn
  cut : l.cut = m.cut
  gone : l.gone = m.gone
  rows : l.rw = m.rw
theorem DRel.numGe {s : DS} {m : MS} (h : DRel s m) : (m.n : Int) - 1 ≤ m.num ∧ (m.n : Int) - 1 ≤ m.flo ∧ m.flo ≤ m.num := by
  obtain ⟨gs, v, _, _⟩ := h.inv
  have f0 := v.f0
  have f1 := v.f1
  exact ⟨by omega, f0, f1⟩
theorem DRel.goods {s : DS} {m : MS} (h : DRel s m) {row : List Int} {f : Int} (hf : f = floorU m.rw m.num) (hwb : ∀ x ∈ row, 0 ≤ x ∧ x ≤ 999999999) (h11 : row.length ≤ 11) (hb : m.num ≤ 999999999999000) : ∀ b ∈ rowB row f (m.num + 1), GoodB b := by
  intro b hm
  obtain ⟨i, hi⟩ := List.getElem?_of_mem hm
  have g := h.numGe
  have lo := h.ok.lo
  rw [h.n] at lo
  have r := h.inv.room
  rw [← hf] at r
  exact GoodB.row hi hwb h11 (by omega) (by omega)
theorem DRel.floorT {s : DS} {m : MS} (h : DRel s m) : 0 ≤ floorU m.rw.tail m.num ∧ floorU m.rw.tail m.num ≤ m.num := by
  have g := h.numGe
  have lo := h.ok.lo
  rw [h.n] at lo
  have inv := h.inv
  cases hr : m.rw with
  | nil => exact ⟨by show 0 ≤ m.num; omega, by show m.num ≤ m.num; omega⟩
  | cons x xs =>
    rw [hr] at inv
    have tr := inv.takeRoom
    obtain ⟨gs, v, hg, _⟩ := inv
    have fl := MInv.floor v hg tr.1
    exact ⟨by show 0 ≤ floorU xs m.num; omega, by show floorU xs m.num ≤ m.num; omega⟩
theorem DRel.mk' {s : DS} {m : MS} (h : DRel s m) : m.Ok := by
  have hc := h.inv.count
  have ok := h.ok
  refine ⟨by rw [← h.n]; exact ok.lo, by rw [← h.n]; exact ok.hi, h.bl, by rw [← h.ws]; exact h.n, fun w hw => ok.each w (by rw [h.ws]; exact hw), h.q0, h.q7, by omega, ?_, h.rr, h.lt0⟩
  have := hc.1
  unfold MS.rw at this
  rw [List.length_map] at this
  omega
theorem LRel.len {s : DS} {l : LS} {m : MS} (h : LRel l m) (d : DRel s m) : l.cut.length ≤ 1000 ∧ l.rows.length ≤ 1000 := by
  have hc := d.inv.count
  have e := congrArg List.length h.rows
  unfold LS.rw at e
  rw [List.length_map] at e
  rw [h.cut]
  omega
theorem blkOf_last {n : Nat} (hn : 0 < n) {ws bl : List (List Int)} {num : Int} {b : List Int} (hl : ws.length = n) : blkOf n (putWs n ws num (bl ++ [b])) (num + (bl.length : Nat) + 1) = b := by
  rw [putWs_snoc, blkOf_set hn (by rw [putWs_len]; exact hl), if_pos rfl]
theorem goneB_of {n : Nat} {ws : List (List Int)} {num : Int} {b : List Int} (e : blkOf n ws num = b) (h : b.getD 2 0 ≠ 0 ∨ b.getD 3 0 ≠ 1) : goneB n ws num = false := by
  unfold goneB
  rw [e]
  rcases h with h | h
  · rw [decide_eq_false h, Bool.false_and, Bool.and_false]
  · rw [decide_eq_false h, Bool.and_false, Bool.and_false]
theorem goneB_tear {n : Nat} {ws : List (List Int)} {num : Int} {b : List Int} (hn : 2 ≤ n) (hl : ws.length = n) : goneB n (ws.set ((num + 1) % n).toNat b) num = goneB n ws num := by
  unfold goneB
  rw [blkOf_set (by omega) hl, if_neg]
  intro e
  have := mod_inj (n := n) (by omega) e.symm (by omega) (by omega)
  omega
section
variable {s : DS} {m : MS} (h : DRel s m) {row : List Int} {f : Int} (hf : f = floorU m.rw m.num) (hk : ((pcs row).length : Int) ≤ m.n - 1 - (m.num - f)) (h11 : row.length ≤ 11)
include h
theorem DRel.n4 : 4 ≤ m.n ∧ m.n ≤ 64 := by
  rw [← h.n]
  exact ⟨h.ok.lo, h.ok.hi⟩
include hf hk h11
theorem DRel.putOk (hwb : ∀ x ∈ row, 0 ≤ x ∧ x ≤ 999999999) (hlt : ∀ t, m.lt = some t → ((pcs row).length : Int) ≤ t) {bs bs' : List Addr} {ca ta wr : Addr} (hb : bs.length = s.bs.length) (hb' : bs'.length = m.bs.length) :
    DRel (dPut s bs m.num (rowB row f (m.num + 1))) { mPut m bs' ca f (rowB row f (m.num + 1)) with rows := m.rows ++ [((ta, wr), (m.num + 1, row))] } := by
  have n4 := h.n4
  have hl : 0 < (pcs row).length := by rw [pcs_len]; omega
  have hbl := rowB_len row f (m.num + 1)
  have hne : ¬ (rowB row f (m.num + 1)).length = 0 := by omega
  have hall : ∀ b ∈ rowB row f (m.num + 1), b.length = 8 := fun b hb => by
    obtain ⟨j, hj⟩ := List.getElem?_of_mem hb
    exact (rowB_blk hj).1.len
  have inv := h.inv.putOk hf hk
  refine ⟨dPut_ok h.ok hb hall, hb'.trans h.bl, ?_, ?_, ?_, ?_, ?_, h.p0, h.p7, h.q0, h.q7, ?_, ?_, ?_, h.gn, ?_, fun hb9 => ?_, fun x hx => ?_⟩
  · show (putWs _ _ _ _).length = _
    rw [putWs_len]; exact h.n
  · show putWs s.ws.length s.ws _ _ = putWs m.n m.ws _ _
    rw [h.n, h.ws]
  · show s.w + _ = m.w + _
    rw [h.w]
  · show s.lt.map _ = m.lt.map _
    rw [h.lt]
  · intro hn
    refine h.p fun e => hn ?_
    show s.lt.map _ = none
    rw [e]
    rfl
  · intro t ht
    have ht : m.lt.map (fun x : Int => x - ((rowB row f (m.num + 1)).length : Nat)) = some t := ht
    cases e : m.lt with
    | none => rw [e] at ht; cases ht
    | some u =>
      rw [e] at ht
      have h1 := hlt u e
      have h2 : u - (((rowB row f (m.num + 1)).length : Nat) : Int) = t := Option.some.inj ht
      omega
  · show MInv m.n (putWs m.n m.ws m.num (rowB row f (m.num + 1))) (m.num + ((rowB row f (m.num + 1)).length : Nat)) (if (rowB row f (m.num + 1)).length = 0 then m.flo else f) (if (rowB row f (m.num + 1)).length = 0 then m.torn else none) ((m.rows ++ [((ta, wr), (m.num + 1, row))]).map Prod.snd) (if (rowB row f (m.num + 1)).length = 0 then m.cut else m.cut.filter fun x => decide (f < x))
    rw [if_neg hne, if_neg hne, if_neg hne, hbl, List.map_append]
    exact inv
  · intro x hx
    rcases List.mem_append.mp hx with hx | hx
    · exact h.rr x hx
    · obtain rfl : x = ((ta, wr), (m.num + 1, row)) := by simpa using hx
      exact h11
  · obtain ⟨ini, b, e⟩ := snoc_of (l := rowB row f (m.num + 1)) (by intro z; rw [z] at hne; exact hne rfl)
    have hbm : (rowB row f (m.num + 1))[ini.length]? = some b := by rw [e]; simp
    have hq := rowB_blk hbm
    refine goneB_of (b := b) ?_ (.inl ?_)
    · show blkOf m.n (putWs m.n m.ws m.num (rowB row f (m.num + 1))) (m.num + ((rowB row f (m.num + 1)).length : Nat)) = b
      rw [e, List.length_append, List.length_singleton]
      have e9 : m.num + ((ini.length + 1 : Nat) : Int) = m.num + (ini.length : Nat) + 1 := by push_cast; omega
      rw [e9]
      exact blkOf_last (n := m.n) (by omega) (ws := m.ws) (bl := ini) (num := m.num) (b := b) (by rw [← h.ws]; exact h.n)
    · rw [hq.2.1]
      have g := h.numGe
      have n4' : (4 : Int) ≤ m.n := by have := n4.1; omega
      intro z
      have z : m.num + 1 = 0 := z
      omega
  · have hb9 : m.num + ((rowB row f (m.num + 1)).length : Nat) ≤ 999999999999000 := hb9
    exact GoodB.puts (h.goods hf hwb h11 (by omega)) (h.gw (by omega))
  · rcases List.mem_append.mp hx with hx | hx
    · exact h.rb x hx
    · obtain rfl : x = ((ta, wr), (m.num + 1, row)) := by simpa using hx
      exact hwb
theorem DRel.putCut (hwb : ∀ x ∈ row, 0 ≤ x ∧ x ≤ 999999999) {t : Nat} {b : List Int} (hlt : m.lt = some (t : Int)) (hb0 : (rowB row f (m.num + 1))[t]? = some b) {bs bs' : List Addr} {ca : Addr} (hb : bs.length = s.bs.length) (hb' : bs'.length = m.bs.length) :
    DRel (dCut s bs m.num ((rowB row f (m.num + 1)).take t) b) (mCut m bs' ca f ((rowB row f (m.num + 1)).take t) b) := by
  have n4 := h.n4
  have hbl := rowB_len row f (m.num + 1)
  have ht : t < (pcs row).length := by
    have := (List.getElem?_eq_some_iff.mp hb0).1
    rwa [hbl] at this
  have htl : ((rowB row f (m.num + 1)).take t).length = t := by rw [List.length_take, hbl]; omega
  have hq := rowB_blk hb0
  have hall : ∀ b ∈ (rowB row f (m.num + 1)).take t, b.length = 8 := fun b hb => by
    obtain ⟨j, hj⟩ := List.getElem?_of_mem (List.mem_of_mem_take hb)
    exact (rowB_blk hj).1.len
  have wl : m.ws.length = m.n := by rw [← h.ws]; exact h.n
  have hp : s.p = m.p := h.p (by rw [h.lt, hlt]; simp)
  have part := h.inv.putPart hf hk ht
  have hb1 : b.getD 0 0 = m.num + (t : Nat) + 1 := by rw [hq.1.first]; omega
  have tear := part.tear (b := b) (p := m.p) hq.1.len hb1 h.q0 h.q7
  have okp := dPut_ok (bs := bs) (num := m.num) h.ok hb hall
  have hwl : (putWs s.ws.length s.ws m.num ((rowB row f (m.num + 1)).take t)).length = m.n := by rw [putWs_len]; exact h.n
  have hpl := place_lt (n := s.ws.length) (by rw [h.n]; omega) (m.num + (t : Nat) + 1)
  have hw8 : ((putWs s.ws.length s.ws m.num ((rowB row f (m.num + 1)).take t)).getD ((m.num + (t : Nat) + 1) % s.ws.length).toNat []).length = 8 := by
    rw [List.getD_eq_getElem?_getD, List.getElem?_eq_getElem (by rw [putWs_len]; exact hpl.1)]
    exact okp.each _ (List.getElem_mem _)
  refine ⟨⟨?_, ?_, ?_, ?_⟩, hb'.trans h.bl, ?_, ?_, ?_, ?_, fun _ => rfl, Int.le_refl _, (by show (0 : Int) ≤ 7; decide), Int.le_refl _, (by show (0 : Int) ≤ 7; decide), ?_, ?_, h.rr, h.gn, ?_, fun hb9 => ?_, h.rb⟩
  · show bs.length = (List.set _ _ _).length
    rw [List.length_set, putWs_len, hb, h.ok.len]
  · show 4 ≤ (List.set _ _ _).length
    rw [List.length_set, hwl]; exact n4.1
  · show (List.set _ _ _).length ≤ 64
    rw [List.length_set, hwl]; exact n4.2
  · intro w hw
    rcases mem_set' (show w ∈ List.set _ _ _ from hw) with hw | hw
    · exact okp.each w hw
    · rw [hw, htl]
      unfold mixB
      have p0 := h.p0
      have p7 := h.p7
      rw [List.length_append, List.length_take, List.length_drop, hw8, hq.1.len]
      omega
  · show (List.set _ _ _).length = m.n
    rw [List.length_set, hwl]
  · show (putWs s.ws.length s.ws m.num ((rowB row f (m.num + 1)).take t)).set _ _ = (putWs m.n m.ws m.num ((rowB row f (m.num + 1)).take t)).set _ _
    rw [hb1, htl, h.n, h.ws, hp]
    rfl
  · show s.w + _ = m.w + _
    rw [h.w]
  · show some (0 : Int) = m.lt.map (fun x : Int => x - (((rowB row f (m.num + 1)).take t).length : Nat))
    rw [hlt, htl]
    show some (0 : Int) = some ((t : Int) - (t : Nat))
    congr 1
    omega
  · intro u hu
    have hu : m.lt.map (fun x : Int => x - (((rowB row f (m.num + 1)).take t).length : Nat)) = some u := hu
    rw [hlt, htl] at hu
    have := Option.some.inj hu
    have h2 : (t : Int) - (t : Nat) = u := this
    omega
  · show MInv m.n ((putWs m.n m.ws m.num ((rowB row f (m.num + 1)).take t)).set (b.getD 0 0 % m.n).toNat (mixW m.p b ((putWs m.n m.ws m.num ((rowB row f (m.num + 1)).take t)).getD (b.getD 0 0 % m.n).toNat []))) (m.num + (((rowB row f (m.num + 1)).take t).length : Nat)) (if ((rowB row f (m.num + 1)).take t).length = 0 then m.flo else f) (if 0 < m.p then some (b.getD 0 0 % m.n) else if ((rowB row f (m.num + 1)).take t).length = 0 then m.torn else none) m.rw (if ((rowB row f (m.num + 1)).take t).length = 0 then m.cut else (m.cut.filter fun x => decide (f < x)) ++ [m.num + 1])
    rw [htl, hb1]
    exact tear
  · show goneB m.n ((putWs m.n m.ws m.num ((rowB row f (m.num + 1)).take t)).set (b.getD 0 0 % m.n).toNat _) (m.num + (((rowB row f (m.num + 1)).take t).length : Nat)) = false
    rw [htl, hb1, goneB_tear (by omega) (by rw [putWs_len]; exact wl)]
    cases t with
    | zero =>
      have e : m.num + ((0 : Nat) : Int) = m.num := by omega
      rw [List.take_zero, e]
      exact h.gb
    | succ j =>
      obtain ⟨w, hw⟩ : ∃ w, (rowB row f (m.num + 1))[j]? = some w := ⟨_, List.getElem?_eq_getElem (by rw [hbl]; omega)⟩
      have hjl : ((rowB row f (m.num + 1)).take j).length = j := by rw [List.length_take, hbl]; omega
      have hq2 := rowB_blk hw
      refine goneB_of (b := w) ?_ (.inl ?_)
      · rw [take_snoc hw]
        have := blkOf_last (n := m.n) (by omega) (ws := m.ws) (bl := (rowB row f (m.num + 1)).take j) (num := m.num) (b := w) wl
        rw [hjl] at this
        have e9 : m.num + ((j + 1 : Nat) : Int) = m.num + (j : Nat) + 1 := by push_cast; omega
        rw [e9]
        exact this
      · rw [hq2.2.1]
        have g := h.numGe
        have n4' : (4 : Int) ≤ m.n := by have := n4.1; omega
        intro z
        have z : m.num + 1 = 0 := z
        omega
  · have hb9 : m.num + (((rowB row f (m.num + 1)).take t).length : Nat) ≤ 999999999999000 := hb9
    have hg := h.goods hf hwb h11 (by omega)
    have hw0 := GoodB.puts (n := m.n) (num := m.num) (fun b (hb : b ∈ (rowB row f (m.num + 1)).take t) => hg b (List.mem_of_mem_take hb)) (h.gw (by omega))
    intro w hw
    rcases mem_set' (show w ∈ List.set (putWs m.n m.ws m.num ((rowB row f (m.num + 1)).take t)) _ _ from hw) with hw | hw
    · exact hw0 w hw
    · rw [hw, hb1]
      show GoodB (mixB m.p b ((putWs m.n m.ws m.num ((rowB row f (m.num + 1)).take t)).getD ((m.num + (t : Nat) + 1) % (m.n : Int)).toNat []))
      have hpl2 := place_lt (n := m.n) (by omega) (m.num + (t : Nat) + 1)
      have wl2 : (putWs m.n m.ws m.num ((rowB row f (m.num + 1)).take t)).length = m.n := by rw [putWs_len]; exact wl
      refine GoodB.mix (hg b (List.mem_of_getElem? hb0)) (hw0 _ ?_) hq.1.len h.q0 h.q7 fun hp0 => ?_
      · rw [List.getD_eq_getElem?_getD, List.getElem?_eq_getElem (by rw [wl2]; exact hpl2.1)]
        exact List.getElem_mem _
      · obtain ⟨gs, v, _, _⟩ := tear
        have q := (v.toLaid.tn _ (if_pos hp0)).2.2
        rw [getD_set (by rw [wl2]; exact hpl2.1), if_pos rfl] at q
        rw [hb1]
        exact q
end
section
variable {s : DS} {m : MS} (h : DRel s m) {f : Int}
include h
theorem DRel.takeOk {x : RA} {xs : List RA} (hr : m.rows = x :: xs) (hf : f = floorU m.rw.tail m.num) (hlt : m.lt ≠ some 0) {bs bs' : List Addr} {ca : Addr} (hb : bs.length = s.bs.length) (hb' : bs'.length = m.bs.length) :
    DRel (dPut s bs m.num [markB (m.num + 1) f]) { mWrite m bs' ca (markB (m.num + 1) f) with rows := xs } := by
  have n4 := h.n4
  have hrw : m.rw = x.2 :: xs.map Prod.snd := by unfold MS.rw; rw [hr]; rfl
  have hrt : m.rw.tail = xs.map Prod.snd := by rw [hrw]; rfl
  have inv := h.inv
  rw [hrw] at inv
  have tr := inv.takeRoom
  have hf' : f = floorU (xs.map Prod.snd) m.num := by rw [← hrt]; exact hf
  rw [← hf'] at tr
  have mk := inv.mark tr.1 tr.2 (left := 0)
  have wl : m.ws.length = m.n := by rw [← h.ws]; exact h.n
  refine ⟨dPut_ok h.ok hb (fun b hb => ?_), hb'.trans h.bl, ?_, ?_, ?_, ?_, ?_, h.p0, h.p7, h.q0, h.q7, ?_, ?_, ?_, h.gn, ?_, fun hb9 => ?_, fun y hy => h.rb y (by rw [hr]; exact List.mem_cons_of_mem _ hy)⟩
  · obtain rfl : b = markB (m.num + 1) f := by simpa using hb
    rfl
  · show (putWs _ _ _ _).length = _
    rw [putWs_len]; exact h.n
  · show s.ws.set ((m.num + 1) % s.ws.length).toNat _ = m.ws.set ((m.num + 1) % m.n).toNat _
    rw [h.n, h.ws]
  · show s.w + ((1 : Nat) : Int) = m.w + 1
    rw [h.w]
    rfl
  · show s.lt.map (fun x : Int => x - ((1 : Nat) : Int)) = m.lt.map _
    rw [h.lt]
    rfl
  · intro hn
    refine h.p fun e => hn ?_
    show s.lt.map _ = none
    rw [e]
    rfl
  · intro t ht
    have ht : m.lt.map (fun x : Int => x - 1) = some t := ht
    cases e : m.lt with
    | none => rw [e] at ht; cases ht
    | some u =>
      rw [e] at ht hlt
      have h1 := h.lt0 u e
      have h2 : u - 1 = t := Option.some.inj ht
      have h3 : u ≠ 0 := fun z => hlt (by rw [z])
      omega
  · exact mk
  · intro y hy
    exact h.rr y (by rw [hr]; exact List.mem_cons_of_mem _ hy)
  · refine goneB_of (b := markB (m.num + 1) f) ?_ (.inr (by show (0 : Int) ≠ 1; decide))
    show blkOf m.n (m.ws.set ((m.num + 1) % m.n).toNat _) (m.num + 1) = _
    rw [blkOf_set (by omega) wl, if_pos rfl]
  · have hb9 : m.num + 1 ≤ 999999999999000 := hb9
    have g := h.numGe
    obtain ⟨gs, v, hg, _⟩ := inv
    have fl := MInv.floor v hg tr.1
    intro w hw
    rcases mem_set' (show w ∈ List.set m.ws _ _ from hw) with hw | hw
    · exact h.gw (by omega) w hw
    · rw [hw]
      exact GoodB.end_ (by omega) (by omega) (.inl rfl)
theorem DRel.takeCut {x : RA} {xs : List RA} (hr : m.rows = x :: xs) (hf : f = floorU m.rw.tail m.num) (hlt : m.lt = some 0) {bs bs' : List Addr} (hb : bs.length = s.bs.length) (hb' : bs'.length = m.bs.length) :
    DRel (dCut s bs m.num [] (markB (m.num + 1) f)) (mTear m bs' (markB (m.num + 1) f)) := by
  have n4 := h.n4
  have wl : m.ws.length = m.n := by rw [← h.ws]; exact h.n
  have hp : s.p = m.p := h.p (by rw [h.lt, hlt]; simp)
  have tear := h.inv.tear (b := markB (m.num + 1) f) (p := m.p) rfl rfl h.q0 h.q7
  have hpl := place_lt (n := m.n) (by omega) (m.num + 1)
  have e0 : m.num + ((([] : List (List Int)).length : Nat) : Int) + 1 = m.num + 1 := by show m.num + ((0 : Nat) : Int) + 1 = _; omega
  refine ⟨⟨?_, ?_, ?_, ?_⟩, hb'.trans h.bl, ?_, ?_, ?_, ?_, fun _ => rfl, Int.le_refl _, (by show (0 : Int) ≤ 7; decide), Int.le_refl _, (by show (0 : Int) ≤ 7; decide), h.lt0, ?_, h.rr, h.gn, ?_, fun hb9 => ?_, h.rb⟩
  · show bs.length = (List.set _ _ _).length
    rw [List.length_set, putWs_len, hb, h.ok.len]
  · show 4 ≤ (List.set _ _ _).length
    rw [List.length_set, putWs_len, h.n]; exact n4.1
  · show (List.set _ _ _).length ≤ 64
    rw [List.length_set, putWs_len, h.n]; exact n4.2
  · intro w hw
    rcases mem_set' (show w ∈ List.set s.ws _ _ from hw) with hw | hw
    · exact h.ok.each w hw
    · rw [hw, e0, h.n]
      show (mixB s.p (markB (m.num + 1) f) (s.ws.getD ((m.num + 1) % (m.n : Int)).toNat [])).length = 8
      have hw8 : (s.ws.getD ((m.num + 1) % (m.n : Int)).toNat []).length = 8 := by
        rw [List.getD_eq_getElem?_getD, List.getElem?_eq_getElem (by rw [h.n]; exact hpl.1)]
        exact h.ok.each _ (List.getElem_mem _)
      unfold mixB
      have p0 := h.p0
      have p7 := h.p7
      have hm : (markB (m.num + 1) f).length = 8 := rfl
      rw [List.length_append, List.length_take, List.length_drop, hw8, hm]
      omega
  · show (List.set _ _ _).length = m.n
    rw [List.length_set, putWs_len, h.n]
  · show s.ws.set _ (mixB s.p _ (s.ws.getD _ [])) = m.ws.set ((m.num + 1) % m.n).toNat (mixW m.p _ (m.ws.getD ((m.num + 1) % m.n).toNat []))
    rw [e0, h.n, h.ws, hp]
    rfl
  · show s.w + ((0 : Nat) : Int) = m.w
    rw [h.w]
    omega
  · exact hlt.symm
  · exact tear
  · show goneB m.n (m.ws.set ((m.num + 1) % m.n).toNat _) m.num = false
    rw [goneB_tear (by omega) wl]
    exact h.gb
  · have hb9 : m.num ≤ 999999999999000 := hb9
    have fl := h.floorT
    have g := h.numGe
    intro w hw
    rcases mem_set' (show w ∈ List.set m.ws _ _ from hw) with hw | hw
    · exact h.gw hb9 w hw
    · rw [hw]
      show GoodB (mixB m.p (markB (m.num + 1) f) (m.ws.getD ((m.num + 1) % (m.n : Int)).toNat []))
      refine GoodB.mix (GoodB.end_ (by omega) (by omega) (.inl rfl)) (h.gw hb9 _ ?_) rfl h.q0 h.q7 fun hp0 => ?_
      · rw [List.getD_eq_getElem?_getD, List.getElem?_eq_getElem (by rw [wl]; exact hpl.1)]
        exact List.getElem_mem _
      · obtain ⟨gs, v, _, _⟩ := tear
        have q := (v.toLaid.tn _ (if_pos hp0)).2.2
        rw [getD_set (by rw [wl]; exact hpl.1), if_pos rfl] at q
        exact q
theorem DRel.stop {c p : Int} (hc : 0 ≤ c) (hp0 : 0 ≤ p) (hp7 : p ≤ 7) : DRel { s with lt := some c, p := p } { m with lt := some c, p := p } :=
  ⟨⟨h.ok.len, h.ok.lo, h.ok.hi, h.ok.each⟩, h.bl, h.n, h.ws, h.w, rfl, fun _ => rfl, hp0, hp7, hp0, hp7, (fun t ht => by cases ht; exact hc), h.inv, h.rr, h.gn, h.gb, h.gw, h.rb⟩
theorem DRel.on : DRel { s with lt := none } { m with lt := none, p := 0 } :=
  ⟨⟨h.ok.len, h.ok.lo, h.ok.hi, h.ok.each⟩, h.bl, h.n, h.ws, h.w, rfl, fun z => absurd rfl z, h.p0, h.p7, Int.le_refl _, (by show (0 : Int) ≤ 7; decide), (fun t ht => by cases ht), h.inv, h.rr, h.gn, h.gb, h.gw, h.rb⟩
theorem DRel.reads {r : Int} : DRel { s with r := r } m :=
  ⟨⟨h.ok.len, h.ok.lo, h.ok.hi, h.ok.each⟩, h.bl, h.n, h.ws, h.w, h.lt, h.p, h.p0, h.p7, h.q0, h.q7, h.lt0, h.inv, h.rr, h.gn, h.gb, h.gw, h.rb⟩
end
theorem DRel.floors {s : DS} {m : MS} (h : DRel s m) : 0 ≤ floorU m.rw m.num ∧ floorU m.rw m.num ≤ m.num ∧ 0 ≤ floorU m.rw.tail m.num ∧ floorU m.rw.tail m.num ≤ m.num ∧ m.num - floorU m.rw m.num ≤ m.n - 1 := by
  have g := h.numGe
  have n4 := h.n4
  have r := h.inv.room
  have inv := h.inv
  refine ⟨by omega, by omega, ?_⟩
  cases hr : m.rw with
  | nil =>
    rw [hr] at r
    exact ⟨by show 0 ≤ m.num; omega, by show m.num ≤ m.num; omega, r.2.2⟩
  | cons x xs =>
    rw [hr] at r inv
    have tr := inv.takeRoom
    obtain ⟨gs, v, hg, _⟩ := inv
    have fl := MInv.floor v hg tr.1
    exact ⟨by show 0 ≤ floorU xs m.num; omega, by show floorU xs m.num ≤ m.num; omega, r.2.2⟩
theorem LRel.put {l : LS} {m : MS} (h : LRel l m) {row : List Int} {f : Int} {bl : List (List Int)} (hb : bl.length ≠ 0) {ca ca' ta wa ta' wa' : Addr} {bs : List Addr} : LRel { l with num := l.num + (bl.length : Nat), torn := none, ca := ca, cut := l.cut.filter (fun b => decide (f < b)), rows := l.rows ++ [((ta, wa), (l.num + 1, row))] } { mPut m bs ca' f bl with rows := m.rows ++ [((ta', wa'), (m.num + 1, row))] } := by
  refine ⟨?_, ?_, ?_, h.gone, ?_⟩
  · show l.num + _ = m.num + _
    rw [h.num]
  · show none = if bl.length = 0 then m.torn else none
    rw [if_neg hb]
  · show l.cut.filter _ = if bl.length = 0 then m.cut else m.cut.filter _
    rw [if_neg hb, h.cut]
  · show (l.rows ++ _).map Prod.snd = (m.rows ++ _).map Prod.snd
    rw [List.map_append, List.map_append]
    have e : l.rows.map Prod.snd = m.rows.map Prod.snd := h.rows
    rw [e, h.num]
    rfl
theorem LRel.take {l : LS} {m : MS} (h : LRel l m) {f : Int} {ca ca' ra : Addr} {bs : List Addr} {xs ys : List RA} (e : ys.map Prod.snd = xs.map Prod.snd) : LRel { l with num := l.num + 1, torn := none, ca := ca, cut := l.cut.filter (fun b => decide (f < b)), ra := ra, rows := ys } { mWrite m bs ca' (markB (m.num + 1) f) with rows := xs } := by
  refine ⟨?_, rfl, ?_, h.gone, e⟩
  · show l.num + 1 = m.num + 1
    rw [h.num]
  · show l.cut.filter _ = m.cut.filter _
    rw [h.cut]
    rfl
theorem LRel.heads {l : LS} {m : MS} (h : LRel l m) {x : RA} {xs : List RA} (e : m.rows = x :: xs) : ∃ y ys, l.rows = y :: ys ∧ y.2 = x.2 ∧ ys.map Prod.snd = xs.map Prod.snd := by
  have hr : l.rows.map Prod.snd = m.rows.map Prod.snd := h.rows
  rw [e] at hr
  cases hl : l.rows with
  | nil => rw [hl] at hr; cases hr
  | cons y ys =>
    rw [hl] at hr
    have h1 : y.2 = x.2 ∧ ys.map Prod.snd = xs.map Prod.snd := by simpa using hr
    exact ⟨y, ys, rfl, h1.1, h1.2⟩
theorem LRel.nil {l : LS} {m : MS} (h : LRel l m) (e : m.rows = []) : l.rows = [] := by
  have hr : l.rows.map Prod.snd = m.rows.map Prod.snd := h.rows
  rw [e] at hr
  simpa using hr
theorem LRel.cons {l : LS} {m : MS} (h : LRel l m) {y : RA} {ys : List RA} (e : l.rows = y :: ys) : m.rows ≠ [] := fun z => by
  rw [h.nil z] at e
  cases e

/-! ### what a log tells where no stop is due -/
section
variable {K : PySem.W.Frag} {Z : Ad} {lg : Addr} {l : LS} {s : DS} {m : MS} {kw : Int} {H : Hp} {Q : VK} {E : XK}
theorem told_facts (dr : DRel s { m with w := kw }) (lr : LRel l m) (hlt : m.lt = none) (hbig : m.num ≤ 999999999000000) :
    l.cut.length ≤ 1000 ∧ l.rows.length ≤ 1000 ∧ 0 ≤ l.num ∧ l.num ≤ 999999999999000 ∧ 0 ≤ floorU l.rw.tail l.num ∧ floorU l.rw.tail l.num ≤ l.num ∧ 0 ≤ floorU l.rw l.num ∧ floorU l.rw l.num ≤ l.num ∧ l.gone = false ∧ s.lt = none ∧ m.gone = false := by
  have fl : 0 ≤ floorU m.rw m.num ∧ floorU m.rw m.num ≤ m.num ∧ 0 ≤ floorU m.rw.tail m.num ∧ floorU m.rw.tail m.num ≤ m.num ∧ m.num - floorU m.rw m.num ≤ m.n - 1 := dr.floors
  have ll : l.cut.length ≤ 1000 ∧ l.rows.length ≤ 1000 := LRel.len (m := { m with w := kw }) ⟨lr.num, lr.torn, lr.cut, lr.gone, lr.rows⟩ dr
  have hs : s.lt = m.lt := dr.lt
  have hg : m.gone = false := dr.gn
  rw [lr.rows, lr.num]
  exact ⟨ll.1, ll.2, by omega, by omega, fl.2.2.1, fl.2.2.2.1, fl.1, fl.2.1, lr.gone.trans hg, hs.trans hlt, hg⟩
theorem told_empty (hH : Holds H (logL Z lg l ++ diskL Z l.d s)) (dr : DRel s { m with w := kw }) (lr : LRel l m) (hlt : m.lt = none) (hbig : m.num ≤ 999999999000000) (hr : m.rows = []) (k : Q (.str "empty") H) : sp_law_told K Z [.ref lg, .non] H Q E := by
  obtain ⟨h1, h2, h3, h4, h5, h6, _, _, h9, h10, _⟩ := told_facts dr lr hlt hbig
  refine .inl ⟨lg, l, s, rfl, hH, dr.ok, dr.p0, dr.p7, h1, h2, h3, h4, h5, h6, fun hg => ?_, fun _ _ => k, fun _ y ys hy => absurd hr (lr.cons hy)⟩
  rw [h9] at hg
  cases hg
theorem told_take (hH : Holds H (logL Z lg l ++ diskL Z l.d s)) (dr : DRel s { m with w := kw }) (lr : LRel l m) (hlt : m.lt = none) (hbig : m.num ≤ 999999999000000) {x : RA} {xs : List RA} (hr : m.rows = x :: xs) {bs : List Addr} {ca : Addr} (hb : bs.length = m.bs.length)
    (k : ∀ (p : Addr) (l3 : LS) (s3 : DS) (H' : Hp), l3.d = l.d → LRel l3 { mWrite m bs ca (markB (m.num + 1) (floorU m.rw.tail m.num)) with rows := xs } → DRel s3 { { mWrite m bs ca (markB (m.num + 1) (floorU m.rw.tail m.num)) with rows := xs } with w := kw + 1 } → s3.ws.length = s.ws.length →
      Frm (logL Z lg l ++ diskL Z l.d s) (((p, .lst (x.2.2.map V.int)) :: logL Z lg l3) ++ diskL Z l.d s3) H H' → Q (.ref p) H') : sp_law_told K Z [.ref lg, .non] H Q E := by
  obtain ⟨h1, h2, h3, h4, h5, h6, _, _, h9, h10, _⟩ := told_facts dr lr hlt hbig
  obtain ⟨y, ys, hy, hy2, hys⟩ := lr.heads hr
  refine .inl ⟨lg, l, s, rfl, hH, dr.ok, dr.p0, dr.p7, h1, h2, h3, h4, h5, h6, fun hg => ?_, fun _ hn => ?_, fun _ z zs hz => ⟨fun he => ?_, fun _ bs2 ca2 ra2 H4 hb2 f2 => ?_⟩⟩
  · rw [h9] at hg
    cases hg
  · rw [hn] at hy
    cases hy
  · rw [h10] at he
    cases he
  · rw [hy] at hz
    obtain ⟨rfl, rfl⟩ : y = z ∧ ys = zs := by
      cases hz
      exact ⟨rfl, rfl⟩
    rw [lr.rows, lr.num] at f2
    have lr5 := lr.take (f := floorU m.rw.tail m.num) (ca := ca2) (ca' := ca) (ra := ra2) (bs := bs) hys
    have dr5 := dr.takeOk (f := floorU m.rw.tail m.num) hr rfl (by show m.lt ≠ some 0; rw [hlt]; exact fun z => nomatch z) hb2 hb (ca := ca)
    rw [lr.num] at lr5
    rw [show y.2.2 = x.2.2 from by rw [hy2]] at f2
    exact k y.1.2 _ _ H4 (by rfl) lr5 dr5 (by show (putWs _ _ _ _).length = _; rw [putWs_len]) f2
theorem told_full {wr : Addr} {row : List Int} (hH : Holds H ((wr, .lst (row.map V.int)) :: (logL Z lg l ++ diskL Z l.d s))) (h11 : row.length ≤ 11) (hwb : ∀ x ∈ row, 0 ≤ x ∧ x ≤ 999999999) (dr : DRel s { m with w := kw }) (lr : LRel l m) (hlt : m.lt = none) (hbig : m.num ≤ 999999999000000) (c : (m.n : Int) - 1 - (m.num - floorU m.rw m.num) < (pcs row).length)
    (k : ∀ H', Upto [] H H' → Q (.str "full") H') : sp_law_told K Z [.ref lg, .ref wr] H Q E := by
  obtain ⟨h1, h2, h3, h4, _, _, h5, h6, h9, h10, _⟩ := told_facts dr lr hlt hbig
  have dn : s.ws.length = m.n := dr.n
  refine .inr ⟨lg, wr, l, s, row, rfl, hH, dr.ok, dr.p0, dr.p7, (fun t ht => by rw [h10] at ht; cases ht), h11, hwb, h1, h2, h3, h4, h5, h6, fun hg => ?_, fun _ _ H' u => k H' u, fun _ c2 => ?_⟩
  · rw [h9] at hg
    cases hg
  · rw [dn, lr.rows, lr.num] at c2
    omega
theorem told_put {wr : Addr} {row : List Int} (hH : Holds H ((wr, .lst (row.map V.int)) :: (logL Z lg l ++ diskL Z l.d s))) (h11 : row.length ≤ 11) (hwb : ∀ x ∈ row, 0 ≤ x ∧ x ≤ 999999999) (dr : DRel s { m with w := kw }) (lr : LRel l m) (hlt : m.lt = none) (hbig : m.num ≤ 999999999000000) (c : ((pcs row).length : Int) ≤ (m.n : Int) - 1 - (m.num - floorU m.rw m.num)) {bs : List Addr} {ca ta wm : Addr} (hb : bs.length = m.bs.length)
    (k : ∀ (l3 : LS) (s3 : DS) (H' : Hp), l3.d = l.d → LRel l3 { mPut m bs ca (floorU m.rw m.num) (rowB row (floorU m.rw m.num) (m.num + 1)) with rows := m.rows ++ [((ta, wm), (m.num + 1, row))] } → DRel s3 { { mPut m bs ca (floorU m.rw m.num) (rowB row (floorU m.rw m.num) (m.num + 1)) with rows := m.rows ++ [((ta, wm), (m.num + 1, row))] } with w := kw + ((rowB row (floorU m.rw m.num) (m.num + 1)).length : Nat) } → s3.ws.length = s.ws.length →
      Frm (logL Z lg l ++ diskL Z l.d s) (logL Z lg l3 ++ diskL Z l.d s3) H H' → Q (.int (m.num + 1)) H') : sp_law_told K Z [.ref lg, .ref wr] H Q E := by
  obtain ⟨h1, h2, h3, h4, _, _, h5, h6, h9, h10, _⟩ := told_facts dr lr hlt hbig
  have dn : s.ws.length = m.n := dr.n
  refine .inr ⟨lg, wr, l, s, row, rfl, hH, dr.ok, dr.p0, dr.p7, (fun t ht => by rw [h10] at ht; cases ht), h11, hwb, h1, h2, h3, h4, h5, h6, fun hg => ?_, fun _ c2 => ?_, fun _ _ => ⟨fun t2 b3 bs2 H4 ht2 _ _ _ => ?_, fun _ bs2 ca2 ta2 wa2 H4 hbs2 f2 => ?_⟩⟩
  · rw [h9] at hg
    cases hg
  · rw [dn, lr.rows, lr.num] at c2
    omega
  · rw [h10] at ht2
    cases ht2
  · rw [lr.rows, lr.num] at f2
    rw [lr.num]
    have lr5 := lr.put (row := row) (f := floorU m.rw m.num) (bl := rowB row (floorU m.rw m.num) (m.num + 1)) (by rw [rowB_len, pcs_len]; omega) (ca := ca2) (ca' := ca) (ta := ta2) (wa := wa2) (ta' := ta) (wa' := wm) (bs := bs)
    have dr5 := dr.putOk (row := row) (f := floorU m.rw m.num) rfl c h11 hwb (fun t ht => by have ht : m.lt = some t := ht; rw [hlt] at ht; cases ht) hbs2 hb (ca := ca) (ta := ta) (wr := wm)
    rw [lr.num, rowB_len] at lr5
    exact k _ _ H4 (by rfl) lr5 dr5 (by show (putWs _ _ _ _).length = _; rw [putWs_len]) f2
end
theorem perm_log1 {α : Type} (x : α) (A B R : List α) : (A ++ B ++ (x :: R)).Perm (x :: (A ++ (B ++ R))) := by
  classical
  exact List.perm_iff_count.mpr fun a => by
    simp only [List.count_append, List.count_cons, List.count_nil]
    omega
theorem perm_log2 {α : Type} (x : α) (A B C D R : List α) : (C ++ D ++ (x :: (A ++ (B ++ R)))).Perm (x :: (A ++ (B ++ (C ++ (D ++ R))))) := by
  classical
  exact List.perm_iff_count.mpr fun a => by
    simp only [List.count_append, List.count_cons, List.count_nil]
    omega
theorem sub_twoG {α : Type} {L₁ L₂ B : List α} : (L₁ ++ L₂).Sublist (L₁ ++ (L₂ ++ B)) := by
  rw [← List.append_assoc]
  exact List.sublist_append_left _ _
theorem sub4 {α : Type} {A B C D X : List α} : X.Sublist (A ++ (B ++ (C ++ (D ++ X)))) := (((List.sublist_append_right _ _).trans (List.sublist_append_right _ _)).trans (List.sublist_append_right _ _)).trans (List.sublist_append_right _ _)
theorem sub2b {α : Type} {A B C D X : List α} : (C ++ D).Sublist (A ++ (B ++ (C ++ (D ++ X)))) := (sub_twoG.trans (List.sublist_append_right _ _)).trans (List.sublist_append_right _ _)
theorem sh_two {d : PyData} {n : Nat} (h : Sh n d) : Sh (n + 1) (.list [d, d]) := .lst (show 2 ≤ 100000 by decide) fun e he => by
  simp only [List.mem_cons, List.not_mem_nil, or_false, or_self] at he
  rw [he]
  exact h
theorem dp_two {K : PySem.W.Frag} {H : Hp} {a : Addr} {x y : V} {d : PyData} (fa : H a = some (.lst [x, y])) (dx : Dp K H x d) (dy : Dp K H y d) : Dp K H (.ref a) (.list [d, d]) := .lst (SqL.of fa) (.cons dx (.cons dy .nil))

/-! ### what a log tells where a stop may be due -/
def roomM (m : MS) : Int := (m.n : Int) - 1 - (m.num - floorU m.rw m.num)
theorem roomM_cut {m m' : MS} {t : Int} (hr : m'.rows = m.rows) (hn : m'.n = m.n) (hm : m'.num = m.num + t) (ht : 0 ≤ t) : roomM m - t ≤ roomM m' := by
  unfold roomM MS.rw
  rw [hr, hn, hm]
  cases m.rows with
  | nil =>
    show (m.n : Int) - 1 - (m.num - m.num) - t ≤ (m.n : Int) - 1 - (m.num + t - (m.num + t))
    omega
  | cons x xs =>
    show (m.n : Int) - 1 - (m.num - (x.2.1 - 1)) - t ≤ (m.n : Int) - 1 - (m.num + t - (x.2.1 - 1))
    omega
def wordsM (m : MS) : List (List Int) := m.rows.map fun x => x.2.2
section
variable {K : PySem.W.Frag} {Z : Ad} {lg : Addr} {l : LS} {s : DS} {m : MS} {H : Hp} {Q : VK} {E : XK}
theorem told_facts3 (dr : DRel s m) (lr : LRel l m) (hbig : m.num ≤ 999999999000000) :
    l.cut.length ≤ 1000 ∧ l.rows.length ≤ 1000 ∧ 0 ≤ l.num ∧ l.num ≤ 999999999999000 ∧ 0 ≤ floorU l.rw.tail l.num ∧ floorU l.rw.tail l.num ≤ l.num ∧ 0 ≤ floorU l.rw l.num ∧ floorU l.rw l.num ≤ l.num ∧ l.gone = false := by
  have fl := dr.floors
  have ll := lr.len dr
  rw [lr.rows, lr.num]
  exact ⟨ll.1, ll.2, by omega, by omega, fl.2.2.1, fl.2.2.2.1, fl.1, fl.2.1, lr.gone.trans dr.gn⟩
theorem told_takeS (hH : Holds H (logL Z lg l ++ diskL Z l.d s)) (dr : DRel s m) (lr : LRel l m) (hbig : m.num ≤ 999999999000000)
    (k0 : m.rows = [] → Q (.str "empty") H)
    (k1 : ∀ (s' : DS) (m' : MS) (H' : Hp), DRel s' m' → m'.rows = m.rows → m'.num = m.num → m'.n = m.n → Frm (logL Z lg l ++ diskL Z l.d s) (diskL Z l.d s') H H' → Q (.str "stopped") H')
    (k2 : ∀ (x : RA) (xs : List RA) (p : Addr) (l' : LS) (s' : DS) (m' : MS) (H' : Hp), m.rows = x :: xs → DRel s' m' → LRel l' m' → l'.d = l.d → m'.rows = xs → m'.num = m.num + 1 → m'.n = m.n →
      Frm (logL Z lg l ++ diskL Z l.d s) (((p, .lst (x.2.2.map V.int)) :: logL Z lg l') ++ diskL Z l.d s') H H' → Q (.ref p) H') : sp_law_told K Z [.ref lg, .non] H Q E := by
  obtain ⟨h1, h2, h3, h4, h5, h6, _, _, h9⟩ := told_facts3 dr lr hbig
  refine .inl ⟨lg, l, s, rfl, hH, dr.ok, dr.p0, dr.p7, h1, h2, h3, h4, h5, h6, fun hg => ?_, fun _ hn => k0 ?_, fun _ z zs hz => ?_⟩
  · rw [h9] at hg
    cases hg
  · have e := lr.rows
    unfold LS.rw MS.rw at e
    rw [hn] at e
    exact List.map_eq_nil_iff.mp e.symm
  · obtain ⟨x, xs, hr⟩ : ∃ x xs, m.rows = x :: xs := by
      cases hm : m.rows with
      | nil => exact absurd hm (lr.cons hz)
      | cons x xs => exact ⟨x, xs, rfl⟩
    obtain ⟨y, ys, hy, hy2, hys⟩ := lr.heads hr
    obtain ⟨rfl, rfl⟩ : y = z ∧ ys = zs := by
      rw [hy] at hz
      cases hz
      exact ⟨rfl, rfl⟩
    refine ⟨fun he bs2 H4 hb2 f2 => ?_, fun hne bs2 ca2 ra2 H4 hb2 f2 => ?_⟩
    · rw [lr.rows, lr.num] at f2
      have dr5 := dr.takeCut (f := floorU m.rw.tail m.num) hr rfl (dr.lt.symm.trans he) hb2 (rfl : m.bs.length = m.bs.length)
      exact k1 _ _ H4 dr5 rfl rfl rfl f2
    · rw [lr.rows, lr.num] at f2
      have lr5 := lr.take (f := floorU m.rw.tail m.num) (ca := ca2) (ca' := m.ca) (ra := ra2) (bs := m.bs) hys
      have dr5 := dr.takeOk (f := floorU m.rw.tail m.num) hr rfl (fun z => hne (dr.lt.trans z)) hb2 (rfl : m.bs.length = m.bs.length) (ca := m.ca)
      rw [lr.num] at lr5
      rw [show y.2.2 = x.2.2 from by rw [hy2]] at f2
      exact k2 x xs y.1.2 _ _ _ H4 hr dr5 lr5 (by rfl) rfl rfl rfl f2
theorem told_putS {wr : Addr} {row : List Int} (hH : Holds H ((wr, .lst (row.map V.int)) :: (logL Z lg l ++ diskL Z l.d s))) (h11 : row.length ≤ 11) (hwb : ∀ x ∈ row, 0 ≤ x ∧ x ≤ 999999999) (dr : DRel s m) (lr : LRel l m) (hbig : m.num ≤ 999999999000000) (c : ((pcs row).length : Int) ≤ roomM m)
    (k1 : ∀ (t : Nat) (s' : DS) (m' : MS) (H' : Hp), t < (pcs row).length → DRel s' m' → m'.rows = m.rows → m'.num = m.num + (t : Int) → m'.n = m.n → Frm (logL Z lg l ++ diskL Z l.d s) (diskL Z l.d s') H H' → Q (.str "stopped") H')
    (k2 : ∀ (l' : LS) (s' : DS) (m' : MS) (H' : Hp), DRel s' m' → LRel l' m' → l'.d = l.d → wordsM m' = wordsM m ++ [row] → m'.num = m.num + ((pcs row).length : Int) → m'.n = m.n →
      Frm (logL Z lg l ++ diskL Z l.d s) (logL Z lg l' ++ diskL Z l.d s') H H' → Q (.int (m.num + 1)) H') : sp_law_told K Z [.ref lg, .ref wr] H Q E := by
  obtain ⟨h1, h2, h3, h4, _, _, h5, h6, h9⟩ := told_facts3 dr lr hbig
  have hs0 : ∀ t, s.lt = some t → 0 ≤ t := fun t ht => dr.lt0 t (dr.lt.symm.trans ht)
  refine .inr ⟨lg, wr, l, s, row, rfl, hH, dr.ok, dr.p0, dr.p7, hs0, h11, hwb, h1, h2, h3, h4, h5, h6, fun hg => ?_, fun _ c2 => ?_, fun _ _ => ⟨fun t b bs2 H4 ht hb hbs2 f2 => ?_, fun ht bs2 ca2 ta2 wa2 H4 hbs2 f2 => ?_⟩⟩
  · rw [h9] at hg
    cases hg
  · rw [dr.n, lr.rows, lr.num] at c2
    unfold roomM at c
    omega
  · rw [lr.rows, lr.num] at hb f2
    have htl : t < (pcs row).length := by
      have := (List.getElem?_eq_some_iff.mp hb).1
      rwa [rowB_len] at this
    have dr5 := dr.putCut (row := row) (f := floorU m.rw m.num) rfl c h11 hwb (dr.lt.symm.trans ht) hb (ca := m.ca) hbs2 (rfl : m.bs.length = m.bs.length)
    refine k1 t _ _ H4 htl dr5 rfl ?_ rfl f2
    show m.num + (((rowB row (floorU m.rw m.num) (m.num + 1)).take t).length : Nat) = m.num + (t : Int)
    rw [List.length_take, rowB_len]
    omega
  · rw [lr.rows, lr.num] at f2
    rw [lr.num]
    have lr5 := lr.put (row := row) (f := floorU m.rw m.num) (bl := rowB row (floorU m.rw m.num) (m.num + 1)) (by rw [rowB_len, pcs_len]; omega) (ca := ca2) (ca' := m.ca) (ta := ta2) (wa := wa2) (ta' := ta2) (wa' := wa2) (bs := m.bs)
    have dr5 := dr.putOk (row := row) (f := floorU m.rw m.num) rfl c h11 hwb (fun t h => ht t (dr.lt.trans h)) hbs2 (rfl : m.bs.length = m.bs.length) (ca := m.ca) (ta := ta2) (wr := wa2)
    rw [lr.num, rowB_len] at lr5
    refine k2 _ _ _ H4 dr5 lr5 (by rfl) ?_ ?_ rfl f2
    · show (m.rows ++ [_]).map _ = m.rows.map _ ++ [row]
      rw [List.map_append]
      rfl
    · show m.num + ((rowB row (floorU m.rw m.num) (m.num + 1)).length : Nat) = m.num + ((pcs row).length : Int)
      rw [rowB_len]
end
/-- a log that comes up on a disk -/
theorem up_log {K : PySem.W.Frag} {Z : Ad} {x dx d : Addr} {s : DS} {m : MS} {H : Hp} {Q : VK} {E : XK} (hH : Holds H ((x, .ins Z.Log dx []) :: (dx, .own x) :: diskL Z d s)) (dr : DRel s m) (hbig : m.num ≤ 999999999000000)
    (k : ∀ (l : LS) (r' : Int) (H' : Hp), l.d = d → LRel l m → DRel { s with r := r' } m → Frm ((x, .ins Z.Log dx []) :: (dx, .own x) :: diskL Z d s) (logL Z x l ++ diskL Z d { s with r := r' }) H H' → Q .non H') : sp_Log___init__ K Z [.ref x, .ref d] H Q E := by
  obtain ⟨gs, vw, hgr, hgc⟩ := dr.inv
  have vw2 : View s.ws.length s.ws m.num m.flo m.torn gs := by rw [dr.n, dr.ws]; exact vw
  have hgo : goneB s.ws.length s.ws m.num = false := by rw [dr.n, dr.ws]; exact dr.gb
  refine ⟨x, dx, d, s, m.num, m.flo, m.torn, gs, rfl, hH, dr.ok, vw2, by omega, fun ca ra xs r' H7 hxs _ _ f => ?_⟩
  rw [hgo] at hxs f
  refine k ⟨dx, d, m.num, m.torn, ca, cutIn gs, false, ra, xs⟩ r' H7 rfl ⟨rfl, rfl, hgc, dr.gn.symm, ?_⟩ (dr.reads (r := r')) f
  show xs.map Prod.snd = _
  rw [hxs, if_neg (by decide)]
  exact hgr

/-- a log and its disk, where no stop is told: the rows' words, the last number, the room -/
structure Lg (s : DS) (l : LS) (ws : List (List Int)) (c q : Int) : Prop where
  ex : ∃ m : MS, DRel s m ∧ LRel l m ∧ m.lt = none ∧ wordsM m = ws ∧ m.num ≤ c ∧ q ≤ roomM m
abbrev lgL (Z : Ad) (r : Addr) (o : HO) (lg : Addr) (l : LS) (s : DS) : List (Addr × HO) := (r, o) :: (logL Z lg l ++ diskL Z l.d s)
def sp_law_done (K : PySem.W.Frag) (Z : Ad) : Sp := fun vs H Q _ =>
  (∃ (r sc lg : Addr) (o : HO) (ns : List Int) (S : List (Addr × HO)) (l : LS) (s : DS) (ws : List (List Int)) (c : Int), vs = [.ref r, .ref l.d, .ref lg, .non] ∧ Holds H (lgL Z r o lg l s ++ S) ∧ RowO sc o ∧ ScrL K sc ns S ∧ Lg s l ws c 0 ∧ c ≤ 900000000000000 ∧
    (ws = [] → ∀ (t lg' : Addr) (o' : HO) (l' : LS) (s' : DS) (H' : Hp), RowO sc o' → Lg s' l' [] (c + 1) 0 → l'.d = l.d → Frm (lgL Z r o lg l s) ((t, .tup [.ref lg', .str "empty"]) :: lgL Z r o' lg' l' s') H H' → Q (.ref t) H') ∧
    (∀ (w : List Int) (wss : List (List Int)), ws = w :: wss → ∀ (t p lg' : Addr) (o' : HO) (l' : LS) (s' : DS) (H' : Hp), RowO sc o' → Lg s' l' wss (c + 1) 0 → l'.d = l.d → Frm (lgL Z r o lg l s) ((t, .tup [.ref lg', .ref p]) :: (p, .lst (w.map V.int)) :: lgL Z r o' lg' l' s') H H' → Q (.ref t) H')) ∨
  (∃ (r sc lg wr : Addr) (o : HO) (ns : List Int) (S : List (Addr × HO)) (l : LS) (s : DS) (ws : List (List Int)) (c : Int) (row : List Int), vs = [.ref r, .ref l.d, .ref lg, .ref wr] ∧ Holds H (((wr, .lst (row.map V.int)) :: lgL Z r o lg l s) ++ S) ∧ RowO sc o ∧ ScrL K sc ns S ∧ Lg s l ws c (4 * (pcs row).length - 3) ∧ c ≤ 900000000000000 ∧ row.length ≤ 11 ∧ (∀ x ∈ row, 0 ≤ x ∧ x ≤ 999999999) ∧
    (∀ (t lg' : Addr) (b : Int) (o' : HO) (l' : LS) (s' : DS) (H' : Hp), RowO sc o' → Lg s' l' (ws ++ [row]) (c + 16) 0 → l'.d = l.d → Frm ((wr, .lst (row.map V.int)) :: lgL Z r o lg l s) ((t, .tup [.ref lg', .int b]) :: (wr, .lst (row.map V.int)) :: lgL Z r o' lg' l' s') H H' → Q (.ref t) H'))
theorem s_neDX {K : PySem.W.Frag} {x y : V} {d e : PyData} {H : Hp} {Q : VK} (hx : Dp K H x d) (hy : Dp K H y e) (sd : SeqAt.shaped d = true) (se : SeqAt.shaped e = true) (h : Q (.bl (!PyData.eqv d e)) H) : rNeD K x y H Q := ⟨d, e, hx, hy, sd, se, h⟩
theorem shapedD (x : Str) (h : (PyData.str x).canLay0 = true) : SeqAt.shaped (.str x) = true := by
  unfold SeqAt.shaped
  rw [h]
  rfl
theorem room_same {m m' : MS} (hr : m'.rows = m.rows) (hn : m'.n = m.n) (hm : m'.num = m.num) : roomM m' = roomM m := by
  unfold roomM MS.rw
  rw [hr, hn, hm]
theorem room_ge {s : DS} {m : MS} (h : DRel s m) : 0 ≤ roomM m := by
  have f := h.floors
  have n := h.n4
  unfold roomM
  omega
theorem perm_4 {α : Type} (w r x d : α) (L : List α) : (w :: r :: x :: d :: L).Perm (x :: d :: w :: r :: L) := by
  classical
  exact List.perm_iff_count.mpr fun a => by
    simp only [List.count_cons]
    omega
theorem sc_law_done : FnScope ["_law_row", "_law_disk", "_law_log", "_law_words", "_law_turn", "_law_told_here"] ["_law_row", "_law_disk", "_law_log", "_law_words"] (defScope st_law_done) := ⟨rfl, rfl, rfl, by decide +kernel, rfl, by decide +kernel, by decide +kernel⟩
/-! ### a disk full of marks -/
def marks (a : Int) (j : Nat) : List (List Int) := (List.range j).map fun (i : Nat) => markB (a + (i : Int)) (a + (i : Int) - 1)
theorem marks_snoc (a : Int) (j : Nat) : marks a (j + 1) = marks a j ++ [markB (a + (j : Int)) (a + (j : Int) - 1)] := by
  unfold marks
  rw [List.range_succ, List.map_append]
  rfl
theorem marks_len (a : Int) (j : Nat) : (marks a j).length = j := by simp [marks]
theorem marks_each {a : Int} {j : Nat} {b : List Int} (h : b ∈ marks a j) : b.length = 8 := by
  obtain ⟨i, _, rfl⟩ := List.mem_map.mp h
  rfl
theorem putWs_marks {n : Nat} {ws : List (List Int)} {a : Int} (hn : 0 < n) (hl : ws.length = n) : ∀ j : Nat, j ≤ n → ∀ k : Int, a ≤ k → k < a + j → blkOf n (putWs n ws (a - 1) (marks a j)) k = markB k (k - 1)
  | 0, _, k, h1, h2 => by omega
  | j + 1, hj, k, h1, h2 => by
    rw [marks_snoc, putWs_snoc, marks_len]
    have e : a - 1 + (j : Int) + 1 = a + (j : Int) := by omega
    rw [e, blkOf_set hn (by rw [putWs_len]; exact hl)]
    by_cases c : k = a + (j : Int)
    · subst c
      rw [if_pos rfl]
    · rw [if_neg]
      · exact putWs_marks hn hl j (by omega) k h1 (by push_cast at h2; omega)
      · intro e2
        push_cast at h2
        have := mod_inj hn e2.symm (by omega) (by omega)
        omega
theorem begun_inv {n : Nat} {ws : List (List Int)} {a : Int} (h4 : 4 ≤ n) (h64 : n ≤ 64) (hl : ws.length = n) (h8 : ∀ w ∈ ws, w.length = 8) (ha : (n : Int) ≤ a) : MInv n (putWs n ws (a - 1) (marks a n)) (a + n - 1) (a + n - 2) none [] [] := by
  have hg := fun k h1 h2 => putWs_marks (n := n) (ws := ws) (a := a) (by omega) hl n (Nat.le_refl _) k h1 h2
  have hpl : (putWs n ws (a - 1) (marks a n)).length = n := by rw [putWs_len]; exact hl
  have hlast := hg (a + n - 1) (by omega) (by omega)
  refine ⟨[], ⟨⟨by omega, fun i k hi h1 h2 h3 _ => ?_, fun t ht => by cases ht⟩, h4, h64, hpl, ?_, by omega, by omega, by omega, fun _ => ⟨by omega, ?_⟩, ?_⟩, rfl, rfl⟩
  · have e := hg k (by omega) (by omega)
    unfold blkOf at e
    have e2 : (k % (n : Int)).toNat = i := by rw [h3]; omega
    rw [e2] at e
    rw [e, if_pos (by omega)]
    exact ⟨rfl, rfl⟩
  · have : ∀ (bl ws : List (List Int)) (num : Int), (∀ b ∈ bl, b.length = 8) → (∀ w ∈ ws, w.length = 8) → ∀ w ∈ putWs n ws num bl, w.length = 8 := by
      intro bl
      induction bl with
      | nil => intro ws num _ h; exact h
      | cons b bl ih =>
        intro ws num hb hw
        refine ih _ _ (fun x hx => hb x (List.mem_cons_of_mem _ hx)) fun w hw2 => ?_
        rcases mem_set' hw2 with hw2 | hw2
        · exact hw w hw2
        · rw [hw2]; exact hb b List.mem_cons_self
    exact this _ ws _ (fun b hb => marks_each hb) h8
  · rw [hlast]
    show a + n - 1 - 1 = a + n - 2
    omega
  · have e : a + (n : Int) - 1 = a + (n : Int) - 2 + 1 := by omega
    rw [e, useB_snoc (Int.le_refl _), useB_nil (Int.le_refl _), ← e, hlast, List.nil_append, grp_cons]
    rfl
theorem begun_gone {n : Nat} {ws : List (List Int)} {a : Int} (h4 : 4 ≤ n) (hl : ws.length = n) : goneB n (putWs n ws (a - 1) (marks a n)) (a + n - 1) = false := by
  have hlast := putWs_marks (n := n) (ws := ws) (a := a) (by omega) hl n (Nat.le_refl _) (a + n - 1) (by omega) (by omega)
  exact goneB_of hlast (.inr (by show (0 : Int) ≠ 1; decide))
def ds1 (dx bl : Addr) (bs : List Addr) (n : Nat) (a : Int) (j : Nat) : DS := ⟨dx, bl, bs, putWs n (List.replicate n (List.replicate 8 0)) (a - 1) (marks a j), 0, (j : Nat), none, 0⟩
def ms1 (dl : Addr) (bs : List Addr) (n : Nat) (a : Int) (j : Nat) (ra ca : Addr) : MS := ⟨n, dl, bs, putWs n (List.replicate n (List.replicate 8 0)) (a - 1) (marks a j), if j = 0 then n - 1 else a + (j : Nat) - 1, if j = 0 then n - 1 else a + (j : Nat) - 2, ra, [], ca, [], none, none, 0, (j : Nat), false⟩
theorem zeros8 {n : Nat} : ∀ w ∈ List.replicate n (List.replicate 8 (0 : Int)), w.length = 8 := fun w hw => by rw [(List.mem_replicate.mp hw).2, List.length_replicate]
theorem ds1_ok {dx bl : Addr} {bs : List Addr} {n : Nat} {a : Int} {j : Nat} (h4 : 4 ≤ n) (h64 : n ≤ 64) (hb : bs.length = n) : (ds1 dx bl bs n a j).Ok := by
  have hw : (putWs n (List.replicate n (List.replicate 8 (0 : Int))) (a - 1) (marks a j)).length = n := by rw [putWs_len, List.length_replicate]
  refine ⟨hb.trans hw.symm, by show 4 ≤ (putWs _ _ _ _).length; omega, by show (putWs _ _ _ _).length ≤ 64; omega, ?_⟩
  have : ∀ (bl ws : List (List Int)) (num : Int), (∀ b ∈ bl, b.length = 8) → (∀ w ∈ ws, w.length = 8) → ∀ w ∈ putWs n ws num bl, w.length = 8 := by
    intro bl
    induction bl with
    | nil => intro ws num _ h; exact h
    | cons b bl ih =>
      intro ws num hb hw
      refine ih _ _ (fun x hx => hb x (List.mem_cons_of_mem _ hx)) fun w hw2 => ?_
      rcases mem_set' hw2 with hw2 | hw2
      · exact hw w hw2
      · rw [hw2]; exact hb b List.mem_cons_self
  exact this _ _ _ (fun b hb => marks_each hb) zeros8
theorem begun_rel {dx bl dl ra ca : Addr} {bs bs' : List Addr} {n : Nat} {a : Int} (h4 : 4 ≤ n) (h64 : n ≤ 64) (hb : bs.length = n) (hb' : bs'.length = n) (ha : (n : Int) ≤ a) : DRel (ds1 dx bl bs n a n) (ms1 dl bs' n a n ra ca) := by
  have hw : (putWs n (List.replicate n (List.replicate 8 (0 : Int))) (a - 1) (marks a n)).length = n := by rw [putWs_len, List.length_replicate]
  have hn : ¬ n = 0 := by omega
  refine ⟨ds1_ok h4 h64 hb, hb', hw, rfl, rfl, rfl, fun _ => rfl, Int.le_refl _, (by show (0 : Int) ≤ 7; decide), Int.le_refl _, (by show (0 : Int) ≤ 7; decide), (fun t ht => by cases ht), ?_, (fun x hx => nomatch hx), rfl, ?_, fun hb9 => ?_, fun x hx => nomatch hx⟩
  · show MInv n _ (if n = 0 then (n : Int) - 1 else a + (n : Nat) - 1) (if n = 0 then (n : Int) - 1 else a + (n : Nat) - 2) none [] []
    rw [if_neg hn, if_neg hn]
    exact begun_inv h4 h64 List.length_replicate zeros8 ha
  · show goneB n _ (if n = 0 then (n : Int) - 1 else a + (n : Nat) - 1) = false
    rw [if_neg hn]
    exact begun_gone h4 List.length_replicate
  · have hb9 : (if n = 0 then (n : Int) - 1 else a + (n : Nat) - 1) ≤ 999999999999000 := hb9
    rw [if_neg hn] at hb9
    refine GoodB.puts (fun b hb => ?_) fun w hw => by rw [(List.mem_replicate.mp hw).2]; exact GoodB.zeros
    obtain ⟨i, hi, rfl⟩ := List.mem_map.mp hb
    rw [List.mem_range] at hi
    exact GoodB.end_ (by omega) (by omega) (.inl rfl)
theorem fresh_rel {dx bl dl ra ca : Addr} {bs bs' : List Addr} {n : Nat} (h4 : 4 ≤ n) (h64 : n ≤ 64) (hb : bs.length = n) (hb' : bs'.length = n) : DRel ⟨dx, bl, bs, List.replicate n (List.replicate 8 0), 0, 0, none, 0⟩ ⟨n, dl, bs', List.replicate n (List.replicate 8 0), n - 1, n - 1, ra, [], ca, [], none, none, 0, 0, false⟩ := by
  have hw : (List.replicate n (List.replicate 8 (0 : Int))).length = n := List.length_replicate
  refine ⟨⟨hb.trans hw.symm, by show 4 ≤ (List.replicate n _).length; omega, by show (List.replicate n _).length ≤ 64; omega, zeros8⟩, hb', hw, rfl, rfl, rfl, fun _ => rfl, Int.le_refl _, (by show (0 : Int) ≤ 7; decide), Int.le_refl _, (by show (0 : Int) ≤ 7; decide), (fun t ht => by cases ht), MInv.fresh h4 h64, (fun x hx => nomatch hx), rfl, ?_, fun _ w hw => by rw [(List.mem_replicate.mp hw).2]; exact GoodB.zeros, fun x hx => nomatch hx⟩
  show goneB n _ ((n : Int) - 1) = false
  unfold goneB
  rw [decide_eq_false (by omega), Bool.false_and]
theorem ds1_next {dx bl : Addr} {bs bs' : List Addr} {n : Nat} {a : Int} {j : Nat} : ({ ds1 dx bl bs n a j with bs := bs', ws := (ds1 dx bl bs n a j).ws.set ((a + (j : Int)) % n).toNat (markB (a + (j : Int)) (a + (j : Int) - 1)), w := (ds1 dx bl bs n a j).w + 1, lt := (ds1 dx bl bs n a j).lt.map (· - 1) } : DS) = ds1 dx bl bs' n a (j + 1) := by
  unfold ds1
  rw [marks_snoc, putWs_snoc, marks_len]
  have e : a - 1 + (j : Int) + 1 = a + (j : Int) := by omega
  rw [e]
  rfl
theorem ms1_next {dl ra ca ca' : Addr} {bs bs' : List Addr} {n : Nat} {a : Int} {j : Nat} : mWrite (ms1 dl bs n a j ra ca) bs' ca' (markB (a + (j : Int)) (a + (j : Int) - 1)) = ms1 dl bs' n a (j + 1) ra ca' := by
  unfold mWrite ms1
  rw [marks_snoc, putWs_snoc, marks_len]
  have e : a - 1 + (j : Int) + 1 = a + (j : Int) := by omega
  rw [e, if_neg (show ¬ j + 1 = 0 by omega), if_neg (show ¬ j + 1 = 0 by omega)]
  show MS.mk _ _ _ _ (a + (j : Int)) (a + (j : Int) - 1) _ _ _ _ _ _ _ ((j : Int) + 1) _ = _
  congr 1
  · push_cast; omega
  · push_cast; omega
theorem perm_turn {α : Type} (x : α) (A B : List α) : (x :: (A ++ B)).Perm (B ++ (A ++ [x])) := (List.Perm.cons _ List.perm_append_comm).trans (perm4 [] B A x)
theorem perm_in2 {α : Type} (w r : α) (B C : List α) : (r :: (B ++ (w :: C))).Perm (w :: r :: (B ++ C)) := perm_in w r [] B C
theorem perm_end {α : Type} (x y : α) (B : List α) : ((x :: B) ++ [y]).Perm (x :: y :: B) := List.Perm.cons _ (List.perm_append_comm (l₁ := B) (l₂ := [y]))
theorem perm_two {α : Type} (a b c d : α) (B : List α) : (c :: d :: (a :: b :: B)).Perm (a :: b :: c :: d :: B) := by
  have h : ([c, d] ++ ([a, b] ++ B)).Perm ([a, b] ++ ([c, d] ++ B)) := by
    rw [← List.append_assoc, ← List.append_assoc]
    exact List.Perm.append_right _ List.perm_append_comm
  exact h

theorem Sh.blocks {ws : List (List Int)} (h : ws.length ≤ 64) (h8 : ∀ w ∈ ws, w.length = 8) : Sh 4 (.list (ws.map fun xs => PyData.list (xs.map PyData.int))) := Sh.lists (by omega) fun xs hx => by rw [h8 xs hx]; decide
theorem lay_lists (ws : List (List Int)) : (PyData.list (ws.map fun xs => PyData.list (xs.map PyData.int))).canLay0 = true := by
  rw [PyData.canLay0]
  refine layAll fun d hd => ?_
  obtain ⟨xs, _, rfl⟩ := List.mem_map.mp hd
  rw [PyData.canLay0, lay_ints]

/-! ### what a log tells, as data -/
theorem dp_rL2 {K : PySem.W.Frag} {H : Hp} : ∀ {xs : List RA}, (∀ y ∈ rL xs, H y.1 = some y.2) → DpAll K H (xs.map fun x => V.ref x.1.2) ((xs.map fun x => x.2.2).map fun w => PyData.list (w.map PyData.int))
  | [], _ => .nil
  | x :: xs, h => .cons (Dp.ints (SqL.of (h (x.1.2, _) (List.mem_cons_of_mem _ List.mem_cons_self)))) (dp_rL2 fun y hy => h y (List.mem_cons_of_mem _ (List.mem_cons_of_mem _ hy)))
theorem words_eq {l : LS} {m : MS} (h : LRel l m) : (l.rows.map fun x => x.2.2) = m.rows.map fun x => x.2.2 := by
  have e := congrArg (List.map Prod.snd) h.rows
  unfold LS.rw MS.rw at e
  rw [List.map_map, List.map_map] at e
  exact e
def optD' : Option Int → PyData
  | none => .none
  | some i => .int i
theorem Dp.opt' {K : PySem.W.Frag} {H : Hp} : ∀ o : Option Int, Dp K H (ltV o) (optD' o)
  | none => .non
  | some i => .int i
theorem Sh.opt' {n : Nat} : ∀ o : Option Int, Sh (n + 1) (optD' o)
  | none => .non
  | some i => .int i

def sp_law (K : PySem.W.Frag) (_ : Ad) : Sp := fun vs H Q _ => ∃ (a : Addr) (ns : List Int), vs = [.ref a] ∧ SqL K H a (ns.map V.int) ∧ ns.length ≤ 63 ∧ ∀ H', Q (.bl true) H'
abbrev prL (Z : Ad) (lg : Addr) (l : LS) (s : DS) : List (Addr × HO) := logL Z lg l ++ diskL Z l.d s
abbrev bsL (Z : Ad) (ls ds du r : Addr) (o : HO) (lg1 : Addr) (l1 : LS) (s1 : DS) (lg2 : Addr) (l2 : LS) (s2 : DS) (dq : List Addr) (dws : List (List Int)) : List (Addr × HO) :=
  (ls, .lst [.ref lg1, .ref lg2]) :: (ds, .lst [.ref l1.d, .ref l2.d]) :: (du, .lst (dq.map V.ref)) :: (r, o) :: (prL Z lg1 l1 s1 ++ (prL Z lg2 l2 s2 ++ rowsL dq dws))
theorem perm_ds {α : Type} (ds r : α) (A B : List α) : (ds :: r :: (A ++ B)).Perm (ds :: (B ++ (r :: A))) := by
  classical
  exact List.perm_iff_count.mpr fun a => by
    simp only [List.count_append, List.count_cons]
    omega
theorem perm_lg2 {α : Type} (x d ds r : α) (A B : List α) : (ds :: r :: (A ++ (x :: d :: B))).Perm (x :: d :: ds :: r :: (A ++ B)) := by
  classical
  exact List.perm_iff_count.mpr fun a => by
    simp only [List.count_append, List.count_cons]
    omega
theorem perm_b3 {α : Type} (ls ds du r : α) (A B C D : List α) : (ls :: ds :: du :: r :: ((A ++ B) ++ ((C ++ D) ++ []))).Perm (du :: ls :: ds :: r :: ((A ++ B) ++ (C ++ D))) := by
  classical
  exact List.perm_iff_count.mpr fun a => by
    simp only [List.count_append, List.count_cons, List.count_nil]
    omega
theorem Lg.mono {s : DS} {l : LS} {ws : List (List Int)} {c c' q : Int} (h : Lg s l ws c q) (hc : c ≤ c') : Lg s l ws c' q := by
  obtain ⟨m, h1, h2, h3, h4, h5, h6⟩ := h.ex
  exact ⟨m, h1, h2, h3, h4, Int.le_trans h5 hc, h6⟩
theorem room_is {s : DS} {l : LS} {m : MS} (dr : DRel s m) (lr : LRel l m) : (s.ws.length : Int) - 1 - (l.num - floorU l.rw l.num) = roomM m := by
  rw [dr.n, lr.rows, lr.num]
  rfl
theorem Lg.words {s : DS} {l : LS} {ws : List (List Int)} {c q : Int} (h : Lg s l ws c q) : (l.rows.map fun x => x.2.2) = ws ∧ l.rows.length ≤ 1000 := by
  obtain ⟨m, h1, h2, h3, h4, h5, h6⟩ := h.ex
  exact ⟨(words_eq h2).trans h4, (h2.len h1).2⟩
def ansD : List (List Int) → PyData
  | [] => .str "empty"
  | w :: _ => .list (w.map PyData.int)
def Ans (K : PySem.W.Frag) (ws : List (List Int)) (a : V) (G : List (Addr × HO)) : Prop := ∀ Hx : Hp, (∀ y ∈ G, Hx y.1 = some y.2) → Dp K Hx a (ansD ws)
theorem done_take {K : PySem.W.Frag} {Z : Ad} {r sc lg : Addr} {o : HO} {ns : List Int} {S : List (Addr × HO)} {l : LS} {s : DS} {ws : List (List Int)} {c : Int} {d : Addr} {H : Hp} {Q : VK} {E : XK} (hd : l.d = d) (hH : Holds H (lgL Z r o lg l s ++ S)) (ro : RowO sc o) (hsc : ScrL K sc ns S) (h : Lg s l ws c 0) (hc : c ≤ 900000000000000)
    (k : ∀ (t : Addr) (a : V) (G : List (Addr × HO)) (lg' : Addr) (o' : HO) (l' : LS) (s' : DS) (H' : Hp), RowO sc o' → Lg s' l' ws.tail (c + 1) 0 → l'.d = l.d → Ans K ws a G → Frm (lgL Z r o lg l s) ((t, .tup [.ref lg', a]) :: (G ++ lgL Z r o' lg' l' s')) H H' → Q (.ref t) H') : sp_law_done K Z [.ref r, .ref d, .ref lg, .non] H Q E := by
  subst hd
  refine .inl ⟨r, sc, lg, o, ns, S, l, s, ws, c, rfl, hH, ro, hsc, h, hc, fun hw t lg' o' l' s' H' ro' hl hd' f => ?_, fun w wss hw t p lg' o' l' s' H' ro' hl hd' f => ?_⟩
  · subst hw
    exact k t (.str "empty") [] lg' o' l' s' H' ro' hl hd' (fun _ _ => .str _) f
  · subst hw
    exact k t (.ref p) [(p, .lst (w.map V.int))] lg' o' l' s' H' ro' hl hd' (fun Hx hx => Dp.ints (SqL.of (hx _ (.head _)))) f
theorem DpAll.snoc {K : PySem.W.Frag} {H : Hp} {x : V} {d : PyData} (hx : Dp K H x d) : ∀ {xs : List V} {ds : List PyData}, DpAll K H xs ds → DpAll K H (xs ++ [x]) (ds ++ [d])
  | [], [], .nil => .cons hx .nil
  | _ :: _, _ :: _, .cons h hs => .cons h (DpAll.snoc hx hs)
theorem rep_dp {K : PySem.W.Frag} {ws : List (List Int)} {as : List V} {G G0 : List (Addr × HO)} {a : V} {j : Nat} (h : ∀ Hx : Hp, (∀ y ∈ G, Hx y.1 = some y.2) → DpAll K Hx as (List.replicate j (ansD ws))) (ha : Ans K ws a G0) : ∀ Hx : Hp, (∀ y ∈ G ++ G0, Hx y.1 = some y.2) → DpAll K Hx (as ++ [a]) (List.replicate (j + 1) (ansD ws)) := fun Hx hy => by
  rw [List.replicate_succ']
  exact DpAll.snoc (ha Hx fun y hm => hy y (List.mem_append_right _ hm)) (h Hx fun y hm => hy y (List.mem_append_left _ hm))
theorem perm_t0 {α : Type} (r : α) (G0 P P2 R G : List α) : (r :: (P ++ (P2 ++ (R ++ (G ++ G0))))).Perm ((G0 ++ (r :: P)) ++ (P2 ++ (R ++ G))) := by
  classical
  exact List.perm_iff_count.mpr fun a => by
    simp only [List.count_append, List.count_cons]
    omega
theorem perm_t1 {α : Type} (r : α) (G0 P P2 R G : List α) : (r :: (P2 ++ (P ++ (R ++ (G ++ G0))))).Perm ((G0 ++ (r :: P)) ++ (P2 ++ (R ++ G))) := by
  classical
  exact List.perm_iff_count.mpr fun a => by
    simp only [List.count_append, List.count_cons]
    omega
theorem perm_sw {α : Type} (r : α) (P P2 X : List α) : (r :: (P2 ++ (P ++ X))).Perm (r :: (P ++ (P2 ++ X))) := by
  classical
  exact List.perm_iff_count.mpr fun a => by
    simp only [List.count_append, List.count_cons]
    omega
theorem perm_wr4 {α : Type} (w th ls ds du : α) (X : List α) : (th :: ls :: ds :: du :: w :: X).Perm (th :: w :: ls :: ds :: du :: X) := by
  classical
  exact List.perm_iff_count.mpr fun a => by
    simp only [List.count_cons]
    omega
theorem perm_wr5 {α : Type} (w r : α) (P P2 R : List α) : (r :: (P ++ (P2 ++ (R ++ [w])))).Perm (w :: r :: (P ++ (P2 ++ R))) := by
  classical
  exact List.perm_iff_count.mpr fun a => by
    simp only [List.count_append, List.count_cons, List.count_nil]
    omega
theorem sc_law : FnScope ["_law_script", "_law_row", "_law_many", "_law_disks", "_law_logs", "_law_due", "_law_k", "_law_words", "_law_told_here", "_law_j", "_law_answer", "_law_oldest"] ["_law_script"] (defScope st_law) := ⟨rfl, rfl, rfl, by decide +kernel, rfl, by decide +kernel, by decide +kernel⟩
end
/-- lookups -/
local macro_rules | `(tactic| k_data) => `(tactic| first | exact List.mem_cons_self | assumption | (apply List.mem_cons_of_mem; k_data) | (apply List.mem_append_right; k_data) | (apply List.mem_append_left; k_data))
local macro_rules | `(tactic| k_get) => `(tactic| first | exact Rep.here | (apply Rep.there; k_get) | (apply Rep.skip; k_get))
local macro_rules | `(tactic| k_put) => `(tactic| first | exact SetAt.here | (apply SetAt.there; k_put))
local macro_rules | `(tactic| k_obj1) => `(tactic| first | assumption | exact Hs.getM (by assumption) (by k_data) | exact Hs.getI (by assumption) (by k_data))
local macro_rules | `(tactic| k_here) => `(tactic| first | (apply lk; k_obj1; rfl) | (apply lkL; k_obj1; rfl) | (apply lkT; k_obj1; rfl) | assumption | exact Hs.scr (by assumption) (by assumption) | exact (Upto.same (Hs.up (by assumption))).seq (by assumption) | exact same_seqT (Upto.same (Hs.up (by assumption))) (by assumption))
local macro_rules | `(tactic| k_few) => `(tactic| first | assumption | omega | (simp only [List.length_cons, List.length_nil, List.length_append, List.length_map, List.length_replicate, sizeLine_eq]; omega))
local macro_rules | `(tactic| k_closed) => `(tactic| first | assumption | rfl | omega | (focus (intro h; cases h; done)) | (exact fun h => h rfl) | decide)
local macro_rules | `(tactic| k_not) => `(tactic| first | omega | (unfold CMul; omega) | (unfold CDiv; omega) | assumption)
local macro_rules | `(tactic| k_ownname) => `(tactic| first | exact SetI.s0 | exact SetI.s1 | exact SetI.s2 | assumption)
local macro_rules | `(tactic| k_is) => `(tactic| first | rfl | assumption)
/-- one step of a reading -/
local macro_rules | `(tactic| k_one) => `(tactic| first
  | with_reducible apply s_asg
  | with_reducible apply s_ifs
  | with_reducible apply s_op
  | ((with_reducible apply s_var); rfl)
  | with_reducible apply s_c
  | ((with_reducible apply s_gname); k_put)
  | with_reducible apply s_cons
  | with_reducible apply s_nil
  | with_reducible apply s_call
  | with_reducible apply s_CB
  | with_reducible apply s_rI0
  | ((with_reducible apply s_rI); k_not)
  | ((with_reducible apply s_ixL); k_here; k_is)
  | ((with_reducible apply s_ixT); k_here; k_is)
  | with_reducible apply s_eqI
  | with_reducible apply s_neI
  | with_reducible apply s_test
  | with_reducible apply s_tB
  | with_reducible apply s_kBl
  | with_reducible apply s_iteT
  | with_reducible apply s_iteF
  | ((with_reducible apply s_iteP); k_closed)
  | ((with_reducible apply s_iteN); k_closed)
  | with_reducible apply s_and
  | with_reducible apply s_or
  | with_reducible apply s_not
  | with_reducible apply s_andV
  | with_reducible apply s_orV
  | with_reducible apply s_notV
  | with_reducible apply s_ifE
  | with_reducible apply s_chain
  | with_reducible apply s_lst
  | with_reducible apply s_tup
  | ((with_reducible apply s_newL); assumption; k_few; intro _ _ _ _ _)
  | ((with_reducible apply s_newT); assumption; k_few; intro _ _ _ _ _)
  | with_reducible apply s_star
  | ((with_reducible apply s_kStarL); k_here)
  | with_reducible apply s_gSub
  | ((with_reducible apply s_setL); assumption; k_here; k_ownname; k_get; intro _ _ _)
  | with_reducible apply s_ret
  | with_reducible apply s_retN
  | with_reducible apply s_next
  | with_reducible apply s_drop
  | with_reducible apply s_un
  | with_reducible apply s_rU
  | ((with_reducible apply s_cat); assumption; k_here; k_here; k_few; intro _ _ _ _ _)
  | with_reducible apply s_sl
  | with_reducible apply s_noPart
  | with_reducible apply s_part
  | with_reducible apply s_kPart
  | ((with_reducible apply s_slL); assumption; k_here; intro _ _ _ _ _)
  | ((with_reducible apply s_lenL); k_here)
  | ((with_reducible apply s_lenT); k_here)
  | ((with_reducible apply s_listOf); assumption; k_here; intro _ _ _ _ _)
  | (with_reducible apply s_max2; intro _ _)
  | with_reducible apply s_forR1
  | with_reducible apply s_forR2
  | with_reducible apply s_forL
  | with_reducible apply s_forT
  | with_reducible apply s_lcR1
  | with_reducible apply s_lcR2
  | with_reducible apply s_lcL
  | ((with_reducible apply s_kRng1); k_few; k_few)
  | ((with_reducible apply s_kRng2); k_few; k_few; k_few; k_few)
  | ((with_reducible apply s_kLst); k_here)
  | ((with_reducible apply s_kTup); k_here)
  | with_reducible apply s_bm0
  | with_reducible apply s_bm
  | ((with_reducible apply s_tyL); k_here)
  | ((with_reducible apply s_clear); assumption; k_here; k_get; intro _ _ _)
  | ((with_reducible apply s_append); assumption; k_here; k_few; k_get; intro _ _ _)
  | ((with_reducible apply s_extend); assumption; k_here; k_here; k_few; k_get; intro _ _ _)
  | with_reducible apply s_par
  | ((with_reducible apply s_kPar); k_put; k_put)
  | ((with_reducible apply s_gTup); k_here; rfl)
  | with_reducible apply s_gCons
  | with_reducible apply s_gNil
  | ((with_reducible apply s_start); (simp only [L2.start, List.map_cons, List.map_nil, List.length_cons, List.length_nil, Nat.reduceAdd, Nat.reduceSub, List.replicate, List.cons_append, List.nil_append]; rfl)))
local macro_rules | `(tactic| k_slotget) => `(tactic| first | exact TyX.base (.int _) | exact TyX.base (.bl _) | exact TyX.base .non | exact TyX.base (.str _) | exact SqL.tyx (by k_here) | exact SqT.tyx (by k_here) | assumption)
local macro_rules | `(tactic| k_data) => `(tactic| first | exact List.mem_cons_self | assumption | (apply List.mem_cons_of_mem; k_data) | (apply List.mem_append_right; k_data) | (apply List.mem_append_left; k_data))
local macro_rules | `(tactic| k_one) => `(tactic| first
  | ((with_reducible apply s_isi); exact ClsV.ty _; k_slotget; (first | exact kit_ty (r := true) (by decide +kernel) | exact kit_ty (r := false) (by decide +kernel)))
  | ((with_reducible apply s_ixAL); k_here; k_is)
  | ((with_reducible apply s_ixAT); k_here; k_is)
  | ((with_reducible apply s_isiT); k_here; (exact .cons (.ty _) (.cons (.ty _) .nil)); k_slotget; (first | exact kitTL_list | exact kitTL_tuple))
  | ((with_reducible apply s_repI); assumption; k_here; k_few; intro _ _ _ _ _)
  | with_reducible apply s_neB
  | with_reducible apply s_eqB
  | with_reducible apply s_eqS
  | with_reducible apply s_neS
  | with_reducible apply s_isN
  | with_reducible apply s_notN
  | ((with_reducible apply s_iteNP); k_closed)
  | ((with_reducible apply s_iteNN); k_closed)
  | with_reducible apply s_iteNT
  | with_reducible apply s_iteNF
  | with_reducible apply s_yes
  | with_reducible apply s_forR3
  | with_reducible apply s_lcR3
  | ((with_reducible apply s_kRng3); k_few; k_few)
  | with_reducible apply s_kWh
  | ((with_reducible apply s_acc); assumption; k_here; k_few; k_get; intro _ _ _)
  | ((with_reducible apply s_eqDnil); k_here; k_here)
  | ((with_reducible apply s_eqDL); k_here; k_here)
  | ((with_reducible apply s_neDL); k_here; k_here))
local macro_rules | `(tactic| k_sweep) => `(tactic| repeat (first | with_reducible apply s_seq | k_one))
local macro_rules | `(tactic| k_spoken) => `(tactic| repeat k_one)
local macro_rules | `(tactic| k_node) => `(tactic| ((with_reducible apply s_seq); k_spoken))
local macro_rules | `(tactic| k_splitN) => `(tactic| repeat' (first | with_reducible apply s_seq | k_one | (apply s_iteD <;> intro _)))
local macro_rules | `(tactic| k_drop) => `(tactic| first | exact List.Sublist.slnil | (apply List.Sublist.cons₂; k_drop) | (apply List.Sublist.append (List.Sublist.refl _); k_drop) | exact List.Sublist.refl _ | exact List.sublist_append_left _ _ | (apply List.Sublist.cons; k_drop) | (refine List.Sublist.trans ?_ (List.sublist_append_right _ _); k_drop) | exact List.nil_sublist _)
local macro_rules | `(tactic| k_lenW) => `(tactic| first | (apply len_app; k_lenW; k_lenW) | (apply len_cut; k_lenW) | exact Nat.le_refl _)
local macro_rules | `(tactic| k_few) => `(tactic| (apply Nat.le_trans; (apply Nat.add_le_add; k_lenW; k_lenW); (focus (simp only [List.length_cons, List.length_nil, List.length_append, List.length_map, List.length_replicate, sizeLine_eq]; omega))))
local macro_rules | `(tactic| k_one) => `(tactic| first
  | with_reducible apply s_fld
  | ((with_reducible apply s_kFld); k_here; assumption; assumption; rfl)
  | with_reducible apply s_sfld
  | ((with_reducible apply s_kSet); assumption; k_here; assumption; assumption; (first | exact ltK (by kernel_rfl) | exact leK (by kernel_rfl)); rfl; k_get; intro _ _ _)
  | with_reducible apply s_meth
  | with_reducible apply s_methS
  | ((with_reducible apply s_kMeth); k_here; rfl)
  | with_reducible apply s_make
  | with_reducible apply s_makeS
  | with_reducible apply s_raise
  | ((with_reducible apply s_aug1); assumption; rfl; k_here; assumption; assumption; rfl; (first | exact ltK (by kernel_rfl) | exact leK (by kernel_rfl)); rfl; k_get; intro _ _ _)
  | ((with_reducible apply s_sub1); assumption; rfl; k_here; assumption; assumption; rfl; (first | exact ltK (by kernel_rfl) | exact leK (by kernel_rfl)); rfl; k_get; intro _ _ _)
  | with_reducible apply s_dget
  | ((with_reducible apply s_kDGet); k_here; rfl)
  | with_reducible apply s_dput
  | ((with_reducible apply s_kDPut); assumption; k_here; k_few; rfl; k_get; intro _ _ _)
  | ((with_reducible apply s_disp); assumption; intro _ _ _ _ _)
  | with_reducible apply s_pairs0
  | with_reducible apply s_pairs
  | ((with_reducible apply s_kDisp); assumption; k_here; rfl; k_few; rfl; k_get; intro _ _ _)
  | ((with_reducible apply s_tyD); k_here))
local macro_rules | `(tactic| k_one) => `(tactic| first
  | ((with_reducible apply s_rng1); assumption; intro _ _ _ _ _)
  | ((with_reducible apply s_notRngI); k_here)
  | ((with_reducible apply s_notRngN); k_here)
  | ((with_reducible apply s_notRngS); k_here)
  | ((with_reducible apply s_tupOfL); assumption; k_here; intro _ _ _ _ _))
local macro_rules | `(tactic| k_one) => `(tactic| ((with_reducible apply s_upd); assumption; k_here; k_here; (first | exact Hs.neq (by assumption) (by k_drop) | exact (Hs.neq (by assumption) (by k_drop)).symm); (first | exact ltK (by kernel_rfl) | exact leK (by kernel_rfl)); rfl; k_get; intro _ _ _))
local macro_rules | `(tactic| k_not) => `(tactic| (focus (unfold CPow; decide)))
local macro_rules | `(tactic| k_one) => `(tactic| first | with_reducible apply s_neSs | with_reducible apply s_eqSs | with_reducible apply s_neNN)
local macro_rules | `(tactic| k_one) => `(tactic| first
  | with_reducible apply s_forE
  | ((with_reducible apply s_kEnm); k_here)
  | with_reducible apply s_cont
  | with_reducible apply s_iteE0
  | with_reducible apply s_iteEc
  | with_reducible apply s_iteE1
  | with_reducible apply s_iteEd
  | with_reducible apply s_callS
  | with_reducible apply s_truth
  | ((with_reducible apply s_kTruL); k_here)
  | ((with_reducible apply s_pop0); assumption; k_here; k_get; intro _ _ _))
local macro_rules | `(tactic| k_one) => `(tactic| first
  | with_reducible apply s_int1T
  | with_reducible apply s_int1F
  | ((with_reducible apply s_rep1); assumption; k_here; intro _ _ _ _ _)
  | ((with_reducible apply s_rep0); assumption; k_here; intro _ _ _ _ _))
local macro_rules | `(tactic| k_few) => `(tactic| (apply Nat.le_trans; (apply Nat.add_le_add; k_lenW; k_lenW); (focus (simp only [madeL_len, List.length_cons, List.length_nil, List.length_append, List.length_map, List.length_replicate, sizeLine_eq]; omega))))
local macro_rules | `(tactic| k_few) => `(tactic| (focus (simp only [madeL_len, List.length_cons, List.length_nil, List.length_map, List.length_append, List.length_replicate, sizeLine_eq]; omega)))
local macro_rules | `(tactic| k_one) => `(tactic| ((with_reducible apply s_made); assumption; k_here; k_few; intro _ _ _ _ _))
local macro_rules | `(tactic| k_one) => `(tactic| ((with_reducible apply s_made_mark); assumption; intro _ _ _ _ _))
local macro_rules | `(tactic| k_one) => `(tactic| ((with_reducible apply s_kind); k_here; k_few))
local macro_rules | `(tactic| k_few) => `(tactic| (focus (simp only [dL_len, pcs_len, List.length_map, sizeLine_eq]; omega)))
local macro_rules | `(tactic| k_one) => `(tactic| ((with_reducible apply s_pieces); assumption; k_here; k_few; intro _ _ _ _ _ _))
local macro_rules | `(tactic| k_one) => `(tactic| ((with_reducible apply s_is_whole); assumption))
local macro_rules | `(tactic| k_one) => `(tactic| ((with_reducible apply s_taken); assumption; k_data; assumption; assumption; k_few; (intro _ _ _ _ _ _ hq _; have hq2 := hq _ (by k_get); clear hq)))
local macro_rules | `(tactic| k_one) => `(tactic| ((with_reducible apply s_law_row_of); assumption; k_data; assumption; assumption; (intro _ _ _ _ _ _ _ hq; have hq2 := hq _ (by k_get); clear hq)))
local macro_rules | `(tactic| k_one) => `(tactic| ((with_reducible apply s_law_pieces); assumption; k_here; k_few; intro _ _ _ _ _ _))
local macro_rules | `(tactic| k_one) => `(tactic| ((with_reducible apply s_alikeI); assumption; intro _ _ _))
local macro_rules | `(tactic| k_one) => `(tactic| ((with_reducible apply s_alikeL); assumption; k_here; k_here; k_few; intro _ _ _))
section
variable {P : Program} {w : World} {K : PySem.W.Frag} {mg : Str → Option Value} {base : Heap} {Z : Ad}
theorem ok_made {f : Addr} {fd : FuncData} (F : Fun K "made" "made" st_made f fd) (T : Txt K mg Z)  : FnOk P w K mg base CX0 1 f fd ["number", "floor", "begin", "left", "data"] (sp_made K Z) := by
  have cl_Log := T.cl_Log
  have na_Log__cut := T.na_Log__cut
  have na_Log__disk := T.na_Log__disk
  have na_Log__gone := T.na_Log__gone
  have na_Log__number := T.na_Log__number
  have na_Log__rows := T.na_Log__rows
  have na_Log__torn := T.na_Log__torn
  have cl_Disk := T.cl_Disk
  have na_Disk__blocks := T.na_Disk__blocks
  have na_Disk__let := T.na_Disk__let
  have na_Disk__part := T.na_Disk__part
  have na_Disk__reads := T.na_Disk__reads
  have na_Disk__writes := T.na_Disk__writes
  refine F.ok sc_made (fun vs H Q E h => ?_) (fun cdv A outer s H vs Q E hr h => ?_)
  · obtain ⟨_, _, _, _, _, _, rfl, _⟩ := h
    rfl
  obtain ⟨n, f, b, l, a, ds, rfl, ha, hz, k⟩ := h
  have hS := Hs.startI (Holds.one ha)
  refine ⟨_, (pss_one (ps_ret (pe_lst (pa_cons (pv 0) (pa_cons (pv 1) (pa_cons (pv 2) (pa_cons (pv 3) (pa_starK (K := K) (pv 4) (pa_cons (pv 0) pa_nil))))))))), ?_⟩
  refine s_start (by simp only [L2.start, List.map_cons, List.map_nil, List.length_cons, List.length_nil, Nat.reduceAdd, Nat.reduceSub, List.replicate, List.cons_append, List.nil_append]; rfl) ?_
  have e : ((madeL n f b l ds).map V.int) = .int n :: .int f :: .int b :: .int l :: (ds.map V.int ++ [.int n]) := by simp [madeL]
  rw [e] at k
  k_sweep
  exact k.end_ (by assumption) (by assumption) (by assumption) (by k_here)
theorem ok_made_mark {f : Addr} {fd : FuncData} (F : Fun K "made_mark" "made_mark" st_made_mark f fd) (T : Txt K mg Z) (D_made : DefOk P w K mg base CX0 1 "made" ["number", "floor", "begin", "left", "data"] (sp_made K Z)) : FnOk P w K mg base CX0 2 f fd ["number", "floor"] (sp_made_mark K Z) := by
  have cl_Log := T.cl_Log
  have na_Log__cut := T.na_Log__cut
  have na_Log__disk := T.na_Log__disk
  have na_Log__gone := T.na_Log__gone
  have na_Log__number := T.na_Log__number
  have na_Log__rows := T.na_Log__rows
  have na_Log__torn := T.na_Log__torn
  have cl_Disk := T.cl_Disk
  have na_Disk__blocks := T.na_Disk__blocks
  have na_Disk__let := T.na_Disk__let
  have na_Disk__part := T.na_Disk__part
  have na_Disk__reads := T.na_Disk__reads
  have na_Disk__writes := T.na_Disk__writes
  refine F.ok sc_made_mark (fun vs H Q E h => ?_) (fun cdv A outer s H vs Q E hr h => ?_)
  · obtain ⟨_, _, rfl, _⟩ := h
    rfl
  obtain ⟨n, f, rfl, k⟩ := h
  have hS : Hs [] H H [] [] := Hs.start0
  refine ⟨_, (pss_one (ps_ret (pe_callD D_made hr (by rfl) pass0 (pa_cons (pv 0) (pa_cons (pv 1) (pa_cons (pe_globC T.c_NO_BEGIN rfl) (pa_cons (pe_globC T.c_LEFT_OF_MARK rfl) (pa_cons (pe_op op_rep (pe_lst (pa_cons pe_int pa_nil)) (pe_globC T.c_PIECE_WORDS rfl)) pa_nil)))))))), ?_⟩
  refine s_start (by simp only [L2.start, List.map_cons, List.map_nil, List.length_cons, List.length_nil, Nat.reduceAdd, Nat.reduceSub, List.replicate, List.cons_append, List.nil_append]; rfl) ?_
  k_sweep
  rename_i w H3 hS3 _ hw
  exact k.end_ hw (by assumption) hS3 (by k_here)
theorem ok_is_farewell {f : Addr} {fd : FuncData} (F : Fun K "is_farewell" "is_farewell" st_is_farewell f fd) (T : Txt K mg Z)  : FnOk P w K mg base CX0 1 f fd ["words"] (sp_is_farewell K Z) := by
  have cl_Log := T.cl_Log
  have na_Log__cut := T.na_Log__cut
  have na_Log__disk := T.na_Log__disk
  have na_Log__gone := T.na_Log__gone
  have na_Log__number := T.na_Log__number
  have na_Log__rows := T.na_Log__rows
  have na_Log__torn := T.na_Log__torn
  have cl_Disk := T.cl_Disk
  have na_Disk__blocks := T.na_Disk__blocks
  have na_Disk__let := T.na_Disk__let
  have na_Disk__part := T.na_Disk__part
  have na_Disk__reads := T.na_Disk__reads
  have na_Disk__writes := T.na_Disk__writes
  refine F.ok sc_is_farewell (fun vs H Q E h => ?_) (fun cdv A outer s H vs Q E hr h => ?_)
  · obtain ⟨_, _, rfl, _⟩ := h
    rfl
  obtain ⟨a, w, rfl, ha, h8, k⟩ := h
  refine ⟨_, (pss_one (ps_ret (pe_and (pe_cmpR op_eq (pe_ix (ix_listK (K := K)) (pv 0) (pe_globC T.c_BEGIN rfl) (fun _ _ => rfl)) (pe_globC T.c_NO_BEGIN rfl) (nomark _)) (pe_one (pe_cmpR op_eq (pe_ix (ix_listK (K := K)) (pv 0) (pe_globC T.c_LEFT rfl) (fun _ _ => rfl)) (pe_globC T.c_LEFT_OF_FAREWELL rfl) (nomark _)))))), ?_⟩
  refine s_start (by simp only [L2.start, List.map_cons, List.map_nil, List.length_cons, List.length_nil, Nat.reduceAdd, Nat.reduceSub, List.replicate, List.cons_append, List.nil_append]; rfl) ?_
  have e2 : atI (w.map V.int) 2 = some (V.int (w.getD 2 0)) := at8 h8 (i := 2) (by decide)
  have e3 : atI (w.map V.int) 3 = some (V.int (w.getD 3 0)) := at8 h8 (i := 3) (by decide)
  k_spoken
  apply s_iteD
  · intro c
    rw [decide_eq_true c] at k
    k_spoken
    exact k
  · intro c
    rw [decide_eq_false c] at k
    k_spoken
    exact k
theorem ok_kind {f : Addr} {fd : FuncData} (F : Fun K "kind" "kind" st_kind f fd) (T : Txt K mg Z)  : FnOk P w K mg base CX0 1 f fd ["words", "place", "many"] (sp_kind K Z) := by
  have cl_Log := T.cl_Log
  have na_Log__cut := T.na_Log__cut
  have na_Log__disk := T.na_Log__disk
  have na_Log__gone := T.na_Log__gone
  have na_Log__number := T.na_Log__number
  have na_Log__rows := T.na_Log__rows
  have na_Log__torn := T.na_Log__torn
  have cl_Disk := T.cl_Disk
  have na_Disk__blocks := T.na_Disk__blocks
  have na_Disk__let := T.na_Disk__let
  have na_Disk__part := T.na_Disk__part
  have na_Disk__reads := T.na_Disk__reads
  have na_Disk__writes := T.na_Disk__writes
  refine F.ok sc_kind (fun vs H Q E h => ?_) (fun cdv A outer s H vs Q E hr h => ?_)
  · obtain ⟨_, _, _, _, _, _, _, _, _, _, _, rfl, _⟩ := h
    rfl
  obtain ⟨a, w0, w1, w2, w3, w4, w5, w6, w7, p, m, rfl, ha, hm, k⟩ := h
  refine ⟨_, (pss_cons (ps_par (i := 3) (j := 4) (by rfl) sc_kind.nd rfl rfl (by decide) rfl rfl (pa_cons (pe_ix (ix_listK (K := K)) (pv 0) pe_int (fun _ _ => rfl)) (pa_cons (pe_ix (ix_listK (K := K)) (pv 0) (pe_un un_neg pe_int) (fun _ _ => rfl)) pa_nil)) (by rfl))
      (pss_cons (ps_if (PW.pt (pw_and (pt_cmpR op_eq (pv 3) pe_int (nomark _)) (pw_and1 (pt_cmpR op_eq (pv 4) pe_int (nomark _))))) (pss_one (ps_ret pe_str)) pss_nil)
      (pss_cons (ps_if (PW.pt (pw_and (pt_cmpR op_eq (pv 3) (pv 4) (nomark _)) (pw_and (pt_cmpR op_ge (pv 3) (pv 2) (nomark _)) (pw_and1 (pt_cmpR op_eq (pe_op op_mod (pv 3) (pv 2)) (pv 1) (nomark _)))))) (pss_one (ps_ret pe_str)) pss_nil)
      (pss_one (ps_ret pe_str))))), ?_⟩
  refine s_start (by simp only [L2.start, List.map_cons, List.map_nil, List.length_cons, List.length_nil, Nat.reduceAdd, Nat.reduceSub, List.replicate, List.cons_append, List.nil_append]; rfl) ?_
  unfold kindS at k
  k_splitN
  all_goals first
    | (rw [if_pos (by omega)] at k; exact k)
    | (rw [if_neg (by omega), if_pos (by omega)] at k; exact k)
    | (rw [if_neg (by omega), if_neg (by omega)] at k; exact k)
theorem ok_pieces {f : Addr} {fd : FuncData} (F : Fun K "pieces" "pieces" st_pieces f fd) (T : Txt K mg Z)  : FnOk P w K mg base CX0 1 f fd ["row"] (sp_pieces K Z) := by
  have cl_Log := T.cl_Log
  have na_Log__cut := T.na_Log__cut
  have na_Log__disk := T.na_Log__disk
  have na_Log__gone := T.na_Log__gone
  have na_Log__number := T.na_Log__number
  have na_Log__rows := T.na_Log__rows
  have na_Log__torn := T.na_Log__torn
  have cl_Disk := T.cl_Disk
  have na_Disk__blocks := T.na_Disk__blocks
  have na_Disk__let := T.na_Disk__let
  have na_Disk__part := T.na_Disk__part
  have na_Disk__reads := T.na_Disk__reads
  have na_Disk__writes := T.na_Disk__writes
  refine F.ok sc_pieces (fun vs H Q E h => ?_) (fun cdv A outer s H vs Q E hr h => ?_)
  · obtain ⟨_, _, rfl, _⟩ := h
    rfl
  obtain ⟨a, ns, rfl, ha, hz, k⟩ := h
  have hS := Hs.startI (Holds.one ha)
  refine ⟨_, (pss_cons (ps_set (i := 1) sc_pieces.nd rfl (Or.inr rfl) (pe_lst (pa_cons (pe_callB (call_lenK (K := K)) (by rfl) T.m_len (by decide +kernel) (pa_cons (pv 0) pa_nil)) (pa_starK (K := K) (pv 0) pa_nil))))
      (pss_cons (ps_while PassesOwn.never (pt_cmpR op_ne (pe_op op_mod (pe_callB (call_lenK (K := K)) (by rfl) T.m_len (by decide +kernel) (pa_cons (pv 1) pa_nil)) (pe_globC T.c_PIECE_WORDS rfl)) pe_int (nomark _))
      (pss_one (ps_expr (pe_bmK (K := K) PySem.F.plainAttrs_list PySem.F.slot_list_append PySem.F.type_list_append mt_append (pv 1) (pa_cons pe_int pa_nil)))))
      (pss_one (ps_ret (pe_lc (own := [("at", 2)]) (g := gName 2) (by rfl) sc_pieces.nd (pi_range3 rfl T.m_range (pa_cons pe_int (pa_cons (pe_callB (call_lenK (K := K)) (by rfl) T.m_len (by decide +kernel) (pa_cons (pv 1) pa_nil)) (pa_cons (pe_globC T.c_PIECE_WORDS rfl) pa_nil)))) (blkOk_by (N := ["row", "data", "at"]) (sc := defScope st_pieces) (by decide +kernel)) (fun _ _ _ _ _ => pg_name (i := 2) sc_pieces.nd rfl (Or.inl rfl)) (fun _ _ _ _ _ => pts_nil) (fun _ _ _ _ _ => (pe_slice (sl_listK (K := K)) (pv 1) (po_some (pv 2)) (po_some (pe_op op_add (pv 2) (pe_globC T.c_PIECE_WORDS rfl)))))))))), ?_⟩
  refine s_start (by simp only [L2.start, List.map_cons, List.map_nil, List.length_cons, List.length_nil, Nat.reduceAdd, Nat.reduceSub, List.replicate, List.cons_append, List.nil_append]; rfl) ?_
  k_node
  rename_i D H1 hS1 _ hD
  have e0 : V.int ((List.map V.int ns).length : Nat) :: (List.map V.int ns ++ []) = (dL ns 0).map V.int := by simp [dL]
  rw [e0] at hS1
  k_spoken
  refine f_while ((3 - (ns.length + 1) % 3) % 3) (fun m σ H' => ∃ k, k + m = (3 - (ns.length + 1) % 3) % 3 ∧ σ = [some (.ref a), some (.ref D), none] ∧ Hs [] H H' [(D, .lst ((dL ns k).map V.int))] [(a, .lst (ns.map V.int))]) ⟨0, by omega, rfl, hS1⟩ ?_
  rintro m σ H2 ⟨k0, hk, rfl, hS2⟩
  have hlen : ((List.map V.int (dL ns k0)).length) = ns.length + 1 + k0 := by rw [List.length_map, dL_len]
  k_spoken
  rw [hlen]
  apply s_iteD
  · intro c
    k_spoken
    refine ⟨m - 1, by omega, k0 + 1, by omega, rfl, ?_⟩
    rw [← dL_snoc]
    assumption
  · intro c
    k_spoken
    have en : ((((List.map V.int (dL ns k0)).length : Nat) + 2 : Int) / 3).toNat = ns.length / 3 + 1 := by
      rw [hlen]
      omega
    rw [en]
    refine f_lcC fun Dn hDn => ⟨fun i H' => ∃ qs : List Addr, qs.length = i ∧ Hs [] H H' ((Dn, .lst (qs.map V.ref)) :: (rowsL qs ((pcs ns).take i) ++ [(D, .lst ((dL ns k0).map V.int))])) [(a, .lst (ns.map V.int))], ⟨[], rfl, hS2.new hDn _⟩, ?_, ?_⟩
    · rintro i H3 hi ⟨qs, hl, hS3⟩
      k_spoken
      rename_i q H4 hS4 _ _ H5 hS5 _
      refine ⟨qs ++ [q], by rw [List.length_append, hl]; rfl, ?_⟩
      have hp := pcs_get hi
      rw [cutV_ints, cut3 (i := i) (by rw [dL_len]; omega) (by omega) (by omega)] at hS5
      rw [take_snoc hp, rowsL_snoc _ _ (by rw [List.length_take, pcs_len]; omega), List.map_append]
      exact Hs.snoc hS5
    · rintro H3 ⟨qs, hl, hS3⟩
      rw [List.take_of_length_le (by rw [pcs_len]; exact Nat.le_refl _)] at hS3
      exact k _ _ _ (by rw [hl, pcs_len]) (Hs.dropI (Hs.sub hS3 (by k_drop)))
theorem ok_words_of {f : Addr} {fd : FuncData} (F : Fun K "words_of" "words_of" st_words_of f fd) (T : Txt K mg Z)  : FnOk P w K mg base CX0 1 f fd ["some"] (sp_words_of K Z) := by
  have cl_Log := T.cl_Log
  have na_Log__cut := T.na_Log__cut
  have na_Log__disk := T.na_Log__disk
  have na_Log__gone := T.na_Log__gone
  have na_Log__number := T.na_Log__number
  have na_Log__rows := T.na_Log__rows
  have na_Log__torn := T.na_Log__torn
  have cl_Disk := T.cl_Disk
  have na_Disk__blocks := T.na_Disk__blocks
  have na_Disk__let := T.na_Disk__let
  have na_Disk__part := T.na_Disk__part
  have na_Disk__reads := T.na_Disk__reads
  have na_Disk__writes := T.na_Disk__writes
  refine F.ok sc_words_of (fun vs H Q E h => ?_) (fun cdv A outer s H vs Q E hr h => ?_)
  · obtain ⟨_, _, _, rfl, _⟩ := h
    rfl
  obtain ⟨a, bs, ws, rfl, hH, hl, h8, h0, hz, k⟩ := h
  have hS := Hs.startI hH
  refine ⟨_, (pss_cons (ps_set (i := 1) sc_words_of.nd rfl (Or.inl rfl) (pe_lst pa_nil))
      (pss_cons (ps_for PassesOwn.never rfl (pi_listK (K := K) (pv 0)) (pg_name (i := 2) sc_words_of.nd rfl (Or.inl rfl))
      (pss_one (ps_expr (pe_bmK (K := K) PySem.F.plainAttrs_list PySem.F.slot_list_extend PySem.F.type_list_extend mt_extend (pv 1) (pa_cons (pe_slice (sl_listK (K := K)) (pv 2) (po_some (pe_globC T.c_DATA_FROM rfl)) (po_some (pe_globC T.c_DATA_TO rfl))) pa_nil)))))
      (pss_cons (ps_set (i := 3) sc_words_of.nd rfl (Or.inl rfl) (pe_ix (ix_listK (K := K)) (pv 1) pe_int (fun _ _ => rfl)))
      (pss_one (ps_ret (pe_slice (sl_listK (K := K)) (pv 1) (po_some pe_int) (po_some (pe_op op_add pe_int (pv 3))))))))), ?_⟩
  refine s_start (by simp only [L2.start, List.map_cons, List.map_nil, List.length_cons, List.length_nil, Nat.reduceAdd, Nat.reduceSub, List.replicate, List.cons_append, List.nil_append]; rfl) ?_
  k_node
  rename_i D H1 hS1 _ hD
  k_node
  refine f_list (xs := bs.map V.ref) (fun i σ H' => ∃ x2 : Option V, σ = [some (.ref a), some (.ref D), x2, none] ∧ Hs [] H H' [(D, .lst ((mids (ws.take i)).map V.int))] ((a, .lst (bs.map V.ref)) :: rowsL bs ws)) ⟨_, rfl, hS1⟩ ?_ ?_ ?_
  · rintro i σ H' _ ⟨x2, _, hS2⟩
    exact SqL.of (hS2.getI List.mem_cons_self)
  · rintro i x σ H2 hx ⟨x2, rfl, hS2⟩
    have hi : i < ws.length := by
      have := (List.getElem?_eq_some_iff.mp hx).1
      rw [List.length_map] at this
      omega
    obtain ⟨w, hw⟩ : ∃ w, ws[i]? = some w := ⟨_, List.getElem?_eq_getElem hi⟩
    obtain ⟨b, hb⟩ : ∃ b, bs[i]? = some b := ⟨_, List.getElem?_eq_getElem (by omega)⟩
    obtain rfl : x = V.ref b := by
      rw [List.getElem?_map, hb] at hx
      exact (Option.some.inj hx).symm
    have hw8 := h8 w (List.mem_of_getElem? hw)
    have hmem := rowsL_get hb hw
    have hml : (mids (ws.take i)).length = 3 * i := by
      rw [mids_len fun x hx => h8 x (List.mem_of_mem_take hx), List.length_take]
      omega
    k_spoken
    rename_i H4 hS4 _
    rw [cutV_ints, cut47 hw8] at hS4
    refine ⟨_, rfl, ?_⟩
    rw [take_snoc hw, mids_snoc, List.map_append]
    exact Hs.sub hS4 (by k_drop)
  · rintro σ H2 ⟨x2, rfl, hS2⟩
    rw [List.length_map, hl, List.take_length] at hS2
    have hml := mids_len h8
    have hpos : 0 < ws.length := List.length_pos_iff.mpr h0
    have h00 : atI ((mids ws).map V.int) 0 = some (V.int ((mids ws).getD 0 0)) := by
      refine atI_nat (j := 0) ?_
      rw [List.getElem?_map, List.getD_eq_getElem?_getD, List.getElem?_eq_getElem (by omega)]
      rfl
    k_sweep
    rename_i p H3 hS3 _ hn
    rw [cutV_ints] at hS3
    exact k.end_ hn (by assumption) hS3 (by k_here)
theorem ok_newest {f : Addr} {fd : FuncData} (F : Fun K "newest" "newest" st_newest f fd) (T : Txt K mg Z) (D_kind : DefOk P w K mg base CX0 1 "kind" ["words", "place", "many"] (sp_kind K Z)) (D_number_in_last_place : DefOk P w K mg base CX0 4 "_number_in_last_place" ["disk"] (sp_number_in_last_place K Z)) (D_newest_of_round : DefOk P w K mg base CX0 4 "_newest_of_round" ["disk", "start"] (sp_newest_of_round K Z)) (M_Disk_blocks : MethOk P w K mg base CX0 1 Z.Disk "blocks" ["self"] (sp_Disk_blocks K Z)) (M_Disk_read : MethOk P w K mg base (L2.CX P w) 3 Z.Disk "read" ["self", "place"] (sp_Disk_read K Z)) : FnOk P w K mg base CX0 5 f fd ["disk"] (sp_newest K Z) := by
  obtain ⟨f_Disk_blocks, fd_Disk_blocks, G_Disk_blocks, b_Disk_blocks, m_Disk_blocks⟩ := M_Disk_blocks.ex
  obtain ⟨f_Disk_read, fd_Disk_read, G_Disk_read, b_Disk_read, m_Disk_read⟩ := M_Disk_read.ex
  have cl_Log := T.cl_Log
  have na_Log__cut := T.na_Log__cut
  have na_Log__disk := T.na_Log__disk
  have na_Log__gone := T.na_Log__gone
  have na_Log__number := T.na_Log__number
  have na_Log__rows := T.na_Log__rows
  have na_Log__torn := T.na_Log__torn
  have cl_Disk := T.cl_Disk
  have na_Disk__blocks := T.na_Disk__blocks
  have na_Disk__let := T.na_Disk__let
  have na_Disk__part := T.na_Disk__part
  have na_Disk__reads := T.na_Disk__reads
  have na_Disk__writes := T.na_Disk__writes
  refine F.ok sc_newest (fun vs H Q E h => ?_) (fun cdv A outer s H vs Q E hr h => ?_)
  · obtain ⟨_, _, _, _, rfl, _⟩ := h
    rfl
  obtain ⟨d, s, num, torn, rfl, hH, ok, L, k⟩ := h
  have hS := Hs.startL hH
  refine ⟨_, (pss_cons (ps_set (i := 1) sc_newest.nd rfl (Or.inl rfl) (pe_meth0 (pv 0) T.cl_Disk m_Disk_blocks G_Disk_blocks (hr.mono (by decide)) b_Disk_blocks .nil pass0))
      (pss_cons (ps_set (i := 2) sc_newest.nd rfl (Or.inl rfl) (pe_meth (pv 0) T.cl_Disk m_Disk_read G_Disk_read (hr.mono (by decide)) b_Disk_read .nil passL (pa_cons pe_int pa_nil)))
      (pss_cons (ps_set (i := 3) sc_newest.nd rfl (Or.inl rfl) (pe_callD D_kind hr (by rfl) pass0 (pa_cons (pv 2) (pa_cons pe_int (pa_cons (pv 1) pa_nil)))))
      (pss_cons (ps_if (pt_cmpR op_eq (pv 3) pe_str (nomark _)) (pss_one (ps_ret (pe_tup (pa_cons (pe_op op_sub (pv 1) pe_int) (pa_cons pe_non pa_nil))))) pss_nil)
      (pss_cons (ps_if (pt_cmpR op_eq (pv 3) pe_str (nomark _)) (pss_one (ps_ret (pe_tup (pa_cons (pe_callD D_number_in_last_place hr (by rfl) pass0 (pa_cons (pv 0) pa_nil)) (pa_cons pe_int pa_nil))))) pss_nil)
      (pss_one (ps_ret (pe_callD D_newest_of_round hr (by rfl) pass0 (pa_cons (pv 0) (pa_cons (pe_ix (ix_listK (K := K)) (pv 2) (pe_globC T.c_NUMBER rfl) (fun _ _ => rfl)) pa_nil)))))))))), ?_⟩
  refine s_start (by simp only [L2.start, List.map_cons, List.map_nil, List.length_cons, List.length_nil, Nat.reduceAdd, Nat.reduceSub, List.replicate, List.cons_append, List.nil_append]; rfl) ?_
  have h4 := ok.lo
  k_node
  refine ⟨d, s, rfl, hH, ok, ?_⟩
  k_spoken
  k_node
  refine ⟨d, s, .int 0, rfl, hH, ok, trivial, fun c => ?_, fun i ei hi q H2 f => ?_⟩
  · simp only [wholeB, Bool.and_eq_false_iff, decide_eq_false_iff_not] at c
    omega
  have hS2 := hS.seg f .end_
  obtain rfl : i = 0 := by
    have : (0 : Int) = i := V.int.inj ei
    omega
  have hw8 : (s.ws.getD 0 []).length = 8 := by
    rw [List.getD_eq_getElem?_getD, List.getElem?_eq_getElem hi]
    exact ok.each _ (List.getElem_mem _)
  have fq : H2 q = some (.lst ((s.ws.getD 0 []).map V.int)) := hS2.getM (.head _)
  rw [eightV hw8] at fq
  have hz := L.zero (by omega)
  unfold fstW lstW at hz
  generalize s.ws.getD 0 [] = w at *
  have e0 : atI [V.int (w.getD 0 0), V.int (w.getD 1 0), V.int (w.getD 2 0), V.int (w.getD 3 0), V.int (w.getD 4 0), V.int (w.getD 5 0), V.int (w.getD 6 0), V.int (w.getD 7 0)] 0 = some (V.int (w.getD 0 0)) := rfl
  have hS3 := hS2.sub (M' := diskL Z d { s with r := s.r + 1 }) (.cons _ (List.Sublist.refl _))
  have ok2 : ({ s with r := s.r + 1 } : DS).Ok := ⟨ok.len, ok.lo, ok.hi, ok.each⟩
  clear hS2 f
  k_spoken
  k_node
  rcases hz with ⟨z1, z2, z3⟩ | ⟨z1, z2, z3⟩ | ⟨z1, start, z2, z3, z4, z5, z6, z7⟩
  · have z1 : kindS (w.getD 0 0) (w.getD 7 0) 0 s.ws.length = "empty" := z1
    rw [z1]
    subst z2 z3
    k_sweep
    rename_i t H3 hS4 _ _
    exact k t (s.r + 1) _ (by omega) (by omega) (Frm.of hS4 (List.Sublist.refl _))
  · have z1 : kindS (w.getD 0 0) (w.getD 7 0) 0 s.ws.length = "torn" := z1
    rw [z1]
    subst z2
    k_sweep
    refine ⟨d, { s with r := s.r + 1 }, num, rfl, hS3.part (List.Sublist.refl _), ok2, L, z3, fun H4 f => ?_⟩
    have hS5 := hS3.seg f .end_
    k_sweep
    rename_i t H5 hS6 _ _
    exact k t (s.r + 1 + 1) _ (by omega) (by omega) (Frm.of hS6 (List.Sublist.refl _))
  · have z1 : kindS (w.getD 0 0) (w.getD 7 0) 0 s.ws.length = "whole" := z1
    rw [z1]
    k_sweep
    refine ⟨d, { s with r := s.r + 1 }, start, num, torn, by rw [z2], hS3.part (List.Sublist.refl _), ok2, L, z3, z4, z5, z6, z7, fun t r' H4 h1 h2 f => ?_⟩
    have h1 : s.r + 1 ≤ r' := h1
    have h2 : r' ≤ s.r + 1 + (bitsI ((s.ws.length : Int) - 1) : Nat) := h2
    have hS5 := hS3.seg f .end_
    k_sweep
    exact k t r' _ (by omega) (by omega) (Frm.of hS5 (List.Sublist.refl _))
theorem ok_number_in_last_place {f : Addr} {fd : FuncData} (F : Fun K "_number_in_last_place" "_number_in_last_place" st_number_in_last_place f fd) (T : Txt K mg Z) (D_kind : DefOk P w K mg base CX0 1 "kind" ["words", "place", "many"] (sp_kind K Z)) (M_Disk_blocks : MethOk P w K mg base CX0 1 Z.Disk "blocks" ["self"] (sp_Disk_blocks K Z)) (M_Disk_read : MethOk P w K mg base (L2.CX P w) 3 Z.Disk "read" ["self", "place"] (sp_Disk_read K Z)) : FnOk P w K mg base CX0 4 f fd ["disk"] (sp_number_in_last_place K Z) := by
  obtain ⟨f_Disk_blocks, fd_Disk_blocks, G_Disk_blocks, b_Disk_blocks, m_Disk_blocks⟩ := M_Disk_blocks.ex
  obtain ⟨f_Disk_read, fd_Disk_read, G_Disk_read, b_Disk_read, m_Disk_read⟩ := M_Disk_read.ex
  have cl_Log := T.cl_Log
  have na_Log__cut := T.na_Log__cut
  have na_Log__disk := T.na_Log__disk
  have na_Log__gone := T.na_Log__gone
  have na_Log__number := T.na_Log__number
  have na_Log__rows := T.na_Log__rows
  have na_Log__torn := T.na_Log__torn
  have cl_Disk := T.cl_Disk
  have na_Disk__blocks := T.na_Disk__blocks
  have na_Disk__let := T.na_Disk__let
  have na_Disk__part := T.na_Disk__part
  have na_Disk__reads := T.na_Disk__reads
  have na_Disk__writes := T.na_Disk__writes
  refine F.ok sc_number_in_last_place (fun vs H Q E h => ?_) (fun cdv A outer s H vs Q E hr h => ?_)
  · obtain ⟨_, _, _, rfl, _⟩ := h
    rfl
  obtain ⟨d, s, num, rfl, hH, ok, L, hm, k⟩ := h
  have hS := Hs.startL hH
  refine ⟨_, (pss_cons (ps_set (i := 1) sc_number_in_last_place.nd rfl (Or.inl rfl) (pe_meth0 (pv 0) T.cl_Disk m_Disk_blocks G_Disk_blocks (hr.mono (by decide)) b_Disk_blocks .nil pass0))
      (pss_cons (ps_set (i := 2) sc_number_in_last_place.nd rfl (Or.inl rfl) (pe_meth (pv 0) T.cl_Disk m_Disk_read G_Disk_read (hr.mono (by decide)) b_Disk_read .nil passL (pa_cons (pe_op op_sub (pv 1) pe_int) pa_nil)))
      (pss_cons (ps_if (pt_cmpR op_eq (pe_callD D_kind hr (by rfl) pass0 (pa_cons (pv 2) (pa_cons (pe_op op_sub (pv 1) pe_int) (pa_cons (pv 1) pa_nil)))) pe_str (nomark _)) (pss_one (ps_ret (pe_ix (ix_listK (K := K)) (pv 2) (pe_globC T.c_NUMBER rfl) (fun _ _ => rfl)))) pss_nil)
      (pss_one (ps_ret (pe_op op_sub (pv 1) pe_int)))))), ?_⟩
  refine s_start (by simp only [L2.start, List.map_cons, List.map_nil, List.length_cons, List.length_nil, Nat.reduceAdd, Nat.reduceSub, List.replicate, List.cons_append, List.nil_append]; rfl) ?_
  have h4 := ok.lo
  k_node
  refine ⟨d, s, rfl, hH, ok, ?_⟩
  k_spoken
  k_node
  refine ⟨d, s, .int ((s.ws.length : Int) - 1), rfl, hH, ok, trivial, fun c => ?_, fun i ei hi q H2 f => ?_⟩
  · simp only [wholeB, Bool.and_eq_false_iff, decide_eq_false_iff_not] at c
    omega
  have hS2 := hS.seg f .end_
  obtain rfl : i = s.ws.length - 1 := by
    have : (s.ws.length : Int) - 1 = i := V.int.inj ei
    omega
  have hw8 : (s.ws.getD (s.ws.length - 1) []).length = 8 := by
    rw [List.getD_eq_getElem?_getD, List.getElem?_eq_getElem hi]
    exact ok.each _ (List.getElem_mem _)
  have fq : H2 q = some (.lst _) := hS2.getM (.head _)
  rw [eightV hw8] at fq
  have e0 : atI ((s.ws.getD (s.ws.length - 1) []).map V.int) 0 = some (V.int ((s.ws.getD (s.ws.length - 1) []).getD 0 0)) := at8 hw8 (i := 0) (by decide)
  rw [eightV hw8] at e0
  have hn : (((s.ws.length - 1 : Nat) : Int)) = (s.ws.length : Int) - 1 := by omega
  have hl := L.last (by omega) hm
  rw [hn] at hl
  unfold fstW lstW at hl
  k_spoken
  k_node
  rcases hl with ⟨l1, l2⟩ | ⟨l1, l2⟩
  · rw [l1]
    k_sweep
    rw [l2]
    exact k _ (Frm.of hS2 (.cons _ (List.Sublist.refl _)))
  · rw [l1]
    k_sweep
    rw [← l2]
    exact k _ (Frm.of hS2 (.cons _ (List.Sublist.refl _)))
theorem ok_newest_of_round {f : Addr} {fd : FuncData} (F : Fun K "_newest_of_round" "_newest_of_round" st_newest_of_round f fd) (T : Txt K mg Z) (D_kind : DefOk P w K mg base CX0 1 "kind" ["words", "place", "many"] (sp_kind K Z)) (M_Disk_blocks : MethOk P w K mg base CX0 1 Z.Disk "blocks" ["self"] (sp_Disk_blocks K Z)) (M_Disk_read : MethOk P w K mg base (L2.CX P w) 3 Z.Disk "read" ["self", "place"] (sp_Disk_read K Z)) : FnOk P w K mg base CX0 4 f fd ["disk", "start"] (sp_newest_of_round K Z) := by
  obtain ⟨f_Disk_blocks, fd_Disk_blocks, G_Disk_blocks, b_Disk_blocks, m_Disk_blocks⟩ := M_Disk_blocks.ex
  obtain ⟨f_Disk_read, fd_Disk_read, G_Disk_read, b_Disk_read, m_Disk_read⟩ := M_Disk_read.ex
  have cl_Log := T.cl_Log
  have na_Log__cut := T.na_Log__cut
  have na_Log__disk := T.na_Log__disk
  have na_Log__gone := T.na_Log__gone
  have na_Log__number := T.na_Log__number
  have na_Log__rows := T.na_Log__rows
  have na_Log__torn := T.na_Log__torn
  have cl_Disk := T.cl_Disk
  have na_Disk__blocks := T.na_Disk__blocks
  have na_Disk__let := T.na_Disk__let
  have na_Disk__part := T.na_Disk__part
  have na_Disk__reads := T.na_Disk__reads
  have na_Disk__writes := T.na_Disk__writes
  refine F.ok sc_newest_of_round (fun vs H Q E h => ?_) (fun cdv A outer s H vs Q E hr h => ?_)
  · obtain ⟨_, _, _, _, _, rfl, _⟩ := h
    rfl
  obtain ⟨d, s, start, num, torn, rfl, hH, ok, L, hs0, hsn, hs1, hs2, hst, k⟩ := h
  have hS := Hs.startL hH
  refine ⟨_, (pss_cons (ps_set (i := 2) sc_newest_of_round.nd rfl (Or.inl rfl) (pe_meth0 (pv 0) T.cl_Disk m_Disk_blocks G_Disk_blocks (hr.mono (by decide)) b_Disk_blocks .nil pass0))
      (pss_cons (ps_set (i := 3) sc_newest_of_round.nd rfl (Or.inl rfl) pe_int)
      (pss_cons (ps_set (i := 4) sc_newest_of_round.nd rfl (Or.inl rfl) (pv 2))
      (pss_cons (ps_set (i := 5) sc_newest_of_round.nd rfl (Or.inl rfl) pe_non)
      (pss_cons (ps_while PassesOwn.never (pt_cmpR op_gt (pe_op op_sub (pv 4) (pv 3)) pe_int (nomark _))
      (pss_cons (ps_set (i := 6) sc_newest_of_round.nd rfl (Or.inl rfl) (pe_op op_fdiv (pe_op op_add (pv 3) (pv 4)) pe_int))
      (pss_cons (ps_set (i := 7) sc_newest_of_round.nd rfl (Or.inl rfl) (pe_meth (pv 0) T.cl_Disk m_Disk_read G_Disk_read (hr.mono (by decide)) b_Disk_read .nil passL (pa_cons (pv 6) pa_nil)))
      (pss_cons (ps_set (i := 8) sc_newest_of_round.nd rfl (Or.inl rfl) (pe_callD D_kind hr (by rfl) pass0 (pa_cons (pv 7) (pa_cons (pv 6) (pa_cons (pv 2) pa_nil)))))
      (pss_one (ps_if (PW.pt (pw_and (pt_cmpR op_eq (pv 8) pe_str (nomark _)) (pw_and1 (pt_cmpR op_eq (pe_ix (ix_listK (K := K)) (pv 7) (pe_globC T.c_NUMBER rfl) (fun _ _ => rfl)) (pe_op op_add (pv 1) (pv 6)) (nomark _))))) (pss_one (ps_set (i := 3) sc_newest_of_round.nd rfl (Or.inl rfl) (pv 6))) (pss_cons (ps_set (i := 4) sc_newest_of_round.nd rfl (Or.inl rfl) (pv 6))
      (pss_one (ps_set (i := 5) sc_newest_of_round.nd rfl (Or.inl rfl) (pe_ifExp (pt_cmpR op_eq (pv 8) pe_str (nomark _)) (pv 6) pe_non))))))))))
      (pss_one (ps_ret (pe_tup (pa_cons (pe_op op_add (pv 1) (pv 3)) (pa_cons (pv 5) pa_nil)))))))))), ?_⟩
  refine s_start (by simp only [L2.start, List.map_cons, List.map_nil, List.length_cons, List.length_nil, Nat.reduceAdd, Nat.reduceSub, List.replicate, List.cons_append, List.nil_append]; rfl) ?_
  have h4 := ok.lo
  k_node
  refine ⟨d, s, rfl, hH, ok, ?_⟩
  k_spoken
  k_node
  k_node
  k_node
  with_reducible apply s_seq
  refine f_while (s.ws.length) (fun m σ H' => ∃ (low high r' : Int) (x6 x7 x8 : Option V), σ = [some (.ref d), some (.int start), some (.int s.ws.length), some (.int low), some (.int high), some (ltV (if start + high = num + 1 then torn else none)), x6, x7, x8] ∧ 0 ≤ low ∧ low < high ∧ high ≤ s.ws.length ∧ start + low ≤ num ∧ num < start + high ∧ (m : Int) = high - low ∧ s.r ≤ r' ∧ r' + (bitsI (high - low - 1) : Nat) ≤ s.r + (bitsI ((s.ws.length : Int) - 1) : Nat) ∧ Hs ((diskL Z d s).map Prod.fst) H H' (diskL Z d { s with r := r' }) []) ⟨0, s.ws.length, s.r, none, none, none, ?_, Int.le_refl _, by omega, Int.le_refl _, by omega, by omega, by omega, Int.le_refl _, by rw [Int.sub_zero]; exact Int.le_refl _, hS⟩ ?_
  · have e : (if start + (s.ws.length : Int) = num + 1 then torn else none) = none := by
      split
      · rename_i c; exact hst c
      · rfl
    rw [e]
    rfl
  rintro m σ H2 ⟨low, high, r', x6, x7, x8, rfl, hl0, hlh, hhn, hln, hnh, hm, hr0, hr1, hS2⟩
  k_spoken
  apply s_iteD
  · intro c
    have c : 1 < high - low := c
    obtain ⟨i, hi⟩ : ∃ i : Nat, (low + high) / 2 = (i : Int) := ⟨((low + high) / 2).toNat, by omega⟩
    have hin : i < s.ws.length := by omega
    have hbs := bitsI_step c rfl
    rw [hi] at hbs
    k_spoken
    k_node
    rw [hi]
    k_node
    have ok2 : ({ s with r := r' } : DS).Ok := ⟨ok.len, ok.lo, ok.hi, ok.each⟩
    refine ⟨d, { s with r := r' }, .int i, rfl, hS2.part (List.Sublist.refl _), ok2, trivial, fun cc => ?_, fun j ej hj q H3 f => ?_⟩
    · simp only [wholeB, Bool.and_eq_false_iff, decide_eq_false_iff_not] at cc
      omega
    obtain rfl : i = j := by
      have : (i : Int) = j := V.int.inj ej
      omega
    have hS3 := hS2.seg f .end_
    have hw8 : (s.ws.getD i []).length = 8 := by
      rw [List.getD_eq_getElem?_getD, List.getElem?_eq_getElem hin]
      exact ok.each _ (List.getElem_mem _)
    have fq : H3 q = some (.lst ((s.ws.getD i []).map V.int)) := hS3.getM (.head _)
    rw [eightV hw8] at fq
    have hmid := L.mid hs0 hsn hs1 hs2 hin (by omega)
    unfold fstW lstW at hmid
    generalize s.ws.getD i [] = w at *
    have e0 : atI [V.int (w.getD 0 0), V.int (w.getD 1 0), V.int (w.getD 2 0), V.int (w.getD 3 0), V.int (w.getD 4 0), V.int (w.getD 5 0), V.int (w.getD 6 0), V.int (w.getD 7 0)] 0 = some (V.int (w.getD 0 0)) := rfl
    have hS4 := hS3.sub (M' := diskL Z d { s with r := r' + 1 }) (.cons _ (List.Sublist.refl _))
    clear hS3 f
    k_spoken
    k_node
    k_spoken
    by_cases cn : start + (i : Int) ≤ num
    · obtain ⟨z1, z2⟩ := hmid.1 cn
      rw [z1]
      k_sweep
      exact ⟨(high - i).toNat, by omega, i, high, r' + 1, _, _, _, rfl, by omega, by omega, hhn, cn, hnh, by omega, by omega, by have := hbs.1; omega, hS4⟩
    · obtain ⟨z1, z2, z3, z4⟩ := hmid.2 (by omega)
      generalize hK : kindS (w.getD 0 0) (w.getD 7 0) i s.ws.length = kd at *
      have fin : ∀ tv : Option Int, tv = (if start + (i : Int) = num + 1 then torn else none) → ∃ m', m' < m ∧ ∃ (low' high r' : Int) (x6 x7 x8 : Option V), [some (V.ref d), some (.int start), some (.int s.ws.length), some (.int low), some (.int (i : Int)), some (ltV tv), some (V.int i), some (.ref q), some (.str kd)] = [some (.ref d), some (.int start), some (.int s.ws.length), some (.int low'), some (.int high), some (ltV (if start + high = num + 1 then torn else none)), x6, x7, x8] ∧ 0 ≤ low' ∧ low' < high ∧ high ≤ s.ws.length ∧ start + low' ≤ num ∧ num < start + high ∧ (m' : Int) = high - low' ∧ s.r ≤ r' ∧ r' + (bitsI (high - low' - 1) : Nat) ≤ s.r + (bitsI ((s.ws.length : Int) - 1) : Nat) ∧ Hs ((diskL Z d s).map Prod.fst) H H3 (diskL Z d { s with r := r' }) [] := by
        intro tv e
        exact ⟨(i - low).toNat, by omega, low, i, r' + 1, _, _, _, by rw [e], hl0, by omega, by omega, hln, by omega, by omega, by omega, by have := hbs.2; omega, hS4⟩
      have tors : (kd = "torn" → some (i : Int) = (if start + (i : Int) = num + 1 then torn else none)) ∧ (kd ≠ "torn" → none = (if start + (i : Int) = num + 1 then torn else none)) := by
        by_cases c1 : start + (i : Int) = num + 1
        · rw [if_pos c1]
          cases ht : torn with
          | none => exact ⟨fun e => absurd e (z2 c1 ht), fun _ => rfl⟩
          | some t =>
            obtain ⟨y1, y2⟩ := z3 c1 (by rw [ht]; simp)
            rw [ht] at y1
            exact ⟨fun _ => y1.symm, fun e => absurd y2 e⟩
        · rw [if_neg c1]
          exact ⟨fun e => absurd e (z4 c1), fun _ => rfl⟩
      have last : ∀ hk : Prop, True := fun _ => trivial
      apply s_iteD
      · intro cw
        k_spoken
        rw [decide_eq_false (fun e => z1 ⟨cw, e⟩)]
        k_spoken
        k_node
        k_spoken
        apply s_iteD
        · intro ct
          k_sweep
          exact fin (some (i : Int)) (tors.1 ct)
        · intro ct
          k_sweep
          exact fin none (tors.2 ct)
      · intro cw
        k_spoken
        k_node
        k_spoken
        apply s_iteD
        · intro ct
          k_sweep
          exact fin (some (i : Int)) (tors.1 ct)
        · intro ct
          k_sweep
          exact fin none (tors.2 ct)
  · intro c
    have c : ¬ 1 < high - low := c
    obtain rfl : high = low + 1 := by omega
    obtain rfl : num = start + low := by omega
    rw [if_pos (by omega)] at *
    k_sweep
    rename_i t H3 hS3 _ _
    exact k t r' _ hr0 (by have : 0 ≤ (bitsI (low + 1 - low - 1) : Int) := by omega
                           omega) (Frm.of hS3 (List.Sublist.refl _))
theorem ok_rows_in {f : Addr} {fd : FuncData} (F : Fun K "rows_in" "rows_in" st_rows_in f fd) (T : Txt K mg Z) (D_words_of : DefOk P w K mg base CX0 1 "words_of" ["some"] (sp_words_of K Z)) (D_by_row : DefOk P w K mg base CX0 1 "_by_row" ["blocks"] (sp_by_row K Z)) (D_has_last : DefOk P w K mg base CX0 1 "_has_last" ["some"] (sp_has_last K Z)) : FnOk P w K mg base CX0 2 f fd ["blocks"] (sp_rows_in K Z) := by
  have cl_Log := T.cl_Log
  have na_Log__cut := T.na_Log__cut
  have na_Log__disk := T.na_Log__disk
  have na_Log__gone := T.na_Log__gone
  have na_Log__number := T.na_Log__number
  have na_Log__rows := T.na_Log__rows
  have na_Log__torn := T.na_Log__torn
  have cl_Disk := T.cl_Disk
  have na_Disk__blocks := T.na_Disk__blocks
  have na_Disk__let := T.na_Disk__let
  have na_Disk__part := T.na_Disk__part
  have na_Disk__reads := T.na_Disk__reads
  have na_Disk__writes := T.na_Disk__writes
  refine F.ok sc_rows_in (fun vs H Q E h => ?_) (fun cdv A outer s H vs Q E hr h => ?_)
  · obtain ⟨_, _, _, rfl, _⟩ := h
    rfl
  obtain ⟨a, pb, gs, rfl, hH, h8, hg, hz, k⟩ := h
  have hS := Hs.startI hH
  refine ⟨_, (pss_one (ps_ret (pe_lc (own := [("some", 1)]) (g := gName 1) (by rfl) sc_rows_in.nd (pi_listK (K := K) (pe_callD D_by_row hr (by rfl) pass0 (pa_cons (pv 0) pa_nil))) (blkOk_by (N := ["blocks", "some"]) (sc := defScope st_rows_in) (by decide +kernel)) (fun _ _ _ _ _ => pg_name (i := 1) sc_rows_in.nd rfl (Or.inl rfl)) (fun _ _ _ _ _ => (pts_one (pt_val (pe_callD D_has_last hr (by rfl) pass0 (pa_cons (pv 1) pa_nil))))) (fun _ _ _ _ _ => (pe_tup (pa_cons (pe_ix (ix_listK (K := K)) (pe_ix (ix_listK (K := K)) (pv 1) pe_int (fun _ _ => rfl)) (pe_globC T.c_BEGIN rfl) (fun _ _ => rfl)) (pa_cons (pe_callD D_words_of hr (by rfl) pass0 (pa_cons (pv 1) pa_nil)) pa_nil))))))), ?_⟩
  refine s_start (by simp only [L2.start, List.map_cons, List.map_nil, List.length_cons, List.length_nil, Nat.reduceAdd, Nat.reduceSub, List.replicate, List.cons_append, List.nil_append]; rfl) ?_
  k_spoken
  refine ⟨a, pb, gs, rfl, hH, h8, hg, hz, fun D ga H1 e hc => ?_⟩
  have hS1 := hc.frame0 hS
  rw [List.append_nil] at hS1
  have hl := grp_len Prod.snd hg
  have hl1 : gs.length ≤ 1000 := by have := hl.1; simp at this; omega
  have hga : ga.length = gs.length := by rw [← e, List.length_map]
  k_spoken
  refine f_lcL (xs := ga.map gf) fun Dn hD => ⟨fun i H' => ∃ xs : List RA, xs.map Prod.snd = rowsIn ((gs.take i).map (List.map Prod.snd)) ∧ Hs [] H H' ((Dn, .lst (xs.map tf)) :: (rL xs ++ ((D, .lst (ga.map gf)) :: gL ga))) ((a, .lst (pb.map rf)) :: bL pb), ⟨[], rfl, hS1.new hD _⟩, ?_, ?_, ?_⟩
  · rintro i H' _ ⟨xs, _, hS2⟩
    exact SqL.of (hS2.getM (.tail _ (List.mem_append_right _ (.head _))))
  · rintro i y H3 hy ⟨xs, hxs, hS3⟩
    obtain ⟨g, hgi, rfl⟩ : ∃ g, ga[i]? = some g ∧ gf g = y := by simpa using hy
    clear hy
    have hgs : gs[i]? = some g.2 := by rw [← e, List.getElem?_map, hgi]; rfl
    have hgm := List.mem_of_getElem? hgs
    obtain ⟨hsub, hne⟩ := grp_parts Prod.snd hg g.2 hgm
    obtain ⟨ini, x, hix⟩ := snoc_of hne
    obtain ⟨z, zs, hzs⟩ := List.exists_cons_of_ne_nil hne
    have hxm : x ∈ pb := hsub.subset (by rw [hix]; simp)
    have hzm : z ∈ pb := hsub.subset (by rw [hzs]; simp)
    have m1 : (g.1, HO.lst (g.2.map rf)) ∈ (Dn, HO.lst (xs.map tf)) :: (rL xs ++ ((D, HO.lst (ga.map gf)) :: gL ga)) := .tail _ (List.mem_append_right _ (.tail _ (gL_mem (List.mem_of_getElem? hgi))))
    have f1 : H3 g.1 = some (.lst (g.2.map rf)) := hS3.getM m1
    have f2 : H3 x.1 = some (.lst (x.2.map V.int)) := hS3.getI (.tail _ (bL_mem hxm))
    have f3 : H3 z.1 = some (.lst (z.2.map V.int)) := hS3.getI (.tail _ (bL_mem hzm))
    have e2 : atI (z.2.map V.int) 2 = some (V.int (z.2.getD 2 0)) := at8 (h8 z hzm) (i := 2) (by decide)
    have e0 : atI (g.2.map rf) 0 = some (V.ref z.1) := by rw [hzs]; exact atI_nat (j := 0) rfl
    have hbe : begOf (g.2.map Prod.snd) = z.2.getD 2 0 := by rw [hzs]; rfl
    have hla : hasLast (g.2.map Prod.snd) = decide (x.2.getD 3 0 = 0) := by
      unfold hasLast
      rw [hix, List.map_append]
      show decide ((((ini.map Prod.snd) ++ [x.2]).getLastD []).getD 3 0 = 0) = _
      rw [List.getLastD_concat]
    have hrn : rowsIn ((gs.take (i + 1)).map (List.map Prod.snd)) = rowsIn ((gs.take i).map (List.map Prod.snd)) ++ (if hasLast (g.2.map Prod.snd) = true then [(begOf (g.2.map Prod.snd), wordsOf (g.2.map Prod.snd))] else []) := by
      rw [take_snoc hgs, List.map_append]
      exact rowsIn_snoc _ _
    have hcl : xs.length ≤ 1000 := by
      have := congrArg List.length hxs
      rw [List.length_map] at this
      rw [this]
      unfold rowsIn
      rw [List.length_map]
      refine Nat.le_trans (List.length_filter_le _ _) ?_
      rw [List.length_map, List.length_take]
      omega
    rw [hla, hbe] at hrn
    k_spoken
    refine ⟨g.1, ini, x, rfl, by rw [← hix]; exact f1, f2, h8 x hxm, ?_⟩
    k_spoken
    cases hd : decide (x.2.getD 3 0 = 0) with
    | false =>
      rw [hd, if_neg (by decide), List.append_nil] at hrn
      k_spoken
      exact ⟨xs, by rw [hrn]; exact hxs, hS3⟩
    | true =>
      rw [hd, if_pos rfl] at hrn
      k_spoken
      have hmap : g.2.map rf = (g.2.map Prod.fst).map V.ref := by rw [List.map_map]; rfl
      have hbL : bL g.2 = rowsL (g.2.map Prod.fst) (g.2.map Prod.snd) := bL_rows _
      refine ⟨g.1, g.2.map Prod.fst, g.2.map Prod.snd, rfl, ?_, by rw [List.length_map, List.length_map], ?_, ?_, ?_, hS3.newO fun p H4 hS4 u hn => ?_⟩
      · rw [← hmap, ← hbL]
        exact hS3.holds.sub (sub_one m1 (.cons _ (hsub.map bcell)))
      · intro w hw
        obtain ⟨b, hb, rfl⟩ := List.mem_map.mp hw
        exact h8 b (hsub.subset hb)
      · intro z
        exact hne (by simpa using z)
      · rw [List.length_map]
        exact Nat.le_trans hsub.length_le hz
      · have hS4 := hS4
        k_spoken
        rename_i T H5 hS5 _ _ H6 hS6 _
        refine ⟨xs ++ [((T, p), (z.2.getD 2 0, wordsOf (g.2.map Prod.snd)))], ?_, ?_⟩
        · rw [List.map_append, hxs, hrn]
          rfl
        · rw [rL_app, List.map_append]
          exact Hs.snoc2 (A := rL xs) hS6
  · rintro H3 ⟨xs, hxs, hS3⟩
    rw [List.length_map, hga, List.take_length] at hxs
    exact k Dn xs _ hxs (Hs.dropI (Hs.sub hS3 (.cons₂ _ (List.sublist_append_left _ _))))
theorem ok_cut_in {f : Addr} {fd : FuncData} (F : Fun K "cut_in" "cut_in" st_cut_in f fd) (T : Txt K mg Z) (D_by_row : DefOk P w K mg base CX0 1 "_by_row" ["blocks"] (sp_by_row K Z)) (D_has_last : DefOk P w K mg base CX0 1 "_has_last" ["some"] (sp_has_last K Z)) : FnOk P w K mg base CX0 2 f fd ["blocks"] (sp_cut_in K Z) := by
  have cl_Log := T.cl_Log
  have na_Log__cut := T.na_Log__cut
  have na_Log__disk := T.na_Log__disk
  have na_Log__gone := T.na_Log__gone
  have na_Log__number := T.na_Log__number
  have na_Log__rows := T.na_Log__rows
  have na_Log__torn := T.na_Log__torn
  have cl_Disk := T.cl_Disk
  have na_Disk__blocks := T.na_Disk__blocks
  have na_Disk__let := T.na_Disk__let
  have na_Disk__part := T.na_Disk__part
  have na_Disk__reads := T.na_Disk__reads
  have na_Disk__writes := T.na_Disk__writes
  refine F.ok sc_cut_in (fun vs H Q E h => ?_) (fun cdv A outer s H vs Q E hr h => ?_)
  · obtain ⟨_, _, _, rfl, _⟩ := h
    rfl
  obtain ⟨a, pb, gs, rfl, hH, h8, hg, hz, k⟩ := h
  have hS := Hs.startI hH
  refine ⟨_, (pss_one (ps_ret (pe_lc (own := [("some", 1)]) (g := gName 1) (by rfl) sc_cut_in.nd (pi_listK (K := K) (pe_callD D_by_row hr (by rfl) pass0 (pa_cons (pv 0) pa_nil))) (blkOk_by (N := ["blocks", "some"]) (sc := defScope st_cut_in) (by decide +kernel)) (fun _ _ _ _ _ => pg_name (i := 1) sc_cut_in.nd rfl (Or.inl rfl)) (fun _ _ _ _ _ => (pts_one (pt_not (pt_val (pe_callD D_has_last hr (by rfl) pass0 (pa_cons (pv 1) pa_nil)))))) (fun _ _ _ _ _ => (pe_ix (ix_listK (K := K)) (pe_ix (ix_listK (K := K)) (pv 1) pe_int (fun _ _ => rfl)) (pe_globC T.c_BEGIN rfl) (fun _ _ => rfl)))))), ?_⟩
  refine s_start (by simp only [L2.start, List.map_cons, List.map_nil, List.length_cons, List.length_nil, Nat.reduceAdd, Nat.reduceSub, List.replicate, List.cons_append, List.nil_append]; rfl) ?_
  k_spoken
  refine ⟨a, pb, gs, rfl, hH, h8, hg, hz, fun D ga H1 e hc => ?_⟩
  have hS1 := hc.frame0 hS
  rw [List.append_nil] at hS1
  have hl := grp_len Prod.snd hg
  have hl1 : gs.length ≤ 1000 := by have := hl.1; simp at this; omega
  have hga : ga.length = gs.length := by rw [← e, List.length_map]
  k_spoken
  refine f_lcL (xs := ga.map gf) fun Dn hD => ⟨fun i H' => Hs [] H H' ((Dn, .lst ((cutIn ((gs.take i).map (List.map Prod.snd))).map V.int)) :: ((D, .lst (ga.map gf)) :: gL ga)) ((a, .lst (pb.map rf)) :: bL pb), hS1.new hD _, ?_, ?_, ?_⟩
  · rintro i H' _ hS2
    exact SqL.of (hS2.getM (.tail _ (.head _)))
  · rintro i y H3 hy hS3
    obtain ⟨g, hgi, rfl⟩ : ∃ g, ga[i]? = some g ∧ gf g = y := by simpa using hy
    clear hy
    have hgs : gs[i]? = some g.2 := by rw [← e, List.getElem?_map, hgi]; rfl
    have hgm := List.mem_of_getElem? hgs
    obtain ⟨hsub, hne⟩ := grp_parts Prod.snd hg g.2 hgm
    obtain ⟨ini, x, hix⟩ := snoc_of hne
    obtain ⟨z, zs, hzs⟩ := List.exists_cons_of_ne_nil hne
    have hxm : x ∈ pb := hsub.subset (by rw [hix]; simp)
    have hzm : z ∈ pb := hsub.subset (by rw [hzs]; simp)
    have f1 : H3 g.1 = some (.lst (g.2.map rf)) := hS3.getM (.tail _ (.tail _ (gL_mem (List.mem_of_getElem? hgi))))
    have f2 : H3 x.1 = some (.lst (x.2.map V.int)) := hS3.getI (.tail _ (bL_mem hxm))
    have f3 : H3 z.1 = some (.lst (z.2.map V.int)) := hS3.getI (.tail _ (bL_mem hzm))
    have e2 : atI (z.2.map V.int) 2 = some (V.int (z.2.getD 2 0)) := at8 (h8 z hzm) (i := 2) (by decide)
    have e0 : atI (g.2.map rf) 0 = some (V.ref z.1) := by rw [hzs]; exact atI_nat (j := 0) rfl
    have hbe : begOf (g.2.map Prod.snd) = z.2.getD 2 0 := by rw [hzs]; rfl
    have hla : hasLast (g.2.map Prod.snd) = decide (x.2.getD 3 0 = 0) := by
      unfold hasLast
      rw [hix, List.map_append]
      show decide ((((ini.map Prod.snd) ++ [x.2]).getLastD []).getD 3 0 = 0) = _
      rw [List.getLastD_concat]
    have hcn : cutIn ((gs.take (i + 1)).map (List.map Prod.snd)) = cutIn ((gs.take i).map (List.map Prod.snd)) ++ (if hasLast (g.2.map Prod.snd) = true then [] else [begOf (g.2.map Prod.snd)]) := by
      rw [take_snoc hgs, List.map_append]
      exact cutIn_snoc _ _
    have hcl : (cutIn ((gs.take i).map (List.map Prod.snd))).length ≤ 1000 := by
      unfold cutIn
      rw [List.length_map]
      refine Nat.le_trans (List.length_filter_le _ _) ?_
      rw [List.length_map, List.length_take]
      omega
    rw [hla, hbe] at hcn
    k_spoken
    refine ⟨g.1, ini, x, rfl, by rw [← hix]; exact f1, f2, h8 x hxm, ?_⟩
    k_spoken
    cases hd : decide (x.2.getD 3 0 = 0) with
    | true =>
      rw [hd, if_pos rfl, List.append_nil] at hcn
      k_spoken
      exact hS3.cast (by rw [hcn])
    | false =>
      rw [hd, if_neg (by decide)] at hcn
      k_spoken
      rename_i H4 hS4 _
      exact hS4.cast (by rw [hcn, List.map_append]; rfl)
  · rintro H3 hS3
    rw [List.length_map, hga, List.take_length] at hS3
    exact k.end_ hD (by assumption) hS3 (hS3.getM (.head _))
theorem ok_by_row {f : Addr} {fd : FuncData} (F : Fun K "_by_row" "_by_row" st_by_row f fd) (T : Txt K mg Z)  : FnOk P w K mg base CX0 1 f fd ["blocks"] (sp_by_row K Z) := by
  have cl_Log := T.cl_Log
  have na_Log__cut := T.na_Log__cut
  have na_Log__disk := T.na_Log__disk
  have na_Log__gone := T.na_Log__gone
  have na_Log__number := T.na_Log__number
  have na_Log__rows := T.na_Log__rows
  have na_Log__torn := T.na_Log__torn
  have cl_Disk := T.cl_Disk
  have na_Disk__blocks := T.na_Disk__blocks
  have na_Disk__let := T.na_Disk__let
  have na_Disk__part := T.na_Disk__part
  have na_Disk__reads := T.na_Disk__reads
  have na_Disk__writes := T.na_Disk__writes
  refine F.ok sc_by_row (fun vs H Q E h => ?_) (fun cdv A outer s H vs Q E hr h => ?_)
  · obtain ⟨_, _, _, rfl, _⟩ := h
    rfl
  obtain ⟨a, pb, gs, rfl, hH, h8, hg, hz, k⟩ := h
  have hS := Hs.startI hH
  refine ⟨_, (pss_cons (ps_set (i := 1) sc_by_row.nd rfl (Or.inl rfl) (pe_lst pa_nil))
      (pss_cons (ps_for PassesOwn.never rfl (pi_listK (K := K) (pv 0)) (pg_name (i := 2) sc_by_row.nd rfl (Or.inl rfl))
      (pss_cons (ps_if (pt_cmpR op_eq (pe_ix (ix_listK (K := K)) (pv 2) (pe_globC T.c_BEGIN rfl) (fun _ _ => rfl)) (pe_globC T.c_NO_BEGIN rfl) (nomark _)) (pss_one ps_continue) pss_nil)
      (pss_cons (ps_if (pt_cmpR op_eq (pe_ix (ix_listK (K := K)) (pv 2) (pe_globC T.c_BEGIN rfl) (fun _ _ => rfl)) (pe_ix (ix_listK (K := K)) (pv 2) (pe_globC T.c_NUMBER rfl) (fun _ _ => rfl)) (nomark _)) (pss_one (ps_expr (pe_bmK (K := K) PySem.F.plainAttrs_list PySem.F.slot_list_append PySem.F.type_list_append mt_append (pv 1) (pa_cons (pe_lst pa_nil) pa_nil)))) pss_nil)
      (pss_one (ps_expr (pe_bmK (K := K) PySem.F.plainAttrs_list PySem.F.slot_list_append PySem.F.type_list_append mt_append (pe_ix (ix_listK (K := K)) (pv 1) (pe_un un_neg pe_int) (fun _ _ => rfl)) (pa_cons (pv 2) pa_nil)))))))
      (pss_one (ps_ret (pv 1))))), ?_⟩
  refine s_start (by simp only [L2.start, List.map_cons, List.map_nil, List.length_cons, List.length_nil, Nat.reduceAdd, Nat.reduceSub, List.replicate, List.cons_append, List.nil_append]; rfl) ?_
  k_node
  rename_i D H1 hS1 _ hD
  k_node
  refine f_list (xs := pb.map rf) (fun i σ H' => ∃ (x2 : Option V) (ga : List (Addr × List (Addr × List Int))), σ = [some (.ref a), some (.ref D), x2] ∧ grp Prod.snd [] (pb.take i) = some (ga.map Prod.snd) ∧ Hs [] H H' ((D, .lst (ga.map gf)) :: gL ga) ((a, .lst (pb.map rf)) :: bL pb)) ⟨_, [], rfl, rfl, hS1⟩ ?_ ?_ ?_
  · rintro i σ H' _ ⟨x2, ga, _, _, hS2⟩
    exact SqL.of (hS2.getI List.mem_cons_self)
  · rintro i y σ H2 hx ⟨x2, ga, rfl, hga, hS2⟩
    obtain ⟨x, hpx, rfl⟩ : ∃ x, pb[i]? = some x ∧ rf x = y := by simpa using hx
    clear hx
    have hi := (List.getElem?_eq_some_iff.mp hpx).1
    have hxm := List.mem_of_getElem? hpx
    have f1 : H2 x.1 = some (.lst (x.2.map V.int)) := hS2.getI (List.mem_cons_of_mem _ (bL_mem hxm))
    have e2 : atI (x.2.map V.int) 2 = some (V.int (x.2.getD 2 0)) := at8 (h8 x hxm) (i := 2) (by decide)
    have e0 : atI (x.2.map V.int) 0 = some (V.int (x.2.getD 0 0)) := at8 (h8 x hxm) (i := 0) (by decide)
    have hl := grp_len Prod.snd hga
    rw [List.length_map, List.length_take] at hl
    have hl1 : ga.length ≤ 1000 := by have := hl.1; simp at this; omega
    have hstep : ∃ gb, gStep Prod.snd (ga.map Prod.snd) x = some gb ∧ grp Prod.snd [] (pb.take (i + 1)) = some gb := by
      have h1 := hg
      rw [← List.take_append_drop (i + 1) pb, grp_append, take_snoc hpx, grp_snoc, hga] at h1
      cases e : gStep Prod.snd (ga.map Prod.snd) x with
      | none =>
        have h2 : ((none : Option (List (List (Addr × List Int)))).bind fun a => grp Prod.snd a (pb.drop (i + 1))) = some gs := by rw [← e]; exact h1
        cases h2
      | some gb =>
        refine ⟨gb, rfl, ?_⟩
        rw [take_snoc hpx, grp_snoc, hga]
        exact e
    obtain ⟨gb, hb1, hb2⟩ := hstep
    rw [gStep] at hb1
    k_spoken
    k_node
    apply s_iteD
    · intro c
      rw [if_pos c] at hb1
      k_spoken
      exact ⟨_, ga, rfl, hb2.trans hb1.symm, hS2⟩
    · intro c
      rw [if_neg c] at hb1
      k_spoken
      refine s_join (fun σ' H' => ∃ (ini : List (Addr × List (Addr × List Int))) (q : Addr) (ls : List (Addr × List Int)), σ' = [some (.ref a), some (.ref D), some (.ref x.1)] ∧ gb = ini.map Prod.snd ++ [ls ++ [x]] ∧ ls.length ≤ 1000 ∧ Hs [] H H' ((D, .lst ((ini.map gf) ++ [V.ref q])) :: (gL ini ++ [(q, .lst (ls.map rf))])) ((a, .lst (pb.map rf)) :: bL pb)) ?_ ?_
      · rintro σ' H3 ⟨ini, q, ls, rfl, hgb, hls, hS3⟩
        have el : atI (ini.map gf ++ [V.ref q]) (-1) = some (V.ref q) := atI_end
        k_spoken
        rename_i H4 hS4 _
        refine ⟨_, ini ++ [(q, ls ++ [x])], rfl, ?_, ?_⟩
        · rw [hb2, hgb, List.map_append]
          rfl
        · refine hS4.cast ?_
          simp only [gL, gcell, List.map_append, List.map_cons, List.map_nil]
      · intro U hU
        k_spoken
        apply s_iteD
        · intro c2
          rw [if_pos c2] at hb1
          k_spoken
          rename_i q H3 hS3 _ _ H4 hS4 _
          refine hU _ _ ⟨ga, q, [], rfl, (Option.some.inj hb1).symm, by simp, hS4.perm ?_⟩
          exact (List.Perm.cons _ (List.perm_append_comm (l₁ := gL ga) (l₂ := [_]))).trans (List.Perm.swap _ _ _)
        · intro c2
          rw [if_neg c2] at hb1
          k_spoken
          cases er : ga.reverse with
          | nil =>
            rw [← List.map_reverse, er] at hb1
            cases hb1
          | cons z zs =>
            have ea : ga = zs.reverse ++ [z] := by rw [← List.reverse_reverse ga, er, List.reverse_cons]
            rw [← List.map_reverse, er] at hb1
            refine hU _ _ ⟨zs.reverse, z.1, z.2, rfl, ?_, ?_, hS2.cast ?_⟩
            · rw [← Option.some.inj hb1, List.map_reverse]
            · have := hl.2 z.2 (List.mem_map_of_mem (f := Prod.snd) (by rw [ea]; simp))
              simp at this
              omega
            · rw [ea]
              unfold gL
              simp only [List.map_append, List.map_cons, List.map_nil]
              rfl
  · rintro σ H2 ⟨x2, ga, rfl, hga, hS2⟩
    rw [List.length_map, List.take_length, hg] at hga
    k_sweep
    exact k D ga _ (Option.some.inj hga).symm hS2.dropI
theorem ok_has_last {f : Addr} {fd : FuncData} (F : Fun K "_has_last" "_has_last" st_has_last f fd) (T : Txt K mg Z)  : FnOk P w K mg base CX0 1 f fd ["some"] (sp_has_last K Z) := by
  have cl_Log := T.cl_Log
  have na_Log__cut := T.na_Log__cut
  have na_Log__disk := T.na_Log__disk
  have na_Log__gone := T.na_Log__gone
  have na_Log__number := T.na_Log__number
  have na_Log__rows := T.na_Log__rows
  have na_Log__torn := T.na_Log__torn
  have cl_Disk := T.cl_Disk
  have na_Disk__blocks := T.na_Disk__blocks
  have na_Disk__let := T.na_Disk__let
  have na_Disk__part := T.na_Disk__part
  have na_Disk__reads := T.na_Disk__reads
  have na_Disk__writes := T.na_Disk__writes
  refine F.ok sc_has_last (fun vs H Q E h => ?_) (fun cdv A outer s H vs Q E hr h => ?_)
  · obtain ⟨_, _, _, rfl, _⟩ := h
    rfl
  obtain ⟨a, ini, x, rfl, ha, hx, h8, k⟩ := h
  refine ⟨_, (pss_one (ps_ret (pe_cmpR op_eq (pe_ix (ix_listK (K := K)) (pe_ix (ix_listK (K := K)) (pv 0) (pe_un un_neg pe_int) (fun _ _ => rfl)) (pe_globC T.c_LEFT rfl) (fun _ _ => rfl)) pe_int (nomark _)))), ?_⟩
  refine s_start (by simp only [L2.start, List.map_cons, List.map_nil, List.length_cons, List.length_nil, Nat.reduceAdd, Nat.reduceSub, List.replicate, List.cons_append, List.nil_append]; rfl) ?_
  have e1 : atI ((ini ++ [x]).map rf) (-1) = some (V.ref x.1) := by
    rw [List.map_append]
    exact atI_end
  have e2 := at8 h8 (i := 3) (by decide)
  k_spoken
  exact k
theorem ok_is_whole {f : Addr} {fd : FuncData} (F : Fun K "is_whole" "is_whole" st_is_whole f fd) (T : Txt K mg Z)  : FnOk P w K mg base CX0 1 f fd ["value", "low", "high"] (sp_is_whole K Z) := by
  have cl_Log := T.cl_Log
  have na_Log__cut := T.na_Log__cut
  have na_Log__disk := T.na_Log__disk
  have na_Log__gone := T.na_Log__gone
  have na_Log__number := T.na_Log__number
  have na_Log__rows := T.na_Log__rows
  have na_Log__torn := T.na_Log__torn
  have cl_Disk := T.cl_Disk
  have na_Disk__blocks := T.na_Disk__blocks
  have na_Disk__let := T.na_Disk__let
  have na_Disk__part := T.na_Disk__part
  have na_Disk__reads := T.na_Disk__reads
  have na_Disk__writes := T.na_Disk__writes
  refine F.ok sc_is_whole (fun vs H Q E h => ?_) (fun cdv A outer s H vs Q E hr h => ?_)
  · obtain ⟨_, _, _, rfl, _⟩ := h
    rfl
  obtain ⟨v, lo, hi, rfl, hv, k⟩ := h
  refine ⟨_, (pss_one (ps_ret (pe_and (pe_callB (call_isiK' (K := K)) (by rfl) T.m_isinstance (by decide +kernel) (pa_cons (pv 0) (pa_cons (pe_bltn (v := .ty "int") (by rfl) T.m_int (by decide +kernel) rfl) pa_nil))) (pe_and (pe_not (pe_callB (call_isiK' (K := K)) (by rfl) T.m_isinstance (by decide +kernel) (pa_cons (pv 0) (pa_cons (pe_bltn (v := .ty "bool") (by rfl) T.m_bool (by decide +kernel) rfl) pa_nil)))) (pe_one (pe_chain op_le op_le (pv 1) (pv 0) (pv 2))))))), ?_⟩
  refine s_start (by simp only [L2.start, List.map_cons, List.map_nil, List.length_cons, List.length_nil, Nat.reduceAdd, Nat.reduceSub, List.replicate, List.cons_append, List.nil_append]; rfl) ?_
  cases v with
  | int i =>
    k_splitN
    · rename_i c
      have e : wholeB (.int i) lo hi = decide (i ≤ hi) := by simp [wholeB, c]
      rw [e] at k
      exact k
    · rename_i c
      have e : wholeB (.int i) lo hi = false := by simp [wholeB, c]
      rw [e] at k
      exact k
  | bl b => k_sweep; exact k
  | str b => k_sweep; exact k
  | non => k_sweep; exact k
  | byt b => exact hv.elim
  | flt b => exact hv.elim
  | ref b => exact hv.elim
  | ty b => exact hv.elim
theorem ok_is_row {f : Addr} {fd : FuncData} (F : Fun K "_is_row" "_is_row" st_is_row f fd) (T : Txt K mg Z) (D_is_whole : DefOk P w K mg base CX0 1 "is_whole" ["value", "low", "high"] (sp_is_whole K Z)) : FnOk P w K mg base CX0 2 f fd ["row"] (sp_is_row K Z) := by
  have cl_Log := T.cl_Log
  have na_Log__cut := T.na_Log__cut
  have na_Log__disk := T.na_Log__disk
  have na_Log__gone := T.na_Log__gone
  have na_Log__number := T.na_Log__number
  have na_Log__rows := T.na_Log__rows
  have na_Log__torn := T.na_Log__torn
  have cl_Disk := T.cl_Disk
  have na_Disk__blocks := T.na_Disk__blocks
  have na_Disk__let := T.na_Disk__let
  have na_Disk__part := T.na_Disk__part
  have na_Disk__reads := T.na_Disk__reads
  have na_Disk__writes := T.na_Disk__writes
  refine F.ok sc_is_row (fun vs H Q E h => ?_) (fun cdv A outer s H vs Q E hr h => ?_)
  · obtain ⟨_, _, _, rfl, _⟩ := h
    rfl
  obtain ⟨a, b, items, rfl, ha, hf, hz, k⟩ := h
  have hS := Hs.startI (Holds.one ha)
  refine ⟨_, (pss_cons (ps_if (PW.pt (pw_or (pt_not (pt_val (pe_callB (call_isiK' (K := K)) (by rfl) T.m_isinstance (by decide +kernel) (pa_cons (pv 0) (pa_cons (pe_bltn (v := .ty "list") (by rfl) T.m_list (by decide +kernel) rfl) pa_nil))))) (pw_or1 (pt_cmpR op_gt (pe_callB (call_lenK (K := K)) (by rfl) T.m_len (by decide +kernel) (pa_cons (pv 0) pa_nil)) (pe_globC T.c_MOST_WORDS rfl) (nomark _))))) (pss_one (ps_ret pe_bl)) pss_nil)
      (pss_one (ps_ret (pe_callB (cr_allK (K := K) rfl) (by rfl) T.m_all (by decide +kernel) (pa_cons (pe_lc (own := [("word", 1)]) (g := gName 1) (by rfl) sc_is_row.nd (pi_listK (K := K) (pv 0)) (blkOk_by (N := ["row", "word"]) (sc := defScope st_is_row) (by decide +kernel)) (fun _ _ _ _ _ => pg_name (i := 1) sc_is_row.nd rfl (Or.inl rfl)) (fun _ _ _ _ _ => pts_nil) (fun _ _ _ _ _ => (pe_callD D_is_whole hr (by rfl) pass0 (pa_cons (pv 1) (pa_cons pe_int (pa_cons (pe_globC T.c_MOST_WORD_OF_ROW rfl) pa_nil)))))) pa_nil))))), ?_⟩
  refine s_start (by simp only [L2.start, List.map_cons, List.map_nil, List.length_cons, List.length_nil, Nat.reduceAdd, Nat.reduceSub, List.replicate, List.cons_append, List.nil_append]; rfl) ?_
  cases b with
  | false =>
    simp only [Bool.false_eq_true, if_false] at hS
    k_sweep
    exact k _ (Hs.up (by assumption))
  | true =>
    simp only [if_true] at hS
    k_node
    apply s_iteD
    · intro c
      k_sweep
      have e : rowB? items = false := by
        simp only [rowB?, Bool.and_eq_false_iff, decide_eq_false_iff_not]
        left
        omega
      rw [e] at k
      exact k _ (Hs.up (by assumption))
    · intro c
      k_sweep
      refine f_lcL (xs := items) fun Dn hD => ⟨fun i H' => Hs [] H H' [(Dn, .lst (((items.take i).map fun v => wholeB v 0 999999999).map V.bl))] [(a, .lst items)], hS.new hD _, ?_, ?_, ?_⟩
      · intro i H' _ h2
        exact SqL.of (h2.getI List.mem_cons_self)
      · intro i x H2 hx hS2
        have hfx := hf x (List.mem_of_getElem? hx)
        have hlt : i < items.length := (List.getElem?_eq_some_iff.mp hx).1
        k_spoken
        have hll : (((items.take i).map fun v => wholeB v 0 999999999).map V.bl).length < sizeLine := by
          rw [List.length_map, List.length_map, List.length_take, sizeLine_eq]
          omega
        k_spoken
        have e : items.take (i + 1) = items.take i ++ [x] := by
          rw [List.take_add_one, hx]
          rfl
        show Hs [] H _ [(Dn, .lst (((items.take (i + 1)).map fun v => wholeB v 0 999999999).map V.bl))] [(a, .lst items)]
        rw [e, List.map_append, List.map_append]
        assumption
      · intro H2 hS2
        rw [List.take_length] at hS2
        k_spoken
        refine ⟨Dn, _, rfl, SqL.of (hS2.getM List.mem_cons_self), ?_⟩
        have e : (true && rowB? items) = (items.map fun v => wholeB v 0 999999999).all id := by
          have c' : items.length ≤ 11 := by omega
          simp [rowB?, c', List.all_map, Function.comp_def]
        rw [e] at k
        exact k _ hS2.up
theorem ok_blocks_of_use {f : Addr} {fd : FuncData} (F : Fun K "_blocks_of_use" "_blocks_of_use" st_blocks_of_use f fd) (T : Txt K mg Z) (M_Disk_blocks : MethOk P w K mg base CX0 1 Z.Disk "blocks" ["self"] (sp_Disk_blocks K Z)) (M_Disk_read : MethOk P w K mg base (L2.CX P w) 3 Z.Disk "read" ["self", "place"] (sp_Disk_read K Z)) : FnOk P w K mg base CX0 4 f fd ["disk", "number"] (sp_blocks_of_use K Z) := by
  obtain ⟨f_Disk_blocks, fd_Disk_blocks, G_Disk_blocks, b_Disk_blocks, m_Disk_blocks⟩ := M_Disk_blocks.ex
  obtain ⟨f_Disk_read, fd_Disk_read, G_Disk_read, b_Disk_read, m_Disk_read⟩ := M_Disk_read.ex
  have cl_Log := T.cl_Log
  have na_Log__cut := T.na_Log__cut
  have na_Log__disk := T.na_Log__disk
  have na_Log__gone := T.na_Log__gone
  have na_Log__number := T.na_Log__number
  have na_Log__rows := T.na_Log__rows
  have na_Log__torn := T.na_Log__torn
  have cl_Disk := T.cl_Disk
  have na_Disk__blocks := T.na_Disk__blocks
  have na_Disk__let := T.na_Disk__let
  have na_Disk__part := T.na_Disk__part
  have na_Disk__reads := T.na_Disk__reads
  have na_Disk__writes := T.na_Disk__writes
  refine F.ok sc_blocks_of_use (fun vs H Q E h => ?_) (fun cdv A outer s H vs Q E hr h => ?_)
  · obtain ⟨_, _, _, _, _, _, rfl, _⟩ := h
    rfl
  obtain ⟨d, s, num, flo, torn, gs, rfl, hH, ok, vw, hbig, k⟩ := h
  have hS := Hs.startL hH
  refine ⟨_, (pss_cons (ps_set (i := 2) sc_blocks_of_use.nd rfl (Or.inr rfl) (pe_meth0 (pv 0) T.cl_Disk m_Disk_blocks G_Disk_blocks (hr.mono (by decide)) b_Disk_blocks .nil pass0))
      (pss_cons (ps_if (pt_cmpR op_lt (pv 1) (pv 2) (nomark _)) (pss_one (ps_ret (pe_lst pa_nil))) pss_nil)
      (pss_cons (ps_set (i := 3) sc_blocks_of_use.nd rfl (Or.inl rfl) (pe_meth (pv 0) T.cl_Disk m_Disk_read G_Disk_read (hr.mono (by decide)) b_Disk_read .nil passL (pa_cons (pe_op op_mod (pv 1) (pv 2)) pa_nil)))
      (pss_cons (ps_setLc (i := 4) (own := [("earlier", 5)]) (g := gName 5) (by rfl) sc_blocks_of_use.nd rfl rfl (sw_true rfl rfl rfl (by decide +kernel)) (pi_range2 rfl T.m_range (pa_cons (pe_op op_add (pe_ix (ix_listK (K := K)) (pv 3) (pe_globC T.c_FLOOR rfl) (fun _ _ => rfl)) pe_int) (pa_cons (pv 1) pa_nil))) (blkOk_by (N := ["disk", "number", "many", "last", "found", "earlier"]) (sc := defScope st_blocks_of_use) (by decide +kernel)) (fun _ _ _ _ _ => pg_name (i := 5) sc_blocks_of_use.nd rfl (Or.inl rfl)) (fun _ _ _ _ _ => pts_nil) (fun _ _ _ _ _ => (pe_meth (pv 0) T.cl_Disk m_Disk_read G_Disk_read (hr.mono (by decide)) b_Disk_read .nil passL (pa_cons (pe_op op_mod (pv 5) (pv 2)) pa_nil))))
      (pss_cons (ps_expr (pe_bmK (K := K) PySem.F.plainAttrs_list PySem.F.slot_list_append PySem.F.type_list_append mt_append (pv 4) (pa_cons (pv 3) pa_nil)))
      (pss_one (ps_ret (pv 4)))))))), ?_⟩
  refine s_start (by simp only [L2.start, List.map_cons, List.map_nil, List.length_cons, List.length_nil, Nat.reduceAdd, Nat.reduceSub, List.replicate, List.cons_append, List.nil_append]; rfl) ?_
  have h4 := ok.lo
  have h64 := ok.hi
  have f0 := vw.f0
  have f1 := vw.f1
  have f2 := vw.f2
  k_node
  refine ⟨d, s, rfl, hH, ok, ?_⟩
  k_spoken
  k_node
  apply s_iteD
  · intro c
    k_sweep
    rename_i D H2 hS2 _ _
    refine k D [] s.r _ ?_ (by omega) (by omega) (Frm.of hS2 (List.Sublist.refl _))
    rw [useB_nil (by omega)]
    rfl
  · intro c
    obtain ⟨g1, g2⟩ := vw.f3 (by omega)
    have hp := place_lt (n := s.ws.length) (by omega) num
    obtain ⟨b0, b7, b8⟩ := blkOf_num vw (k := num) (by omega) (by omega)
    k_spoken
    k_node
    refine ⟨d, s, .int (num % s.ws.length), rfl, hH, ok, trivial, fun cc => ?_, fun i ei hi q H2 f => ?_⟩
    · simp only [wholeB, Bool.and_eq_false_iff, decide_eq_false_iff_not] at cc
      omega
    obtain rfl : (num % (s.ws.length : Int)).toNat = i := by have := V.int.inj ei; omega
    have hS2 := hS.seg f .end_
    have hS2 : Hs _ H H2 ((q, .lst ((blkOf s.ws.length s.ws num).map V.int)) :: diskL Z d { s with r := s.r + 1 }) [] := hS2
    have e1 : atI ((blkOf s.ws.length s.ws num).map V.int) 1 = some (V.int ((blkOf s.ws.length s.ws num).getD 1 0)) := at8 b8 (i := 1) (by decide)
    rw [g2] at e1
    clear f
    k_spoken
    k_node
    refine f_lcR (lo := flo + 1) (n := (num - (flo + 1)).toNat) fun Dn hD => ⟨fun i H' => ∃ (pb : List (Addr × List Int)) (r' : Int), pb.map Prod.snd = useB s.ws.length s.ws flo (flo + (i : Int)) ∧ s.r ≤ r' ∧ r' ≤ s.r + 1 + (i : Int) ∧ Hs ((diskL Z d s).map Prod.fst) H H' ((Dn, .lst (pb.map rf)) :: (bL pb ++ ((q, .lst ((blkOf s.ws.length s.ws num).map V.int)) :: diskL Z d { s with r := r' }))) [], ⟨[], s.r + 1, ?_, by omega, by omega, hS2.new hD _⟩, ?_, ?_⟩
    · rw [useB_nil (by omega)]
      rfl
    · rintro i H3 hi ⟨pb, r', hpb, hr0, hr1, hS3⟩
      have hp2 := place_lt (n := s.ws.length) (by omega) (flo + 1 + (i : Int))
      have ok2 : ({ s with r := r' } : DS).Ok := ⟨ok.len, ok.lo, ok.hi, ok.each⟩
      have hpl : pb.length ≤ 1000 := by
        have := congrArg List.length hpb
        rw [List.length_map, useB_len] at this
        omega
      k_spoken
      refine ⟨d, { s with r := r' }, .int ((flo + 1 + (i : Int)) % s.ws.length), rfl, hS3.part (.cons _ ((List.Sublist.cons _ (List.Sublist.refl _)).trans (List.sublist_append_right _ _))), ok2, trivial, fun cc => ?_, fun j ej hj q2 H4 f => ?_⟩
      · simp only [wholeB, Bool.and_eq_false_iff, decide_eq_false_iff_not] at cc
        omega
      obtain rfl : ((flo + 1 + (i : Int)) % (s.ws.length : Int)).toNat = j := by have := V.int.inj ej; omega
      have hS4 := hS3.seg f (.there (.skip (.there .end_)))
      have f1 : H4 Dn = some (.lst (pb.map rf)) := hS4.getM (.head _)
      k_spoken
      rename_i H5 hS5 _
      refine ⟨pb ++ [(q2, blkOf s.ws.length s.ws (flo + 1 + (i : Int)))], r' + 1, ?_, by omega, by push_cast; omega, ?_⟩
      · rw [List.map_append, hpb, show flo + ((i + 1 : Nat) : Int) = flo + (i : Int) + 1 by push_cast; omega, useB_snoc (by omega), show flo + (i : Int) + 1 = flo + 1 + (i : Int) by omega]
        rfl
      · refine (hS5.perm ?_).cast (M := (Dn, .lst (pb.map rf ++ [V.ref q2])) :: (bL pb ++ ((q2, .lst ((blkOf s.ws.length s.ws (flo + 1 + (i : Int))).map V.int)) :: (q, .lst ((blkOf s.ws.length s.ws num).map V.int)) :: diskL Z d { s with r := r' + 1 }))) ?_
        · exact .cons _ (.append_left _ (.swap _ _ _))
        · unfold bL
          simp only [List.map_append, List.map_cons, List.map_nil, List.append_assoc, List.cons_append, List.nil_append]
          rfl
    · rintro H3 ⟨pb, r', hpb, hr0, hr1, hS3⟩
      have hpl : pb.length ≤ 1000 := by
        have := congrArg List.length hpb
        rw [List.length_map, useB_len] at this
        omega
      k_sweep
      rename_i H4 hS4 _
      refine k Dn (pb ++ [(q, blkOf s.ws.length s.ws num)]) r' _ ?_ (by omega) (by omega) (Frm.of (M := (Dn, .lst (pb.map rf ++ [V.ref q])) :: (bL pb ++ ((q, .lst ((blkOf s.ws.length s.ws num).map V.int)) :: diskL Z d { s with r := r' }))) hS4 ?_)
      · rw [List.map_append, hpb]
        have e3 : num = flo + (((num - (flo + 1)).toNat : Nat) : Int) + 1 := by omega
        conv => rhs; rw [e3]
        rw [useB_snoc (by omega), ← e3]
        rfl
      · unfold bL
        simp only [List.map_append, List.map_cons, List.map_nil, List.append_assoc, List.cons_append, List.nil_append]
        exact List.Sublist.refl _
theorem ok_floor_under {f : Addr} {fd : FuncData} (F : Fun K "_floor_under" "_floor_under" st_floor_under f fd) (T : Txt K mg Z)  : FnOk P w K mg base CX0 1 f fd ["rows", "number"] (sp_floor_under K Z) := by
  have cl_Log := T.cl_Log
  have na_Log__cut := T.na_Log__cut
  have na_Log__disk := T.na_Log__disk
  have na_Log__gone := T.na_Log__gone
  have na_Log__number := T.na_Log__number
  have na_Log__rows := T.na_Log__rows
  have na_Log__torn := T.na_Log__torn
  have cl_Disk := T.cl_Disk
  have na_Disk__blocks := T.na_Disk__blocks
  have na_Disk__let := T.na_Disk__let
  have na_Disk__part := T.na_Disk__part
  have na_Disk__reads := T.na_Disk__reads
  have na_Disk__writes := T.na_Disk__writes
  refine F.ok sc_floor_under (fun vs H Q E h => ?_) (fun cdv A outer s H vs Q E hr h => ?_)
  · obtain ⟨_, _, _, rfl, _⟩ := h
    rfl
  obtain ⟨a, xs, num, rfl, hH, k⟩ := h
  have hS := Hs.startI hH
  refine ⟨_, (pss_cons (ps_if (pt_not (pt_truthK (K := K) (pv 0) (by intro _; rfl))) (pss_one (ps_ret (pv 1))) pss_nil)
      (pss_cons (ps_asg (pe_ix (ix_listK (K := K)) (pv 0) pe_int (fun _ _ => rfl)) (pg_tupK (K := K) rfl (pgs_cons (pg_name (i := 2) sc_floor_under.nd rfl (Or.inl rfl)) (pgs_cons (pg_name (i := 3) sc_floor_under.nd rfl (Or.inl rfl)) pgs_nil))))
      (pss_one (ps_ret (pe_op op_sub (pv 2) pe_int))))), ?_⟩
  refine s_start (by simp only [L2.start, List.map_cons, List.map_nil, List.length_cons, List.length_nil, Nat.reduceAdd, Nat.reduceSub, List.replicate, List.cons_append, List.nil_append]; rfl) ?_
  cases xs with
  | nil =>
    have f1 : H a = some (.lst []) := hS.getI (.head _)
    k_sweep
    exact k _ (Upto.refl _ _)
  | cons x xs =>
    have f1 : H a = some (.lst (V.ref x.1.1 :: xs.map tf)) := hS.getI (.head _)
    have e0 : atI (V.ref x.1.1 :: xs.map tf) 0 = some (V.ref x.1.1) := atI_nat (j := 0) rfl
    have f2 : H x.1.1 = some (.tup [.int x.2.1, .ref x.1.2]) := hS.getI (.tail _ (.head _))
    k_sweep
    exact k _ (Upto.refl _ _)
theorem ok_Log___init__ {f : Addr} {fd : FuncData} (F : Fun K "__init__" "Log.__init__" st_Log___init__ f fd) (T : Txt K mg Z) (D_is_farewell : DefOk P w K mg base CX0 1 "is_farewell" ["words"] (sp_is_farewell K Z)) (D_newest : DefOk P w K mg base CX0 5 "newest" ["disk"] (sp_newest K Z)) (D_rows_in : DefOk P w K mg base CX0 2 "rows_in" ["blocks"] (sp_rows_in K Z)) (D_cut_in : DefOk P w K mg base CX0 2 "cut_in" ["blocks"] (sp_cut_in K Z)) (D_blocks_of_use : DefOk P w K mg base CX0 4 "_blocks_of_use" ["disk", "number"] (sp_blocks_of_use K Z)) : FnOk P w K mg base CX0 6 f fd ["self", "disk"] (sp_Log___init__ K Z) := by
  have cl_Log := T.cl_Log
  have na_Log__cut := T.na_Log__cut
  have na_Log__disk := T.na_Log__disk
  have na_Log__gone := T.na_Log__gone
  have na_Log__number := T.na_Log__number
  have na_Log__rows := T.na_Log__rows
  have na_Log__torn := T.na_Log__torn
  have cl_Disk := T.cl_Disk
  have na_Disk__blocks := T.na_Disk__blocks
  have na_Disk__let := T.na_Disk__let
  have na_Disk__part := T.na_Disk__part
  have na_Disk__reads := T.na_Disk__reads
  have na_Disk__writes := T.na_Disk__writes
  refine F.ok sc_Log___init__ (fun vs H Q E h => ?_) (fun cdv A outer s H vs Q E hr h => ?_)
  · obtain ⟨_, _, _, _, _, _, _, _, rfl, _⟩ := h
    rfl
  obtain ⟨x, dx, d, s, num, flo, torn, gs, rfl, hH, ok, vw, hbig, k⟩ := h
  have hS := Hs.startL hH
  refine ⟨_, (pss_cons (ps_asg (pe_callD D_newest hr (by rfl) pass0 (pa_cons (pv 1) pa_nil)) (pg_tupK (K := K) rfl (pgs_cons (pg_name (i := 2) sc_Log___init__.nd rfl (Or.inl rfl)) (pgs_cons (pg_name (i := 3) sc_Log___init__.nd rfl (Or.inl rfl)) pgs_nil))))
      (pss_cons (ps_set (i := 4) sc_Log___init__.nd rfl (Or.inl rfl) (pe_callD D_blocks_of_use hr (by rfl) pass0 (pa_cons (pv 1) (pa_cons (pv 2) pa_nil))))
      (pss_cons (ps_fldK (K := K) (pv 0) (pv 1) rfl)
      (pss_cons (ps_fldK (K := K) (pv 0) (pv 2) rfl)
      (pss_cons (ps_fldK (K := K) (pv 0) (pv 3) rfl)
      (pss_cons (ps_fldK (K := K) (pv 0) (pe_callD D_cut_in hr (by rfl) pass0 (pa_cons (pv 4) pa_nil)) rfl)
      (pss_cons (ps_fldK (K := K) (pv 0) (pe_and (pe_cmpR op_gt (pe_callB (call_lenK (K := K)) (by rfl) T.m_len (by decide +kernel) (pa_cons (pv 4) pa_nil)) pe_int (nomark _)) (pe_one (pe_callD D_is_farewell hr (by rfl) pass0 (pa_cons (pe_ix (ix_listK (K := K)) (pv 4) (pe_un un_neg pe_int) (fun _ _ => rfl)) pa_nil)))) rfl)
      (pss_one (ps_fldK (K := K) (pv 0) (pe_ifExp (pt_val (pe_fldK (K := K) (pv 0) rfl)) (pe_lst pa_nil) (pe_callD D_rows_in hr (by rfl) pass0 (pa_cons (pv 4) pa_nil))) rfl))))))))), ?_⟩
  refine s_start (by simp only [L2.start, List.map_cons, List.map_nil, List.length_cons, List.length_nil, Nat.reduceAdd, Nat.reduceSub, List.replicate, List.cons_append, List.nil_append]; rfl) ?_
  have h4 := ok.lo
  have h64 := ok.hi
  have f0 := vw.f0
  have f1 := vw.f1
  have f2 := vw.f2
  k_node
  refine ⟨d, s, num, torn, rfl, hS.part (.cons _ (.cons _ (List.Sublist.refl _))), ok, vw.toLaid, fun t r1 H1 hr0 hr1 f => ?_⟩
  have hS1 := hS.seg f (.there (.there .end_))
  clear f
  k_spoken
  k_node
  have ok2 : ({ s with r := r1 } : DS).Ok := ⟨ok.len, ok.lo, ok.hi, ok.each⟩
  refine ⟨d, { s with r := r1 }, num, flo, torn, gs, rfl, hS1.part (.cons _ (.cons _ (.cons _ (List.Sublist.refl _)))), ok2, vw, hbig, fun D pb r2 H2 hpb hr2 hr3 f => ?_⟩
  have hS2 := hS1.seg f (.there (.there (.there .end_)))
  clear f
  have hr2 : r1 ≤ r2 := hr2
  have hr3 : r2 ≤ r1 + (num - flo) := hr3
  have hpb : pb.map Prod.snd = useB s.ws.length s.ws flo num := hpb
  have hpl : pb.length ≤ 1000 := by
    have := congrArg List.length hpb
    rw [List.length_map, useB_len] at this
    omega
  have hp8 : ∀ y ∈ pb, y.2.length = 8 := by
    intro y hy
    have : y.2 ∈ pb.map Prod.snd := List.mem_map_of_mem hy
    rw [hpb] at this
    obtain ⟨kk, k1, k2, e⟩ := useB_mem this
    rw [e]
    exact (blkOf_num vw k1 k2).2.2
  obtain ⟨ga, hga, hgs⟩ : ∃ ga, grp Prod.snd [] pb = some ga ∧ ga.map (List.map Prod.snd) = gs := by
    have e := grp_map (fun w : List Int => w) (Prod.snd : Addr × List Int → List Int) pb []
    have g := vw.gr
    rw [← hpb] at g
    rw [List.map_nil, g] at e
    cases q : grp (Prod.snd : Addr × List Int → List Int) [] pb with
    | none =>
      have e2 : some gs = (none : Option (List (List (Addr × List Int)))).map (List.map (List.map Prod.snd)) := by rw [← q]; exact e
      cases e2
    | some ga =>
      have e2 : some gs = (some ga).map (List.map (List.map Prod.snd)) := by rw [← q]; exact e
      exact ⟨ga, rfl, (Option.some.inj e2).symm⟩
  k_spoken
  k_node
  k_node
  k_node
  k_node
  rename_i H3 hS3 _ H4 hS4 _ H5 hS5 _
  have hS5 : Hs (((x, HO.ins Z.Log dx []) :: (dx, HO.own x) :: diskL Z d s).map Prod.fst) H H5 ((x, .ins Z.Log dx [("_disk", .ref d), ("_number", .int num), ("_torn", ltV torn)]) :: (dx, .own x) :: (t, .tup [.int num, ltV torn]) :: (D, .lst (pb.map rf)) :: (bL pb ++ diskL Z d { s with r := r2 })) [] := hS5
  clear hS4 hS3 hS2 hS1
  refine ⟨D, pb, ga, rfl, hS5.part (.cons _ (.cons _ (.cons _ (.cons₂ _ (List.sublist_append_left _ _))))), hp8, hga, hpl, hS5.newO fun ca H6 hS6 _ _ => ?_⟩
  rw [hgs] at hS6
  k_spoken
  rename_i H7 hS7 _
  have hS7 : Hs (((x, HO.ins Z.Log dx []) :: (dx, HO.own x) :: diskL Z d s).map Prod.fst) H H7 ((ca, .lst ((cutIn gs).map V.int)) :: (x, .ins Z.Log dx [("_disk", .ref d), ("_number", .int num), ("_torn", ltV torn), ("_cut", .ref ca)]) :: (dx, .own x) :: (t, .tup [.int num, ltV torn]) :: (D, .lst (pb.map rf)) :: (bL pb ++ diskL Z d { s with r := r2 })) [] := hS7
  clear hS6 hS5
  have fD : H7 D = some (.lst (pb.map rf)) := hS7.getM (.tail _ (.tail _ (.tail _ (.tail _ (.head _)))))
  refine s_join (fun σ' H' => σ' = [some (.ref x), some (.ref d), some (.int num), some (ltV torn), some (.ref D)] ∧ Hs (((x, HO.ins Z.Log dx []) :: (dx, HO.own x) :: diskL Z d s).map Prod.fst) H H' ((ca, .lst ((cutIn gs).map V.int)) :: (x, .ins Z.Log dx [("_disk", .ref d), ("_number", .int num), ("_torn", ltV torn), ("_cut", .ref ca), ("_gone", .bl (goneB s.ws.length s.ws num))]) :: (dx, .own x) :: (t, .tup [.int num, ltV torn]) :: (D, .lst (pb.map rf)) :: (bL pb ++ diskL Z d { s with r := r2 })) []) ?_ ?_
  · rintro σ' H8 ⟨rfl, hS8⟩
    clear hS7 fD
    cases hgo : goneB s.ws.length s.ws num with
    | true =>
      rw [hgo] at hS8
      k_spoken
      rename_i ra H9 hS9 _ _ H10 hS10 _
      refine k ca ra [] r2 _ (by rw [if_pos hgo]; rfl) (by omega) (by omega) ?_
      rw [hgo]
      have hS11 : Hs _ H H10 ((ra, .lst []) :: (ca, .lst ((cutIn gs).map V.int)) :: (x, .ins Z.Log dx (lF ⟨dx, d, num, torn, ca, cutIn gs, true, ra, []⟩)) :: (dx, .own x) :: (t, .tup [.int num, ltV torn]) :: (D, .lst (pb.map rf)) :: (bL pb ++ diskL Z d { s with r := r2 })) [] := hS10
      refine Frm.of (hS11.perm (M' := (x, .ins Z.Log dx (lF ⟨dx, d, num, torn, ca, cutIn gs, true, ra, []⟩)) :: (dx, .own x) :: (ca, .lst ((cutIn gs).map V.int)) :: (ra, .lst []) :: (t, .tup [.int num, ltV torn]) :: (D, .lst (pb.map rf)) :: (bL pb ++ diskL Z d { s with r := r2 })) (perm_a _ _ _ _ _)) ?_
      exact .cons₂ _ (.cons₂ _ (.cons₂ _ (.cons₂ _ (.cons _ (.cons _ (List.sublist_append_right _ _))))))
    | false =>
      rw [hgo] at hS8
      k_spoken
      refine ⟨D, pb, ga, rfl, hS8.part (.cons _ (.cons _ (.cons _ (.cons _ (.cons₂ _ (List.sublist_append_left _ _)))))), hp8, hga, hpl, fun ra xs H9 hxs hc => ?_⟩
      rw [hgs] at hxs
      have hS9 := hc.frame0 hS8
      clear hc hS8
      k_spoken
      rename_i H10 hS10 _
      refine k ca ra xs r2 _ (by rw [hgo, if_neg (by decide)]; exact hxs) (by omega) (by omega) ?_
      rw [hgo]
      have hS11 : Hs _ H H10 ((ra, .lst (xs.map tf)) :: (rL xs ++ ((ca, .lst ((cutIn gs).map V.int)) :: (x, .ins Z.Log dx (lF ⟨dx, d, num, torn, ca, cutIn gs, false, ra, xs⟩)) :: (dx, .own x) :: (t, .tup [.int num, ltV torn]) :: (D, .lst (pb.map rf)) :: (bL pb ++ diskL Z d { s with r := r2 })))) [] := hS10
      refine Frm.of (hS11.perm (M' := (x, .ins Z.Log dx (lF ⟨dx, d, num, torn, ca, cutIn gs, false, ra, xs⟩)) :: (dx, .own x) :: (ca, .lst ((cutIn gs).map V.int)) :: (ra, .lst (xs.map tf)) :: (rL xs ++ ((t, .tup [.int num, ltV torn]) :: (D, .lst (pb.map rf)) :: (bL pb ++ diskL Z d { s with r := r2 })))) (perm_b _ _ _ _ _ _)) ?_
      exact .cons₂ _ (.cons₂ _ (.cons₂ _ (.cons₂ _ (.append (List.Sublist.refl _) (.cons _ (.cons _ (List.sublist_append_right _ _)))))))
  · intro U hU
    have fin : ∀ H', Hs (((x, HO.ins Z.Log dx []) :: (dx, HO.own x) :: diskL Z d s).map Prod.fst) H H' ((ca, .lst ((cutIn gs).map V.int)) :: (x, .ins Z.Log dx [("_disk", .ref d), ("_number", .int num), ("_torn", ltV torn), ("_cut", .ref ca), ("_gone", .bl (goneB s.ws.length s.ws num))]) :: (dx, .own x) :: (t, .tup [.int num, ltV torn]) :: (D, .lst (pb.map rf)) :: (bL pb ++ diskL Z d { s with r := r2 })) [] → U [some (.ref x), some (.ref d), some (.int num), some (ltV torn), some (.ref D)] H' := fun H' h => hU _ _ ⟨rfl, h⟩
    rcases List.eq_nil_or_concat pb with he | ⟨ini, z, he⟩
    · subst he
      have hn : ¬ (s.ws.length : Int) ≤ num := by
        intro c
        have := (vw.f3 c).1
        have e := congrArg List.length hpb
        rw [useB_len] at e
        simp at e
        omega
      have hg0 : goneB s.ws.length s.ws num = false := by unfold goneB; rw [decide_eq_false hn]; rfl
      rw [hg0] at fin
      k_spoken
      rename_i H9 hS9 _
      exact fin _ hS9
    · have he : pb = ini ++ [z] := by simpa using he
      have hz2 : z.2 = blkOf s.ws.length s.ws num ∧ flo < num := by
        have e := hpb
        have hlen := congrArg List.length hpb
        rw [he, List.length_map, useB_len, List.length_append, List.length_singleton] at hlen
        have hlt : flo < num := by omega
        refine ⟨?_, hlt⟩
        rw [he, List.map_append, show num = num - 1 + 1 by omega, useB_snoc (by omega)] at e
        have e2 := congrArg (fun l => l.getLast?) e
        simp at e2
        exact e2
      have hg1 : goneB s.ws.length s.ws num = (decide (z.2.getD 2 0 = 0) && decide (z.2.getD 3 0 = 1)) := by
        unfold goneB
        rw [decide_eq_true (show (s.ws.length : Int) ≤ num by have := hz2.2; omega), hz2.1]
        rfl
      have hzm : z ∈ pb := by rw [he]; simp
      have el : atI (pb.map rf) (-1) = some (V.ref z.1) := by
        rw [he, List.map_append]
        exact atI_end
      have f2 : H7 z.1 = some (.lst (z.2.map V.int)) := hS7.getM (.tail _ (.tail _ (.tail _ (.tail _ (.tail _ (List.mem_append_left _ (bL_mem hzm)))))))
      have hl0 : (0 : Int) < ((pb.map rf).length : Nat) := by rw [he]; simp
      k_spoken
      refine ⟨z.1, z.2, rfl, f2, hp8 z hzm, ?_⟩
      rw [← hg1]
      k_spoken
      rename_i H9 hS9 _
      exact fin _ hS9
theorem ok_Log_rows {f : Addr} {fd : FuncData} (F : Fun K "rows" "Log.rows" st_Log_rows f fd) (T : Txt K mg Z)  : FnOk P w K mg base CX0 1 f fd ["self"] (sp_Log_rows K Z) := by
  have cl_Log := T.cl_Log
  have na_Log__cut := T.na_Log__cut
  have na_Log__disk := T.na_Log__disk
  have na_Log__gone := T.na_Log__gone
  have na_Log__number := T.na_Log__number
  have na_Log__rows := T.na_Log__rows
  have na_Log__torn := T.na_Log__torn
  have cl_Disk := T.cl_Disk
  have na_Disk__blocks := T.na_Disk__blocks
  have na_Disk__let := T.na_Disk__let
  have na_Disk__part := T.na_Disk__part
  have na_Disk__reads := T.na_Disk__reads
  have na_Disk__writes := T.na_Disk__writes
  refine F.ok sc_Log_rows (fun vs H Q E h => ?_) (fun cdv A outer s H vs Q E hr h => ?_)
  · obtain ⟨_, _, rfl, _⟩ := h
    rfl
  obtain ⟨lg, l, rfl, hH, hz, k⟩ := h
  have hS := Hs.startI hH
  refine ⟨_, (pss_one (ps_ret (pe_lc (own := [("_", 1), ("row", 2)]) (g := (gTup K 2 (gCons (gName 1) (gCons (gName 2) gNil)))) (by rfl) sc_Log_rows.nd (pi_listK (K := K) (pe_fldK (K := K) (pv 0) rfl)) (blkOk_by (N := ["self", "_", "row"]) (sc := defScope st_Log_rows) (by decide +kernel)) (fun _ _ _ _ _ => (pg_tupK (K := K) rfl (pgs_cons (pg_name (i := 1) sc_Log_rows.nd rfl (Or.inl rfl)) (pgs_cons (pg_name (i := 2) sc_Log_rows.nd rfl (Or.inl rfl)) pgs_nil)))) (fun _ _ _ _ _ => pts_nil) (fun _ _ _ _ _ => (pe_callTy (call_listOfK (K := K)) (by rfl) T.m_list (by decide +kernel) (pa_cons (pv 2) pa_nil)))))), ?_⟩
  refine s_start (by simp only [L2.start, List.map_cons, List.map_nil, List.length_cons, List.length_nil, Nat.reduceAdd, Nat.reduceSub, List.replicate, List.cons_append, List.nil_append]; rfl) ?_
  k_spoken
  refine f_lcL2 (by decide) (xs := l.rows.map tf) fun Dn hD => ⟨fun i H' => ∃ qs : List Addr, qs.length = i ∧ Hs [] H H' ((Dn, .lst (qs.map V.ref)) :: (rowsL qs ((l.rows.map fun x => x.2.2).take i) ++ [])) (logL Z lg l), ⟨[], rfl, hS.new hD _⟩, ?_, ?_, ?_⟩
  · rintro i H' _ ⟨qs, hl, h2⟩
    exact SqL.of (h2.getI (.tail _ (.tail _ (.tail _ (.head _)))))
  · rintro i y H3 hy ⟨qs, hl, hS3⟩
    obtain ⟨x, hx, rfl⟩ : ∃ x, l.rows[i]? = some x ∧ tf x = y := by simpa using hy
    clear hy
    have hm := rL_tup (List.mem_of_getElem? hx)
    have f1 : H3 x.1.1 = some (.tup [.int x.2.1, .ref x.1.2]) := hS3.getI (.tail _ (.tail _ (.tail _ (.tail _ hm.1))))
    have f2 : H3 x.1.2 = some (.lst (x.2.2.map V.int)) := hS3.getI (.tail _ (.tail _ (.tail _ (.tail _ hm.2))))
    have hi := (List.getElem?_eq_some_iff.mp hx).1
    refine ⟨_, _, _, _, _, rfl, SqT.of f1, .there .here, .there (.there .here), ?_⟩
    have hS3 := hS3
    k_spoken
    rename_i q H4 hS4 _ _ H5 hS5 _
    refine ⟨qs ++ [q], by rw [List.length_append, hl]; rfl, ?_⟩
    have hx2 : (l.rows.map fun x => x.2.2)[i]? = some x.2.2 := by rw [List.getElem?_map, hx]; rfl
    rw [take_snoc hx2, rowsL_snoc _ _ (by rw [List.length_take, List.length_map]; omega), List.map_append]
    exact Hs.snoc hS5
  · rintro H3 ⟨qs, hl, hS3⟩
    rw [List.length_map] at hl
    rw [List.length_map, List.take_of_length_le (by rw [List.length_map]; exact Nat.le_refl _), List.append_nil] at hS3
    exact k Dn qs _ hl hS3.dropI
theorem ok_Log_room {f : Addr} {fd : FuncData} (F : Fun K "room" "Log.room" st_Log_room f fd) (T : Txt K mg Z) (D_floor_under : DefOk P w K mg base CX0 1 "_floor_under" ["rows", "number"] (sp_floor_under K Z)) (M_Disk_blocks : MethOk P w K mg base CX0 1 Z.Disk "blocks" ["self"] (sp_Disk_blocks K Z)) : FnOk P w K mg base CX0 2 f fd ["self"] (sp_Log_room K Z) := by
  obtain ⟨f_Disk_blocks, fd_Disk_blocks, G_Disk_blocks, b_Disk_blocks, m_Disk_blocks⟩ := M_Disk_blocks.ex
  have cl_Log := T.cl_Log
  have na_Log__cut := T.na_Log__cut
  have na_Log__disk := T.na_Log__disk
  have na_Log__gone := T.na_Log__gone
  have na_Log__number := T.na_Log__number
  have na_Log__rows := T.na_Log__rows
  have na_Log__torn := T.na_Log__torn
  have cl_Disk := T.cl_Disk
  have na_Disk__blocks := T.na_Disk__blocks
  have na_Disk__let := T.na_Disk__let
  have na_Disk__part := T.na_Disk__part
  have na_Disk__reads := T.na_Disk__reads
  have na_Disk__writes := T.na_Disk__writes
  refine F.ok sc_Log_room (fun vs H Q E h => ?_) (fun cdv A outer s H vs Q E hr h => ?_)
  · obtain ⟨_, _, _, rfl, _⟩ := h
    rfl
  obtain ⟨lg, l, s, rfl, hH, ok, k⟩ := h
  have hS := Hs.startI hH
  refine ⟨_, (pss_cons (ps_set (i := 1) sc_Log_room.nd rfl (Or.inl rfl) (pe_callD D_floor_under hr (by rfl) pass0 (pa_cons (pe_fldK (K := K) (pv 0) rfl) (pa_cons (pe_fldK (K := K) (pv 0) rfl) pa_nil))))
      (pss_one (ps_ret (pe_op op_sub (pe_op op_sub (pe_meth0 (pe_fldK (K := K) (pv 0) rfl) T.cl_Disk m_Disk_blocks G_Disk_blocks (hr.mono (by decide)) b_Disk_blocks .nil pass0) pe_int) (pe_op op_sub (pe_fldK (K := K) (pv 0) rfl) (pv 1)))))), ?_⟩
  refine s_start (by simp only [L2.start, List.map_cons, List.map_nil, List.length_cons, List.length_nil, Nat.reduceAdd, Nat.reduceSub, List.replicate, List.cons_append, List.nil_append]; rfl) ?_
  k_node
  refine ⟨l.ra, l.rows, l.num, rfl, hS.holds.sub ((List.Sublist.cons _ (List.Sublist.cons _ (List.Sublist.cons _ (List.Sublist.refl _)))).trans (List.sublist_append_left _ _)), fun H1 u1 => ?_⟩
  have hS1 := hS.call0 u1
  k_spoken
  refine ⟨l.d, s, rfl, hS1.holds.sub (List.sublist_append_right _ _), ok, ?_⟩
  k_spoken
  exact k _ hS1.up
theorem ok_Log_gone {f : Addr} {fd : FuncData} (F : Fun K "gone" "Log.gone" st_Log_gone f fd) (T : Txt K mg Z)  : FnOk P w K mg base CX0 1 f fd ["self"] (sp_Log_gone K Z) := by
  have cl_Log := T.cl_Log
  have na_Log__cut := T.na_Log__cut
  have na_Log__disk := T.na_Log__disk
  have na_Log__gone := T.na_Log__gone
  have na_Log__number := T.na_Log__number
  have na_Log__rows := T.na_Log__rows
  have na_Log__torn := T.na_Log__torn
  have cl_Disk := T.cl_Disk
  have na_Disk__blocks := T.na_Disk__blocks
  have na_Disk__let := T.na_Disk__let
  have na_Disk__part := T.na_Disk__part
  have na_Disk__reads := T.na_Disk__reads
  have na_Disk__writes := T.na_Disk__writes
  refine F.ok sc_Log_gone (fun vs H Q E h => ?_) (fun cdv A outer s H vs Q E hr h => ?_)
  · obtain ⟨_, _, rfl, _⟩ := h
    rfl
  obtain ⟨lg, l, rfl, hH, k⟩ := h
  have hS := Hs.startL hH
  refine ⟨_, (pss_one (ps_ret (pe_fldK (K := K) (pv 0) rfl))), ?_⟩
  refine s_start (by simp only [L2.start, List.map_cons, List.map_nil, List.length_cons, List.length_nil, Nat.reduceAdd, Nat.reduceSub, List.replicate, List.cons_append, List.nil_append]; rfl) ?_
  k_sweep
  exact k
theorem ok_Log_put {f : Addr} {fd : FuncData} (F : Fun K "put" "Log.put" st_Log_put f fd) (T : Txt K mg Z) (D_made : DefOk P w K mg base CX0 1 "made" ["number", "floor", "begin", "left", "data"] (sp_made K Z)) (D_pieces : DefOk P w K mg base CX0 1 "pieces" ["row"] (sp_pieces K Z)) (D_is_row : DefOk P w K mg base CX0 2 "_is_row" ["row"] (sp_is_row K Z)) (D_floor_under : DefOk P w K mg base CX0 1 "_floor_under" ["rows", "number"] (sp_floor_under K Z)) (M_Log_room : MethOk P w K mg base CX0 2 Z.Log "room" ["self"] (sp_Log_room K Z)) (M_Log__need_here : MethOk P w K mg base (L2.CX P w) 1 Z.Log "_need_here" ["self"] (sp_Log__need_here K Z)) (M_Log__write : MethOk P w K mg base (L2.CX P w) 4 Z.Log "_write" ["self", "words"] (sp_Log__write K Z)) (M_Log__wrote : MethOk P w K mg base CX0 1 Z.Log "_wrote" ["self", "number", "floor"] (sp_Log__wrote K Z)) : FnOk P w K mg base (L2.CX P w) 5 f fd ["self", "row"] (sp_Log_put K Z) := by
  obtain ⟨f_Log_room, fd_Log_room, G_Log_room, b_Log_room, m_Log_room⟩ := M_Log_room.ex
  obtain ⟨f_Log__need_here, fd_Log__need_here, G_Log__need_here, b_Log__need_here, m_Log__need_here⟩ := M_Log__need_here.ex
  obtain ⟨f_Log__write, fd_Log__write, G_Log__write, b_Log__write, m_Log__write⟩ := M_Log__write.ex
  obtain ⟨f_Log__wrote, fd_Log__wrote, G_Log__wrote, b_Log__wrote, m_Log__wrote⟩ := M_Log__wrote.ex
  have cl_Log := T.cl_Log
  have na_Log__cut := T.na_Log__cut
  have na_Log__disk := T.na_Log__disk
  have na_Log__gone := T.na_Log__gone
  have na_Log__number := T.na_Log__number
  have na_Log__rows := T.na_Log__rows
  have na_Log__torn := T.na_Log__torn
  have cl_Disk := T.cl_Disk
  have na_Disk__blocks := T.na_Disk__blocks
  have na_Disk__let := T.na_Disk__let
  have na_Disk__part := T.na_Disk__part
  have na_Disk__reads := T.na_Disk__reads
  have na_Disk__writes := T.na_Disk__writes
  refine F.okX sc_Log_put (fun vs H Q E h => ?_) (fun cdv A outer s H vs Q E hr h => ?_)
  · obtain ⟨_, _, _, _, _, rfl, _⟩ := h
    rfl
  obtain ⟨lg, wr, l, s, row, rfl, hH, ok, hp0, hp7, hlt0, hr11, hrb, hcut, hrows, hn0, hn1, hf0, hf1, kG, kF, kP⟩ := h
  have hS := Hs.startC hH
  refine ⟨_, (pss_cons (ps_expr (pe_meth0 (pv 0) T.cl_Log m_Log__need_here G_Log__need_here (hr.mono (by decide)) b_Log__need_here .nil (passes_call (takes_of rfl rfl rfl rfl) (fun _ _ _ _ h => h))))
      (pss_cons (ps_if (pt_not (pt_val (pe_callD D_is_row hr (by rfl) pass0 (pa_cons (pv 1) pa_nil)))) (pss_one (ps_raiseK rfl (takes_of rfl rfl rfl rfl) (pmk_own PySem.F.excBase_ValueError T.x_BadRow T.g_BadRow T.kp_BadRow (raises_own T.sb_BadRow T.ty_BadRow) rfl))) pss_nil)
      (pss_cons (ps_set (i := 2) sc_Log_put.nd rfl (Or.inl rfl) (pe_callD D_pieces hr (by rfl) pass0 (pa_cons (pv 1) pa_nil)))
      (pss_cons (ps_if (pt_cmpR op_gt (pe_callB (call_lenK (K := K)) (by rfl) T.m_len (by decide +kernel) (pa_cons (pv 2) pa_nil)) (pe_meth0 (pv 0) T.cl_Log m_Log_room G_Log_room (hr.mono (by decide)) b_Log_room .nil pass0) (nomark _)) (pss_one (ps_raiseK rfl (takes_of rfl rfl rfl rfl) (pmk_own PySem.F.excBase_ValueError T.x_Full T.g_Full T.kp_Full (raises_own T.sb_Full T.ty_Full) rfl))) pss_nil)
      (pss_cons (ps_set (i := 3) sc_Log_put.nd rfl (Or.inl rfl) (pe_op op_add (pe_fldK (K := K) (pv 0) rfl) pe_int))
      (pss_cons (ps_set (i := 4) sc_Log_put.nd rfl (Or.inl rfl) (pe_callD D_floor_under hr (by rfl) pass0 (pa_cons (pe_fldK (K := K) (pv 0) rfl) (pa_cons (pe_fldK (K := K) (pv 0) rfl) pa_nil))))
      (pss_cons (ps_set (i := 5) sc_Log_put.nd rfl (Or.inl rfl) (pe_op op_sub (pe_callB (call_lenK (K := K)) (by rfl) T.m_len (by decide +kernel) (pa_cons (pv 2) pa_nil)) pe_int))
      (pss_cons (ps_for (passes_of rfl) rfl (pi_enumK (K := K) rfl T.m_enumerate (pa_cons (pv 2) pa_nil)) (pg_tupK (K := K) rfl (pgs_cons (pg_name (i := 6) sc_Log_put.nd rfl (Or.inl rfl)) (pgs_cons (pg_name (i := 7) sc_Log_put.nd rfl (Or.inl rfl)) pgs_nil)))
      (pss_one (ps_expr (pe_meth (pv 0) T.cl_Log m_Log__write G_Log__write (hr.mono (by decide)) b_Log__write .nil (passes_call (takes_of rfl rfl rfl rfl) (fun _ _ _ _ h => h)) (pa_cons (pe_callD D_made hr (by rfl) pass0 (pa_cons (pe_op op_add (pv 3) (pv 6)) (pa_cons (pv 4) (pa_cons (pv 3) (pa_cons (pe_op op_sub (pv 5) (pv 6)) (pa_cons (pv 7) pa_nil)))))) pa_nil)))))
      (pss_cons (ps_expr (pe_bmK (K := K) PySem.F.plainAttrs_list PySem.F.slot_list_append PySem.F.type_list_append mt_append (pe_fldK (K := K) (pv 0) rfl) (pa_cons (pe_tup (pa_cons (pv 3) (pa_cons (pe_callTy (call_listOfK (K := K)) (by rfl) T.m_list (by decide +kernel) (pa_cons (pv 1) pa_nil)) pa_nil))) pa_nil)))
      (pss_cons (ps_expr (pe_meth (pv 0) T.cl_Log m_Log__wrote G_Log__wrote (hr.mono (by decide)) b_Log__wrote .nil pass0 (pa_cons (pe_op op_add (pv 3) (pv 5)) (pa_cons (pv 4) pa_nil))))
      (pss_one (ps_ret (pv 3))))))))))))), ?_⟩
  refine s_start (by simp only [L2.start, List.map_cons, List.map_nil, List.length_cons, List.length_nil, Nat.reduceAdd, Nat.reduceSub, List.replicate, List.cons_append, List.nil_append]; rfl) ?_
  have h4 := ok.lo
  have h64 := ok.hi
  generalize hfe : floorU l.rw l.num = f at *
  have hpl := pcs_len row
  k_node
  refine ⟨lg, l, rfl, hS.part (List.sublist_append_left _ _), kG, fun hg => ?_⟩
  have kF := kF hg
  have kP := kP hg
  k_spoken
  k_node
  refine s_is_row hS (b := true) (items := row.map V.int) (hS.getI (.head _)) (fun x hx => by
    obtain ⟨y, _, rfl⟩ := List.mem_map.mp hx
    trivial) (by rw [List.length_map]; omega) ?_
  intro H1 hS1 u1
  rw [rowB_of hr11 hrb, Bool.true_and]
  k_spoken
  k_node
  rename_i p qs H2 hql hS2 u2
  have hS2 : Hs _ H H2 (((p, HO.lst (qs.map V.ref)) :: rowsL qs (pcs row)) ++ (logL Z lg l ++ diskL Z l.d s)) [(wr, .lst (row.map V.int))] := hS2
  have hS3 := (hS2.perm (M' := (logL Z lg l ++ diskL Z l.d s) ++ ((p, HO.lst (qs.map V.ref)) :: rowsL qs (pcs row))) List.perm_append_comm).cast (M' := logC Z lg l (diskL Z l.d s ++ ((p, HO.lst (qs.map V.ref)) :: rowsL qs (pcs row)))) (by rw [List.append_assoc, logC_eq])
  clear hS2 hS1 hS
  have fl : H2 lg = some (.ins Z.Log l.dx (lF l)) := hS3.getM (.head _)
  have fp : H2 p = some (.lst (qs.map V.ref)) := hS3.getM ((logC_C Z lg l _).subset (List.mem_append_right _ (.head _)))
  k_node
  refine ⟨lg, l, s, rfl, hS3.part (by rw [logC_eq]; exact logC_sub Z lg l (List.sublist_append_left _ _)), ok, fun H3 u3 => ?_⟩
  have hS4 := hS3.call0 u3
  rw [hfe]
  have hlen : ((qs.map V.ref).length : Int) = (pcs row).length := by rw [List.length_map, hql]
  rw [hlen]
  clear fl fp hS3
  have fl : H3 lg = some (.ins Z.Log l.dx (lF l)) := hS4.getM (.head _)
  have fp : H3 p = some (.lst (qs.map V.ref)) := hS4.getM ((logC_C Z lg l _).subset (List.mem_append_right _ (.head _)))
  k_spoken
  apply s_iteD
  · intro c
    k_sweep
    exact kF c _ (u1.trans (u2.trans u3))
  · intro c
    obtain ⟨kS, kO⟩ := kP (by have c : ¬ ((s.ws.length : Int) - 1 - (l.num - f) < (pcs row).length) := c; omega)
    clear kF kP kG
    k_spoken
    k_node
    k_node
    refine ⟨l.ra, l.rows, l.num, rfl, hS4.part ((List.Sublist.cons _ (List.Sublist.cons _ (List.Sublist.cons _ (List.Sublist.refl _)))).trans (logC_log Z lg l _)), fun H4 u4 => ?_⟩
    have hS5 := hS4.call0 u4
    clear fl fp
    have fp : H4 p = some (.lst (qs.map V.ref)) := hS5.getM ((logC_C Z lg l _).subset (List.mem_append_right _ (.head _)))
    have hfe2 : floorU (l.rows.map Prod.snd) l.num = f := hfe
    rw [hfe2]
    k_spoken
    k_node
    rw [hlen]
    k_node
    have hbll := rowB_len row f (l.num + 1)
    refine f_enum (xs := qs.map V.ref) (fun i σ H' => ∃ (bs : List Addr) (x6 x7 : Option V), σ = [some (.ref lg), some (.ref wr), some (.ref p), some (.int (l.num + 1)), some (.int f), some (.int (((pcs row).length : Int) - 1)), x6, x7] ∧ bs.length = s.bs.length ∧ (∀ t, s.lt = some t → (i : Int) ≤ t) ∧ Hs ((logL Z lg l ++ diskL Z l.d s).map Prod.fst) H H' (logC Z lg l (diskL Z l.d (dPut s bs l.num ((rowB row f (l.num + 1)).take i)) ++ ((p, HO.lst (qs.map V.ref)) :: rowsL qs (pcs row)))) [(wr, .lst (row.map V.int))]) ⟨s.bs, _, _, rfl, rfl, fun t ht => by have := hlt0 t ht; omega, ?_⟩ ?_ ?_ ?_
    · rw [List.take_zero, dPut_nil]
      exact hS5
    · rintro i σ H' _ ⟨bs, x6, x7, _, _, _, hS6⟩
      exact SqL.of (hS6.getM ((logC_C Z lg l _).subset (List.mem_append_right _ (.head _))))
    · rintro i y T σ H5 hy ⟨bs, x6, x7, rfl, hbs, hti, hS6⟩ hT
      clear hS5 hS4 fp
      obtain ⟨q, hq, rfl⟩ : ∃ q, qs[i]? = some q ∧ V.ref q = y := by simpa using hy
      clear hy
      have hi : i < (pcs row).length := by rw [← hql]; exact (List.getElem?_eq_some_iff.mp hq).1
      have hpc := List.getElem?_eq_getElem hi
      obtain ⟨c1, c2, c3, hc3⟩ := pcs_three (List.getElem_mem hi)
      have hbi := rowB_get (f := f) (b := l.num + 1) hpc
      have hbo := rowB_ok hbi hrb hr11 ⟨hf0, by omega⟩ ⟨by omega, by omega⟩
      have htl : ((rowB row f (l.num + 1)).take i).length = i := by rw [List.length_take, hbll]; omega
      have hS7 := hS6.new hT (.tup [.int (i : Nat), .ref q])
      have fT : (upd H5 T (.tup [.int (i : Nat), .ref q])) T = some (.tup [.int (i : Nat), .ref q]) := hS7.getM (.head _)
      have fq : (upd H5 T (.tup [.int (i : Nat), .ref q])) q = some (.lst (((pcs row)[i]).map V.int)) := hS7.getM (.tail _ ((logC_C Z lg l _).subset (List.mem_append_right _ (.tail _ (rowsL_get hq hpc)))))
      have h3 : ((pcs row)[i]).length ≤ 1000 := by rw [hc3]; simp
      have fl : (upd H5 T (.tup [.int (i : Nat), .ref q])) lg = some (.ins Z.Log l.dx (lF l)) := hS7.getM (.tail _ (.head _))
      generalize upd H5 T (.tup [.int (i : Nat), .ref q]) = H6 at *
      k_spoken
      rename_i wa H7 hS8 u8 hwa
      refine ⟨lg, wa, l, dPut s bs l.num ((rowB row f (l.num + 1)).take i), _, rfl, hS8.part (.cons₂ _ (.cons _ (.cons₂ _ (.cons _ (.cons _ (.cons _ ((List.sublist_append_left _ _).trans (List.sublist_append_right _ _)))))))), dPut_ok ok hbs (fun b hb => ?_), hbo.1, hbo.2.1, hp0, hp7, fun hlt bs2 H8 hb2 f2 => ?_, fun hlt bs2 H8 hb2 f2 => ?_⟩
      · obtain ⟨j, hj⟩ := List.getElem?_of_mem (List.mem_of_mem_take hb)
        exact (rowB_blk hj).1.len
      · have h0 := hbo.2.2
        rw [dCut_next (by rw [h0, htl]; omega) hlt] at f2
        have hS9 := hS8.seg f2 (.there (.there (.there (.there (.there (.there (.skip .here)))))))
        have hlt2 := dPut_lt.mp hlt
        rw [htl] at hlt2
        exact kS i _ bs2 _ hlt2 hbi (hb2.trans hbs) (Frm.of hS9 (.cons _ (.cons _ (.cons _ (.cons _ (.cons _ (.cons _ ((List.sublist_append_left _ _).trans (List.sublist_append_right _ _)))))))))
      · have h0 := hbo.2.2
        rw [dPut_next (by rw [h0, htl]; omega), ← take_snoc hbi] at f2
        have hS9 := hS8.seg f2 (.there (.there (.there (.there (.there (.there (.skip .here)))))))
        k_spoken
        refine ⟨bs2, _, _, rfl, hb2.trans hbs, fun t ht => ?_, (hS9.tl).tl⟩
        have h1 := hti t ht
        have h2 : t ≠ (i : Int) := fun e => hlt (dPut_lt.mpr (by rw [htl, ht, e]))
        push_cast
        omega
    · rintro σ H5 ⟨bs, x6, x7, rfl, hbs, hti, hS6⟩
      clear hS5 hS4 fp
      rw [List.length_map, hql, List.take_of_length_le (by rw [hbll]; exact Nat.le_refl _)] at hS6
      have hti : ∀ t, s.lt = some t → ((pcs row).length : Int) ≤ t := fun t ht => by
        have := hti t ht
        rw [List.length_map, hql] at this
        exact this
      have hS7 : Hs ((logL Z lg l ++ diskL Z l.d s).map Prod.fst) H H5 ((lg, .ins Z.Log l.dx (lF l)) :: (l.dx, .own lg) :: (l.ca, .lst (l.cut.map V.int)) :: (l.ra, .lst (l.rows.map tf)) :: (rL l.rows ++ (diskL Z l.d (dPut s bs l.num (rowB row f (l.num + 1))) ++ ((p, HO.lst (qs.map V.ref)) :: rowsL qs (pcs row))))) [(wr, .lst (row.map V.int))] := hS6
      clear hS6
      have fr : H5 wr = some (.lst (row.map V.int)) := hS7.getI (.head _)
      k_node
      rename_i wl H6 hS8 _ _ T H7 hS9 _ _ H8 hS10 _
      have hS11 := hS10.perm (logC_add Z lg l T wl (l.num + 1) row _)
      clear hS10 hS9 hS8 hS7
      have fl : H8 lg = some (.ins Z.Log l.dx (lF l)) := hS11.getM (.head _)
      k_node
      refine ⟨lg, { l with rows := l.rows ++ [((T, wl), (l.num + 1, row))] }, l.num + 1 + (((pcs row).length : Int) - 1), f, rfl, hS11.part (logC_log Z lg _ _), hcut, fun ca H9 f9 => ?_⟩
      have hS12 := hS11.seg f9 (.here (L := logL Z lg { l with rows := l.rows ++ [((T, wl), (l.num + 1, row))] }))
      k_sweep
      have en : l.num + 1 + (((pcs row).length : Int) - 1) = l.num + ((pcs row).length : Nat) := by omega
      rw [en] at hS12
      exact kO hti bs ca T wl _ hbs (Frm.of hS12 (List.Sublist.append (List.Sublist.refl _) (List.sublist_append_left _ _)))
theorem ok_Log_take {f : Addr} {fd : FuncData} (F : Fun K "take" "Log.take" st_Log_take f fd) (T : Txt K mg Z) (D_made_mark : DefOk P w K mg base CX0 2 "made_mark" ["number", "floor"] (sp_made_mark K Z)) (D_floor_under : DefOk P w K mg base CX0 1 "_floor_under" ["rows", "number"] (sp_floor_under K Z)) (M_Log__need_here : MethOk P w K mg base (L2.CX P w) 1 Z.Log "_need_here" ["self"] (sp_Log__need_here K Z)) (M_Log__write : MethOk P w K mg base (L2.CX P w) 4 Z.Log "_write" ["self", "words"] (sp_Log__write K Z)) (M_Log__wrote : MethOk P w K mg base CX0 1 Z.Log "_wrote" ["self", "number", "floor"] (sp_Log__wrote K Z)) : FnOk P w K mg base (L2.CX P w) 5 f fd ["self"] (sp_Log_take K Z) := by
  obtain ⟨f_Log__need_here, fd_Log__need_here, G_Log__need_here, b_Log__need_here, m_Log__need_here⟩ := M_Log__need_here.ex
  obtain ⟨f_Log__write, fd_Log__write, G_Log__write, b_Log__write, m_Log__write⟩ := M_Log__write.ex
  obtain ⟨f_Log__wrote, fd_Log__wrote, G_Log__wrote, b_Log__wrote, m_Log__wrote⟩ := M_Log__wrote.ex
  have cl_Log := T.cl_Log
  have na_Log__cut := T.na_Log__cut
  have na_Log__disk := T.na_Log__disk
  have na_Log__gone := T.na_Log__gone
  have na_Log__number := T.na_Log__number
  have na_Log__rows := T.na_Log__rows
  have na_Log__torn := T.na_Log__torn
  have cl_Disk := T.cl_Disk
  have na_Disk__blocks := T.na_Disk__blocks
  have na_Disk__let := T.na_Disk__let
  have na_Disk__part := T.na_Disk__part
  have na_Disk__reads := T.na_Disk__reads
  have na_Disk__writes := T.na_Disk__writes
  refine F.okX sc_Log_take (fun vs H Q E h => ?_) (fun cdv A outer s H vs Q E hr h => ?_)
  · obtain ⟨_, _, _, rfl, _⟩ := h
    rfl
  obtain ⟨lg, l, s, rfl, hH, ok, hp0, hp7, hcut, hrows, hn0, hn1, hf0, hf1, kG, kE, kP⟩ := h
  have hS := Hs.startL hH
  refine ⟨_, (pss_cons (ps_expr (pe_meth0 (pv 0) T.cl_Log m_Log__need_here G_Log__need_here (hr.mono (by decide)) b_Log__need_here .nil (passes_call (takes_of rfl rfl rfl rfl) (fun _ _ _ _ h => h))))
      (pss_cons (ps_if (pt_not (pt_truthK (K := K) (pe_fldK (K := K) (pv 0) rfl) (by intro _; rfl))) (pss_one (ps_raiseK rfl (takes_of rfl rfl rfl rfl) (pmk_own PySem.F.excBase_ValueError T.x_Empty T.g_Empty T.kp_Empty (raises_own T.sb_Empty T.ty_Empty) rfl))) pss_nil)
      (pss_cons (ps_asg (pe_ix (ix_listK (K := K)) (pe_fldK (K := K) (pv 0) rfl) pe_int (fun _ _ => rfl)) (pg_tupK (K := K) rfl (pgs_cons (pg_name (i := 1) sc_Log_take.nd rfl (Or.inl rfl)) (pgs_cons (pg_name (i := 2) sc_Log_take.nd rfl (Or.inl rfl)) pgs_nil))))
      (pss_cons (ps_set (i := 3) sc_Log_take.nd rfl (Or.inl rfl) (pe_slice (sl_listK (K := K)) (pe_fldK (K := K) (pv 0) rfl) (po_some pe_int) po_none))
      (pss_cons (ps_set (i := 4) sc_Log_take.nd rfl (Or.inl rfl) (pe_callD D_floor_under hr (by rfl) pass0 (pa_cons (pv 3) (pa_cons (pe_fldK (K := K) (pv 0) rfl) pa_nil))))
      (pss_cons (ps_set (i := 5) sc_Log_take.nd rfl (Or.inl rfl) (pe_op op_add (pe_fldK (K := K) (pv 0) rfl) pe_int))
      (pss_cons (ps_expr (pe_meth (pv 0) T.cl_Log m_Log__write G_Log__write (hr.mono (by decide)) b_Log__write .nil (passes_call (takes_of rfl rfl rfl rfl) (fun _ _ _ _ h => h)) (pa_cons (pe_callD D_made_mark hr (by rfl) pass0 (pa_cons (pv 5) (pa_cons (pv 4) pa_nil))) pa_nil)))
      (pss_cons (ps_fldK (K := K) (pv 0) (pv 3) rfl)
      (pss_cons (ps_expr (pe_meth (pv 0) T.cl_Log m_Log__wrote G_Log__wrote (hr.mono (by decide)) b_Log__wrote .nil pass0 (pa_cons (pv 5) (pa_cons (pv 4) pa_nil))))
      (pss_one (ps_ret (pv 2)))))))))))), ?_⟩
  refine s_start (by simp only [L2.start, List.map_cons, List.map_nil, List.length_cons, List.length_nil, Nat.reduceAdd, Nat.reduceSub, List.replicate, List.cons_append, List.nil_append]; rfl) ?_
  have h4 := ok.lo
  have h64 := ok.hi
  k_node
  refine ⟨lg, l, rfl, hS.part (List.sublist_append_left _ _), kG, fun hg => ?_⟩
  have kE := kE hg
  have kP := kP hg
  k_spoken
  cases hr : l.rows with
  | nil =>
    have f1 : H lg = some (.ins Z.Log l.dx (lF l)) := hS.getM (.head _)
    have f2 : H l.ra = some (.lst []) := by
      have := hS.getM (a := l.ra) (o := .lst (l.rows.map tf)) (.tail _ (.tail _ (.tail _ (.head _))))
      rw [hr] at this
      exact this
    k_sweep
    exact kE hr
  | cons x xs =>
    have kP := kP x xs hr
    have hrw : l.rw.tail = xs.map Prod.snd := by unfold LS.rw; rw [hr]; rfl
    generalize hfe : floorU l.rw.tail l.num = f at *
    have hS : Hs ((logL Z lg l ++ diskL Z l.d s).map Prod.fst) H H (logC Z lg l (diskL Z l.d s)) [] := hS
    have hC : logC Z lg l (diskL Z l.d s) = (lg, .ins Z.Log l.dx (lF l)) :: (l.dx, .own lg) :: (l.ca, .lst (l.cut.map V.int)) :: (l.ra, .lst (V.ref x.1.1 :: xs.map tf)) :: (x.1.1, .tup [.int x.2.1, .ref x.1.2]) :: (x.1.2, .lst (x.2.2.map V.int)) :: (rL xs ++ diskL Z l.d s) := by
      unfold logC
      rw [hr]
      rfl
    rw [hC] at hS
    have e0 : atI (V.ref x.1.1 :: xs.map tf) 0 = some (V.ref x.1.1) := atI_nat (j := 0) rfl
    k_node
    k_node
    k_node
    rename_i la H1 hS1 _ _
    have ec : cutV (V.ref x.1.1 :: xs.map tf) (some 1) none = xs.map tf := by
      unfold cutV
      have e1 : HT.sIx (V.ref x.1.1 :: xs.map tf).length 0 (some 1) = 1 := by
        rw [show (1 : Int) = ((1 : Nat) : Int) from rfl, HT.sIx_nat]
        simp
      rw [e1, HT.sIx_none]
      simp only [List.length_cons, List.length_map, Nat.add_sub_cancel, List.drop_succ_cons, List.drop_zero]
      exact List.take_of_length_le (by rw [List.length_map]; exact Nat.le_refl _)
    rw [ec] at hS1
    clear e0
    k_node
    refine ⟨la, xs, l.num, rfl, hS1.part (.cons₂ _ (.cons _ (.cons _ (.cons _ (.cons _ (.cons _ (.cons _ (List.sublist_append_left _ _)))))))), fun H2 u2 => ?_⟩
    have hS2 := hS1.call0 u2
    rw [← hrw, hfe]
    clear hS1 hS
    k_spoken
    k_node
    k_node
    rename_i wa H5 hS5 _ _
    clear hS2
    have hmb : ∀ y ∈ markB (l.num + 1) f, 0 ≤ y ∧ y ≤ 1000000000000000 := by
      intro y hy
      simp only [markB, List.mem_cons, List.not_mem_nil, or_false] at hy
      omega
    have h0 : (markB (l.num + 1) f).getD 0 0 = l.num + (([] : List (List Int)).length : Nat) + 1 := by
      show l.num + 1 = l.num + ((0 : Nat) : Int) + 1
      omega
    refine ⟨lg, wa, l, s, markB (l.num + 1) f, rfl, hS5.part (.cons₂ _ (.cons _ (.cons₂ _ (.cons _ (.cons _ (.cons _ (.cons _ (.cons _ (List.sublist_append_right _ _))))))))), ok, rfl, blockB_of rfl hmb, hp0, hp7, fun hlt bs H6 hb f6 => ?_, fun hlt bs H6 hb f6 => ?_⟩
    · have e := dCut_next (s := s) (bs := s.bs) (bs' := bs) (num := l.num) (bl := []) (b := markB (l.num + 1) f) h0 (by rw [dPut_nil]; exact hlt)
      rw [dPut_nil] at e
      rw [e] at f6
      have hS6 := hS5.seg f6 (.there (.there (.there (.there (.there (.there (.there (.there (.skip .end_)))))))))
      exact kP.1 hlt bs _ hb (Frm.of hS6 (.cons _ (.cons _ (.cons _ (.cons _ (.cons _ (.cons _ (.cons _ (.cons _ (List.sublist_append_right _ _))))))))))
    · have e := dPut_next (s := s) (bs := s.bs) (bs' := bs) (num := l.num) (bl := []) (b := markB (l.num + 1) f) h0
      rw [dPut_nil, List.nil_append] at e
      rw [e] at f6
      have hS6 := hS5.seg f6 (.there (.there (.there (.there (.there (.there (.there (.there (.skip .end_)))))))))
      clear hS5 f6
      k_node
      rename_i H7 hS7 _
      have hS8 := hS7.sub (M' := (la, .lst (xs.map tf)) :: ([(lg, .ins Z.Log l.dx (lF { l with ra := la, rows := xs })), (l.dx, .own lg), (l.ca, .lst (l.cut.map V.int))] ++ (x.1.2, .lst (x.2.2.map V.int)) :: (rL xs ++ diskL Z l.d (dPut s bs l.num [markB (l.num + 1) f])))) (.cons _ (.cons₂ _ (.cons₂ _ (.cons₂ _ (.cons₂ _ (.cons _ (.cons _ (List.Sublist.refl _))))))))
      have hS9 : Hs _ H H7 ((x.1.2, .lst (x.2.2.map V.int)) :: (logL Z lg { l with ra := la, rows := xs } ++ diskL Z l.d (dPut s bs l.num [markB (l.num + 1) f]))) [] := hS8.perm (swapEnds (x.1.2, HO.lst (x.2.2.map V.int)) (la, HO.lst (xs.map tf)) [(lg, HO.ins Z.Log l.dx (lF { l with ra := la, rows := xs })), (l.dx, HO.own lg), (l.ca, HO.lst (l.cut.map V.int))] (rL xs ++ diskL Z l.d (dPut s bs l.num [markB (l.num + 1) f])))
      clear hS8 hS7 hS6
      have fl : H7 lg = some (.ins Z.Log l.dx (lF { l with ra := la, rows := xs })) := hS9.getM (.tail _ (.head _))
      k_node
      refine ⟨lg, { l with ra := la, rows := xs }, l.num + 1, f, rfl, hS9.part (.cons _ (List.sublist_append_left _ _)), hcut, fun ca H8 f8 => ?_⟩
      have hS10 := hS9.seg f8 (.there .here)
      k_sweep
      exact kP.2 hlt bs ca la _ hb (Frm.of hS10 (List.Sublist.refl _))
theorem ok_Log__need_here {f : Addr} {fd : FuncData} (F : Fun K "_need_here" "Log._need_here" st_Log__need_here f fd) (T : Txt K mg Z)  : FnOk P w K mg base (L2.CX P w) 1 f fd ["self"] (sp_Log__need_here K Z) := by
  have cl_Log := T.cl_Log
  have na_Log__cut := T.na_Log__cut
  have na_Log__disk := T.na_Log__disk
  have na_Log__gone := T.na_Log__gone
  have na_Log__number := T.na_Log__number
  have na_Log__rows := T.na_Log__rows
  have na_Log__torn := T.na_Log__torn
  have cl_Disk := T.cl_Disk
  have na_Disk__blocks := T.na_Disk__blocks
  have na_Disk__let := T.na_Disk__let
  have na_Disk__part := T.na_Disk__part
  have na_Disk__reads := T.na_Disk__reads
  have na_Disk__writes := T.na_Disk__writes
  refine F.okX sc_Log__need_here (fun vs H Q E h => ?_) (fun cdv A outer s H vs Q E hr h => ?_)
  · obtain ⟨_, _, rfl, _⟩ := h
    rfl
  obtain ⟨lg, l, rfl, hH, kE, k⟩ := h
  have hS := Hs.startL hH
  refine ⟨_, (pss_one (ps_if (pt_val (pe_fldK (K := K) (pv 0) rfl)) (pss_one (ps_raiseK rfl (takes_of rfl rfl rfl rfl) (pmk_own PySem.F.excBase_ValueError T.x_Gone T.g_Gone T.kp_Gone (raises_own T.sb_Gone T.ty_Gone) rfl))) pss_nil)), ?_⟩
  refine s_start (by simp only [L2.start, List.map_cons, List.map_nil, List.length_cons, List.length_nil, Nat.reduceAdd, Nat.reduceSub, List.replicate, List.cons_append, List.nil_append]; rfl) ?_
  cases hg : l.gone with
  | true =>
    k_sweep
    rw [hg]
    k_sweep
    exact kE hg
  | false =>
    k_sweep
    rw [hg]
    k_sweep
    exact k hg
theorem ok_Log__write {f : Addr} {fd : FuncData} (F : Fun K "_write" "Log._write" st_Log__write f fd) (T : Txt K mg Z) (M_Disk_blocks : MethOk P w K mg base CX0 1 Z.Disk "blocks" ["self"] (sp_Disk_blocks K Z)) (M_Disk_write : MethOk P w K mg base (L2.CX P w) 3 Z.Disk "write" ["self", "place", "words"] (sp_Disk_write K Z)) : FnOk P w K mg base (L2.CX P w) 4 f fd ["self", "words"] (sp_Log__write K Z) := by
  obtain ⟨f_Disk_blocks, fd_Disk_blocks, G_Disk_blocks, b_Disk_blocks, m_Disk_blocks⟩ := M_Disk_blocks.ex
  obtain ⟨f_Disk_write, fd_Disk_write, G_Disk_write, b_Disk_write, m_Disk_write⟩ := M_Disk_write.ex
  have cl_Log := T.cl_Log
  have na_Log__cut := T.na_Log__cut
  have na_Log__disk := T.na_Log__disk
  have na_Log__gone := T.na_Log__gone
  have na_Log__number := T.na_Log__number
  have na_Log__rows := T.na_Log__rows
  have na_Log__torn := T.na_Log__torn
  have cl_Disk := T.cl_Disk
  have na_Disk__blocks := T.na_Disk__blocks
  have na_Disk__let := T.na_Disk__let
  have na_Disk__part := T.na_Disk__part
  have na_Disk__reads := T.na_Disk__reads
  have na_Disk__writes := T.na_Disk__writes
  refine F.okX sc_Log__write (fun vs H Q E h => ?_) (fun cdv A outer s H vs Q E hr h => ?_)
  · obtain ⟨_, _, _, _, _, rfl, _⟩ := h
    rfl
  obtain ⟨lg, wa, l, s, b, rfl, hH, ok, h8, hbl, hp0, hp7, kS, kG⟩ := h
  have hS : Hs ((diskL Z l.d s).map Prod.fst) H H (diskL Z l.d s) [(wa, .lst (b.map V.int)), (lg, .ins Z.Log l.dx (lF l))] :=
    Hs.startM (M := diskL Z l.d s) (I := [(wa, .lst (b.map V.int)), (lg, .ins Z.Log l.dx (lF l))]) ⟨by
      have p1 : (diskL Z l.d s ++ [(wa, HO.lst (b.map V.int)), (lg, HO.ins Z.Log l.dx (lF l))]).Perm ((wa, .lst (b.map V.int)) :: (lg, .ins Z.Log l.dx (lF l)) :: diskL Z l.d s) := List.perm_append_comm
      exact ((p1.map Prod.fst).nodup_iff).mpr hH.nd, fun x hx => by
      have p1 : (diskL Z l.d s ++ [(wa, HO.lst (b.map V.int)), (lg, HO.ins Z.Log l.dx (lF l))]).Perm ((wa, .lst (b.map V.int)) :: (lg, .ins Z.Log l.dx (lF l)) :: diskL Z l.d s) := List.perm_append_comm
      exact hH.at_ x (p1.mem_iff.mp hx)⟩
  refine ⟨_, (pss_one (ps_expr (pe_meth (pe_fldK (K := K) (pv 0) rfl) T.cl_Disk m_Disk_write G_Disk_write (hr.mono (by decide)) b_Disk_write .nil (passes_call (takes_of rfl rfl rfl rfl) (fun _ _ _ _ h => h)) (pa_cons (pe_op op_mod (pe_ix (ix_listK (K := K)) (pv 1) (pe_globC T.c_NUMBER rfl) (fun _ _ => rfl)) (pe_meth0 (pe_fldK (K := K) (pv 0) rfl) T.cl_Disk m_Disk_blocks G_Disk_blocks (hr.mono (by decide)) b_Disk_blocks .nil pass0)) (pa_cons (pv 1) pa_nil))))), ?_⟩
  refine s_start (by simp only [L2.start, List.map_cons, List.map_nil, List.length_cons, List.length_nil, Nat.reduceAdd, Nat.reduceSub, List.replicate, List.cons_append, List.nil_append]; rfl) ?_
  have h4 := ok.lo
  have f1 : H wa = some (.lst (b.map V.int)) := hS.getI (.head _)
  have f2 : H lg = some (.ins Z.Log l.dx (lF l)) := hS.getI (.tail _ (.head _))
  have e0 : atI (b.map V.int) 0 = some (V.int (b.getD 0 0)) := at8 h8 (i := 0) (by decide)
  have hpl := place_lt (n := s.ws.length) (by omega) (b.getD 0 0)
  k_spoken
  refine ⟨l.d, s, rfl, hS.part (List.Sublist.refl _), ok, ?_⟩
  k_spoken
  refine ⟨l.d, wa, s, .int (b.getD 0 0 % s.ws.length), true, _, rfl, hH.sub (.cons₂ _ (.cons _ (List.Sublist.refl _))), ok, trivial, fun x hx => ?_, by rw [List.length_map]; omega, hp0, hp7, fun c => ?_, fun _ c => ?_, fun i w ei hi _ ew hw8 _ => ⟨fun hlt bs H8 hbs f => ?_, fun hlt bs H8 hbs f => ?_⟩⟩
  · obtain ⟨y, _, rfl⟩ := List.mem_map.mp hx
    trivial
  · simp only [wholeB, Bool.and_eq_false_iff, decide_eq_false_iff_not] at c
    omega
  · rw [hbl] at c
    cases c
  · obtain rfl : w = b := ((List.map_inj_right (fun _ _ h => by cases h; rfl)).mp ew).symm
    have hi2 : (w.getD 0 0 % (s.ws.length : Int)).toNat = i := by have := V.int.inj ei; omega
    refine kS hlt bs _ hbs ?_
    rw [hi2]
    exact f
  · obtain rfl : w = b := ((List.map_inj_right (fun _ _ h => by cases h; rfl)).mp ew).symm
    have hi2 : (w.getD 0 0 % (s.ws.length : Int)).toNat = i := by have := V.int.inj ei; omega
    k_sweep
    refine kG hlt bs _ hbs ?_
    rw [hi2]
    exact f
theorem ok_Log__wrote {f : Addr} {fd : FuncData} (F : Fun K "_wrote" "Log._wrote" st_Log__wrote f fd) (T : Txt K mg Z)  : FnOk P w K mg base CX0 1 f fd ["self", "number", "floor"] (sp_Log__wrote K Z) := by
  have cl_Log := T.cl_Log
  have na_Log__cut := T.na_Log__cut
  have na_Log__disk := T.na_Log__disk
  have na_Log__gone := T.na_Log__gone
  have na_Log__number := T.na_Log__number
  have na_Log__rows := T.na_Log__rows
  have na_Log__torn := T.na_Log__torn
  have cl_Disk := T.cl_Disk
  have na_Disk__blocks := T.na_Disk__blocks
  have na_Disk__let := T.na_Disk__let
  have na_Disk__part := T.na_Disk__part
  have na_Disk__reads := T.na_Disk__reads
  have na_Disk__writes := T.na_Disk__writes
  refine F.ok sc_Log__wrote (fun vs H Q E h => ?_) (fun cdv A outer s H vs Q E hr h => ?_)
  · obtain ⟨_, _, _, _, rfl, _⟩ := h
    rfl
  obtain ⟨lg, l, n, f, rfl, hH, hz, k⟩ := h
  have hS := Hs.startL hH
  refine ⟨_, (pss_cons (ps_fldK (K := K) (pv 0) (pv 1) rfl)
      (pss_cons (ps_fldK (K := K) (pv 0) pe_non rfl)
      (pss_one (ps_fldK (K := K) (pv 0) (pe_lc (own := [("begin", 3)]) (g := gName 3) (by rfl) sc_Log__wrote.nd (pi_listK (K := K) (pe_fldK (K := K) (pv 0) rfl)) (blkOk_by (N := ["self", "number", "floor", "begin"]) (sc := defScope st_Log__wrote) (by decide +kernel)) (fun _ _ _ _ _ => pg_name (i := 3) sc_Log__wrote.nd rfl (Or.inl rfl)) (fun _ _ _ _ _ => (pts_one (pt_cmpR op_gt (pv 3) (pv 2) (nomark _)))) (fun _ _ _ _ _ => (pv 3))) rfl)))), ?_⟩
  refine s_start (by simp only [L2.start, List.map_cons, List.map_nil, List.length_cons, List.length_nil, Nat.reduceAdd, Nat.reduceSub, List.replicate, List.cons_append, List.nil_append]; rfl) ?_
  k_node
  k_node
  k_spoken
  rename_i H1 hS1 _ H2 hS2 _
  refine f_lcL (xs := l.cut.map V.int) fun Dn hD => ⟨fun i H' => ∃ ys : List Int, ys = (l.cut.take i).filter (fun b => decide (f < b)) ∧ Hs ((logL Z lg l).map Prod.fst) H H' ((Dn, .lst (ys.map V.int)) :: (lg, .ins Z.Log l.dx (lF { l with num := n, torn := none })) :: (l.dx, .own lg) :: (l.ca, .lst (l.cut.map V.int)) :: (l.ra, .lst (l.rows.map tf)) :: rL l.rows) [], ⟨[], rfl, hS2.new hD _⟩, ?_, ?_, ?_⟩
  · rintro i H' _ ⟨ys, _, h2⟩
    exact SqL.of (h2.getM (.tail _ (.tail _ (.tail _ (.head _)))))
  · rintro i y H3 hy ⟨ys, hys, hS3⟩
    obtain ⟨b, hb, rfl⟩ : ∃ b, l.cut[i]? = some b ∧ V.int b = y := by simpa using hy
    clear hy
    have hyl : ys.length ≤ 1000 := by
      rw [hys]
      refine Nat.le_trans (List.length_filter_le _ _) ?_
      rw [List.length_take]
      omega
    k_spoken
    apply s_iteD
    · intro c
      k_spoken
      rename_i H4 hS4 _
      refine ⟨ys ++ [b], ?_, hS4.cast (by rw [List.map_append]; rfl)⟩
      rw [take_snoc hb, List.filter_append, ← hys]
      congr 1
      have c : f < b := c
      simp [c]
    · intro c
      refine ⟨ys, ?_, hS3⟩
      rw [take_snoc hb, List.filter_append, ← hys]
      have c : ¬ f < b := c
      simp [c]
  · rintro H3 ⟨ys, hys, hS3⟩
    rw [List.length_map, List.take_length] at hys
    k_spoken
    rename_i H4 hS4 _
    refine k Dn _ ?_
    rw [← hys]
    refine Frm.of (hS4.perm (M' := (lg, .ins Z.Log l.dx (lF { l with num := n, torn := none, ca := Dn, cut := ys })) :: (l.dx, .own lg) :: (Dn, .lst (ys.map V.int)) :: (l.ca, .lst (l.cut.map V.int)) :: (l.ra, .lst (l.rows.map tf)) :: rL l.rows) ?_) ?_
    · exact (List.Perm.cons _ (List.Perm.swap _ _ _)).trans (List.Perm.swap _ _ _)
    · exact .cons₂ _ (.cons₂ _ (.cons₂ _ (.cons _ (List.Sublist.refl _))))
theorem ok_is_block {f : Addr} {fd : FuncData} (F : Fun K "_is_block" "_is_block" st_is_block f fd) (T : Txt K mg Z) (D_is_whole : DefOk P w K mg base CX0 1 "is_whole" ["value", "low", "high"] (sp_is_whole K Z)) : FnOk P w K mg base CX0 2 f fd ["words"] (sp_is_block K Z) := by
  have cl_Log := T.cl_Log
  have na_Log__cut := T.na_Log__cut
  have na_Log__disk := T.na_Log__disk
  have na_Log__gone := T.na_Log__gone
  have na_Log__number := T.na_Log__number
  have na_Log__rows := T.na_Log__rows
  have na_Log__torn := T.na_Log__torn
  have cl_Disk := T.cl_Disk
  have na_Disk__blocks := T.na_Disk__blocks
  have na_Disk__let := T.na_Disk__let
  have na_Disk__part := T.na_Disk__part
  have na_Disk__reads := T.na_Disk__reads
  have na_Disk__writes := T.na_Disk__writes
  refine F.ok sc_is_block (fun vs H Q E h => ?_) (fun cdv A outer s H vs Q E hr h => ?_)
  · obtain ⟨_, _, _, rfl, _⟩ := h
    rfl
  obtain ⟨a, b, items, rfl, ha, hf, hz, k⟩ := h
  have hS := Hs.startI (Holds.one ha)
  refine ⟨_, (pss_cons (ps_if (PW.pt (pw_or (pt_not (pt_val (pe_callB (call_isiK' (K := K)) (by rfl) T.m_isinstance (by decide +kernel) (pa_cons (pv 0) (pa_cons (pe_bltn (v := .ty "list") (by rfl) T.m_list (by decide +kernel) rfl) pa_nil))))) (pw_or1 (pt_cmpR op_ne (pe_callB (call_lenK (K := K)) (by rfl) T.m_len (by decide +kernel) (pa_cons (pv 0) pa_nil)) (pe_globC T.c_BLOCK_WORDS rfl) (nomark _))))) (pss_one (ps_ret pe_bl)) pss_nil)
      (pss_one (ps_ret (pe_callB (cr_allK (K := K) rfl) (by rfl) T.m_all (by decide +kernel) (pa_cons (pe_lc (own := [("word", 1)]) (g := gName 1) (by rfl) sc_is_block.nd (pi_listK (K := K) (pv 0)) (blkOk_by (N := ["words", "word"]) (sc := defScope st_is_block) (by decide +kernel)) (fun _ _ _ _ _ => pg_name (i := 1) sc_is_block.nd rfl (Or.inl rfl)) (fun _ _ _ _ _ => pts_nil) (fun _ _ _ _ _ => (pe_callD D_is_whole hr (by rfl) pass0 (pa_cons (pv 1) (pa_cons pe_int (pa_cons (pe_globC T.c_MOST_WORD rfl) pa_nil)))))) pa_nil))))), ?_⟩
  refine s_start (by simp only [L2.start, List.map_cons, List.map_nil, List.length_cons, List.length_nil, Nat.reduceAdd, Nat.reduceSub, List.replicate, List.cons_append, List.nil_append]; rfl) ?_
  cases b with
  | false =>
    simp only [Bool.false_eq_true, if_false] at hS
    k_sweep
    exact k _ (Hs.up (by assumption))
  | true =>
    simp only [if_true] at hS
    k_node
    apply s_iteD
    · intro c
      k_sweep
      have e : blockB items = false := by
        simp only [blockB, Bool.and_eq_false_iff, decide_eq_false_iff_not]
        left
        omega
      rw [e] at k
      exact k _ (Hs.up (by assumption))
    · intro c
      k_sweep
      refine f_lcL (xs := items) fun Dn hD => ⟨fun i H' => Hs [] H H' [(Dn, .lst (((items.take i).map fun v => wholeB v 0 1000000000000000).map V.bl))] [(a, .lst items)], hS.new hD _, ?_, ?_, ?_⟩
      · intro i H' _ h2
        exact SqL.of (h2.getI List.mem_cons_self)
      · intro i x H2 hx hS2
        have hfx := hf x (List.mem_of_getElem? hx)
        have hlt : i < items.length := (List.getElem?_eq_some_iff.mp hx).1
        k_spoken
        have hll : (((items.take i).map fun v => wholeB v 0 1000000000000000).map V.bl).length < sizeLine := by
          rw [List.length_map, List.length_map, List.length_take, sizeLine_eq]
          omega
        k_spoken
        have e : items.take (i + 1) = items.take i ++ [x] := by
          rw [List.take_add_one, hx]
          rfl
        show Hs [] H _ [(Dn, .lst (((items.take (i + 1)).map fun v => wholeB v 0 1000000000000000).map V.bl))] [(a, .lst items)]
        rw [e, List.map_append, List.map_append]
        assumption
      · intro H2 hS2
        rw [List.take_length] at hS2
        k_spoken
        refine ⟨Dn, _, rfl, SqL.of (hS2.getM List.mem_cons_self), ?_⟩
        have e : (true && blockB items) = (items.map fun v => wholeB v 0 1000000000000000).all id := by
          have c' : items.length = 8 := by omega
          simp [blockB, c', List.all_map, Function.comp_def]
        rw [e] at k
        exact k _ hS2.up
theorem ok_Disk___init__ {f : Addr} {fd : FuncData} (F : Fun K "__init__" "Disk.__init__" st_Disk___init__ f fd) (T : Txt K mg Z) (D_is_whole : DefOk P w K mg base CX0 1 "is_whole" ["value", "low", "high"] (sp_is_whole K Z)) : FnOk P w K mg base (L2.CX P w) 2 f fd ["self", "many"] (sp_Disk___init__ K Z) := by
  have cl_Log := T.cl_Log
  have na_Log__cut := T.na_Log__cut
  have na_Log__disk := T.na_Log__disk
  have na_Log__gone := T.na_Log__gone
  have na_Log__number := T.na_Log__number
  have na_Log__rows := T.na_Log__rows
  have na_Log__torn := T.na_Log__torn
  have cl_Disk := T.cl_Disk
  have na_Disk__blocks := T.na_Disk__blocks
  have na_Disk__let := T.na_Disk__let
  have na_Disk__part := T.na_Disk__part
  have na_Disk__reads := T.na_Disk__reads
  have na_Disk__writes := T.na_Disk__writes
  refine F.okX sc_Disk___init__ (fun vs H Q E h => ?_) (fun cdv A outer s H vs Q E hr h => ?_)
  · obtain ⟨_, _, _, rfl, _⟩ := h
    rfl
  obtain ⟨x, dx, v, rfl, hH, hv, kE, k⟩ := h
  have hS := Hs.startL hH
  refine ⟨_, (pss_cons (ps_if (pt_not (pt_val (pe_callD D_is_whole hr (by rfl) pass0 (pa_cons (pv 1) (pa_cons (pe_globC T.c_LEAST_BLOCKS rfl) (pa_cons (pe_globC T.c_MOST_BLOCKS rfl) pa_nil)))))) (pss_one (ps_raiseK rfl (takes_of rfl rfl rfl rfl) (pmk_own PySem.F.excBase_ValueError T.x_BadDisk T.g_BadDisk T.kp_BadDisk (raises_own T.sb_BadDisk T.ty_BadDisk) rfl))) pss_nil)
      (pss_cons (ps_fldK (K := K) (pv 0) (pe_lc (own := [("_", 2)]) (g := gName 2) (by rfl) sc_Disk___init__.nd (pi_range1 rfl T.m_range (pa_cons (pv 1) pa_nil)) (blkOk_by (N := ["self", "many", "_"]) (sc := defScope st_Disk___init__) (by decide +kernel)) (fun _ _ _ _ _ => pg_name (i := 2) sc_Disk___init__.nd rfl (Or.inl rfl)) (fun _ _ _ _ _ => pts_nil) (fun _ _ _ _ _ => (pe_op op_rep (pe_lst (pa_cons pe_int pa_nil)) (pe_globC T.c_BLOCK_WORDS rfl)))) rfl)
      (pss_cons (ps_fldK (K := K) (pv 0) pe_int rfl)
      (pss_cons (ps_fldK (K := K) (pv 0) pe_int rfl)
      (pss_cons (ps_fldK (K := K) (pv 0) pe_non rfl)
      (pss_one (ps_fldK (K := K) (pv 0) pe_int rfl))))))), ?_⟩
  refine s_start (by simp only [L2.start, List.map_cons, List.map_nil, List.length_cons, List.length_nil, Nat.reduceAdd, Nat.reduceSub, List.replicate, List.cons_append, List.nil_append]; rfl) ?_
  k_node
  cases hw : wholeB v 4 64 with
  | false =>
    k_spoken
    exact kE hw _ (Upto.refl _ _)
  | true =>
    obtain ⟨n, rfl, h0, h1⟩ := wholeB_int hw
    k_spoken
    k_node
    refine f_lcR fun Dn hD => ⟨fun i H' => ∃ bs : List Addr, bs.length = i ∧ Hs [x, dx] H H' ((Dn, .lst (bs.map V.ref)) :: (rowsL bs (List.replicate i (List.replicate 8 0)) ++ ([(x, HO.ins Z.Disk dx []), (dx, HO.own x)] : List (Addr × HO)))) [], ⟨[], rfl, hS.new hD _⟩, ?_, ?_⟩
    · rintro i H2 hi ⟨bs, hl, hS2⟩
      k_spoken
      rename_i q H3 hS3 _ _ H4 hS4 _
      refine ⟨bs ++ [q], by rw [List.length_append, hl]; rfl, ?_⟩
      have hS5 := Hs.sub (M' := (q, .lst ((List.replicate 8 0).map V.int)) :: (Dn, .lst (bs.map V.ref ++ [V.ref q])) :: (rowsL bs (List.replicate i (List.replicate 8 0)) ++ [(x, .ins Z.Disk dx []), (dx, .own x)])) hS4 (by k_drop)
      rw [List.replicate_succ', rowsL_snoc _ _ (by rw [List.length_replicate, hl]), List.map_append]
      exact Hs.snoc hS5
    · rintro H2 ⟨bs, hl, hS2⟩
      k_sweep
      rename_i H3 hS3 _
      refine k n rfl h0 h1 Dn bs _ hl (Frm.of (Hs.perm hS3 ?_) (List.Sublist.refl _))
      refine List.Perm.trans ?_ (List.perm_append_comm (l₁ := _ :: rowsL bs _) (l₂ := [_, _])).symm
      exact List.Perm.refl _
theorem ok_Disk_blocks {f : Addr} {fd : FuncData} (F : Fun K "blocks" "Disk.blocks" st_Disk_blocks f fd) (T : Txt K mg Z)  : FnOk P w K mg base CX0 1 f fd ["self"] (sp_Disk_blocks K Z) := by
  have cl_Log := T.cl_Log
  have na_Log__cut := T.na_Log__cut
  have na_Log__disk := T.na_Log__disk
  have na_Log__gone := T.na_Log__gone
  have na_Log__number := T.na_Log__number
  have na_Log__rows := T.na_Log__rows
  have na_Log__torn := T.na_Log__torn
  have cl_Disk := T.cl_Disk
  have na_Disk__blocks := T.na_Disk__blocks
  have na_Disk__let := T.na_Disk__let
  have na_Disk__part := T.na_Disk__part
  have na_Disk__reads := T.na_Disk__reads
  have na_Disk__writes := T.na_Disk__writes
  refine F.ok sc_Disk_blocks (fun vs H Q E h => ?_) (fun cdv A outer s H vs Q E hr h => ?_)
  · obtain ⟨_, _, rfl, _⟩ := h
    rfl
  obtain ⟨d, s, rfl, hH, ok, k⟩ := h
  have hS := Hs.startL hH
  refine ⟨_, (pss_one (ps_ret (pe_callB (call_lenK (K := K)) (by rfl) T.m_len (by decide +kernel) (pa_cons (pe_fldK (K := K) (pv 0) rfl) pa_nil)))), ?_⟩
  refine s_start (by simp only [L2.start, List.map_cons, List.map_nil, List.length_cons, List.length_nil, Nat.reduceAdd, Nat.reduceSub, List.replicate, List.cons_append, List.nil_append]; rfl) ?_
  k_sweep
  rw [List.length_map, ok.len]
  exact k
theorem ok_Disk_read {f : Addr} {fd : FuncData} (F : Fun K "read" "Disk.read" st_Disk_read f fd) (T : Txt K mg Z) (M_Disk__need_place : MethOk P w K mg base (L2.CX P w) 2 Z.Disk "_need_place" ["self", "place"] (sp_Disk__need_place K Z)) : FnOk P w K mg base (L2.CX P w) 3 f fd ["self", "place"] (sp_Disk_read K Z) := by
  obtain ⟨f_Disk__need_place, fd_Disk__need_place, G_Disk__need_place, b_Disk__need_place, m_Disk__need_place⟩ := M_Disk__need_place.ex
  have cl_Log := T.cl_Log
  have na_Log__cut := T.na_Log__cut
  have na_Log__disk := T.na_Log__disk
  have na_Log__gone := T.na_Log__gone
  have na_Log__number := T.na_Log__number
  have na_Log__rows := T.na_Log__rows
  have na_Log__torn := T.na_Log__torn
  have cl_Disk := T.cl_Disk
  have na_Disk__blocks := T.na_Disk__blocks
  have na_Disk__let := T.na_Disk__let
  have na_Disk__part := T.na_Disk__part
  have na_Disk__reads := T.na_Disk__reads
  have na_Disk__writes := T.na_Disk__writes
  refine F.okX sc_Disk_read (fun vs H Q E h => ?_) (fun cdv A outer s H vs Q E hr h => ?_)
  · obtain ⟨_, _, _, rfl, _⟩ := h
    rfl
  obtain ⟨d, s, v, rfl, hH, ok, hv, kE, k⟩ := h
  have hS := Hs.startL hH
  refine ⟨_, (pss_cons (ps_expr (pe_meth (pv 0) T.cl_Disk m_Disk__need_place G_Disk__need_place (hr.mono (by decide)) b_Disk__need_place .nil (passes_call (takes_of rfl rfl rfl rfl) (fun _ _ _ _ h => h)) (pa_cons (pv 1) pa_nil)))
      (pss_cons (ps_fldaugK (K := K) (pv 0) pe_int in_add)
      (pss_one (ps_ret (pe_callTy (call_listOfK (K := K)) (by rfl) T.m_list (by decide +kernel) (pa_cons (pe_ix (ix_listK (K := K)) (pe_fldK (K := K) (pv 0) rfl) (pv 1) (fun _ _ => rfl)) pa_nil)))))), ?_⟩
  refine s_start (by simp only [L2.start, List.map_cons, List.map_nil, List.length_cons, List.length_nil, Nat.reduceAdd, Nat.reduceSub, List.replicate, List.cons_append, List.nil_append]; rfl) ?_
  k_node
  refine ⟨d, s, v, rfl, hH, ok, hv, fun c => ?_, fun c => ?_⟩
  · exact kE c
  obtain ⟨i0, rfl, h0, h1⟩ := wholeB_int c
  obtain ⟨i, rfl⟩ : ∃ i : Nat, i0 = (i : Int) := ⟨i0.toNat, by omega⟩
  have hi : i < s.ws.length := by omega
  obtain ⟨b, hb⟩ : ∃ b, s.bs[i]? = some b := ⟨_, List.getElem?_eq_getElem (by rw [ok.len]; exact hi)⟩
  have hw := List.getElem?_eq_getElem hi
  have a1 : atI (s.bs.map V.ref) (i : Int) = some (V.ref b) := atI_nat (by rw [List.getElem?_map, hb]; rfl)
  have hmem := rowsL_get hb hw
  have hg : s.ws.getD i [] = s.ws[i] := by rw [List.getD_eq_getElem?_getD, hw]; rfl
  k_spoken
  k_sweep
  rename_i q H3 hS3 _ _
  refine k i rfl hi q _ ?_
  rw [hg]
  exact Frm.of hS3 (by k_drop)
theorem ok_Disk_write {f : Addr} {fd : FuncData} (F : Fun K "write" "Disk.write" st_Disk_write f fd) (T : Txt K mg Z) (D_is_block : DefOk P w K mg base CX0 2 "_is_block" ["words"] (sp_is_block K Z)) (M_Disk__need_place : MethOk P w K mg base (L2.CX P w) 2 Z.Disk "_need_place" ["self", "place"] (sp_Disk__need_place K Z)) (M_Disk__write_part : MethOk P w K mg base CX0 1 Z.Disk "_write_part" ["self", "place", "words"] (sp_Disk__write_part K Z)) : FnOk P w K mg base (L2.CX P w) 3 f fd ["self", "place", "words"] (sp_Disk_write K Z) := by
  obtain ⟨f_Disk__need_place, fd_Disk__need_place, G_Disk__need_place, b_Disk__need_place, m_Disk__need_place⟩ := M_Disk__need_place.ex
  obtain ⟨f_Disk__write_part, fd_Disk__write_part, G_Disk__write_part, b_Disk__write_part, m_Disk__write_part⟩ := M_Disk__write_part.ex
  have cl_Log := T.cl_Log
  have na_Log__cut := T.na_Log__cut
  have na_Log__disk := T.na_Log__disk
  have na_Log__gone := T.na_Log__gone
  have na_Log__number := T.na_Log__number
  have na_Log__rows := T.na_Log__rows
  have na_Log__torn := T.na_Log__torn
  have cl_Disk := T.cl_Disk
  have na_Disk__blocks := T.na_Disk__blocks
  have na_Disk__let := T.na_Disk__let
  have na_Disk__part := T.na_Disk__part
  have na_Disk__reads := T.na_Disk__reads
  have na_Disk__writes := T.na_Disk__writes
  refine F.okX sc_Disk_write (fun vs H Q E h => ?_) (fun cdv A outer s H vs Q E hr h => ?_)
  · obtain ⟨_, _, _, _, _, _, rfl, _⟩ := h
    rfl
  obtain ⟨d, wa, s, v, l, items, rfl, hH, ok, hv, hf, hz, hp0, hp1, kN, kB, kW⟩ := h
  refine ⟨_, (pss_cons (ps_expr (pe_meth (pv 0) T.cl_Disk m_Disk__need_place G_Disk__need_place (hr.mono (by decide)) b_Disk__need_place .nil (passes_call (takes_of rfl rfl rfl rfl) (fun _ _ _ _ h => h)) (pa_cons (pv 1) pa_nil)))
      (pss_cons (ps_if (pt_not (pt_val (pe_callD D_is_block hr (by rfl) pass0 (pa_cons (pv 2) pa_nil)))) (pss_one (ps_raiseK rfl (takes_of rfl rfl rfl rfl) (pmk_own PySem.F.excBase_ValueError T.x_BadBlock T.g_BadBlock T.kp_BadBlock (raises_own T.sb_BadBlock T.ty_BadBlock) rfl))) pss_nil)
      (pss_cons (ps_if (pt_cmpR op_eq (pe_fldK (K := K) (pv 0) rfl) pe_int (nomark _)) (pss_cons (ps_expr (pe_meth (pv 0) T.cl_Disk m_Disk__write_part G_Disk__write_part (hr.mono (by decide)) b_Disk__write_part .nil pass0 (pa_cons (pv 1) (pa_cons (pv 2) pa_nil))))
      (pss_one (ps_raiseK rfl (takes_of rfl rfl rfl rfl) (pmk_own PySem.F.excBase_ValueError T.x_Stopped T.g_Stopped T.kp_Stopped (raises_own T.sb_Stopped T.ty_Stopped) rfl)))) pss_nil)
      (pss_cons (ps_asg (pe_callTy (call_listOfK (K := K)) (by rfl) T.m_list (by decide +kernel) (pa_cons (pv 2) pa_nil)) (pg_sub (pe_fldK (K := K) (pv 0) rfl) (pv 1) set_list))
      (pss_cons (ps_fldaugK (K := K) (pv 0) pe_int in_add)
      (pss_one (ps_if (pt_cmpR op_notN' (pe_fldK (K := K) (pv 0) rfl) pe_non (nomark _)) (pss_one (ps_fldaugK (K := K) (pv 0) pe_int in_sub)) pss_nil))))))), ?_⟩
  refine s_start (by simp only [L2.start, List.map_cons, List.map_nil, List.length_cons, List.length_nil, Nat.reduceAdd, Nat.reduceSub, List.replicate, List.cons_append, List.nil_append]; rfl) ?_
  have hS := Hs.startC hH
  k_node
  refine ⟨d, s, v, rfl, hH.tl, ok, hv, kN, fun c => ?_⟩
  obtain ⟨i0, rfl, h0, h1⟩ := wholeB_int c
  obtain ⟨i, rfl⟩ : ∃ i : Nat, i0 = (i : Int) := ⟨i0.toNat, by omega⟩
  have hi : i < s.ws.length := by omega
  k_spoken
  k_node
  refine s_is_block hS (hS.getI List.mem_cons_self) hf hz ?_
  intro H1 hS1 u1
  cases hbk : (l && blockB items) with
  | false =>
    k_spoken
    exact kB c hbk _ u1
  | true =>
    obtain ⟨rfl, hb2⟩ : l = true ∧ blockB items = true := by simpa using hbk
    obtain ⟨w, rfl, hw8⟩ := blockB_ints hb2
    obtain ⟨kS, kG⟩ := kW i w rfl hi rfl rfl hw8 hb2
    simp only [if_true] at hS1
    have hg : (s.ws.getD i []) = s.ws[i] := by rw [List.getD_eq_getElem?_getD, List.getElem?_eq_getElem hi]; rfl
    have hib : i < s.bs.length := by rw [ok.len]; exact hi
    k_spoken
    k_node
    cases hlt : s.lt with
    | none =>
      refine s_eqV rfl ?_
      simp only [hlt, ltV, reduceCtorEq, decide_false]
      k_spoken
      k_node
      rename_i p H2 hS2 _ _
      refine s_setL hS2 (by k_here) (SetI.refs hib) (by k_get) ?_
      intro H3 hS3 _
      k_node
      k_spoken
      simp only [hlt, ltV]
      k_sweep
      rename_i H4 hS4 _
      have hS5 := Hs.setRow0 (i := i) (A := [(d, HO.ins Z.Disk s.dx (dF { s with w := s.w + 1, lt := s.lt })), (s.dx, .own d), (s.bl, .lst ((s.bs.set i p).map V.ref))]) hS4 hib ok.len
      refine kG (by rw [hlt]; simp) (s.bs.set i p) _ (by rw [List.length_set]) ?_
      rw [show s.lt.map (· - 1) = s.lt by rw [hlt]; rfl]
      exact Frm.of hS5 (List.Sublist.refl _)
    | some t =>
      simp only [ltV]
      k_spoken
      apply s_iteD
      · intro e0
        have e1 : t = 0 := by simpa using e0
        subst e1
        k_node
        refine ⟨d, wa, s, i, w, rfl, hS1.cons1, ok, hi, hw8, hp0, hp1, fun bs H2 hl f => ?_⟩
        have hS2 := hS1.seg f .end_
        k_sweep
        exact kS hlt bs _ hl (Frm.of hS2 (List.Sublist.refl _))
      · intro e0
        rw [show diskL Z d s = (d, .ins Z.Disk s.dx [("_blocks", .ref s.bl), ("_reads", .int s.r), ("_writes", .int s.w), ("_let", V.int t), ("_part", .int s.p)]) :: (s.dx, .own d) :: (s.bl, .lst (s.bs.map V.ref)) :: rowsL s.bs s.ws from by unfold diskL dF; rw [hlt]; rfl] at hS1
        k_spoken
        k_node
        rename_i p H2 hS2 _ _
        refine s_setL hS2 (by k_here) (SetI.refs hib) (by k_get) ?_
        intro H3 hS3 _
        k_node
        k_sweep
        rename_i H4 hS4 _
        have hS5 := Hs.setRow0 (i := i) (A := [(d, HO.ins Z.Disk s.dx (dF { s with w := s.w + 1, lt := some (t - 1) })), (s.dx, .own d), (s.bl, .lst ((s.bs.set i p).map V.ref))]) hS4 hib ok.len
        refine kG (by rw [hlt]; simpa using e0) (s.bs.set i p) _ (by rw [List.length_set]) ?_
        rw [hlt]
        exact Frm.of hS5 (List.Sublist.refl _)
theorem ok_Disk_writes {f : Addr} {fd : FuncData} (F : Fun K "writes" "Disk.writes" st_Disk_writes f fd) (T : Txt K mg Z)  : FnOk P w K mg base CX0 1 f fd ["self"] (sp_Disk_writes K Z) := by
  have cl_Log := T.cl_Log
  have na_Log__cut := T.na_Log__cut
  have na_Log__disk := T.na_Log__disk
  have na_Log__gone := T.na_Log__gone
  have na_Log__number := T.na_Log__number
  have na_Log__rows := T.na_Log__rows
  have na_Log__torn := T.na_Log__torn
  have cl_Disk := T.cl_Disk
  have na_Disk__blocks := T.na_Disk__blocks
  have na_Disk__let := T.na_Disk__let
  have na_Disk__part := T.na_Disk__part
  have na_Disk__reads := T.na_Disk__reads
  have na_Disk__writes := T.na_Disk__writes
  refine F.ok sc_Disk_writes (fun vs H Q E h => ?_) (fun cdv A outer s H vs Q E hr h => ?_)
  · obtain ⟨_, _, rfl, _⟩ := h
    rfl
  obtain ⟨d, s, rfl, hH, k⟩ := h
  have hS := Hs.startL hH
  refine ⟨_, (pss_one (ps_ret (pe_fldK (K := K) (pv 0) rfl))), ?_⟩
  refine s_start (by simp only [L2.start, List.map_cons, List.map_nil, List.length_cons, List.length_nil, Nat.reduceAdd, Nat.reduceSub, List.replicate, List.cons_append, List.nil_append]; rfl) ?_
  k_sweep
  exact k
theorem ok_Disk_stop_after {f : Addr} {fd : FuncData} (F : Fun K "stop_after" "Disk.stop_after" st_Disk_stop_after f fd) (T : Txt K mg Z) (D_is_whole : DefOk P w K mg base CX0 1 "is_whole" ["value", "low", "high"] (sp_is_whole K Z)) : FnOk P w K mg base (L2.CX P w) 2 f fd ["self", "count", "part"] (sp_Disk_stop_after K Z) := by
  have cl_Log := T.cl_Log
  have na_Log__cut := T.na_Log__cut
  have na_Log__disk := T.na_Log__disk
  have na_Log__gone := T.na_Log__gone
  have na_Log__number := T.na_Log__number
  have na_Log__rows := T.na_Log__rows
  have na_Log__torn := T.na_Log__torn
  have cl_Disk := T.cl_Disk
  have na_Disk__blocks := T.na_Disk__blocks
  have na_Disk__let := T.na_Disk__let
  have na_Disk__part := T.na_Disk__part
  have na_Disk__reads := T.na_Disk__reads
  have na_Disk__writes := T.na_Disk__writes
  refine F.okX sc_Disk_stop_after (fun vs H Q E h => ?_) (fun cdv A outer s H vs Q E hr h => ?_)
  · obtain ⟨_, _, _, _, rfl, _⟩ := h
    rfl
  obtain ⟨d, s, u, v, rfl, hH, hu, hv, kE, k⟩ := h
  have hS := Hs.startL hH
  refine ⟨_, (pss_cons (ps_if (pt_not (pt_val (pe_callD D_is_whole hr (by rfl) pass0 (pa_cons (pv 1) (pa_cons pe_int (pa_cons (pe_globC T.c_MOST_COUNT rfl) pa_nil)))))) (pss_one (ps_raiseK rfl (takes_of rfl rfl rfl rfl) (pmk_own PySem.F.excBase_ValueError T.x_BadStop T.g_BadStop T.kp_BadStop (raises_own T.sb_BadStop T.ty_BadStop) rfl))) pss_nil)
      (pss_cons (ps_if (pt_not (pt_val (pe_callD D_is_whole hr (by rfl) pass0 (pa_cons (pv 2) (pa_cons pe_int (pa_cons (pe_globC T.c_MOST_PART rfl) pa_nil)))))) (pss_one (ps_raiseK rfl (takes_of rfl rfl rfl rfl) (pmk_own PySem.F.excBase_ValueError T.x_BadStop T.g_BadStop T.kp_BadStop (raises_own T.sb_BadStop T.ty_BadStop) rfl))) pss_nil)
      (pss_cons (ps_fldK (K := K) (pv 0) (pv 1) rfl)
      (pss_one (ps_fldK (K := K) (pv 0) (pv 2) rfl))))), ?_⟩
  refine s_start (by simp only [L2.start, List.map_cons, List.map_nil, List.length_cons, List.length_nil, Nat.reduceAdd, Nat.reduceSub, List.replicate, List.cons_append, List.nil_append]; rfl) ?_
  k_node
  cases hwu : wholeB u 0 1000000000000000 with
  | false =>
    k_spoken
    exact kE (by rw [hwu]; rfl)
  | true =>
    obtain ⟨i, rfl, _⟩ := wholeB_int hwu
    k_spoken
    k_node
    cases hwv : wholeB v 0 7 with
    | false =>
      k_spoken
      exact kE (by rw [hwu, hwv]; rfl)
    | true =>
      obtain ⟨j, rfl, _⟩ := wholeB_int hwv
      k_sweep
      exact k i j rfl rfl (by rw [hwu, hwv]; rfl) _ (Frm.of (by assumption) (by k_drop))
theorem ok_Disk_go_on {f : Addr} {fd : FuncData} (F : Fun K "go_on" "Disk.go_on" st_Disk_go_on f fd) (T : Txt K mg Z)  : FnOk P w K mg base CX0 1 f fd ["self"] (sp_Disk_go_on K Z) := by
  have cl_Log := T.cl_Log
  have na_Log__cut := T.na_Log__cut
  have na_Log__disk := T.na_Log__disk
  have na_Log__gone := T.na_Log__gone
  have na_Log__number := T.na_Log__number
  have na_Log__rows := T.na_Log__rows
  have na_Log__torn := T.na_Log__torn
  have cl_Disk := T.cl_Disk
  have na_Disk__blocks := T.na_Disk__blocks
  have na_Disk__let := T.na_Disk__let
  have na_Disk__part := T.na_Disk__part
  have na_Disk__reads := T.na_Disk__reads
  have na_Disk__writes := T.na_Disk__writes
  refine F.ok sc_Disk_go_on (fun vs H Q E h => ?_) (fun cdv A outer s H vs Q E hr h => ?_)
  · obtain ⟨_, _, rfl, _⟩ := h
    rfl
  obtain ⟨d, s, rfl, hH, k⟩ := h
  have hS := Hs.startL hH
  refine ⟨_, (pss_one (ps_fldK (K := K) (pv 0) pe_non rfl)), ?_⟩
  refine s_start (by simp only [L2.start, List.map_cons, List.map_nil, List.length_cons, List.length_nil, Nat.reduceAdd, Nat.reduceSub, List.replicate, List.cons_append, List.nil_append]; rfl) ?_
  k_sweep
  exact k _ (Frm.of (by assumption) (by k_drop))
theorem ok_Disk__need_place {f : Addr} {fd : FuncData} (F : Fun K "_need_place" "Disk._need_place" st_Disk__need_place f fd) (T : Txt K mg Z) (D_is_whole : DefOk P w K mg base CX0 1 "is_whole" ["value", "low", "high"] (sp_is_whole K Z)) : FnOk P w K mg base (L2.CX P w) 2 f fd ["self", "place"] (sp_Disk__need_place K Z) := by
  have cl_Log := T.cl_Log
  have na_Log__cut := T.na_Log__cut
  have na_Log__disk := T.na_Log__disk
  have na_Log__gone := T.na_Log__gone
  have na_Log__number := T.na_Log__number
  have na_Log__rows := T.na_Log__rows
  have na_Log__torn := T.na_Log__torn
  have cl_Disk := T.cl_Disk
  have na_Disk__blocks := T.na_Disk__blocks
  have na_Disk__let := T.na_Disk__let
  have na_Disk__part := T.na_Disk__part
  have na_Disk__reads := T.na_Disk__reads
  have na_Disk__writes := T.na_Disk__writes
  refine F.okX sc_Disk__need_place (fun vs H Q E h => ?_) (fun cdv A outer s H vs Q E hr h => ?_)
  · obtain ⟨_, _, _, rfl, _⟩ := h
    rfl
  obtain ⟨d, s, v, rfl, hH, ok, hv, kE, k⟩ := h
  have hS := Hs.startL hH
  refine ⟨_, (pss_one (ps_if (pt_not (pt_val (pe_callD D_is_whole hr (by rfl) pass0 (pa_cons (pv 1) (pa_cons pe_int (pa_cons (pe_op op_sub (pe_callB (call_lenK (K := K)) (by rfl) T.m_len (by decide +kernel) (pa_cons (pe_fldK (K := K) (pv 0) rfl) pa_nil)) pe_int) pa_nil)))))) (pss_one (ps_raiseK rfl (takes_of rfl rfl rfl rfl) (pmk_own PySem.F.excBase_ValueError T.x_NoBlock T.g_NoBlock T.kp_NoBlock (raises_own T.sb_NoBlock T.ty_NoBlock) rfl))) pss_nil)), ?_⟩
  refine s_start (by simp only [L2.start, List.map_cons, List.map_nil, List.length_cons, List.length_nil, Nat.reduceAdd, Nat.reduceSub, List.replicate, List.cons_append, List.nil_append]; rfl) ?_
  k_spoken
  rw [List.length_map, ok.len]
  cases hw : wholeB v 0 (s.ws.length - 1) with
  | false =>
    k_spoken
    exact kE hw
  | true =>
    k_spoken
    exact k hw
theorem ok_Disk__write_part {f : Addr} {fd : FuncData} (F : Fun K "_write_part" "Disk._write_part" st_Disk__write_part f fd) (T : Txt K mg Z)  : FnOk P w K mg base CX0 1 f fd ["self", "place", "words"] (sp_Disk__write_part K Z) := by
  have cl_Log := T.cl_Log
  have na_Log__cut := T.na_Log__cut
  have na_Log__disk := T.na_Log__disk
  have na_Log__gone := T.na_Log__gone
  have na_Log__number := T.na_Log__number
  have na_Log__rows := T.na_Log__rows
  have na_Log__torn := T.na_Log__torn
  have cl_Disk := T.cl_Disk
  have na_Disk__blocks := T.na_Disk__blocks
  have na_Disk__let := T.na_Disk__let
  have na_Disk__part := T.na_Disk__part
  have na_Disk__reads := T.na_Disk__reads
  have na_Disk__writes := T.na_Disk__writes
  refine F.ok sc_Disk__write_part (fun vs H Q E h => ?_) (fun cdv A outer s H vs Q E hr h => ?_)
  · obtain ⟨_, _, _, _, _, rfl, _⟩ := h
    rfl
  obtain ⟨d, wa, s, i, w, rfl, hH, ok, hi, hw8, hp0, hp1, k⟩ := h
  have hS0 := Hs.startL hH.tl
  refine ⟨_, (pss_cons (ps_asg (pe_op op_cat (pe_slice (sl_listK (K := K)) (pv 2) po_none (po_some (pe_fldK (K := K) (pv 0) rfl))) (pe_slice (sl_listK (K := K)) (pe_ix (ix_listK (K := K)) (pe_fldK (K := K) (pv 0) rfl) (pv 1) (fun _ _ => rfl)) (po_some (pe_fldK (K := K) (pv 0) rfl)) po_none)) (pg_sub (pe_fldK (K := K) (pv 0) rfl) (pv 1) set_list))
      (pss_one (ps_fldK (K := K) (pv 0) pe_int rfl))), ?_⟩
  refine s_start (by simp only [L2.start, List.map_cons, List.map_nil, List.length_cons, List.length_nil, Nat.reduceAdd, Nat.reduceSub, List.replicate, List.cons_append, List.nil_append]; rfl) ?_
  have hS : Hs ((diskL Z d s).map Prod.fst) H H (diskL Z d s) [(wa, .lst (w.map V.int))] := by
    refine ⟨Upto.refl _ _, ?_, ?_, fun _ hx => .inl (List.mem_map_of_mem hx)⟩
    · have p1 : (diskL Z d s ++ [(wa, HO.lst (w.map V.int))]).Perm ((wa, HO.lst (w.map V.int)) :: diskL Z d s) := List.perm_append_comm
      exact ((p1.map Prod.fst).nodup_iff).mpr hH.nd
    · intro x hx
      refine hH.at_ x ?_
      simp only [List.mem_append, List.mem_singleton] at hx
      rcases hx with hx | hx
      · exact List.mem_cons_of_mem _ hx
      · rw [hx]; exact List.mem_cons_self
  obtain ⟨b, hb⟩ : ∃ b, s.bs[i]? = some b := ⟨_, List.getElem?_eq_getElem (by rw [ok.len]; exact hi)⟩
  have hw := List.getElem?_eq_getElem hi
  have a1 : atI (s.bs.map V.ref) (i : Int) = some (V.ref b) := atI_nat (by rw [List.getElem?_map, hb]; rfl)
  have hmem := rowsL_get hb hw
  have hg : s.ws.getD i [] = s.ws[i] := by rw [List.getD_eq_getElem?_getD, hw]; rfl
  have ho8 : s.ws[i].length = 8 := ok.each _ (List.getElem_mem hi)
  k_node
  rename_i p H1 hS1 _ _
  rw [mixV hw8 ho8 hp0 hp1] at hS1
  have hib : i < s.bs.length := by rw [ok.len]; exact hi
  refine s_setL hS1 (by k_here) (SetI.refs hib) (by k_get) ?_
  intro H2 hS2 _
  k_sweep
  rename_i H3 hS3 _
  have hS4 : Hs ((diskL Z d s).map Prod.fst) H H3 ((p, .lst ((mixW s.p w s.ws[i]).map V.int)) :: ([(d, HO.ins Z.Disk s.dx (dF { s with p := 0 })), (s.dx, .own d), (s.bl, .lst ((s.bs.set i p).map V.ref))] ++ rowsL s.bs s.ws)) [(wa, .lst (w.map V.int))] := Hs.sub hS3 (by k_drop)
  have hS5 := Hs.setRow0 (i := i) hS4 hib ok.len
  refine k (s.bs.set i p) _ (by rw [List.length_set]) ?_
  rw [hg]
  exact Frm.of hS5 (List.Sublist.refl _)
theorem ok_law_taken {f : Addr} {fd : FuncData} (F : Fun K "_law_taken" "_law_taken" st_law_taken f fd) (T : Txt K mg Z)  : FnOk P w K mg base CX0 1 f fd ["_law_row", "_law_many"] (sp_law_taken K Z) := by
  have cl_Log := T.cl_Log
  have na_Log__cut := T.na_Log__cut
  have na_Log__disk := T.na_Log__disk
  have na_Log__gone := T.na_Log__gone
  have na_Log__number := T.na_Log__number
  have na_Log__rows := T.na_Log__rows
  have na_Log__torn := T.na_Log__torn
  have cl_Disk := T.cl_Disk
  have na_Disk__blocks := T.na_Disk__blocks
  have na_Disk__let := T.na_Disk__let
  have na_Disk__part := T.na_Disk__part
  have na_Disk__reads := T.na_Disk__reads
  have na_Disk__writes := T.na_Disk__writes
  refine F.ok sc_law_taken (fun vs H Q E h => ?_) (fun cdv A outer s H vs Q E hr h => ?_)
  · obtain ⟨_, _, _, _, _, _, rfl, _⟩ := h
    rfl
  obtain ⟨r, sc, o, ns, S, n, rfl, hH, ⟨i, m, hi, rfl⟩, hs, hn, k⟩ := h
  have hS := Hs.start1 hH
  refine ⟨_, (pss_cons (ps_asg (pe_op op_add (pe_ix (ix_listK (K := K)) (pv 0) pe_int (fun _ _ => rfl)) pe_int) (pg_sub (pv 0) pe_int set_list))
      (pss_cons (ps_if (pt_cmpR op_gt (pe_ix (ix_listK (K := K)) (pv 0) pe_int (fun _ _ => rfl)) (pe_callB (call_lenK (K := K)) (by rfl) T.m_len (by decide +kernel) (pa_cons (pe_ix (ix_listK (K := K)) (pv 0) pe_int (fun _ _ => rfl)) pa_nil)) (nomark _)) (pss_cons (ps_asg (pe_op op_mod (pe_op op_add (pe_op op_mul (pe_ix (ix_listK (K := K)) (pv 0) pe_int (fun _ _ => rfl)) pe_int) pe_int) pe_int) (pg_sub (pv 0) pe_int set_list))
      (pss_one (ps_ret (pe_op op_mod (pe_op op_fdiv (pe_ix (ix_listK (K := K)) (pv 0) pe_int (fun _ _ => rfl)) pe_int) (pv 1))))) pss_nil)
      (pss_cons (ps_set (i := 2) sc_law_taken.nd rfl (Or.inl rfl) (pe_ix (ix_listK (K := K)) (pe_ix (ix_listK (K := K)) (pv 0) pe_int (fun _ _ => rfl)) (pe_op op_sub (pe_ix (ix_listK (K := K)) (pv 0) pe_int (fun _ _ => rfl)) pe_int) (fun _ _ => rfl)))
      (pss_cons (ps_asg (pe_op op_mod (pe_op op_add (pe_op op_add (pe_op op_mul (pe_ix (ix_listK (K := K)) (pv 0) pe_int (fun _ _ => rfl)) pe_int) (pv 2)) pe_int) pe_int) (pg_sub (pv 0) pe_int set_list))
      (pss_one (ps_ret (pe_op op_mod (pv 2) (pv 1)))))))), ?_⟩
  refine s_start (by simp only [L2.start, List.map_cons, List.map_nil, List.length_cons, List.length_nil, Nat.reduceAdd, Nat.reduceSub, List.replicate, List.cons_append, List.nil_append]; rfl) ?_
  k_sweep
  apply s_iteD
  · intro c
    k_sweep
    exact k _ _ _ (Int.emod_nonneg _ (by omega)) (Int.emod_lt_of_pos _ hn) (Hs.up (by assumption)) (by k_here) ⟨_, _, by omega, rfl⟩
  · intro c
    rw [List.length_map] at c
    obtain ⟨v, hv⟩ : ∃ v, atI (ns.map V.int) (i + 1 - 1) = some (V.int v) := atI_ints (by omega) (by omega)
    k_sweep
    exact k _ _ _ (Int.emod_nonneg _ (by omega)) (Int.emod_lt_of_pos _ hn) (Hs.up (by assumption)) (by k_here) ⟨_, _, by omega, rfl⟩
theorem ok_law_row_of {f : Addr} {fd : FuncData} (F : Fun K "_law_row_of" "_law_row_of" st_law_row_of f fd) (T : Txt K mg Z) (D_law_taken : DefOk P w K mg base CX0 1 "_law_taken" ["_law_row", "_law_many"] (sp_law_taken K Z)) : FnOk P w K mg base CX0 2 f fd ["_law_row"] (sp_law_row_of K Z) := by
  have cl_Log := T.cl_Log
  have na_Log__cut := T.na_Log__cut
  have na_Log__disk := T.na_Log__disk
  have na_Log__gone := T.na_Log__gone
  have na_Log__number := T.na_Log__number
  have na_Log__rows := T.na_Log__rows
  have na_Log__torn := T.na_Log__torn
  have cl_Disk := T.cl_Disk
  have na_Disk__blocks := T.na_Disk__blocks
  have na_Disk__let := T.na_Disk__let
  have na_Disk__part := T.na_Disk__part
  have na_Disk__reads := T.na_Disk__reads
  have na_Disk__writes := T.na_Disk__writes
  refine F.ok sc_law_row_of (fun vs H Q E h => ?_) (fun cdv A outer s H vs Q E hr h => ?_)
  · obtain ⟨_, _, _, _, _, rfl, _⟩ := h
    rfl
  obtain ⟨r, sc, o, ns, S, rfl, hH, ro, hs, k⟩ := h
  have hS := Hs.start1 hH
  refine ⟨_, (pss_cons (ps_set (i := 1) sc_law_row_of.nd rfl (Or.inl rfl) (pe_lst pa_nil))
      (pss_cons (ps_for PassesOwn.never rfl (pi_range1 rfl T.m_range (pa_cons (pe_callD D_law_taken hr (by rfl) pass0 (pa_cons (pv 0) (pa_cons (pe_ix (ix_listK (K := K)) (pe_lst (pa_cons pe_int (pa_cons pe_int pa_nil))) (pe_callD D_law_taken hr (by rfl) pass0 (pa_cons (pv 0) (pa_cons pe_int pa_nil))) (fun _ _ => rfl)) pa_nil))) pa_nil)) (pg_name (i := 2) sc_law_row_of.nd rfl (Or.inl rfl))
      (pss_one (ps_expr (pe_bmK (K := K) PySem.F.plainAttrs_list PySem.F.slot_list_append PySem.F.type_list_append mt_append (pv 1) (pa_cons (pe_callD D_law_taken hr (by rfl) pass0 (pa_cons (pv 0) (pa_cons (pe_ix (ix_listK (K := K)) (pe_lst (pa_cons pe_int (pa_cons pe_int (pa_cons pe_int pa_nil)))) (pe_callD D_law_taken hr (by rfl) pass0 (pa_cons (pv 0) (pa_cons pe_int pa_nil))) (fun _ _ => rfl)) pa_nil))) pa_nil)))))
      (pss_one (ps_ret (pv 1))))), ?_⟩
  refine s_start (by simp only [L2.start, List.map_cons, List.map_nil, List.length_cons, List.length_nil, Nat.reduceAdd, Nat.reduceSub, List.replicate, List.cons_append, List.nil_append]; rfl) ?_
  k_node
  rename_i D H1 hS1 _ _
  k_node
  apply s_ixPick
  k_here
  assumption
  assumption
  intro x hx
  obtain ⟨b, rfl, hb0, hb1⟩ : ∃ b, x = V.int b ∧ 0 < b ∧ b ≤ 12 := by
    simp only [List.mem_cons, List.not_mem_nil, or_false] at hx
    rcases hx with rfl | rfl <;> exact ⟨_, rfl, by decide, by decide⟩
  k_spoken
  rename_i n o2 H2 hn0 hn1 ro2 _ hS2'
  have hS2 : Hs [r] H H2 [(D, .lst []), (r, o2)] S := Hs.sub hS2' (by k_drop)
  clear hS2'
  refine f_range (fun i σ H' => ∃ (ws : List Int) (o : HO) (x2 : Option V), ws.length = i ∧ (∀ x ∈ ws, 0 ≤ x ∧ x ≤ 999999999) ∧ σ = [some (.ref r), some (.ref D), x2] ∧ RowO sc o ∧ Hs [r] H H' [(D, .lst (ws.map V.int)), (r, o)] S) ⟨[], _, _, rfl, by simp, rfl, ro2, hS2⟩ ?_ ?_
  · rintro i σ H3 hi ⟨ws, o3, x2, hl, hw, rfl, ro3, hS3⟩
    k_spoken
    apply s_ixPick
    k_here
    assumption
    assumption
    intro x hx
    obtain ⟨c, rfl, hc0, hc1⟩ : ∃ c, x = V.int c ∧ 0 < c ∧ c ≤ 1000000000 := by
      simp only [List.mem_cons, List.not_mem_nil, or_false] at hx
      rcases hx with rfl | rfl | rfl <;> exact ⟨_, rfl, by decide, by decide⟩
    k_spoken
    rename_i v o4 H4 hv0 hv1 ro4 _ hS4 H5 hS5 _
    refine ⟨ws ++ [v], o4, _, by rw [List.length_append, hl]; rfl, ?_, rfl, ro4, by rw [List.map_append]; exact Hs.sub hS5 (by k_drop)⟩
    intro y hy
    rcases List.mem_append.mp hy with hy | hy
    · exact hw y hy
    · obtain rfl : y = v := by simpa using hy
      omega
  · rintro σ H3 ⟨ws, o3, x2, hl, hw, rfl, ro3, hS3⟩
    k_sweep
    exact k _ ws _ _ (by omega) hw ro3 hS3
theorem ok_law_pieces {f : Addr} {fd : FuncData} (F : Fun K "_law_pieces" "_law_pieces" st_law_pieces f fd) (T : Txt K mg Z)  : FnOk P w K mg base CX0 1 f fd ["_law_words"] (sp_law_pieces K Z) := by
  have cl_Log := T.cl_Log
  have na_Log__cut := T.na_Log__cut
  have na_Log__disk := T.na_Log__disk
  have na_Log__gone := T.na_Log__gone
  have na_Log__number := T.na_Log__number
  have na_Log__rows := T.na_Log__rows
  have na_Log__torn := T.na_Log__torn
  have cl_Disk := T.cl_Disk
  have na_Disk__blocks := T.na_Disk__blocks
  have na_Disk__let := T.na_Disk__let
  have na_Disk__part := T.na_Disk__part
  have na_Disk__reads := T.na_Disk__reads
  have na_Disk__writes := T.na_Disk__writes
  refine F.ok sc_law_pieces (fun vs H Q E h => ?_) (fun cdv A outer s H vs Q E hr h => ?_)
  · obtain ⟨_, _, rfl, _⟩ := h
    rfl
  obtain ⟨a, ns, rfl, ha, hz, k⟩ := h
  have hS := Hs.startI (Holds.one ha)
  refine ⟨_, (pss_cons (ps_set (i := 1) sc_law_pieces.nd rfl (Or.inr rfl) (pe_op op_cat (pe_op op_cat (pe_lst (pa_cons (pe_callB (call_lenK (K := K)) (by rfl) T.m_len (by decide +kernel) (pa_cons (pv 0) pa_nil)) pa_nil)) (pv 0)) (pe_lst (pa_cons pe_int (pa_cons pe_int pa_nil)))))
      (pss_one (ps_ret (pe_lc (own := [("_law_at", 2)]) (g := gName 2) (by rfl) sc_law_pieces.nd (pi_range3 rfl T.m_range (pa_cons pe_int (pa_cons (pe_op op_add (pe_callB (call_lenK (K := K)) (by rfl) T.m_len (by decide +kernel) (pa_cons (pv 0) pa_nil)) pe_int) (pa_cons pe_int pa_nil)))) (blkOk_by (N := ["_law_words", "_law_data", "_law_at"]) (sc := defScope st_law_pieces) (by decide +kernel)) (fun _ _ _ _ _ => pg_name (i := 2) sc_law_pieces.nd rfl (Or.inl rfl)) (fun _ _ _ _ _ => pts_nil) (fun _ _ _ _ _ => (pe_slice (sl_listK (K := K)) (pv 1) (po_some (pv 2)) (po_some (pe_op op_add (pv 2) pe_int)))))))), ?_⟩
  refine s_start (by simp only [L2.start, List.map_cons, List.map_nil, List.length_cons, List.length_nil, Nat.reduceAdd, Nat.reduceSub, List.replicate, List.cons_append, List.nil_append]; rfl) ?_
  k_node
  rename_i D H1 hS1' _ _
  have e0 : [V.int ((List.map V.int ns).length : Nat)] ++ List.map V.int ns ++ [V.int 0, V.int 0] = (dL ns 2).map V.int := by simp [dL, List.replicate]
  rw [e0] at hS1'
  have hS1 : Hs [] H H1 [(D, .lst ((dL ns 2).map V.int))] [(a, .lst (ns.map V.int))] := Hs.sub hS1' (by k_drop)
  clear hS1'
  k_spoken
  have en : ((((List.map V.int ns).length : Nat) + 1 + 2 : Int) / 3).toNat = ns.length / 3 + 1 := by
    rw [List.length_map]
    omega
  rw [en]
  refine f_lcC fun Dn hDn => ⟨fun i H' => ∃ qs : List Addr, qs.length = i ∧ Hs [] H H' ((Dn, .lst (qs.map V.ref)) :: (rowsL qs ((pcs ns).take i) ++ [(D, .lst ((dL ns 2).map V.int))])) [(a, .lst (ns.map V.int))], ⟨[], rfl, hS1.new hDn _⟩, ?_, ?_⟩
  · rintro i H3 hi ⟨qs, hl, hS3⟩
    k_spoken
    rename_i q H4 hS4 _ _ H5 hS5 _
    refine ⟨qs ++ [q], by rw [List.length_append, hl]; rfl, ?_⟩
    have hp := pcs_get hi
    rw [cutV_ints, cut3 (i := i) (by rw [dL_len]; omega) (by omega) (by omega)] at hS5
    rw [take_snoc hp, rowsL_snoc _ _ (by rw [List.length_take, pcs_len]; omega), List.map_append]
    exact Hs.snoc hS5
  · rintro H3 ⟨qs, hl, hS3⟩
    rw [List.take_of_length_le (by rw [pcs_len]; exact Nat.le_refl _)] at hS3
    exact k _ _ _ (by rw [hl, pcs_len]) (Hs.dropI (Hs.sub hS3 (by k_drop)))
theorem ok_law_told {f : Addr} {fd : FuncData} (F : Fun K "_law_told" "_law_told" st_law_told f fd) (T : Txt K mg Z) (M_Log_put : MethOk P w K mg base (L2.CX P w) 5 Z.Log "put" ["self", "row"] (sp_Log_put K Z)) (M_Log_take : MethOk P w K mg base (L2.CX P w) 5 Z.Log "take" ["self"] (sp_Log_take K Z)) : FnOk P w K mg base CX0 6 f fd ["_law_log", "_law_words"] (sp_law_told K Z) := by
  obtain ⟨f_Log_put, fd_Log_put, G_Log_put, b_Log_put, m_Log_put⟩ := M_Log_put.ex
  obtain ⟨f_Log_take, fd_Log_take, G_Log_take, b_Log_take, m_Log_take⟩ := M_Log_take.ex
  have cl_Log := T.cl_Log
  have na_Log__cut := T.na_Log__cut
  have na_Log__disk := T.na_Log__disk
  have na_Log__gone := T.na_Log__gone
  have na_Log__number := T.na_Log__number
  have na_Log__rows := T.na_Log__rows
  have na_Log__torn := T.na_Log__torn
  have cl_Disk := T.cl_Disk
  have na_Disk__blocks := T.na_Disk__blocks
  have na_Disk__let := T.na_Disk__let
  have na_Disk__part := T.na_Disk__part
  have na_Disk__reads := T.na_Disk__reads
  have na_Disk__writes := T.na_Disk__writes
  refine F.ok sc_law_told (fun vs H Q E h => ?_) (fun cdv A outer s H vs Q E hr h => ?_)
  · rcases h with ⟨_, _, _, rfl, _⟩ | ⟨_, _, _, _, _, rfl, _⟩ <;> rfl
  skip
  refine ⟨_, (pss_one (ps_try_many rfl rfl takes0 (fun W pn xe tk _ => (pss_one (ps_ret (pe_ifExp (pt_cmpR op_isN' (pv 1) pe_non (nomark _)) (pe_methS0 (pv 0) T.cl_Log m_Log_take G_Log_take (hr.mono (by decide)) b_Log_take (fun σ => passAt tk σ)) (pe_methS (pv 0) T.cl_Log m_Log_put G_Log_put (hr.mono (by decide)) b_Log_put (fun σ => passAt tk σ) (pa_cons (pe_callTy (call_listOfK (K := K)) (by rfl) T.m_list (by decide +kernel) (pa_cons (pv 1) pa_nil)) pa_nil)))))) (HdsOk.cons ⟨rfl, by decide, .inl T.g_Stopped⟩ (fun a oe cls d pn hz hf => (pss_one (ps_ret pe_str))) (HdsOk.cons ⟨rfl, by decide, .inl T.g_Full⟩ (fun a oe cls d pn hz hf => (pss_one (ps_ret pe_str))) (HdsOk.cons ⟨rfl, by decide, .inl T.g_Empty⟩ (fun a oe cls d pn hz hf => (pss_one (ps_ret pe_str))) (HdsOk.cons ⟨rfl, by decide, .inl T.g_Gone⟩ (fun a oe cls d pn hz hf => (pss_one (ps_ret pe_str))) HdsOk.nil)))))), ?_⟩
  refine s_start (by simp only [L2.start, List.map_cons, List.map_nil, List.length_cons, List.length_nil, Nat.reduceAdd, Nat.reduceSub, List.replicate, List.cons_append, List.nil_append]; rfl) ?_
  rcases h with ⟨lg, l, s, rfl, hH, ok, hp0, hp7, hcut, hrows, hn0, hn1, hf0, hf1, kG, kE, kP⟩ | ⟨lg, wr, l, s, row, rfl, hH, ok, hp0, hp7, hlt0, hr11, hrb, hcut, hrows, hn0, hn1, hf0, hf1, kG, kF, kP⟩
  · have hS := Hs.startL hH
    have fl : H lg = some (.ins Z.Log l.dx (lF l)) := hS.getM (.head _)
    k_spoken
    refine ⟨lg, l, s, rfl, hH, ok, hp0, hp7, hcut, hrows, hn0, hn1, hf0, hf1, fun hg => ?_, fun hg hr => ?_, fun hg x xs hr => ⟨fun hlt bs H' hb f => ?_, (kP hg x xs hr).2⟩⟩
    · refine s_manyNo T.e_Gone_Stopped (s_manyNo T.e_Gone_Full (s_manyNo T.e_Gone_Empty (s_many T.e_Gone_Gone fun a ha => ?_)))
      k_spoken
      exact kG hg
    · refine s_manyNo T.e_Empty_Stopped (s_manyNo T.e_Empty_Full (s_many T.e_Empty_Empty fun a ha => ?_))
      k_spoken
      exact kE hg hr
    · refine s_many T.e_Stopped_Stopped fun a ha => ?_
      k_spoken
      exact (kP hg x xs hr).1 hlt bs _ hb f
  · have hS := Hs.startC hH
    have fl : H lg = some (.ins Z.Log l.dx (lF l)) := hS.getM (.head _)
    have fw : H wr = some (.lst (row.map V.int)) := hS.getI (.head _)
    k_spoken
    rename_i w2 H1 hS1 u1 _
    refine ⟨lg, w2, l, s, row, rfl, hS1.part (List.Sublist.refl _), ok, hp0, hp7, hlt0, hr11, hrb, hcut, hrows, hn0, hn1, hf0, hf1, fun hg => ?_, fun hg c H' u => ?_, fun hg c => ⟨fun t b bs H' ht hb hbs f => ?_, fun ht bs ca ta wa H' hbs f => ?_⟩⟩
    · refine s_manyNo T.e_Gone_Stopped (s_manyNo T.e_Gone_Full (s_manyNo T.e_Gone_Empty (s_many T.e_Gone_Gone fun a ha => ?_)))
      k_spoken
      exact kG hg _ u1
    · refine s_manyNo T.e_Full_Stopped (s_many T.e_Full_Full fun a ha => ?_)
      k_spoken
      exact kF hg c _ (u1.trans u)
    · refine s_many T.e_Stopped_Stopped fun a ha => ?_
      k_spoken
      have hS2 := hS1.seg f (.there .end_)
      exact (kP hg c).1 t b bs _ ht hb hbs (Frm.of hS2 (.cons _ (List.Sublist.refl _)))
    · have hS2 := hS1.seg f (.there .end_)
      exact (kP hg c).2 ht bs ca ta wa _ hbs (Frm.of hS2 (.cons _ (List.Sublist.refl _)))
theorem ok_law_alike {n : Nat} {f : Addr} {fd : FuncData} (F : Fun K "_law_alike" "_law_alike" st_law_alike f fd) (T : Txt K mg Z) (D_law_alike : DefOk P w K mg base CX0 n "_law_alike" ["_law_found", "_law_due"] (sp_law_alike K Z n)) : FnOk P w K mg base CX0 (n + 1) f fd ["_law_found", "_law_due"] (sp_law_alike K Z (n + 1)) := by
  have cl_Log := T.cl_Log
  have na_Log__cut := T.na_Log__cut
  have na_Log__disk := T.na_Log__disk
  have na_Log__gone := T.na_Log__gone
  have na_Log__number := T.na_Log__number
  have na_Log__rows := T.na_Log__rows
  have na_Log__torn := T.na_Log__torn
  have cl_Disk := T.cl_Disk
  have na_Disk__blocks := T.na_Disk__blocks
  have na_Disk__let := T.na_Disk__let
  have na_Disk__part := T.na_Disk__part
  have na_Disk__reads := T.na_Disk__reads
  have na_Disk__writes := T.na_Disk__writes
  refine F.ok sc_law_alike (fun vs H Q E h => ?_) (fun cdv A outer s H vs Q E hr h => ?_)
  · obtain ⟨_, _, _, rfl, _⟩ := h
    rfl
  obtain ⟨x, y, d, rfl, hx, hy, hsh, k⟩ := h
  have hS : Hs [] H H [] [] := Hs.start0
  refine ⟨_, (pss_cons (ps_if (PW.pt (pw_or (pt_val (pe_callB (call_isiK' (K := K)) (by rfl) T.m_isinstance (by decide +kernel) (pa_cons (pv 1) (pa_cons (pe_bltn (v := .ty "tuple") (by rfl) T.m_tuple (by decide +kernel) rfl) pa_nil)))) (pw_or1 (pt_val (pe_callB (call_isiK' (K := K)) (by rfl) T.m_isinstance (by decide +kernel) (pa_cons (pv 1) (pa_cons (pe_bltn (v := .ty "list") (by rfl) T.m_list (by decide +kernel) rfl) pa_nil))))))) (pss_cons (ps_if (PW.pt (pw_or (pt_cmpR op_ne (pe_callB (call_isiK' (K := K)) (by rfl) T.m_isinstance (by decide +kernel) (pa_cons (pv 0) (pa_cons (pe_bltn (v := .ty "tuple") (by rfl) T.m_tuple (by decide +kernel) rfl) pa_nil))) (pe_callB (call_isiK' (K := K)) (by rfl) T.m_isinstance (by decide +kernel) (pa_cons (pv 1) (pa_cons (pe_bltn (v := .ty "tuple") (by rfl) T.m_tuple (by decide +kernel) rfl) pa_nil))) (nomark _)) (pw_or1 (pt_not (pt_val (pe_callB (call_isiTK (K := K)) (by rfl) T.m_isinstance (by decide +kernel) (pa_cons (pv 0) (pa_cons (pe_tup (pa_cons (pe_bltn (v := .ty "tuple") (by rfl) T.m_tuple (by decide +kernel) rfl) (pa_cons (pe_bltn (v := .ty "list") (by rfl) T.m_list (by decide +kernel) rfl) pa_nil))) pa_nil)))))))) (pss_one (ps_ret pe_bl)) pss_nil)
      (pss_cons (ps_if (pt_cmpR op_ne (pe_callB (call_lenK (K := K)) (by rfl) T.m_len (by decide +kernel) (pa_cons (pv 0) pa_nil)) (pe_callB (call_lenK (K := K)) (by rfl) T.m_len (by decide +kernel) (pa_cons (pv 1) pa_nil)) (nomark _)) (pss_one (ps_ret pe_bl)) pss_nil)
      (pss_one (ps_ret (pe_cmpR (op_eqDK (K := K) hr.units) (pe_lc (own := [("_law_k", 2)]) (g := gName 2) (by rfl) sc_law_alike.nd (pi_range1 rfl T.m_range (pa_cons (pe_callB (call_lenK (K := K)) (by rfl) T.m_len (by decide +kernel) (pa_cons (pv 1) pa_nil)) pa_nil)) (blkOk_by (N := ["_law_found", "_law_due", "_law_k"]) (sc := defScope st_law_alike) (by decide +kernel)) (fun _ _ _ _ _ => pg_name (i := 2) sc_law_alike.nd rfl (Or.inl rfl)) (fun _ _ _ _ _ => (pts_one (pt_not (pt_val (pe_callD D_law_alike hr (by rfl) pass0 (pa_cons (pe_ix (ix_anyK (K := K)) (pv 0) (pv 2) (fun _ _ => rfl)) (pa_cons (pe_ix (ix_anyK (K := K)) (pv 1) (pv 2) (fun _ _ => rfl)) pa_nil))))))) (fun _ _ _ _ _ => (pv 2))) (pe_lst pa_nil) (nomark _)))))) pss_nil)
      (pss_cons (ps_if (PW.pt (pw_or (pt_cmpR op_isN' (pv 1) pe_non (nomark _)) (pw_or1 (pt_cmpR op_isN' (pv 0) pe_non (nomark _))))) (pss_one (ps_ret (pe_and (pe_cmpR op_isN' (pv 1) pe_non (nomark _)) (pe_one (pe_cmpR op_isN' (pv 0) pe_non (nomark _)))))) pss_nil)
      (pss_cons (ps_if (PW.pt (pw_or (pt_val (pe_callB (call_isiK' (K := K)) (by rfl) T.m_isinstance (by decide +kernel) (pa_cons (pv 1) (pa_cons (pe_bltn (v := .ty "bool") (by rfl) T.m_bool (by decide +kernel) rfl) pa_nil)))) (pw_or1 (pt_val (pe_callB (call_isiK' (K := K)) (by rfl) T.m_isinstance (by decide +kernel) (pa_cons (pv 0) (pa_cons (pe_bltn (v := .ty "bool") (by rfl) T.m_bool (by decide +kernel) rfl) pa_nil))))))) (pss_one (ps_ret (pe_and (pe_callB (call_isiK' (K := K)) (by rfl) T.m_isinstance (by decide +kernel) (pa_cons (pv 1) (pa_cons (pe_bltn (v := .ty "bool") (by rfl) T.m_bool (by decide +kernel) rfl) pa_nil))) (pe_and (pe_callB (call_isiK' (K := K)) (by rfl) T.m_isinstance (by decide +kernel) (pa_cons (pv 0) (pa_cons (pe_bltn (v := .ty "bool") (by rfl) T.m_bool (by decide +kernel) rfl) pa_nil))) (pe_one (pe_cmpR op_eq (pv 0) (pv 1) (nomark _))))))) pss_nil)
      (pss_cons (ps_if (pt_val (pe_callB (call_isiK' (K := K)) (by rfl) T.m_isinstance (by decide +kernel) (pa_cons (pv 1) (pa_cons (pe_bltn (v := .ty "str") (by rfl) T.m_str (by decide +kernel) rfl) pa_nil)))) (pss_one (ps_ret (pe_and (pe_callB (call_isiK' (K := K)) (by rfl) T.m_isinstance (by decide +kernel) (pa_cons (pv 0) (pa_cons (pe_bltn (v := .ty "str") (by rfl) T.m_str (by decide +kernel) rfl) pa_nil))) (pe_one (pe_cmpR op_eq (pv 0) (pv 1) (nomark _)))))) pss_nil)
      (pss_one (ps_ret (pe_and (pe_callB (call_isiK' (K := K)) (by rfl) T.m_isinstance (by decide +kernel) (pa_cons (pv 0) (pa_cons (pe_bltn (v := .ty "int") (by rfl) T.m_int (by decide +kernel) rfl) pa_nil))) (pe_one (pe_cmpR op_eq (pv 0) (pv 1) (nomark _)))))))))), ?_⟩
  refine s_start (by simp only [L2.start, List.map_cons, List.map_nil, List.length_cons, List.length_nil, Nat.reduceAdd, Nat.reduceSub, List.replicate, List.cons_append, List.nil_append]; rfl) ?_
  cases hsh with
  | non =>
    cases hx
    cases hy
    k_sweep
    exact k _ (Hs.up (by assumption))
  | bl b =>
    cases hx
    cases hy
    k_sweep
    try rw [decide_eq_true rfl]
    exact k _ (Hs.up (by assumption))
  | int i =>
    cases hx
    cases hy
    k_sweep
    try rw [decide_eq_true rfl]
    exact k _ (Hs.up (by assumption))
  | str i =>
    cases hx
    cases hy
    k_sweep
    try rw [decide_eq_true rfl]
    exact k _ (Hs.up (by assumption))
  | @lst _ ds hl ha =>
    cases hx with
    | @lst a1 xs _ sx ax =>
      cases hy with
      | @lst a2 ys _ sy ay =>
        have hlx := DpAll.len ax
        have hly := DpAll.len ay
        k_sweep
        refine f_lcR fun D hD => ⟨fun _ H' => ∃ M, Hs [] H H' ((D, .lst []) :: M) [], ⟨_, Hs.new (by assumption) hD _⟩, ?_, ?_⟩
        · rintro i H2 hi ⟨M2, hS2⟩
          obtain ⟨d', hd'⟩ : ∃ d', ds[i]? = some d' := ⟨ds[i]'(by omega), List.getElem?_eq_getElem _⟩
          obtain ⟨v1, e1, p1⟩ := DpAll.get ax hd'
          obtain ⟨v2, e2, p2⟩ := DpAll.get ay hd'
          have a1 : atI xs (0 + (i : Int)) = some v1 := by rw [Int.zero_add]; exact atI_nat e1
          have a2 : atI ys (0 + (i : Int)) = some v2 := by rw [Int.zero_add]; exact atI_nat e2
          k_sweep
          refine ⟨v1, v2, d', rfl, Dp.same hS2.up.same p1, Dp.same hS2.up.same p2, ha _ (List.mem_of_getElem? hd'), fun H3 u => ?_⟩
          k_sweep
          exact ⟨_, hS2.call0 u⟩
        · rintro H2 ⟨M2, hS2⟩
          k_sweep
          exact k _ (Hs.up (by assumption))
  | @tup _ ds hl ha =>
    cases hx with
    | @tup a1 xs _ sx ax =>
      cases hy with
      | @tup a2 ys _ sy ay =>
        have hlx := DpAll.len ax
        have hly := DpAll.len ay
        k_sweep
        refine f_lcR fun D hD => ⟨fun _ H' => ∃ M, Hs [] H H' ((D, .lst []) :: M) [], ⟨_, Hs.new (by assumption) hD _⟩, ?_, ?_⟩
        · rintro i H2 hi ⟨M2, hS2⟩
          obtain ⟨d', hd'⟩ : ∃ d', ds[i]? = some d' := ⟨ds[i]'(by omega), List.getElem?_eq_getElem _⟩
          obtain ⟨v1, e1, p1⟩ := DpAll.get ax hd'
          obtain ⟨v2, e2, p2⟩ := DpAll.get ay hd'
          have a1 : atI xs (0 + (i : Int)) = some v1 := by rw [Int.zero_add]; exact atI_nat e1
          have a2 : atI ys (0 + (i : Int)) = some v2 := by rw [Int.zero_add]; exact atI_nat e2
          k_sweep
          refine ⟨v1, v2, d', rfl, Dp.same hS2.up.same p1, Dp.same hS2.up.same p2, ha _ (List.mem_of_getElem? hd'), fun H3 u => ?_⟩
          k_sweep
          exact ⟨_, hS2.call0 u⟩
        · rintro H2 ⟨M2, hS2⟩
          k_sweep
          exact k _ (Hs.up (by assumption))
theorem ok_law_deed {f : Addr} {fd : FuncData} (F : Fun K "_law_deed" "_law_deed" st_law_deed f fd) (T : Txt K mg Z) (D_law_taken : DefOk P w K mg base CX0 1 "_law_taken" ["_law_row", "_law_many"] (sp_law_taken K Z)) (D_law_row_of : DefOk P w K mg base CX0 2 "_law_row_of" ["_law_row"] (sp_law_row_of K Z)) : FnOk P w K mg base CX0 3 f fd ["_law_row"] (sp_law_deed K Z) := by
  have cl_Log := T.cl_Log
  have na_Log__cut := T.na_Log__cut
  have na_Log__disk := T.na_Log__disk
  have na_Log__gone := T.na_Log__gone
  have na_Log__number := T.na_Log__number
  have na_Log__rows := T.na_Log__rows
  have na_Log__torn := T.na_Log__torn
  have cl_Disk := T.cl_Disk
  have na_Disk__blocks := T.na_Disk__blocks
  have na_Disk__let := T.na_Disk__let
  have na_Disk__part := T.na_Disk__part
  have na_Disk__reads := T.na_Disk__reads
  have na_Disk__writes := T.na_Disk__writes
  refine F.ok sc_law_deed (fun vs H Q E h => ?_) (fun cdv A outer s H vs Q E hr h => ?_)
  · obtain ⟨_, _, _, _, _, rfl, _⟩ := h
    rfl
  obtain ⟨r, sc, o, ns, S, rfl, hH, ro, hs, k1, k2⟩ := h
  have hS := Hs.start1 hH
  refine ⟨_, (pss_one (ps_ret (pe_ifExp (pt_cmpR op_lt (pe_callD D_law_taken hr (by rfl) pass0 (pa_cons (pv 0) (pa_cons pe_int pa_nil))) pe_int (nomark _)) pe_non (pe_callD D_law_row_of hr (by rfl) pass0 (pa_cons (pv 0) pa_nil))))), ?_⟩
  refine s_start (by simp only [L2.start, List.map_cons, List.map_nil, List.length_cons, List.length_nil, Nat.reduceAdd, Nat.reduceSub, List.replicate, List.cons_append, List.nil_append]; rfl) ?_
  k_spoken
  rename_i v o1 H1 hv0 hv1 ro1 _ hS1
  apply s_iteD
  · intro c
    k_spoken
    exact k1 _ _ ro1 hS1
  · intro c
    k_spoken
    rename_i o2 ws p H2 h11 hb ro2 hS2
    exact k2 _ ws p _ h11 hb ro2 hS2
theorem ok_law_done {f : Addr} {fd : FuncData} (F : Fun K "_law_done" "_law_done" st_law_done f fd) (T : Txt K mg Z) (M_Log___init__ : MakeOk P w K mg base CX0 6 Z.Log ["self", "disk"] (sp_Log___init__ K Z)) (M_Disk_stop_after : MethOk P w K mg base (L2.CX P w) 2 Z.Disk "stop_after" ["self", "count", "part"] (sp_Disk_stop_after K Z)) (M_Disk_go_on : MethOk P w K mg base CX0 1 Z.Disk "go_on" ["self"] (sp_Disk_go_on K Z)) (D_law_taken : DefOk P w K mg base CX0 1 "_law_taken" ["_law_row", "_law_many"] (sp_law_taken K Z)) (D_law_told : DefOk P w K mg base CX0 6 "_law_told" ["_law_log", "_law_words"] (sp_law_told K Z)) : FnOk P w K mg base CX0 8 f fd ["_law_row", "_law_disk", "_law_log", "_law_words"] (sp_law_done K Z) := by
  obtain ⟨f_Log___init__, fd_Log___init__, G_Log___init__, b_Log___init__, m_Log___init__⟩ := M_Log___init__.ex
  obtain ⟨f_Disk_stop_after, fd_Disk_stop_after, G_Disk_stop_after, b_Disk_stop_after, m_Disk_stop_after⟩ := M_Disk_stop_after.ex
  obtain ⟨f_Disk_go_on, fd_Disk_go_on, G_Disk_go_on, b_Disk_go_on, m_Disk_go_on⟩ := M_Disk_go_on.ex
  have cl_Log := T.cl_Log
  have na_Log__cut := T.na_Log__cut
  have na_Log__disk := T.na_Log__disk
  have na_Log__gone := T.na_Log__gone
  have na_Log__number := T.na_Log__number
  have na_Log__rows := T.na_Log__rows
  have na_Log__torn := T.na_Log__torn
  have cl_Disk := T.cl_Disk
  have na_Disk__blocks := T.na_Disk__blocks
  have na_Disk__let := T.na_Disk__let
  have na_Disk__part := T.na_Disk__part
  have na_Disk__reads := T.na_Disk__reads
  have na_Disk__writes := T.na_Disk__writes
  refine F.ok sc_law_done (fun vs H Q E h => ?_) (fun cdv A outer s H vs Q E hr h => ?_)
  · rcases h with ⟨_, _, _, _, _, _, _, _, _, _, rfl, _⟩ | ⟨_, _, _, _, _, _, _, _, _, _, _, _, rfl, _⟩ <;> rfl
  skip
  refine ⟨_, (pss_cons (ps_for PassesOwn.never rfl (pi_range1 rfl T.m_range (pa_cons pe_int pa_nil)) (pg_name (i := 4) sc_law_done.nd rfl (Or.inl rfl))
      (pss_cons (ps_if (pt_cmpR op_eq (pe_callD D_law_taken hr (by rfl) pass0 (pa_cons (pv 0) (pa_cons pe_int pa_nil))) pe_int (nomark _)) (pss_one (ps_expr (pe_meth (pv 1) T.cl_Disk m_Disk_stop_after G_Disk_stop_after (hr.mono (by decide)) b_Disk_stop_after .nil passL (pa_cons (pe_callD D_law_taken hr (by rfl) pass0 (pa_cons (pv 0) (pa_cons pe_int pa_nil))) (pa_cons (pe_callD D_law_taken hr (by rfl) pass0 (pa_cons (pv 0) (pa_cons pe_int pa_nil))) pa_nil))))) pss_nil)
      (pss_cons (ps_set (i := 5) sc_law_done.nd rfl (Or.inl rfl) (pe_callD D_law_told hr (by rfl) pass0 (pa_cons (pv 2) (pa_cons (pv 3) pa_nil))))
      (pss_cons (ps_expr (pe_meth0 (pv 1) T.cl_Disk m_Disk_go_on G_Disk_go_on (hr.mono (by decide)) b_Disk_go_on .nil pass0))
      (pss_cons (ps_if (pt_cmpR (op_neDK (K := K) hr.units) (pv 5) pe_str (nomark _)) (pss_one (ps_ret (pe_tup (pa_cons (pv 2) (pa_cons (pv 5) pa_nil))))) pss_nil)
      (pss_one (ps_set (i := 2) sc_law_done.nd rfl (Or.inl rfl) (pe_make m_Log___init__ G_Log___init__ (hr.mono (by decide)) (by rfl) T.g_Log b_Log___init__ .nil pass0 (pa_cons (pv 1) pa_nil)))))))))
      (pss_one (ps_ret (pe_tup (pa_cons (pv 2) (pa_cons (pe_callD D_law_told hr (by rfl) pass0 (pa_cons (pv 2) (pa_cons (pv 3) pa_nil))) pa_nil)))))), ?_⟩
  refine s_start (by simp only [L2.start, List.map_cons, List.map_nil, List.length_cons, List.length_nil, Nat.reduceAdd, Nat.reduceSub, List.replicate, List.cons_append, List.nil_append]; rfl) ?_
  rcases h with ⟨r, sc, lg, o, ns, S, l, s, ws, c, rfl, hH, ro, hsc, ⟨m, dr, lr, hlt, hws, hmc, hmr⟩, hbig, kE, kP⟩ | ⟨r, sc, lg, wr, o, ns, S, l, s, ws, c, row, rfl, hH, ro, hsc, ⟨m, dr, lr, hlt, hws, hmc, hmr⟩, hbig, h11, hwb, kP⟩
  · have hS := Hs.startM hH
    k_node
    refine f_range (fun i σ H' => ∃ (o' : HO) (lg' : Addr) (l' : LS) (s' : DS) (m' : MS) (x4 x5 : Option V), σ = [some (.ref r), some (.ref l.d), some (.ref lg'), some .non, x4, x5] ∧ RowO sc o' ∧ l'.d = l.d ∧ DRel s' m' ∧ LRel l' m' ∧ m'.lt = none ∧ wordsM m' = ws ∧ m'.num ≤ c ∧ Hs ((lgL Z r o lg l s).map Prod.fst) H H' (lgL Z r o' lg' l' s') S) ⟨o, lg, l, s, m, _, _, rfl, ro, rfl, dr, lr, hlt, hws, hmc, hS⟩ ?_ ?_
    · clear hS ro dr lr hlt hws hmc hmr
      rintro i σ H1 hi ⟨o1, lg1, l1, s1, m1, x4, x5, rfl, ro1, hd1, dr1, lr1, hlt1, hws1, hmc1, hS1⟩
      rw [← hd1]
      rw [← hd1] at kE kP
      k_spoken
      refine s_join (fun σ' H' => ∃ (o2 : HO) (s2 : DS) (m2 : MS), σ' = [some (.ref r), some (.ref l1.d), some (.ref lg1), some .non, some (.int ((0 : Int) + i)), x5] ∧ RowO sc o2 ∧ DRel s2 m2 ∧ LRel l1 m2 ∧ wordsM m2 = ws ∧ m2.num ≤ c ∧ Hs ((lgL Z r o lg l s).map Prod.fst) H H' (lgL Z r o2 lg1 l1 s2) S) ?_ ?_
      · clear hS1 ro1 dr1 lr1 hlt1 hws1 hmc1
        rintro σ' H2 ⟨o2, s2, m2, rfl, ro2, dr2, lr2, hws2, hmc2, hS2⟩
        k_node
        refine told_takeS (hS2.part (.cons _ (.refl _))) dr2 lr2 (by omega) (fun hr => ?_) (fun s3 m3 H3 dr3 hr3 hn3 hnn3 f => ?_) (fun x xs p l3 s3 m3 H3 hr dr3 lr3 hd3 hxs hn3 hnn3 f => ?_)
        · k_spoken
          k_node
          refine ⟨l1.d, s2, rfl, hS2.part (.cons _ (List.sublist_append_right _ _)), fun H4 f => ?_⟩
          have hS4 := hS2.seg f (.there (.skip .end_))
          clear hS2 f
          have dr4 := dr2.on
          have hwe : ws = [] := by rw [← hws2]; unfold wordsM; rw [hr]; rfl
          have hg := room_ge dr4
          have lr4 : LRel l1 { m2 with lt := none, p := 0 } := ⟨lr2.num, lr2.torn, lr2.cut, lr2.gone, lr2.rows⟩
          k_spoken
          k_node
          refine s_neDX (.str _) (.str _) (shapedD _ (by decide +kernel)) (shapedD _ (by decide +kernel)) ?_
          rw [show PyData.eqv (.str "empty") (.str "stopped") = false from by simp [PyData.eqv]; decide]
          k_spoken
          rename_i t H5 hS5 _ _
          exact kE hwe t lg1 o2 l1 _ H5 ro2 ⟨_, dr4, lr4, rfl, hws2.trans hwe, by show m2.num ≤ _; omega, hg⟩ rfl (Frm.of hS5 (.refl _))
        · have hS3 := hS2.seg f (.there .end_)
          clear hS2 f
          k_spoken
          k_node
          refine ⟨l1.d, s3, rfl, hS3.part (.cons _ (.refl _)), fun H4 f => ?_⟩
          have hS4 := hS3.seg f (.there .end_)
          clear hS3 f
          have dr4 := dr3.on
          k_spoken
          k_node
          refine s_neDX (.str _) (.str _) (shapedD _ (by decide +kernel)) (shapedD _ (by decide +kernel)) ?_
          rw [show PyData.eqv (.str "stopped") (.str "stopped") = true from by simp [PyData.eqv]]
          k_spoken
          refine s_kMake hS4 ?_
          intro x dx H5 hS5 u5 hx hdx
          have hS6 := hS5.perm (M' := (r, o2) :: (x, HO.ins Z.Log dx []) :: (dx, HO.own x) :: diskL Z l1.d { s3 with lt := none }) ((List.Perm.swap _ _ _).trans (List.Perm.cons _ (List.Perm.swap _ _ _)))
          clear hS5 hS4
          refine up_log (hS6.part (.cons _ (.refl _))) dr4 (by show m3.num ≤ _; omega) fun l5 r5 H6 hd5 lr5 dr5 f => ⟨rfl, ?_⟩
          have hS7 := hS6.seg f (.there .end_)
          clear hS6 f
          rw [← hd5] at hS7
          k_spoken
          exact ⟨o2, x, l5, _, _, _, _, rfl, ro2, hd5, dr5, lr5, rfl, by rw [← hws2]; unfold wordsM; show m3.rows.map _ = _; rw [hr3], by show m3.num ≤ _; omega, hS7⟩
        · have hS3 := hS2.seg f (.there .end_)
          clear hS2 f
          have fp : H3 p = some (.lst (x.2.2.map V.int)) := hS3.getM (.tail _ (.head _))
          have hx11 := dr2.rr x (by rw [hr]; exact List.mem_cons_self)
          have hwe : ws = x.2.2 :: wordsM m3 := by rw [← hws2]; unfold wordsM; rw [hr, hxs]; rfl
          k_spoken
          k_node
          refine ⟨l1.d, s3, rfl, hS3.part (.cons _ (List.sublist_append_right ((p, HO.lst (x.2.2.map V.int)) :: logL Z lg1 l3) _)), fun H4 f => ?_⟩
          have hS4 := hS3.seg f (.there (.skip .end_))
          have fp4 : H4 p = some (.lst (x.2.2.map V.int)) := hS4.getM (.tail _ (.head _))
          clear hS3 f fp
          have dr4 := dr3.on
          have hg := room_ge dr4
          k_spoken
          k_node
          refine s_neDX (Dp.ints (SqL.of fp4)) (.str _) (shaped_ints _) (shapedD _ (by decide +kernel)) ?_
          rw [show PyData.eqv (.list (x.2.2.map PyData.int)) (.str "stopped") = false from by simp [PyData.eqv]]
          k_spoken
          rename_i t H5 hS5 _ _
          have lr4 : LRel l3 { m3 with lt := none, p := 0 } := ⟨lr3.num, lr3.torn, lr3.cut, lr3.gone, lr3.rows⟩
          refine kP _ _ hwe t p lg1 o2 l3 _ H5 ro2 ⟨_, dr4, lr4, rfl, rfl, by show m3.num ≤ _; omega, hg⟩ hd3 ?_
          unfold lgL
          rw [hd3]
          exact Frm.of (hS5.perm (List.Perm.cons _ (List.Perm.swap _ _ _))) (.refl _)
      · intro U hU
        k_spoken
        rename_i v o2 H2 hv0 hv1 ro2 _ hS2
        apply s_iteD
        · intro cv
          k_spoken
          rename_i c1 o3 H3 hc0 hc1 ro3 _ hS3 p1 o4 H4 hp0 hp1 ro4 _ hS4
          have w1 : wholeB (.int c1) 0 1000000000000000 = true := by
            simp only [wholeB, Bool.and_eq_true, decide_eq_true_eq]
            omega
          have w2 : wholeB (.int p1) 0 7 = true := by
            simp only [wholeB, Bool.and_eq_true, decide_eq_true_eq]
            omega
          refine ⟨l1.d, s1, .int c1, .int p1, rfl, hS4.part (.cons _ (List.sublist_append_right _ _)), trivial, trivial, fun z => ?_, fun i j e1 e2 _ H5 f => ?_⟩
          · rw [w1, w2] at z
            cases z
          obtain rfl : c1 = i := V.int.inj e1
          obtain rfl : p1 = j := V.int.inj e2
          have hS5 := hS4.seg f (.there (.skip .end_))
          k_spoken
          exact hU _ _ ⟨o4, _, _, rfl, ro4, dr1.stop hc0 hp0 (by omega), ⟨lr1.num, lr1.torn, lr1.cut, lr1.gone, lr1.rows⟩, hws1, hmc1, hS5⟩
        · intro cv
          k_spoken
          exact hU _ _ ⟨o2, s1, m1, rfl, ro2, dr1, lr1, hws1, hmc1, hS2⟩
    · clear hS ro dr lr hlt hws hmc hmr
      rintro σ H1 ⟨o1, lg1, l1, s1, m1, x4, x5, rfl, ro1, hd1, dr1, lr1, hlt1, hws1, hmc1, hS1⟩
      rw [← hd1]
      rw [← hd1] at kE kP
      k_spoken
      cases hr : m1.rows with
      | nil =>
        have hwe : ws = [] := by rw [← hws1]; unfold wordsM; rw [hr]; rfl
        refine told_empty (hS1.part (.cons _ (.refl _))) (kw := m1.w) dr1 lr1 hlt1 (by omega) hr ?_
        k_spoken
        rename_i t H5 hS5 _ _
        exact kE hwe t lg1 o1 l1 _ H5 ro1 ⟨_, dr1, lr1, hlt1, hws1.trans hwe, by omega, room_ge dr1⟩ rfl (Frm.of hS5 (.refl _))
      | cons x xs =>
        have hwe : ws = x.2.2 :: xs.map fun x => x.2.2 := by rw [← hws1]; unfold wordsM; rw [hr]; rfl
        refine told_take (hS1.part (.cons _ (.refl _))) (kw := m1.w) dr1 lr1 hlt1 (by omega) hr (ca := m1.ca) (bs := m1.bs) rfl fun p l3 s3 H4 hd3 lr3 dr3 hs3 f => ?_
        have hS4 := hS1.seg f (.there .end_)
        clear hS1 f
        have hn3 : ({ mWrite m1 m1.bs m1.ca (markB (m1.num + 1) (floorU m1.rw.tail m1.num)) with rows := xs } : MS).num ≤ c + 1 := by
          show m1.num + 1 ≤ c + 1
          omega
        have hlt3 : ({ mWrite m1 m1.bs m1.ca (markB (m1.num + 1) (floorU m1.rw.tail m1.num)) with rows := xs } : MS).lt = none := by
          show m1.lt.map _ = none
          rw [hlt1]
          rfl
        have dr3' : DRel s3 { mWrite m1 m1.bs m1.ca (markB (m1.num + 1) (floorU m1.rw.tail m1.num)) with rows := xs } := dr3
        have hw3 : wordsM { mWrite m1 m1.bs m1.ca (markB (m1.num + 1) (floorU m1.rw.tail m1.num)) with rows := xs } = xs.map fun x => x.2.2 := rfl
        clear dr3
        generalize ({ mWrite m1 m1.bs m1.ca (markB (m1.num + 1) (floorU m1.rw.tail m1.num)) with rows := xs } : MS) = m3 at *
        k_spoken
        rename_i t H5 hS5 _ _
        refine kP _ _ hwe t p lg1 o1 l3 _ H5 ro1 ⟨_, dr3', lr3, hlt3, hw3, hn3, room_ge dr3'⟩ hd3 ?_
        unfold lgL
        rw [hd3]
        exact Frm.of (hS5.perm (List.Perm.cons _ (List.Perm.swap _ _ _))) (.refl _)
  · have hS := Hs.startM hH
    have hlen := pcs_len row
    k_node
    refine f_range (fun i σ H' => ∃ (o' : HO) (lg' : Addr) (l' : LS) (s' : DS) (m' : MS) (x4 x5 : Option V), σ = [some (.ref r), some (.ref l.d), some (.ref lg'), some (.ref wr), x4, x5] ∧ RowO sc o' ∧ l'.d = l.d ∧ DRel s' m' ∧ LRel l' m' ∧ m'.lt = none ∧ wordsM m' = ws ∧ m'.num ≤ c + 3 * (i : Int) ∧ 4 * ((pcs row).length : Int) - 3 - (i : Int) * ((pcs row).length - 1) ≤ roomM m' ∧ Hs (((wr, HO.lst (row.map V.int)) :: lgL Z r o lg l s).map Prod.fst) H H' ((wr, .lst (row.map V.int)) :: lgL Z r o' lg' l' s') S) ⟨o, lg, l, s, m, _, _, rfl, ro, rfl, dr, lr, hlt, hws, by omega, by show 4 * ((pcs row).length : Int) - 3 - 0 * _ ≤ _; omega, hS⟩ ?_ ?_
    · clear hS ro dr lr hlt hws hmc hmr
      rintro i σ H1 hi ⟨o1, lg1, l1, s1, m1, x4, x5, rfl, ro1, hd1, dr1, lr1, hlt1, hws1, hmc1, hrm1, hS1⟩
      have hi : i < 3 := by omega
      have hrm : ((pcs row).length : Int) ≤ roomM m1 := by
        have : i = 0 ∨ i = 1 ∨ i = 2 := by omega
        rcases this with rfl | rfl | rfl
        · simp only [Int.ofNat_zero, Int.natCast_zero, Int.cast_ofNat_Int] at hrm1
          omega
        · simp only [Int.cast_ofNat_Int] at hrm1
          omega
        · simp only [Int.cast_ofNat_Int] at hrm1
          omega
      have hin : (i : Int) * ((pcs row).length - 1) + ((pcs row).length - 1) = ((i + 1 : Nat) : Int) * ((pcs row).length - 1) := by
        push_cast
        rw [Int.add_mul, Int.one_mul]
      rw [← hd1]
      rw [← hd1] at kP
      k_spoken
      refine s_join (fun σ' H' => ∃ (o2 : HO) (s2 : DS) (m2 : MS), σ' = [some (.ref r), some (.ref l1.d), some (.ref lg1), some (.ref wr), some (.int ((0 : Int) + i)), x5] ∧ RowO sc o2 ∧ DRel s2 m2 ∧ LRel l1 m2 ∧ wordsM m2 = ws ∧ m2.num = m1.num ∧ roomM m2 = roomM m1 ∧ Hs (((wr, HO.lst (row.map V.int)) :: lgL Z r o lg l s).map Prod.fst) H H' ((wr, .lst (row.map V.int)) :: lgL Z r o2 lg1 l1 s2) S) ?_ ?_
      · clear hS1 ro1 dr1 lr1 hlt1 hws1
        rintro σ' H2 ⟨o2, s2, m2, rfl, ro2, dr2, lr2, hws2, hmc2, hrm2, hS2⟩
        k_node
        refine told_putS (hS2.part (.cons₂ _ (.cons _ (.refl _)))) h11 hwb dr2 lr2 (by omega) (by omega) (fun t s3 m3 H3 htl dr3 hr3 hn3 hnn3 f => ?_) (fun l3 s3 m3 H3 dr3 lr3 hd3 hw3 hn3 hnn3 f => ?_)
        · have hS3 := hS2.seg f (.there (.there .end_))
          clear hS2 f
          have hrc := roomM_cut hr3 hnn3 hn3 (by omega)
          k_spoken
          k_node
          refine ⟨l1.d, s3, rfl, hS3.part (.cons _ (.cons _ (.refl _))), fun H4 f => ?_⟩
          have hS4 := hS3.seg f (.there (.there .end_))
          clear hS3 f
          have dr4 := dr3.on
          k_spoken
          k_node
          refine s_neDX (.str _) (.str _) (shapedD _ (by decide +kernel)) (shapedD _ (by decide +kernel)) ?_
          rw [show PyData.eqv (.str "stopped") (.str "stopped") = true from by simp [PyData.eqv]]
          k_spoken
          refine s_kMake hS4 ?_
          intro x dx H5 hS5 u5 hx hdx
          have hS6 := hS5.perm (M' := (wr, HO.lst (row.map V.int)) :: (r, o2) :: (x, HO.ins Z.Log dx []) :: (dx, HO.own x) :: diskL Z l1.d { s3 with lt := none }) (perm_4 _ _ _ _ _)
          clear hS5 hS4
          refine up_log (hS6.part (.cons _ (.cons _ (.refl _)))) dr4 (by show m3.num ≤ _; omega) fun l5 r5 H6 hd5 lr5 dr5 f => ⟨rfl, ?_⟩
          have hS7 := hS6.seg f (.there (.there .end_))
          clear hS6 f
          rw [← hd5] at hS7
          k_spoken
          exact ⟨o2, x, l5, _, _, _, _, rfl, ro2, hd5, dr5, lr5, rfl, by rw [← hws2]; unfold wordsM; show m3.rows.map _ = _; rw [hr3], by show m3.num ≤ _; push_cast; omega, by show _ ≤ roomM m3; omega, hS7⟩
        · have hS3 := hS2.seg f (.there (.there .end_))
          clear hS2 f
          k_spoken
          k_node
          refine ⟨l1.d, s3, rfl, hS3.part (.cons _ (.cons _ (List.sublist_append_right _ _))), fun H4 f => ?_⟩
          have hS4 := hS3.seg f (.there (.there (.skip .end_)))
          clear hS3 f
          have dr4 := dr3.on
          have hg := room_ge dr4
          k_spoken
          k_node
          refine s_neDX (.int _) (.str _) rfl (shapedD _ (by decide +kernel)) ?_
          rw [show PyData.eqv (.int (m2.num + 1)) (.str "stopped") = false from by simp [PyData.eqv]]
          k_spoken
          rename_i t H5 hS5 _ _
          have lr4 : LRel l3 { m3 with lt := none, p := 0 } := ⟨lr3.num, lr3.torn, lr3.cut, lr3.gone, lr3.rows⟩
          refine kP t lg1 (m2.num + 1) o2 l3 _ H5 ro2 ⟨_, dr4, lr4, rfl, by rw [← hws2]; exact hw3, by show m3.num ≤ _; omega, hg⟩ hd3 ?_
          unfold lgL
          rw [hd3]
          exact Frm.of hS5 (.refl _)
      · intro U hU
        k_spoken
        rename_i v o2 H2 hv0 hv1 ro2 _ hS2
        apply s_iteD
        · intro cv
          k_spoken
          rename_i c1 o3 H3 hc0 hc1 ro3 _ hS3 p1 o4 H4 hp0 hp1 ro4 _ hS4
          have w1 : wholeB (.int c1) 0 1000000000000000 = true := by
            simp only [wholeB, Bool.and_eq_true, decide_eq_true_eq]
            omega
          have w2 : wholeB (.int p1) 0 7 = true := by
            simp only [wholeB, Bool.and_eq_true, decide_eq_true_eq]
            omega
          refine ⟨l1.d, s1, .int c1, .int p1, rfl, hS4.part (.cons _ (.cons _ (List.sublist_append_right _ _))), trivial, trivial, fun z => ?_, fun i j e1 e2 _ H5 f => ?_⟩
          · rw [w1, w2] at z
            cases z
          obtain rfl : c1 = i := V.int.inj e1
          obtain rfl : p1 = j := V.int.inj e2
          have hS5 := hS4.seg f (.there (.there (.skip .end_)))
          k_spoken
          exact hU _ _ ⟨o4, _, _, rfl, ro4, dr1.stop hc0 hp0 (by omega), ⟨lr1.num, lr1.torn, lr1.cut, lr1.gone, lr1.rows⟩, hws1, rfl, rfl, hS5⟩
        · intro cv
          k_spoken
          exact hU _ _ ⟨o2, s1, m1, rfl, ro2, dr1, lr1, hws1, rfl, rfl, hS2⟩
    · clear hS ro dr lr hlt hws hmc hmr
      rintro σ H1 ⟨o1, lg1, l1, s1, m1, x4, x5, rfl, ro1, hd1, dr1, lr1, hlt1, hws1, hmc1, hrm1, hS1⟩
      rw [← hd1]
      rw [← hd1] at kP
      have hrm : ((pcs row).length : Int) ≤ roomM m1 := by
        have hrm1 : 4 * ((pcs row).length : Int) - 3 - 3 * ((pcs row).length - 1) ≤ roomM m1 := hrm1
        omega
      have hmc1 : m1.num ≤ c + 3 * 3 := hmc1
      k_spoken
      refine told_put (hS1.part (.cons₂ _ (.cons _ (.refl _)))) h11 hwb (kw := m1.w) dr1 lr1 hlt1 (by omega) hrm (ca := m1.ca) (ta := 0) (wm := wr) (bs := m1.bs) rfl fun l3 s3 H4 hd3 lr3 dr3 hs3 f => ?_
      have hS4 := hS1.seg f (.there (.there .end_))
      clear hS1 f
      have hn3 : ({ mPut m1 m1.bs m1.ca (floorU m1.rw m1.num) (rowB row (floorU m1.rw m1.num) (m1.num + 1)) with rows := m1.rows ++ [(((0 : Addr), wr), (m1.num + 1, row))] } : MS).num ≤ c + 16 := by
        show m1.num + ((rowB row (floorU m1.rw m1.num) (m1.num + 1)).length : Nat) ≤ c + 16
        rw [rowB_len]
        omega
      have hlt3 : ({ mPut m1 m1.bs m1.ca (floorU m1.rw m1.num) (rowB row (floorU m1.rw m1.num) (m1.num + 1)) with rows := m1.rows ++ [(((0 : Addr), wr), (m1.num + 1, row))] } : MS).lt = none := by
        show m1.lt.map _ = none
        rw [hlt1]
        rfl
      have hw3 : wordsM { mPut m1 m1.bs m1.ca (floorU m1.rw m1.num) (rowB row (floorU m1.rw m1.num) (m1.num + 1)) with rows := m1.rows ++ [(((0 : Addr), wr), (m1.num + 1, row))] } = ws ++ [row] := by
        rw [← hws1]
        show (m1.rows ++ [_]).map _ = m1.rows.map _ ++ [row]
        rw [List.map_append]
        rfl
      have dr3' : DRel s3 { mPut m1 m1.bs m1.ca (floorU m1.rw m1.num) (rowB row (floorU m1.rw m1.num) (m1.num + 1)) with rows := m1.rows ++ [(((0 : Addr), wr), (m1.num + 1, row))] } := dr3
      clear dr3
      generalize ({ mPut m1 m1.bs m1.ca (floorU m1.rw m1.num) (rowB row (floorU m1.rw m1.num) (m1.num + 1)) with rows := m1.rows ++ [(((0 : Addr), wr), (m1.num + 1, row))] } : MS) = m3 at *
      k_spoken
      rename_i t H5 hS5 _ _
      refine kP t lg1 (m1.num + 1) o1 l3 _ H5 ro1 ⟨_, dr3', lr3, hlt3, hw3, hn3, room_ge dr3'⟩ hd3 ?_
      unfold lgL
      rw [hd3]
      exact Frm.of hS5 (.refl _)
theorem ok_law {f : Addr} {fd : FuncData} (F : Fun K "law" "law" st_law f fd) (T : Txt K mg Z) (M_Log___init__ : MakeOk P w K mg base CX0 6 Z.Log ["self", "disk"] (sp_Log___init__ K Z)) (M_Log_rows : MethOk P w K mg base CX0 1 Z.Log "rows" ["self"] (sp_Log_rows K Z)) (M_Log_room : MethOk P w K mg base CX0 2 Z.Log "room" ["self"] (sp_Log_room K Z)) (M_Disk___init__ : MakeOk P w K mg base (L2.CX P w) 2 Z.Disk ["self", "many"] (sp_Disk___init__ K Z)) (D_law_taken : DefOk P w K mg base CX0 1 "_law_taken" ["_law_row", "_law_many"] (sp_law_taken K Z)) (D_law_pieces : DefOk P w K mg base CX0 1 "_law_pieces" ["_law_words"] (sp_law_pieces K Z)) (D_law_alike : DefOk P w K mg base CX0 6 "_law_alike" ["_law_found", "_law_due"] (sp_law_alike K Z 6)) (D_law_deed : DefOk P w K mg base CX0 3 "_law_deed" ["_law_row"] (sp_law_deed K Z)) (D_law_done : DefOk P w K mg base CX0 8 "_law_done" ["_law_row", "_law_disk", "_law_log", "_law_words"] (sp_law_done K Z)) : FnOk P w K mg base CX0 9 f fd ["_law_script"] (sp_law K Z) := by
  obtain ⟨f_Log___init__, fd_Log___init__, G_Log___init__, b_Log___init__, m_Log___init__⟩ := M_Log___init__.ex
  obtain ⟨f_Log_rows, fd_Log_rows, G_Log_rows, b_Log_rows, m_Log_rows⟩ := M_Log_rows.ex
  obtain ⟨f_Log_room, fd_Log_room, G_Log_room, b_Log_room, m_Log_room⟩ := M_Log_room.ex
  obtain ⟨f_Disk___init__, fd_Disk___init__, G_Disk___init__, b_Disk___init__, m_Disk___init__⟩ := M_Disk___init__.ex
  have cl_Log := T.cl_Log
  have na_Log__cut := T.na_Log__cut
  have na_Log__disk := T.na_Log__disk
  have na_Log__gone := T.na_Log__gone
  have na_Log__number := T.na_Log__number
  have na_Log__rows := T.na_Log__rows
  have na_Log__torn := T.na_Log__torn
  have cl_Disk := T.cl_Disk
  have na_Disk__blocks := T.na_Disk__blocks
  have na_Disk__let := T.na_Disk__let
  have na_Disk__part := T.na_Disk__part
  have na_Disk__reads := T.na_Disk__reads
  have na_Disk__writes := T.na_Disk__writes
  refine F.ok sc_law (fun vs H Q E h => ?_) (fun cdv A outer s H vs Q E hr h => ?_)
  · obtain ⟨_, _, rfl, _⟩ := h
    rfl
  obtain ⟨sc, ns, rfl, hs0, hz, kq⟩ := h
  obtain ⟨S, hsc, hS0⟩ := ScrL.of hs0
  have hS := Hs.startI hS0
  refine ⟨_, (pss_cons (ps_set (i := 1) sc_law.nd rfl (Or.inl rfl) (pe_lst (pa_cons (pv 0) (pa_cons pe_int (pa_cons pe_int pa_nil)))))
      (pss_cons (ps_set (i := 2) sc_law.nd rfl (Or.inl rfl) (pe_op op_add pe_int (pe_callD D_law_taken hr (by rfl) pass0 (pa_cons (pv 1) (pa_cons pe_int pa_nil)))))
      (pss_cons (ps_set (i := 3) sc_law.nd rfl (Or.inl rfl) (pe_lst (pa_cons (pe_make m_Disk___init__ G_Disk___init__ (hr.mono (by decide)) (by rfl) T.g_Disk b_Disk___init__ .nil passL (pa_cons (pv 2) pa_nil)) (pa_cons (pe_make m_Disk___init__ G_Disk___init__ (hr.mono (by decide)) (by rfl) T.g_Disk b_Disk___init__ .nil passL (pa_cons (pe_callB (call_min2 rfl) (by rfl) T.m_min (by decide +kernel) (pa_cons pe_int (pa_cons (pe_op op_add (pv 2) (pe_callD D_law_taken hr (by rfl) pass0 (pa_cons (pv 1) (pa_cons pe_int pa_nil)))) pa_nil))) pa_nil)) pa_nil))))
      (pss_cons (ps_set (i := 4) sc_law.nd rfl (Or.inl rfl) (pe_lst (pa_cons (pe_make m_Log___init__ G_Log___init__ (hr.mono (by decide)) (by rfl) T.g_Log b_Log___init__ .nil pass0 (pa_cons (pe_ix (ix_listK (K := K)) (pv 3) pe_int (fun _ _ => rfl)) pa_nil)) (pa_cons (pe_make m_Log___init__ G_Log___init__ (hr.mono (by decide)) (by rfl) T.g_Log b_Log___init__ .nil pass0 (pa_cons (pe_ix (ix_listK (K := K)) (pv 3) pe_int (fun _ _ => rfl)) pa_nil)) pa_nil))))
      (pss_cons (ps_set (i := 5) sc_law.nd rfl (Or.inl rfl) (pe_lst pa_nil))
      (pss_cons (ps_for PassesOwn.never rfl (pi_range1 rfl T.m_range (pa_cons (pe_callD D_law_taken hr (by rfl) pass0 (pa_cons (pv 1) (pa_cons pe_int pa_nil))) pa_nil)) (pg_name (i := 6) sc_law.nd rfl (Or.inl rfl))
      (pss_cons (ps_set (i := 7) sc_law.nd rfl (Or.inl rfl) (pe_callD D_law_deed hr (by rfl) pass0 (pa_cons (pv 1) pa_nil)))
      (pss_cons (ps_if (PW.pt (pw_and (pt_cmpR op_notN' (pv 7) pe_non (nomark _)) (pw_and1 (pt_cmpR op_gt (pe_op op_sub (pe_op op_mul pe_int (pe_callB (call_lenK (K := K)) (by rfl) T.m_len (by decide +kernel) (pa_cons (pe_callD D_law_pieces hr (by rfl) pass0 (pa_cons (pv 7) pa_nil)) pa_nil))) pe_int) (pe_callB (call_min2 rfl) (by rfl) T.m_min (by decide +kernel) (pa_cons (pe_meth0 (pe_ix (ix_listK (K := K)) (pv 4) pe_int (fun _ _ => rfl)) T.cl_Log m_Log_room G_Log_room (hr.mono (by decide)) b_Log_room .nil pass0) (pa_cons (pe_meth0 (pe_ix (ix_listK (K := K)) (pv 4) pe_int (fun _ _ => rfl)) T.cl_Log m_Log_room G_Log_room (hr.mono (by decide)) b_Log_room .nil pass0) pa_nil))) (nomark _))))) (pss_one (ps_set (i := 7) sc_law.nd rfl (Or.inl rfl) pe_non)) pss_nil)
      (pss_cons (ps_set (i := 8) sc_law.nd rfl (Or.inl rfl) (pe_lst pa_nil))
      (pss_cons (ps_for PassesOwn.never rfl (pi_range1 rfl T.m_range (pa_cons pe_int pa_nil)) (pg_name (i := 9) sc_law.nd rfl (Or.inl rfl))
      (pss_cons (ps_asg (pe_callD D_law_done hr (by rfl) pass0 (pa_cons (pv 1) (pa_cons (pe_ix (ix_listK (K := K)) (pv 3) (pv 9) (fun _ _ => rfl)) (pa_cons (pe_ix (ix_listK (K := K)) (pv 4) (pv 9) (fun _ _ => rfl)) (pa_cons (pv 7) pa_nil))))) (pg_tupK (K := K) rfl (pgs_cons (pg_sub (pv 4) (pv 9) set_list) (pgs_cons (pg_name (i := 10) sc_law.nd rfl (Or.inl rfl)) pgs_nil))))
      (pss_one (ps_expr (pe_bmK (K := K) PySem.F.plainAttrs_list PySem.F.slot_list_append PySem.F.type_list_append mt_append (pv 8) (pa_cons (pv 10) pa_nil))))))
      (pss_cons (ps_if (pt_cmpR op_isN' (pv 7) pe_non (nomark _)) (pss_cons (ps_set (i := 11) sc_law.nd rfl (Or.inl rfl) (pe_ifExp (pt_cmpR (op_neDK (K := K) hr.units) (pv 5) (pe_lst pa_nil) (nomark _)) (pe_bmK (K := K) PySem.F.plainAttrs_list PySem.F.slot_list_pop PySem.F.type_list_pop mt_popAt (pv 5) (pa_cons pe_int pa_nil)) pe_str))
      (pss_one (ps_if (pt_not (pt_val (pe_callD D_law_alike hr (by rfl) pass0 (pa_cons (pv 8) (pa_cons (pe_lst (pa_cons (pv 11) (pa_cons (pv 11) pa_nil))) pa_nil))))) (pss_one (ps_ret pe_bl)) pss_nil))) (pss_one (ps_if (pt_cmpR (op_neDK (K := K) hr.units) (pe_lc (own := [("_law_answer", 10)]) (g := gName 10) (by rfl) sc_law.nd (pi_listK (K := K) (pv 8)) (blkOk_by (N := ["_law_script", "_law_row", "_law_many", "_law_disks", "_law_logs", "_law_due", "_law_k", "_law_words", "_law_told_here", "_law_j", "_law_answer", "_law_oldest"]) (sc := defScope st_law) (by decide +kernel)) (fun _ _ _ _ _ => pg_name (i := 10) sc_law.nd rfl (Or.inl rfl)) (fun _ _ _ _ _ => (pts_one (pt_not (pt_val (pe_callB (call_isiK' (K := K)) (by rfl) T.m_isinstance (by decide +kernel) (pa_cons (pv 10) (pa_cons (pe_bltn (v := .ty "int") (by rfl) T.m_int (by decide +kernel) rfl) pa_nil))))))) (fun _ _ _ _ _ => (pv 10))) (pe_lst pa_nil) (nomark _)) (pss_one (ps_ret pe_bl)) (pss_one (ps_expr (pe_bmK (K := K) PySem.F.plainAttrs_list PySem.F.slot_list_append PySem.F.type_list_append mt_append (pv 5) (pa_cons (pv 7) pa_nil)))))))
      (pss_one (ps_if (pt_not (pt_val (pe_callD D_law_alike hr (by rfl) pass0 (pa_cons (pe_lst (pa_cons (pe_meth0 (pe_ix (ix_listK (K := K)) (pv 4) pe_int (fun _ _ => rfl)) T.cl_Log m_Log_rows G_Log_rows (hr.mono (by decide)) b_Log_rows .nil pass0) (pa_cons (pe_meth0 (pe_ix (ix_listK (K := K)) (pv 4) pe_int (fun _ _ => rfl)) T.cl_Log m_Log_rows G_Log_rows (hr.mono (by decide)) b_Log_rows .nil pass0) pa_nil))) (pa_cons (pe_lst (pa_cons (pv 5) (pa_cons (pv 5) pa_nil))) pa_nil))))) (pss_one (ps_ret pe_bl)) pss_nil))))))))
      (pss_one (ps_ret pe_bl)))))))), ?_⟩
  refine s_start (by simp only [L2.start, List.map_cons, List.map_nil, List.length_cons, List.length_nil, Nat.reduceAdd, Nat.reduceSub, List.replicate, List.cons_append, List.nil_append]; rfl) ?_
  k_node
  rename_i r H1 hS1 _ _
  have ro1 : RowO sc (.lst [.ref sc, .int 0, .int 0]) := ⟨0, 0, Int.le_refl 0, rfl⟩
  k_node
  rename_i v1 o1 H2 hv10 hv11 ro2 _ hS2
  clear hS hS1
  obtain ⟨n1, hn1⟩ : ∃ n1 : Nat, 4 + v1 = (n1 : Int) := ⟨(4 + v1).toNat, by omega⟩
  rw [hn1]
  k_node
  refine s_kMake hS2 ?_
  intro d1 dx1 H3 hS3 u3 hd1 hdx1
  refine ⟨d1, dx1, .int n1, rfl, hS3.part (.cons₂ _ (.cons₂ _ (List.nil_sublist _))), trivial, fun c => ?_, fun n2 en _ _ bl1 bs1 H4 hbs1 f => ?_⟩
  · simp only [wholeB, Bool.and_eq_false_iff, decide_eq_false_iff_not] at c
    omega
  obtain rfl : (n1 : Int) = n2 := V.int.inj en
  rw [Int.toNat_natCast] at hbs1 f
  have hS4 := (hS3.seg f (.here (L := [_, _]))).perm (List.perm_append_comm (l₁ := [(r, o1)]))
  have hS4 : Hs [] H H4 ((r, o1) :: diskL Z d1 ⟨dx1, bl1, bs1, List.replicate n1 (List.replicate 8 0), 0, 0, none, 0⟩) S := hS4
  clear hS3 f hS2
  refine ⟨rfl, ?_⟩
  k_spoken
  rename_i v2 o2 H5 hv20 hv21 ro3 _ hS5
  clear hS4
  refine ⟨_, _, rfl, ?_⟩
  obtain ⟨n2, hn2, g4, g64⟩ : ∃ n2 : Nat, (if (n1 : Int) + v2 < 64 then (n1 : Int) + v2 else 64) = (n2 : Int) ∧ 4 ≤ n2 ∧ n2 ≤ 64 := by
    split
    · exact ⟨((n1 : Int) + v2).toNat, by omega, by omega, by omega⟩
    · exact ⟨64, rfl, by omega, by omega⟩
  rw [hn2]
  k_spoken
  refine s_kMake hS5 ?_
  intro d2 dx2 H6 hS6 u6 hd2 hdx2
  refine ⟨d2, dx2, .int n2, rfl, hS6.part (.cons₂ _ (.cons₂ _ (List.nil_sublist _))), trivial, fun c => ?_, fun n3 en3 _ _ bl2 bs2 H7 hbs2 f => ?_⟩
  · simp only [wholeB, Bool.and_eq_false_iff, decide_eq_false_iff_not] at c
    omega
  obtain rfl : (n2 : Int) = n3 := V.int.inj en3
  rw [Int.toNat_natCast] at hbs2 f
  have hS7 : Hs [] H H7 (diskL Z d2 ⟨dx2, bl2, bs2, List.replicate n2 (List.replicate 8 0), 0, 0, none, 0⟩ ++ ((r, o2) :: diskL Z d1 ⟨dx1, bl1, bs1, List.replicate n1 (List.replicate 8 0), 0, 0, none, 0⟩)) S := hS6.seg f (.here (L := [_, _]))
  clear hS6 f hS5
  have dr1 : DRel ⟨dx1, bl1, bs1, List.replicate n1 (List.replicate 8 0), 0, 0, none, 0⟩ ⟨n1, 0, bs1, List.replicate n1 (List.replicate 8 0), n1 - 1, n1 - 1, 0, [], 0, [], none, none, 0, 0, false⟩ := fresh_rel (by omega) (by omega) hbs1 hbs1
  have dr2 : DRel ⟨dx2, bl2, bs2, List.replicate n2 (List.replicate 8 0), 0, 0, none, 0⟩ ⟨n2, 0, bs2, List.replicate n2 (List.replicate 8 0), n2 - 1, n2 - 1, 0, [], 0, [], none, none, 0, 0, false⟩ := fresh_rel g4 g64 hbs2 hbs2
  generalize (⟨dx1, bl1, bs1, List.replicate n1 (List.replicate 8 0), 0, 0, none, 0⟩ : DS) = s1 at *
  generalize (⟨dx2, bl2, bs2, List.replicate n2 (List.replicate 8 0), 0, 0, none, 0⟩ : DS) = s2 at *
  refine ⟨rfl, ?_⟩
  k_spoken
  k_node
  rename_i ds H8 hS8 _ _
  have hS9 := hS8.perm (M' := (ds, .lst [.ref d1, .ref d2]) :: (r, o2) :: (diskL Z d1 s1 ++ diskL Z d2 s2)) (perm_ds _ _ _ _)
  clear hS8 hS7
  refine s_kMake hS9 ?_
  intro lg1 ldx1 H9 hS10 _ hlg1 hldx1
  have hS10 := hS10.perm (M' := (ds, .lst [.ref d1, .ref d2]) :: (r, o2) :: (((lg1, HO.ins Z.Log ldx1 []) :: (ldx1, HO.own lg1) :: diskL Z d1 s1) ++ diskL Z d2 s2)) (perm_4 _ _ _ _ _)
  refine up_log (hS10.part (.cons _ (.cons _ (List.sublist_append_left _ _)))) dr1 (by show (n1 : Int) - 1 ≤ _; omega) fun l1 r1 H10 hl1 lr1 dr1 f => ⟨rfl, ?_⟩
  have hS11 := hS10.seg f (.there (.there .here))
  clear hS10 f hS9
  generalize ({ s1 with r := r1 } : DS) = s1 at *
  k_spoken
  refine s_kMake hS11 ?_
  intro lg2 ldx2 H11 hS12 _ hlg2 hldx2
  have hS12 := hS12.perm (M' := (ds, .lst [.ref d1, .ref d2]) :: (r, o2) :: ((logL Z lg1 l1 ++ diskL Z d1 s1) ++ ((lg2, HO.ins Z.Log ldx2 []) :: (ldx2, HO.own lg2) :: diskL Z d2 s2))) (perm_lg2 _ _ _ _ _ _)
  refine up_log (hS12.part (.cons _ (.cons _ (List.sublist_append_right _ _)))) dr2 (by show (n2 : Int) - 1 ≤ _; omega) fun l2 r2 H12 hl2 lr2 dr2 f => ⟨rfl, ?_⟩
  have hS13 := hS12.seg f (.there (.there (.skip .end_)))
  clear hS12 f hS11
  generalize ({ s2 with r := r2 } : DS) = s2 at *
  have lgA : Lg s1 l1 [] 100 0 := ⟨_, dr1, lr1, rfl, rfl, by show (n1 : Int) - 1 ≤ 100; omega, room_ge dr1⟩
  have lgB : Lg s2 l2 [] 100 0 := ⟨_, dr2, lr2, rfl, rfl, by show (n2 : Int) - 1 ≤ 100; omega, room_ge dr2⟩
  clear dr1 dr2 lr1 lr2
  subst hl1 hl2
  k_spoken
  rename_i ls H13 hS14 _ _
  k_node
  rename_i du H14 hS15 _ _
  clear hS13 hS14
  k_node
  rename_i v3 o4 H15 hv30 hv31 ro4 _ hS16
  have hS17 : Hs [] H H15 (bsL Z ls ds du r o4 lg1 l1 s1 lg2 l2 s2 [] []) S := hS16.perm (perm_b3 _ _ _ _ _ _ _ _)
  clear hS15 hS16
  refine f_range (fun i σ H' => ∃ (o : HO) (lg1 : Addr) (l1 : LS) (s1 : DS) (lg2 : Addr) (l2 : LS) (s2 : DS) (dq : List Addr) (dws : List (List Int)) (x6 x7 x8 x9 x10 x11 : Option V), σ = [some (.ref sc), some (.ref r), some (.int n1), some (.ref ds), some (.ref ls), some (.ref du), x6, x7, x8, x9, x10, x11] ∧ RowO sc o ∧ Lg s1 l1 dws (100 + 16 * (i : Int)) 0 ∧ Lg s2 l2 dws (100 + 16 * (i : Int)) 0 ∧ dq.length = dws.length ∧ dws.length ≤ i ∧ (∀ w ∈ dws, w.length ≤ 11) ∧ Hs [] H H' (bsL Z ls ds du r o lg1 l1 s1 lg2 l2 s2 dq dws) S) ⟨o4, lg1, l1, s1, lg2, l2, s2, [], [], _, _, _, _, _, _, rfl, ro4, lgA.mono (by omega), lgB.mono (by omega), rfl, Nat.le_refl _, (fun w hw => nomatch hw), hS17⟩ ?_ ?_
  · clear hS17 lgA lgB ro4
    rintro i σ H1 hi ⟨o, lg1, l1, s1, lg2, l2, s2, dq, dws, x6, x7, x8, x9, x10, x11, rfl, ro, lgA, lgB, hdq, hdl, hdw, hS⟩
    have hi : i < 41 := by omega
    k_spoken
    refine s_join2 (fun σ' H' => ∃ (o' : HO) (x7 : V), σ' = [some (.ref sc), some (.ref r), some (.int n1), some (.ref ds), some (.ref ls), some (.ref du), some (.int ((0 : Int) + i)), some x7, x8, x9, x10, x11] ∧ RowO sc o' ∧ ((x7 = .non ∧ Hs [] H H' (bsL Z ls ds du r o' lg1 l1 s1 lg2 l2 s2 dq dws) S) ∨ (∃ (wr : Addr) (ws : List Int), x7 = .ref wr ∧ ws.length ≤ 11 ∧ (∀ x ∈ ws, 0 ≤ x ∧ x ≤ 999999999) ∧ Lg s1 l1 dws (100 + 16 * (i : Int)) (4 * (pcs ws).length - 3) ∧ Lg s2 l2 dws (100 + 16 * (i : Int)) (4 * (pcs ws).length - 3) ∧ Hs [] H H' ((wr, .lst (ws.map V.int)) :: bsL Z ls ds du r o' lg1 l1 s1 lg2 l2 s2 dq dws) S))) ?_ ?_
    · clear hS ro
      rintro σ' H2 ⟨o2, x7, rfl, ro2, hcase⟩
      refine s_join3 (fun σ' H' => ∃ (o : HO) (lg1 : Addr) (l1' : LS) (s1 : DS) (lg2 : Addr) (l2' : LS) (s2 : DS) (dq : List Addr) (dws : List (List Int)) (x7 x8 x9 x10 x11 : Option V), σ' = [some (.ref sc), some (.ref r), some (.int n1), some (.ref ds), some (.ref ls), some (.ref du), some (.int ((0 : Int) + i)), x7, x8, x9, x10, x11] ∧ RowO sc o ∧ Lg s1 l1' dws (100 + 16 * ((i + 1 : Nat) : Int)) 0 ∧ Lg s2 l2' dws (100 + 16 * ((i + 1 : Nat) : Int)) 0 ∧ dq.length = dws.length ∧ dws.length ≤ i + 1 ∧ (∀ w ∈ dws, w.length ≤ 11) ∧ Hs [] H H' (bsL Z ls ds du r o lg1 l1' s1 lg2 l2' s2 dq dws) S) ?_ ?_
      · clear hcase ro2 lgA lgB hdq hdl hdw
        rintro σ' H3 ⟨o, lg1, l1, s1, lg2, l2, s2, dq, dws, x7, x8, x9, x10, x11, rfl, ro, lgA, lgB, hdq, hdl, hdw, hS⟩
        have wA := lgA.words
        have wB := lgB.words
        k_spoken
        refine ⟨lg1, l1, rfl, hS.part (.cons _ (.cons _ (.cons _ (.cons _ ((List.sublist_append_left _ _).trans (List.sublist_append_left _ _)))))), wA.2, fun D1 q1 H4 hq1 hc1 => ?_⟩
        rw [wA.1] at hc1
        have hS1 : Hs [] H H4 (((D1, .lst (q1.map V.ref)) :: rowsL q1 dws) ++ bsL Z ls ds du r o lg1 l1 s1 lg2 l2 s2 dq dws) S := Hs.frame0 (I' := []) hc1 hS
        clear hS hc1
        k_spoken
        refine ⟨lg2, l2, rfl, hS1.part ((List.Sublist.cons _ (.cons _ (.cons _ (.cons _ (((List.sublist_append_left _ _).trans (List.sublist_append_left _ _)).trans (List.sublist_append_right _ _)))))).trans (List.sublist_append_right _ _)), wB.2, fun D2 q2 H5 hq2 hc2 => ?_⟩
        rw [wB.1] at hc2
        have hS2 : Hs [] H H5 (((D2, .lst (q2.map V.ref)) :: rowsL q2 dws) ++ (((D1, .lst (q1.map V.ref)) :: rowsL q1 dws) ++ bsL Z ls ds du r o lg1 l1 s1 lg2 l2 s2 dq dws)) S := Hs.frame0 (I' := []) hc2 hS1
        clear hS1 hc2
        have wl : dws.length = l1.rows.length := by rw [← wA.1, List.length_map]
        have wl2 : dws.length = l2.rows.length := by rw [← wB.1, List.length_map]
        have fD1 : H5 D1 = some (.lst (q1.map V.ref)) := hS2.getM (List.mem_append_right _ (List.mem_append_left _ (.head _)))
        have fD2 : H5 D2 = some (.lst (q2.map V.ref)) := hS2.getM (.head _)
        have fdu : H5 du = some (.lst (dq.map V.ref)) := hS2.getM (List.mem_append_right _ (List.mem_append_right _ (.tail _ (.tail _ (.head _)))))
        have r1 : ∀ y ∈ rowsL q1 dws, H5 y.1 = some y.2 := fun y hy => hS2.getM (List.mem_append_right _ (List.mem_append_left _ (.tail _ hy)))
        have r2 : ∀ y ∈ rowsL q2 dws, H5 y.1 = some y.2 := fun y hy => hS2.getM (List.mem_append_left _ (.tail _ hy))
        have r3 : ∀ y ∈ rowsL dq dws, H5 y.1 = some y.2 := fun y hy => hS2.getM (List.mem_append_right _ (List.mem_append_right _ (.tail _ (.tail _ (.tail _ (.tail _ (List.mem_append_right _ (List.mem_append_right _ hy))))))))
        k_spoken
        rename_i pa Ha hSa ua _ pb Hb hSb ub _
        have up : ∀ {a : Addr} {o : HO}, H5 a = some o → Hb a = some o := fun h => ub _ _ (fun z => nomatch z) (ua _ _ (fun z => nomatch z) h)
        have dpl : ∀ {a : Addr} {q : List Addr}, H5 a = some (.lst (q.map V.ref)) → (∀ y ∈ rowsL q dws, H5 y.1 = some y.2) → q.length = dws.length → Dp K Hb (.ref a) (.list (dws.map fun xs => PyData.list (xs.map PyData.int))) := fun h1 h2 h3 => .lst (SqL.of (up h1)) (dp_rows (fun y hy => up (h2 y hy)) h3)
        refine ⟨_, _, _, rfl, dp_two (hSb.getM (.tail _ (.head _))) (dpl fD1 r1 (by omega)) (dpl fD2 r2 (by omega)), dp_two (hSb.getM (.head _)) (dpl fdu r3 hdq) (dpl fdu r3 hdq), sh_two (Sh.lists (n := 2) (by omega) (fun w hw => by have := hdw w hw; omega)), fun H6 u6 => ?_⟩
        have hS3 := (hSb.call0 u6).sub (M' := bsL Z ls ds du r o lg1 l1 s1 lg2 l2 s2 dq dws) (.cons _ (.cons _ ((List.sublist_append_right _ _).trans (List.sublist_append_right _ _))))
        clear hSa hSb hS2 u6 fD1 fD2 fdu r1 r2 r3 dpl up ua ub
        k_spoken
        exact ⟨o, lg1, l1, s1, lg2, l2, s2, dq, dws, _, _, _, _, _, _, rfl, ro, lgA, lgB, hdq, hdl, hdw, hS3⟩
      · intro U hU
        rcases hcase with ⟨rfl, hS⟩ | ⟨wr, ws, rfl, h11, hwb, lgC, lgD, hS⟩
        · k_node
          rename_i th H3 hS3 _ _
          k_node
          refine f_range (fun j σ H' => ∃ (o : HO) (lg1 : Addr) (l1' : LS) (s1 : DS) (lg2 : Addr) (l2' : LS) (s2 : DS) (as : List V) (G : List (Addr × HO)) (x9 x10 : Option V), σ = [some (.ref sc), some (.ref r), some (.int n1), some (.ref ds), some (.ref ls), some (.ref du), some (.int ((0 : Int) + i)), some .non, some (.ref th), x9, x10, x11] ∧ RowO sc o ∧ l1'.d = l1.d ∧ l2'.d = l2.d ∧ Lg s1 l1' (if j = 0 then dws else dws.tail) (100 + 16 * (i : Int) + j) 0 ∧ Lg s2 l2' (if j ≤ 1 then dws else dws.tail) (100 + 16 * (i : Int) + j) 0 ∧ as.length = j ∧ (∀ Hx : Hp, (∀ y ∈ G, Hx y.1 = some y.2) → DpAll K Hx as (List.replicate j (ansD dws))) ∧ Hs [] H H' ((th, .lst as) :: (ls, .lst [.ref lg1, .ref lg2]) :: (ds, .lst [.ref l1.d, .ref l2.d]) :: (du, .lst (dq.map V.ref)) :: (r, o) :: (prL Z lg1 l1' s1 ++ (prL Z lg2 l2' s2 ++ (rowsL dq dws ++ G)))) S) ⟨o2, lg1, l1, s1, lg2, l2, s2, [], [], _, _, rfl, ro2, rfl, rfl, by simpa using lgA, by simpa using lgB, rfl, fun _ _ => .nil, hS3.cast (by rw [List.append_nil])⟩ ?_ ?_
          · clear hS3 hS ro2 lgA lgB
            rintro j σ H4 hj ⟨o, lg1, l1', s1, lg2, l2', s2, as, G, x9, x10, rfl, ro, hd1, hd2, lgA, lgB, has, hdp, hS⟩
            have hj : j = 0 ∨ j = 1 := by omega
            rcases hj with rfl | rfl
            · rw [if_pos rfl] at lgA
              rw [show (0 : Int) + ((0 : Nat) : Int) = 0 from rfl]
              k_spoken
              k_node
              refine done_take hd1 (hS.partI (.cons _ (.cons _ (.cons _ (.cons _ (.cons₂ _ (List.sublist_append_left _ _))))))) ro hsc lgA (by omega) fun t a G0 lg' o' l' s' H5 ro' lgA' hd' hans f => ?_
              have hS1 : Hs [] H H5 ((th, .lst as) :: (ls, .lst [.ref lg1, .ref lg2]) :: (ds, .lst [.ref l1.d, .ref l2.d]) :: (du, .lst (dq.map V.ref)) :: (((t, .tup [.ref lg', a]) :: (G0 ++ lgL Z r o' lg' l' s')) ++ (prL Z lg2 l2' s2 ++ (rowsL dq dws ++ G)))) S := hS.seg f (.there (.there (.there (.there (.here (L := lgL Z r o lg1 l1' s1))))))
              clear hS f
              k_spoken
              rename_i H6 hS6 u6 H7 hS7 u7
              have hS8 := (hS7.sub (M' := (th, .lst (as ++ [a])) :: (ls, .lst [.ref lg', .ref lg2]) :: (ds, .lst [.ref l1.d, .ref l2.d]) :: (du, .lst (dq.map V.ref)) :: ((G0 ++ lgL Z r o' lg' l' s') ++ (prL Z lg2 l2' s2 ++ (rowsL dq dws ++ G)))) (.cons₂ _ (.cons₂ _ (.cons₂ _ (.cons₂ _ (.cons _ (.refl _))))))).perm (M' := (th, .lst (as ++ [a])) :: (ls, .lst [.ref lg', .ref lg2]) :: (ds, .lst [.ref l1.d, .ref l2.d]) :: (du, .lst (dq.map V.ref)) :: ((r, o') :: (prL Z lg' l' s' ++ (prL Z lg2 l2' s2 ++ (rowsL dq dws ++ (G ++ G0)))))) (.cons _ (.cons _ (.cons _ (.cons _ (perm_t0 _ _ _ _ _ _)))))
              clear hS6 hS7 hS1 u6 u7
              exact ⟨o', lg', l', s', lg2, l2', s2, _, _, _, _, rfl, ro', hd'.trans hd1, hd2, lgA'.mono (by push_cast; omega), lgB.mono (by push_cast; omega), by rw [List.length_append, has]; rfl, rep_dp hdp hans, hS8⟩
            · have lgB : Lg s2 l2' dws (100 + 16 * (i : Int) + ((1 : Nat) : Int)) 0 := lgB
              have lgA : Lg s1 l1' dws.tail (100 + 16 * (i : Int) + ((1 : Nat) : Int)) 0 := lgA
              rw [show (0 : Int) + ((1 : Nat) : Int) = 1 from rfl]
              have hS := hS.perm (M' := (th, .lst as) :: (ls, .lst [.ref lg1, .ref lg2]) :: (ds, .lst [.ref l1.d, .ref l2.d]) :: (du, .lst (dq.map V.ref)) :: ((r, o) :: (prL Z lg2 l2' s2 ++ (prL Z lg1 l1' s1 ++ (rowsL dq dws ++ G))))) (.cons _ (.cons _ (.cons _ (.cons _ (perm_sw _ _ _ _)))))
              k_spoken
              k_node
              refine done_take hd2 (hS.partI (.cons _ (.cons _ (.cons _ (.cons _ (.cons₂ _ (List.sublist_append_left _ _))))))) ro hsc lgB (by omega) fun t a G0 lg' o' l' s' H5 ro' lgB' hd' hans f => ?_
              have hS1 : Hs [] H H5 ((th, .lst as) :: (ls, .lst [.ref lg1, .ref lg2]) :: (ds, .lst [.ref l1.d, .ref l2.d]) :: (du, .lst (dq.map V.ref)) :: (((t, .tup [.ref lg', a]) :: (G0 ++ lgL Z r o' lg' l' s')) ++ (prL Z lg1 l1' s1 ++ (rowsL dq dws ++ G)))) S := hS.seg f (.there (.there (.there (.there (.here (L := lgL Z r o lg2 l2' s2))))))
              clear hS f
              k_spoken
              rename_i H6 hS6 u6 H7 hS7 u7
              have hS8 := (hS7.sub (M' := (th, .lst (as ++ [a])) :: (ls, .lst [.ref lg1, .ref lg']) :: (ds, .lst [.ref l1.d, .ref l2.d]) :: (du, .lst (dq.map V.ref)) :: ((G0 ++ lgL Z r o' lg' l' s') ++ (prL Z lg1 l1' s1 ++ (rowsL dq dws ++ G)))) (.cons₂ _ (.cons₂ _ (.cons₂ _ (.cons₂ _ (.cons _ (.refl _))))))).perm (M' := (th, .lst (as ++ [a])) :: (ls, .lst [.ref lg1, .ref lg']) :: (ds, .lst [.ref l1.d, .ref l2.d]) :: (du, .lst (dq.map V.ref)) :: ((r, o') :: (prL Z lg1 l1' s1 ++ (prL Z lg' l' s' ++ (rowsL dq dws ++ (G ++ G0)))))) (.cons _ (.cons _ (.cons _ (.cons _ (perm_t1 _ _ _ _ _ _)))))
              clear hS6 hS7 hS1 u6 u7
              exact ⟨o', lg1, l1', s1, lg', l', s', _, _, _, _, rfl, ro', hd1, hd'.trans hd2, lgA.mono (by push_cast; omega), lgB'.mono (by push_cast; omega), by rw [List.length_append, has]; rfl, rep_dp hdp hans, hS8⟩
          · clear hS3 hS ro2 lgA lgB
            rintro σ H4 ⟨o, lg1, l1', s1, lg2, l2', s2, as, G, x9, x10, rfl, ro, hd1, hd2, lgA, lgB, has, hdp, hS⟩
            have lgA : Lg s1 l1' dws.tail (100 + 16 * (i : Int) + 2) 0 := lgA
            have lgB : Lg s2 l2' dws.tail (100 + 16 * (i : Int) + 2) 0 := lgB
            have hdp : ∀ Hx : Hp, (∀ y ∈ G, Hx y.1 = some y.2) → DpAll K Hx as [ansD dws, ansD dws] := hdp
            k_spoken
            cases dws with
            | nil =>
              obtain rfl : dq = [] := List.eq_nil_of_length_eq_zero hdq
              k_node
              rename_i e H5 hS5 _ _
              have fdu : H5 du = some (.lst []) := hS5.getM (.tail _ (.tail _ (.tail _ (.tail _ (.head _)))))
              have fe : H5 e = some (.lst []) := hS5.getM (.head _)
              refine s_neDX (.lst (SqL.of fdu) .nil) (.lst (SqL.of fe) .nil) (shaped_ints []) (shaped_ints []) ?_
              rw [show PyData.eqv (.list []) (.list []) = true from by simp [PyData.eqv, PyData.eqvAll]]
              k_spoken
              rename_i p2 H6 hS6 _ _
              have fth : H6 th = some (.lst as) := hS6.getM (.tail _ (.tail _ (.head _)))
              have fG : ∀ y ∈ G, H6 y.1 = some y.2 := fun y hy => hS6.getM (.tail _ (.tail _ (.tail _ (.tail _ (.tail _ (.tail _ (.tail _ (List.mem_append_right _ (List.mem_append_right _ (List.mem_append_right _ hy))))))))))
              refine ⟨_, _, .list [.str "empty", .str "empty"], rfl, .lst (SqL.of fth) (hdp _ fG), dp_two (hS6.getM (.head _)) (.str _) (.str _), sh_two (.str _), fun H7 u7 => ?_⟩
              have hS7 : Hs [] H H7 (bsL Z ls ds du r o lg1 l1' s1 lg2 l2' s2 [] []) S := by
                unfold bsL
                rw [hd1, hd2]
                exact (hS6.call0 u7).sub (.cons _ (.cons _ (.cons _ (.cons₂ _ (.cons₂ _ (.cons₂ _ (.cons₂ _ (.append (.refl _) (.append (.refl _) (List.sublist_append_left _ _))))))))))
              clear hS6 hS5 hS
              k_spoken
              exact hU _ _ ⟨o, lg1, l1', s1, lg2, l2', s2, [], [], _, _, _, _, _, rfl, ro, lgA.mono (by push_cast; omega), lgB.mono (by push_cast; omega), rfl, Nat.zero_le _, (fun w hw => nomatch hw), hS7⟩
            | cons w wss =>
              cases dq with
              | nil => cases hdq
              | cons q dq =>
                have hS := hS.cast (M' := (th, .lst as) :: (ls, .lst [.ref lg1, .ref lg2]) :: (ds, .lst [.ref l1.d, .ref l2.d]) :: (du, .lst (.ref q :: dq.map V.ref)) :: (r, o) :: (prL Z lg1 l1' s1 ++ (prL Z lg2 l2' s2 ++ (((q, .lst (w.map V.int)) :: rowsL dq wss) ++ G)))) rfl
                k_node
                rename_i e H5 hS5 _ _
                have fdu : H5 du = some (.lst ((q :: dq).map V.ref)) := hS5.getM (.tail _ (.tail _ (.tail _ (.tail _ (.head _)))))
                have fe : H5 e = some (.lst []) := hS5.getM (.head _)
                have fR : ∀ y ∈ rowsL (q :: dq) (w :: wss), H5 y.1 = some y.2 := fun y hy => hS5.getM (.tail _ (.tail _ (.tail _ (.tail _ (.tail _ (.tail _ (List.mem_append_right _ (List.mem_append_right _ (List.mem_append_left _ hy)))))))))
                refine s_neDX (.lst (SqL.of fdu) (dp_rows fR hdq)) (.lst (SqL.of fe) .nil) ((Sh.lists (n := 2) (by omega) (fun w hw => by have := hdw w hw; omega)).shaped (by decide) (lay_lists _)) (shaped_ints []) ?_
                rw [show PyData.eqv (.list ((w :: wss).map fun xs => PyData.list (xs.map PyData.int))) (.list []) = false from by simp [PyData.eqv, PyData.eqvAll]]
                clear fdu fe fR
                k_spoken
                rename_i H6 hS6 _ p2 H7 hS7 _ _
                have fth : H7 th = some (.lst as) := hS7.getM (.tail _ (.tail _ (.head _)))
                have fG : ∀ y ∈ G, H7 y.1 = some y.2 := fun y hy => hS7.getM (.tail _ (.tail _ (.tail _ (.tail _ (.tail _ (.tail _ (.tail _ (List.mem_append_right _ (List.mem_append_right _ (List.mem_append_right _ hy))))))))))
                have fq : H7 q = some (.lst (w.map V.int)) := hS7.getM (.tail _ (.tail _ (.tail _ (.tail _ (.tail _ (.tail _ (.tail _ (List.mem_append_right _ (List.mem_append_right _ (List.mem_append_left _ (.head _)))))))))))
                have hw11 := hdw w (.head _)
                refine ⟨_, _, .list [.list (w.map PyData.int), .list (w.map PyData.int)], rfl, .lst (SqL.of fth) (hdp _ fG), dp_two (hS7.getM (.head _)) (Dp.ints (SqL.of fq)) (Dp.ints (SqL.of fq)), sh_two (Sh.ints (n := 3) (by omega)), fun H8 u8 => ?_⟩
                have hS8 : Hs [] H H8 (bsL Z ls ds du r o lg1 l1' s1 lg2 l2' s2 dq wss) S := by
                  unfold bsL
                  rw [hd1, hd2]
                  exact (hS7.call0 u8).sub (.cons _ (.cons _ (.cons _ (.cons₂ _ (.cons₂ _ (.cons₂ _ (.cons₂ _ (.append (.refl _) (.append (.refl _) (.cons _ (List.sublist_append_left _ _)))))))))))
                clear hS7 hS6 hS5 hS fth fG fq
                k_spoken
                exact hU _ _ ⟨o, lg1, l1', s1, lg2, l2', s2, dq, wss, _, _, _, _, _, rfl, ro, lgA.mono (by push_cast; omega), lgB.mono (by push_cast; omega), Nat.succ.inj hdq, by have : (w :: wss).length ≤ i := hdl; simp only [List.length_cons] at this; omega, fun x hx => hdw x (.tail _ hx), hS8⟩
        · k_node
          rename_i th H3 hS3 _ _
          have hS3 := hS3.perm (M' := (th, .lst (([] : List Int).map V.int)) :: (ls, .lst [.ref lg1, .ref lg2]) :: (ds, .lst [.ref l1.d, .ref l2.d]) :: (du, .lst (dq.map V.ref)) :: (wr, .lst (ws.map V.int)) :: (r, o2) :: (prL Z lg1 l1 s1 ++ (prL Z lg2 l2 s2 ++ rowsL dq dws))) (perm_wr4 _ _ _ _ _ _)
          k_node
          refine f_range (fun j σ H' => ∃ (o : HO) (lg1 : Addr) (l1' : LS) (s1 : DS) (lg2 : Addr) (l2' : LS) (s2 : DS) (as : List Int) (x9 x10 : Option V), σ = [some (.ref sc), some (.ref r), some (.int n1), some (.ref ds), some (.ref ls), some (.ref du), some (.int ((0 : Int) + i)), some (.ref wr), some (.ref th), x9, x10, x11] ∧ RowO sc o ∧ l1'.d = l1.d ∧ l2'.d = l2.d ∧ (j = 0 → Lg s1 l1' dws (100 + 16 * (i : Int)) (4 * (pcs ws).length - 3)) ∧ (1 ≤ j → Lg s1 l1' (dws ++ [ws]) (100 + 16 * ((i + 1 : Nat) : Int)) 0) ∧ (j ≤ 1 → Lg s2 l2' dws (100 + 16 * (i : Int)) (4 * (pcs ws).length - 3)) ∧ (2 ≤ j → Lg s2 l2' (dws ++ [ws]) (100 + 16 * ((i + 1 : Nat) : Int)) 0) ∧ as.length = j ∧ Hs [] H H' ((th, .lst (as.map V.int)) :: (ls, .lst [.ref lg1, .ref lg2]) :: (ds, .lst [.ref l1.d, .ref l2.d]) :: (du, .lst (dq.map V.ref)) :: (wr, .lst (ws.map V.int)) :: (r, o) :: (prL Z lg1 l1' s1 ++ (prL Z lg2 l2' s2 ++ rowsL dq dws))) S) ⟨o2, lg1, l1, s1, lg2, l2, s2, [], _, _, rfl, ro2, rfl, rfl, fun _ => lgC, (fun z => by omega), fun _ => lgD, (fun z => by omega), rfl, hS3⟩ ?_ ?_
          · clear hS3 hS ro2 lgA lgB lgC lgD
            rintro j σ H4 hj ⟨o, lg1, l1', s1, lg2, l2', s2, as, x9, x10, rfl, ro, hd1, hd2, lgA, lgA', lgB, lgB', has, hS⟩
            have hj : j = 0 ∨ j = 1 := by omega
            rcases hj with rfl | rfl
            · rw [show (0 : Int) + ((0 : Nat) : Int) = 0 from rfl]
              k_spoken
              k_node
              refine .inr ⟨r, sc, lg1, wr, o, ns, S, l1', s1, dws, 100 + 16 * (i : Int), ws, by rw [hd1], hS.partI (.cons _ (.cons _ (.cons _ (.cons _ (.cons₂ _ (.cons₂ _ (List.sublist_append_left _ _))))))), ro, hsc, lgA rfl, by omega, h11, hwb, fun t lg' b o' l' s' H5 ro' lgN hd' f => ?_⟩
              have hS1 : Hs [] H H5 ((th, .lst (as.map V.int)) :: (ls, .lst [.ref lg1, .ref lg2]) :: (ds, .lst [.ref l1.d, .ref l2.d]) :: (du, .lst (dq.map V.ref)) :: (((t, .tup [.ref lg', .int b]) :: (wr, .lst (ws.map V.int)) :: lgL Z r o' lg' l' s') ++ (prL Z lg2 l2' s2 ++ rowsL dq dws))) S := hS.seg f (.there (.there (.there (.there (.here (L := (wr, .lst (ws.map V.int)) :: lgL Z r o lg1 l1' s1))))))
              clear hS f
              k_spoken
              rename_i H6 hS6 u6 H7 hS7 u7
              have hS8 := hS7.sub (M' := (th, .lst (as.map V.int ++ [V.int b])) :: (ls, .lst [.ref lg', .ref lg2]) :: (ds, .lst [.ref l1.d, .ref l2.d]) :: (du, .lst (dq.map V.ref)) :: (wr, .lst (ws.map V.int)) :: (r, o') :: (prL Z lg' l' s' ++ (prL Z lg2 l2' s2 ++ rowsL dq dws))) (.cons₂ _ (.cons₂ _ (.cons₂ _ (.cons₂ _ (.cons _ (.refl _))))))
              clear hS6 hS7 hS1 u6 u7
              exact ⟨o', lg', l', s', lg2, l2', s2, as ++ [b], _, _, rfl, ro', hd'.trans hd1, hd2, (fun z => by omega), fun _ => lgN.mono (by push_cast; omega), fun _ => lgB (by omega), (fun z => by omega), by rw [List.length_append, has]; rfl, hS8.cast (by rw [List.map_append]; rfl)⟩
            · rw [show (0 : Int) + ((1 : Nat) : Int) = 1 from rfl]
              have hS := hS.perm (M' := (th, .lst (as.map V.int)) :: (ls, .lst [.ref lg1, .ref lg2]) :: (ds, .lst [.ref l1.d, .ref l2.d]) :: (du, .lst (dq.map V.ref)) :: (wr, .lst (ws.map V.int)) :: ((r, o) :: (prL Z lg2 l2' s2 ++ (prL Z lg1 l1' s1 ++ rowsL dq dws)))) (.cons _ (.cons _ (.cons _ (.cons _ (.cons _ (perm_sw _ _ _ _))))))
              k_spoken
              k_node
              refine .inr ⟨r, sc, lg2, wr, o, ns, S, l2', s2, dws, 100 + 16 * (i : Int), ws, by rw [hd2], hS.partI (.cons _ (.cons _ (.cons _ (.cons _ (.cons₂ _ (.cons₂ _ (List.sublist_append_left _ _))))))), ro, hsc, lgB (by omega), by omega, h11, hwb, fun t lg' b o' l' s' H5 ro' lgN hd' f => ?_⟩
              have hS1 : Hs [] H H5 ((th, .lst (as.map V.int)) :: (ls, .lst [.ref lg1, .ref lg2]) :: (ds, .lst [.ref l1.d, .ref l2.d]) :: (du, .lst (dq.map V.ref)) :: (((t, .tup [.ref lg', .int b]) :: (wr, .lst (ws.map V.int)) :: lgL Z r o' lg' l' s') ++ (prL Z lg1 l1' s1 ++ rowsL dq dws))) S := hS.seg f (.there (.there (.there (.there (.here (L := (wr, .lst (ws.map V.int)) :: lgL Z r o lg2 l2' s2))))))
              clear hS f
              k_spoken
              rename_i H6 hS6 u6 H7 hS7 u7
              have hS8 := (hS7.sub (M' := (th, .lst (as.map V.int ++ [V.int b])) :: (ls, .lst [.ref lg1, .ref lg']) :: (ds, .lst [.ref l1.d, .ref l2.d]) :: (du, .lst (dq.map V.ref)) :: (wr, .lst (ws.map V.int)) :: (r, o') :: (prL Z lg' l' s' ++ (prL Z lg1 l1' s1 ++ rowsL dq dws))) (.cons₂ _ (.cons₂ _ (.cons₂ _ (.cons₂ _ (.cons _ (.refl _))))))).perm (M' := (th, .lst (as.map V.int ++ [V.int b])) :: (ls, .lst [.ref lg1, .ref lg']) :: (ds, .lst [.ref l1.d, .ref l2.d]) :: (du, .lst (dq.map V.ref)) :: (wr, .lst (ws.map V.int)) :: (r, o') :: (prL Z lg1 l1' s1 ++ (prL Z lg' l' s' ++ rowsL dq dws))) (.cons _ (.cons _ (.cons _ (.cons _ (.cons _ (perm_sw _ _ _ _))))))
              clear hS6 hS7 hS1 u6 u7
              exact ⟨o', lg1, l1', s1, lg', l', s', as ++ [b], _, _, rfl, ro', hd1, hd'.trans hd2, (fun z => by omega), fun _ => lgA' (by omega), (fun z => by omega), fun _ => lgN.mono (by push_cast; omega), by rw [List.length_append, has]; rfl, hS8.cast (by rw [List.map_append]; rfl)⟩
          · clear hS3 hS ro2 lgA lgB lgC lgD
            rintro σ H4 ⟨o, lg1, l1', s1, lg2, l2', s2, as, x9, x10, rfl, ro, hd1, hd2, lgA, lgA', lgB, lgB', has, hS⟩
            have lgA := lgA' (by decide)
            have lgB := lgB' (by decide)
            clear lgA' lgB'
            obtain ⟨b1, b2, rfl⟩ : ∃ b1 b2, as = [b1, b2] := by
              match as, has with
              | [b1, b2], _ => exact ⟨b1, b2, rfl⟩
            k_spoken
            refine f_lcL (xs := [.int b1, .int b2]) fun Dn hD => ⟨fun _ H' => Hs [] H H' ((Dn, .lst []) :: (th, .lst [.int b1, .int b2]) :: (ls, .lst [.ref lg1, .ref lg2]) :: (ds, .lst [.ref l1.d, .ref l2.d]) :: (du, .lst (dq.map V.ref)) :: (wr, .lst (ws.map V.int)) :: (r, o) :: (prL Z lg1 l1' s1 ++ (prL Z lg2 l2' s2 ++ rowsL dq dws))) S, hS.new hD _, fun _ H5 _ h5 => SqL.of (h5.getM (.tail _ (.head _))), fun ii x H5 hx h5 => ?_, fun H5 h5 => ?_⟩
            · have hx := List.mem_of_getElem? hx
              simp only [List.mem_cons, List.not_mem_nil, or_false] at hx
              rcases hx with rfl | rfl
              · k_spoken
                exact h5
              · k_spoken
                exact h5
            · k_spoken
              rename_i e H6 hS6 _ _
              have fD : H6 Dn = some (.lst []) := hS6.getM (.tail _ (.head _))
              have fe : H6 e = some (.lst []) := hS6.getM (.head _)
              refine s_neDX (.lst (SqL.of fD) .nil) (.lst (SqL.of fe) .nil) (shaped_ints []) (shaped_ints []) ?_
              rw [show PyData.eqv (.list []) (.list []) = true from by simp [PyData.eqv, PyData.eqvAll]]
              have hdq2 : dq.length < 100 := by omega
              k_spoken
              rename_i H7 hS7 _
              have hS8 : Hs [] H H7 (bsL Z ls ds du r o lg1 l1' s1 lg2 l2' s2 (dq ++ [wr]) (dws ++ [ws])) S := by
                have h8 := (hS7.sub (M' := (ls, .lst [.ref lg1, .ref lg2]) :: (ds, .lst [.ref l1.d, .ref l2.d]) :: (du, .lst (dq.map V.ref ++ [V.ref wr])) :: (wr, .lst (ws.map V.int)) :: (r, o) :: (prL Z lg1 l1' s1 ++ (prL Z lg2 l2' s2 ++ rowsL dq dws))) (.cons _ (.cons _ (.cons _ (.refl _))))).perm (M' := (ls, .lst [.ref lg1, .ref lg2]) :: (ds, .lst [.ref l1.d, .ref l2.d]) :: (du, .lst (dq.map V.ref ++ [V.ref wr])) :: ((r, o) :: (prL Z lg1 l1' s1 ++ (prL Z lg2 l2' s2 ++ (rowsL dq dws ++ [(wr, .lst (ws.map V.int))]))))) (.cons _ (.cons _ (.cons _ (perm_wr5 _ _ _ _ _))))
                unfold bsL
                rw [hd1, hd2, rowsL_snoc wr ws hdq, List.map_append]
                exact h8
              clear hS7 hS6 fD fe hS
              exact hU _ _ ⟨o, lg1, l1', s1, lg2, l2', s2, dq ++ [wr], dws ++ [ws], _, _, _, _, _, rfl, ro, lgA, lgB, by rw [List.length_append, List.length_append, hdq]; rfl, by rw [List.length_append, List.length_singleton]; omega, (fun w hw => by
                rcases List.mem_append.mp hw with hw | hw
                · exact hdw w hw
                · obtain rfl : w = ws := by simpa using hw
                  exact h11), hS8⟩
    · intro U hU
      k_node
      refine s_law_deed hS (.tail _ (.tail _ (.tail _ (.head _)))) ro hsc (fun o2 H2 ro2 hq => ?_) (fun o2 ws wr H2 h11 hwb ro2 hq => ?_)
      · have hS2 := hq _ (.there (.there (.there .here)))
        clear hS hq ro
        k_spoken
        exact hU _ _ ⟨o2, .non, rfl, ro2, .inl ⟨rfl, hS2⟩⟩
      · have hS2 := hq _ (.there (.there (.there .here)))
        clear hS hq ro
        k_spoken
        rename_i p qs H3 hql hS3 _
        have hS4 := hS3.sub (M' := (wr, HO.lst (ws.map V.int)) :: bsL Z ls ds du r o2 lg1 l1 s1 lg2 l2 s2 dq dws) (.cons _ (List.sublist_append_right _ _))
        clear hS3 hS2
        obtain ⟨m1, dr1, lr1, hlt1, hws1, hm1, hr1⟩ := lgA.ex
        obtain ⟨m2, dr2, lr2, hlt2, hws2, hm2, hr2⟩ := lgB.ex
        have e1 := room_is dr1 lr1
        have e2 := room_is dr2 lr2
        refine ⟨lg1, l1, s1, rfl, hS4.part (.cons _ (.cons _ (.cons _ (.cons _ (.cons _ (List.sublist_append_left _ _)))))), dr1.ok, fun H4 u4 => ?_⟩
        have hS5 := hS4.call0 u4
        clear hS4 u4
        rw [e1]
        k_spoken
        refine ⟨lg2, l2, s2, rfl, hS5.part (.cons _ (.cons _ (.cons _ (.cons _ (.cons _ ((List.sublist_append_left _ _).trans (List.sublist_append_right _ _))))))), dr2.ok, fun H5 u5 => ?_⟩
        have hS6 := hS5.call0 u5
        clear hS5 u5
        rw [e2]
        refine ⟨_, _, rfl, ?_⟩
        have eq : ((qs.map V.ref).length : Int) = (pcs ws).length := by rw [List.length_map, hql]
        rw [eq]
        k_spoken
        apply s_iteD
        · intro cc
          k_spoken
          exact hU _ _ ⟨o2, .non, rfl, ro2, .inl ⟨rfl, hS6.sub (.cons _ (.refl _))⟩⟩
        · intro cc
          have cc : ¬ ((if roomM m2 < roomM m1 then roomM m2 else roomM m1) < 4 * ((pcs ws).length : Int) - 3) := cc
          have c1 : 4 * ((pcs ws).length : Int) - 3 ≤ roomM m1 := by
            split at cc <;> omega
          have c2 : 4 * ((pcs ws).length : Int) - 3 ≤ roomM m2 := by
            split at cc <;> omega
          k_spoken
          exact hU _ _ ⟨o2, .ref wr, rfl, ro2, .inr ⟨wr, ws, rfl, h11, hwb, ⟨m1, dr1, lr1, hlt1, hws1, hm1, c1⟩, ⟨m2, dr2, lr2, hlt2, hws2, hm2, c2⟩, hS6⟩⟩
  · clear hS17 lgA lgB ro4
    rintro σ H1 ⟨o, lg1, l1, s1, lg2, l2, s2, dq, dws, x6, x7, x8, x9, x10, x11, rfl, ro, lgA, lgB, hdq, hdl, hdw, hS⟩
    k_spoken
    exact kq _
end
theorem exm_of {K : PySem.W.Frag} {A B : Addr} {b : Bool} (h1 : PySem.W.subIn K (.ref B) (.type "BaseException") = some true) (h2 : PySem.W.isClsIn K B = true) (h3 : PySem.W.typeIn K (.ref B) = some (.type "type")) (h4 : PySem.W.subIn K (.ref A) (.ref B) = some b) :
    PySem.W.exmOne K (.ref A) (.ref B) = some b := by
  have e1 : (PySem.W.subIn K (.ref B) (.type "BaseException") == some true) = true := by rw [h1] <;> rfl
  have e2 : ((PySem.W.clsIn K B).isSome && PySem.W.typeIn K (.ref B) == some (.type "type")) = true := by
    have h2' : (PySem.W.clsIn K B).isSome = true := h2
    rw [h2', h3] <;> rfl
  show (if (PySem.W.subIn K (.ref B) (.type "BaseException") == some true) = true then (if ((PySem.W.clsIn K B).isSome && PySem.W.typeIn K (.ref B) == some (.type "type")) = true then PySem.W.subIn K (.ref A) (.ref B) else none) else none) = some b
  rw [if_pos e1, if_pos e2]
  exact h4
def Z0 : Ad := ⟨(), 0, 0, 0, 0, 0, 0, 0, 0, 0, 0, 0, 0⟩
theorem all_mk {l : PySem.W.OpenLaw} {w : World} {K : PySem.W.Frag} {h : Heap} {mg : Str → Option Value} {fa f0 f1 f2 f3 f4 f5 f6 f7 f8 f9 f10 f11 f12 f13 f14 f15 f16 f17 f18 f19 f20 f21 f22 f23 f24 f25 f26 f27 f28 f29 f30 f31 f32 f33 f34 f35 f36 f37 f38 f39 f40 f41 f42 f43 f44 f45 f46 f47 f48 f49 f50 C_Log C_Disk C_BadBlock C_BadDisk C_BadRow C_BadStop C_Empty C_Full C_Gone C_NoBlock C_Stopped : Addr} (X : K.In h) (G : h.Ns mainGlobals mg) (hfa : mg "law" = some (.ref fa)) {od0 an0 od1 an1 od2 an2 od3 an3 od4 an4 od5 an5 od6 an6 od7 an7 od8 an8 od9 an9 od10 an10 od11 an11 od12 an12 od13 an13 od14 an14 od15 an15 od16 an16 od17 an17 od18 an18 od19 an19 od20 an20 od21 an21 od22 an22 od23 an23 od24 an24 od25 an25 od26 an26 od27 an27 od28 an28 od29 an29 od30 an30 od31 an31 od32 an32 od33 an33 od34 an34 od35 an35 od36 an36 od37 an37 od38 an38 od39 an39 od40 an40 od41 an41 od42 an42 od43 an43 od44 an44 od45 an45 od46 an46 od47 an47 od48 an48 od49 an49 od50 an50 : Option Addr} {sl0 sl1 sl2 sl3 sl4 sl5 sl6 sl7 sl8 sl9 sl10 sl11 sl12 sl13 sl14 sl15 sl16 sl17 sl18 sl19 sl20 sl21 sl22 sl23 sl24 sl25 sl26 sl27 sl28 sl29 sl30 sl31 sl32 sl33 sl34 sl35 sl36 sl37 sl38 sl39 sl40 sl41 sl42 sl43 sl44 sl45 sl46 sl47 sl48 sl49 sl50 : Array (Option Value)} {oc0 kV0 dc0 pm0 cd0 ct0 oc1 kV1 dc1 pm1 cd1 ct1 oc2 kV2 dc2 pm2 cd2 ct2 oc3 kV3 dc3 pm3 cd3 ct3 oc4 kV4 dc4 pm4 cd4 ct4 oc5 kV5 dc5 pm5 cd5 ct5 oc6 kV6 dc6 pm6 cd6 ct6 oc7 kV7 dc7 pm7 cd7 ct7 oc8 kV8 dc8 pm8 cd8 ct8 oc9 kV9 dc9 pm9 cd9 ct9 oc10 kV10 dc10 pm10 cd10 ct10 oc11 kV11 dc11 pm11 cd11 ct11 oc12 kV12 dc12 pm12 cd12 ct12 oc13 kV13 dc13 pm13 cd13 ct13 oc14 kV14 dc14 pm14 cd14 ct14 oc15 kV15 dc15 pm15 cd15 ct15 oc16 kV16 dc16 pm16 cd16 ct16 oc17 kV17 dc17 pm17 cd17 ct17 oc18 kV18 dc18 pm18 cd18 ct18 oc19 kV19 dc19 pm19 cd19 ct19 oc20 kV20 dc20 pm20 cd20 ct20 oc21 kV21 dc21 pm21 cd21 ct21 oc22 kV22 dc22 pm22 cd22 ct22 oc23 kV23 dc23 pm23 cd23 ct23 oc24 kV24 dc24 pm24 cd24 ct24 oc25 kV25 dc25 pm25 cd25 ct25 oc26 kV26 dc26 pm26 cd26 ct26 oc27 kV27 dc27 pm27 cd27 ct27 oc28 kV28 dc28 pm28 cd28 ct28 oc29 kV29 dc29 pm29 cd29 ct29 oc30 kV30 dc30 pm30 cd30 ct30 oc31 kV31 dc31 pm31 cd31 ct31 oc32 kV32 dc32 pm32 cd32 ct32 oc33 kV33 dc33 pm33 cd33 ct33 oc34 kV34 dc34 pm34 cd34 ct34 oc35 kV35 dc35 pm35 cd35 ct35 oc36 kV36 dc36 pm36 cd36 ct36 oc37 kV37 dc37 pm37 cd37 ct37 oc38 kV38 dc38 pm38 cd38 ct38 oc39 kV39 dc39 pm39 cd39 ct39 oc40 kV40 dc40 pm40 cd40 ct40 oc41 kV41 dc41 pm41 cd41 ct41 oc42 kV42 dc42 pm42 cd42 ct42 oc43 kV43 dc43 pm43 cd43 ct43 oc44 kV44 dc44 pm44 cd44 ct44 oc45 kV45 dc45 pm45 cd45 ct45 oc46 kV46 dc46 pm46 cd46 ct46 oc47 kV47 dc47 pm47 cd47 ct47 oc48 kV48 dc48 pm48 cd48 ct48 oc49 kV49 dc49 pm49 cd49 ct49 oc50 kV50 dc50 pm50 cd50 ct50 : Value} {t_PIECE_WORDS t_NUMBER t_FLOOR t_BEGIN t_LEFT t_DATA_FROM t_DATA_TO t_NO_BEGIN t_LEFT_OF_MARK t_LEFT_OF_FAREWELL t_MOST_WORDS t_MOST_WORD_OF_ROW t_LEAST_BLOCKS t_MOST_BLOCKS t_BLOCK_WORDS t_MOST_WORD t_MOST_COUNT t_MOST_PART : Tok}
    (aC_Log : PySem.W.nsIn K mainGlobals "Log" = some (some (.ref C_Log)))
    (aC_Disk : PySem.W.nsIn K mainGlobals "Disk" = some (some (.ref C_Disk)))
    (aC_BadBlock : PySem.W.nsIn K mainGlobals "BadBlock" = some (some (.ref C_BadBlock)))
    (aC_BadDisk : PySem.W.nsIn K mainGlobals "BadDisk" = some (some (.ref C_BadDisk)))
    (aC_BadRow : PySem.W.nsIn K mainGlobals "BadRow" = some (some (.ref C_BadRow)))
    (aC_BadStop : PySem.W.nsIn K mainGlobals "BadStop" = some (some (.ref C_BadStop)))
    (aC_Empty : PySem.W.nsIn K mainGlobals "Empty" = some (some (.ref C_Empty)))
    (aC_Full : PySem.W.nsIn K mainGlobals "Full" = some (some (.ref C_Full)))
    (aC_Gone : PySem.W.nsIn K mainGlobals "Gone" = some (some (.ref C_Gone)))
    (aC_NoBlock : PySem.W.nsIn K mainGlobals "NoBlock" = some (some (.ref C_NoBlock)))
    (aC_Stopped : PySem.W.nsIn K mainGlobals "Stopped" = some (some (.ref C_Stopped)))
    (pg_Log : PySem.W.plainGet K C_Log Str.empty = true)
    (hd_Log : PySem.W.hasDictIn K C_Log = true)
    (po_Log : PySem.W.plainOver K C_Log = true)
    (sa_Log : PySem.W.findIn K (.ref C_Log) "__setattr__" = some (some (.builtin "object.__setattr__")))
    (mk_Log : PySem.W.makesIn K C_Log = true)
    (kc_Log : PySem.W.keepIn K (.ref C_Log) = true)
    (na_Log__cut : PySem.W.findIn K (.ref C_Log) "_cut" = some none)
    (na_Log__disk : PySem.W.findIn K (.ref C_Log) "_disk" = some none)
    (na_Log__gone : PySem.W.findIn K (.ref C_Log) "_gone" = some none)
    (na_Log__number : PySem.W.findIn K (.ref C_Log) "_number" = some none)
    (na_Log__rows : PySem.W.findIn K (.ref C_Log) "_rows" = some none)
    (na_Log__torn : PySem.W.findIn K (.ref C_Log) "_torn" = some none)
    (pg_Disk : PySem.W.plainGet K C_Disk Str.empty = true)
    (hd_Disk : PySem.W.hasDictIn K C_Disk = true)
    (po_Disk : PySem.W.plainOver K C_Disk = true)
    (sa_Disk : PySem.W.findIn K (.ref C_Disk) "__setattr__" = some (some (.builtin "object.__setattr__")))
    (mk_Disk : PySem.W.makesIn K C_Disk = true)
    (kc_Disk : PySem.W.keepIn K (.ref C_Disk) = true)
    (na_Disk__blocks : PySem.W.findIn K (.ref C_Disk) "_blocks" = some none)
    (na_Disk__let : PySem.W.findIn K (.ref C_Disk) "_let" = some none)
    (na_Disk__part : PySem.W.findIn K (.ref C_Disk) "_part" = some none)
    (na_Disk__reads : PySem.W.findIn K (.ref C_Disk) "_reads" = some none)
    (na_Disk__writes : PySem.W.findIn K (.ref C_Disk) "_writes" = some none)
    (x_BadBlock : PySem.W.excIn K C_BadBlock [.type "ValueError", .type "Exception", .type "BaseException", .type "object"] "ValueError.__new__" = true)
    (kp_BadBlock : PySem.W.keepIn K (.ref C_BadBlock) = true)
    (sb_BadBlock : PySem.W.subIn K (.ref C_BadBlock) (.type "BaseException") = some true)
    (ty_BadBlock : PySem.W.typeIn K (.ref C_BadBlock) = some (.type "type"))
    (ic_BadBlock : PySem.W.isClsIn K C_BadBlock = true)
    (x_BadDisk : PySem.W.excIn K C_BadDisk [.type "ValueError", .type "Exception", .type "BaseException", .type "object"] "ValueError.__new__" = true)
    (kp_BadDisk : PySem.W.keepIn K (.ref C_BadDisk) = true)
    (sb_BadDisk : PySem.W.subIn K (.ref C_BadDisk) (.type "BaseException") = some true)
    (ty_BadDisk : PySem.W.typeIn K (.ref C_BadDisk) = some (.type "type"))
    (ic_BadDisk : PySem.W.isClsIn K C_BadDisk = true)
    (x_BadRow : PySem.W.excIn K C_BadRow [.type "ValueError", .type "Exception", .type "BaseException", .type "object"] "ValueError.__new__" = true)
    (kp_BadRow : PySem.W.keepIn K (.ref C_BadRow) = true)
    (sb_BadRow : PySem.W.subIn K (.ref C_BadRow) (.type "BaseException") = some true)
    (ty_BadRow : PySem.W.typeIn K (.ref C_BadRow) = some (.type "type"))
    (ic_BadRow : PySem.W.isClsIn K C_BadRow = true)
    (x_BadStop : PySem.W.excIn K C_BadStop [.type "ValueError", .type "Exception", .type "BaseException", .type "object"] "ValueError.__new__" = true)
    (kp_BadStop : PySem.W.keepIn K (.ref C_BadStop) = true)
    (sb_BadStop : PySem.W.subIn K (.ref C_BadStop) (.type "BaseException") = some true)
    (ty_BadStop : PySem.W.typeIn K (.ref C_BadStop) = some (.type "type"))
    (ic_BadStop : PySem.W.isClsIn K C_BadStop = true)
    (x_Empty : PySem.W.excIn K C_Empty [.type "ValueError", .type "Exception", .type "BaseException", .type "object"] "ValueError.__new__" = true)
    (kp_Empty : PySem.W.keepIn K (.ref C_Empty) = true)
    (sb_Empty : PySem.W.subIn K (.ref C_Empty) (.type "BaseException") = some true)
    (ty_Empty : PySem.W.typeIn K (.ref C_Empty) = some (.type "type"))
    (ic_Empty : PySem.W.isClsIn K C_Empty = true)
    (x_Full : PySem.W.excIn K C_Full [.type "ValueError", .type "Exception", .type "BaseException", .type "object"] "ValueError.__new__" = true)
    (kp_Full : PySem.W.keepIn K (.ref C_Full) = true)
    (sb_Full : PySem.W.subIn K (.ref C_Full) (.type "BaseException") = some true)
    (ty_Full : PySem.W.typeIn K (.ref C_Full) = some (.type "type"))
    (ic_Full : PySem.W.isClsIn K C_Full = true)
    (x_Gone : PySem.W.excIn K C_Gone [.type "ValueError", .type "Exception", .type "BaseException", .type "object"] "ValueError.__new__" = true)
    (kp_Gone : PySem.W.keepIn K (.ref C_Gone) = true)
    (sb_Gone : PySem.W.subIn K (.ref C_Gone) (.type "BaseException") = some true)
    (ty_Gone : PySem.W.typeIn K (.ref C_Gone) = some (.type "type"))
    (ic_Gone : PySem.W.isClsIn K C_Gone = true)
    (x_NoBlock : PySem.W.excIn K C_NoBlock [.type "ValueError", .type "Exception", .type "BaseException", .type "object"] "ValueError.__new__" = true)
    (kp_NoBlock : PySem.W.keepIn K (.ref C_NoBlock) = true)
    (sb_NoBlock : PySem.W.subIn K (.ref C_NoBlock) (.type "BaseException") = some true)
    (ty_NoBlock : PySem.W.typeIn K (.ref C_NoBlock) = some (.type "type"))
    (ic_NoBlock : PySem.W.isClsIn K C_NoBlock = true)
    (x_Stopped : PySem.W.excIn K C_Stopped [.type "ValueError", .type "Exception", .type "BaseException", .type "object"] "ValueError.__new__" = true)
    (kp_Stopped : PySem.W.keepIn K (.ref C_Stopped) = true)
    (sb_Stopped : PySem.W.subIn K (.ref C_Stopped) (.type "BaseException") = some true)
    (ty_Stopped : PySem.W.typeIn K (.ref C_Stopped) = some (.type "type"))
    (ic_Stopped : PySem.W.isClsIn K C_Stopped = true)
    (s_BadBlock_Empty : PySem.W.subIn K (.ref C_BadBlock) (.ref C_Empty) = some false)
    (s_BadBlock_Full : PySem.W.subIn K (.ref C_BadBlock) (.ref C_Full) = some false)
    (s_BadBlock_Gone : PySem.W.subIn K (.ref C_BadBlock) (.ref C_Gone) = some false)
    (s_BadBlock_Stopped : PySem.W.subIn K (.ref C_BadBlock) (.ref C_Stopped) = some false)
    (s_BadDisk_Empty : PySem.W.subIn K (.ref C_BadDisk) (.ref C_Empty) = some false)
    (s_BadDisk_Full : PySem.W.subIn K (.ref C_BadDisk) (.ref C_Full) = some false)
    (s_BadDisk_Gone : PySem.W.subIn K (.ref C_BadDisk) (.ref C_Gone) = some false)
    (s_BadDisk_Stopped : PySem.W.subIn K (.ref C_BadDisk) (.ref C_Stopped) = some false)
    (s_BadRow_Empty : PySem.W.subIn K (.ref C_BadRow) (.ref C_Empty) = some false)
    (s_BadRow_Full : PySem.W.subIn K (.ref C_BadRow) (.ref C_Full) = some false)
    (s_BadRow_Gone : PySem.W.subIn K (.ref C_BadRow) (.ref C_Gone) = some false)
    (s_BadRow_Stopped : PySem.W.subIn K (.ref C_BadRow) (.ref C_Stopped) = some false)
    (s_BadStop_Empty : PySem.W.subIn K (.ref C_BadStop) (.ref C_Empty) = some false)
    (s_BadStop_Full : PySem.W.subIn K (.ref C_BadStop) (.ref C_Full) = some false)
    (s_BadStop_Gone : PySem.W.subIn K (.ref C_BadStop) (.ref C_Gone) = some false)
    (s_BadStop_Stopped : PySem.W.subIn K (.ref C_BadStop) (.ref C_Stopped) = some false)
    (s_Empty_Empty : PySem.W.subIn K (.ref C_Empty) (.ref C_Empty) = some true)
    (s_Empty_Full : PySem.W.subIn K (.ref C_Empty) (.ref C_Full) = some false)
    (s_Empty_Gone : PySem.W.subIn K (.ref C_Empty) (.ref C_Gone) = some false)
    (s_Empty_Stopped : PySem.W.subIn K (.ref C_Empty) (.ref C_Stopped) = some false)
    (s_Full_Empty : PySem.W.subIn K (.ref C_Full) (.ref C_Empty) = some false)
    (s_Full_Full : PySem.W.subIn K (.ref C_Full) (.ref C_Full) = some true)
    (s_Full_Gone : PySem.W.subIn K (.ref C_Full) (.ref C_Gone) = some false)
    (s_Full_Stopped : PySem.W.subIn K (.ref C_Full) (.ref C_Stopped) = some false)
    (s_Gone_Empty : PySem.W.subIn K (.ref C_Gone) (.ref C_Empty) = some false)
    (s_Gone_Full : PySem.W.subIn K (.ref C_Gone) (.ref C_Full) = some false)
    (s_Gone_Gone : PySem.W.subIn K (.ref C_Gone) (.ref C_Gone) = some true)
    (s_Gone_Stopped : PySem.W.subIn K (.ref C_Gone) (.ref C_Stopped) = some false)
    (s_NoBlock_Empty : PySem.W.subIn K (.ref C_NoBlock) (.ref C_Empty) = some false)
    (s_NoBlock_Full : PySem.W.subIn K (.ref C_NoBlock) (.ref C_Full) = some false)
    (s_NoBlock_Gone : PySem.W.subIn K (.ref C_NoBlock) (.ref C_Gone) = some false)
    (s_NoBlock_Stopped : PySem.W.subIn K (.ref C_NoBlock) (.ref C_Stopped) = some false)
    (s_Stopped_Empty : PySem.W.subIn K (.ref C_Stopped) (.ref C_Empty) = some false)
    (s_Stopped_Full : PySem.W.subIn K (.ref C_Stopped) (.ref C_Full) = some false)
    (s_Stopped_Gone : PySem.W.subIn K (.ref C_Stopped) (.ref C_Gone) = some false)
    (s_Stopped_Stopped : PySem.W.subIn K (.ref C_Stopped) (.ref C_Stopped) = some true)
    (a0 : PySem.W.nsIn K mainGlobals "_wall" = some (some (.ref f0)))
    (l0 : K.lookup f0 = some ⟨oc0, od0, .func (PySem.W.fnOf "_wall" "_wall" (defArgs st_wall) (defBody st_wall) (defScope st_wall) .none kV0 dc0 pm0 an0 cd0 ct0), sl0⟩)
    (c0 : PySem.W.codeIn K cd0 "_wall" = true)
    (k0 : PySem.W.keepIn K (.ref f0) = true)
    (a1 : PySem.W.nsIn K mainGlobals "made" = some (some (.ref f1)))
    (l1 : K.lookup f1 = some ⟨oc1, od1, .func (PySem.W.fnOf "made" "made" (defArgs st_made) (defBody st_made) (defScope st_made) .none kV1 dc1 pm1 an1 cd1 ct1), sl1⟩)
    (c1 : PySem.W.codeIn K cd1 "made" = true)
    (k1 : PySem.W.keepIn K (.ref f1) = true)
    (a2 : PySem.W.nsIn K mainGlobals "made_mark" = some (some (.ref f2)))
    (l2 : K.lookup f2 = some ⟨oc2, od2, .func (PySem.W.fnOf "made_mark" "made_mark" (defArgs st_made_mark) (defBody st_made_mark) (defScope st_made_mark) .none kV2 dc2 pm2 an2 cd2 ct2), sl2⟩)
    (c2 : PySem.W.codeIn K cd2 "made_mark" = true)
    (k2 : PySem.W.keepIn K (.ref f2) = true)
    (a3 : PySem.W.nsIn K mainGlobals "is_farewell" = some (some (.ref f3)))
    (l3 : K.lookup f3 = some ⟨oc3, od3, .func (PySem.W.fnOf "is_farewell" "is_farewell" (defArgs st_is_farewell) (defBody st_is_farewell) (defScope st_is_farewell) .none kV3 dc3 pm3 an3 cd3 ct3), sl3⟩)
    (c3 : PySem.W.codeIn K cd3 "is_farewell" = true)
    (k3 : PySem.W.keepIn K (.ref f3) = true)
    (a4 : PySem.W.nsIn K mainGlobals "kind" = some (some (.ref f4)))
    (l4 : K.lookup f4 = some ⟨oc4, od4, .func (PySem.W.fnOf "kind" "kind" (defArgs st_kind) (defBody st_kind) (defScope st_kind) .none kV4 dc4 pm4 an4 cd4 ct4), sl4⟩)
    (c4 : PySem.W.codeIn K cd4 "kind" = true)
    (k4 : PySem.W.keepIn K (.ref f4) = true)
    (a5 : PySem.W.nsIn K mainGlobals "pieces" = some (some (.ref f5)))
    (l5 : K.lookup f5 = some ⟨oc5, od5, .func (PySem.W.fnOf "pieces" "pieces" (defArgs st_pieces) (defBody st_pieces) (defScope st_pieces) .none kV5 dc5 pm5 an5 cd5 ct5), sl5⟩)
    (c5 : PySem.W.codeIn K cd5 "pieces" = true)
    (k5 : PySem.W.keepIn K (.ref f5) = true)
    (a6 : PySem.W.nsIn K mainGlobals "words_of" = some (some (.ref f6)))
    (l6 : K.lookup f6 = some ⟨oc6, od6, .func (PySem.W.fnOf "words_of" "words_of" (defArgs st_words_of) (defBody st_words_of) (defScope st_words_of) .none kV6 dc6 pm6 an6 cd6 ct6), sl6⟩)
    (c6 : PySem.W.codeIn K cd6 "words_of" = true)
    (k6 : PySem.W.keepIn K (.ref f6) = true)
    (a7 : PySem.W.nsIn K mainGlobals "newest" = some (some (.ref f7)))
    (l7 : K.lookup f7 = some ⟨oc7, od7, .func (PySem.W.fnOf "newest" "newest" (defArgs st_newest) (defBody st_newest) (defScope st_newest) .none kV7 dc7 pm7 an7 cd7 ct7), sl7⟩)
    (c7 : PySem.W.codeIn K cd7 "newest" = true)
    (k7 : PySem.W.keepIn K (.ref f7) = true)
    (a8 : PySem.W.nsIn K mainGlobals "_number_in_last_place" = some (some (.ref f8)))
    (l8 : K.lookup f8 = some ⟨oc8, od8, .func (PySem.W.fnOf "_number_in_last_place" "_number_in_last_place" (defArgs st_number_in_last_place) (defBody st_number_in_last_place) (defScope st_number_in_last_place) .none kV8 dc8 pm8 an8 cd8 ct8), sl8⟩)
    (c8 : PySem.W.codeIn K cd8 "_number_in_last_place" = true)
    (k8 : PySem.W.keepIn K (.ref f8) = true)
    (a9 : PySem.W.nsIn K mainGlobals "_newest_of_round" = some (some (.ref f9)))
    (l9 : K.lookup f9 = some ⟨oc9, od9, .func (PySem.W.fnOf "_newest_of_round" "_newest_of_round" (defArgs st_newest_of_round) (defBody st_newest_of_round) (defScope st_newest_of_round) .none kV9 dc9 pm9 an9 cd9 ct9), sl9⟩)
    (c9 : PySem.W.codeIn K cd9 "_newest_of_round" = true)
    (k9 : PySem.W.keepIn K (.ref f9) = true)
    (a10 : PySem.W.nsIn K mainGlobals "rows_in" = some (some (.ref f10)))
    (l10 : K.lookup f10 = some ⟨oc10, od10, .func (PySem.W.fnOf "rows_in" "rows_in" (defArgs st_rows_in) (defBody st_rows_in) (defScope st_rows_in) .none kV10 dc10 pm10 an10 cd10 ct10), sl10⟩)
    (c10 : PySem.W.codeIn K cd10 "rows_in" = true)
    (k10 : PySem.W.keepIn K (.ref f10) = true)
    (a11 : PySem.W.nsIn K mainGlobals "cut_in" = some (some (.ref f11)))
    (l11 : K.lookup f11 = some ⟨oc11, od11, .func (PySem.W.fnOf "cut_in" "cut_in" (defArgs st_cut_in) (defBody st_cut_in) (defScope st_cut_in) .none kV11 dc11 pm11 an11 cd11 ct11), sl11⟩)
    (c11 : PySem.W.codeIn K cd11 "cut_in" = true)
    (k11 : PySem.W.keepIn K (.ref f11) = true)
    (a12 : PySem.W.nsIn K mainGlobals "_by_row" = some (some (.ref f12)))
    (l12 : K.lookup f12 = some ⟨oc12, od12, .func (PySem.W.fnOf "_by_row" "_by_row" (defArgs st_by_row) (defBody st_by_row) (defScope st_by_row) .none kV12 dc12 pm12 an12 cd12 ct12), sl12⟩)
    (c12 : PySem.W.codeIn K cd12 "_by_row" = true)
    (k12 : PySem.W.keepIn K (.ref f12) = true)
    (a13 : PySem.W.nsIn K mainGlobals "_has_last" = some (some (.ref f13)))
    (l13 : K.lookup f13 = some ⟨oc13, od13, .func (PySem.W.fnOf "_has_last" "_has_last" (defArgs st_has_last) (defBody st_has_last) (defScope st_has_last) .none kV13 dc13 pm13 an13 cd13 ct13), sl13⟩)
    (c13 : PySem.W.codeIn K cd13 "_has_last" = true)
    (k13 : PySem.W.keepIn K (.ref f13) = true)
    (a14 : PySem.W.nsIn K mainGlobals "is_whole" = some (some (.ref f14)))
    (l14 : K.lookup f14 = some ⟨oc14, od14, .func (PySem.W.fnOf "is_whole" "is_whole" (defArgs st_is_whole) (defBody st_is_whole) (defScope st_is_whole) .none kV14 dc14 pm14 an14 cd14 ct14), sl14⟩)
    (c14 : PySem.W.codeIn K cd14 "is_whole" = true)
    (k14 : PySem.W.keepIn K (.ref f14) = true)
    (a15 : PySem.W.nsIn K mainGlobals "_is_row" = some (some (.ref f15)))
    (l15 : K.lookup f15 = some ⟨oc15, od15, .func (PySem.W.fnOf "_is_row" "_is_row" (defArgs st_is_row) (defBody st_is_row) (defScope st_is_row) .none kV15 dc15 pm15 an15 cd15 ct15), sl15⟩)
    (c15 : PySem.W.codeIn K cd15 "_is_row" = true)
    (k15 : PySem.W.keepIn K (.ref f15) = true)
    (a16 : PySem.W.nsIn K mainGlobals "_blocks_of_use" = some (some (.ref f16)))
    (l16 : K.lookup f16 = some ⟨oc16, od16, .func (PySem.W.fnOf "_blocks_of_use" "_blocks_of_use" (defArgs st_blocks_of_use) (defBody st_blocks_of_use) (defScope st_blocks_of_use) .none kV16 dc16 pm16 an16 cd16 ct16), sl16⟩)
    (c16 : PySem.W.codeIn K cd16 "_blocks_of_use" = true)
    (k16 : PySem.W.keepIn K (.ref f16) = true)
    (a17 : PySem.W.nsIn K mainGlobals "_floor_under" = some (some (.ref f17)))
    (l17 : K.lookup f17 = some ⟨oc17, od17, .func (PySem.W.fnOf "_floor_under" "_floor_under" (defArgs st_floor_under) (defBody st_floor_under) (defScope st_floor_under) .none kV17 dc17 pm17 an17 cd17 ct17), sl17⟩)
    (c17 : PySem.W.codeIn K cd17 "_floor_under" = true)
    (k17 : PySem.W.keepIn K (.ref f17) = true)
    (a18 : PySem.W.findIn K (.ref C_Log) "__init__" = some (some (.ref f18)))
    (i18 : PySem.W.isFn K (.ref f18) = true)
    (l18 : K.lookup f18 = some ⟨oc18, od18, .func (PySem.W.fnOf "__init__" "Log.__init__" (defArgs st_Log___init__) (defBody st_Log___init__) (defScope st_Log___init__) .none kV18 dc18 pm18 an18 cd18 ct18), sl18⟩)
    (c18 : PySem.W.codeIn K cd18 "Log.__init__" = true)
    (k18 : PySem.W.keepIn K (.ref f18) = true)
    (a19 : PySem.W.findIn K (.ref C_Log) "rows" = some (some (.ref f19)))
    (i19 : PySem.W.isFn K (.ref f19) = true)
    (l19 : K.lookup f19 = some ⟨oc19, od19, .func (PySem.W.fnOf "rows" "Log.rows" (defArgs st_Log_rows) (defBody st_Log_rows) (defScope st_Log_rows) .none kV19 dc19 pm19 an19 cd19 ct19), sl19⟩)
    (c19 : PySem.W.codeIn K cd19 "Log.rows" = true)
    (k19 : PySem.W.keepIn K (.ref f19) = true)
    (a20 : PySem.W.findIn K (.ref C_Log) "room" = some (some (.ref f20)))
    (i20 : PySem.W.isFn K (.ref f20) = true)
    (l20 : K.lookup f20 = some ⟨oc20, od20, .func (PySem.W.fnOf "room" "Log.room" (defArgs st_Log_room) (defBody st_Log_room) (defScope st_Log_room) .none kV20 dc20 pm20 an20 cd20 ct20), sl20⟩)
    (c20 : PySem.W.codeIn K cd20 "Log.room" = true)
    (k20 : PySem.W.keepIn K (.ref f20) = true)
    (a21 : PySem.W.findIn K (.ref C_Log) "scars" = some (some (.ref f21)))
    (i21 : PySem.W.isFn K (.ref f21) = true)
    (l21 : K.lookup f21 = some ⟨oc21, od21, .func (PySem.W.fnOf "scars" "Log.scars" (defArgs st_Log_scars) (defBody st_Log_scars) (defScope st_Log_scars) .none kV21 dc21 pm21 an21 cd21 ct21), sl21⟩)
    (c21 : PySem.W.codeIn K cd21 "Log.scars" = true)
    (k21 : PySem.W.keepIn K (.ref f21) = true)
    (a22 : PySem.W.findIn K (.ref C_Log) "gone" = some (some (.ref f22)))
    (i22 : PySem.W.isFn K (.ref f22) = true)
    (l22 : K.lookup f22 = some ⟨oc22, od22, .func (PySem.W.fnOf "gone" "Log.gone" (defArgs st_Log_gone) (defBody st_Log_gone) (defScope st_Log_gone) .none kV22 dc22 pm22 an22 cd22 ct22), sl22⟩)
    (c22 : PySem.W.codeIn K cd22 "Log.gone" = true)
    (k22 : PySem.W.keepIn K (.ref f22) = true)
    (a23 : PySem.W.findIn K (.ref C_Log) "put" = some (some (.ref f23)))
    (i23 : PySem.W.isFn K (.ref f23) = true)
    (l23 : K.lookup f23 = some ⟨oc23, od23, .func (PySem.W.fnOf "put" "Log.put" (defArgs st_Log_put) (defBody st_Log_put) (defScope st_Log_put) .none kV23 dc23 pm23 an23 cd23 ct23), sl23⟩)
    (c23 : PySem.W.codeIn K cd23 "Log.put" = true)
    (k23 : PySem.W.keepIn K (.ref f23) = true)
    (a24 : PySem.W.findIn K (.ref C_Log) "take" = some (some (.ref f24)))
    (i24 : PySem.W.isFn K (.ref f24) = true)
    (l24 : K.lookup f24 = some ⟨oc24, od24, .func (PySem.W.fnOf "take" "Log.take" (defArgs st_Log_take) (defBody st_Log_take) (defScope st_Log_take) .none kV24 dc24 pm24 an24 cd24 ct24), sl24⟩)
    (c24 : PySem.W.codeIn K cd24 "Log.take" = true)
    (k24 : PySem.W.keepIn K (.ref f24) = true)
    (a25 : PySem.W.findIn K (.ref C_Log) "take_all" = some (some (.ref f25)))
    (i25 : PySem.W.isFn K (.ref f25) = true)
    (l25 : K.lookup f25 = some ⟨oc25, od25, .func (PySem.W.fnOf "take_all" "Log.take_all" (defArgs st_Log_take_all) (defBody st_Log_take_all) (defScope st_Log_take_all) .none kV25 dc25 pm25 an25 cd25 ct25), sl25⟩)
    (c25 : PySem.W.codeIn K cd25 "Log.take_all" = true)
    (k25 : PySem.W.keepIn K (.ref f25) = true)
    (a26 : PySem.W.findIn K (.ref C_Log) "leave" = some (some (.ref f26)))
    (i26 : PySem.W.isFn K (.ref f26) = true)
    (l26 : K.lookup f26 = some ⟨oc26, od26, .func (PySem.W.fnOf "leave" "Log.leave" (defArgs st_Log_leave) (defBody st_Log_leave) (defScope st_Log_leave) .none kV26 dc26 pm26 an26 cd26 ct26), sl26⟩)
    (c26 : PySem.W.codeIn K cd26 "Log.leave" = true)
    (k26 : PySem.W.keepIn K (.ref f26) = true)
    (a27 : PySem.W.findIn K (.ref C_Log) "_need_here" = some (some (.ref f27)))
    (i27 : PySem.W.isFn K (.ref f27) = true)
    (l27 : K.lookup f27 = some ⟨oc27, od27, .func (PySem.W.fnOf "_need_here" "Log._need_here" (defArgs st_Log__need_here) (defBody st_Log__need_here) (defScope st_Log__need_here) .none kV27 dc27 pm27 an27 cd27 ct27), sl27⟩)
    (c27 : PySem.W.codeIn K cd27 "Log._need_here" = true)
    (k27 : PySem.W.keepIn K (.ref f27) = true)
    (a28 : PySem.W.findIn K (.ref C_Log) "_write" = some (some (.ref f28)))
    (i28 : PySem.W.isFn K (.ref f28) = true)
    (l28 : K.lookup f28 = some ⟨oc28, od28, .func (PySem.W.fnOf "_write" "Log._write" (defArgs st_Log__write) (defBody st_Log__write) (defScope st_Log__write) .none kV28 dc28 pm28 an28 cd28 ct28), sl28⟩)
    (c28 : PySem.W.codeIn K cd28 "Log._write" = true)
    (k28 : PySem.W.keepIn K (.ref f28) = true)
    (a29 : PySem.W.findIn K (.ref C_Log) "_write_end" = some (some (.ref f29)))
    (i29 : PySem.W.isFn K (.ref f29) = true)
    (l29 : K.lookup f29 = some ⟨oc29, od29, .func (PySem.W.fnOf "_write_end" "Log._write_end" (defArgs st_Log__write_end) (defBody st_Log__write_end) (defScope st_Log__write_end) .none kV29 dc29 pm29 an29 cd29 ct29), sl29⟩)
    (c29 : PySem.W.codeIn K cd29 "Log._write_end" = true)
    (k29 : PySem.W.keepIn K (.ref f29) = true)
    (a30 : PySem.W.findIn K (.ref C_Log) "_wrote" = some (some (.ref f30)))
    (i30 : PySem.W.isFn K (.ref f30) = true)
    (l30 : K.lookup f30 = some ⟨oc30, od30, .func (PySem.W.fnOf "_wrote" "Log._wrote" (defArgs st_Log__wrote) (defBody st_Log__wrote) (defScope st_Log__wrote) .none kV30 dc30 pm30 an30 cd30 ct30), sl30⟩)
    (c30 : PySem.W.codeIn K cd30 "Log._wrote" = true)
    (k30 : PySem.W.keepIn K (.ref f30) = true)
    (a31 : PySem.W.nsIn K mainGlobals "_is_block" = some (some (.ref f31)))
    (l31 : K.lookup f31 = some ⟨oc31, od31, .func (PySem.W.fnOf "_is_block" "_is_block" (defArgs st_is_block) (defBody st_is_block) (defScope st_is_block) .none kV31 dc31 pm31 an31 cd31 ct31), sl31⟩)
    (c31 : PySem.W.codeIn K cd31 "_is_block" = true)
    (k31 : PySem.W.keepIn K (.ref f31) = true)
    (a32 : PySem.W.findIn K (.ref C_Disk) "__init__" = some (some (.ref f32)))
    (i32 : PySem.W.isFn K (.ref f32) = true)
    (l32 : K.lookup f32 = some ⟨oc32, od32, .func (PySem.W.fnOf "__init__" "Disk.__init__" (defArgs st_Disk___init__) (defBody st_Disk___init__) (defScope st_Disk___init__) .none kV32 dc32 pm32 an32 cd32 ct32), sl32⟩)
    (c32 : PySem.W.codeIn K cd32 "Disk.__init__" = true)
    (k32 : PySem.W.keepIn K (.ref f32) = true)
    (a33 : PySem.W.findIn K (.ref C_Disk) "blocks" = some (some (.ref f33)))
    (i33 : PySem.W.isFn K (.ref f33) = true)
    (l33 : K.lookup f33 = some ⟨oc33, od33, .func (PySem.W.fnOf "blocks" "Disk.blocks" (defArgs st_Disk_blocks) (defBody st_Disk_blocks) (defScope st_Disk_blocks) .none kV33 dc33 pm33 an33 cd33 ct33), sl33⟩)
    (c33 : PySem.W.codeIn K cd33 "Disk.blocks" = true)
    (k33 : PySem.W.keepIn K (.ref f33) = true)
    (a34 : PySem.W.findIn K (.ref C_Disk) "read" = some (some (.ref f34)))
    (i34 : PySem.W.isFn K (.ref f34) = true)
    (l34 : K.lookup f34 = some ⟨oc34, od34, .func (PySem.W.fnOf "read" "Disk.read" (defArgs st_Disk_read) (defBody st_Disk_read) (defScope st_Disk_read) .none kV34 dc34 pm34 an34 cd34 ct34), sl34⟩)
    (c34 : PySem.W.codeIn K cd34 "Disk.read" = true)
    (k34 : PySem.W.keepIn K (.ref f34) = true)
    (a35 : PySem.W.findIn K (.ref C_Disk) "write" = some (some (.ref f35)))
    (i35 : PySem.W.isFn K (.ref f35) = true)
    (l35 : K.lookup f35 = some ⟨oc35, od35, .func (PySem.W.fnOf "write" "Disk.write" (defArgs st_Disk_write) (defBody st_Disk_write) (defScope st_Disk_write) .none kV35 dc35 pm35 an35 cd35 ct35), sl35⟩)
    (c35 : PySem.W.codeIn K cd35 "Disk.write" = true)
    (k35 : PySem.W.keepIn K (.ref f35) = true)
    (a36 : PySem.W.findIn K (.ref C_Disk) "reads" = some (some (.ref f36)))
    (i36 : PySem.W.isFn K (.ref f36) = true)
    (l36 : K.lookup f36 = some ⟨oc36, od36, .func (PySem.W.fnOf "reads" "Disk.reads" (defArgs st_Disk_reads) (defBody st_Disk_reads) (defScope st_Disk_reads) .none kV36 dc36 pm36 an36 cd36 ct36), sl36⟩)
    (c36 : PySem.W.codeIn K cd36 "Disk.reads" = true)
    (k36 : PySem.W.keepIn K (.ref f36) = true)
    (a37 : PySem.W.findIn K (.ref C_Disk) "writes" = some (some (.ref f37)))
    (i37 : PySem.W.isFn K (.ref f37) = true)
    (l37 : K.lookup f37 = some ⟨oc37, od37, .func (PySem.W.fnOf "writes" "Disk.writes" (defArgs st_Disk_writes) (defBody st_Disk_writes) (defScope st_Disk_writes) .none kV37 dc37 pm37 an37 cd37 ct37), sl37⟩)
    (c37 : PySem.W.codeIn K cd37 "Disk.writes" = true)
    (k37 : PySem.W.keepIn K (.ref f37) = true)
    (a38 : PySem.W.findIn K (.ref C_Disk) "stop_after" = some (some (.ref f38)))
    (i38 : PySem.W.isFn K (.ref f38) = true)
    (l38 : K.lookup f38 = some ⟨oc38, od38, .func (PySem.W.fnOf "stop_after" "Disk.stop_after" (defArgs st_Disk_stop_after) (defBody st_Disk_stop_after) (defScope st_Disk_stop_after) .none kV38 dc38 pm38 an38 cd38 ct38), sl38⟩)
    (c38 : PySem.W.codeIn K cd38 "Disk.stop_after" = true)
    (k38 : PySem.W.keepIn K (.ref f38) = true)
    (a39 : PySem.W.findIn K (.ref C_Disk) "go_on" = some (some (.ref f39)))
    (i39 : PySem.W.isFn K (.ref f39) = true)
    (l39 : K.lookup f39 = some ⟨oc39, od39, .func (PySem.W.fnOf "go_on" "Disk.go_on" (defArgs st_Disk_go_on) (defBody st_Disk_go_on) (defScope st_Disk_go_on) .none kV39 dc39 pm39 an39 cd39 ct39), sl39⟩)
    (c39 : PySem.W.codeIn K cd39 "Disk.go_on" = true)
    (k39 : PySem.W.keepIn K (.ref f39) = true)
    (a40 : PySem.W.findIn K (.ref C_Disk) "twin" = some (some (.ref f40)))
    (i40 : PySem.W.isFn K (.ref f40) = true)
    (l40 : K.lookup f40 = some ⟨oc40, od40, .func (PySem.W.fnOf "twin" "Disk.twin" (defArgs st_Disk_twin) (defBody st_Disk_twin) (defScope st_Disk_twin) .none kV40 dc40 pm40 an40 cd40 ct40), sl40⟩)
    (c40 : PySem.W.codeIn K cd40 "Disk.twin" = true)
    (k40 : PySem.W.keepIn K (.ref f40) = true)
    (a41 : PySem.W.findIn K (.ref C_Disk) "_need_place" = some (some (.ref f41)))
    (i41 : PySem.W.isFn K (.ref f41) = true)
    (l41 : K.lookup f41 = some ⟨oc41, od41, .func (PySem.W.fnOf "_need_place" "Disk._need_place" (defArgs st_Disk__need_place) (defBody st_Disk__need_place) (defScope st_Disk__need_place) .none kV41 dc41 pm41 an41 cd41 ct41), sl41⟩)
    (c41 : PySem.W.codeIn K cd41 "Disk._need_place" = true)
    (k41 : PySem.W.keepIn K (.ref f41) = true)
    (a42 : PySem.W.findIn K (.ref C_Disk) "_write_part" = some (some (.ref f42)))
    (i42 : PySem.W.isFn K (.ref f42) = true)
    (l42 : K.lookup f42 = some ⟨oc42, od42, .func (PySem.W.fnOf "_write_part" "Disk._write_part" (defArgs st_Disk__write_part) (defBody st_Disk__write_part) (defScope st_Disk__write_part) .none kV42 dc42 pm42 an42 cd42 ct42), sl42⟩)
    (c42 : PySem.W.codeIn K cd42 "Disk._write_part" = true)
    (k42 : PySem.W.keepIn K (.ref f42) = true)
    (a43 : PySem.W.nsIn K mainGlobals "_law_taken" = some (some (.ref f43)))
    (l43 : K.lookup f43 = some ⟨oc43, od43, .func (PySem.W.fnOf "_law_taken" "_law_taken" (defArgs st_law_taken) (defBody st_law_taken) (defScope st_law_taken) .none kV43 dc43 pm43 an43 cd43 ct43), sl43⟩)
    (c43 : PySem.W.codeIn K cd43 "_law_taken" = true)
    (k43 : PySem.W.keepIn K (.ref f43) = true)
    (a44 : PySem.W.nsIn K mainGlobals "_law_row_of" = some (some (.ref f44)))
    (l44 : K.lookup f44 = some ⟨oc44, od44, .func (PySem.W.fnOf "_law_row_of" "_law_row_of" (defArgs st_law_row_of) (defBody st_law_row_of) (defScope st_law_row_of) .none kV44 dc44 pm44 an44 cd44 ct44), sl44⟩)
    (c44 : PySem.W.codeIn K cd44 "_law_row_of" = true)
    (k44 : PySem.W.keepIn K (.ref f44) = true)
    (a45 : PySem.W.nsIn K mainGlobals "_law_pieces" = some (some (.ref f45)))
    (l45 : K.lookup f45 = some ⟨oc45, od45, .func (PySem.W.fnOf "_law_pieces" "_law_pieces" (defArgs st_law_pieces) (defBody st_law_pieces) (defScope st_law_pieces) .none kV45 dc45 pm45 an45 cd45 ct45), sl45⟩)
    (c45 : PySem.W.codeIn K cd45 "_law_pieces" = true)
    (k45 : PySem.W.keepIn K (.ref f45) = true)
    (a46 : PySem.W.nsIn K mainGlobals "_law_told" = some (some (.ref f46)))
    (l46 : K.lookup f46 = some ⟨oc46, od46, .func (PySem.W.fnOf "_law_told" "_law_told" (defArgs st_law_told) (defBody st_law_told) (defScope st_law_told) .none kV46 dc46 pm46 an46 cd46 ct46), sl46⟩)
    (c46 : PySem.W.codeIn K cd46 "_law_told" = true)
    (k46 : PySem.W.keepIn K (.ref f46) = true)
    (a47 : PySem.W.nsIn K mainGlobals "_law_alike" = some (some (.ref f47)))
    (l47 : K.lookup f47 = some ⟨oc47, od47, .func (PySem.W.fnOf "_law_alike" "_law_alike" (defArgs st_law_alike) (defBody st_law_alike) (defScope st_law_alike) .none kV47 dc47 pm47 an47 cd47 ct47), sl47⟩)
    (c47 : PySem.W.codeIn K cd47 "_law_alike" = true)
    (k47 : PySem.W.keepIn K (.ref f47) = true)
    (a48 : PySem.W.nsIn K mainGlobals "_law_deed" = some (some (.ref f48)))
    (l48 : K.lookup f48 = some ⟨oc48, od48, .func (PySem.W.fnOf "_law_deed" "_law_deed" (defArgs st_law_deed) (defBody st_law_deed) (defScope st_law_deed) .none kV48 dc48 pm48 an48 cd48 ct48), sl48⟩)
    (c48 : PySem.W.codeIn K cd48 "_law_deed" = true)
    (k48 : PySem.W.keepIn K (.ref f48) = true)
    (a49 : PySem.W.nsIn K mainGlobals "_law_done" = some (some (.ref f49)))
    (l49 : K.lookup f49 = some ⟨oc49, od49, .func (PySem.W.fnOf "_law_done" "_law_done" (defArgs st_law_done) (defBody st_law_done) (defScope st_law_done) .none kV49 dc49 pm49 an49 cd49 ct49), sl49⟩)
    (c49 : PySem.W.codeIn K cd49 "_law_done" = true)
    (k49 : PySem.W.keepIn K (.ref f49) = true)
    (a50 : PySem.W.nsIn K mainGlobals "law" = some (some (.ref f50)))
    (l50 : K.lookup f50 = some ⟨oc50, od50, .func (PySem.W.fnOf "law" "law" (defArgs st_law) (defBody st_law) (defScope st_law) .none kV50 dc50 pm50 an50 cd50 ct50), sl50⟩)
    (c50 : PySem.W.codeIn K cd50 "law" = true)
    (k50 : PySem.W.keepIn K (.ref f50) = true)
    (z_all : PySem.W.nsIn K mainGlobals "all" = some none)
    (z_bool : PySem.W.nsIn K mainGlobals "bool" = some none)
    (z_enumerate : PySem.W.nsIn K mainGlobals "enumerate" = some none)
    (z_int : PySem.W.nsIn K mainGlobals "int" = some none)
    (z_isinstance : PySem.W.nsIn K mainGlobals "isinstance" = some none)
    (z_len : PySem.W.nsIn K mainGlobals "len" = some none)
    (z_list : PySem.W.nsIn K mainGlobals "list" = some none)
    (z_min : PySem.W.nsIn K mainGlobals "min" = some none)
    (z_range : PySem.W.nsIn K mainGlobals "range" = some none)
    (z_str : PySem.W.nsIn K mainGlobals "str" = some none)
    (z_tuple : PySem.W.nsIn K mainGlobals "tuple" = some none)
    (q_PIECE_WORDS : PySem.W.nsIn K mainGlobals "PIECE_WORDS" = some (some (.int 3 t_PIECE_WORDS)))
    (q_NUMBER : PySem.W.nsIn K mainGlobals "NUMBER" = some (some (.int 0 t_NUMBER)))
    (q_FLOOR : PySem.W.nsIn K mainGlobals "FLOOR" = some (some (.int 1 t_FLOOR)))
    (q_BEGIN : PySem.W.nsIn K mainGlobals "BEGIN" = some (some (.int 2 t_BEGIN)))
    (q_LEFT : PySem.W.nsIn K mainGlobals "LEFT" = some (some (.int 3 t_LEFT)))
    (q_DATA_FROM : PySem.W.nsIn K mainGlobals "DATA_FROM" = some (some (.int 4 t_DATA_FROM)))
    (q_DATA_TO : PySem.W.nsIn K mainGlobals "DATA_TO" = some (some (.int 7 t_DATA_TO)))
    (q_NO_BEGIN : PySem.W.nsIn K mainGlobals "NO_BEGIN" = some (some (.int 0 t_NO_BEGIN)))
    (q_LEFT_OF_MARK : PySem.W.nsIn K mainGlobals "LEFT_OF_MARK" = some (some (.int 0 t_LEFT_OF_MARK)))
    (q_LEFT_OF_FAREWELL : PySem.W.nsIn K mainGlobals "LEFT_OF_FAREWELL" = some (some (.int 1 t_LEFT_OF_FAREWELL)))
    (q_MOST_WORDS : PySem.W.nsIn K mainGlobals "MOST_WORDS" = some (some (.int 11 t_MOST_WORDS)))
    (q_MOST_WORD_OF_ROW : PySem.W.nsIn K mainGlobals "MOST_WORD_OF_ROW" = some (some (.int 999999999 t_MOST_WORD_OF_ROW)))
    (q_LEAST_BLOCKS : PySem.W.nsIn K mainGlobals "LEAST_BLOCKS" = some (some (.int 4 t_LEAST_BLOCKS)))
    (q_MOST_BLOCKS : PySem.W.nsIn K mainGlobals "MOST_BLOCKS" = some (some (.int 64 t_MOST_BLOCKS)))
    (q_BLOCK_WORDS : PySem.W.nsIn K mainGlobals "BLOCK_WORDS" = some (some (.int 8 t_BLOCK_WORDS)))
    (q_MOST_WORD : PySem.W.nsIn K mainGlobals "MOST_WORD" = some (some (.int 1000000000000000 t_MOST_WORD)))
    (q_MOST_COUNT : PySem.W.nsIn K mainGlobals "MOST_COUNT" = some (some (.int 1000000000000000 t_MOST_COUNT)))
    (q_MOST_PART : PySem.W.nsIn K mainGlobals "MOST_PART" = some (some (.int 7 t_MOST_PART))) :
    ∃ fd : FuncData, (∀ (s : Shared) (v : Value), BindsTo s fd ⟨[v], []⟩ [("_law_script", v)]) ∧ ∀ base : Heap, K.In base → base.Ns mainGlobals mg → FnOk l.prog w K mg base CX0 9 fa fd ["_law_script"] (sp_law K Z0) := by
  have e := hfa.symm.trans (PySem.W.mg_of X G a50)
  cases e
  have T : Txt K mg ⟨(), 0, C_BadDisk, C_NoBlock, C_BadBlock, C_BadStop, C_Stopped, C_BadRow, C_Full, C_Empty, C_Gone, C_Log, C_Disk⟩ := { ok_ := trivial, m_all := PySem.W.mg_none_of X G z_all, m_bool := PySem.W.mg_none_of X G z_bool, m_enumerate := PySem.W.mg_none_of X G z_enumerate, m_int := PySem.W.mg_none_of X G z_int, m_isinstance := PySem.W.mg_none_of X G z_isinstance, m_len := PySem.W.mg_none_of X G z_len, m_list := PySem.W.mg_none_of X G z_list, m_min := PySem.W.mg_none_of X G z_min, m_range := PySem.W.mg_none_of X G z_range, m_str := PySem.W.mg_none_of X G z_str, m_tuple := PySem.W.mg_none_of X G z_tuple, cl_Log := ⟨pg_Log, hd_Log, po_Log, sa_Log⟩, g_Log := PySem.W.mg_of X G aC_Log, na_Log__cut := na_Log__cut, na_Log__disk := na_Log__disk, na_Log__gone := na_Log__gone, na_Log__number := na_Log__number, na_Log__rows := na_Log__rows, na_Log__torn := na_Log__torn, cl_Disk := ⟨pg_Disk, hd_Disk, po_Disk, sa_Disk⟩, g_Disk := PySem.W.mg_of X G aC_Disk, na_Disk__blocks := na_Disk__blocks, na_Disk__let := na_Disk__let, na_Disk__part := na_Disk__part, na_Disk__reads := na_Disk__reads, na_Disk__writes := na_Disk__writes, g_BadBlock := PySem.W.mg_of X G aC_BadBlock, x_BadBlock := x_BadBlock, kp_BadBlock := kp_BadBlock, sb_BadBlock := sb_BadBlock, ty_BadBlock := ty_BadBlock, g_BadDisk := PySem.W.mg_of X G aC_BadDisk, x_BadDisk := x_BadDisk, kp_BadDisk := kp_BadDisk, sb_BadDisk := sb_BadDisk, ty_BadDisk := ty_BadDisk, g_BadRow := PySem.W.mg_of X G aC_BadRow, x_BadRow := x_BadRow, kp_BadRow := kp_BadRow, sb_BadRow := sb_BadRow, ty_BadRow := ty_BadRow, g_BadStop := PySem.W.mg_of X G aC_BadStop, x_BadStop := x_BadStop, kp_BadStop := kp_BadStop, sb_BadStop := sb_BadStop, ty_BadStop := ty_BadStop, g_Empty := PySem.W.mg_of X G aC_Empty, x_Empty := x_Empty, kp_Empty := kp_Empty, sb_Empty := sb_Empty, ty_Empty := ty_Empty, g_Full := PySem.W.mg_of X G aC_Full, x_Full := x_Full, kp_Full := kp_Full, sb_Full := sb_Full, ty_Full := ty_Full, g_Gone := PySem.W.mg_of X G aC_Gone, x_Gone := x_Gone, kp_Gone := kp_Gone, sb_Gone := sb_Gone, ty_Gone := ty_Gone, g_NoBlock := PySem.W.mg_of X G aC_NoBlock, x_NoBlock := x_NoBlock, kp_NoBlock := kp_NoBlock, sb_NoBlock := sb_NoBlock, ty_NoBlock := ty_NoBlock, g_Stopped := PySem.W.mg_of X G aC_Stopped, x_Stopped := x_Stopped, kp_Stopped := kp_Stopped, sb_Stopped := sb_Stopped, ty_Stopped := ty_Stopped, e_BadBlock_Empty := exm_of sb_Empty ic_Empty ty_Empty s_BadBlock_Empty, e_BadBlock_Full := exm_of sb_Full ic_Full ty_Full s_BadBlock_Full, e_BadBlock_Gone := exm_of sb_Gone ic_Gone ty_Gone s_BadBlock_Gone, e_BadBlock_Stopped := exm_of sb_Stopped ic_Stopped ty_Stopped s_BadBlock_Stopped, e_BadDisk_Empty := exm_of sb_Empty ic_Empty ty_Empty s_BadDisk_Empty, e_BadDisk_Full := exm_of sb_Full ic_Full ty_Full s_BadDisk_Full, e_BadDisk_Gone := exm_of sb_Gone ic_Gone ty_Gone s_BadDisk_Gone, e_BadDisk_Stopped := exm_of sb_Stopped ic_Stopped ty_Stopped s_BadDisk_Stopped, e_BadRow_Empty := exm_of sb_Empty ic_Empty ty_Empty s_BadRow_Empty, e_BadRow_Full := exm_of sb_Full ic_Full ty_Full s_BadRow_Full, e_BadRow_Gone := exm_of sb_Gone ic_Gone ty_Gone s_BadRow_Gone, e_BadRow_Stopped := exm_of sb_Stopped ic_Stopped ty_Stopped s_BadRow_Stopped, e_BadStop_Empty := exm_of sb_Empty ic_Empty ty_Empty s_BadStop_Empty, e_BadStop_Full := exm_of sb_Full ic_Full ty_Full s_BadStop_Full, e_BadStop_Gone := exm_of sb_Gone ic_Gone ty_Gone s_BadStop_Gone, e_BadStop_Stopped := exm_of sb_Stopped ic_Stopped ty_Stopped s_BadStop_Stopped, e_Empty_Empty := exm_of sb_Empty ic_Empty ty_Empty s_Empty_Empty, e_Empty_Full := exm_of sb_Full ic_Full ty_Full s_Empty_Full, e_Empty_Gone := exm_of sb_Gone ic_Gone ty_Gone s_Empty_Gone, e_Empty_Stopped := exm_of sb_Stopped ic_Stopped ty_Stopped s_Empty_Stopped, e_Full_Empty := exm_of sb_Empty ic_Empty ty_Empty s_Full_Empty, e_Full_Full := exm_of sb_Full ic_Full ty_Full s_Full_Full, e_Full_Gone := exm_of sb_Gone ic_Gone ty_Gone s_Full_Gone, e_Full_Stopped := exm_of sb_Stopped ic_Stopped ty_Stopped s_Full_Stopped, e_Gone_Empty := exm_of sb_Empty ic_Empty ty_Empty s_Gone_Empty, e_Gone_Full := exm_of sb_Full ic_Full ty_Full s_Gone_Full, e_Gone_Gone := exm_of sb_Gone ic_Gone ty_Gone s_Gone_Gone, e_Gone_Stopped := exm_of sb_Stopped ic_Stopped ty_Stopped s_Gone_Stopped, e_NoBlock_Empty := exm_of sb_Empty ic_Empty ty_Empty s_NoBlock_Empty, e_NoBlock_Full := exm_of sb_Full ic_Full ty_Full s_NoBlock_Full, e_NoBlock_Gone := exm_of sb_Gone ic_Gone ty_Gone s_NoBlock_Gone, e_NoBlock_Stopped := exm_of sb_Stopped ic_Stopped ty_Stopped s_NoBlock_Stopped, e_Stopped_Empty := exm_of sb_Empty ic_Empty ty_Empty s_Stopped_Empty, e_Stopped_Full := exm_of sb_Full ic_Full ty_Full s_Stopped_Full, e_Stopped_Gone := exm_of sb_Gone ic_Gone ty_Gone s_Stopped_Gone, e_Stopped_Stopped := exm_of sb_Stopped ic_Stopped ty_Stopped s_Stopped_Stopped, c_PIECE_WORDS := ⟨_, PySem.W.mg_of X G q_PIECE_WORDS⟩, c_NUMBER := ⟨_, PySem.W.mg_of X G q_NUMBER⟩, c_FLOOR := ⟨_, PySem.W.mg_of X G q_FLOOR⟩, c_BEGIN := ⟨_, PySem.W.mg_of X G q_BEGIN⟩, c_LEFT := ⟨_, PySem.W.mg_of X G q_LEFT⟩, c_DATA_FROM := ⟨_, PySem.W.mg_of X G q_DATA_FROM⟩, c_DATA_TO := ⟨_, PySem.W.mg_of X G q_DATA_TO⟩, c_NO_BEGIN := ⟨_, PySem.W.mg_of X G q_NO_BEGIN⟩, c_LEFT_OF_MARK := ⟨_, PySem.W.mg_of X G q_LEFT_OF_MARK⟩, c_LEFT_OF_FAREWELL := ⟨_, PySem.W.mg_of X G q_LEFT_OF_FAREWELL⟩, c_MOST_WORDS := ⟨_, PySem.W.mg_of X G q_MOST_WORDS⟩, c_MOST_WORD_OF_ROW := ⟨_, PySem.W.mg_of X G q_MOST_WORD_OF_ROW⟩, c_LEAST_BLOCKS := ⟨_, PySem.W.mg_of X G q_LEAST_BLOCKS⟩, c_MOST_BLOCKS := ⟨_, PySem.W.mg_of X G q_MOST_BLOCKS⟩, c_BLOCK_WORDS := ⟨_, PySem.W.mg_of X G q_BLOCK_WORDS⟩, c_MOST_WORD := ⟨_, PySem.W.mg_of X G q_MOST_WORD⟩, c_MOST_COUNT := ⟨_, PySem.W.mg_of X G q_MOST_COUNT⟩, c_MOST_PART := ⟨_, PySem.W.mg_of X G q_MOST_PART⟩ }
  have F0 := fun_mk (st := st_wall) l0 c0 k0
  have b0 := F0.binds (ps := ["k"]) fun _ _ _ _ _ _ us hl => match us, hl with | [_], _ => rfl
  have F1 := fun_mk (st := st_made) l1 c1 k1
  have b1 := F1.binds (ps := ["number", "floor", "begin", "left", "data"]) fun _ _ _ _ _ _ us hl => match us, hl with | [_, _, _, _, _], _ => rfl
  have F2 := fun_mk (st := st_made_mark) l2 c2 k2
  have b2 := F2.binds (ps := ["number", "floor"]) fun _ _ _ _ _ _ us hl => match us, hl with | [_, _], _ => rfl
  have F3 := fun_mk (st := st_is_farewell) l3 c3 k3
  have b3 := F3.binds (ps := ["words"]) fun _ _ _ _ _ _ us hl => match us, hl with | [_], _ => rfl
  have F4 := fun_mk (st := st_kind) l4 c4 k4
  have b4 := F4.binds (ps := ["words", "place", "many"]) fun _ _ _ _ _ _ us hl => match us, hl with | [_, _, _], _ => rfl
  have F5 := fun_mk (st := st_pieces) l5 c5 k5
  have b5 := F5.binds (ps := ["row"]) fun _ _ _ _ _ _ us hl => match us, hl with | [_], _ => rfl
  have F6 := fun_mk (st := st_words_of) l6 c6 k6
  have b6 := F6.binds (ps := ["some"]) fun _ _ _ _ _ _ us hl => match us, hl with | [_], _ => rfl
  have F7 := fun_mk (st := st_newest) l7 c7 k7
  have b7 := F7.binds (ps := ["disk"]) fun _ _ _ _ _ _ us hl => match us, hl with | [_], _ => rfl
  have F8 := fun_mk (st := st_number_in_last_place) l8 c8 k8
  have b8 := F8.binds (ps := ["disk"]) fun _ _ _ _ _ _ us hl => match us, hl with | [_], _ => rfl
  have F9 := fun_mk (st := st_newest_of_round) l9 c9 k9
  have b9 := F9.binds (ps := ["disk", "start"]) fun _ _ _ _ _ _ us hl => match us, hl with | [_, _], _ => rfl
  have F10 := fun_mk (st := st_rows_in) l10 c10 k10
  have b10 := F10.binds (ps := ["blocks"]) fun _ _ _ _ _ _ us hl => match us, hl with | [_], _ => rfl
  have F11 := fun_mk (st := st_cut_in) l11 c11 k11
  have b11 := F11.binds (ps := ["blocks"]) fun _ _ _ _ _ _ us hl => match us, hl with | [_], _ => rfl
  have F12 := fun_mk (st := st_by_row) l12 c12 k12
  have b12 := F12.binds (ps := ["blocks"]) fun _ _ _ _ _ _ us hl => match us, hl with | [_], _ => rfl
  have F13 := fun_mk (st := st_has_last) l13 c13 k13
  have b13 := F13.binds (ps := ["some"]) fun _ _ _ _ _ _ us hl => match us, hl with | [_], _ => rfl
  have F14 := fun_mk (st := st_is_whole) l14 c14 k14
  have b14 := F14.binds (ps := ["value", "low", "high"]) fun _ _ _ _ _ _ us hl => match us, hl with | [_, _, _], _ => rfl
  have F15 := fun_mk (st := st_is_row) l15 c15 k15
  have b15 := F15.binds (ps := ["row"]) fun _ _ _ _ _ _ us hl => match us, hl with | [_], _ => rfl
  have F16 := fun_mk (st := st_blocks_of_use) l16 c16 k16
  have b16 := F16.binds (ps := ["disk", "number"]) fun _ _ _ _ _ _ us hl => match us, hl with | [_, _], _ => rfl
  have F17 := fun_mk (st := st_floor_under) l17 c17 k17
  have b17 := F17.binds (ps := ["rows", "number"]) fun _ _ _ _ _ _ us hl => match us, hl with | [_, _], _ => rfl
  have F18 := fun_mk (st := st_Log___init__) l18 c18 k18
  have b18 := F18.binds (ps := ["self", "disk"]) fun _ _ _ _ _ _ us hl => match us, hl with | [_, _], _ => rfl
  have F19 := fun_mk (st := st_Log_rows) l19 c19 k19
  have b19 := F19.binds (ps := ["self"]) fun _ _ _ _ _ _ us hl => match us, hl with | [_], _ => rfl
  have F20 := fun_mk (st := st_Log_room) l20 c20 k20
  have b20 := F20.binds (ps := ["self"]) fun _ _ _ _ _ _ us hl => match us, hl with | [_], _ => rfl
  have F21 := fun_mk (st := st_Log_scars) l21 c21 k21
  have b21 := F21.binds (ps := ["self"]) fun _ _ _ _ _ _ us hl => match us, hl with | [_], _ => rfl
  have F22 := fun_mk (st := st_Log_gone) l22 c22 k22
  have b22 := F22.binds (ps := ["self"]) fun _ _ _ _ _ _ us hl => match us, hl with | [_], _ => rfl
  have F23 := fun_mk (st := st_Log_put) l23 c23 k23
  have b23 := F23.binds (ps := ["self", "row"]) fun _ _ _ _ _ _ us hl => match us, hl with | [_, _], _ => rfl
  have F24 := fun_mk (st := st_Log_take) l24 c24 k24
  have b24 := F24.binds (ps := ["self"]) fun _ _ _ _ _ _ us hl => match us, hl with | [_], _ => rfl
  have F25 := fun_mk (st := st_Log_take_all) l25 c25 k25
  have b25 := F25.binds (ps := ["self"]) fun _ _ _ _ _ _ us hl => match us, hl with | [_], _ => rfl
  have F26 := fun_mk (st := st_Log_leave) l26 c26 k26
  have b26 := F26.binds (ps := ["self"]) fun _ _ _ _ _ _ us hl => match us, hl with | [_], _ => rfl
  have F27 := fun_mk (st := st_Log__need_here) l27 c27 k27
  have b27 := F27.binds (ps := ["self"]) fun _ _ _ _ _ _ us hl => match us, hl with | [_], _ => rfl
  have F28 := fun_mk (st := st_Log__write) l28 c28 k28
  have b28 := F28.binds (ps := ["self", "words"]) fun _ _ _ _ _ _ us hl => match us, hl with | [_, _], _ => rfl
  have F29 := fun_mk (st := st_Log__write_end) l29 c29 k29
  have b29 := F29.binds (ps := ["self", "words"]) fun _ _ _ _ _ _ us hl => match us, hl with | [_, _], _ => rfl
  have F30 := fun_mk (st := st_Log__wrote) l30 c30 k30
  have b30 := F30.binds (ps := ["self", "number", "floor"]) fun _ _ _ _ _ _ us hl => match us, hl with | [_, _, _], _ => rfl
  have F31 := fun_mk (st := st_is_block) l31 c31 k31
  have b31 := F31.binds (ps := ["words"]) fun _ _ _ _ _ _ us hl => match us, hl with | [_], _ => rfl
  have F32 := fun_mk (st := st_Disk___init__) l32 c32 k32
  have b32 := F32.binds (ps := ["self", "many"]) fun _ _ _ _ _ _ us hl => match us, hl with | [_, _], _ => rfl
  have F33 := fun_mk (st := st_Disk_blocks) l33 c33 k33
  have b33 := F33.binds (ps := ["self"]) fun _ _ _ _ _ _ us hl => match us, hl with | [_], _ => rfl
  have F34 := fun_mk (st := st_Disk_read) l34 c34 k34
  have b34 := F34.binds (ps := ["self", "place"]) fun _ _ _ _ _ _ us hl => match us, hl with | [_, _], _ => rfl
  have F35 := fun_mk (st := st_Disk_write) l35 c35 k35
  have b35 := F35.binds (ps := ["self", "place", "words"]) fun _ _ _ _ _ _ us hl => match us, hl with | [_, _, _], _ => rfl
  have F36 := fun_mk (st := st_Disk_reads) l36 c36 k36
  have b36 := F36.binds (ps := ["self"]) fun _ _ _ _ _ _ us hl => match us, hl with | [_], _ => rfl
  have F37 := fun_mk (st := st_Disk_writes) l37 c37 k37
  have b37 := F37.binds (ps := ["self"]) fun _ _ _ _ _ _ us hl => match us, hl with | [_], _ => rfl
  have F38 := fun_mk (st := st_Disk_stop_after) l38 c38 k38
  have b38 := F38.binds (ps := ["self", "count", "part"]) fun _ _ _ _ _ _ us hl => match us, hl with | [_, _, _], _ => rfl
  have F39 := fun_mk (st := st_Disk_go_on) l39 c39 k39
  have b39 := F39.binds (ps := ["self"]) fun _ _ _ _ _ _ us hl => match us, hl with | [_], _ => rfl
  have F40 := fun_mk (st := st_Disk_twin) l40 c40 k40
  have b40 := F40.binds (ps := ["self"]) fun _ _ _ _ _ _ us hl => match us, hl with | [_], _ => rfl
  have F41 := fun_mk (st := st_Disk__need_place) l41 c41 k41
  have b41 := F41.binds (ps := ["self", "place"]) fun _ _ _ _ _ _ us hl => match us, hl with | [_, _], _ => rfl
  have F42 := fun_mk (st := st_Disk__write_part) l42 c42 k42
  have b42 := F42.binds (ps := ["self", "place", "words"]) fun _ _ _ _ _ _ us hl => match us, hl with | [_, _, _], _ => rfl
  have F43 := fun_mk (st := st_law_taken) l43 c43 k43
  have b43 := F43.binds (ps := ["_law_row", "_law_many"]) fun _ _ _ _ _ _ us hl => match us, hl with | [_, _], _ => rfl
  have F44 := fun_mk (st := st_law_row_of) l44 c44 k44
  have b44 := F44.binds (ps := ["_law_row"]) fun _ _ _ _ _ _ us hl => match us, hl with | [_], _ => rfl
  have F45 := fun_mk (st := st_law_pieces) l45 c45 k45
  have b45 := F45.binds (ps := ["_law_words"]) fun _ _ _ _ _ _ us hl => match us, hl with | [_], _ => rfl
  have F46 := fun_mk (st := st_law_told) l46 c46 k46
  have b46 := F46.binds (ps := ["_law_log", "_law_words"]) fun _ _ _ _ _ _ us hl => match us, hl with | [_, _], _ => rfl
  have F47 := fun_mk (st := st_law_alike) l47 c47 k47
  have b47 := F47.binds (ps := ["_law_found", "_law_due"]) fun _ _ _ _ _ _ us hl => match us, hl with | [_, _], _ => rfl
  have F48 := fun_mk (st := st_law_deed) l48 c48 k48
  have b48 := F48.binds (ps := ["_law_row"]) fun _ _ _ _ _ _ us hl => match us, hl with | [_], _ => rfl
  have F49 := fun_mk (st := st_law_done) l49 c49 k49
  have b49 := F49.binds (ps := ["_law_row", "_law_disk", "_law_log", "_law_words"]) fun _ _ _ _ _ _ us hl => match us, hl with | [_, _, _, _], _ => rfl
  have F50 := fun_mk (st := st_law) l50 c50 k50
  refine ⟨PySem.W.fnOf "law" "law" (defArgs st_law) (defBody st_law) (defScope st_law) .none kV50 dc50 pm50 an50 cd50 ct50, fun s v => .of_eq rfl, fun base _ _ => ?_⟩
  have D_is_farewell : DefOk l.prog w K mg base CX0 1 "is_farewell" ["words"] (sp_is_farewell K ⟨(), 0, C_BadDisk, C_NoBlock, C_BadBlock, C_BadStop, C_Stopped, C_BadRow, C_Full, C_Empty, C_Gone, C_Log, C_Disk⟩) := ⟨f3, _, ok_is_farewell F3 T , b3, k3, PySem.W.mg_of X G a3⟩
  have D_kind : DefOk l.prog w K mg base CX0 1 "kind" ["words", "place", "many"] (sp_kind K ⟨(), 0, C_BadDisk, C_NoBlock, C_BadBlock, C_BadStop, C_Stopped, C_BadRow, C_Full, C_Empty, C_Gone, C_Log, C_Disk⟩) := ⟨f4, _, ok_kind F4 T , b4, k4, PySem.W.mg_of X G a4⟩
  have M_Disk_blocks : MethOk l.prog w K mg base CX0 1 C_Disk "blocks" ["self"] (sp_Disk_blocks K ⟨(), 0, C_BadDisk, C_NoBlock, C_BadBlock, C_BadStop, C_Stopped, C_BadRow, C_Full, C_Empty, C_Gone, C_Log, C_Disk⟩) := ⟨⟨f33, _, ok_Disk_blocks F33 T , b33, a33, i33, k33⟩⟩
  have D_is_whole : DefOk l.prog w K mg base CX0 1 "is_whole" ["value", "low", "high"] (sp_is_whole K ⟨(), 0, C_BadDisk, C_NoBlock, C_BadBlock, C_BadStop, C_Stopped, C_BadRow, C_Full, C_Empty, C_Gone, C_Log, C_Disk⟩) := ⟨f14, _, ok_is_whole F14 T , b14, k14, PySem.W.mg_of X G a14⟩
  have M_Disk__need_place : MethOk l.prog w K mg base (L2.CX l.prog w) 2 C_Disk "_need_place" ["self", "place"] (sp_Disk__need_place K ⟨(), 0, C_BadDisk, C_NoBlock, C_BadBlock, C_BadStop, C_Stopped, C_BadRow, C_Full, C_Empty, C_Gone, C_Log, C_Disk⟩) := ⟨⟨f41, _, ok_Disk__need_place F41 T D_is_whole, b41, a41, i41, k41⟩⟩
  have M_Disk_read : MethOk l.prog w K mg base (L2.CX l.prog w) 3 C_Disk "read" ["self", "place"] (sp_Disk_read K ⟨(), 0, C_BadDisk, C_NoBlock, C_BadBlock, C_BadStop, C_Stopped, C_BadRow, C_Full, C_Empty, C_Gone, C_Log, C_Disk⟩) := ⟨⟨f34, _, ok_Disk_read F34 T M_Disk__need_place, b34, a34, i34, k34⟩⟩
  have D_number_in_last_place : DefOk l.prog w K mg base CX0 4 "_number_in_last_place" ["disk"] (sp_number_in_last_place K ⟨(), 0, C_BadDisk, C_NoBlock, C_BadBlock, C_BadStop, C_Stopped, C_BadRow, C_Full, C_Empty, C_Gone, C_Log, C_Disk⟩) := ⟨f8, _, ok_number_in_last_place F8 T D_kind M_Disk_blocks M_Disk_read, b8, k8, PySem.W.mg_of X G a8⟩
  have D_newest_of_round : DefOk l.prog w K mg base CX0 4 "_newest_of_round" ["disk", "start"] (sp_newest_of_round K ⟨(), 0, C_BadDisk, C_NoBlock, C_BadBlock, C_BadStop, C_Stopped, C_BadRow, C_Full, C_Empty, C_Gone, C_Log, C_Disk⟩) := ⟨f9, _, ok_newest_of_round F9 T D_kind M_Disk_blocks M_Disk_read, b9, k9, PySem.W.mg_of X G a9⟩
  have D_newest : DefOk l.prog w K mg base CX0 5 "newest" ["disk"] (sp_newest K ⟨(), 0, C_BadDisk, C_NoBlock, C_BadBlock, C_BadStop, C_Stopped, C_BadRow, C_Full, C_Empty, C_Gone, C_Log, C_Disk⟩) := ⟨f7, _, ok_newest F7 T D_kind D_number_in_last_place D_newest_of_round M_Disk_blocks M_Disk_read, b7, k7, PySem.W.mg_of X G a7⟩
  have D_words_of : DefOk l.prog w K mg base CX0 1 "words_of" ["some"] (sp_words_of K ⟨(), 0, C_BadDisk, C_NoBlock, C_BadBlock, C_BadStop, C_Stopped, C_BadRow, C_Full, C_Empty, C_Gone, C_Log, C_Disk⟩) := ⟨f6, _, ok_words_of F6 T , b6, k6, PySem.W.mg_of X G a6⟩
  have D_by_row : DefOk l.prog w K mg base CX0 1 "_by_row" ["blocks"] (sp_by_row K ⟨(), 0, C_BadDisk, C_NoBlock, C_BadBlock, C_BadStop, C_Stopped, C_BadRow, C_Full, C_Empty, C_Gone, C_Log, C_Disk⟩) := ⟨f12, _, ok_by_row F12 T , b12, k12, PySem.W.mg_of X G a12⟩
  have D_has_last : DefOk l.prog w K mg base CX0 1 "_has_last" ["some"] (sp_has_last K ⟨(), 0, C_BadDisk, C_NoBlock, C_BadBlock, C_BadStop, C_Stopped, C_BadRow, C_Full, C_Empty, C_Gone, C_Log, C_Disk⟩) := ⟨f13, _, ok_has_last F13 T , b13, k13, PySem.W.mg_of X G a13⟩
  have D_rows_in : DefOk l.prog w K mg base CX0 2 "rows_in" ["blocks"] (sp_rows_in K ⟨(), 0, C_BadDisk, C_NoBlock, C_BadBlock, C_BadStop, C_Stopped, C_BadRow, C_Full, C_Empty, C_Gone, C_Log, C_Disk⟩) := ⟨f10, _, ok_rows_in F10 T D_words_of D_by_row D_has_last, b10, k10, PySem.W.mg_of X G a10⟩
  have D_cut_in : DefOk l.prog w K mg base CX0 2 "cut_in" ["blocks"] (sp_cut_in K ⟨(), 0, C_BadDisk, C_NoBlock, C_BadBlock, C_BadStop, C_Stopped, C_BadRow, C_Full, C_Empty, C_Gone, C_Log, C_Disk⟩) := ⟨f11, _, ok_cut_in F11 T D_by_row D_has_last, b11, k11, PySem.W.mg_of X G a11⟩
  have D_blocks_of_use : DefOk l.prog w K mg base CX0 4 "_blocks_of_use" ["disk", "number"] (sp_blocks_of_use K ⟨(), 0, C_BadDisk, C_NoBlock, C_BadBlock, C_BadStop, C_Stopped, C_BadRow, C_Full, C_Empty, C_Gone, C_Log, C_Disk⟩) := ⟨f16, _, ok_blocks_of_use F16 T M_Disk_blocks M_Disk_read, b16, k16, PySem.W.mg_of X G a16⟩
  have M_Log___init__ : MakeOk l.prog w K mg base CX0 6 C_Log ["self", "disk"] (sp_Log___init__ K ⟨(), 0, C_BadDisk, C_NoBlock, C_BadBlock, C_BadStop, C_Stopped, C_BadRow, C_Full, C_Empty, C_Gone, C_Log, C_Disk⟩) := ⟨⟨f18, _, ok_Log___init__ F18 T D_is_farewell D_newest D_rows_in D_cut_in D_blocks_of_use, b18, mk_Log, a18, i18, kc_Log⟩⟩
  have M_Log_rows : MethOk l.prog w K mg base CX0 1 C_Log "rows" ["self"] (sp_Log_rows K ⟨(), 0, C_BadDisk, C_NoBlock, C_BadBlock, C_BadStop, C_Stopped, C_BadRow, C_Full, C_Empty, C_Gone, C_Log, C_Disk⟩) := ⟨⟨f19, _, ok_Log_rows F19 T , b19, a19, i19, k19⟩⟩
  have D_floor_under : DefOk l.prog w K mg base CX0 1 "_floor_under" ["rows", "number"] (sp_floor_under K ⟨(), 0, C_BadDisk, C_NoBlock, C_BadBlock, C_BadStop, C_Stopped, C_BadRow, C_Full, C_Empty, C_Gone, C_Log, C_Disk⟩) := ⟨f17, _, ok_floor_under F17 T , b17, k17, PySem.W.mg_of X G a17⟩
  have M_Log_room : MethOk l.prog w K mg base CX0 2 C_Log "room" ["self"] (sp_Log_room K ⟨(), 0, C_BadDisk, C_NoBlock, C_BadBlock, C_BadStop, C_Stopped, C_BadRow, C_Full, C_Empty, C_Gone, C_Log, C_Disk⟩) := ⟨⟨f20, _, ok_Log_room F20 T D_floor_under M_Disk_blocks, b20, a20, i20, k20⟩⟩
  have M_Disk___init__ : MakeOk l.prog w K mg base (L2.CX l.prog w) 2 C_Disk ["self", "many"] (sp_Disk___init__ K ⟨(), 0, C_BadDisk, C_NoBlock, C_BadBlock, C_BadStop, C_Stopped, C_BadRow, C_Full, C_Empty, C_Gone, C_Log, C_Disk⟩) := ⟨⟨f32, _, ok_Disk___init__ F32 T D_is_whole, b32, mk_Disk, a32, i32, kc_Disk⟩⟩
  have D_law_taken : DefOk l.prog w K mg base CX0 1 "_law_taken" ["_law_row", "_law_many"] (sp_law_taken K ⟨(), 0, C_BadDisk, C_NoBlock, C_BadBlock, C_BadStop, C_Stopped, C_BadRow, C_Full, C_Empty, C_Gone, C_Log, C_Disk⟩) := ⟨f43, _, ok_law_taken F43 T , b43, k43, PySem.W.mg_of X G a43⟩
  have D_law_pieces : DefOk l.prog w K mg base CX0 1 "_law_pieces" ["_law_words"] (sp_law_pieces K ⟨(), 0, C_BadDisk, C_NoBlock, C_BadBlock, C_BadStop, C_Stopped, C_BadRow, C_Full, C_Empty, C_Gone, C_Log, C_Disk⟩) := ⟨f45, _, ok_law_pieces F45 T , b45, k45, PySem.W.mg_of X G a45⟩
  have R_law_alike : ∀ n : Nat, DefOk l.prog w K mg base CX0 n "_law_alike" ["_law_found", "_law_due"] (sp_law_alike K ⟨(), 0, C_BadDisk, C_NoBlock, C_BadBlock, C_BadStop, C_Stopped, C_BadRow, C_Full, C_Empty, C_Gone, C_Log, C_Disk⟩ n) := fun n => by
    induction n with
    | zero => exact ⟨f47, _, none_left no_law_alike, b47, k47, PySem.W.mg_of X G a47⟩
    | succ n ih => exact ⟨f47, _, ok_law_alike F47 T ih, b47, k47, PySem.W.mg_of X G a47⟩
  have D_law_alike := R_law_alike 6
  have D_law_row_of : DefOk l.prog w K mg base CX0 2 "_law_row_of" ["_law_row"] (sp_law_row_of K ⟨(), 0, C_BadDisk, C_NoBlock, C_BadBlock, C_BadStop, C_Stopped, C_BadRow, C_Full, C_Empty, C_Gone, C_Log, C_Disk⟩) := ⟨f44, _, ok_law_row_of F44 T D_law_taken, b44, k44, PySem.W.mg_of X G a44⟩
  have D_law_deed : DefOk l.prog w K mg base CX0 3 "_law_deed" ["_law_row"] (sp_law_deed K ⟨(), 0, C_BadDisk, C_NoBlock, C_BadBlock, C_BadStop, C_Stopped, C_BadRow, C_Full, C_Empty, C_Gone, C_Log, C_Disk⟩) := ⟨f48, _, ok_law_deed F48 T D_law_taken D_law_row_of, b48, k48, PySem.W.mg_of X G a48⟩
  have M_Disk_stop_after : MethOk l.prog w K mg base (L2.CX l.prog w) 2 C_Disk "stop_after" ["self", "count", "part"] (sp_Disk_stop_after K ⟨(), 0, C_BadDisk, C_NoBlock, C_BadBlock, C_BadStop, C_Stopped, C_BadRow, C_Full, C_Empty, C_Gone, C_Log, C_Disk⟩) := ⟨⟨f38, _, ok_Disk_stop_after F38 T D_is_whole, b38, a38, i38, k38⟩⟩
  have M_Disk_go_on : MethOk l.prog w K mg base CX0 1 C_Disk "go_on" ["self"] (sp_Disk_go_on K ⟨(), 0, C_BadDisk, C_NoBlock, C_BadBlock, C_BadStop, C_Stopped, C_BadRow, C_Full, C_Empty, C_Gone, C_Log, C_Disk⟩) := ⟨⟨f39, _, ok_Disk_go_on F39 T , b39, a39, i39, k39⟩⟩
  have D_made : DefOk l.prog w K mg base CX0 1 "made" ["number", "floor", "begin", "left", "data"] (sp_made K ⟨(), 0, C_BadDisk, C_NoBlock, C_BadBlock, C_BadStop, C_Stopped, C_BadRow, C_Full, C_Empty, C_Gone, C_Log, C_Disk⟩) := ⟨f1, _, ok_made F1 T , b1, k1, PySem.W.mg_of X G a1⟩
  have D_pieces : DefOk l.prog w K mg base CX0 1 "pieces" ["row"] (sp_pieces K ⟨(), 0, C_BadDisk, C_NoBlock, C_BadBlock, C_BadStop, C_Stopped, C_BadRow, C_Full, C_Empty, C_Gone, C_Log, C_Disk⟩) := ⟨f5, _, ok_pieces F5 T , b5, k5, PySem.W.mg_of X G a5⟩
  have D_is_row : DefOk l.prog w K mg base CX0 2 "_is_row" ["row"] (sp_is_row K ⟨(), 0, C_BadDisk, C_NoBlock, C_BadBlock, C_BadStop, C_Stopped, C_BadRow, C_Full, C_Empty, C_Gone, C_Log, C_Disk⟩) := ⟨f15, _, ok_is_row F15 T D_is_whole, b15, k15, PySem.W.mg_of X G a15⟩
  have M_Log__need_here : MethOk l.prog w K mg base (L2.CX l.prog w) 1 C_Log "_need_here" ["self"] (sp_Log__need_here K ⟨(), 0, C_BadDisk, C_NoBlock, C_BadBlock, C_BadStop, C_Stopped, C_BadRow, C_Full, C_Empty, C_Gone, C_Log, C_Disk⟩) := ⟨⟨f27, _, ok_Log__need_here F27 T , b27, a27, i27, k27⟩⟩
  have D_is_block : DefOk l.prog w K mg base CX0 2 "_is_block" ["words"] (sp_is_block K ⟨(), 0, C_BadDisk, C_NoBlock, C_BadBlock, C_BadStop, C_Stopped, C_BadRow, C_Full, C_Empty, C_Gone, C_Log, C_Disk⟩) := ⟨f31, _, ok_is_block F31 T D_is_whole, b31, k31, PySem.W.mg_of X G a31⟩
  have M_Disk__write_part : MethOk l.prog w K mg base CX0 1 C_Disk "_write_part" ["self", "place", "words"] (sp_Disk__write_part K ⟨(), 0, C_BadDisk, C_NoBlock, C_BadBlock, C_BadStop, C_Stopped, C_BadRow, C_Full, C_Empty, C_Gone, C_Log, C_Disk⟩) := ⟨⟨f42, _, ok_Disk__write_part F42 T , b42, a42, i42, k42⟩⟩
  have M_Disk_write : MethOk l.prog w K mg base (L2.CX l.prog w) 3 C_Disk "write" ["self", "place", "words"] (sp_Disk_write K ⟨(), 0, C_BadDisk, C_NoBlock, C_BadBlock, C_BadStop, C_Stopped, C_BadRow, C_Full, C_Empty, C_Gone, C_Log, C_Disk⟩) := ⟨⟨f35, _, ok_Disk_write F35 T D_is_block M_Disk__need_place M_Disk__write_part, b35, a35, i35, k35⟩⟩
  have M_Log__write : MethOk l.prog w K mg base (L2.CX l.prog w) 4 C_Log "_write" ["self", "words"] (sp_Log__write K ⟨(), 0, C_BadDisk, C_NoBlock, C_BadBlock, C_BadStop, C_Stopped, C_BadRow, C_Full, C_Empty, C_Gone, C_Log, C_Disk⟩) := ⟨⟨f28, _, ok_Log__write F28 T M_Disk_blocks M_Disk_write, b28, a28, i28, k28⟩⟩
  have M_Log__wrote : MethOk l.prog w K mg base CX0 1 C_Log "_wrote" ["self", "number", "floor"] (sp_Log__wrote K ⟨(), 0, C_BadDisk, C_NoBlock, C_BadBlock, C_BadStop, C_Stopped, C_BadRow, C_Full, C_Empty, C_Gone, C_Log, C_Disk⟩) := ⟨⟨f30, _, ok_Log__wrote F30 T , b30, a30, i30, k30⟩⟩
  have M_Log_put : MethOk l.prog w K mg base (L2.CX l.prog w) 5 C_Log "put" ["self", "row"] (sp_Log_put K ⟨(), 0, C_BadDisk, C_NoBlock, C_BadBlock, C_BadStop, C_Stopped, C_BadRow, C_Full, C_Empty, C_Gone, C_Log, C_Disk⟩) := ⟨⟨f23, _, ok_Log_put F23 T D_made D_pieces D_is_row D_floor_under M_Log_room M_Log__need_here M_Log__write M_Log__wrote, b23, a23, i23, k23⟩⟩
  have D_made_mark : DefOk l.prog w K mg base CX0 2 "made_mark" ["number", "floor"] (sp_made_mark K ⟨(), 0, C_BadDisk, C_NoBlock, C_BadBlock, C_BadStop, C_Stopped, C_BadRow, C_Full, C_Empty, C_Gone, C_Log, C_Disk⟩) := ⟨f2, _, ok_made_mark F2 T D_made, b2, k2, PySem.W.mg_of X G a2⟩
  have M_Log_take : MethOk l.prog w K mg base (L2.CX l.prog w) 5 C_Log "take" ["self"] (sp_Log_take K ⟨(), 0, C_BadDisk, C_NoBlock, C_BadBlock, C_BadStop, C_Stopped, C_BadRow, C_Full, C_Empty, C_Gone, C_Log, C_Disk⟩) := ⟨⟨f24, _, ok_Log_take F24 T D_made_mark D_floor_under M_Log__need_here M_Log__write M_Log__wrote, b24, a24, i24, k24⟩⟩
  have D_law_told : DefOk l.prog w K mg base CX0 6 "_law_told" ["_law_log", "_law_words"] (sp_law_told K ⟨(), 0, C_BadDisk, C_NoBlock, C_BadBlock, C_BadStop, C_Stopped, C_BadRow, C_Full, C_Empty, C_Gone, C_Log, C_Disk⟩) := ⟨f46, _, ok_law_told F46 T M_Log_put M_Log_take, b46, k46, PySem.W.mg_of X G a46⟩
  have D_law_done : DefOk l.prog w K mg base CX0 8 "_law_done" ["_law_row", "_law_disk", "_law_log", "_law_words"] (sp_law_done K ⟨(), 0, C_BadDisk, C_NoBlock, C_BadBlock, C_BadStop, C_Stopped, C_BadRow, C_Full, C_Empty, C_Gone, C_Log, C_Disk⟩) := ⟨f49, _, ok_law_done F49 T M_Log___init__ M_Disk_stop_after M_Disk_go_on D_law_taken D_law_told, b49, k49, PySem.W.mg_of X G a49⟩
  have q := ok_law (P := l.prog) (w := w) (base := base) F50 T M_Log___init__ M_Log_rows M_Log_room M_Disk___init__ D_law_taken D_law_pieces D_law_alike D_law_deed D_law_done
  exact q
theorem walk {l : PySem.W.OpenLaw} {q : Program} {loose : List Str} {XP : (Str → Option Value) → Heap → Prop} {YP : World → Heap → Prop} {d : DefRec} {K : Params → PySem.W.Frag} (hn : l.most = some 63) (hdf : d.params.defaults = [])
    (hY : ∀ (w : World) (h : Heap), YP w h → (K w.params).In h)
    (F : ∀ (w : World) (mg : Str → Option Value) (fa : Addr) (h : Heap), (K w.params).In h → h.Ns mainGlobals mg → mg d.name = some (.ref fa) →
      ∃ fd : FuncData, (∀ (s : Shared) (u : Value), BindsTo s fd ⟨[u], []⟩ [("_law_script", u)]) ∧ ∀ base : Heap, (K w.params).In base → base.Ns mainGlobals mg → FnOk l.prog w (K w.params) mg base CX0 9 fa fd ["_law_script"] (sp_law (K w.params) Z0)) :
    PySem.W.WalkO q loose XP YP l.row.toRowW d [] (fun f vs => PySem.call f vs) :=
  L2.walk_of (n := 63) (k := 9) (x := "_law_script") (CX := fun _ => CX0) (sp := fun w => sp_law (K w.params) Z0) hn (by decide) hdf ⟨rfl, by decide, by decide⟩ hY F (fun _ _ a ns hl _ hS => ⟨a, ns, rfl, hS, hl, fun _ => rfl⟩) fun _ _ _ _ _ z => z
end RL
open PySem PySem.W PyProof.Rows in
set_option maxRecDepth 100000 in
set_option maxHeartbeats 0 in
theorem PySem.Challenge.cw_ringlog_k16_whole_alike_on_disks_of_two_holds : PySem.Challenge.rw_ringlog_k16_whole_alike_on_disks_of_two.Holds := by
  w_on; o_law; k_head; (case hw => w_witness2)
  k_fill
  refine RL.walk (l := PySem.Challenge.rw_ringlog_k16_whole_alike_on_disks_of_two) rfl rfl (fun w h Y => PySem.W.kIn_of Y) ?F
  case F =>
    intro w mg fa h KX G hmg
    refine' RL.all_mk KX G hmg ?aC_Log ?aC_Disk ?aC_BadBlock ?aC_BadDisk ?aC_BadRow ?aC_BadStop ?aC_Empty ?aC_Full ?aC_Gone ?aC_NoBlock ?aC_Stopped ?pg_Log ?hd_Log ?po_Log ?sa_Log ?mk_Log ?kc_Log ?na_Log__cut ?na_Log__disk ?na_Log__gone ?na_Log__number ?na_Log__rows ?na_Log__torn ?pg_Disk ?hd_Disk ?po_Disk ?sa_Disk ?mk_Disk ?kc_Disk ?na_Disk__blocks ?na_Disk__let ?na_Disk__part ?na_Disk__reads ?na_Disk__writes ?x_BadBlock ?kp_BadBlock ?sb_BadBlock ?ty_BadBlock ?ic_BadBlock ?x_BadDisk ?kp_BadDisk ?sb_BadDisk ?ty_BadDisk ?ic_BadDisk ?x_BadRow ?kp_BadRow ?sb_BadRow ?ty_BadRow ?ic_BadRow ?x_BadStop ?kp_BadStop ?sb_BadStop ?ty_BadStop ?ic_BadStop ?x_Empty ?kp_Empty ?sb_Empty ?ty_Empty ?ic_Empty ?x_Full ?kp_Full ?sb_Full ?ty_Full ?ic_Full ?x_Gone ?kp_Gone ?sb_Gone ?ty_Gone ?ic_Gone ?x_NoBlock ?kp_NoBlock ?sb_NoBlock ?ty_NoBlock ?ic_NoBlock ?x_Stopped ?kp_Stopped ?sb_Stopped ?ty_Stopped ?ic_Stopped ?s_BadBlock_Empty ?s_BadBlock_Full ?s_BadBlock_Gone ?s_BadBlock_Stopped ?s_BadDisk_Empty ?s_BadDisk_Full ?s_BadDisk_Gone ?s_BadDisk_Stopped ?s_BadRow_Empty ?s_BadRow_Full ?s_BadRow_Gone ?s_BadRow_Stopped ?s_BadStop_Empty ?s_BadStop_Full ?s_BadStop_Gone ?s_BadStop_Stopped ?s_Empty_Empty ?s_Empty_Full ?s_Empty_Gone ?s_Empty_Stopped ?s_Full_Empty ?s_Full_Full ?s_Full_Gone ?s_Full_Stopped ?s_Gone_Empty ?s_Gone_Full ?s_Gone_Gone ?s_Gone_Stopped ?s_NoBlock_Empty ?s_NoBlock_Full ?s_NoBlock_Gone ?s_NoBlock_Stopped ?s_Stopped_Empty ?s_Stopped_Full ?s_Stopped_Gone ?s_Stopped_Stopped ?a0 ?l0 ?c0 ?k0 ?a1 ?l1 ?c1 ?k1 ?a2 ?l2 ?c2 ?k2 ?a3 ?l3 ?c3 ?k3 ?a4 ?l4 ?c4 ?k4 ?a5 ?l5 ?c5 ?k5 ?a6 ?l6 ?c6 ?k6 ?a7 ?l7 ?c7 ?k7 ?a8 ?l8 ?c8 ?k8 ?a9 ?l9 ?c9 ?k9 ?a10 ?l10 ?c10 ?k10 ?a11 ?l11 ?c11 ?k11 ?a12 ?l12 ?c12 ?k12 ?a13 ?l13 ?c13 ?k13 ?a14 ?l14 ?c14 ?k14 ?a15 ?l15 ?c15 ?k15 ?a16 ?l16 ?c16 ?k16 ?a17 ?l17 ?c17 ?k17 ?a18 ?i18 ?l18 ?c18 ?k18 ?a19 ?i19 ?l19 ?c19 ?k19 ?a20 ?i20 ?l20 ?c20 ?k20 ?a21 ?i21 ?l21 ?c21 ?k21 ?a22 ?i22 ?l22 ?c22 ?k22 ?a23 ?i23 ?l23 ?c23 ?k23 ?a24 ?i24 ?l24 ?c24 ?k24 ?a25 ?i25 ?l25 ?c25 ?k25 ?a26 ?i26 ?l26 ?c26 ?k26 ?a27 ?i27 ?l27 ?c27 ?k27 ?a28 ?i28 ?l28 ?c28 ?k28 ?a29 ?i29 ?l29 ?c29 ?k29 ?a30 ?i30 ?l30 ?c30 ?k30 ?a31 ?l31 ?c31 ?k31 ?a32 ?i32 ?l32 ?c32 ?k32 ?a33 ?i33 ?l33 ?c33 ?k33 ?a34 ?i34 ?l34 ?c34 ?k34 ?a35 ?i35 ?l35 ?c35 ?k35 ?a36 ?i36 ?l36 ?c36 ?k36 ?a37 ?i37 ?l37 ?c37 ?k37 ?a38 ?i38 ?l38 ?c38 ?k38 ?a39 ?i39 ?l39 ?c39 ?k39 ?a40 ?i40 ?l40 ?c40 ?k40 ?a41 ?i41 ?l41 ?c41 ?k41 ?a42 ?i42 ?l42 ?c42 ?k42 ?a43 ?l43 ?c43 ?k43 ?a44 ?l44 ?c44 ?k44 ?a45 ?l45 ?c45 ?k45 ?a46 ?l46 ?c46 ?k46 ?a47 ?l47 ?c47 ?k47 ?a48 ?l48 ?c48 ?k48 ?a49 ?l49 ?c49 ?k49 ?a50 ?l50 ?c50 ?k50 ?z_all ?z_bool ?z_enumerate ?z_int ?z_isinstance ?z_len ?z_list ?z_min ?z_range ?z_str ?z_tuple ?q_PIECE_WORDS ?q_NUMBER ?q_FLOOR ?q_BEGIN ?q_LEFT ?q_DATA_FROM ?q_DATA_TO ?q_NO_BEGIN ?q_LEFT_OF_MARK ?q_LEFT_OF_FAREWELL ?q_MOST_WORDS ?q_MOST_WORD_OF_ROW ?q_LEAST_BLOCKS ?q_MOST_BLOCKS ?q_BLOCK_WORDS ?q_MOST_WORD ?q_MOST_COUNT ?q_MOST_PART
    (case aC_Log => k_is)
    (case aC_Disk => k_is)
    (case aC_BadBlock => k_is)
    (case aC_BadDisk => k_is)
    (case aC_BadRow => k_is)
    (case aC_BadStop => k_is)
    (case aC_Empty => k_is)
    (case aC_Full => k_is)
    (case aC_Gone => k_is)
    (case aC_NoBlock => k_is)
    (case aC_Stopped => k_is)
    (case pg_Log => k_is)
    (case hd_Log => k_is)
    (case po_Log => k_is)
    (case sa_Log => k_is)
    (case mk_Log => k_is)
    (case kc_Log => k_is)
    (case na_Log__cut => k_is)
    (case na_Log__disk => k_is)
    (case na_Log__gone => k_is)
    (case na_Log__number => k_is)
    (case na_Log__rows => k_is)
    (case na_Log__torn => k_is)
    (case pg_Disk => k_is)
    (case hd_Disk => k_is)
    (case po_Disk => k_is)
    (case sa_Disk => k_is)
    (case mk_Disk => k_is)
    (case kc_Disk => k_is)
    (case na_Disk__blocks => k_is)
    (case na_Disk__let => k_is)
    (case na_Disk__part => k_is)
    (case na_Disk__reads => k_is)
    (case na_Disk__writes => k_is)
    (case x_BadBlock => k_exc)
    (case kp_BadBlock => k_is)
    (case sb_BadBlock => k_is)
    (case ty_BadBlock => k_is)
    (case ic_BadBlock => k_is)
    (case x_BadDisk => k_exc)
    (case kp_BadDisk => k_is)
    (case sb_BadDisk => k_is)
    (case ty_BadDisk => k_is)
    (case ic_BadDisk => k_is)
    (case x_BadRow => k_exc)
    (case kp_BadRow => k_is)
    (case sb_BadRow => k_is)
    (case ty_BadRow => k_is)
    (case ic_BadRow => k_is)
    (case x_BadStop => k_exc)
    (case kp_BadStop => k_is)
    (case sb_BadStop => k_is)
    (case ty_BadStop => k_is)
    (case ic_BadStop => k_is)
    (case x_Empty => k_exc)
    (case kp_Empty => k_is)
    (case sb_Empty => k_is)
    (case ty_Empty => k_is)
    (case ic_Empty => k_is)
    (case x_Full => k_exc)
    (case kp_Full => k_is)
    (case sb_Full => k_is)
    (case ty_Full => k_is)
    (case ic_Full => k_is)
    (case x_Gone => k_exc)
    (case kp_Gone => k_is)
    (case sb_Gone => k_is)
    (case ty_Gone => k_is)
    (case ic_Gone => k_is)
    (case x_NoBlock => k_exc)
    (case kp_NoBlock => k_is)
    (case sb_NoBlock => k_is)
    (case ty_NoBlock => k_is)
    (case ic_NoBlock => k_is)
    (case x_Stopped => k_exc)
    (case kp_Stopped => k_is)
    (case sb_Stopped => k_is)
    (case ty_Stopped => k_is)
    (case ic_Stopped => k_is)
    (case s_BadBlock_Empty => k_is)
    (case s_BadBlock_Full => k_is)
    (case s_BadBlock_Gone => k_is)
    (case s_BadBlock_Stopped => k_is)
    (case s_BadDisk_Empty => k_is)
    (case s_BadDisk_Full => k_is)
    (case s_BadDisk_Gone => k_is)
    (case s_BadDisk_Stopped => k_is)
    (case s_BadRow_Empty => k_is)
    (case s_BadRow_Full => k_is)
    (case s_BadRow_Gone => k_is)
    (case s_BadRow_Stopped => k_is)
    (case s_BadStop_Empty => k_is)
    (case s_BadStop_Full => k_is)
    (case s_BadStop_Gone => k_is)
    (case s_BadStop_Stopped => k_is)
    (case s_Empty_Empty => first | rfl | k_is)
    (case s_Empty_Full => k_is)
    (case s_Empty_Gone => k_is)
    (case s_Empty_Stopped => k_is)
    (case s_Full_Empty => k_is)
    (case s_Full_Full => first | rfl | k_is)
    (case s_Full_Gone => k_is)
    (case s_Full_Stopped => k_is)
    (case s_Gone_Empty => k_is)
    (case s_Gone_Full => k_is)
    (case s_Gone_Gone => first | rfl | k_is)
    (case s_Gone_Stopped => k_is)
    (case s_NoBlock_Empty => k_is)
    (case s_NoBlock_Full => k_is)
    (case s_NoBlock_Gone => k_is)
    (case s_NoBlock_Stopped => k_is)
    (case s_Stopped_Empty => k_is)
    (case s_Stopped_Full => k_is)
    (case s_Stopped_Gone => k_is)
    (case s_Stopped_Stopped => first | rfl | k_is)
    (case a0 => k_is)
    (case l0 => k_is)
    (case c0 => k_is)
    (case k0 => k_is)
    (case a1 => k_is)
    (case l1 => k_is)
    (case c1 => k_is)
    (case k1 => k_is)
    (case a2 => k_is)
    (case l2 => k_is)
    (case c2 => k_is)
    (case k2 => k_is)
    (case a3 => k_is)
    (case l3 => k_is)
    (case c3 => k_is)
    (case k3 => k_is)
    (case a4 => k_is)
    (case l4 => k_is)
    (case c4 => k_is)
    (case k4 => k_is)
    (case a5 => k_is)
    (case l5 => k_is)
    (case c5 => k_is)
    (case k5 => k_is)
    (case a6 => k_is)
    (case l6 => k_is)
    (case c6 => k_is)
    (case k6 => k_is)
    (case a7 => k_is)
    (case l7 => k_is)
    (case c7 => k_is)
    (case k7 => k_is)
    (case a8 => k_is)
    (case l8 => k_is)
    (case c8 => k_is)
    (case k8 => k_is)
    (case a9 => k_is)
    (case l9 => k_is)
    (case c9 => k_is)
    (case k9 => k_is)
    (case a10 => k_is)
    (case l10 => k_is)
    (case c10 => k_is)
    (case k10 => k_is)
    (case a11 => k_is)
    (case l11 => k_is)
    (case c11 => k_is)
    (case k11 => k_is)
    (case a12 => k_is)
    (case l12 => k_is)
    (case c12 => k_is)
    (case k12 => k_is)
    (case a13 => k_is)
    (case l13 => k_is)
    (case c13 => k_is)
    (case k13 => k_is)
    (case a14 => k_is)
    (case l14 => k_is)
    (case c14 => k_is)
    (case k14 => k_is)
    (case a15 => k_is)
    (case l15 => k_is)
    (case c15 => k_is)
    (case k15 => k_is)
    (case a16 => k_is)
    (case l16 => k_is)
    (case c16 => k_is)
    (case k16 => k_is)
    (case a17 => k_is)
    (case l17 => k_is)
    (case c17 => k_is)
    (case k17 => k_is)
    (case a18 => k_is)
    (case i18 => k_is)
    (case l18 => k_is)
    (case c18 => k_is)
    (case k18 => k_is)
    (case a19 => k_is)
    (case i19 => k_is)
    (case l19 => k_is)
    (case c19 => k_is)
    (case k19 => k_is)
    (case a20 => k_is)
    (case i20 => k_is)
    (case l20 => k_is)
    (case c20 => k_is)
    (case k20 => k_is)
    (case a21 => k_is)
    (case i21 => k_is)
    (case l21 => k_is)
    (case c21 => k_is)
    (case k21 => k_is)
    (case a22 => k_is)
    (case i22 => k_is)
    (case l22 => k_is)
    (case c22 => k_is)
    (case k22 => k_is)
    (case a23 => k_is)
    (case i23 => k_is)
    (case l23 => k_is)
    (case c23 => k_is)
    (case k23 => k_is)
    (case a24 => k_is)
    (case i24 => k_is)
    (case l24 => k_is)
    (case c24 => k_is)
    (case k24 => k_is)
    (case a25 => k_is)
    (case i25 => k_is)
    (case l25 => k_is)
    (case c25 => k_is)
    (case k25 => k_is)
    (case a26 => k_is)
    (case i26 => k_is)
    (case l26 => k_is)
    (case c26 => k_is)
    (case k26 => k_is)
    (case a27 => k_is)
    (case i27 => k_is)
    (case l27 => k_is)
    (case c27 => k_is)
    (case k27 => k_is)
    (case a28 => k_is)
    (case i28 => k_is)
    (case l28 => k_is)
    (case c28 => k_is)
    (case k28 => k_is)
    (case a29 => k_is)
    (case i29 => k_is)
    (case l29 => k_is)
    (case c29 => k_is)
    (case k29 => k_is)
    (case a30 => k_is)
    (case i30 => k_is)
    (case l30 => k_is)
    (case c30 => k_is)
    (case k30 => k_is)
    (case a31 => k_is)
    (case l31 => k_is)
    (case c31 => k_is)
    (case k31 => k_is)
    (case a32 => k_is)
    (case i32 => k_is)
    (case l32 => k_is)
    (case c32 => k_is)
    (case k32 => k_is)
    (case a33 => k_is)
    (case i33 => k_is)
    (case l33 => k_is)
    (case c33 => k_is)
    (case k33 => k_is)
    (case a34 => k_is)
    (case i34 => k_is)
    (case l34 => k_is)
    (case c34 => k_is)
    (case k34 => k_is)
    (case a35 => k_is)
    (case i35 => k_is)
    (case l35 => k_is)
    (case c35 => k_is)
    (case k35 => k_is)
    (case a36 => k_is)
    (case i36 => k_is)
    (case l36 => k_is)
    (case c36 => k_is)
    (case k36 => k_is)
    (case a37 => k_is)
    (case i37 => k_is)
    (case l37 => k_is)
    (case c37 => k_is)
    (case k37 => k_is)
    (case a38 => k_is)
    (case i38 => k_is)
    (case l38 => k_is)
    (case c38 => k_is)
    (case k38 => k_is)
    (case a39 => k_is)
    (case i39 => k_is)
    (case l39 => k_is)
    (case c39 => k_is)
    (case k39 => k_is)
    (case a40 => k_is)
    (case i40 => k_is)
    (case l40 => k_is)
    (case c40 => k_is)
    (case k40 => k_is)
    (case a41 => k_is)
    (case i41 => k_is)
    (case l41 => k_is)
    (case c41 => k_is)
    (case k41 => k_is)
    (case a42 => k_is)
    (case i42 => k_is)
    (case l42 => k_is)
    (case c42 => k_is)
    (case k42 => k_is)
    (case a43 => k_is)
    (case l43 => k_is)
    (case c43 => k_is)
    (case k43 => k_is)
    (case a44 => k_is)
    (case l44 => k_is)
    (case c44 => k_is)
    (case k44 => k_is)
    (case a45 => k_is)
    (case l45 => k_is)
    (case c45 => k_is)
    (case k45 => k_is)
    (case a46 => k_is)
    (case l46 => k_is)
    (case c46 => k_is)
    (case k46 => k_is)
    (case a47 => k_is)
    (case l47 => k_is)
    (case c47 => k_is)
    (case k47 => k_is)
    (case a48 => k_is)
    (case l48 => k_is)
    (case c48 => k_is)
    (case k48 => k_is)
    (case a49 => k_is)
    (case l49 => k_is)
    (case c49 => k_is)
    (case k49 => k_is)
    (case a50 => k_is)
    (case l50 => k_is)
    (case c50 => k_is)
    (case k50 => k_is)
    (case z_all => k_is)
    (case z_bool => k_is)
    (case z_enumerate => k_is)
    (case z_int => k_is)
    (case z_isinstance => k_is)
    (case z_len => k_is)
    (case z_list => k_is)
    (case z_min => k_is)
    (case z_range => k_is)
    (case z_str => k_is)
    (case z_tuple => k_is)
    (case q_PIECE_WORDS => k_is)
    (case q_NUMBER => k_is)
    (case q_FLOOR => k_is)
    (case q_BEGIN => k_is)
    (case q_LEFT => k_is)
    (case q_DATA_FROM => k_is)
    (case q_DATA_TO => k_is)
    (case q_NO_BEGIN => k_is)
    (case q_LEFT_OF_MARK => k_is)
    (case q_LEFT_OF_FAREWELL => k_is)
    (case q_MOST_WORDS => k_is)
    (case q_MOST_WORD_OF_ROW => k_is)
    (case q_LEAST_BLOCKS => k_is)
    (case q_MOST_BLOCKS => k_is)
    (case q_BLOCK_WORDS => k_is)
    (case q_MOST_WORD => k_is)
    (case q_MOST_COUNT => k_is)
    (case q_MOST_PART => k_is)

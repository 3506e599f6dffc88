import PyProof.Rows.All
import Wide.All
import OpenK.AllK
import Wide.FinOn
import HandS.ForMost
import HandS.Star
import HandS.IsInst
import HandS.Walk
import HandS.WideBits
import PySem.Challenge.RW_ringlog_k03_kinds_of_blocks
set_option Elab.async false
set_option maxRecDepth 100000
set_option maxHeartbeats 1000000
set_option linter.all false
namespace RL
open PySem L2 StX

/-! ### heaps as lists of what stands where -/
structure Holds (H : Hp) (L : List (Addr × HO)) : Prop where
  nd : (L.map Prod.fst).Nodup
  at_ : ∀ x ∈ L, H x.1 = some x.2
theorem Holds.get {H : Hp} {L : List (Addr × HO)} {a : Addr} {o : HO} (h : Holds H L) (m : (a, o) ∈ L) : H a = some o := h.at_ _ m
theorem Holds.fresh {H : Hp} {L : List (Addr × HO)} (h : Holds H L) {p : Addr} (hp : H p = none) : p ∉ L.map Prod.fst := fun hm => by
  obtain ⟨x, hx, e⟩ := List.mem_map.mp hm
  have := h.at_ x hx
  rw [e, hp] at this
  cases this
theorem Holds.nil {H : Hp} : Holds H [] := ⟨List.nodup_nil, fun _ h => nomatch h⟩
theorem Holds.one {H : Hp} {a : Addr} {o : HO} (h : H a = some o) : Holds H [(a, o)] := ⟨by simp, fun x hx => by
  obtain rfl : x = (a, o) := by simpa using hx
  exact h⟩
theorem Holds.tl {H : Hp} {L : List (Addr × HO)} {x : Addr × HO} (h : Holds H (x :: L)) : Holds H L :=
  ⟨(List.nodup_cons.mp h.nd).2, fun y hy => h.at_ y (List.mem_cons_of_mem _ hy)⟩
/-- a new object -/
theorem Holds.new {H : Hp} {L : List (Addr × HO)} (h : Holds H L) {p : Addr} (hp : H p = none) (o : HO) : Holds (upd H p o) ((p, o) :: L) := by
  refine ⟨?_, fun x hx => ?_⟩
  · rw [List.map_cons, List.nodup_cons]
    exact ⟨h.fresh hp, h.nd⟩
  · rcases List.mem_cons.mp hx with e | hx
    · rw [e]
      exact upd_same
    · have := h.at_ x hx
      rw [upd_ne (ne_of_none this hp)]
      exact this
/-- a new object that is let go -/
theorem Holds.lost {H : Hp} {L : List (Addr × HO)} (h : Holds H L) {p : Addr} (hp : H p = none) (o : HO) : Holds (upd H p o) L := (h.new hp o).tl
theorem Holds.drop2 {H : Hp} {L : List (Addr × HO)} {x y : Addr × HO} (h : Holds H (x :: y :: L)) : Holds H (x :: L) := by
  refine ⟨?_, fun z hz => h.at_ z ?_⟩
  · have := h.nd
    simp only [List.map_cons, List.nodup_cons, List.mem_cons, not_or] at this ⊢
    exact ⟨this.1.2, this.2.2⟩
  · rcases List.mem_cons.mp hz with e | e
    · rw [e]; exact List.mem_cons_self
    · exact List.mem_cons_of_mem _ (List.mem_cons_of_mem _ e)
/-- L' is L with o' at a -/
inductive Rep : List (Addr × HO) → Addr → HO → List (Addr × HO) → Prop
  | here {a : Addr} {o o' : HO} {L : List (Addr × HO)} : Rep ((a, o) :: L) a o' ((a, o') :: L)
  | there {a : Addr} {o' : HO} {x : Addr × HO} {L L' : List (Addr × HO)} : Rep L a o' L' → Rep (x :: L) a o' (x :: L')
theorem Rep.fst {L L' : List (Addr × HO)} {a : Addr} {o' : HO} (r : Rep L a o' L') : L'.map Prod.fst = L.map Prod.fst := by
  induction r with
  | here => rfl
  | there _ ih => simp [ih]
theorem Rep.mem {L L' : List (Addr × HO)} {a : Addr} {o' : HO} (r : Rep L a o' L') : (a, o') ∈ L' := by
  induction r with
  | here => exact List.mem_cons_self
  | there _ ih => exact List.mem_cons_of_mem _ ih
theorem Rep.old {L L' : List (Addr × HO)} {a : Addr} {o' : HO} (r : Rep L a o' L') (nd : (L.map Prod.fst).Nodup) : ∀ x ∈ L', x = (a, o') ∨ (x ∈ L ∧ x.1 ≠ a) := by
  induction r with
  | @here a o o' L =>
    intro x hx
    rcases List.mem_cons.mp hx with e | hx
    · exact .inl e
    · refine .inr ⟨List.mem_cons_of_mem _ hx, fun e => ?_⟩
      rw [List.map_cons, List.nodup_cons] at nd
      exact nd.1 (List.mem_map.mpr ⟨x, hx, e⟩)
  | @there a o' y L L' r ih =>
    intro x hx
    rw [List.map_cons, List.nodup_cons] at nd
    rcases List.mem_cons.mp hx with e | hx
    · refine .inr ⟨e ▸ List.mem_cons_self, fun q => ?_⟩
      have hm : a ∈ L.map Prod.fst := r.fst ▸ List.mem_map_of_mem (f := Prod.fst) r.mem
      rw [e] at q
      exact nd.1 (q ▸ hm)
    · rcases ih nd.2 x hx with e | ⟨h1, h2⟩
      · exact .inl e
      · exact .inr ⟨List.mem_cons_of_mem _ h1, h2⟩
/-- a store -/
theorem Holds.put {H : Hp} {L L' : List (Addr × HO)} {a : Addr} {o' : HO} (h : Holds H L) (r : Rep L a o' L') : Holds (upd H a o') L' := by
  refine ⟨by rw [r.fst]; exact h.nd, fun x hx => ?_⟩
  rcases r.old h.nd x hx with e | ⟨h1, h2⟩
  · rw [e]
    exact upd_same
  · rw [upd_ne h2]
    exact h.at_ x h1
/-- what stood and is none of W stands as it was -/
def Upto (W : List Addr) (H H' : Hp) : Prop := ∀ b o, b ∉ W → H b = some o → H' b = some o
theorem Upto.refl (W : List Addr) (H : Hp) : Upto W H H := fun _ _ _ h => h
theorem Upto.trans {W : List Addr} {H H1 H2 : Hp} (a : Upto W H H1) (b : Upto W H1 H2) : Upto W H H2 := fun c o n h => b c o n (a c o n h)
theorem Upto.mono {W W' : List Addr} {H H1 : Hp} (a : Upto W H H1) (s : ∀ x ∈ W, x ∈ W') : Upto W' H H1 := fun c o n h => a c o (fun z => n (s c z)) h
theorem Upto.new {W : List Addr} {H : Hp} {p : Addr} {o : HO} (hp : H p = none) : Upto W H (upd H p o) := fun b u _ q => by rw [upd_ne (ne_of_none q hp)]; exact q
theorem Upto.put {W : List Addr} {H : Hp} {p : Addr} {o : HO} (hp : p ∈ W) : Upto W H (upd H p o) := fun b u n q => by
  have hb : b ≠ p := fun e => n (by rw [e]; exact hp)
  rw [upd_ne hb]
  exact q
theorem Same.upto {W : List Addr} {H H' : Hp} (s : Same H H') : Upto W H H' := fun b o _ h => s b o h
theorem Upto.same {H H' : Hp} (s : Upto [] H H') : Same H H' := fun b o h => s b o (by simp) h
theorem Holds.same {H H' : Hp} {L : List (Addr × HO)} (h : Holds H L) (s : Same H H') : Holds H' L := ⟨h.nd, fun x hx => s _ _ (h.at_ x hx)⟩
theorem Holds.away {H H' : Hp} {L : List (Addr × HO)} {W : List Addr} (h : Holds H L) (u : Upto W H H') (d : ∀ x ∈ L, x.1 ∉ W) : Holds H' L := ⟨h.nd, fun x hx => u _ _ (d x hx) (h.at_ x hx)⟩
/-- behind a call that changes a alone -/
theorem Holds.upto {H H' : Hp} {L L' : List (Addr × HO)} {a : Addr} {o' : HO} (h : Holds H L) (u : Upto [a] H H') (e : H' a = some o') (r : Rep L a o' L') : Holds H' L' := by
  refine ⟨by rw [r.fst]; exact h.nd, fun x hx => ?_⟩
  rcases r.old h.nd x hx with q | ⟨h1, h2⟩
  · rw [q]
    exact e
  · exact u _ _ (by simpa using h2) (h.at_ x h1)
theorem same_new {H : Hp} {p : Addr} (h : H p = none) (o : HO) : Same H (upd H p o) := fun b u q => by rw [upd_ne (ne_of_none q h)]; exact q
theorem Holds.uptoNew {H H' : Hp} {W : List Addr} {p : Addr} (h : Upto W H H') (n : H' p = none) (hw : p ∉ W) : H p = none := by
  cases q : H p with
  | none => rfl
  | some o =>
    rw [h p o hw q] at n
    cases n

/-! ### calls of the module's defs -/
structure DefOk (P : Program) (w : World) (K : PySem.W.Frag) (mg : Str → Option Value) (base : Heap) (CX : CXT) (k : Nat) (x : Str) (ps : List Str) (sp : Sp) : Prop where
  ex : ∃ (f : Addr) (fd : FuncData), FnOk P w K mg base CX k f fd ps sp ∧ Binds K fd ps [] ∧ PySem.W.keepIn K (.ref f) = true ∧ mg x = some (.ref f)
section
variable {X : Cx} {CX : CXT} {k n : Nat} {ps : List Str} {sp : Sp} {E : XK} {x : Str} {p pos : Pos} {e : Expr} {es : List Expr} {t : TA}
theorem pe_callD (D : DefOk X.prog X.w X.K X.mg X.base CX k x ps sp) (hr : Room n X.A) (hg : Gl X x) (hx : Passes CX X E)
    (ha : PA X (e :: es) t) (hk : k ≤ n := by first | decide | exact Nat.le_refl _) (hdb : (x == ("__debug__" : Str)) = false := by decide) (he : starEach (e :: es) X.env = (false, eval e X.env) :: starEach es X.env := by rfl) (hpl : (backTo pos (starEach es X.env)).any (·.1) = false := by rfl) :
    PE X (.Call (.Name x p) (e :: es) [] pos) (tCall sp [] E t) := by
  obtain ⟨f, fd, F, b, kp, m⟩ := D.ex
  exact pe_call F (hr.mono hk) hg m kp b .nil hx ha hdb he hpl
theorem pe_callD0 (D : DefOk X.prog X.w X.K X.mg X.base CX k x ps sp) (hr : Room n X.A) (hg : Gl X x) (hx : Passes CX X E)
    (hk : k ≤ n := by first | decide | exact Nat.le_refl _) (hdb : (x == ("__debug__" : Str)) = false := by decide) :
    PE X (.Call (.Name x p) [] [] pos) (tCall sp [] E tNil) := by
  obtain ⟨f, fd, F, b, kp, m⟩ := D.ex
  exact pe_call0 F (hr.mono hk) hg m kp b .nil hx hdb
end

/-! ### the state of a body: W may be written, H0 at the entry, H now; M what may be written (W's and what is new), I what is read -/
structure Hs (W : List Addr) (H0 H : Hp) (M I : List (Addr × HO)) : Prop where
  up : Upto W H0 H
  nd : ((M ++ I).map Prod.fst).Nodup
  at_ : ∀ x ∈ M ++ I, H x.1 = some x.2
  mu : ∀ x ∈ M, x.1 ∈ W ∨ H0 x.1 = none
section
variable {W : List Addr} {H0 H H' : Hp} {M M' I : List (Addr × HO)} {a p : Addr} {o o' : HO}
theorem Hs.holds (h : Hs W H0 H M I) : Holds H (M ++ I) := ⟨h.nd, h.at_⟩
theorem Hs.getM (h : Hs W H0 H M I) (m : (a, o) ∈ M) : H a = some o := h.at_ _ (List.mem_append_left _ m)
theorem Hs.getI (h : Hs W H0 H M I) (m : (a, o) ∈ I) : H a = some o := h.at_ _ (List.mem_append_right _ m)
theorem Hs.start {H : Hp} {M I : List (Addr × HO)} (nd : ((M ++ I).map Prod.fst).Nodup) (h : ∀ x ∈ M ++ I, H x.1 = some x.2) : Hs (M.map Prod.fst) H H M I :=
  ⟨Upto.refl _ _, nd, h, fun _ hx => .inl (List.mem_map_of_mem hx)⟩
theorem Hs.new (h : Hs W H0 H M I) (hp : H p = none) (o : HO) : Hs W H0 (upd H p o) ((p, o) :: M) I := by
  have q := h.holds.new hp o
  refine ⟨h.up.trans (Upto.new hp), q.nd, q.at_, fun x hx => ?_⟩
  rcases List.mem_cons.mp hx with e | hx
  · rw [e]
    by_cases hw : p ∈ W
    · exact .inl hw
    · exact .inr (Holds.uptoNew h.up hp hw)
  · exact h.mu x hx
theorem Hs.lost (h : Hs W H0 H M I) (hp : H p = none) (o : HO) : Hs W H0 (upd H p o) M I :=
  ⟨h.up.trans (Upto.new hp), h.nd, (h.holds.lost hp o).at_, h.mu⟩
theorem Rep.app {L L' : List (Addr × HO)} (r : Rep L a o' L') (I : List (Addr × HO)) : Rep (L ++ I) a o' (L' ++ I) := by
  induction r with
  | here => exact .here
  | there _ ih => exact .there ih
theorem Rep.memL {L L' : List (Addr × HO)} (r : Rep L a o' L') : ∃ o, (a, o) ∈ L := by
  induction r with
  | here => exact ⟨_, List.mem_cons_self⟩
  | there _ ih =>
    obtain ⟨o, ho⟩ := ih
    exact ⟨o, List.mem_cons_of_mem _ ho⟩
theorem Hs.mu' (h : Hs W H0 H M I) (r : Rep M a o' M') : ∀ x ∈ M', x.1 ∈ W ∨ H0 x.1 = none := fun x hx => by
  have : x.1 ∈ M.map Prod.fst := r.fst ▸ List.mem_map_of_mem hx
  obtain ⟨y, hy, e⟩ := List.mem_map.mp this
  rw [← e]
  exact h.mu y hy
theorem Hs.put (h : Hs W H0 H M I) (r : Rep M a o' M') : Hs W H0 (upd H a o') M' I := by
  have q := h.holds.put (r.app I)
  refine ⟨fun b u n e => ?_, q.nd, q.at_, h.mu' r⟩
  have e1 := h.up b u n e
  have hb : b ≠ a := fun z => by
    obtain ⟨o, hm⟩ := r.memL
    rcases h.mu _ hm with w | w
    · exact n (z ▸ w)
    · rw [z] at e
      rw [w] at e
      cases e
  rw [upd_ne hb]
  exact e1
/-- behind a call that changes a alone -/
theorem Hs.call1 (h : Hs W H0 H M I) (u : Upto [a] H H') (e : H' a = some o') (r : Rep M a o' M') : Hs W H0 H' M' I := by
  have q := h.holds.upto u e (r.app I)
  refine ⟨fun b v n eb => ?_, q.nd, q.at_, h.mu' r⟩
  have hb : b ≠ a := fun z => by
    obtain ⟨o, hm⟩ := r.memL
    rcases h.mu _ hm with w | w
    · exact n (z ▸ w)
    · rw [z] at eb
      rw [w] at eb
      cases eb
  exact u b v (by simpa using hb) (h.up b v n eb)
/-- behind a call that changes nothing -/
theorem Hs.call0 (h : Hs W H0 H M I) (u : Upto [] H H') : Hs W H0 H' M I :=
  ⟨h.up.trans (u.mono fun _ z => nomatch z), h.nd, fun x hx => u _ _ (by simp) (h.at_ x hx), h.mu⟩
/-- what stands at a place that was free ahead, too -/
theorem Hs.add (h : Hs W H0 H M I) (h' : Hs W H0 H' M' I) (e : M'.map Prod.fst = M.map Prod.fst) (hp : H p = none) (hq : H' p = some o) : Hs W H0 H' ((p, o) :: M') I := by
  have f := h.holds.fresh hp
  refine ⟨h'.up, ?_, fun x hx => ?_, fun x hx => ?_⟩
  · rw [List.cons_append, List.map_cons, List.nodup_cons]
    refine ⟨?_, h'.nd⟩
    rw [List.map_append, e, ← List.map_append]
    exact f
  · rw [List.cons_append] at hx
    rcases List.mem_cons.mp hx with z | hx
    · rw [z]
      exact hq
    · exact h'.at_ x hx
  · rcases List.mem_cons.mp hx with z | hx
    · rw [z]
      by_cases hw : p ∈ W
      · exact .inl hw
      · exact .inr (Holds.uptoNew h.up hp hw)
    · exact h'.mu x hx
theorem Hs.free (h : Hs W H0 H M I) (hp : H p = none) (hw : p ∉ W) : H0 p = none := Holds.uptoNew h.up hp hw
/-- forget -/
theorem Hs.tl {x : Addr × HO} (h : Hs W H0 H (x :: M) I) : Hs W H0 H M I :=
  ⟨h.up, by have := h.nd; rw [List.cons_append, List.map_cons, List.nodup_cons] at this; exact this.2, fun y hy => h.at_ y (List.mem_cons_of_mem _ hy), fun y hy => h.mu y (List.mem_cons_of_mem _ hy)⟩
theorem Hs.tl2 {x y : Addr × HO} (h : Hs W H0 H (x :: y :: M) I) : Hs W H0 H (x :: M) I := by
  refine ⟨h.up, ?_, fun z hz => h.at_ z ?_, fun z hz => h.mu z ?_⟩
  · have := h.nd
    simp only [List.cons_append, List.map_cons, List.nodup_cons, List.mem_cons, not_or] at this ⊢
    exact ⟨this.1.2, this.2.2⟩
  · rw [List.cons_append] at hz
    rcases List.mem_cons.mp hz with e | e
    · rw [e]; exact List.mem_cons_self
    · exact List.mem_cons_of_mem _ (List.mem_cons_of_mem _ e)
  · rcases List.mem_cons.mp hz with e | e
    · rw [e]; exact List.mem_cons_self
    · exact List.mem_cons_of_mem _ (List.mem_cons_of_mem _ e)
end

/-! ### constants of the module -/
theorem pe_globC {X : Cx} {x : Str} {i : Int} {pos : Pos} (m : ∃ t, X.mg x = some (.int i t)) (hg : Gl X x) (hd : (x == ("__debug__" : Str)) = false := by decide) : PE X (.Name x pos) (tC (.int i)) := by
  obtain ⟨t, m⟩ := m
  exact pe_glob hg m ⟨_, rfl⟩ hd

/-! ### readings by steps -/
inductive SetAt : St → Nat → V → St → Prop
  | here {x : Option V} {σ : St} {v : V} : SetAt (x :: σ) 0 v (some v :: σ)
  | there {x : Option V} {σ σ' : St} {v : V} {i : Nat} : SetAt σ i v σ' → SetAt (x :: σ) (i + 1) v (x :: σ')
theorem SetAt.eq {σ σ' : St} {i : Nat} {v : V} (h : SetAt σ i v σ') : σ.set i (some v) = σ' := by
  induction h with
  | here => rfl
  | there _ ih => rw [List.set_cons_succ, ih]
def SetI (xs : List V) (i : Int) (v : V) (zs : List V) : Prop := ∃ k, ixN xs.length i = some k ∧ xs.set k v = zs
theorem SetI.nat {xs : List V} {n : Nat} {v : V} (h : n < xs.length) : SetI xs (n : Int) v (xs.set n v) := ⟨n, by
  unfold ixN
  rw [if_pos (by omega), if_pos (by omega)]
  rfl, rfl⟩
theorem SetI.s0 {x v : V} {xs : List V} : SetI (x :: xs) 0 v (v :: xs) := SetI.nat (n := 0) (by simp)
theorem SetI.s1 {x y v : V} {xs : List V} : SetI (x :: y :: xs) 1 v (x :: v :: xs) := SetI.nat (n := 1) (by simp)
theorem SetI.s2 {x y z v : V} {xs : List V} : SetI (x :: y :: z :: xs) 2 v (x :: y :: v :: xs) := SetI.nat (n := 2) (by simp)
def kRng1 (R : It → Hp → Prop) : List V → Hp → Prop := fun vs H1 => ∃ j : Int, vs = [.int j] ∧ -(2 ^ 62) ≤ j ∧ j < 2 ^ 62 ∧ R (Itr 0 j.toNat) H1
def kRng2 (R : It → Hp → Prop) : List V → Hp → Prop := fun vs H1 => ∃ i j : Int, vs = [.int i, .int j] ∧ (-(2 ^ 62) ≤ i ∧ i < 2 ^ 62 ∧ -(2 ^ 62) ≤ j ∧ j < 2 ^ 62) ∧ R (Itr i (j - i).toNat) H1
def kLst (K : PySem.W.Frag) (R : It → Hp → Prop) : V → Hp → Prop := fun x H1 => ∃ a, x = .ref a ∧ (∃ xs, SqL K H1 a xs) ∧ R (Itl K a) H1
def kTup (K : PySem.W.Frag) (R : It → Hp → Prop) : V → Hp → Prop := fun x H1 => ∃ a, x = .ref a ∧ (∃ xs, SqT K H1 a xs) ∧ R (Itt K a) H1
def kFor (J : It) (g : TG) (tb : TS) (D : Ends) : St → Hp → Prop := fun σ H1 => ∃ W : Nat → Nat → St → Hp → Prop, (∃ m, W 0 m σ H1) ∧ ∀ i m σ H, W i m σ H →
  (J.stop i H ∧ D.nx σ H) ∨ (J.go i H ∧ ∃ N : St → Hp → Prop, (∀ σ' H', N σ' H' → ∃ m', m' < m ∧ W (i + 1) m' σ' H') ∧ ∀ x H', J.yld i H x H' → g x σ H' fun σ2 H2 => tb { D with nx := N, ct := N, bk := D.nx } σ2 H2)
def kLc (J : It) (g : TG) (tt : TT) (te : TE) (vs : List Nat) (σ : St) (Q : VK) : Hp → Prop := fun H1 => ∀ D, H1 D = none → ∃ W : Nat → Nat → Hp → Prop, (∃ m, W 0 m (upd H1 D (.lst []))) ∧ ∀ i m H, W i m H →
  (J.stop i H ∧ Q (.ref D) H) ∨ (J.go i H ∧ ∃ Nx : Hp → Prop, (∀ H', Nx H' → ∃ m', m' < m ∧ W (i + 1) m' H') ∧ ∀ x H', J.yld i H x H' → g x (wipe σ vs) H' fun σ2 H2 => wipe σ2 vs = wipe σ vs ∧ tt σ2 H2 fun b H3 =>
    if b = true then te σ2 H3 fun y H4 => ∃ acc, H4 D = some (.lst acc) ∧ acc.length < sizeLine ∧ Nx (upd H4 D (.lst (acc ++ [y]))) else Nx H3)
def newL (xs : List V) (H : Hp) (Q : VK) : Prop := xs.length ≤ sizeLine ∧ ∀ p, H p = none → Q (.ref p) (upd H p (.lst xs))
def newT (xs : List V) (H : Hp) (Q : VK) : Prop := xs.length ≤ sizeLine ∧ ∀ p, H p = none → Q (.ref p) (upd H p (.tup xs))
def kBl (Q : Bool → Hp → Prop) : VK := fun x H => ∃ k, x = .bl k ∧ Q k H
section
variable {D : Ends} {σ σ' : St} {H H' : Hp} {nx bk ct : St → Hp → Prop} {rt : VK} {t u : TS} {te ta tb tc : TE} {tt : TA} {c c2 : TT} {Q : VK} {QA : List V → Hp → Prop} {QB : Bool → Hp → Prop} {g : TG} {v x y : V} {vs : List V} {i j : Int} {n : Nat} {K : PySem.W.Frag}
theorem s_start {N : List Str} (e : start N vs = σ) (h : t D σ H) : t D (start N vs) H := by rw [e]; exact h
theorem s_seq (h : t ⟨u ⟨nx, rt, bk, ct⟩, rt, bk, ct⟩ σ H) : tSeq t u ⟨nx, rt, bk, ct⟩ σ H := h
theorem s_asg (h : te σ H fun x H1 => g x σ H1 nx) : tAsg te g ⟨nx, rt, bk, ct⟩ σ H := h
theorem s_next (h : nx σ H) : tNext ⟨nx, rt, bk, ct⟩ σ H := h
theorem s_ret (h : te σ H rt) : tRet te ⟨nx, rt, bk, ct⟩ σ H := h
theorem s_retN (h : rt .non H) : tRetN ⟨nx, rt, bk, ct⟩ σ H := h
theorem s_drop (h : te σ H fun _ H1 => nx σ H1) : tDrop te ⟨nx, rt, bk, ct⟩ σ H := h
theorem s_ifs (h : c σ H fun b H1 => if b = true then t D σ H1 else u D σ H1) : tIfS c t u D σ H := h
theorem s_gname (s : SetAt σ n v σ') (h : nx σ' H) : gName n v σ H nx := by
  show nx (σ.set n (some v)) H
  rw [s.eq]
  exact h
theorem s_var (e : σ[n]? = some (some v)) (h : Q v H) : tVar n σ H Q := ⟨v, e, h⟩
theorem s_c (h : Q v H) : tC v σ H Q := h
theorem s_op {r : R2} (h : ta σ H fun x H1 => tb σ H1 fun y H2 => r x y H2 Q) : tOp r ta tb σ H Q := h
theorem s_un {r : V → Hp → VK → Prop} (h : ta σ H fun x H1 => r x H1 Q) : tUn r ta σ H Q := h
theorem s_rU {g : Int → V} (h : Q (g i) H) : rU g (.int i) H Q := ⟨i, rfl, h⟩
theorem s_rI0 {g : Int → Int → V} (h : Q (g i j) H) : rI0 g (.int i) (.int j) H Q := ⟨i, j, rfl, rfl, h⟩
theorem s_rI {C : Int → Int → Prop} {g : Int → Int → V} (hc : C i j) (h : Q (g i j) H) : rI C g (.int i) (.int j) H Q := ⟨i, j, rfl, rfl, hc, h⟩
theorem s_eqI (h : Q (.bl (decide (i = j))) H) : rEq (.int i) (.int j) H Q := ⟨rfl, by
  have e : decide (V.int i = V.int j) = decide (i = j) := by rw [dec_int]; rfl
  rw [e]; exact h⟩
theorem s_neI (h : Q (.bl (decide (i ≠ j))) H) : rNe (.int i) (.int j) H Q := ⟨rfl, by
  have e : (!decide (V.int i = V.int j)) = decide (i ≠ j) := by rw [dec_int, decide_not]; rfl
  rw [e]; exact h⟩
theorem s_test (h : te σ H (kBl QB)) : tTest te σ H QB := h
theorem s_tB (h : te σ H (kBl QB)) : tB te σ H QB := h
theorem s_kBl {b : Bool} (h : QB b H) : kBl QB (.bl b) H := ⟨b, rfl, h⟩
theorem s_and (h : c σ H fun b H1 => if b = true then c2 σ H1 QB else QB false H1) : tAnd c c2 σ H QB := h
theorem s_or (h : c σ H fun b H1 => if b = true then QB true H1 else c2 σ H1 QB) : tOr c c2 σ H QB := h
theorem s_not (h : c σ H fun b H1 => QB (!b) H1) : tNot c σ H QB := h
theorem s_andV (h : ta σ H (kBl fun b H1 => if b = true then tb σ H1 Q else Q (.bl false) H1)) : tAndV ta tb σ H Q := h
theorem s_orV (h : ta σ H (kBl fun b H1 => if b = true then Q (.bl true) H1 else tb σ H1 Q)) : tOrV ta tb σ H Q := h
theorem s_notV (h : ta σ H (kBl fun b H1 => Q (.bl (!b)) H1)) : tNotV ta σ H Q := h
theorem s_ifE (h : c σ H fun b H1 => if b = true then ta σ H1 Q else tb σ H1 Q) : tIf c ta tb σ H Q := h
theorem s_chain {r r' : R2} (h : ta σ H fun x H1 => tb σ H1 fun y H2 => r x y H2 (kBl fun k H3 => if k = true then tc σ H3 fun w' H4 => r' y w' H4 Q else Q (.bl false) H3)) : tChain r r' ta tb tc σ H Q := h
theorem s_tup (h : tt σ H fun xs H1 => newT xs H1 Q) : tTup tt σ H Q := h
theorem s_lst (h : tt σ H fun xs H1 => newL xs H1 Q) : tLst tt σ H Q := h
theorem s_nil (h : QA [] H) : tNil σ H QA := h
theorem s_cons (h : ta σ H fun x H1 => tt σ H1 fun xs H2 => QA (x :: xs) H2) : tCons ta tt σ H QA := h
def kStar (K : PySem.W.Frag) (tt : TA) (σ : St) (QA : List V → Hp → Prop) : VK := fun x H1 => ∃ p xs, x = V.ref p ∧ (SqT K H1 p xs ∨ SqL K H1 p xs) ∧ tt σ H1 fun ys H2 => QA (xs ++ ys) H2
theorem s_star (h : te σ H (kStar K tt σ QA)) : StX.tStar K te tt σ H QA := h
theorem s_kStarL {a : Addr} {xs : List V} (hs : SqL K H a xs) (h : tt σ H fun ys H2 => QA (xs ++ ys) H2) : kStar K tt σ QA (.ref a) H := ⟨a, xs, rfl, .inr hs, h⟩
theorem s_call {sp : Sp} {E : XK} (h : tt σ H fun vs H1 => sp vs H1 Q E) : tCall sp [] E tt σ H Q := by
  show tt σ H fun vs H1 => sp (vs ++ []) H1 Q E
  have e : (fun (vs : List V) (H1 : Hp) => sp (vs ++ []) H1 Q E) = fun vs H1 => sp vs H1 Q E := by
    funext vs H1
    rw [List.append_nil]
  rw [e]
  exact h
theorem s_CB {r : List V → Hp → VK → Prop} (h : tt σ H fun vs H1 => r vs H1 Q) : tCB r tt σ H Q := h
theorem s_ixL {a : Addr} {xs : List V} (h1 : SqL K H a xs) (h2 : atI xs i = some v) (h : Q v H) : rIxL K (.ref a) (.int i) H Q := ⟨a, xs, i, v, rfl, rfl, h1, h2, h⟩
theorem s_ixT {a : Addr} {xs : List V} (h1 : SqT K H a xs) (h2 : atI xs i = some v) (h : Q v H) : rIxT K (.ref a) (.int i) H Q := ⟨a, xs, i, v, rfl, rfl, h1, h2, h⟩
theorem s_gSub {s : TSet} (h : ta σ H fun o H1 => tb σ H1 fun i H2 => s o i v H2 fun H3 => nx σ H3) : gSub ta tb s v σ H nx := h
theorem s_forR1 (h : tt σ H (kRng1 fun J H1 => kFor J g t D σ H1)) : tFor (iRng1 tt) g t D σ H := h
theorem s_forR2 (h : tt σ H (kRng2 fun J H1 => kFor J g t D σ H1)) : tFor (iRng2 tt) g t D σ H := h
theorem s_forL (h : te σ H (kLst K fun J H1 => kFor J g t D σ H1)) : tFor (iList K te) g t D σ H := h
theorem s_forT (h : te σ H (kTup K fun J H1 => kFor J g t D σ H1)) : tFor (iTup K te) g t D σ H := h
variable {ws : List Nat}
theorem s_lcR1 (h : tt σ H (kRng1 fun J H1 => kLc J g c te ws σ Q H1)) : tLc (iRng1 tt) g c te ws σ H Q := h
theorem s_lcR2 (h : tt σ H (kRng2 fun J H1 => kLc J g c te ws σ Q H1)) : tLc (iRng2 tt) g c te ws σ H Q := h
theorem s_lcL (h : ta σ H (kLst K fun J H1 => kLc J g c te ws σ Q H1)) : tLc (iList K ta) g c te ws σ H Q := h
theorem s_kRng1 {R : It → Hp → Prop} (h1 : -(2 ^ 62) ≤ i) (h2 : i < 2 ^ 62) (h : R (Itr 0 i.toNat) H) : kRng1 R [.int i] H := ⟨i, rfl, h1, h2, h⟩
theorem s_kRng2 {R : It → Hp → Prop} (h1 : -(2 ^ 62) ≤ i) (h2 : i < 2 ^ 62) (h3 : -(2 ^ 62) ≤ j) (h4 : j < 2 ^ 62) (h : R (Itr i (j - i).toNat) H) : kRng2 R [.int i, .int j] H := ⟨i, j, rfl, ⟨h1, h2, h3, h4⟩, h⟩
theorem s_kLst {R : It → Hp → Prop} {a : Addr} {xs : List V} (h1 : SqL K H a xs) (h : R (Itl K a) H) : kLst K R (.ref a) H := ⟨a, rfl, ⟨xs, h1⟩, h⟩
theorem s_kTup {R : It → Hp → Prop} {a : Addr} {xs : List V} (h1 : SqT K H a xs) (h : R (Itt K a) H) : kTup K R (.ref a) H := ⟨a, rfl, ⟨xs, h1⟩, h⟩
theorem s_iteT {A B : Prop} (h : A) : if true = true then A else B := iteT h
theorem s_iteF {A B : Prop} (h : B) : if false = true then A else B := iteF h
theorem s_iteP {p A B : Prop} [Decidable p] (hp : p) (h : A) : if decide p = true then A else B := by rw [if_pos (decide_eq_true hp)]; exact h
theorem s_iteN {p A B : Prop} [Decidable p] (hp : ¬ p) (h : B) : if decide p = true then A else B := by rw [if_neg (by simpa using hp)]; exact h
theorem s_iteD {p A B : Prop} [Decidable p] (h1 : p → A) (h2 : ¬ p → B) : if decide p = true then A else B := by
  by_cases hp : p
  · exact s_iteP hp (h1 hp)
  · exact s_iteN hp (h2 hp)
/-- what a def gives -/
theorem s_parE {n m : Nat} (h : tt σ H fun vs H1 => ∃ v w, vs = [v, w] ∧ nx ((σ.set n (some v)).set m (some w)) H1) : tPar n m tt ⟨nx, rt, bk, ct⟩ σ H := h
def kPar (n m : Nat) (σ : St) (nx : St → Hp → Prop) : List V → Hp → Prop := fun vs H1 => ∃ v w, vs = [v, w] ∧ nx ((σ.set n (some v)).set m (some w)) H1
theorem s_par {n m : Nat} (h : tt σ H (kPar n m σ nx)) : tPar n m tt ⟨nx, rt, bk, ct⟩ σ H := h
theorem s_kPar {n m : Nat} {w : V} {σ1 : St} (s1 : SetAt σ n v σ1) (s2 : SetAt σ1 m w σ') (h : nx σ' H) : kPar n m σ nx [v, w] H := ⟨v, w, rfl, by rw [s1.eq, s2.eq]; exact h⟩
variable {W : List Addr} {H0 : Hp} {M M' I : List (Addr × HO)} {a b p : Addr} {xs zs : List V}
theorem s_newL (hs : Hs W H0 H M I) (hz : xs.length ≤ sizeLine) (h : ∀ p H', Hs W H0 H' ((p, .lst xs) :: M) I → Upto [] H H' → H p = none → Q (.ref p) H') : newL xs H Q :=
  ⟨hz, fun p hp => h p _ (hs.new hp _) (Upto.new hp) hp⟩
theorem s_newT (hs : Hs W H0 H M I) (hz : xs.length ≤ sizeLine) (h : ∀ p H', Hs W H0 H' ((p, .tup xs) :: M) I → Upto [] H H' → H p = none → Q (.ref p) H') : newT xs H Q :=
  ⟨hz, fun p hp => h p _ (hs.new hp _) (Upto.new hp) hp⟩
theorem s_setL {QH : Hp → Prop} (hs : Hs W H0 H M I) (h1 : H a = some (.lst xs)) (h2 : SetI xs i v zs) (r : Rep M a (.lst zs) M') (h : ∀ H', Hs W H0 H' M' I → Upto [a] H H' → QH H') : rSetL (.ref a) (.int i) v H QH := by
  obtain ⟨k, h2, h3⟩ := h2
  exact ⟨a, xs, i, k, rfl, rfl, h1, h2, by rw [h3]; exact h _ (hs.put r) (Upto.put (by simp))⟩
theorem s_cat (hs : Hs W H0 H M I) (h1 : H a = some (.lst xs)) (h2 : H b = some (.lst zs)) (hz : xs.length + zs.length ≤ sizeLine) (h : ∀ p H', Hs W H0 H' ((p, .lst (xs ++ zs)) :: M) I → Upto [] H H' → H p = none → Q (.ref p) H') : rCat (.ref a) (.ref b) H Q :=
  ⟨a, b, xs, zs, rfl, rfl, h1, h2, hz, fun p hp => h p _ (hs.new hp _) (Upto.new hp) hp⟩
theorem s_rep {k : Int} (hs : Hs W H0 H M I) (h1 : H a = some (.lst xs)) (hk : -(2 ^ 63) ≤ k ∧ k < 2 ^ 63) (hz : xs.length * k.toNat ≤ sizeLine) (h : ∀ p H', Hs W H0 H' ((p, .lst (List.replicate k.toNat xs).flatten) :: M) I → Upto [] H H' → H p = none → Q (.ref p) H') : rRep (.ref a) (.int k) H Q :=
  ⟨a, k, xs, rfl, rfl, h1, hk.1, hk.2, hz, fun p hp => h p _ (hs.new hp _) (Upto.new hp) hp⟩
/-- a slice -/
theorem s_sl {r : V → Option Int → Option Int → Hp → VK → Prop} {tl th : TO} (h : te σ H fun x H1 => tl σ H1 fun l H2 => th σ H2 fun u H3 => r x l u H3 Q) : tSl r te tl th σ H Q := h
theorem s_noPart {QO : Option Int → Hp → Prop} (h : QO none H) : tNoPart σ H QO := h
def kPart (QO : Option Int → Hp → Prop) : VK := fun x H1 => ∃ i, x = .int i ∧ QO (some i) H1
theorem s_part {QO : Option Int → Hp → Prop} (h : te σ H (kPart QO)) : tPart te σ H QO := h
theorem s_kPart {QO : Option Int → Hp → Prop} (h : QO (some i) H) : kPart QO (.int i) H := ⟨i, rfl, h⟩
theorem s_slL {lo hi : Option Int} (hs : Hs W H0 H M I) (h1 : SqL K H a xs) (h : ∀ p H', Hs W H0 H' ((p, .lst (cutV xs lo hi)) :: M) I → Upto [] H H' → H p = none → Q (.ref p) H') : rSlL K (.ref a) lo hi H Q :=
  ⟨a, xs, rfl, h1, fun p hp => h p _ (hs.new hp _) (Upto.new hp) hp⟩
/-- built-ins by name -/
def rLenS (K : PySem.W.Frag) : List V → Hp → VK → Prop := fun xs H Q => ∃ p ys, xs = [.ref p] ∧ (SqL K H p ys ∨ SqT K H p ys) ∧ Q (.int ys.length) H
theorem call_lenS {X : Cx} : CallR X (.builtin "len") (rLenS X.K) := call_len_seq
theorem s_lenL (h1 : SqL K H a xs) (h : Q (.int xs.length) H) : rLenS K [.ref a] H Q := ⟨a, xs, rfl, .inl h1, h⟩
theorem s_lenT (h1 : SqT K H a xs) (h : Q (.int xs.length) H) : rLenS K [.ref a] H Q := ⟨a, xs, rfl, .inr h1, h⟩
def rMax2 : List V → Hp → VK → Prop := fun xs H Q => ∃ i j, xs = [.int i, .int j] ∧ Q (.int (if j > i then j else i)) H
theorem call_max2' {X : Cx} (hc : X.calm = true) : CallR X (.builtin "max") rMax2 := call_max2 hc
theorem s_max2 (h : ∀ k : Int, (i ≤ k ∧ j ≤ k ∧ (k = i ∨ k = j)) → Q (.int k) H) : rMax2 [.int i, .int j] H Q := ⟨i, j, rfl, by
  apply h
  split <;> omega⟩
def rListOf (K : PySem.W.Frag) : List V → Hp → VK → Prop := fun xs H Q => ∃ p ys, xs = [.ref p] ∧ (SqL K H p ys ∨ SqT K H p ys) ∧ ∀ l, H l = none → Q (.ref l) (upd H l (.lst ys))
theorem call_listOf {X : Cx} : CallR X (.type "list") (rListOf X.K) := call_list_of
theorem s_listOf (hs : Hs W H0 H M I) (h1 : SqL K H a xs) (h : ∀ p H', Hs W H0 H' ((p, .lst xs) :: M) I → Upto [] H H' → H p = none → Q (.ref p) H') : rListOf K [.ref a] H Q :=
  ⟨a, xs, rfl, .inl h1, fun p hp => h p _ (hs.new hp _) (Upto.new hp) hp⟩
theorem s_isi {x c : V} {b : Bool} {t u : Value} (hc : ClsV c u) (ht : TyX K H x t) (hk : PySem.W.kitOne K t u = some b) (h : Q (.bl b) H) : rIsi K [x, c] H Q := ⟨x, c, t, u, b, rfl, hc, ht, hk, h⟩
/-- methods of lists -/
theorem s_bm0 {T : String} {r : V → List V → Hp → VK → Prop} (h : te σ H fun x H1 => tyV K T x H1 ∧ r x [] H1 Q) : tBM0 K T r te σ H Q := h
theorem s_bm {T : String} {r : V → List V → Hp → VK → Prop} (h : te σ H fun x H1 => tyV K T x H1 ∧ tt σ H1 fun xs H2 => r x xs H2 Q) : tBM K T r te tt σ H Q := h
theorem s_tyL {A : Prop} (h1 : SqL K H a xs) (h : A) : tyV K "list" (.ref a) H ∧ A := ⟨.inl ⟨rfl, _, h1⟩, h⟩
theorem s_clear (hs : Hs W H0 H M I) (h1 : H a = some (.lst xs)) (r : Rep M a (.lst []) M') (h : ∀ H', Hs W H0 H' M' I → Upto [a] H H' → Q .non H') : rClear (.ref a) [] H Q :=
  ⟨a, xs, rfl, rfl, h1, h _ (hs.put r) (Upto.put (by simp))⟩
theorem s_append (hs : Hs W H0 H M I) (h1 : H a = some (.lst xs)) (hz : xs.length < sizeLine) (r : Rep M a (.lst (xs ++ [v])) M') (h : ∀ H', Hs W H0 H' M' I → Upto [a] H H' → Q .non H') : rAppend (.ref a) [v] H Q :=
  ⟨a, xs, v, rfl, rfl, h1, hz, h _ (hs.put r) (Upto.put (by simp))⟩
theorem s_extend (hs : Hs W H0 H M I) (h1 : H a = some (.lst xs)) (h2 : H b = some (.lst zs)) (hz : xs.length + zs.length ≤ sizeLine) (r : Rep M a (.lst (xs ++ zs)) M') (h : ∀ H', Hs W H0 H' M' I → Upto [a] H H' → Q .non H') : rExtend (.ref a) [.ref b] H Q :=
  ⟨a, b, xs, zs, rfl, rfl, h1, h2, hz, h _ (hs.put r) (Upto.put (by simp))⟩
/-- tuples as targets -/
theorem s_gTup {t : TGs} (h1 : SqT K H a xs) (hn : xs.length = n) (h : t xs σ H nx) : gTup K n t (.ref a) σ H nx := ⟨a, xs, rfl, h1, hn, h⟩
theorem s_gCons {t : TG} {u : TGs} (h : t v σ H fun σ' H' => u vs σ' H' nx) : gCons t u (v :: vs) σ H nx := ⟨v, vs, rfl, h⟩
theorem s_gNil (h : nx σ H) : gNil [] σ H nx := ⟨rfl, h⟩
/-- a for over a range, a list -/
theorem f_range {lo : Int} (Pv : Nat → St → Hp → Prop) (h0 : Pv 0 σ H)
    (hs : ∀ i σ H, i < n → Pv i σ H → g (.int (lo + i)) σ H fun σ2 H2 => t ⟨Pv (i + 1), rt, nx, Pv (i + 1)⟩ σ2 H2) (hd : ∀ σ H, Pv n σ H → nx σ H) : kFor (Itr lo n) g t ⟨nx, rt, bk, ct⟩ σ H := for_range Pv h0 hs hd
theorem f_list (Pv : Nat → St → Hp → Prop) (h0 : Pv 0 σ H) (hl : ∀ i σ H, i ≤ xs.length → Pv i σ H → SqL K H a xs)
    (hs : ∀ i x σ H, xs[i]? = some x → Pv i σ H → g x σ H fun σ2 H2 => t ⟨Pv (i + 1), rt, nx, Pv (i + 1)⟩ σ2 H2) (hd : ∀ σ H, Pv xs.length σ H → nx σ H) : kFor (Itl K a) g t ⟨nx, rt, bk, ct⟩ σ H := for_list Pv h0 hl hs hd
end

/-! ### the law's script, and how a body starts -/
def ScrL (K : PySem.W.Frag) (sc : Addr) (ns : List Int) (S : List (Addr × HO)) : Prop := ∀ H : Hp, Holds H S → SqL K H sc (ns.map V.int)
section
variable {W : List Addr} {H0 H H' : Hp} {M M' S I : List (Addr × HO)} {a p r sc : Addr} {o o' : HO} {K : PySem.W.Frag} {ns : List Int}
theorem ScrL.of (h : SqL K H sc (ns.map V.int)) : ∃ S, ScrL K sc ns S ∧ Holds H S := by
  rcases h with (h | ⟨o, h⟩) | h
  · exact ⟨[(sc, _)], fun H' hh => .inl (.inl (hh.at_ _ List.mem_cons_self)), Holds.one h⟩
  · exact ⟨[(sc, _)], fun H' hh => .inl (.inr ⟨o, hh.at_ _ List.mem_cons_self⟩), Holds.one h⟩
  · exact ⟨[], fun H' _ => .inr h, Holds.nil⟩
theorem Hs.holdsI (h : Hs W H0 H M I) : Holds H I :=
  ⟨by have := h.nd; rw [List.map_append, List.nodup_append] at this; exact this.2.1, fun x hx => h.at_ x (List.mem_append_right _ hx)⟩
theorem Hs.scr (h : Hs W H0 H M S) (s : ScrL K sc ns S) : SqL K H sc (ns.map V.int) := s H h.holdsI
theorem Hs.row (h : Hs W H0 H M S) (m : (r, o) ∈ M) : Holds H ((r, o) :: S) := by
  refine ⟨?_, fun x hx => ?_⟩
  · have nd := h.nd
    rw [List.map_append, List.nodup_append] at nd
    rw [List.map_cons, List.nodup_cons]
    refine ⟨fun z => nd.2.2 r (List.mem_map_of_mem (f := Prod.fst) m) r z rfl, nd.2.1⟩
  · rcases List.mem_cons.mp hx with e | hx
    · rw [e]
      exact h.at_ _ (List.mem_append_left _ m)
    · exact h.at_ x (List.mem_append_right _ hx)
theorem Hs.start0 : Hs [] H H [] [] := ⟨Upto.refl _ _, List.nodup_nil, fun _ h => (nomatch h), fun _ h => (nomatch h)⟩
theorem Hs.startI (h : Holds H I) : Hs [] H H [] I := ⟨Upto.refl _ _, h.nd, h.at_, fun _ h => (nomatch h)⟩
theorem Hs.start1 (h : Holds H ((r, o) :: I)) : Hs [r] H H [(r, o)] I := ⟨Upto.refl _ _, h.nd, h.at_, fun x hx => .inl (by
  obtain rfl : x = (r, o) := by simpa using hx
  simp)⟩
theorem Hs.startM {M : List (Addr × HO)} (h : Holds H (M ++ I)) : Hs (M.map Prod.fst) H H M I := ⟨Upto.refl _ _, h.nd, h.at_, fun _ hx => .inl (List.mem_map_of_mem hx)⟩
end

theorem atI_int {α : Type} {xs : List α} {i : Int} (h0 : 0 ≤ i) (h1 : i < xs.length) : ∃ x, atI xs i = some x ∧ xs[i.toNat]? = some x := by
  obtain ⟨n, rfl⟩ : ∃ n : Nat, i = (n : Int) := ⟨i.toNat, by omega⟩
  have hl : n < xs.length := by omega
  exact ⟨xs[n], atI_nat (List.getElem?_eq_getElem hl), List.getElem?_eq_getElem hl⟩
theorem atI_ints {ns : List Int} {i : Int} (h0 : 0 ≤ i) (h1 : i < ns.length) : ∃ v, atI (ns.map V.int) i = some (V.int v) := by
  obtain ⟨x, h, e⟩ := atI_int (xs := ns.map V.int) h0 (by rw [List.length_map]; exact h1)
  rw [List.getElem?_map] at e
  cases q : ns[i.toNat]? with
  | none => rw [q] at e; cases e
  | some u =>
    rw [q] at e
    exact ⟨u, by rw [h]; exact e.symm⟩

/-! ### data, types, comprehensions -/
theorem SqL.tyx {K : PySem.W.Frag} {H : Hp} {a : Addr} {xs : List V} (h : SqL K H a xs) : TyX K H (.ref a) (.type "list") := by
  rcases h with (h | ⟨o, h⟩) | ⟨o, its, n, hk, hc, _⟩
  · exact .base (.lst h)
  · exact .base (.frz h)
  · exact .kList hk hc
theorem SqT.tyx {K : PySem.W.Frag} {H : Hp} {a : Addr} {xs : List V} (h : SqT K H a xs) : TyX K H (.ref a) (.type "tuple") := by
  rcases h with (h | ⟨o, h⟩) | ⟨o, its, n, hk, hc, _⟩
  · exact .base (.tup h)
  · exact .fTuple h
  · exact .kTuple hk hc
theorem same_seqT {K : PySem.W.Frag} {H H' : Hp} {a : Addr} {xs : List V} (e : Same H H') (h : SqT K H a xs) : SqT K H' a xs := by
  rcases h with (h | ⟨o, h⟩) | h
  · exact .inl (.inl (e _ _ h))
  · exact .inl (.inr ⟨o, e _ _ h⟩)
  · exact .inr h
mutual
theorem Dp.same {K : PySem.W.Frag} {H H' : Hp} (e : Same H H') : ∀ {v : V} {d : PyData}, Dp K H v d → Dp K H' v d
  | _, _, .non => .non
  | _, _, .bl b => .bl b
  | _, _, .int i => .int i
  | _, _, .str x => .str x
  | _, _, .lst s a => .lst (e.seq s) (DpAll.same e a)
  | _, _, .tup s a => .tup (same_seqT e s) (DpAll.same e a)
theorem DpAll.same {K : PySem.W.Frag} {H H' : Hp} (e : Same H H') : ∀ {vs : List V} {ds : List PyData}, DpAll K H vs ds → DpAll K H' vs ds
  | _, _, .nil => .nil
  | _, _, .cons h t => .cons (Dp.same e h) (DpAll.same e t)
end
theorem DpAll.len {K : PySem.W.Frag} {H : Hp} : ∀ {vs : List V} {ds : List PyData}, DpAll K H vs ds → vs.length = ds.length
  | _, _, .nil => rfl
  | _, _, .cons _ t => by simp [DpAll.len t]
theorem DpAll.get {K : PySem.W.Frag} {H : Hp} : ∀ {vs : List V} {ds : List PyData} {i : Nat} {d : PyData}, DpAll K H vs ds → ds[i]? = some d → ∃ v, vs[i]? = some v ∧ Dp K H v d
  | _, _, _, _, .nil, e => by simp at e
  | _, _, 0, _, .cons h _, e => by
    simp at e
    subst e
    exact ⟨_, rfl, h⟩
  | _, _, i + 1, _, .cons _ t, e => by
    obtain ⟨v, h1, h2⟩ := DpAll.get (i := i) t (by simpa using e)
    exact ⟨v, by simpa using h1, h2⟩
theorem DpAll.ints {K : PySem.W.Frag} {H : Hp} : ∀ ns : List Int, DpAll K H (ns.map V.int) (ns.map PyData.int)
  | [] => .nil
  | n :: ns => .cons (.int n) (DpAll.ints ns)
theorem Dp.ints {K : PySem.W.Frag} {H : Hp} {a : Addr} {ns : List Int} (h : SqL K H a (ns.map V.int)) : Dp K H (.ref a) (.list (ns.map PyData.int)) := .lst h (DpAll.ints ns)
/-- data of a shape: n deep, no long lists -/
inductive Sh : Nat → PyData → Prop
  | non {n : Nat} : Sh (n + 1) .none
  | bl {n : Nat} (b : Bool) : Sh (n + 1) (.bool b)
  | int {n : Nat} (i : Int) : Sh (n + 1) (.int i)
  | str {n : Nat} (x : Str) : Sh (n + 1) (.str x)
  | lst {n : Nat} {ds : List PyData} (h : ds.length ≤ 100000) (a : ∀ d ∈ ds, Sh n d) : Sh (n + 1) (.list ds)
  | tup {n : Nat} {ds : List PyData} (h : ds.length ≤ 100000) (a : ∀ d ∈ ds, Sh n d) : Sh (n + 1) (.tuple ds)
theorem Sh.ints {n : Nat} {ns : List Int} (h : ns.length ≤ 100000) : Sh (n + 2) (.list (ns.map PyData.int)) := .lst (by rw [List.length_map]; exact h) fun d hd => by
  obtain ⟨i, _, rfl⟩ := List.mem_map.mp hd
  exact .int i
theorem eqv_ints (ns : List Int) : PyData.eqvAll (ns.map PyData.int) (ns.map PyData.int) = true := by
  induction ns with
  | nil => rfl
  | cons n ns ih =>
    rw [List.map_cons, PyData.eqvAll, ih]
    simp [PyData.eqv]
theorem lay_ints (ns : List Int) : PyData.canLayAll0 (ns.map PyData.int) = true := by
  induction ns with
  | nil => rfl
  | cons n ns ih =>
    rw [List.map_cons, PyData.canLayAll0, ih]
    rfl
theorem dep_ints (ns : List Int) : PyData.depthAll (ns.map PyData.int) = 0 := by
  induction ns with
  | nil => rfl
  | cons n ns ih =>
    rw [List.map_cons, PyData.depthAll, ih]
    rfl
theorem shaped_ints (ns : List Int) : SeqAt.shaped (.list (ns.map PyData.int)) = true := by
  unfold SeqAt.shaped
  rw [PyData.canLay0, lay_ints, PyData.depth, dep_ints]
  rfl
def kAcc (D : Addr) (P : Hp → Prop) : VK := fun y H4 => ∃ acc, H4 D = some (.lst acc) ∧ acc.length < sizeLine ∧ P (upd H4 D (.lst (acc ++ [y])))
section
variable {σ : St} {H H' : Hp} {g : TG} {tt : TT} {te : TE} {Q : VK} {n v : Nat} {lo : Int} {K : PySem.W.Frag} {a b D : Addr} {xs acc : List V} {P : Hp → Prop} {y : V} {W : List Addr} {H0 : Hp} {M M' I : List (Addr × HO)} {QB : Bool → Hp → Prop} {ns ms : List Int}
theorem wipe1 (σ : St) (v : Nat) (x : V) : (wipe σ [v]).set v (some x) = σ.set v (some x) := by
  show (σ.set v none).set v (some x) = _
  rw [List.set_set]
theorem wipe2 (σ : St) (v : Nat) (x : V) : wipe (σ.set v (some x)) [v] = wipe σ [v] := by
  show (σ.set v (some x)).set v none = σ.set v none
  rw [List.set_set]
theorem f_lcR (h : ∀ D, H D = none → ∃ Pv : Nat → Hp → Prop, Pv 0 (upd H D (.lst [])) ∧
    (∀ i H, i < n → Pv i H → gName v (.int (lo + i)) σ H fun σ2 H2 => tt σ2 H2 fun b H3 => if b = true then te σ2 H3 (kAcc D (Pv (i + 1))) else Pv (i + 1) H3) ∧ ∀ H, Pv n H → Q (.ref D) H) : kLc (Itr lo n) (gName v) tt te [v] σ Q H := by
  intro D hD
  obtain ⟨Pv, h0, hs, hd⟩ := h D hD
  refine lc_range (Qd := fun H => Q (.ref D) H) Pv h0 (fun i H hi p => ?_) hd
  have q := hs i H hi p
  unfold gName at q ⊢
  rw [wipe1]
  exact ⟨wipe2 _ _ _, q⟩
theorem f_lcL (h : ∀ D, H D = none → ∃ Pv : Nat → Hp → Prop, Pv 0 (upd H D (.lst [])) ∧ (∀ i H, i ≤ xs.length → Pv i H → SqL K H a xs) ∧
    (∀ i x H, xs[i]? = some x → Pv i H → gName v x σ H fun σ2 H2 => tt σ2 H2 fun b H3 => if b = true then te σ2 H3 (kAcc D (Pv (i + 1))) else Pv (i + 1) H3) ∧ ∀ H, Pv xs.length H → Q (.ref D) H) : kLc (Itl K a) (gName v) tt te [v] σ Q H := by
  intro D hD
  obtain ⟨Pv, h0, hl, hs, hd⟩ := h D hD
  refine lc_list (Qd := fun H => Q (.ref D) H) Pv h0 hl (fun i x H hx p => ?_) hd
  have q := hs i x H hx p
  unfold gName at q ⊢
  rw [wipe1]
  exact ⟨wipe2 _ _ _, q⟩
theorem s_acc (hs : Hs W H0 H M I) (h1 : H D = some (.lst acc)) (hz : acc.length < sizeLine) (r : Rep M D (.lst (acc ++ [y])) M') (h : ∀ H', Hs W H0 H' M' I → Upto [D] H H' → P H') : kAcc D P y H :=
  ⟨acc, h1, hz, h _ (hs.put r) (Upto.put (by simp))⟩
theorem s_yes (h : QB true H) : tYes σ H QB := h
theorem s_isiT {x : V} {tp : Addr} {cs : List V} {t : Value} {us : List Value} {b : Bool} (h1 : H tp = some (.tup cs)) (h2 : Paired ClsV cs us) (ht : TyX K H x t) (hk : PySem.W.kitAny K t us = some b) (h : Q (.bl b) H) : rIsiT K [x, .ref tp] H Q := ⟨x, tp, cs, t, us, b, rfl, h1, h2, ht, hk, h⟩
theorem s_neB {b c : Bool} (h : Q (.bl (decide (b ≠ c))) H) : rNe (.bl b) (.bl c) H Q := ⟨rfl, by
  have e : (!decide (V.bl b = V.bl c)) = decide (b ≠ c) := by cases b <;> cases c <;> rfl
  rw [e]; exact h⟩
theorem s_eqB {b c : Bool} (h : Q (.bl (decide (b = c))) H) : rEq (.bl b) (.bl c) H Q := ⟨rfl, by
  have e : decide (V.bl b = V.bl c) = decide (b = c) := by cases b <;> cases c <;> rfl
  rw [e]; exact h⟩
theorem s_eqS {x z : Str} (h : Q (.bl (decide (x = z))) H) : rEq (.str x) (.str z) H Q := ⟨rfl, by
  have e : decide (V.str x = V.str z) = decide (x = z) := by
    by_cases q : x = z
    · rw [q]; simp
    · rw [decide_eq_false q, decide_eq_false (fun z => q (V.str.inj z))]
  rw [e]; exact h⟩
theorem s_neS {x z : Str} (h : Q (.bl (decide (x ≠ z))) H) : rNe (.str x) (.str z) H Q := ⟨rfl, by
  have e : (!decide (V.str x = V.str z)) = decide (x ≠ z) := by
    by_cases q : x = z
    · rw [q]; simp
    · rw [decide_eq_true q, decide_eq_false (fun z => q (V.str.inj z))]; rfl
  rw [e]; exact h⟩
def rIsN' : R2 := fun x y H Q => y = .non ∧ Q (.bl (decide (x = .non))) H
theorem op_isN' {X : Cx} : OpR X (compareOp .Is) rIsN' := op_isN
def rNotN' : R2 := fun x y H Q => y = .non ∧ Q (.bl (!decide (x = .non))) H
theorem op_notN' {X : Cx} : OpR X (compareOp .IsNot) rNotN' := op_notN
theorem s_isN {x : V} (h : Q (.bl (decide (x = .non))) H) : rIsN' x .non H Q := ⟨rfl, h⟩
theorem s_notN {x : V} (h : Q (.bl (decide (x ≠ .non))) H) : rNotN' x .non H Q := ⟨rfl, by rw [← decide_not]; exact h⟩
theorem s_iteNP {p A B : Prop} [Decidable p] (hp : p) (h : B) : if (!decide p) = true then A else B := by rw [if_neg (by simpa using hp)]; exact h
theorem s_iteNN {p A B : Prop} [Decidable p] (hp : ¬ p) (h : A) : if (!decide p) = true then A else B := by rw [if_pos (by simpa using hp)]; exact h
theorem s_iteNT {A B : Prop} (h : B) : if (!true) = true then A else B := iteF h
theorem s_iteNF {A B : Prop} (h : A) : if (!false) = true then A else B := iteT h
/-- lists of ints that are equal, that are not -/
theorem s_eqDL (ha : SqL K H a (ns.map V.int)) (hb : SqL K H b (ns.map V.int)) (h : Q (.bl true) H) : rEqD K (.ref a) (.ref b) H Q :=
  ⟨_, _, Dp.ints ha, Dp.ints hb, shaped_ints ns, shaped_ints ns, by rw [PyData.eqv, eqv_ints]; exact h⟩
theorem s_neDL (ha : SqL K H a (ns.map V.int)) (hb : SqL K H b (ns.map V.int)) (h : Q (.bl false) H) : rNeD K (.ref a) (.ref b) H Q :=
  ⟨_, _, Dp.ints ha, Dp.ints hb, shaped_ints ns, shaped_ints ns, by rw [PyData.eqv, eqv_ints]; exact h⟩
end
/-- a new object comes back -/
def NewO (o : HO) (H : Hp) (Q : VK) : Prop := ∀ p H', Upto [] H H' → H p = none → H' p = some o → Q (.ref p) H'
section
variable {W : List Addr} {H0 H H' : Hp} {M I : List (Addr × HO)} {o : HO} {Q : VK} {p : Addr}
theorem Hs.newO (hs : Hs W H0 H M I) (h : ∀ p H', Hs W H0 H' ((p, o) :: M) I → Upto [] H H' → H p = none → Q (.ref p) H') : NewO o H Q :=
  fun p H' u hp hq => h p H' (hs.add (hs.call0 u) rfl hp hq) u hp
theorem NewO.end_ {Hq : Hp} (k : NewO o H0 Q) (hn : Hq p = none) (hs0 : Hs [] H0 Hq M I) {M' I' : List (Addr × HO)} (hs : Hs [] H0 H' M' I') (hp : H' p = some o) : Q (.ref p) H' :=
  k p H' hs.up (hs0.free hn (by simp)) hp
end

/-! ### the rules that read the written part, with that part as a letter -/
section
variable {X : Cx} {K : PySem.W.Frag} {e o value : Expr} {es : List Expr} {te ta tv to : TE} {t : TA} {f name : Str} {pos pos' tpos apos cpos : Pos} {tg l : Expr} {T id : String} {r : V → List V → Hp → VK → Prop}
theorem ix_listK (hK : X.K = K := by rfl) : IxR X (rIxL K) := by subst hK; exact ix_list
theorem ix_tupK (hK : X.K = K := by rfl) : IxR X (rIxT K) := by subst hK; exact ix_tup
theorem call_lenK (hK : X.K = K := by rfl) : CallR X (.builtin "len") (rLenS K) := by subst hK; exact call_lenS
theorem call_listOfK (hK : X.K = K := by rfl) : CallR X (.type "list") (rListOf K) := by subst hK; exact call_listOf
theorem call_isiK' (hK : X.K = K := by rfl) : CallR X (.builtin "isinstance") (rIsi K) := by subst hK; exact call_isi
theorem call_isiTK (hK : X.K = K := by rfl) : CallR X (.builtin "isinstance") (rIsiT K) := by subst hK; exact call_isiT
theorem op_eqDK (hu : X.A.units + 64 < cLine) (hK : X.K = K := by rfl) : OpR X (compareOp .Eq) (rEqD K) := by subst hK; exact op_eqD hu
theorem op_neDK (hu : X.A.units + 64 < cLine) (hK : X.K = K := by rfl) : OpR X (compareOp .NotEq) (rNeD K) := by subst hK; exact op_neD hu
theorem op_inK (hK : X.K = K := by rfl) : OpR X (compareOp .In) (rIn K false) := by subst hK; exact op_in_seq
theorem op_notInK (hK : X.K = K := by rfl) : OpR X (compareOp .NotIn) (rIn K true) := by subst hK; exact op_notIn_seq
theorem op_catTK (hK : X.K = K := by rfl) : OpR X (binaryOp .Add) (rCatT K) := by subst hK; exact op_catT
theorem sl_listK (hK : X.K = K := by rfl) : SlR X (rSlL K) := by subst hK; exact sl_list
theorem cr_maxK (hc : X.calm = true) (hK : X.K = K := by rfl) : CallR X (.builtin "max") (rMax K) := by subst hK; exact cr_max hc
theorem cr_minK (hc : X.calm = true) (hK : X.K = K := by rfl) : CallR X (.builtin "min") (rMin K) := by subst hK; exact cr_min hc
theorem cr_allK (hc : X.calm = true) (hK : X.K = K := by rfl) : CallR X (.builtin "all") (rAll K) := by subst hK; exact cr_all hc
theorem pi_listK (hl : PE X l te) (hK : X.K = K := by rfl) : PI X tg l (iList K te) := by subst hK; exact pi_list hl
theorem pi_tupK (hl : PE X l te) (hK : X.K = K := by rfl) : PI X tg l (iTup K te) := by subst hK; exact pi_tup hl
theorem pg_tupK {k : Nat} {tt : TGs} {n : Nat} (hc : X.calm = true) (h : PGs X es tt) (hK : X.K = K := by rfl)
    (hn : (assignEach es X.env).length = n := by rfl) (hst : (assignEach es X.env).findIdx? (·.1) = none := by rfl) : PG X (.Tuple es k pos) (gTup K n tt) := by subst hK; exact pg_tup hc h hn hst
theorem pa_starK {p : Pos} (he : PE X e te) (hr : PA X es t) (hK : X.K = K := by rfl) (hs : starEach (.Starred e p :: es) X.env = (true, eval e X.env) :: starEach es X.env := by rfl) : PA X (.Starred e p :: es) (tStar K te t) := by subst hK; exact pa_star he hr hs
theorem pe_fldK (he : PE X e ta) (hb : attributeBase e f X.env (eval e X.env) = eval e X.env) (hK : X.K = K := by rfl) : PE X (.Attribute e f pos) (tFld K ta f) := by subst hK; exact pe_fld he hb
theorem ps_fldK (ha : PE X o ta) (hv : PE X value tv) (hs : swapsWith value (some (.Attribute o f pos')) pos.line X.env = pure false) (hK : X.K = K := by rfl) : PS X (.Assign [.Attribute o f pos'] value pos) (sFld K ta tv f) := by subst hK; exact ps_fld ha hv hs
theorem ps_fldaugK {op : Operator} {rd : V → V → Hp → VK → Prop} (ha : PE X o ta) (hv : PE X value tv) (hop : InOp X op rd) (hK : X.K = K := by rfl) : PS X (.AugAssign (.Attribute o f tpos) op value pos) (sFldAug K ta tv rd f) := by subst hK; exact ps_fldaug ha hv hop
theorem pe_bm0K (pa : PlainAttrs T) (slot : Slot T name id) (hty : typeOf (.builtin id) = pure (.type "method_descriptor")) (hm : MtR X id r) (ho : PE X o to) (hK : X.K = K := by rfl)
    (hbase : attributeBase o name X.env (eval o X.env) = eval o X.env := by rfl) (hline : (apos.endLine == cpos.line) = true := by rfl) : PE X (.Call (.Attribute o name apos) [] [] cpos) (tBM0 K T r to) := by subst hK; exact pe_bm0 pa slot hty hm ho hbase hline
theorem pe_bmK (pa : PlainAttrs T) (slot : Slot T name id) (hty : typeOf (.builtin id) = pure (.type "method_descriptor")) (hm : MtR X id r) (ho : PE X o to) (ha : PA X (e :: es) t) (hK : X.K = K := by rfl)
    (hbase : attributeBase o name X.env (eval o X.env) = eval o X.env := by rfl)
    (hfew : ((backTo cpos (starEach (e :: es) X.env)).all (fun x => !x.1) && (backToKw cpos (keywordEach [] X.env)).all (fun x => x.1.isSome)
      && decide ((e :: es).length + ([] : List Keyword).length + (if ([] : List Keyword).isEmpty then 0 else 1) < 30)) = true := by rfl)
    (hline : (apos.endLine == cpos.line) = true := by rfl) (hs : starEach (e :: es) X.env = (false, eval e X.env) :: starEach es X.env := by rfl) (hplain : (backTo cpos (starEach es X.env)).any (·.1) = false := by rfl) :
    PE X (.Call (.Attribute o name apos) (e :: es) [] cpos) (tBM K T r to t) := by subst hK; exact pe_bm pa slot hty hm ho ha hbase hfew hline hs hplain
end

theorem kitTL_list {K : PySem.W.Frag} : PySem.W.kitAny K (.type "list") [.type "tuple", .type "list"] = some true :=
  kitAny_cons (b := false) (kit_ty (by decide +kernel)) (fun _ => kitAny_cons (b := true) (kit_ty (by decide +kernel)) (fun z => nomatch z) fun _ => rfl) fun z => nomatch z
theorem kitTL_tuple {K : PySem.W.Frag} : PySem.W.kitAny K (.type "tuple") [.type "tuple", .type "list"] = some true :=
  kitAny_cons (b := true) (kit_ty (by decide +kernel)) (fun z => nomatch z) fun _ => rfl
theorem s_eqDnil {K : PySem.W.Frag} {H : Hp} {a b : Addr} {Q : VK} (ha : H a = some (.lst [])) (hb : H b = some (.lst [])) (h : Q (.bl true) H) : rEqD K (.ref a) (.ref b) H Q :=
  s_eqDL (ns := []) (SqL.of ha) (SqL.of hb) h

/-- an item of a list or a tuple -/
def rIxA (K : PySem.W.Frag) : R2 := fun x y H Q => rIxL K x y H Q ∨ rIxT K x y H Q
theorem ix_anyK {X : Cx} {K : PySem.W.Frag} (hK : X.K = K := by rfl) : IxR X (rIxA K) := by subst hK; exact ix_list.or ix_tup
theorem s_ixAL {K : PySem.W.Frag} {H : Hp} {Q : VK} {a : Addr} {xs : List V} {i : Int} {v : V} (h1 : SqL K H a xs) (h2 : atI xs i = some v) (h : Q v H) : rIxA K (.ref a) (.int i) H Q := .inl ⟨a, xs, i, v, rfl, rfl, h1, h2, h⟩
theorem s_ixAT {K : PySem.W.Frag} {H : Hp} {Q : VK} {a : Addr} {xs : List V} {i : Int} {v : V} (h1 : SqT K H a xs) (h2 : atI xs i = some v) (h : Q v H) : rIxA K (.ref a) (.int i) H Q := .inr ⟨a, xs, i, v, rfl, rfl, h1, h2, h⟩

/-! ### what a callee leaves, seen by the caller -/
section
variable {W : List Addr} {H0 H H' : Hp} {M M' N I S : List (Addr × HO)} {r : Addr} {o' : HO}
theorem Hs.sub (h : Hs W H0 H M I) (s : M'.Sublist M) : Hs W H0 H M' I :=
  ⟨h.up, List.Nodup.sublist ((s.append (List.Sublist.refl I)).map Prod.fst) h.nd, fun x hx => h.at_ x ((s.append (List.Sublist.refl I)).subset hx), fun x hx => h.mu x (s.subset hx)⟩
theorem Hs.frame (hc : Hs [r] H H' (N ++ [(r, o')]) S) (h : Hs W H0 H M S) (rp : Rep M r o' M') : Hs W H0 H' (N ++ M') S := by
  have e : H' r = some o' := hc.at_ (r, o') (by simp)
  have h1 : Hs W H0 H' M' S := h.call1 hc.up e rp
  have nr : ∀ x ∈ N, x.1 ≠ r := fun x hx q => by
    have nd := hc.nd
    simp only [List.map_append, List.map_cons, List.map_nil, List.append_assoc, List.nodup_append] at nd
    exact nd.2.2 x.1 (List.mem_map_of_mem (f := Prod.fst) hx) r (by simp) q
  have fr : ∀ x ∈ N, H x.1 = none := fun x hx => by
    rcases hc.mu x (List.mem_append_left _ hx) with w | w
    · exact absurd (by simpa using w) (nr x hx)
    · exact w
  have hM := h.holds
  refine ⟨h1.up, ?_, fun x hx => ?_, fun x hx => ?_⟩
  · have n1 := hc.nd
    have n2 := h1.nd
    rw [List.append_assoc, List.map_append, List.nodup_append]
    refine ⟨?_, n2, fun a ha b hb q => ?_⟩
    · rw [List.append_assoc, List.map_append, List.nodup_append] at n1
      exact n1.1
    · obtain ⟨x, hx, rfl⟩ := List.mem_map.mp ha
      have hb' : b ∈ (M ++ S).map Prod.fst := by
        rw [List.map_append, ← rp.fst, ← List.map_append]
        exact hb
      rw [← q] at hb'
      exact hM.fresh (fr x hx) hb'
  · rw [List.append_assoc] at hx
    rcases List.mem_append.mp hx with hx | hx
    · exact hc.at_ x (List.mem_append_left _ (List.mem_append_left _ hx))
    · exact h1.at_ x hx
  · rcases List.mem_append.mp hx with hx | hx
    · by_cases hw : x.1 ∈ W
      · exact .inl hw
      · exact .inr (Holds.uptoNew h.up (fr x hx) hw)
    · exact h1.mu x hx
end
theorem s_ixPick {K : PySem.W.Frag} {H : Hp} {Q : VK} {a : Addr} {xs : List V} {i : Int} (h1 : SqL K H a xs) (h2 : 0 ≤ i) (h3 : i < xs.length) (h : ∀ x, x ∈ xs → Q x H) : rIxL K (.ref a) (.int i) H Q := by
  obtain ⟨x, e, ex⟩ := atI_int (xs := xs) h2 h3
  exact ⟨a, xs, i, x, rfl, rfl, h1, e, h x (List.mem_of_getElem? ex)⟩

/-! ### slices of lists of ints -/
def cutI (ns : List Int) (lo hi : Option Int) : List Int := (ns.drop (HT.sIx ns.length 0 lo)).take (HT.sIx ns.length ns.length hi - HT.sIx ns.length 0 lo)
theorem cutV_ints (ns : List Int) (lo hi : Option Int) : cutV (ns.map V.int) lo hi = (cutI ns lo hi).map V.int := by
  unfold cutV cutI
  rw [List.length_map, List.map_take, List.map_drop]
theorem sIx_in {n d : Nat} {p : Int} (h0 : 0 ≤ p) (h1 : p ≤ n) : HT.sIx n d (some p) = p.toNat := by
  obtain ⟨k, rfl⟩ : ∃ k : Nat, p = (k : Int) := ⟨p.toNat, by omega⟩
  rw [HT.sIx_nat]
  omega
theorem cutI_upto {ns : List Int} {p : Int} (h0 : 0 ≤ p) (h1 : p ≤ ns.length) : cutI ns none (some p) = ns.take p.toNat := by
  unfold cutI
  rw [sIx_in h0 h1, HT.sIx_none, List.drop_zero, Nat.sub_zero]
theorem cutI_from {ns : List Int} {p : Int} (h0 : 0 ≤ p) (h1 : p ≤ ns.length) : cutI ns (some p) none = ns.drop p.toNat := by
  unfold cutI
  rw [sIx_in h0 h1, HT.sIx_none]
  exact List.take_of_length_le (by rw [List.length_drop]; exact Nat.le_refl _)
theorem eight {ws : List Int} (h : ws.length = 8) : ∃ a b c d e f g i, ws = [a, b, c, d, e, f, g, i] :=
  match ws, h with
  | [a, b, c, d, e, f, g, i], _ => ⟨a, b, c, d, e, f, g, i, rfl⟩
theorem mix8 {ws zs : List Int} {p : Int} (h1 : ws.length = 8) (h2 : zs.length = 8) (h0 : 0 ≤ p) (hp : p ≤ 8) : ∃ a b c d e f g i, cutV (ws.map V.int) none (some p) ++ cutV (zs.map V.int) (some p) none = [V.int a, V.int b, V.int c, V.int d, V.int e, V.int f, V.int g, V.int i] := by
  have hl : (ws.take p.toNat ++ zs.drop p.toNat).length = 8 := by
    rw [List.length_append, List.length_take, List.length_drop]
    omega
  obtain ⟨a, b, c, d, e, f, g, i, q⟩ := eight hl
  refine ⟨a, b, c, d, e, f, g, i, ?_⟩
  rw [cutV_ints, cutV_ints, cutI_upto h0 (by omega), cutI_from h0 (by omega), ← List.map_append, q]
  rfl
theorem s_repI {W : List Addr} {H0 H : Hp} {M I : List (Addr × HO)} {a : Addr} {z k : Int} {Q : VK} (hs : Hs W H0 H M I) (h1 : H a = some (.lst [.int z])) (hk : 0 ≤ k ∧ k ≤ 100000) (h : ∀ p H', Hs W H0 H' ((p, .lst ((List.replicate k.toNat z).map V.int)) :: M) I → Upto [] H H' → H p = none → Q (.ref p) H') : rRep (.ref a) (.int k) H Q := by
  refine s_rep hs h1 (by omega) (by rw [sizeLine_eq]; simp; omega) ?_
  have e : (List.replicate k.toNat [V.int z]).flatten = (List.replicate k.toNat z).map V.int := by
    simp
  rw [e]
  exact h

theorem len_app {xs ys : List V} {a b : Nat} (h1 : xs.length ≤ a) (h2 : ys.length ≤ b) : (xs ++ ys).length ≤ a + b := by rw [List.length_append]; omega
theorem len_cut {xs : List V} {lo hi : Option Int} {a : Nat} (h1 : xs.length ≤ a) : (cutV xs lo hi).length ≤ a := Nat.le_trans (cutV_length _ _ _) h1

theorem none_left {P : Program} {w : World} {K : PySem.W.Frag} {mg : Str → Option Value} {base : Heap} {f : Addr} {fd : FuncData} {ps : List Str} {sp : Sp} (no : ∀ vs H Q E, ¬ sp vs H Q E) : FnOk P w K mg base CX0 0 f fd ps sp :=
  ⟨fun vs H Q E h => absurd h (no vs H Q E), fun A outer s H args us vs Q E _ _ _ _ h => absurd h (no vs H Q E)⟩

/-! ### while; ranges by a step; lists of lists -/
def kWh (m : Nat) (Pv : Nat → St → Hp → Prop) (t : TS) (nx : St → Hp → Prop) (rt : VK) : St → Hp → Prop := fun σ H1 => ∃ N : St → Hp → Prop, (∀ σ' H', N σ' H' → ∃ m', m' < m ∧ Pv m' σ' H') ∧ t ⟨N, rt, nx, N⟩ σ H1
def kRng3 (R : It → Hp → Prop) : List V → Hp → Prop := fun vs H1 => ∃ (i j c : Int) (n : Nat), vs = [.int i, .int j, .int c] ∧ RgC i j c n ∧ R (Itc i c n) H1
theorem rgc3 {j : Int} (h0 : 0 ≤ j) (h1 : j < 2 ^ 60) : RgC 0 j 3 ((j + 2) / 3).toNat := by
  have e : Builtin.Range.rangeSize 0 j 3 = (j + 2) / 3 := by
    rw [PyProof.Rows.rangeSize_pos (by omega) h0]
    congr 1
    omega
  refine ⟨by decide, by decide, ?_, by rw [e]; omega⟩
  unfold Builtin.Range.small
  rw [e]
  simp only [Builtin.Range.rangeFitsLong, Bool.and_eq_true, Bool.or_eq_true, decide_eq_true_eq, beq_iff_eq, show ((3 : Int) > 0) by decide, if_true]
  omega
section
variable {σ : St} {H : Hp} {nx bk ct : St → Hp → Prop} {rt : VK} {t : TS} {c : TT} {tt : TA} {te : TE} {g : TG} {Q : VK} {ws : List Nat} {D : Ends} {j lo st : Int} {n v : Nat}
theorem f_while (m : Nat) (Pv : Nat → St → Hp → Prop) (h0 : Pv m σ H) (hs : ∀ m σ H, Pv m σ H → c σ H fun b H1 => if b = true then kWh m Pv t nx rt σ H1 else nx σ H1) : tWhile c t ⟨nx, rt, bk, ct⟩ σ H := ⟨Pv, ⟨m, h0⟩, hs⟩
theorem s_kWh {m : Nat} {Pv : Nat → St → Hp → Prop} (h : t ⟨fun σ' H' => ∃ m', m' < m ∧ Pv m' σ' H', rt, nx, fun σ' H' => ∃ m', m' < m ∧ Pv m' σ' H'⟩ σ H) : kWh m Pv t nx rt σ H := ⟨_, fun _ _ q => q, h⟩
theorem s_forR3 (h : tt σ H (kRng3 fun J H1 => kFor J g t D σ H1)) : tFor (iRng3 tt) g t D σ H := h
theorem s_lcR3 (h : tt σ H (kRng3 fun J H1 => kLc J g c te ws σ Q H1)) : tLc (iRng3 tt) g c te ws σ H Q := h
theorem s_kRng3 {R : It → Hp → Prop} (h0 : 0 ≤ j) (h1 : j < 2 ^ 60) (h : R (Itc 0 3 ((j + 2) / 3).toNat) H) : kRng3 R [.int 0, .int j, .int 3] H := ⟨0, j, 3, _, rfl, rgc3 h0 h1, h⟩
theorem f_lcC (h : ∀ D, H D = none → ∃ Pv : Nat → Hp → Prop, Pv 0 (upd H D (.lst [])) ∧
    (∀ i H, i < n → Pv i H → gName v (.int (lo + (i : Nat) * st)) σ H fun σ2 H2 => c σ2 H2 fun b H3 => if b = true then te σ2 H3 (kAcc D (Pv (i + 1))) else Pv (i + 1) H3) ∧ ∀ H, Pv n H → Q (.ref D) H) : kLc (Itc lo st n) (gName v) c te [v] σ Q H := by
  intro D hD
  obtain ⟨Pv, h0, hs, hd⟩ := h D hD
  refine lc_it (Qd := fun H => Q (.ref D) H) walk_rangeC Pv h0 (fun _ _ _ _ => trivial) (fun i x H H' hi p y => ?_) hd
  obtain ⟨rfl, rfl⟩ := y
  have q := hs i _ hi p
  unfold gName at q ⊢
  rw [wipe1]
  exact ⟨wipe2 _ _ _, q⟩
end
def rowsL : List Addr → List (List Int) → List (Addr × HO)
  | q :: qs, xs :: xss => (q, .lst (xs.map V.int)) :: rowsL qs xss
  | [], _ => []
  | _ :: _, [] => []
theorem rowsL_nil (xss : List (List Int)) : rowsL [] xss = [] := rfl
theorem rowsL_get : ∀ {qs : List Addr} {xss : List (List Int)} {i : Nat} {q : Addr} {xs : List Int}, qs[i]? = some q → xss[i]? = some xs → (q, HO.lst (xs.map V.int)) ∈ rowsL qs xss
  | [], _, _, _, _, h, _ => by simp at h
  | _ :: _, [], _, _, _, _, h => by simp at h
  | q :: qs, x :: xss, 0, _, _, h, h' => by
    simp at h h'
    subst h h'
    exact List.mem_cons_self
  | q :: qs, x :: xss, i + 1, _, _, h, h' => List.mem_cons_of_mem _ (rowsL_get (i := i) (by simpa using h) (by simpa using h'))
theorem rowsL_snoc : ∀ {qs : List Addr} {xss : List (List Int)} (q : Addr) (xs : List Int), qs.length = xss.length → rowsL (qs ++ [q]) (xss ++ [xs]) = rowsL qs xss ++ [(q, HO.lst (xs.map V.int))]
  | [], [], _, _, _ => rfl
  | [], _ :: _, _, _, h => by simp at h
  | _ :: _, [], _, _, h => by simp at h
  | a :: qs, b :: xss, q, xs, h => by
    show _ :: rowsL (qs ++ [q]) (xss ++ [xs]) = _ :: (rowsL qs xss ++ _)
    rw [rowsL_snoc q xs (by simpa using h)]
theorem dp_rows {K : PySem.W.Frag} {H : Hp} : ∀ {qs : List Addr} {xss : List (List Int)}, (∀ x ∈ rowsL qs xss, H x.1 = some x.2) → qs.length = xss.length → DpAll K H (qs.map V.ref) (xss.map fun xs => PyData.list (xs.map PyData.int))
  | [], [], _, _ => .nil
  | [], _ :: _, _, h => by simp at h
  | _ :: _, [], _, h => by simp at h
  | q :: qs, x :: xss, hh, h => .cons (Dp.ints (SqL.of (hh _ List.mem_cons_self))) (dp_rows (fun y hy => hh y (List.mem_cons_of_mem _ hy)) (by simpa using h))
section
variable {W : List Addr} {H0 H H' : Hp} {M M' N A I I' : List (Addr × HO)} {a p D : Addr} {o oD : HO}
theorem Hs.perm (h : Hs W H0 H M I) (s : M'.Perm M) : Hs W H0 H M' I :=
  ⟨h.up, (((s.append (List.Perm.refl I)).map Prod.fst).nodup_iff).mpr h.nd, fun x hx => h.at_ x ((s.append (List.Perm.refl I)).mem_iff.mp hx), fun x hx => h.mu x (s.mem_iff.mp hx)⟩
theorem Hs.snoc (h : Hs W H0 H ((p, o) :: (D, oD) :: (A ++ M)) I) : Hs W H0 H ((D, oD) :: ((A ++ [(p, o)]) ++ M)) I := by
  refine h.perm ?_
  refine List.Perm.trans ?_ (List.Perm.swap _ _ _)
  refine List.Perm.cons _ ?_
  rw [List.append_assoc]
  exact List.perm_middle
theorem Hs.dropI (h : Hs W H0 H M I) : Hs W H0 H M [] :=
  ⟨h.up, by
    have := h.nd
    rw [List.map_append, List.nodup_append] at this
    rw [List.append_nil]
    exact this.1, fun x hx => h.at_ x (List.mem_append_left _ (by simpa using hx)), h.mu⟩
/-- what a callee that changes nothing has made -/
theorem Hs.frame0 (hc : Hs [] H H' N I') (h : Hs W H0 H M I) : Hs W H0 H' (N ++ M) I := by
  have h1 : Hs W H0 H' M I := h.call0 hc.up
  have fr : ∀ x ∈ N, H x.1 = none := fun x hx => by
    rcases hc.mu x hx with w | w
    · exact absurd w (by simp)
    · exact w
  refine ⟨h1.up, ?_, fun x hx => ?_, fun x hx => ?_⟩
  · have n1 := hc.nd
    rw [List.append_assoc, List.map_append, List.nodup_append]
    refine ⟨?_, h1.nd, fun a ha b hb q => ?_⟩
    · rw [List.map_append, List.nodup_append] at n1
      exact n1.1
    · obtain ⟨x, hx, rfl⟩ := List.mem_map.mp ha
      rw [← q] at hb
      exact h.holds.fresh (fr x hx) hb
  · rw [List.append_assoc] at hx
    rcases List.mem_append.mp hx with hx | hx
    · exact hc.at_ x (List.mem_append_left _ hx)
    · exact h1.at_ x hx
  · rcases List.mem_append.mp hx with hx | hx
    · by_cases hw : x.1 ∈ W
      · exact .inl hw
      · exact .inr (Holds.uptoNew h.up (fr x hx) hw)
    · exact h1.mu x hx
theorem Hs.part (h : Hs W H0 H M I) (s : N.Sublist M) : Holds H N := ⟨by
    have n1 := h.nd
    rw [List.map_append, List.nodup_append] at n1
    exact List.Nodup.sublist (s.map _) n1.1, fun x hx => h.at_ x (List.mem_append_left _ (s.subset hx))⟩
theorem Rep.skip {L L' : List (Addr × HO)} {a : Addr} {o' : HO} (r : Rep L a o' L') : ∀ A : List (Addr × HO), Rep (A ++ L) a o' (A ++ L')
  | [] => r
  | _ :: A => .there (Rep.skip r A)
end

theorem Hs.rows {W : List Addr} {H0 H : Hp} {M I N : List (Addr × HO)} (h : Hs W H0 H M I) (s : N.Sublist M) : ∀ x ∈ N, H x.1 = some x.2 := fun x hx => h.at_ x (List.mem_append_left _ (s.subset hx))
theorem Sh.lists {n : Nat} {xss : List (List Int)} (h : xss.length ≤ 100000) (h2 : ∀ xs ∈ xss, xs.length ≤ 100000) : Sh (n + 3) (.list (xss.map fun xs => PyData.list (xs.map PyData.int))) := .lst (by rw [List.length_map]; exact h) fun d hd => by
  obtain ⟨xs, hx, rfl⟩ := List.mem_map.mp hd
  exact Sh.ints (h2 xs hx)
theorem Rep.memOf {L : List (Addr × HO)} {a : Addr} {o o' : HO} (m : (a, o) ∈ L) : ∃ L', Rep L a o' L' := by
  induction L with
  | nil => cases m
  | cons x L ih =>
    rcases List.mem_cons.mp m with e | m
    · rw [← e]
      exact ⟨_, .here⟩
    · obtain ⟨L', r⟩ := ih m
      exact ⟨_, .there r⟩

theorem lk {H : Hp} {a : Addr} {o o' : HO} (h : H a = some o) (e : o = o') : H a = some o' := e ▸ h
theorem lkL {K : PySem.W.Frag} {H : Hp} {a : Addr} {o : HO} {xs : List V} (h : H a = some o) (e : o = .lst xs) : SqL K H a xs := SqL.of (e ▸ h)
theorem lkT {K : PySem.W.Frag} {H : Hp} {a : Addr} {o : HO} {xs : List V} (h : H a = some o) (e : o = .tup xs) : SqT K H a xs := SqT.of (e ▸ h)
end RL
namespace RL
open PySem L2 StX
def top (i : Nat) : Stmt := PySem.Challenge.pw_ringlog_k03_kinds_of_blocks.main.body.getD i (.Pass ⟨0, 0, 0, 0⟩)
abbrev st_made : Stmt := top 1
abbrev st_kind : Stmt := top 2
abbrev st_law_taken : Stmt := top 4
abbrev st_law_alike : Stmt := top 5
abbrev st_law_kind : Stmt := top 6
abbrev st_law_block : Stmt := top 7
abbrev st_law : Stmt := top 8
structure Ad where
  none_ : Unit
structure Txt (K : PySem.W.Frag) (mg : Str → Option Value) (Z : Ad) : Prop where
  ok_ : True
  m_bool : mg "bool" = none
  m_int : mg "int" = none
  m_isinstance : mg "isinstance" = none
  m_len : mg "len" = none
  m_list : mg "list" = none
  m_max : mg "max" = none
  m_range : mg "range" = none
  m_str : mg "str" = none
  m_tuple : mg "tuple" = none
section
variable {P : Program} {w : World} {K : PySem.W.Frag} {mg : Str → Option Value} {base : Heap} {Z : Ad}
def madeL (number floor begin_ left : Int) (data : List Int) : List Int := number :: floor :: begin_ :: left :: (data ++ [number])
theorem madeL_len (n f b l : Int) (ds : List Int) : (madeL n f b l ds).length = ds.length + 5 := by
  unfold madeL
  simp

def sp_made (K : PySem.W.Frag) (_ : Ad) : Sp := fun vs H Q _ => ∃ (n f b l : Int) (a : Addr) (ds : List Int), vs = [.int n, .int f, .int b, .int l, .ref a] ∧ H a = some (.lst (ds.map V.int)) ∧ ds.length ≤ 1000 ∧
  NewO (.lst ((madeL n f b l ds).map V.int)) H Q
theorem sc_made : FnScope ["number", "floor", "begin", "left", "data"] ["number", "floor", "begin", "left", "data"] (defScope st_made) := ⟨rfl, rfl, rfl, by decide +kernel, rfl, by decide +kernel, by decide +kernel⟩
theorem s_made {W : List Addr} {H0 H : Hp} {M I : List (Addr × HO)} {a : Addr} {ds : List Int} {n f b l : Int} {Q : VK} {E : XK} (hs : Hs W H0 H M I) (h1 : H a = some (.lst (ds.map V.int))) (hz : ds.length ≤ 1000)
    (h : ∀ p H', Hs W H0 H' ((p, .lst ((madeL n f b l ds).map V.int)) :: M) I → Upto [] H H' → H p = none → Q (.ref p) H') : sp_made K Z [.int n, .int f, .int b, .int l, .ref a] H Q E :=
  ⟨n, f, b, l, a, ds, rfl, h1, hz, hs.newO h⟩
def kindS (first last place many : Int) : Str := if first = 0 ∧ last = 0 then "empty" else if first = last ∧ many ≤ first ∧ first % many = place then "whole" else "torn"
def sp_kind (K : PySem.W.Frag) (_ : Ad) : Sp := fun vs H Q _ => ∃ (a : Addr) (w0 w1 w2 w3 w4 w5 w6 w7 p m : Int), vs = [.ref a, .int p, .int m] ∧ H a = some (.lst [.int w0, .int w1, .int w2, .int w3, .int w4, .int w5, .int w6, .int w7]) ∧ 0 < m ∧
  Q (.str (kindS w0 w7 p m)) H
theorem sc_kind : FnScope ["words", "place", "many", "first", "last"] ["words", "place", "many"] (defScope st_kind) := ⟨rfl, rfl, rfl, by decide +kernel, rfl, by decide +kernel, by decide +kernel⟩
theorem s_kind {H : Hp} {a : Addr} {w0 w1 w2 w3 w4 w5 w6 w7 p m : Int} {Q : VK} {E : XK} (h1 : H a = some (.lst [.int w0, .int w1, .int w2, .int w3, .int w4, .int w5, .int w6, .int w7])) (hm : 0 < m)
    (h : Q (.str (kindS w0 w7 p m)) H) : sp_kind K Z [.ref a, .int p, .int m] H Q E := ⟨a, w0, w1, w2, w3, w4, w5, w6, w7, p, m, rfl, h1, hm, h⟩
def RowO (sc : Addr) (o : HO) : Prop := ∃ i m : Int, 0 ≤ i ∧ o = .lst [.ref sc, .int i, .int m]
/-- the next cell's rest: some number below n -/
def sp_law_taken (K : PySem.W.Frag) (_ : Ad) : Sp := fun vs H Q _ => ∃ (r sc : Addr) (o : HO) (ns : List Int) (S : List (Addr × HO)) (n : Int), vs = [.ref r, .int n] ∧ Holds H ((r, o) :: S) ∧ RowO sc o ∧ ScrL K sc ns S ∧ 0 < n ∧
  ∀ (v : Int) (o' : HO) (H' : Hp), 0 ≤ v → v < n → Upto [r] H H' → H' r = some o' → RowO sc o' → Q (.int v) H'
theorem sc_law_taken : FnScope ["_law_row", "_law_many", "_law_cell"] ["_law_row", "_law_many"] (defScope st_law_taken) := ⟨rfl, rfl, rfl, by decide +kernel, rfl, by decide +kernel, by decide +kernel⟩
theorem s_taken {W : List Addr} {H0 H : Hp} {M S : List (Addr × HO)} {r sc : Addr} {o : HO} {ns : List Int} {n : Int} {Q : VK} {E : XK} (hs : Hs W H0 H M S) (m : (r, o) ∈ M) (ro : RowO sc o) (sl : ScrL K sc ns S) (hn : 0 < n)
    (h : ∀ (v : Int) (o' : HO) (H' : Hp), 0 ≤ v → v < n → RowO sc o' → (∀ M', Rep M r o' M' → Hs W H0 H' M' S) → Upto [r] H H' → Q (.int v) H') : sp_law_taken K Z [.ref r, .int n] H Q E :=
  ⟨r, sc, o, ns, S, n, rfl, hs.row m, ro, sl, hn, fun v o' H' h1 h2 u e ro' => h v o' H' h1 h2 ro' (fun _ rp => hs.call1 u e rp) u⟩
/-- of equal data: True, and nothing is changed -/
def sp_law_alike (K : PySem.W.Frag) (_ : Ad) (n : Nat) : Sp := fun vs H Q _ => ∃ (x y : V) (d : PyData), vs = [x, y] ∧ Dp K H x d ∧ Dp K H y d ∧ Sh n d ∧ ∀ H', Upto [] H H' → Q (.bl true) H'
theorem no_law_alike {K : PySem.W.Frag} {Z : Ad} : ∀ vs H Q E, ¬ sp_law_alike K Z 0 vs H Q E := fun vs H Q E h => by
  obtain ⟨_, _, _, _, _, _, s, _⟩ := h
  cases s
theorem sc_law_alike : FnScope ["_law_found", "_law_due", "_law_k"] ["_law_found", "_law_due"] (defScope st_law_alike) := ⟨rfl, rfl, rfl, by decide +kernel, rfl, by decide +kernel, by decide +kernel⟩
/-- two lists of the same ints -/
theorem s_alikeL {W : List Addr} {H0 H : Hp} {M I : List (Addr × HO)} {a b : Addr} {ns : List Int} {Q : VK} {E : XK} (hs : Hs W H0 H M I) (h1 : H a = some (.lst (ns.map V.int))) (h2 : H b = some (.lst (ns.map V.int))) (hz : ns.length ≤ 100000)
    (h : ∀ H', Hs W H0 H' M I → Upto [] H H' → Q (.bl true) H') : sp_law_alike K Z 6 [.ref a, .ref b] H Q E :=
  ⟨_, _, _, rfl, Dp.ints (SqL.of h1), Dp.ints (SqL.of h2), Sh.ints hz, fun H' u => h H' (hs.call0 u) u⟩
theorem s_alikeI {W : List Addr} {H0 H : Hp} {M I : List (Addr × HO)} {i : Int} {Q : VK} {E : XK} (hs : Hs W H0 H M I)
    (h : ∀ H', Hs W H0 H' M I → Upto [] H H' → Q (.bl true) H') : sp_law_alike K Z 6 [.int i, .int i] H Q E :=
  ⟨_, _, _, rfl, .int i, .int i, .int i, fun H' u => h H' (hs.call0 u) u⟩
theorem s_alikeLL {W : List Addr} {H0 H : Hp} {M I : List (Addr × HO)} {a b : Addr} {qs ps : List Addr} {xss : List (List Int)} {Q : VK} {E : XK} (hs : Hs W H0 H M I) (m1 : ((a, HO.lst (qs.map V.ref)) :: rowsL qs xss).Sublist M) (m2 : ((b, HO.lst (ps.map V.ref)) :: rowsL ps xss).Sublist M)
    (l1 : qs.length = xss.length) (l2 : ps.length = xss.length) (hz : xss.length ≤ 100000) (hx : ∀ xs ∈ xss, xs.length ≤ 100000) (h : ∀ H', Hs W H0 H' M I → Upto [] H H' → Q (.bl true) H') : sp_law_alike K Z 6 [.ref a, .ref b] H Q E := by
  have r1 := hs.rows m1
  have r2 := hs.rows m2
  exact ⟨_, _, _, rfl, .lst (SqL.of (r1 _ List.mem_cons_self)) (dp_rows (fun x hx => r1 x (List.mem_cons_of_mem _ hx)) l1), .lst (SqL.of (r2 _ List.mem_cons_self)) (dp_rows (fun x hx => r2 x (List.mem_cons_of_mem _ hx)) l2), Sh.lists hz hx, fun H' u => h H' (hs.call0 u) u⟩
def sp_law_kind (K : PySem.W.Frag) (_ : Ad) : Sp := fun vs H Q _ => ∃ (a : Addr) (w0 w1 w2 w3 w4 w5 w6 w7 p m : Int), vs = [.ref a, .int p, .int m] ∧ H a = some (.lst [.int w0, .int w1, .int w2, .int w3, .int w4, .int w5, .int w6, .int w7]) ∧ 0 < m ∧
  Q (.str (kindS w0 w7 p m)) H
theorem sc_law_kind : FnScope ["_law_words", "_law_place", "_law_many"] ["_law_words", "_law_place", "_law_many"] (defScope st_law_kind) := ⟨rfl, rfl, rfl, by decide +kernel, rfl, by decide +kernel, by decide +kernel⟩
theorem s_law_kind {H : Hp} {a : Addr} {w0 w1 w2 w3 w4 w5 w6 w7 p m : Int} {Q : VK} {E : XK} (h1 : H a = some (.lst [.int w0, .int w1, .int w2, .int w3, .int w4, .int w5, .int w6, .int w7])) (hm : 0 < m)
    (h : Q (.str (kindS w0 w7 p m)) H) : sp_law_kind K Z [.ref a, .int p, .int m] H Q E := ⟨a, w0, w1, w2, w3, w4, w5, w6, w7, p, m, rfl, h1, hm, h⟩
/-- a block of drawn words and its parts -/
def sp_law_block (K : PySem.W.Frag) (_ : Ad) : Sp := fun vs H Q _ => ∃ (r sc : Addr) (o : HO) (ns : List Int) (S : List (Addr × HO)) (n : Int), vs = [.ref r, .int n] ∧ Holds H ((r, o) :: S) ∧ RowO sc o ∧ ScrL K sc ns S ∧
  ∀ (o' : HO) (f b l d0 d1 d2 : Int) (a c t u : Addr) (H' : Hp), RowO sc o' → Hs [r] H H' [(t, .tup [.ref a, .ref u]), (u, .tup [.int f, .int b, .int l, .ref c]), (a, .lst ((madeL n f b l [d0, d1, d2]).map V.int)), (c, .lst ([d0, d1, d2].map V.int)), (r, o')] S → Q (.ref t) H'
theorem sc_law_block : FnScope ["_law_row", "_law_number", "_law_data", "_law_floor", "_law_begin", "_law_left", "_law_k"] ["_law_row", "_law_number"] (defScope st_law_block) := ⟨rfl, rfl, rfl, by decide +kernel, rfl, by decide +kernel, by decide +kernel⟩
theorem s_law_block {W : List Addr} {H0 H : Hp} {M S : List (Addr × HO)} {r sc : Addr} {o : HO} {ns : List Int} {n : Int} {Q : VK} {E : XK} (hs : Hs W H0 H M S) (m : (r, o) ∈ M) (ro : RowO sc o) (sl : ScrL K sc ns S)
    (h : ∀ (o' : HO) (f b l d0 d1 d2 : Int) (a c t u : Addr) (H' : Hp), RowO sc o' → (∀ M', Rep M r o' M' → Hs W H0 H' ((t, .tup [.ref a, .ref u]) :: (u, .tup [.int f, .int b, .int l, .ref c]) :: (a, .lst ((madeL n f b l [d0, d1, d2]).map V.int)) :: (c, .lst ([d0, d1, d2].map V.int)) :: M') S) → Q (.ref t) H') :
    sp_law_block K Z [.ref r, .int n] H Q E :=
  ⟨r, sc, o, ns, S, n, rfl, hs.row m, ro, sl, fun o' f b l d0 d1 d2 a c t u H' ro' hc => h o' f b l d0 d1 d2 a c t u H' ro' fun _ rp => Hs.frame (N := [_, _, _, _]) hc hs rp⟩
def sp_law (K : PySem.W.Frag) (_ : Ad) : Sp := fun vs H Q _ => ∃ (a : Addr) (ns : List Int), vs = [.ref a] ∧ SqL K H a (ns.map V.int) ∧ ns.length ≤ 63 ∧ ∀ H', Q (.bl true) H'
theorem sc_law : FnScope ["_law_script", "_law_row", "_law_turn", "_law_many", "_law_place", "_law_number", "_law_words", "_law_parts", "_law_floor", "_law_begin", "_law_left", "_law_data", "_law_handed", "_law_found", "_law_old", "_law_part", "_law_mixed", "_law_some", "_law_spot"] ["_law_script"] (defScope st_law) := ⟨rfl, rfl, rfl, by decide +kernel, rfl, by decide +kernel, by decide +kernel⟩
end
/-- lookups -/
local macro_rules | `(tactic| k_data) => `(tactic| first | exact List.mem_cons_self | assumption | (apply List.mem_cons_of_mem; k_data) | (apply List.mem_append_right; k_data) | (apply List.mem_append_left; k_data))
local macro_rules | `(tactic| k_get) => `(tactic| first | exact Rep.here | (apply Rep.there; k_get) | (apply Rep.skip; k_get))
local macro_rules | `(tactic| k_put) => `(tactic| first | exact SetAt.here | (apply SetAt.there; k_put))
local macro_rules | `(tactic| k_obj1) => `(tactic| first | assumption | exact Hs.getM (by assumption) (by k_data) | exact Hs.getI (by assumption) (by k_data))
local macro_rules | `(tactic| k_here) => `(tactic| first | (apply lk; k_obj1; rfl) | (apply lkL; k_obj1; rfl) | (apply lkT; k_obj1; rfl) | assumption | exact Hs.scr (by assumption) (by assumption) | exact (Upto.same (Hs.up (by assumption))).seq (by assumption) | exact same_seqT (Upto.same (Hs.up (by assumption))) (by assumption))
local macro_rules | `(tactic| k_few) => `(tactic| first | assumption | omega | (simp only [List.length_cons, List.length_nil, List.length_append, List.length_map, List.length_replicate, sizeLine_eq]; omega))
local macro_rules | `(tactic| k_closed) => `(tactic| first | assumption | rfl | omega | (focus (intro h; cases h; done)) | (exact fun h => h rfl) | decide)
local macro_rules | `(tactic| k_not) => `(tactic| first | omega | (unfold CMul; omega) | (unfold CDiv; omega) | assumption)
local macro_rules | `(tactic| k_ownname) => `(tactic| first | exact SetI.s0 | exact SetI.s1 | exact SetI.s2 | assumption)
local macro_rules | `(tactic| k_is) => `(tactic| first | rfl | assumption)
/-- one step of a reading -/
local macro_rules | `(tactic| k_one) => `(tactic| first
  | with_reducible apply s_asg
  | with_reducible apply s_ifs
  | with_reducible apply s_op
  | ((with_reducible apply s_var); rfl)
  | with_reducible apply s_c
  | ((with_reducible apply s_gname); k_put)
  | with_reducible apply s_cons
  | with_reducible apply s_nil
  | with_reducible apply s_call
  | with_reducible apply s_CB
  | with_reducible apply s_rI0
  | ((with_reducible apply s_rI); k_not)
  | ((with_reducible apply s_ixL); k_here; k_is)
  | ((with_reducible apply s_ixT); k_here; k_is)
  | with_reducible apply s_eqI
  | with_reducible apply s_neI
  | with_reducible apply s_test
  | with_reducible apply s_tB
  | with_reducible apply s_kBl
  | with_reducible apply s_iteT
  | with_reducible apply s_iteF
  | ((with_reducible apply s_iteP); k_closed)
  | ((with_reducible apply s_iteN); k_closed)
  | with_reducible apply s_and
  | with_reducible apply s_or
  | with_reducible apply s_not
  | with_reducible apply s_andV
  | with_reducible apply s_orV
  | with_reducible apply s_notV
  | with_reducible apply s_ifE
  | with_reducible apply s_chain
  | with_reducible apply s_lst
  | with_reducible apply s_tup
  | ((with_reducible apply s_newL); assumption; k_few; intro _ _ _ _ _)
  | ((with_reducible apply s_newT); assumption; k_few; intro _ _ _ _ _)
  | with_reducible apply s_star
  | ((with_reducible apply s_kStarL); k_here)
  | with_reducible apply s_gSub
  | ((with_reducible apply s_setL); assumption; k_here; k_ownname; k_get; intro _ _ _)
  | with_reducible apply s_ret
  | with_reducible apply s_retN
  | with_reducible apply s_next
  | with_reducible apply s_drop
  | with_reducible apply s_un
  | with_reducible apply s_rU
  | ((with_reducible apply s_cat); assumption; k_here; k_here; k_few; intro _ _ _ _ _)
  | with_reducible apply s_sl
  | with_reducible apply s_noPart
  | with_reducible apply s_part
  | with_reducible apply s_kPart
  | ((with_reducible apply s_slL); assumption; k_here; intro _ _ _ _ _)
  | ((with_reducible apply s_lenL); k_here)
  | ((with_reducible apply s_lenT); k_here)
  | ((with_reducible apply s_listOf); assumption; k_here; intro _ _ _ _ _)
  | (with_reducible apply s_max2; intro _ _)
  | with_reducible apply s_forR1
  | with_reducible apply s_forR2
  | with_reducible apply s_forL
  | with_reducible apply s_forT
  | with_reducible apply s_lcR1
  | with_reducible apply s_lcR2
  | with_reducible apply s_lcL
  | ((with_reducible apply s_kRng1); k_few; k_few)
  | ((with_reducible apply s_kRng2); k_few; k_few; k_few; k_few)
  | ((with_reducible apply s_kLst); k_here)
  | ((with_reducible apply s_kTup); k_here)
  | with_reducible apply s_bm0
  | with_reducible apply s_bm
  | ((with_reducible apply s_tyL); k_here)
  | ((with_reducible apply s_clear); assumption; k_here; k_get; intro _ _ _)
  | ((with_reducible apply s_append); assumption; k_here; k_few; k_get; intro _ _ _)
  | ((with_reducible apply s_extend); assumption; k_here; k_here; k_few; k_get; intro _ _ _)
  | with_reducible apply s_par
  | ((with_reducible apply s_kPar); k_put; k_put)
  | ((with_reducible apply s_gTup); k_here; rfl)
  | with_reducible apply s_gCons
  | with_reducible apply s_gNil
  | ((with_reducible apply s_start); (simp only [L2.start, List.map_cons, List.map_nil, List.length_cons, List.length_nil, Nat.reduceAdd, Nat.reduceSub, List.replicate, List.cons_append, List.nil_append]; rfl)))
local macro_rules | `(tactic| k_slotget) => `(tactic| first | exact TyX.base (.int _) | exact TyX.base (.bl _) | exact TyX.base .non | exact TyX.base (.str _) | exact SqL.tyx (by k_here) | exact SqT.tyx (by k_here) | assumption)
local macro_rules | `(tactic| k_data) => `(tactic| first | exact List.mem_cons_self | assumption | (apply List.mem_cons_of_mem; k_data) | (apply List.mem_append_right; k_data) | (apply List.mem_append_left; k_data))
local macro_rules | `(tactic| k_one) => `(tactic| first
  | ((with_reducible apply s_isi); exact ClsV.ty _; k_slotget; (first | exact kit_ty (r := true) (by decide +kernel) | exact kit_ty (r := false) (by decide +kernel)))
  | ((with_reducible apply s_ixAL); k_here; k_is)
  | ((with_reducible apply s_ixAT); k_here; k_is)
  | ((with_reducible apply s_isiT); k_here; (exact .cons (.ty _) (.cons (.ty _) .nil)); k_slotget; (first | exact kitTL_list | exact kitTL_tuple))
  | ((with_reducible apply s_repI); assumption; k_here; k_few; intro _ _ _ _ _)
  | with_reducible apply s_neB
  | with_reducible apply s_eqB
  | with_reducible apply s_eqS
  | with_reducible apply s_neS
  | with_reducible apply s_isN
  | with_reducible apply s_notN
  | ((with_reducible apply s_iteNP); k_closed)
  | ((with_reducible apply s_iteNN); k_closed)
  | with_reducible apply s_iteNT
  | with_reducible apply s_iteNF
  | with_reducible apply s_yes
  | with_reducible apply s_forR3
  | with_reducible apply s_lcR3
  | ((with_reducible apply s_kRng3); k_few; k_few)
  | with_reducible apply s_kWh
  | ((with_reducible apply s_acc); assumption; k_here; k_few; k_get; intro _ _ _)
  | ((with_reducible apply s_eqDnil); k_here; k_here)
  | ((with_reducible apply s_eqDL); k_here; k_here)
  | ((with_reducible apply s_neDL); k_here; k_here))
local macro_rules | `(tactic| k_sweep) => `(tactic| repeat (first | with_reducible apply s_seq | k_one))
local macro_rules | `(tactic| k_spoken) => `(tactic| repeat k_one)
local macro_rules | `(tactic| k_node) => `(tactic| ((with_reducible apply s_seq); k_spoken))
local macro_rules | `(tactic| k_splitN) => `(tactic| repeat' (first | with_reducible apply s_seq | k_one | (apply s_iteD <;> intro _)))
local macro_rules | `(tactic| k_drop) => `(tactic| first | exact List.Sublist.slnil | (apply List.Sublist.cons₂; k_drop) | (apply List.Sublist.append (List.Sublist.refl _); k_drop) | exact List.Sublist.refl _ | exact List.sublist_append_left _ _ | (apply List.Sublist.cons; k_drop) | (refine List.Sublist.trans ?_ (List.sublist_append_right _ _); k_drop) | exact List.nil_sublist _)
local macro_rules | `(tactic| k_lenW) => `(tactic| first | (apply len_app; k_lenW; k_lenW) | (apply len_cut; k_lenW) | exact Nat.le_refl _)
local macro_rules | `(tactic| k_few) => `(tactic| (apply Nat.le_trans; (apply Nat.add_le_add; k_lenW; k_lenW); (focus (simp only [List.length_cons, List.length_nil, List.length_append, List.length_map, List.length_replicate, sizeLine_eq]; omega))))
local macro_rules | `(tactic| k_few) => `(tactic| (apply Nat.le_trans; (apply Nat.add_le_add; k_lenW; k_lenW); (focus (simp only [madeL_len, List.length_cons, List.length_nil, List.length_append, List.length_map, List.length_replicate, sizeLine_eq]; omega))))
local macro_rules | `(tactic| k_few) => `(tactic| (focus (simp only [madeL_len, List.length_cons, List.length_nil, List.length_map, List.length_append, List.length_replicate, sizeLine_eq]; omega)))
local macro_rules | `(tactic| k_one) => `(tactic| ((with_reducible apply s_made); assumption; k_here; k_few; intro _ _ _ _ _))
local macro_rules | `(tactic| k_one) => `(tactic| ((with_reducible apply s_kind); k_here; k_few))
local macro_rules | `(tactic| k_one) => `(tactic| ((with_reducible apply s_taken); assumption; k_data; assumption; assumption; k_few; (intro _ _ _ _ _ _ hq _; have hq2 := hq _ (by k_get); clear hq)))
local macro_rules | `(tactic| k_one) => `(tactic| ((with_reducible apply s_alikeI); assumption; intro _ _ _))
local macro_rules | `(tactic| k_one) => `(tactic| ((with_reducible apply s_alikeL); assumption; k_here; k_here; k_few; intro _ _ _))
local macro_rules | `(tactic| k_one) => `(tactic| ((with_reducible apply s_law_kind); k_here; k_few))
local macro_rules | `(tactic| k_one) => `(tactic| ((with_reducible apply s_law_block); assumption; k_data; assumption; assumption; (intro _ _ _ _ _ _ _ _ _ _ _ _ _ hq; have hq2 := hq _ (by k_get); clear hq)))
section
variable {P : Program} {w : World} {K : PySem.W.Frag} {mg : Str → Option Value} {base : Heap} {Z : Ad}
theorem ok_made {f : Addr} {fd : FuncData} (F : Fun K "made" "made" st_made f fd) (T : Txt K mg Z)  : FnOk P w K mg base CX0 1 f fd ["number", "floor", "begin", "left", "data"] (sp_made K Z) := by
  refine F.ok sc_made (fun vs H Q E h => ?_) (fun cdv A outer s H vs Q E hr h => ?_)
  · obtain ⟨_, _, _, _, _, _, rfl, _⟩ := h
    rfl
  obtain ⟨n, f, b, l, a, ds, rfl, ha, hz, k⟩ := h
  have hS := Hs.startI (Holds.one ha)
  refine ⟨_, (pss_one (ps_ret (pe_lst (pa_cons (pv 0) (pa_cons (pv 1) (pa_cons (pv 2) (pa_cons (pv 3) (pa_starK (K := K) (pv 4) (pa_cons (pv 0) pa_nil))))))))), ?_⟩
  refine s_start (by simp only [L2.start, List.map_cons, List.map_nil, List.length_cons, List.length_nil, Nat.reduceAdd, Nat.reduceSub, List.replicate, List.cons_append, List.nil_append]; rfl) ?_
  have e : ((madeL n f b l ds).map V.int) = .int n :: .int f :: .int b :: .int l :: (ds.map V.int ++ [.int n]) := by simp [madeL]
  rw [e] at k
  k_sweep
  exact k.end_ (by assumption) (by assumption) (by assumption) (by k_here)
theorem ok_kind {f : Addr} {fd : FuncData} (F : Fun K "kind" "kind" st_kind f fd) (T : Txt K mg Z)  : FnOk P w K mg base CX0 1 f fd ["words", "place", "many"] (sp_kind K Z) := by
  refine F.ok sc_kind (fun vs H Q E h => ?_) (fun cdv A outer s H vs Q E hr h => ?_)
  · obtain ⟨_, _, _, _, _, _, _, _, _, _, _, rfl, _⟩ := h
    rfl
  obtain ⟨a, w0, w1, w2, w3, w4, w5, w6, w7, p, m, rfl, ha, hm, k⟩ := h
  refine ⟨_, (pss_cons (ps_par (i := 3) (j := 4) (by rfl) sc_kind.nd rfl rfl (by decide) rfl rfl (pa_cons (pe_ix (ix_listK (K := K)) (pv 0) pe_int (fun _ _ => rfl)) (pa_cons (pe_ix (ix_listK (K := K)) (pv 0) (pe_un un_neg pe_int) (fun _ _ => rfl)) pa_nil)) (by rfl))
      (pss_cons (ps_if (PW.pt (pw_and (pt_cmpR op_eq (pv 3) pe_int (nomark _)) (pw_and1 (pt_cmpR op_eq (pv 4) pe_int (nomark _))))) (pss_one (ps_ret pe_str)) pss_nil)
      (pss_cons (ps_if (PW.pt (pw_and (pt_cmpR op_eq (pv 3) (pv 4) (nomark _)) (pw_and (pt_cmpR op_ge (pv 3) (pv 2) (nomark _)) (pw_and1 (pt_cmpR op_eq (pe_op op_mod (pv 3) (pv 2)) (pv 1) (nomark _)))))) (pss_one (ps_ret pe_str)) pss_nil)
      (pss_one (ps_ret pe_str))))), ?_⟩
  refine s_start (by simp only [L2.start, List.map_cons, List.map_nil, List.length_cons, List.length_nil, Nat.reduceAdd, Nat.reduceSub, List.replicate, List.cons_append, List.nil_append]; rfl) ?_
  unfold kindS at k
  k_splitN
  all_goals first
    | (rw [if_pos (by omega)] at k; exact k)
    | (rw [if_neg (by omega), if_pos (by omega)] at k; exact k)
    | (rw [if_neg (by omega), if_neg (by omega)] at k; exact k)
theorem ok_law_taken {f : Addr} {fd : FuncData} (F : Fun K "_law_taken" "_law_taken" st_law_taken f fd) (T : Txt K mg Z)  : FnOk P w K mg base CX0 1 f fd ["_law_row", "_law_many"] (sp_law_taken K Z) := by
  refine F.ok sc_law_taken (fun vs H Q E h => ?_) (fun cdv A outer s H vs Q E hr h => ?_)
  · obtain ⟨_, _, _, _, _, _, rfl, _⟩ := h
    rfl
  obtain ⟨r, sc, o, ns, S, n, rfl, hH, ⟨i, m, hi, rfl⟩, hs, hn, k⟩ := h
  have hS := Hs.start1 hH
  refine ⟨_, (pss_cons (ps_asg (pe_op op_add (pe_ix (ix_listK (K := K)) (pv 0) pe_int (fun _ _ => rfl)) pe_int) (pg_sub (pv 0) pe_int set_list))
      (pss_cons (ps_if (pt_cmpR op_gt (pe_ix (ix_listK (K := K)) (pv 0) pe_int (fun _ _ => rfl)) (pe_callB (call_lenK (K := K)) (by rfl) T.m_len (by decide +kernel) (pa_cons (pe_ix (ix_listK (K := K)) (pv 0) pe_int (fun _ _ => rfl)) pa_nil)) (nomark _)) (pss_cons (ps_asg (pe_op op_mod (pe_op op_add (pe_op op_mul (pe_ix (ix_listK (K := K)) (pv 0) pe_int (fun _ _ => rfl)) pe_int) pe_int) pe_int) (pg_sub (pv 0) pe_int set_list))
      (pss_one (ps_ret (pe_op op_mod (pe_op op_fdiv (pe_ix (ix_listK (K := K)) (pv 0) pe_int (fun _ _ => rfl)) pe_int) (pv 1))))) pss_nil)
      (pss_cons (ps_set (i := 2) sc_law_taken.nd rfl (Or.inl rfl) (pe_ix (ix_listK (K := K)) (pe_ix (ix_listK (K := K)) (pv 0) pe_int (fun _ _ => rfl)) (pe_op op_sub (pe_ix (ix_listK (K := K)) (pv 0) pe_int (fun _ _ => rfl)) pe_int) (fun _ _ => rfl)))
      (pss_cons (ps_asg (pe_op op_mod (pe_op op_add (pe_op op_add (pe_op op_mul (pe_ix (ix_listK (K := K)) (pv 0) pe_int (fun _ _ => rfl)) pe_int) (pv 2)) pe_int) pe_int) (pg_sub (pv 0) pe_int set_list))
      (pss_one (ps_ret (pe_op op_mod (pv 2) (pv 1)))))))), ?_⟩
  refine s_start (by simp only [L2.start, List.map_cons, List.map_nil, List.length_cons, List.length_nil, Nat.reduceAdd, Nat.reduceSub, List.replicate, List.cons_append, List.nil_append]; rfl) ?_
  k_sweep
  apply s_iteD
  · intro c
    k_sweep
    exact k _ _ _ (Int.emod_nonneg _ (by omega)) (Int.emod_lt_of_pos _ hn) (Hs.up (by assumption)) (by k_here) ⟨_, _, by omega, rfl⟩
  · intro c
    rw [List.length_map] at c
    obtain ⟨v, hv⟩ : ∃ v, atI (ns.map V.int) (i + 1 - 1) = some (V.int v) := atI_ints (by omega) (by omega)
    k_sweep
    exact k _ _ _ (Int.emod_nonneg _ (by omega)) (Int.emod_lt_of_pos _ hn) (Hs.up (by assumption)) (by k_here) ⟨_, _, by omega, rfl⟩
theorem ok_law_alike {n : Nat} {f : Addr} {fd : FuncData} (F : Fun K "_law_alike" "_law_alike" st_law_alike f fd) (T : Txt K mg Z) (D_law_alike : DefOk P w K mg base CX0 n "_law_alike" ["_law_found", "_law_due"] (sp_law_alike K Z n)) : FnOk P w K mg base CX0 (n + 1) f fd ["_law_found", "_law_due"] (sp_law_alike K Z (n + 1)) := by
  refine F.ok sc_law_alike (fun vs H Q E h => ?_) (fun cdv A outer s H vs Q E hr h => ?_)
  · obtain ⟨_, _, _, rfl, _⟩ := h
    rfl
  obtain ⟨x, y, d, rfl, hx, hy, hsh, k⟩ := h
  have hS : Hs [] H H [] [] := Hs.start0
  refine ⟨_, (pss_cons (ps_if (PW.pt (pw_or (pt_val (pe_callB (call_isiK' (K := K)) (by rfl) T.m_isinstance (by decide +kernel) (pa_cons (pv 1) (pa_cons (pe_bltn (v := .ty "tuple") (by rfl) T.m_tuple (by decide +kernel) rfl) pa_nil)))) (pw_or1 (pt_val (pe_callB (call_isiK' (K := K)) (by rfl) T.m_isinstance (by decide +kernel) (pa_cons (pv 1) (pa_cons (pe_bltn (v := .ty "list") (by rfl) T.m_list (by decide +kernel) rfl) pa_nil))))))) (pss_cons (ps_if (PW.pt (pw_or (pt_cmpR op_ne (pe_callB (call_isiK' (K := K)) (by rfl) T.m_isinstance (by decide +kernel) (pa_cons (pv 0) (pa_cons (pe_bltn (v := .ty "tuple") (by rfl) T.m_tuple (by decide +kernel) rfl) pa_nil))) (pe_callB (call_isiK' (K := K)) (by rfl) T.m_isinstance (by decide +kernel) (pa_cons (pv 1) (pa_cons (pe_bltn (v := .ty "tuple") (by rfl) T.m_tuple (by decide +kernel) rfl) pa_nil))) (nomark _)) (pw_or1 (pt_not (pt_val (pe_callB (call_isiTK (K := K)) (by rfl) T.m_isinstance (by decide +kernel) (pa_cons (pv 0) (pa_cons (pe_tup (pa_cons (pe_bltn (v := .ty "tuple") (by rfl) T.m_tuple (by decide +kernel) rfl) (pa_cons (pe_bltn (v := .ty "list") (by rfl) T.m_list (by decide +kernel) rfl) pa_nil))) pa_nil)))))))) (pss_one (ps_ret pe_bl)) pss_nil)
      (pss_cons (ps_if (pt_cmpR op_ne (pe_callB (call_lenK (K := K)) (by rfl) T.m_len (by decide +kernel) (pa_cons (pv 0) pa_nil)) (pe_callB (call_lenK (K := K)) (by rfl) T.m_len (by decide +kernel) (pa_cons (pv 1) pa_nil)) (nomark _)) (pss_one (ps_ret pe_bl)) pss_nil)
      (pss_one (ps_ret (pe_cmpR (op_eqDK (K := K) hr.units) (pe_lc (own := [("_law_k", 2)]) (g := gName 2) (by rfl) sc_law_alike.nd (pi_range1 rfl T.m_range (pa_cons (pe_callB (call_lenK (K := K)) (by rfl) T.m_len (by decide +kernel) (pa_cons (pv 1) pa_nil)) pa_nil)) (blkOk_by (N := ["_law_found", "_law_due", "_law_k"]) (sc := defScope st_law_alike) (by decide +kernel)) (fun _ _ _ _ _ => pg_name (i := 2) sc_law_alike.nd rfl (Or.inl rfl)) (fun _ _ _ _ _ => (pts_one (pt_not (pt_val (pe_callD D_law_alike hr (by rfl) pass0 (pa_cons (pe_ix (ix_anyK (K := K)) (pv 0) (pv 2) (fun _ _ => rfl)) (pa_cons (pe_ix (ix_anyK (K := K)) (pv 1) (pv 2) (fun _ _ => rfl)) pa_nil))))))) (fun _ _ _ _ _ => (pv 2))) (pe_lst pa_nil) (nomark _)))))) pss_nil)
      (pss_cons (ps_if (PW.pt (pw_or (pt_cmpR op_isN' (pv 1) pe_non (nomark _)) (pw_or1 (pt_cmpR op_isN' (pv 0) pe_non (nomark _))))) (pss_one (ps_ret (pe_and (pe_cmpR op_isN' (pv 1) pe_non (nomark _)) (pe_one (pe_cmpR op_isN' (pv 0) pe_non (nomark _)))))) pss_nil)
      (pss_cons (ps_if (PW.pt (pw_or (pt_val (pe_callB (call_isiK' (K := K)) (by rfl) T.m_isinstance (by decide +kernel) (pa_cons (pv 1) (pa_cons (pe_bltn (v := .ty "bool") (by rfl) T.m_bool (by decide +kernel) rfl) pa_nil)))) (pw_or1 (pt_val (pe_callB (call_isiK' (K := K)) (by rfl) T.m_isinstance (by decide +kernel) (pa_cons (pv 0) (pa_cons (pe_bltn (v := .ty "bool") (by rfl) T.m_bool (by decide +kernel) rfl) pa_nil))))))) (pss_one (ps_ret (pe_and (pe_callB (call_isiK' (K := K)) (by rfl) T.m_isinstance (by decide +kernel) (pa_cons (pv 1) (pa_cons (pe_bltn (v := .ty "bool") (by rfl) T.m_bool (by decide +kernel) rfl) pa_nil))) (pe_and (pe_callB (call_isiK' (K := K)) (by rfl) T.m_isinstance (by decide +kernel) (pa_cons (pv 0) (pa_cons (pe_bltn (v := .ty "bool") (by rfl) T.m_bool (by decide +kernel) rfl) pa_nil))) (pe_one (pe_cmpR op_eq (pv 0) (pv 1) (nomark _))))))) pss_nil)
      (pss_cons (ps_if (pt_val (pe_callB (call_isiK' (K := K)) (by rfl) T.m_isinstance (by decide +kernel) (pa_cons (pv 1) (pa_cons (pe_bltn (v := .ty "str") (by rfl) T.m_str (by decide +kernel) rfl) pa_nil)))) (pss_one (ps_ret (pe_and (pe_callB (call_isiK' (K := K)) (by rfl) T.m_isinstance (by decide +kernel) (pa_cons (pv 0) (pa_cons (pe_bltn (v := .ty "str") (by rfl) T.m_str (by decide +kernel) rfl) pa_nil))) (pe_one (pe_cmpR op_eq (pv 0) (pv 1) (nomark _)))))) pss_nil)
      (pss_one (ps_ret (pe_and (pe_callB (call_isiK' (K := K)) (by rfl) T.m_isinstance (by decide +kernel) (pa_cons (pv 0) (pa_cons (pe_bltn (v := .ty "int") (by rfl) T.m_int (by decide +kernel) rfl) pa_nil))) (pe_one (pe_cmpR op_eq (pv 0) (pv 1) (nomark _)))))))))), ?_⟩
  refine s_start (by simp only [L2.start, List.map_cons, List.map_nil, List.length_cons, List.length_nil, Nat.reduceAdd, Nat.reduceSub, List.replicate, List.cons_append, List.nil_append]; rfl) ?_
  cases hsh with
  | non =>
    cases hx
    cases hy
    k_sweep
    exact k _ (Hs.up (by assumption))
  | bl b =>
    cases hx
    cases hy
    k_sweep
    try rw [decide_eq_true rfl]
    exact k _ (Hs.up (by assumption))
  | int i =>
    cases hx
    cases hy
    k_sweep
    try rw [decide_eq_true rfl]
    exact k _ (Hs.up (by assumption))
  | str i =>
    cases hx
    cases hy
    k_sweep
    try rw [decide_eq_true rfl]
    exact k _ (Hs.up (by assumption))
  | @lst _ ds hl ha =>
    cases hx with
    | @lst a1 xs _ sx ax =>
      cases hy with
      | @lst a2 ys _ sy ay =>
        have hlx := DpAll.len ax
        have hly := DpAll.len ay
        k_sweep
        refine f_lcR fun D hD => ⟨fun _ H' => ∃ M, Hs [] H H' ((D, .lst []) :: M) [], ⟨_, Hs.new (by assumption) hD _⟩, ?_, ?_⟩
        · rintro i H2 hi ⟨M2, hS2⟩
          obtain ⟨d', hd'⟩ : ∃ d', ds[i]? = some d' := ⟨ds[i]'(by omega), List.getElem?_eq_getElem _⟩
          obtain ⟨v1, e1, p1⟩ := DpAll.get ax hd'
          obtain ⟨v2, e2, p2⟩ := DpAll.get ay hd'
          have a1 : atI xs (0 + (i : Int)) = some v1 := by rw [Int.zero_add]; exact atI_nat e1
          have a2 : atI ys (0 + (i : Int)) = some v2 := by rw [Int.zero_add]; exact atI_nat e2
          k_sweep
          refine ⟨v1, v2, d', rfl, Dp.same hS2.up.same p1, Dp.same hS2.up.same p2, ha _ (List.mem_of_getElem? hd'), fun H3 u => ?_⟩
          k_sweep
          exact ⟨_, hS2.call0 u⟩
        · rintro H2 ⟨M2, hS2⟩
          k_sweep
          exact k _ (Hs.up (by assumption))
  | @tup _ ds hl ha =>
    cases hx with
    | @tup a1 xs _ sx ax =>
      cases hy with
      | @tup a2 ys _ sy ay =>
        have hlx := DpAll.len ax
        have hly := DpAll.len ay
        k_sweep
        refine f_lcR fun D hD => ⟨fun _ H' => ∃ M, Hs [] H H' ((D, .lst []) :: M) [], ⟨_, Hs.new (by assumption) hD _⟩, ?_, ?_⟩
        · rintro i H2 hi ⟨M2, hS2⟩
          obtain ⟨d', hd'⟩ : ∃ d', ds[i]? = some d' := ⟨ds[i]'(by omega), List.getElem?_eq_getElem _⟩
          obtain ⟨v1, e1, p1⟩ := DpAll.get ax hd'
          obtain ⟨v2, e2, p2⟩ := DpAll.get ay hd'
          have a1 : atI xs (0 + (i : Int)) = some v1 := by rw [Int.zero_add]; exact atI_nat e1
          have a2 : atI ys (0 + (i : Int)) = some v2 := by rw [Int.zero_add]; exact atI_nat e2
          k_sweep
          refine ⟨v1, v2, d', rfl, Dp.same hS2.up.same p1, Dp.same hS2.up.same p2, ha _ (List.mem_of_getElem? hd'), fun H3 u => ?_⟩
          k_sweep
          exact ⟨_, hS2.call0 u⟩
        · rintro H2 ⟨M2, hS2⟩
          k_sweep
          exact k _ (Hs.up (by assumption))
theorem ok_law_kind {f : Addr} {fd : FuncData} (F : Fun K "_law_kind" "_law_kind" st_law_kind f fd) (T : Txt K mg Z)  : FnOk P w K mg base CX0 1 f fd ["_law_words", "_law_place", "_law_many"] (sp_law_kind K Z) := by
  refine F.ok sc_law_kind (fun vs H Q E h => ?_) (fun cdv A outer s H vs Q E hr h => ?_)
  · obtain ⟨_, _, _, _, _, _, _, _, _, _, _, rfl, _⟩ := h
    rfl
  obtain ⟨a, w0, w1, w2, w3, w4, w5, w6, w7, p, m, rfl, ha, hm, k⟩ := h
  refine ⟨_, (pss_cons (ps_if (pt_cmpR op_ne (pe_ix (ix_listK (K := K)) (pv 0) pe_int (fun _ _ => rfl)) (pe_ix (ix_listK (K := K)) (pv 0) pe_int (fun _ _ => rfl)) (nomark _)) (pss_one (ps_ret pe_str)) pss_nil)
      (pss_cons (ps_if (pt_cmpR op_eq (pe_ix (ix_listK (K := K)) (pv 0) pe_int (fun _ _ => rfl)) pe_int (nomark _)) (pss_one (ps_ret pe_str)) pss_nil)
      (pss_one (ps_ret (pe_ifExp (PW.pt (pw_and (pt_cmpR op_ge (pe_ix (ix_listK (K := K)) (pv 0) pe_int (fun _ _ => rfl)) (pv 2) (nomark _)) (pw_and1 (pt_cmpR op_eq (pe_op op_mod (pe_ix (ix_listK (K := K)) (pv 0) pe_int (fun _ _ => rfl)) (pv 2)) (pv 1) (nomark _))))) pe_str pe_str))))), ?_⟩
  refine s_start (by simp only [L2.start, List.map_cons, List.map_nil, List.length_cons, List.length_nil, Nat.reduceAdd, Nat.reduceSub, List.replicate, List.cons_append, List.nil_append]; rfl) ?_
  unfold kindS at k
  k_splitN
  all_goals first
    | (rw [if_pos (by omega)] at k; exact k)
    | (rw [if_neg (by omega), if_pos (by omega)] at k; exact k)
    | (rw [if_neg (by omega), if_neg (by omega)] at k; exact k)
theorem ok_law_block {f : Addr} {fd : FuncData} (F : Fun K "_law_block" "_law_block" st_law_block f fd) (T : Txt K mg Z) (D_law_taken : DefOk P w K mg base CX0 1 "_law_taken" ["_law_row", "_law_many"] (sp_law_taken K Z)) : FnOk P w K mg base CX0 2 f fd ["_law_row", "_law_number"] (sp_law_block K Z) := by
  refine F.ok sc_law_block (fun vs H Q E h => ?_) (fun cdv A outer s H vs Q E hr h => ?_)
  · obtain ⟨_, _, _, _, _, _, rfl, _⟩ := h
    rfl
  obtain ⟨r, sc, o, ns, S, n, rfl, hH, ro, hs, k⟩ := h
  have hS := Hs.start1 hH
  refine ⟨_, (pss_cons (ps_setLc (i := 2) (own := [("_law_k", 6)]) (g := gName 6) (by rfl) sc_law_block.nd rfl rfl (sw_true rfl rfl rfl (by decide +kernel)) (pi_range1 rfl T.m_range (pa_cons pe_int pa_nil)) (blkOk_by (N := ["_law_row", "_law_number", "_law_data", "_law_floor", "_law_begin", "_law_left", "_law_k"]) (sc := defScope st_law_block) (by decide +kernel)) (fun _ _ _ _ _ => pg_name (i := 6) sc_law_block.nd rfl (Or.inl rfl)) (fun _ _ _ _ _ => pts_nil) (fun _ _ _ _ _ => (pe_callD D_law_taken hr (by rfl) pass0 (pa_cons (pv 0) (pa_cons pe_int pa_nil)))))
      (pss_cons (ps_set (i := 3) sc_law_block.nd rfl (Or.inl rfl) (pe_callB (call_max2' rfl) (by rfl) T.m_max (by decide +kernel) (pa_cons pe_int (pa_cons (pe_op op_sub (pe_op op_sub (pv 1) pe_int) (pe_callD D_law_taken hr (by rfl) pass0 (pa_cons (pv 0) (pa_cons pe_int pa_nil)))) pa_nil))))
      (pss_cons (ps_set (i := 4) sc_law_block.nd rfl (Or.inl rfl) (pe_ix (ix_listK (K := K)) (pe_lst (pa_cons pe_int (pa_cons (pe_callB (call_max2' rfl) (by rfl) T.m_max (by decide +kernel) (pa_cons pe_int (pa_cons (pe_op op_sub (pv 1) (pe_callD D_law_taken hr (by rfl) pass0 (pa_cons (pv 0) (pa_cons pe_int pa_nil)))) pa_nil))) pa_nil))) (pe_callD D_law_taken hr (by rfl) pass0 (pa_cons (pv 0) (pa_cons pe_int pa_nil))) (fun _ _ => rfl)))
      (pss_cons (ps_set (i := 5) sc_law_block.nd rfl (Or.inl rfl) (pe_callD D_law_taken hr (by rfl) pass0 (pa_cons (pv 0) (pa_cons pe_int pa_nil))))
      (pss_one (ps_ret (pe_tup (pa_cons (pe_op op_cat (pe_op op_cat (pe_lst (pa_cons (pv 1) (pa_cons (pv 3) (pa_cons (pv 4) (pa_cons (pv 5) pa_nil))))) (pv 2)) (pe_lst (pa_cons (pv 1) pa_nil))) (pa_cons (pe_tup (pa_cons (pv 3) (pa_cons (pv 4) (pa_cons (pv 5) (pa_cons (pv 2) pa_nil))))) pa_nil))))))))), ?_⟩
  refine s_start (by simp only [L2.start, List.map_cons, List.map_nil, List.length_cons, List.length_nil, Nat.reduceAdd, Nat.reduceSub, List.replicate, List.cons_append, List.nil_append]; rfl) ?_
  k_sweep
  refine f_lcR fun D hD => ⟨fun i H' => ∃ (ds : List Int) (o' : HO), ds.length = i ∧ RowO sc o' ∧ Hs [r] H H' [(D, .lst (ds.map V.int)), (r, o')] S, ⟨[], _, rfl, ro, hS.new hD _⟩, ?_, ?_⟩
  · rintro i H2 hi ⟨ds, o2, hl, ro2, hS2⟩
    k_sweep
    refine ⟨ds ++ [_], _, by rw [List.length_append, hl]; rfl, ?_, by rw [List.map_append]; assumption⟩
    assumption
  · rintro H2 ⟨ds, o2, hl, ro2, hS2⟩
    obtain ⟨d0, d1, d2, rfl⟩ : ∃ d0 d1 d2, ds = [d0, d1, d2] := match ds, hl with | [d0, d1, d2], _ => ⟨d0, d1, d2, rfl⟩
    k_sweep
    apply s_ixPick
    k_here
    assumption
    assumption
    intro x hx
    obtain ⟨b, rfl⟩ : ∃ b, x = V.int b := by
      simp only [List.mem_cons, List.not_mem_nil, or_false] at hx
      rcases hx with rfl | rfl <;> exact ⟨_, rfl⟩
    k_sweep
    apply k
    rotate_left
    refine Hs.sub (by assumption) ?_
    k_drop
    assumption
theorem ok_law {f : Addr} {fd : FuncData} (F : Fun K "law" "law" st_law f fd) (T : Txt K mg Z) (D_made : DefOk P w K mg base CX0 1 "made" ["number", "floor", "begin", "left", "data"] (sp_made K Z)) (D_kind : DefOk P w K mg base CX0 1 "kind" ["words", "place", "many"] (sp_kind K Z)) (D_law_taken : DefOk P w K mg base CX0 1 "_law_taken" ["_law_row", "_law_many"] (sp_law_taken K Z)) (D_law_alike : DefOk P w K mg base CX0 6 "_law_alike" ["_law_found", "_law_due"] (sp_law_alike K Z 6)) (D_law_kind : DefOk P w K mg base CX0 1 "_law_kind" ["_law_words", "_law_place", "_law_many"] (sp_law_kind K Z)) (D_law_block : DefOk P w K mg base CX0 2 "_law_block" ["_law_row", "_law_number"] (sp_law_block K Z)) : FnOk P w K mg base CX0 7 f fd ["_law_script"] (sp_law K Z) := by
  refine F.ok sc_law (fun vs H Q E h => ?_) (fun cdv A outer s H vs Q E hr h => ?_)
  · obtain ⟨_, _, rfl, _⟩ := h
    rfl
  obtain ⟨sc, ns, rfl, hs0, hz, k⟩ := h
  obtain ⟨S, hsc, hS0⟩ := ScrL.of hs0
  have hS := Hs.startI hS0
  refine ⟨_, (pss_cons (ps_set (i := 1) sc_law.nd rfl (Or.inl rfl) (pe_lst (pa_cons (pv 0) (pa_cons pe_int (pa_cons pe_int pa_nil)))))
      (pss_cons (ps_for PassesOwn.never rfl (pi_range1 rfl T.m_range (pa_cons pe_int pa_nil)) (pg_name (i := 2) sc_law.nd rfl (Or.inl rfl))
      (pss_cons (ps_set (i := 3) sc_law.nd rfl (Or.inl rfl) (pe_op op_add pe_int (pe_callD D_law_taken hr (by rfl) pass0 (pa_cons (pv 1) (pa_cons pe_int pa_nil)))))
      (pss_cons (ps_set (i := 4) sc_law.nd rfl (Or.inl rfl) (pe_callD D_law_taken hr (by rfl) pass0 (pa_cons (pv 1) (pa_cons (pv 3) pa_nil))))
      (pss_cons (ps_set (i := 5) sc_law.nd rfl (Or.inl rfl) (pe_op op_add (pv 4) (pe_op op_mul (pv 3) (pe_ix (ix_listK (K := K)) (pe_lst (pa_cons (pe_callD D_law_taken hr (by rfl) pass0 (pa_cons (pv 1) (pa_cons pe_int pa_nil))) (pa_cons (pe_callD D_law_taken hr (by rfl) pass0 (pa_cons (pv 1) (pa_cons pe_int pa_nil))) pa_nil))) (pe_callD D_law_taken hr (by rfl) pass0 (pa_cons (pv 1) (pa_cons pe_int pa_nil))) (fun _ _ => rfl)))))
      (pss_cons (ps_asg (pe_callD D_law_block hr (by rfl) pass0 (pa_cons (pv 1) (pa_cons (pv 5) pa_nil))) (pg_tupK (K := K) rfl (pgs_cons (pg_name (i := 6) sc_law.nd rfl (Or.inl rfl)) (pgs_cons (pg_name (i := 7) sc_law.nd rfl (Or.inl rfl)) pgs_nil))))
      (pss_cons (ps_asg (pv 7) (pg_tupK (K := K) rfl (pgs_cons (pg_name (i := 8) sc_law.nd rfl (Or.inl rfl)) (pgs_cons (pg_name (i := 9) sc_law.nd rfl (Or.inl rfl)) (pgs_cons (pg_name (i := 10) sc_law.nd rfl (Or.inl rfl)) (pgs_cons (pg_name (i := 11) sc_law.nd rfl (Or.inl rfl)) pgs_nil))))))
      (pss_cons (ps_set (i := 12) sc_law.nd rfl (Or.inl rfl) (pe_callTy (call_listOfK (K := K)) (by rfl) T.m_list (by decide +kernel) (pa_cons (pv 11) pa_nil)))
      (pss_cons (ps_set (i := 13) sc_law.nd rfl (Or.inl rfl) (pe_callD D_made hr (by rfl) pass0 (pa_cons (pv 5) (pa_cons (pv 8) (pa_cons (pv 9) (pa_cons (pv 10) (pa_cons (pv 12) pa_nil)))))))
      (pss_cons (ps_if (PW.pt (pw_or (pt_not (pt_val (pe_callD D_law_alike hr (by rfl) pass0 (pa_cons (pv 13) (pa_cons (pv 6) pa_nil))))) (pw_or1 (pt_cmpR (op_neDK (K := K) hr.units) (pv 12) (pv 11) (nomark _))))) (pss_one (ps_ret pe_bl)) pss_nil)
      (pss_cons (ps_expr (pe_bm0K (K := K) PySem.F.plainAttrs_list PySem.F.slot_list_clear PySem.F.type_list_clear mt_clear (pv 13)))
      (pss_cons (ps_set (i := 14) sc_law.nd rfl (Or.inl rfl) (pe_ix (ix_listK (K := K)) (pe_lst (pa_cons (pe_op op_rep (pe_lst (pa_cons pe_int pa_nil)) pe_int) (pa_cons (pe_ix (ix_tupK (K := K)) (pe_callD D_law_block hr (by rfl) pass0 (pa_cons (pv 1) (pa_cons (pe_callB (call_max2' rfl) (by rfl) T.m_max (by decide +kernel) (pa_cons pe_int (pa_cons (pe_op op_sub (pv 5) (pv 3)) pa_nil))) pa_nil))) pe_int (fun _ _ => rfl)) pa_nil))) (pe_callD D_law_taken hr (by rfl) pass0 (pa_cons (pv 1) (pa_cons pe_int pa_nil))) (fun _ _ => rfl)))
      (pss_cons (ps_set (i := 15) sc_law.nd rfl (Or.inl rfl) (pe_callD D_law_taken hr (by rfl) pass0 (pa_cons (pv 1) (pa_cons pe_int pa_nil))))
      (pss_cons (ps_set (i := 16) sc_law.nd rfl (Or.inl rfl) (pe_op op_cat (pe_slice (sl_listK (K := K)) (pv 6) po_none (po_some (pv 15))) (pe_slice (sl_listK (K := K)) (pv 14) (po_some (pv 15)) po_none)))
      (pss_cons (ps_for PassesOwn.never rfl (pi_listK (K := K) (pe_lst (pa_cons (pv 6) (pa_cons (pv 14) (pa_cons (pv 16) (pa_cons (pe_op op_cat (pe_op op_cat (pe_lst (pa_cons (pe_op op_add (pv 5) pe_int) pa_nil)) (pe_slice (sl_listK (K := K)) (pv 6) (po_some pe_int) (po_some pe_int))) (pe_lst (pa_cons (pe_op op_add (pv 5) pe_int) pa_nil))) pa_nil)))))) (pg_name (i := 17) sc_law.nd rfl (Or.inl rfl))
      (pss_one (ps_for PassesOwn.never rfl (pi_listK (K := K) (pe_lst (pa_cons (pv 4) (pa_cons (pe_callD D_law_taken hr (by rfl) pass0 (pa_cons (pv 1) (pa_cons (pv 3) pa_nil))) pa_nil)))) (pg_name (i := 18) sc_law.nd rfl (Or.inl rfl))
      (pss_one (ps_if (pt_cmpR op_ne (pe_callD D_kind hr (by rfl) pass0 (pa_cons (pe_callTy (call_listOfK (K := K)) (by rfl) T.m_list (by decide +kernel) (pa_cons (pv 17) pa_nil)) (pa_cons (pv 18) (pa_cons (pv 3) pa_nil)))) (pe_callD D_law_kind hr (by rfl) pass0 (pa_cons (pv 17) (pa_cons (pv 18) (pa_cons (pv 3) pa_nil)))) (nomark _)) (pss_one (ps_ret pe_bl)) pss_nil)))))
      (pss_one (ps_if (pt_not (pt_val (pe_callD D_law_alike hr (by rfl) pass0 (pa_cons (pe_callD D_made hr (by rfl) pass0 (pa_cons (pv 5) (pa_cons (pv 8) (pa_cons (pv 9) (pa_cons (pv 10) (pa_cons (pv 11) pa_nil)))))) (pa_cons (pv 6) pa_nil))))) (pss_one (ps_ret pe_bl)) pss_nil))))))))))))))))
      (pss_one (ps_ret pe_bl)))), ?_⟩
  refine s_start (by simp only [L2.start, List.map_cons, List.map_nil, List.length_cons, List.length_nil, Nat.reduceAdd, Nat.reduceSub, List.replicate, List.cons_append, List.nil_append]; rfl) ?_
  k_sweep
  rename_i r H1 hS1 _ _
  have ro1 : RowO sc (.lst [.ref sc, .int 0, .int 0]) := ⟨0, 0, Int.le_refl 0, rfl⟩
  refine f_range (fun i σ H' => ∃ o x2 x3 x4 x5 x6 x7 x8 x9 x10 x11 x12 x13 x14 x15 x16 x17 x18, σ = [some (.ref sc), some (.ref r), x2, x3, x4, x5, x6, x7, x8, x9, x10, x11, x12, x13, x14, x15, x16, x17, x18] ∧ RowO sc o ∧ Hs [] H H' [(r, o)] S)
    ⟨_, _, _, _, _, _, _, _, _, _, _, _, _, _, _, _, _, _, rfl, ro1, hS1⟩ ?_ ?_
  · rintro i σ H2 hi ⟨o, x2, x3, x4, x5, x6, x7, x8, x9, x10, x11, x12, x13, x14, x15, x16, x17, x18, rfl, ro, hS2⟩
    k_spoken
    k_node
    rename_i m0 o1 H3 hm0 hm1 ro1 _ hS3
    k_node
    rename_i pl o2 H4 hp0 hp1 ro2 _ hS4
    k_node
    apply s_ixPick
    k_here
    assumption
    assumption
    intro x hx
    obtain ⟨b, rfl⟩ : ∃ b, x = V.int b := by
      simp only [List.mem_cons, List.not_mem_nil, or_false] at hx
      rcases hx with rfl | rfl <;> exact ⟨_, rfl⟩
    k_spoken
    generalize pl + (4 + m0) * b = n
    k_node
    rename_i o5 f bg l d0 d1 d2 a c t u H6 ro5 hS6
    k_node
    k_node
    rename_i hd _ _ _ _
    k_node
    rename_i fd' _ _ _ _
    k_node
    k_node
    rename_i H8 hS8' _
    have hS8 : Hs [] H H8 [(a, .lst ((madeL n f bg l [d0, d1, d2]).map V.int)), (c, .lst ([d0, d1, d2].map V.int)), (r, o5)] S := Hs.sub hS8' (by k_drop)
    clear hS8'
    k_node
    apply s_ixPick
    k_here
    assumption
    assumption
    intro x hx
    rename_i o6 H9 _ _ ro6 _ hS9
    obtain ⟨q, ws, hw, rfl, hS10⟩ : ∃ (q : Addr) (ws : List Int), ws.length = 8 ∧ x = .ref q ∧ Hs [] H H9 [(q, .lst (ws.map V.int)), (a, .lst ((madeL n f bg l [d0, d1, d2]).map V.int)), (c, .lst ([d0, d1, d2].map V.int)), (r, o6)] S := by
      simp only [List.mem_cons, List.not_mem_nil, or_false] at hx
      rcases hx with rfl | rfl
      · refine ⟨_, _, ?_, rfl, Hs.sub hS9 (by k_drop)⟩
        simp
      · refine ⟨_, _, ?_, rfl, Hs.sub hS9 (by k_drop)⟩
        simp [madeL]
    clear hS9
    obtain ⟨z0, z1, z2, z3, z4, z5, z6, z7, rfl⟩ := eight hw
    k_spoken
    k_node
    rename_i pt o7 H10 hpt0 hpt1 ro7 _ hS11
    k_node
    rename_i mx H11 hS12' _ _
    obtain ⟨e0, e1, e2, e3, e4, e5, e6, e7, he⟩ := mix8 (ws := madeL n f bg l [d0, d1, d2]) (zs := [z0, z1, z2, z3, z4, z5, z6, z7]) (p := pt) (by simp [madeL]) rfl hpt0 (by omega)
    rw [he] at hS12'
    have hS12 : Hs [] H H11 [(mx, .lst [.int e0, .int e1, .int e2, .int e3, .int e4, .int e5, .int e6, .int e7]), (q, .lst ([z0, z1, z2, z3, z4, z5, z6, z7].map V.int)), (a, .lst ((madeL n f bg l [d0, d1, d2]).map V.int)), (c, .lst ([d0, d1, d2].map V.int)), (r, o7)] S := Hs.sub hS12' (by k_drop)
    clear hS12'
    k_node
    rename_i ex _ _ _ _ L H12 hS13' _ _
    have hc : cutV ((madeL n f bg l [d0, d1, d2]).map V.int) (some 1) (some 7) = [.int f, .int bg, .int l, .int d0, .int d1, .int d2] := rfl
    rw [hc] at hS13'
    have hS13 : Hs [] H H12 [(L, .lst [.ref a, .ref q, .ref mx, .ref ex]), (ex, .lst [.int (n + 1), .int f, .int bg, .int l, .int d0, .int d1, .int d2, .int (n + 1)]), (mx, .lst [.int e0, .int e1, .int e2, .int e3, .int e4, .int e5, .int e6, .int e7]), (q, .lst ([z0, z1, z2, z3, z4, z5, z6, z7].map V.int)), (a, .lst ((madeL n f bg l [d0, d1, d2]).map V.int)), (c, .lst ([d0, d1, d2].map V.int)), (r, o7)] S := Hs.sub hS13' (by k_drop)
    clear hS13'
    refine f_list (xs := [.ref a, .ref q, .ref mx, .ref ex]) (fun _ σ H' => ∃ o x17 x18, σ = [some (.ref sc), some (.ref r), some (.int (0 + (i : Int))), some (.int (4 + m0)), some (.int pl), some (.int n), some (.ref a), some (.ref u), some (.int f), some (.int bg), some (.int l), some (.ref c), some (.ref hd), some (.ref fd'), some (.ref q), some (.int pt), some (.ref mx), x17, x18] ∧ RowO sc o ∧
        Hs [] H H' [(L, .lst [.ref a, .ref q, .ref mx, .ref ex]), (ex, .lst [.int (n + 1), .int f, .int bg, .int l, .int d0, .int d1, .int d2, .int (n + 1)]), (mx, .lst [.int e0, .int e1, .int e2, .int e3, .int e4, .int e5, .int e6, .int e7]), (q, .lst ([z0, z1, z2, z3, z4, z5, z6, z7].map V.int)), (a, .lst ((madeL n f bg l [d0, d1, d2]).map V.int)), (c, .lst ([d0, d1, d2].map V.int)), (r, o)] S) ⟨_, _, _, rfl, ro7, hS13⟩ ?_ ?_ ?_
    · rintro _ _ H' _ ⟨o, x17, x18, _, _, hS⟩
      exact SqL.of (hS.getM (by k_data))
    · rintro j y σ H13 hy ⟨o, x17, x18, rfl, ro, hS14⟩
      have hy' := List.mem_of_getElem? hy
      simp only [List.mem_cons, List.not_mem_nil, or_false] at hy'
      obtain ⟨y', w0, w1, w2, w3, w4, w5, w6, w7, rfl, hm⟩ : ∃ (y' : Addr) (w0 w1 w2 w3 w4 w5 w6 w7 : Int), y = .ref y' ∧ ∀ o : HO, (y', HO.lst [.int w0, .int w1, .int w2, .int w3, .int w4, .int w5, .int w6, .int w7]) ∈ ([(L, .lst [.ref a, .ref q, .ref mx, .ref ex]), (ex, .lst [.int (n + 1), .int f, .int bg, .int l, .int d0, .int d1, .int d2, .int (n + 1)]), (mx, .lst [.int e0, .int e1, .int e2, .int e3, .int e4, .int e5, .int e6, .int e7]), (q, .lst ([z0, z1, z2, z3, z4, z5, z6, z7].map V.int)), (a, .lst ((madeL n f bg l [d0, d1, d2]).map V.int)), (c, .lst ([d0, d1, d2].map V.int)), (r, o)] : List (Addr × HO)) := by
        rcases hy' with rfl | rfl | rfl | rfl
        · exact ⟨_, _, _, _, _, _, _, _, _, rfl, fun o => .tail _ (.tail _ (.tail _ (.tail _ (.head _))))⟩
        · exact ⟨_, _, _, _, _, _, _, _, _, rfl, fun o => .tail _ (.tail _ (.tail _ (.head _)))⟩
        · exact ⟨_, _, _, _, _, _, _, _, _, rfl, fun o => .tail _ (.tail _ (.head _))⟩
        · exact ⟨_, _, _, _, _, _, _, _, _, rfl, fun o => .tail _ (.head _)⟩
      k_spoken
      rename_i v o8 _ _ _ ro8 _ _ L2 H14 hS15 _ _
      have hm8 := hm o8
      refine f_list (xs := [.int pl, .int v]) (fun _ σ H' => ∃ x18, σ = [some (.ref sc), some (.ref r), some (.int (0 + (i : Int))), some (.int (4 + m0)), some (.int pl), some (.int n), some (.ref a), some (.ref u), some (.int f), some (.int bg), some (.int l), some (.ref c), some (.ref hd), some (.ref fd'), some (.ref q), some (.int pt), some (.ref mx), some (.ref y'), x18] ∧
          Hs [] H H' [(L2, .lst [.int pl, .int v]), (L, .lst [.ref a, .ref q, .ref mx, .ref ex]), (ex, .lst [.int (n + 1), .int f, .int bg, .int l, .int d0, .int d1, .int d2, .int (n + 1)]), (mx, .lst [.int e0, .int e1, .int e2, .int e3, .int e4, .int e5, .int e6, .int e7]), (q, .lst ([z0, z1, z2, z3, z4, z5, z6, z7].map V.int)), (a, .lst ((madeL n f bg l [d0, d1, d2]).map V.int)), (c, .lst ([d0, d1, d2].map V.int)), (r, o8)] S) ⟨_, rfl, hS15⟩ ?_ ?_ ?_
      · rintro _ _ H' _ ⟨x18, _, hS⟩
        exact SqL.of (hS.getM (by k_data))
      · rintro j2 y2 σ H15 hy2 ⟨x18, rfl, hS16⟩
        obtain ⟨t2, rfl⟩ : ∃ t2, y2 = V.int t2 := by
          have hy2' := List.mem_of_getElem? hy2
          simp only [List.mem_cons, List.not_mem_nil, or_false] at hy2'
          rcases hy2' with rfl | rfl <;> exact ⟨_, rfl⟩
        k_spoken
        exact ⟨_, rfl, Hs.sub (by assumption) (by k_drop)⟩
      · rintro σ H15 ⟨x18, rfl, hS16⟩
        exact ⟨_, _, _, rfl, ro8, Hs.sub hS16 (by k_drop)⟩
    · rintro σ H13 ⟨o, x17, x18, rfl, ro, hS14⟩
      k_sweep
      exact ⟨_, _, _, _, _, _, _, _, _, _, _, _, _, _, _, _, _, _, rfl, ro, Hs.sub (by assumption) (by k_drop)⟩
  · rintro σ H2 ⟨o, x2, x3, x4, x5, x6, x7, x8, x9, x10, x11, x12, x13, x14, x15, x16, x17, x18, rfl, ro, hS2⟩
    k_sweep
    exact k _
end

def Z0 : Ad := ⟨()⟩
theorem all_mk {l : PySem.W.OpenLaw} {w : World} {K : PySem.W.Frag} {h : Heap} {mg : Str → Option Value} {fa f0 f1 f2 f3 f4 f5 f6 : Addr} (X : K.In h) (G : h.Ns mainGlobals mg) (hfa : mg "law" = some (.ref fa)) {od0 an0 od1 an1 od2 an2 od3 an3 od4 an4 od5 an5 od6 an6 : Option Addr} {sl0 sl1 sl2 sl3 sl4 sl5 sl6 : Array (Option Value)} {oc0 kV0 dc0 pm0 cd0 ct0 oc1 kV1 dc1 pm1 cd1 ct1 oc2 kV2 dc2 pm2 cd2 ct2 oc3 kV3 dc3 pm3 cd3 ct3 oc4 kV4 dc4 pm4 cd4 ct4 oc5 kV5 dc5 pm5 cd5 ct5 oc6 kV6 dc6 pm6 cd6 ct6 : Value}
    (a0 : PySem.W.nsIn K mainGlobals "made" = some (some (.ref f0)))
    (l0 : K.lookup f0 = some ⟨oc0, od0, .func (PySem.W.fnOf "made" "made" (defArgs st_made) (defBody st_made) (defScope st_made) .none kV0 dc0 pm0 an0 cd0 ct0), sl0⟩)
    (c0 : PySem.W.codeIn K cd0 "made" = true)
    (k0 : PySem.W.keepIn K (.ref f0) = true)
    (a1 : PySem.W.nsIn K mainGlobals "kind" = some (some (.ref f1)))
    (l1 : K.lookup f1 = some ⟨oc1, od1, .func (PySem.W.fnOf "kind" "kind" (defArgs st_kind) (defBody st_kind) (defScope st_kind) .none kV1 dc1 pm1 an1 cd1 ct1), sl1⟩)
    (c1 : PySem.W.codeIn K cd1 "kind" = true)
    (k1 : PySem.W.keepIn K (.ref f1) = true)
    (a2 : PySem.W.nsIn K mainGlobals "_law_taken" = some (some (.ref f2)))
    (l2 : K.lookup f2 = some ⟨oc2, od2, .func (PySem.W.fnOf "_law_taken" "_law_taken" (defArgs st_law_taken) (defBody st_law_taken) (defScope st_law_taken) .none kV2 dc2 pm2 an2 cd2 ct2), sl2⟩)
    (c2 : PySem.W.codeIn K cd2 "_law_taken" = true)
    (k2 : PySem.W.keepIn K (.ref f2) = true)
    (a3 : PySem.W.nsIn K mainGlobals "_law_alike" = some (some (.ref f3)))
    (l3 : K.lookup f3 = some ⟨oc3, od3, .func (PySem.W.fnOf "_law_alike" "_law_alike" (defArgs st_law_alike) (defBody st_law_alike) (defScope st_law_alike) .none kV3 dc3 pm3 an3 cd3 ct3), sl3⟩)
    (c3 : PySem.W.codeIn K cd3 "_law_alike" = true)
    (k3 : PySem.W.keepIn K (.ref f3) = true)
    (a4 : PySem.W.nsIn K mainGlobals "_law_kind" = some (some (.ref f4)))
    (l4 : K.lookup f4 = some ⟨oc4, od4, .func (PySem.W.fnOf "_law_kind" "_law_kind" (defArgs st_law_kind) (defBody st_law_kind) (defScope st_law_kind) .none kV4 dc4 pm4 an4 cd4 ct4), sl4⟩)
    (c4 : PySem.W.codeIn K cd4 "_law_kind" = true)
    (k4 : PySem.W.keepIn K (.ref f4) = true)
    (a5 : PySem.W.nsIn K mainGlobals "_law_block" = some (some (.ref f5)))
    (l5 : K.lookup f5 = some ⟨oc5, od5, .func (PySem.W.fnOf "_law_block" "_law_block" (defArgs st_law_block) (defBody st_law_block) (defScope st_law_block) .none kV5 dc5 pm5 an5 cd5 ct5), sl5⟩)
    (c5 : PySem.W.codeIn K cd5 "_law_block" = true)
    (k5 : PySem.W.keepIn K (.ref f5) = true)
    (a6 : PySem.W.nsIn K mainGlobals "law" = some (some (.ref f6)))
    (l6 : K.lookup f6 = some ⟨oc6, od6, .func (PySem.W.fnOf "law" "law" (defArgs st_law) (defBody st_law) (defScope st_law) .none kV6 dc6 pm6 an6 cd6 ct6), sl6⟩)
    (c6 : PySem.W.codeIn K cd6 "law" = true)
    (k6 : PySem.W.keepIn K (.ref f6) = true)
    (z_bool : PySem.W.nsIn K mainGlobals "bool" = some none)
    (z_int : PySem.W.nsIn K mainGlobals "int" = some none)
    (z_isinstance : PySem.W.nsIn K mainGlobals "isinstance" = some none)
    (z_len : PySem.W.nsIn K mainGlobals "len" = some none)
    (z_list : PySem.W.nsIn K mainGlobals "list" = some none)
    (z_max : PySem.W.nsIn K mainGlobals "max" = some none)
    (z_range : PySem.W.nsIn K mainGlobals "range" = some none)
    (z_str : PySem.W.nsIn K mainGlobals "str" = some none)
    (z_tuple : PySem.W.nsIn K mainGlobals "tuple" = some none) :
    ∃ fd : FuncData, (∀ (s : Shared) (v : Value), BindsTo s fd ⟨[v], []⟩ [("_law_script", v)]) ∧ ∀ base : Heap, K.In base → base.Ns mainGlobals mg → FnOk l.prog w K mg base CX0 7 fa fd ["_law_script"] (sp_law K Z0) := by
  have e := hfa.symm.trans (PySem.W.mg_of X G a6)
  cases e
  have T : Txt K mg ⟨()⟩ := { ok_ := trivial, m_bool := PySem.W.mg_none_of X G z_bool, m_int := PySem.W.mg_none_of X G z_int, m_isinstance := PySem.W.mg_none_of X G z_isinstance, m_len := PySem.W.mg_none_of X G z_len, m_list := PySem.W.mg_none_of X G z_list, m_max := PySem.W.mg_none_of X G z_max, m_range := PySem.W.mg_none_of X G z_range, m_str := PySem.W.mg_none_of X G z_str, m_tuple := PySem.W.mg_none_of X G z_tuple }
  have F0 := fun_mk (st := st_made) l0 c0 k0
  have b0 := F0.binds (ps := ["number", "floor", "begin", "left", "data"]) fun _ _ _ _ _ _ us hl => match us, hl with | [_, _, _, _, _], _ => rfl
  have F1 := fun_mk (st := st_kind) l1 c1 k1
  have b1 := F1.binds (ps := ["words", "place", "many"]) fun _ _ _ _ _ _ us hl => match us, hl with | [_, _, _], _ => rfl
  have F2 := fun_mk (st := st_law_taken) l2 c2 k2
  have b2 := F2.binds (ps := ["_law_row", "_law_many"]) fun _ _ _ _ _ _ us hl => match us, hl with | [_, _], _ => rfl
  have F3 := fun_mk (st := st_law_alike) l3 c3 k3
  have b3 := F3.binds (ps := ["_law_found", "_law_due"]) fun _ _ _ _ _ _ us hl => match us, hl with | [_, _], _ => rfl
  have F4 := fun_mk (st := st_law_kind) l4 c4 k4
  have b4 := F4.binds (ps := ["_law_words", "_law_place", "_law_many"]) fun _ _ _ _ _ _ us hl => match us, hl with | [_, _, _], _ => rfl
  have F5 := fun_mk (st := st_law_block) l5 c5 k5
  have b5 := F5.binds (ps := ["_law_row", "_law_number"]) fun _ _ _ _ _ _ us hl => match us, hl with | [_, _], _ => rfl
  have F6 := fun_mk (st := st_law) l6 c6 k6
  refine ⟨PySem.W.fnOf "law" "law" (defArgs st_law) (defBody st_law) (defScope st_law) .none kV6 dc6 pm6 an6 cd6 ct6, fun s v => .of_eq rfl, fun base _ _ => ?_⟩
  have D_made : DefOk l.prog w K mg base CX0 1 "made" ["number", "floor", "begin", "left", "data"] (sp_made K ⟨()⟩) := ⟨f0, _, ok_made F0 T , b0, k0, PySem.W.mg_of X G a0⟩
  have D_kind : DefOk l.prog w K mg base CX0 1 "kind" ["words", "place", "many"] (sp_kind K ⟨()⟩) := ⟨f1, _, ok_kind F1 T , b1, k1, PySem.W.mg_of X G a1⟩
  have D_law_taken : DefOk l.prog w K mg base CX0 1 "_law_taken" ["_law_row", "_law_many"] (sp_law_taken K ⟨()⟩) := ⟨f2, _, ok_law_taken F2 T , b2, k2, PySem.W.mg_of X G a2⟩
  have R_law_alike : ∀ n : Nat, DefOk l.prog w K mg base CX0 n "_law_alike" ["_law_found", "_law_due"] (sp_law_alike K ⟨()⟩ n) := fun n => by
    induction n with
    | zero => exact ⟨f3, _, none_left no_law_alike, b3, k3, PySem.W.mg_of X G a3⟩
    | succ n ih => exact ⟨f3, _, ok_law_alike F3 T ih, b3, k3, PySem.W.mg_of X G a3⟩
  have D_law_alike := R_law_alike 6
  have D_law_kind : DefOk l.prog w K mg base CX0 1 "_law_kind" ["_law_words", "_law_place", "_law_many"] (sp_law_kind K ⟨()⟩) := ⟨f4, _, ok_law_kind F4 T , b4, k4, PySem.W.mg_of X G a4⟩
  have D_law_block : DefOk l.prog w K mg base CX0 2 "_law_block" ["_law_row", "_law_number"] (sp_law_block K ⟨()⟩) := ⟨f5, _, ok_law_block F5 T D_law_taken, b5, k5, PySem.W.mg_of X G a5⟩
  have q := ok_law (P := l.prog) (w := w) (base := base) F6 T D_made D_kind D_law_taken D_law_alike D_law_kind D_law_block
  exact q
theorem walk {l : PySem.W.OpenLaw} {q : Program} {loose : List Str} {XP : (Str → Option Value) → Heap → Prop} {YP : World → Heap → Prop} {d : DefRec} {K : Params → PySem.W.Frag} (hn : l.most = some 63) (hdf : d.params.defaults = [])
    (hY : ∀ (w : World) (h : Heap), YP w h → (K w.params).In h)
    (F : ∀ (w : World) (mg : Str → Option Value) (fa : Addr) (h : Heap), (K w.params).In h → h.Ns mainGlobals mg → mg d.name = some (.ref fa) →
      ∃ fd : FuncData, (∀ (s : Shared) (u : Value), BindsTo s fd ⟨[u], []⟩ [("_law_script", u)]) ∧ ∀ base : Heap, (K w.params).In base → base.Ns mainGlobals mg → FnOk l.prog w (K w.params) mg base CX0 7 fa fd ["_law_script"] (sp_law (K w.params) Z0)) :
    PySem.W.WalkO q loose XP YP l.row.toRowW d [] (fun f vs => PySem.call f vs) :=
  L2.walk_of (n := 63) (k := 7) (x := "_law_script") (CX := fun _ => CX0) (sp := fun w => sp_law (K w.params) Z0) hn (by decide) hdf ⟨rfl, by decide, by decide⟩ hY F (fun _ _ a ns hl _ hS => ⟨a, ns, rfl, hS, hl, fun _ => rfl⟩) fun _ _ _ _ _ z => z
end RL
open PySem PySem.W PyProof.Rows in
set_option maxRecDepth 100000 in
set_option maxHeartbeats 0 in
theorem PySem.Challenge.cw_ringlog_k03_kinds_of_blocks_holds : PySem.Challenge.rw_ringlog_k03_kinds_of_blocks.Holds := by
  w_on; o_law; k_head; (case hw => w_witness2)
  k_fill
  refine RL.walk (l := PySem.Challenge.rw_ringlog_k03_kinds_of_blocks) rfl rfl (fun w h Y => PySem.W.kIn_of Y) ?F
  case F =>
    intro w mg fa h KX G hmg
    refine' RL.all_mk KX G hmg ?a0 ?l0 ?c0 ?k0 ?a1 ?l1 ?c1 ?k1 ?a2 ?l2 ?c2 ?k2 ?a3 ?l3 ?c3 ?k3 ?a4 ?l4 ?c4 ?k4 ?a5 ?l5 ?c5 ?k5 ?a6 ?l6 ?c6 ?k6 ?z_bool ?z_int ?z_isinstance ?z_len ?z_list ?z_max ?z_range ?z_str ?z_tuple
    (case a0 => k_is)
    (case l0 => k_is)
    (case c0 => k_is)
    (case k0 => k_is)
    (case a1 => k_is)
    (case l1 => k_is)
    (case c1 => k_is)
    (case k1 => k_is)
    (case a2 => k_is)
    (case l2 => k_is)
    (case c2 => k_is)
    (case k2 => k_is)
    (case a3 => k_is)
    (case l3 => k_is)
    (case c3 => k_is)
    (case k3 => k_is)
    (case a4 => k_is)
    (case l4 => k_is)
    (case c4 => k_is)
    (case k4 => k_is)
    (case a5 => k_is)
    (case l5 => k_is)
    (case c5 => k_is)
    (case k5 => k_is)
    (case a6 => k_is)
    (case l6 => k_is)
    (case c6 => k_is)
    (case k6 => k_is)
    (case z_bool => k_is)
    (case z_int => k_is)
    (case z_isinstance => k_is)
    (case z_len => k_is)
    (case z_list => k_is)
    (case z_max => k_is)
    (case z_range => k_is)
    (case z_str => k_is)
    (case z_tuple => k_is)

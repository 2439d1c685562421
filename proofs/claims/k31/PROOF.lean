import PyProof.Rows.All
import Wide.All
import OpenK.AllK
import Wide.FinOn
import HandS.ForMost
import HandS.TupAny
import HandS.Evl
import HandS.IsInst
import HandS.Walk
import PySem.Challenge.RW_likeboughs_k31_sizes_by_name
set_option Elab.async false
set_option linter.all false
set_option maxRecDepth 1000000
set_option maxHeartbeats 4000000
/-! data in the heap, seen through what is owned -/
namespace Lx
open PySem L2 Evl

/-- the heap without what is owned -/
def Lo (S : List Addr) (H : Hp) : Hp := fun b => if b ∈ S then none else H b
def Dom (S : List Addr) (H : Hp) : Prop := ∀ b, b ∈ S → H b ≠ none
theorem lo_in {S : List Addr} {H : Hp} {b : Addr} (h : b ∈ S) : Lo S H b = none := if_pos h
theorem lo_out {S : List Addr} {H : Hp} {b : Addr} (h : ¬ b ∈ S) : Lo S H b = H b := if_neg h
theorem lo_nil {H : Hp} : Lo [] H = H := by
  funext b
  exact lo_out (by simp)
theorem lo_ex {S : List Addr} {H H' : Hp} (e : Ex H H') : Ex (Lo S H) (Lo S H') := fun a o h => by
  by_cases hm : a ∈ S
  · rw [lo_in hm] at h
    cases h
  · rw [lo_out hm] at h ⊢
    exact e a o h
theorem lo_sub {S : List Addr} {H : Hp} : Ex (Lo S H) H := fun a o h => by
  by_cases hm : a ∈ S
  · rw [lo_in hm] at h
    cases h
  · rw [lo_out hm] at h
    exact h
theorem lo_anti {S T : List Addr} {H : Hp} (hs : ∀ b, b ∈ S → b ∈ T) : Ex (Lo T H) (Lo S H) := fun a o h => by
  by_cases hm : a ∈ T
  · rw [lo_in hm] at h
    cases h
  · rw [lo_out hm] at h
    rw [lo_out (fun z => hm (hs a z))]
    exact h
theorem lo_upd_in {S : List Addr} {H : Hp} {p : Addr} {o : HO} (h : p ∈ S) : Lo S (upd H p o) = Lo S H := by
  funext b
  by_cases hm : b ∈ S
  · rw [lo_in hm, lo_in hm]
  · rw [lo_out hm, lo_out hm, upd_ne (fun z => hm (by rw [z]; exact h))]
theorem lo_upd_out {S : List Addr} {H : Hp} {p : Addr} {o : HO} (h : ¬ p ∈ S) : Lo S (upd H p o) = upd (Lo S H) p o := by
  funext b
  by_cases hb : b = p
  · subst hb
    rw [lo_out h, upd_same, upd_same]
  · by_cases hm : b ∈ S
    · rw [lo_in hm, upd_ne hb, lo_in hm]
    · rw [lo_out hm, upd_ne hb, upd_ne hb, lo_out hm]
theorem Dom.ex {S : List Addr} {H H' : Hp} (d : Dom S H) (e : Ex H H') : Dom S H' := fun b hb n => by
  cases h : H b with
  | none => exact d b hb h
  | some o =>
    rw [e b o h] at n
    cases n
theorem Dom.out {S : List Addr} {H : Hp} {p : Addr} (d : Dom S H) (h : H p = none) : ¬ p ∈ S := fun m => d p m h
theorem Dom.upd {S : List Addr} {H : Hp} {p : Addr} {o : HO} (d : Dom S H) : Dom S (upd H p o) := fun b hb n => by
  by_cases e : b = p
  · subst e
    rw [upd_same] at n
    cases n
  · rw [upd_ne e] at n
    exact d b hb n
theorem Dom.cons {S : List Addr} {H : Hp} {p : Addr} {o : HO} (d : Dom S H) (h : H p = some o) : Dom (p :: S) H := fun b hb n => by
  rcases List.mem_cons.mp hb with e | m
  · rw [e, h] at n
    cases n
  · exact d b m n
theorem Dom.nil {H : Hp} : Dom [] H := fun b hb => by simp at hb
/-- only what is owned changes, all else grows -/
theorem ex_upd {S : List Addr} {H H' : Hp} {p : Addr} {o : HO} (hp : p ∈ S) (e : Ex (Lo S H) (Lo S H')) : Ex (Lo S H) (Lo S (upd H' p o)) := by
  rw [lo_upd_in hp]
  exact e

def keyD : Key → PyData
  | .inl i => .int i
  | .inr x => .str x

mutual
/-- v stands for the datum -/
def Rp (K : PySem.W.Frag) (H : Hp) : PyData → V → Prop
  | .none, v => v = .non
  | .bool b, v => v = .bl b
  | .int i, v => v = .int i
  | .str x, v => v = .str x
  | .list ds, v => ∃ a xs, v = .ref a ∧ SqL K H a xs ∧ RpL K H ds xs
  | .tuple ds, v => ∃ a xs, v = .ref a ∧ SqT K H a xs ∧ RpL K H ds xs
  | .dict ds, v => ∃ a kvs, v = .ref a ∧ Rd H a (.dK kvs) ∧ RpD K H ds kvs
def RpL (K : PySem.W.Frag) (H : Hp) : List PyData → List V → Prop
  | [], xs => xs = []
  | d :: ds, xs => ∃ v vs, xs = v :: vs ∧ Rp K H d v ∧ RpL K H ds vs
def RpD (K : PySem.W.Frag) (H : Hp) : List (PyData × PyData) → List (Key × V) → Prop
  | [], kvs => kvs = []
  | (d, e) :: ds, kvs => ∃ k v r, kvs = (k, v) :: r ∧ d = keyD k ∧ Rp K H e v ∧ RpD K H ds r
end
section
variable {K : PySem.W.Frag} {H H' : Hp}
/-- what can be read in H can be read in H' -/
structure Rx (H H' : Hp) : Prop where
  ls : ∀ a xs, Rd H a (.lst xs) → Rd H' a (.lst xs)
  ts : ∀ a xs, Rd H a (.tup xs) → Rd H' a (.tup xs)
  ks : ∀ a kvs, Rd H a (.dK kvs) → Rd H' a (.dK kvs)
theorem Rx.of {H H' : Hp} (e : Ex H H') : Rx H H' := ⟨fun _ _ h => ex_rd e h, fun _ _ h => ex_rd e h, fun _ _ h => ex_rd e h⟩
theorem Rx.trans {H H1 H2 : Hp} (a : Rx H H1) (b : Rx H1 H2) : Rx H H2 := ⟨fun x y h => b.ls x y (a.ls x y h), fun x y h => b.ts x y (a.ts x y h), fun x y h => b.ks x y (a.ks x y h)⟩
theorem Rx.l {H H' : Hp} (e : Rx H H') {a : Addr} {xs : List V} (h : SqL K H a xs) : SqL K H' a xs := h.elim (fun h => .inl (e.ls a _ h)) .inr
theorem Rx.t {H H' : Hp} (e : Rx H H') {a : Addr} {xs : List V} (h : SqT K H a xs) : SqT K H' a xs := h.elim (fun h => .inl (e.ts a _ h)) .inr
/-- a lock laid on, a lock taken off -/
theorem rx_lock {H : Hp} {p : Addr} {o : Obj} {u : HO} (h : H p = some u) (hu : ∀ o w, u ≠ .frz o w) : Rx H (upd H p (.frz o u)) := by
  have one : ∀ a v, (∀ o w, v ≠ HO.frz o w) → Rd H a v → Rd (upd H p (.frz o u)) a v := fun a v hv r => by
    by_cases e : a = p
    · subst e
      rcases r with r | ⟨o', r⟩
      · rw [h] at r
        cases r
        exact Or.inr ⟨o, upd_same⟩
      · rw [h] at r
        cases r
        exact absurd rfl (hu _ _)
    · rcases r with r | ⟨o', r⟩
      · exact Or.inl (by rw [upd_ne e]; exact r)
      · exact Or.inr ⟨o', by rw [upd_ne e]; exact r⟩
  exact ⟨fun a xs r => one a _ (fun _ _ z => nomatch z) r, fun a xs r => one a _ (fun _ _ z => nomatch z) r, fun a xs r => one a _ (fun _ _ z => nomatch z) r⟩
theorem rx_free {H : Hp} {p : Addr} {o : Obj} {u : HO} (h : H p = some (.frz o u)) : Rx H (upd H p u) := by
  have one : ∀ a v, (∀ o w, v ≠ HO.frz o w) → Rd H a v → Rd (upd H p u) a v := fun a v hv r => by
    by_cases e : a = p
    · subst e
      rcases r with r | ⟨o', r⟩
      · rw [h] at r
        cases r
        exact absurd rfl (hv _ _)
      · rw [h] at r
        cases r
        exact Or.inl upd_same
    · rcases r with r | ⟨o', r⟩
      · exact Or.inl (by rw [upd_ne e]; exact r)
      · exact Or.inr ⟨o', by rw [upd_ne e]; exact r⟩
  exact ⟨fun a xs r => one a _ (fun _ _ z => nomatch z) r, fun a xs r => one a _ (fun _ _ z => nomatch z) r, fun a xs r => one a _ (fun _ _ z => nomatch z) r⟩
mutual
theorem rp_rx (e : Rx H H') : ∀ (d : PyData) (v : V), Rp K H d v → Rp K H' d v
  | .none, _, h => h
  | .bool _, _, h => h
  | .int _, _, h => h
  | .str _, _, h => h
  | .list ds, _, h => by
    obtain ⟨a, xs, hv, hs, hl⟩ := h
    exact ⟨a, xs, hv, e.l hs, rpL_rx e ds xs hl⟩
  | .tuple ds, _, h => by
    obtain ⟨a, xs, hv, hs, hl⟩ := h
    exact ⟨a, xs, hv, e.t hs, rpL_rx e ds xs hl⟩
  | .dict ds, _, h => by
    obtain ⟨a, kvs, hv, hs, hl⟩ := h
    exact ⟨a, kvs, hv, e.ks a _ hs, rpD_rx e ds kvs hl⟩
theorem rpL_rx (e : Rx H H') : ∀ (ds : List PyData) (xs : List V), RpL K H ds xs → RpL K H' ds xs
  | [], _, h => h
  | d :: ds, _, h => by
    obtain ⟨v, vs, hx, hv, hl⟩ := h
    exact ⟨v, vs, hx, rp_rx e d v hv, rpL_rx e ds vs hl⟩
theorem rpD_rx (e : Rx H H') : ∀ (ds : List (PyData × PyData)) (kvs : List (Key × V)), RpD K H ds kvs → RpD K H' ds kvs
  | [], _, h => h
  | (d, d') :: ds, _, h => by
    obtain ⟨k, v, r, hx, hk, hv, hl⟩ := h
    exact ⟨k, v, r, hx, hk, rp_rx e d' v hv, rpD_rx e ds r hl⟩
end
theorem Rp.rx {d : PyData} {v : V} (h : Rp K H d v) (e : Rx H H') : Rp K H' d v := rp_rx e d v h
theorem Rp.ex {d : PyData} {v : V} (h : Rp K H d v) (e : Ex H H') : Rp K H' d v := rp_rx (Rx.of e) d v h
theorem RpL.ex {ds : List PyData} {xs : List V} (h : RpL K H ds xs) (e : Ex H H') : RpL K H' ds xs := rpL_rx (Rx.of e) ds xs h
theorem RpL.rx {ds : List PyData} {xs : List V} (h : RpL K H ds xs) (e : Rx H H') : RpL K H' ds xs := rpL_rx e ds xs h
theorem RpD.ex {ds : List (PyData × PyData)} {kvs : List (Key × V)} (h : RpD K H ds kvs) (e : Ex H H') : RpD K H' ds kvs := rpD_rx (Rx.of e) ds kvs h
theorem RpL.nil : RpL K H [] [] := rfl
theorem RpL.cons {d : PyData} {ds : List PyData} {v : V} {vs : List V} (h : Rp K H d v) (t : RpL K H ds vs) : RpL K H (d :: ds) (v :: vs) := ⟨v, vs, rfl, h, t⟩
theorem RpL.length : ∀ {ds : List PyData} {xs : List V}, RpL K H ds xs → xs.length = ds.length
  | [], _, h => by cases (show _ = [] from h); rfl
  | _ :: ds, _, h => by
    obtain ⟨v, vs, rfl, _, hl⟩ := h
    rw [List.length_cons, List.length_cons, hl.length]
theorem RpL.get : ∀ {ds : List PyData} {xs : List V} {i : Nat} {d : PyData}, RpL K H ds xs → ds[i]? = some d → ∃ v, xs[i]? = some v ∧ Rp K H d v
  | [], _, _, _, _, e => by simp at e
  | _ :: ds, _, 0, d, h, e => by
    obtain ⟨v, vs, rfl, hv, _⟩ := h
    cases (show some _ = some d from e)
    exact ⟨v, rfl, hv⟩
  | _ :: ds, _, i + 1, d, h, e => by
    obtain ⟨v, vs, rfl, _, hl⟩ := h
    exact hl.get (i := i) (d := d) e
theorem RpL.getV : ∀ {ds : List PyData} {xs : List V} {i : Nat} {v : V}, RpL K H ds xs → xs[i]? = some v → ∃ d, ds[i]? = some d ∧ Rp K H d v
  | [], _, i, _, h, e => by cases (show _ = [] from h); simp at e
  | d :: ds, _, 0, v, h, e => by
    obtain ⟨v', vs, rfl, hv, _⟩ := h
    cases (show some v' = some v from e)
    exact ⟨d, rfl, hv⟩
  | _ :: ds, _, i + 1, v, h, e => by
    obtain ⟨v', vs, rfl, _, hl⟩ := h
    exact hl.getV (i := i) (v := v) e
theorem RpL.append : ∀ {ds es : List PyData} {xs ys : List V}, RpL K H ds xs → RpL K H es ys → RpL K H (ds ++ es) (xs ++ ys)
  | [], _, _, _, h, g => by cases (show _ = [] from h); exact g
  | _ :: ds, _, _, _, h, g => by
    obtain ⟨v, vs, rfl, hv, hl⟩ := h
    exact ⟨v, vs ++ _, rfl, hv, hl.append g⟩
theorem RpL.drop : ∀ {ds : List PyData} {xs : List V} (n : Nat), RpL K H ds xs → RpL K H (ds.drop n) (xs.drop n)
  | _, _, 0, h => h
  | [], _, n + 1, h => by cases (show _ = [] from h); exact rfl
  | _ :: ds, _, n + 1, h => by
    obtain ⟨v, vs, rfl, _, hl⟩ := h
    exact hl.drop n
theorem RpL.take : ∀ {ds : List PyData} {xs : List V} (n : Nat), RpL K H ds xs → RpL K H (ds.take n) (xs.take n)
  | _, _, 0, _ => rfl
  | [], _, n + 1, h => by cases (show _ = [] from h); exact rfl
  | _ :: ds, _, n + 1, h => by
    obtain ⟨v, vs, rfl, hv, hl⟩ := h
    exact ⟨v, vs.take n, rfl, hv, hl.take n⟩
theorem RpL.ints : ∀ (ns : List Int), RpL K H (ns.map PyData.int) (ns.map V.int)
  | [] => rfl
  | n :: ns => ⟨_, _, rfl, rfl, RpL.ints ns⟩
theorem Rp.lstD {p : Addr} {xs : List V} {ds : List PyData} (h : H p = some (.lst xs)) (hl : RpL K H ds xs) : Rp K H (.list ds) (.ref p) := ⟨p, xs, rfl, sq_of h, hl⟩
theorem Rp.tupD {p : Addr} {xs : List V} {ds : List PyData} (h : H p = some (.tup xs)) (hl : RpL K H ds xs) : Rp K H (.tuple ds) (.ref p) := ⟨p, xs, rfl, st_of h, hl⟩
end

/-! ### what an expression is worth, as a datum -/
section
variable (K : PySem.W.Frag) (S : List Addr)
def EvD (te : TE) (σ : L2.St) (H : Hp) (d : PyData) : Prop := ∀ H1, Ex H H1 → ∀ Q : VK, (∀ v H2, Ex H1 H2 → Rp K (Lo S H2) d v → Q v H2) → te σ H1 Q
def EvDs (ta : TA) (σ : L2.St) (H : Hp) (ds : List PyData) : Prop := ∀ H1, Ex H H1 → ∀ Q : List V → Hp → Prop, (∀ vs H2, Ex H1 H2 → RpL K (Lo S H2) ds vs → Q vs H2) → ta σ H1 Q
/-- a new list -/
def EvN (te : TE) (σ : L2.St) (H : Hp) (ds : List PyData) : Prop := ∀ H1, Ex H H1 → ∀ Q : VK, (∀ p xs H2, H1 p = none → Ex H1 H2 → H2 p = some (.lst xs) → RpL K (Lo (p :: S) H2) ds xs → Q (.ref p) H2) → te σ H1 Q
end
section
variable {K : PySem.W.Frag} {S : List Addr} {σ : L2.St} {H H' : Hp} {ta tb te tc : TE} {t u : TT} {d : PyData} {ds es : List PyData} {tA : TA}
theorem EvD.mono (e : Ex H H') (h : EvD K S te σ H d) : EvD K S te σ H' d := fun H1 a Q q => h H1 (e.trans a) Q q
theorem EvDs.mono (e : Ex H H') (h : EvDs K S tA σ H ds) : EvDs K S tA σ H' ds := fun H1 a Q q => h H1 (e.trans a) Q q
theorem EvN.mono (e : Ex H H') (h : EvN K S te σ H ds) : EvN K S te σ H' ds := fun H1 a Q q => h H1 (e.trans a) Q q
/-- a new list is a list -/
theorem EvN.dat (hS : Dom S H) (h : EvN K S te σ H ds) : EvD K S te σ H (.list ds) := fun H1 e Q q => h H1 e Q fun p xs H2 hp e2 hx hl =>
  q (.ref p) H2 e2 (Rp.lstD (by rw [lo_out ((hS.ex e).out hp)]; exact hx) (hl.ex (lo_anti fun b hb => List.mem_cons_of_mem _ hb)))
theorem EvD.int {i : Int} (h : EvD K S te σ H (.int i)) : Ev te σ H (.int i) := fun H1 e Q q => h H1 e Q fun v H2 e2 r => by cases (show v = _ from r); exact q H2 e2
theorem EvD.bl {b : Bool} (h : EvD K S te σ H (.bool b)) : Ev te σ H (.bl b) := fun H1 e Q q => h H1 e Q fun v H2 e2 r => by cases (show v = _ from r); exact q H2 e2
theorem EvD.str {x : Str} (h : EvD K S te σ H (.str x)) : Ev te σ H (.str x) := fun H1 e Q q => h H1 e Q fun v H2 e2 r => by cases (show v = _ from r); exact q H2 e2
theorem EvD.non (h : EvD K S te σ H .none) : Ev te σ H .non := fun H1 e Q q => h H1 e Q fun v H2 e2 r => by cases (show v = _ from r); exact q H2 e2
theorem d_of_int {i : Int} (h : Ev te σ H (.int i)) : EvD K S te σ H (.int i) := fun H1 e Q q => h H1 e Q fun H2 e2 => q _ H2 e2 rfl
theorem d_of_bl {b : Bool} (h : Ev te σ H (.bl b)) : EvD K S te σ H (.bool b) := fun H1 e Q q => h H1 e Q fun H2 e2 => q _ H2 e2 rfl
theorem d_of_str {x : Str} (h : Ev te σ H (.str x)) : EvD K S te σ H (.str x) := fun H1 e Q q => h H1 e Q fun H2 e2 => q _ H2 e2 rfl
theorem d_of_non (h : Ev te σ H .non) : EvD K S te σ H .none := fun H1 e Q q => h H1 e Q fun H2 e2 => q _ H2 e2 rfl
theorem d_var {i : Nat} {v : V} (h : σ[i]? = some (some v)) (r : Rp K (Lo S H) d v) : EvD K S (tVar i) σ H d := fun H1 e _ q => ⟨v, h, q v H1 (Ex.refl H1) (r.ex (lo_ex e))⟩
theorem d_int {i : Int} : EvD K S (tC (.int i)) σ H (.int i) := fun H1 _ _ q => q _ H1 (Ex.refl H1) rfl
theorem d_bl {b : Bool} : EvD K S (tC (.bl b)) σ H (.bool b) := fun H1 _ _ q => q _ H1 (Ex.refl H1) rfl
theorem d_str {x : Str} : EvD K S (tC (.str x)) σ H (.str x) := fun H1 _ _ q => q _ H1 (Ex.refl H1) rfl
theorem d_non : EvD K S (tC .non) σ H .none := fun H1 _ _ q => q _ H1 (Ex.refl H1) rfl
theorem a_nil : EvDs K S tNil σ H [] := fun H1 _ _ q => q [] H1 (Ex.refl H1) rfl
theorem a_cons {tr : TA} (h : EvD K S ta σ H d) (hr : EvDs K S tr σ H ds) : EvDs K S (tCons ta tr) σ H (d :: ds) := fun H1 e _ q =>
  h H1 e _ fun v H2 e2 r => hr H2 (e.trans e2) _ fun vs H3 e3 rs => q (v :: vs) H3 (e2.trans e3) ⟨v, vs, rfl, r.ex (lo_ex e3), rs⟩
theorem d_tup (hS : Dom S H) (h : EvDs K S tA σ H ds) (hl : ds.length ≤ 100000) : EvD K S (tTup tA) σ H (.tuple ds) := fun H1 e _ q =>
  h H1 e _ fun vs H2 e2 r => ⟨by rw [r.length]; exact sz_of hl, fun p hp => by
    have ho : ¬ p ∈ S := ((hS.ex e).ex e2).out hp
    refine q (.ref p) _ (e2.trans (Ex.new hp)) (Rp.tupD (xs := vs) (by rw [lo_out ho, upd_same]) (r.ex (lo_ex (Ex.new hp))))⟩
theorem n_lst (hS : Dom S H) (h : EvDs K S tA σ H ds) (hl : ds.length ≤ 100000) : EvN K S (tLst tA) σ H ds := fun H1 e _ q =>
  h H1 e _ fun vs H2 e2 r => ⟨by rw [r.length]; exact sz_of hl, fun p hp => by
    have ho : ¬ p ∈ S := ((hS.ex e).ex e2).out hp
    refine q p vs _ (fresh_back e2 hp) (e2.trans (Ex.new hp)) upd_same ?_
    rw [lo_upd_in (List.mem_cons_self ..)]
    refine r.ex fun a o h => ?_
    have hn : a ≠ p := ne_of_none (lo_sub a o h) hp
    by_cases hm : a ∈ S
    · rw [lo_in hm] at h
      cases h
    · rw [lo_out hm] at h
      rw [lo_out (fun z => (List.mem_cons.mp z).elim hn hm)]
      exact h⟩
end
end Lx
namespace Lx
open PySem L2 Evl
section
variable {K : PySem.W.Frag} {H : Hp} {a b c d : PyData} {vs : List V}
theorem rpL1 (h : RpL K H [a] vs) : ∃ x, vs = [x] ∧ Rp K H a x := by
  obtain ⟨x, r, rfl, hx, h⟩ := h
  cases (show r = [] from h)
  exact ⟨x, rfl, hx⟩
theorem rpL2 (h : RpL K H [a, b] vs) : ∃ x y, vs = [x, y] ∧ Rp K H a x ∧ Rp K H b y := by
  obtain ⟨x, r, rfl, hx, h⟩ := h
  obtain ⟨y, rfl, hy⟩ := rpL1 h
  exact ⟨x, y, rfl, hx, hy⟩
theorem rpL3 (h : RpL K H [a, b, c] vs) : ∃ x y z, vs = [x, y, z] ∧ Rp K H a x ∧ Rp K H b y ∧ Rp K H c z := by
  obtain ⟨x, r, rfl, hx, h⟩ := h
  obtain ⟨y, z, rfl, hy, hz⟩ := rpL2 h
  exact ⟨x, y, z, rfl, hx, hy, hz⟩
theorem rpL4 (h : RpL K H [a, b, c, d] vs) : ∃ x y z u, vs = [x, y, z, u] ∧ Rp K H a x ∧ Rp K H b y ∧ Rp K H c z ∧ Rp K H d u := by
  obtain ⟨x, r, rfl, hx, h⟩ := h
  obtain ⟨y, z, u, rfl, hy, hz, hu⟩ := rpL3 h
  exact ⟨x, y, z, u, rfl, hx, hy, hz, hu⟩
end
end Lx
/-! defs whose callers hold no guard: there repr of data is known -/
namespace Lx
open PySem PySem.Spec PyProof.Rows L2 Evl
section
variable (P : Program) (w : World) (K : PySem.W.Frag) (mg : Str → Option Value) (base : Heap) (CX : CXT)
/-- as a def's promise, entered where no guard is held -/
structure FnG (k : Nat) (f : Addr) (fd : FuncData) (ps : List Str) (sp : Sp) : Prop where
  many : ∀ vs H Q E, sp vs H Q E → vs.length = ps.length
  goes : ∀ (A : Around) (outer : List Env) (s : Shared) (H : Hp) (args : Args) (us : List Value) (vs : List V) (Q : VK) (E : XK),
    A.guards = some [] → Room k A → Env0 P w K mg base A outer s H → BindsTo s fd args (ps.zip us) → Vals vs us → sp vs H Q E → codeAny (model P w) A (.call (.ref f) args) (CR CX outer P w H s Q E) s
end
section
variable {P : Program} {w : World} {K : PySem.W.Frag} {mg : Str → Option Value} {base : Heap} {CX : CXT} {k : Nat} {f : Addr} {fd : FuncData} {ps N : List Str} {sp : Sp} {x qual : Str} {st : Stmt}
theorem FnG.of (F : FnOk P w K mg base CX k f fd ps sp) : FnG P w K mg base CX k f fd ps sp :=
  ⟨F.len, fun A outer s H args us vs Q E _ hr he hb hv hs => F.run A outer s H args us vs Q E hr he hb hv hs⟩
/-- a def of the text, by its body, entered without a guard -/
theorem FnG.mk' (F : Fun K x qual st f fd) (S : FnScope N ps (defScope st)) (len : ∀ vs H Q E, sp vs H Q E → vs.length = ps.length)
    (body : ∀ (cdv : Value) (A : Around) (outer : List Env) (s : Shared) (H : Hp) (vs : List V) (Q : VK) (E : XK), A.guards = some [] → Room k (A.deeper (envOfC qual (defScope st) s.heap.objs.size f cdv)) → sp vs H Q E →
      ∃ t, PSs (cxOf CX P w K mg base N qual (defScope st) f cdv A outer s H E) (defBody st) t ∧ t { nx := fun _ H' => Q .non H', rt := Q } (start N vs) H) : FnG P w K mg base CX (k + 1) f fd ps sp := by
  obtain ⟨oc, od, kV, doc, pm, an, cdv, ct, osl, rfl, lk, hcd⟩ := F.ex
  constructor
  · exact len
  intro A outer s H args us vs Q E hg hr e0 hb r hsp
  have many := len _ _ _ _ hsp
  have keep : ∀ b o, base.get? b = some o → s.heap.get? b = some o := fun b o e => (e0.bs b o e).1
  have kinds : ∀ y, y ∈ ps.zip us → (defScope st).names.lookup y.1 = some .local ∨ ((defScope st).names.lookup y.1 = some .cell ∧ ((cellsFrom (s.heap.objs.size + 1) (defScope st).names []).lookup y.1).isSome = true) := by
    rintro ⟨y, z⟩ hy
    rcases S.par y (List.of_mem_zip hy).1 with q | q
    · exact Or.inl q
    · exact Or.inr ⟨q, PySem.W.cellsFrom_some _ _ _ (Or.inl q)⟩
  refine codeAny_call_function hr.depth ((e0.mod.kin.keeps keep) _ _ lk) rfl S.co S.gen rfl (PySem.W.codeRec_of (e0.mod.kin.keeps keep) hcd) (hb _ _ _ _ ?_)
  refine wpAny_newFunctionEnv_cells S.kind kinds fun env he s1 ic => ?_
  subst he
  constructor
  · exact (e0.mod.nolimit.keeps keep).keeps ic.toInCall.keep
  apply codeAny_func
  obtain ⟨t, ht, hq⟩ := body cdv A outer s H vs Q E hg (hr.deeper _) hsp
  have I : Inv (cxOf CX P w K mg base N qual (defScope st) f cdv A outer s H E) [] (start N vs) H s1 := inv_start S hr.hd e0 many r ic
  refine wpAny_mono (ht.run [] s1 (start N vs) H _ I hq) ?_ (fun _ _ z => z)
  intro fl s' hs
  cases fl with
  | next =>
    obtain ⟨σ', H', J, q⟩ := hs
    exact ⟨V.non, H', J.os, J.bare, J.base, J.hok, rfl, q⟩
  | ret u =>
    obtain ⟨v, σ', H', J, rv, q⟩ := hs
    exact ⟨v, H', J.os, J.bare, J.base, J.hok, rv, q⟩
  | brk => exact False.elim (let ⟨_, _, _, q⟩ := hs; q)
  | cont => exact False.elim (let ⟨_, _, _, q⟩ := hs; q)
/-- nothing is raised out of it -/
theorem FnG.mk0 (F : Fun K x qual st f fd) (S : FnScope N ps (defScope st)) (len : ∀ vs H Q E, sp vs H Q E → vs.length = ps.length)
    (body : ∀ (cdv : Value) (A : Around) (outer : List Env) (s : Shared) (H : Hp) (vs : List V) (Q : VK) (E : XK), A.guards = some [] → Room k (A.deeper (envOfC qual (defScope st) s.heap.objs.size f cdv)) → sp vs H Q E →
      ∃ t, PSs (cxOf CX P w K mg base N qual (defScope st) f cdv A outer s H E).nox (defBody st) t ∧ t { nx := fun _ H' => Q .non H', rt := Q } (start N vs) H) : FnG P w K mg base CX (k + 1) f fd ps sp :=
  FnG.mk' F S len fun cdv A outer s H vs Q E hg hr h => by
    obtain ⟨t, ht, q⟩ := body cdv A outer s H vs Q E hg hr h
    exact ⟨t, ht.nox, q⟩
end

section
variable {X : Cx} {CX : CXT} {k : Nat} {f : Addr} {fd : FuncData} {ps ks : List Str} {sp : Sp} {dvs : List V} {ds : List Value} {E : XK} {x : Str} {p pos : Pos} {e : Expr} {es : List Expr} {t tk : TA} {kws : List Keyword}
/-- f(e, ..), f entered without a guard -/
theorem pe_callG (F : FnG X.prog X.w X.K X.mg X.base CX k f fd ps sp) (gd : X.A.guards = some []) (hr : Room k X.A) (hg : Gl X x) (hm : X.mg x = some (.ref f)) (hk : PySem.W.keepIn X.K (.ref f) = true) (hb : Binds X.K fd ps ds) (hd : Vals dvs ds) (hx : Passes CX X E)
    (ha : PA X (e :: es) t) (hdb : (x == ("__debug__" : Str)) = false := by decide) (he : starEach (e :: es) X.env = (false, eval e X.env) :: starEach es X.env := by rfl) (hpl : (backTo pos (starEach es X.env)).any (·.1) = false := by rfl) :
    PE X (.Call (.Name x p) (e :: es) [] pos) (tCall sp dvs E t) := by
  constructor
  intro pins s σ H Q I h
  refine wpAny_Call_Name_kw (ld_glob I hg hm ?_ hdb)
  refine PySem.W.callWith_K (h₀ := X.base) I.ok.mod.kin hk ?_ he hpl
  refine thn (ha.run pos pins s σ H _ I h) fun us s1 z => ?_
  obtain ⟨vs, H1, I1, r, q⟩ := z
  constructor
  · exact I1.kIn
  have r2 : Vals (vs ++ dvs) (us ++ ds) := r.append hd
  have hl : (us ++ ds).length = ps.length := r2.length.symm.trans (F.many _ _ _ _ q)
  refine wpAny_call (codeAny_mono (F.goes X.A X.stack s1 H1 ⟨us, []⟩ (us ++ ds) (vs ++ dvs) Q E gd hr I1.env0 (hb s1 us I1.kIn hl) r2 q) ?_)
  intro res s' hq
  match res, hq with
  | .error er, hq => exact hx pins σ H1 s1 er s' I1 hq
  | .ok (.ret u), hq => exact I1.after hq
variable {g : List Value → List Value → List Value} {gV : List V → List V → List V}
/-- f(k = v, ..), nothing by position -/
theorem pe_callK0 (F : FnOk X.prog X.w X.K X.mg X.base CX k f fd ps sp) (hr : Room k X.A) (hg : Gl X x) (hm : X.mg x = some (.ref f)) (hk : PySem.W.keepIn X.K (.ref f) = true) (hb : KBinds X.K fd ps ks g gV) (hx : Passes CX X E)
    (hkw : PK X kws tk) (hall : (backToKw pos (keywordEach kws X.env)).all (·.1.isSome) = true := by rfl) (hks : (backToKw pos (keywordEach kws X.env)).filterMap (·.1) = ks := by rfl)
    (hdb : (x == ("__debug__" : Str)) = false := by decide) (hpl : ((backTo pos (starEach [] X.env)).any (·.1) || (backToKw pos (keywordEach kws X.env)).any (·.1.isNone)) = false := by rfl) :
    PE X (.Call (.Name x p) [] kws pos) (tCallK sp gV E tNil tk) := by
  constructor
  intro pins s σ H Q I h
  refine wpAny_Call_Name_kw (ld_glob I hg hm ?_ hdb)
  refine PySem.W.callWith_KW0 (h₀ := X.base) I.ok.mod.kin hk hall ?_ hpl
  refine thn (hkw.run pos pins s σ H _ I h) fun ws s2 z => ?_
  obtain ⟨zs, H2, I2, rz, q2⟩ := z
  constructor
  · exact I2.kIn
  rw [hks]
  exact run_fnk (us := []) (vs := []) F hr hb hx I2 .nil rz q2
end

/-! ### data read out of the heap; repr of it -/
mutual
def noDict : PyData → Bool
  | .list ds => noDictL ds
  | .tuple ds => noDictL ds
  | .dict _ => false
  | _ => true
def noDictL : List PyData → Bool
  | [] => true
  | d :: ds => noDict d && noDictL ds
end
section
variable {K : PySem.W.Frag} {H : Hp}
mutual
theorem rp_dp : ∀ (d : PyData) (v : V), noDict d = true → Rp K H d v → Dp K H v d
  | .none, v, _, h => by cases (show v = _ from h); exact .non
  | .bool b, v, _, h => by cases (show v = _ from h); exact .bl b
  | .int i, v, _, h => by cases (show v = _ from h); exact .int i
  | .str x, v, _, h => by cases (show v = _ from h); exact .str x
  | .list ds, _, n, h => by
    obtain ⟨a, xs, rfl, hs, hl⟩ := h
    exact .lst hs (rpL_dp ds xs n hl)
  | .tuple ds, _, n, h => by
    obtain ⟨a, xs, rfl, hs, hl⟩ := h
    exact .tup hs (rpL_dp ds xs n hl)
  | .dict _, _, n, _ => by cases n
theorem rpL_dp : ∀ (ds : List PyData) (xs : List V), noDictL ds = true → RpL K H ds xs → DpAll K H xs ds
  | [], xs, _, h => by cases (show xs = _ from h); exact .nil
  | d :: ds, _, n, h => by
    obtain ⟨v, vs, rfl, hv, hl⟩ := h
    have n2 : (noDict d && noDictL ds) = true := n
    obtain ⟨n3, n4⟩ := Bool.and_eq_true_iff.mp n2
    exact .cons (rp_dp d v n3 hv) (rpL_dp ds vs n4 hl)
end
mutual
theorem noDict_has : ∀ d : PyData, noDict d = true → d.hasDict = false
  | .none, _ => rfl
  | .bool _, _ => rfl
  | .int _, _ => rfl
  | .str _, _ => rfl
  | .list ds, n => noDictL_has ds n
  | .tuple ds, n => noDictL_has ds n
  | .dict _, n => by cases n
theorem noDictL_has : ∀ ds : List PyData, noDictL ds = true → PyData.hasDictAll ds = false
  | [], _ => rfl
  | d :: ds, n => by
    have n2 : (noDict d && noDictL ds) = true := n
    obtain ⟨n3, n4⟩ := Bool.and_eq_true_iff.mp n2
    show (d.hasDict || PyData.hasDictAll ds) = false
    rw [noDict_has d n3, noDictL_has ds n4]
    all_goals rfl
end
end
/-- repr of a list or tuple of data without dicts -/
def rRepr (K : PySem.W.Frag) : List V → Hp → VK → Prop := fun vs H Q => ∃ a d, vs = [.ref a] ∧ Rp K H d (.ref a) ∧ noDict d = true ∧ d.showable = true ∧ d.shown.length ≤ sizeLine ∧ d.depth ≤ 60 ∧ Q (.str d.shown) H
theorem call_repr {X : Cx} (gd : X.A.guards = some []) (hu : X.A.units + 64 < cLine) : CallR X (.builtin "repr") (rRepr X.K) := by
  intro pins s σ H vs us Q I r h
  obtain ⟨a, d, rfl, hd, nd, hs, hz, hp, q⟩ := h
  rw [Vals.ref1 r]
  obtain ⟨as, hr⟩ := Dp.reads I d _ (.ref a) (rp_dp d _ nd hd) rfl
  refine PySem.repr_of_reads' hr hs (fun z => by rw [noDict_has d nd] at z; cases z) gd (by omega) (fun b o e => e) (fun h' u tk hk => ?_) hz
  exact ⟨.str d.shown, H, I.kept hk, ⟨u, rfl⟩, q⟩

/-! ### list.extend by a tuple -/
end Lx
/-! the end of a law whose def is entered without a guard -/
namespace Lx
open PySem PySem.Spec PyProof.Rows L2 Evl
section
variable {P : Program} {w : World} {K : PySem.W.Frag} {mg mb : Str → Option Value} {CX : CXT} {k : Nat} {fa a : Addr} {fd : FuncData} {x : Str} {sp : Sp} {s1 : Shared} {vs : List Value} {ns : List Int}
/-- what is left behind the call: True, nothing old changed -/
def Left (s1 : Shared) (r : Result) (s' : Shared) : Prop := r = .ok (.ret (.bool true)) ∧ OldK s1.heap s'.heap ∧ s'.os = s1.os ∧ AllBare s'.gens
/-- from an abstract heap that tracks nothing but the script, and that as a known object -/
theorem law_from {H : Hp} (KX : K.In s1.heap) (hns : s1.heap.Ns mainGlobals mg) (hb : s1.heap.Ns builtinsNs mb) (hbb : ∀ x : Str, x ≠ "__name__" → mb x = bootBuiltins x) (hlim : s1.heap.NoLimit) (hg : s1.gens = #[]) (hr : Room k callerA)
    (F : ∀ base : Heap, K.In base → base.Ns mainGlobals mg → FnG P w K mg base CX k fa fd [x] sp) (hbind : ∀ (s : Shared) (u : Value), BindsTo s fd ⟨[u], []⟩ [(x, u)])
    (hsp : sp [.ref a] H (fun v _ => v = .bl true) fun _ _ _ => False) (hCX : ∀ H e s', CX [] H s1 (fun _ _ _ => False) e s' → False)
    (ha : ∃ o, s1.heap.get? a = some o ∧ ∀ es ep, o.data ≠ .dict es ep) (ok : HOk P w H s1.heap) (one : ∀ b, b ≠ a → H b = none) (fz : H a = none ∨ ((∃ o u, H a = some (.frz o u)) ∧ K.lookup a = none)) :
    codeAny (model P w) callerA (.call (.ref fa) ⟨[.ref a], []⟩) (Left s1) s1 := by
  have dictFree : ∀ {b : Addr} {o : Obj} {es : Array DictEntry} {ep : Nat}, s1.heap.get? b = some o → o.data = .dict es ep → H b = none := by
    intro b o es ep e d
    by_cases hba : b = a
    · obtain ⟨o', e', n⟩ := ha
      rw [hba, e'] at e
      cases e
      exact absurd d (n es ep)
    · exact one b hba
  have nsB : ∀ {b : Addr} {m : Str → Option Value}, s1.heap.Ns b m → (hidT s1.heap H).Ns b m := by
    rintro b m ⟨o, es, ep, e, d, r⟩
    exact ⟨o, es, ep, hidT_get e (dictFree e d), d, r⟩
  have kB : K.In (hidT s1.heap H) := by
    intro b o e
    refine hidT_get (KX b o e) ?_
    by_cases hba : b = a
    · rcases fz with z | ⟨_, z⟩
      · rw [hba]
        exact z
      · rw [hba, z] at e
        cases e
    · exact one b hba
  obtain ⟨mc, c1, c2⟩ := hlim
  have md : Mod K mg (hidT s1.heap H) := ⟨kB, nsB hns, ⟨mb, nsB hb, hbb⟩, ⟨mc, nsB c1, c2⟩⟩
  have e0 : Env0 P w K mg (hidT s1.heap H) callerA [] s1 H := ⟨rfl, md, fun b o e => of_hidT e, Nat.le_of_eq (hidT_size _ _), trivial, fun b hb => (by cases hb), ok, .of_eq hg⟩
  refine codeAny_mono ((F _ kB (nsB hns)).goes callerA [] s1 H ⟨[.ref a], []⟩ [.ref a] [.ref a] _ _ rfl hr e0 (hbind s1 (.ref a)) (.cons rfl .nil) hsp) ?_
  intro r s' z
  match r, z with
  | .error e, z => exact (hCX H e s' z).elim
  | .ok (.ret u), z =>
    obtain ⟨v, H', os, bare, un, ok', r', q⟩ := z
    obtain rfl : v = V.bl true := q
    obtain rfl : u = Value.bool true := r'
    refine ⟨rfl, OldK.of_keep ?_, os, bare⟩
    intro b o e
    cases hq : H b with
    | none => exact un.keep b o e hq (fun m => (by cases m)) (fun m => (by cases m))
    | some u =>
      have hba : b = a := Classical.byContradiction fun n => (by rw [one b n] at hq; cases hq)
      rcases fz with z | ⟨⟨ob, uo, z⟩, _⟩
      · rw [← hba, hq] at z
        cases z
      · rw [← hba] at z
        obtain ⟨g1, _⟩ := ok b _ z
        obtain ⟨g2, _⟩ := ok' b _ (un.frzs b ob uo z)
        rw [e] at g1
        cases g1
        exact g2
end
/-- as walk_of, of a def entered without a guard -/
theorem walkG {l : PySem.W.OpenLaw} {n k : Nat} {q : Program} {loose : List Str} {XP : (Str → Option Value) → Heap → Prop} {YP : World → Heap → Prop} {d : DefRec} {K : Params → PySem.W.Frag} {CX : World → CXT} {sp : World → Sp} {x : Str}
    (hn : l.most = some n) (hn2 : n ≤ sizeLine) (hdf : d.params.defaults = []) (hr : Room k callerA) (hY : ∀ (w : World) (h : Heap), YP w h → (K w.params).In h)
    (F : ∀ (w : World) (mg : Str → Option Value) (fa : Addr) (h : Heap), (K w.params).In h → h.Ns mainGlobals mg → mg d.name = some (.ref fa) →
      ∃ fd : FuncData, (∀ (s : Shared) (u : Value), BindsTo s fd ⟨[u], []⟩ [(x, u)]) ∧ ∀ base : Heap, (K w.params).In base → base.Ns mainGlobals mg → FnG l.prog w (K w.params) mg base (CX w) k fa fd [x] (sp w))
    (hsp : ∀ (w : World) (H : Hp) (a : Addr) (ns : List Int), ns.length ≤ n → SqL (K w.params) H a (ns.map V.int) → sp w [.ref a] H (fun v _ => v = .bl true) fun _ _ _ => False)
    (hCX : ∀ (w : World) (H : Hp) (s : Shared) (e : Value) (s' : Shared), CX w [] H s (fun _ _ _ => False) e s' → False) : PySem.W.WalkO q loose XP YP l.row.toRowW d [] (fun f vs => PySem.call f vs) := by
  refine Att.attach_call hn hdf ?_
  intro w s0 s1 mg mb fa o pm cd doc a vs ns G Y ho hd hcd hmg hobj hints hlen hg
  have KX := hY w _ Y
  obtain ⟨fd, hb, hF⟩ := F w mg fa _ KX G.T.g hmg
  have rv := vals_ints hints
  have lenV := hints.length
  have there : ∃ o, s1.heap.get? a = some o ∧ ∀ es ep, o.data ≠ .dict es ep := ⟨_, hobj, fun es ep z => (by cases z)⟩
  have short := Nat.le_trans hlen hn2
  cases hk : (K w.params).lookup a with
  | some o' =>
    have e := KX a o' hk
    rw [hobj] at e
    cases e
    refine law_from (H := fun _ => none) KX G.T.g G.T.b G.T.builtins G.T.nolimit hg hr hF hb (hsp w _ a ns hlen ?_) (fun H e s' => hCX w H s1 e s') there (fun b u z => (by cases z)) (fun _ _ => rfl) (Or.inl rfl)
    refine Or.inr ⟨_, vs.toArray, _, hk, rfl, rfl, rfl, ?_, ?_⟩
    · rw [List.size_toArray, lenV]
      exact short
    · simpa using rv
  | none =>
    have at_ : (fun b => if b = a then some (HO.frz { cls := .type "list", data := .seq vs.toArray } (.lst (ns.map V.int))) else none) a = some (HO.frz { cls := .type "list", data := .seq vs.toArray } (.lst (ns.map V.int))) := if_pos rfl
    refine law_from (H := fun b => if b = a then some (.frz { cls := .type "list", data := .seq vs.toArray } (.lst (ns.map V.int))) else none) KX G.T.g G.T.b G.T.builtins G.T.nolimit hg hr hF hb (hsp w _ a ns hlen (Or.inl (Or.inr ⟨_, at_⟩))) (fun H e s' => hCX w H s1 e s') there ?_ (fun b n => if_neg n) (Or.inr ⟨⟨_, _, at_⟩, hk⟩)
    intro b u z
    by_cases hba : b = a
    · subst hba
      have z := at_.symm.trans z
      cases z
      refine ⟨hobj, ?_, vs, _, rv, hobj⟩
      rw [List.length_map]
      exact short
    · have z := (show (if b = a then some (HO.frz { cls := .type "list", data := .seq vs.toArray } (.lst (ns.map V.int))) else none) = none from if_neg hba).symm.trans z
      cases z
end Lx
namespace Lx
open PySem PySem.AutoSeq1
theorem ext_tup (l : Addr) (items : Array Value) (n : Nat) (b : Addr) (items2 : Array Value) (n2 : Nat) (dd : Option Addr) (sl : Array (Option Value))
    (hs0 : ¬(!items.isEmpty && Builtin.List.listTooLong (items.size + items2.size)) = true) (hs1 : items.size ≤ sizeLine) (hs2 : items.size + items2.size ≤ sizeLine + 1) :
    Meets (Builtin.«list.extend» ⟨[.ref l, .ref b], []⟩) (fun _ R s =>
      s.heap.get? l = some { cls := .type "list", dict := none, data := .seq items n, slots := #[] } ∧
      s.heap.get? b = some { cls := .type "tuple", dict := dd, data := .seq items2 n2, slots := sl } ∧
      R (.ok (.ret Value.none)) { s with heap := s.heap.update l (Obj.mapSeq fun x => x ++ items2), toks := s.toks }) :=
  .of_wp fun prog w A R s h => by
    obtain ⟨hp, g, d, tk, os⟩ := s
    obtain ⟨hl, hb, h⟩ := h
    have f1 := idx_int
    have f2 := sub_tuple_tuple
    have f3 := sub_list_list
    have f4 := sub_tuple_list
    have f5 := sub_list_tuple
    have hz' : (items ++ items2).size ≤ sizeLine + 1 := by rw [Array.size_append]; exact hs2
    wp_walk using (wpAny_updateSeq hl rfl (hz := hs1) (_hz' := hz')), wpAny_loadPart' hl, wpAny_loadPart' hb
    exact ⟨_, rfl, h⟩
end Lx
namespace Lx
open PySem PySem.Spec PyProof.Rows L2
section
variable {X : Cx}
def rExtT (K : PySem.W.Frag) : V → List V → Hp → VK → Prop := fun x vs H Q => ∃ l b xs zs, x = .ref l ∧ vs = [.ref b] ∧ H l = some (.lst xs) ∧ SqT K H b zs ∧ xs.length + zs.length ≤ sizeLine ∧ Q .non (upd H l (.lst (xs ++ zs)))
theorem mt_extT : MtR X "list.extend" (rExtT X.K) := by
  intro pins s σ H x vs v us Q I rx rv h
  obtain ⟨l, b, xs, zs, rfl, rfl, hH, hB, hz, q⟩ := h
  cases rx
  obtain ⟨u, rfl, ru⟩ := rv.one
  cases ru
  obtain ⟨z, its, n, r, hl, e⟩ := I.lstM hH
  obtain ⟨its2, r2, ⟨⟨cls, dd, dt, sl⟩, ho, hc, n2, hd⟩, hz2⟩ := I.tuple hB
  simp only at hc hd
  subst hc hd
  have hlen2 := r2.length
  have hsz : its.toArray.size + its2.toArray.size ≤ sizeLine := by
    rw [List.size_toArray, List.size_toArray]
    omega
  have hlong : ¬ (!its.toArray.isEmpty && Builtin.List.listTooLong (its.toArray.size + its2.toArray.size)) = true := by
    rw [notLongL hsz, Bool.and_false]
    decide
  refine call_meets F.slot_list_extend ⟨_, e, rfl⟩ F.entry_list_extend (F.args_list_extend_2 _ _) (ext_tup l its.toArray n b its2.toArray n2 dd sl hlong (by rw [List.size_toArray]; omega) (by omega)) ⟨e, ho, ?_⟩
  refine ⟨.non, _, I.lset (its' := its ++ its2) hH e (by simp) (r.append r2) ?_, rfl, q⟩
  rw [List.length_append]
  omega
/-- len of a dict, locked or not -/
def rLenK : List V → Hp → VK → Prop := fun xs H Q => ∃ a kvs, xs = [.ref a] ∧ Rd H a (.dK kvs) ∧ Q (.int kvs.length) H
theorem c_lenK : CallR X (.builtin "len") rLenK := by
  intro pins s σ H xs us Q I r h
  obtain ⟨a, kvs, rfl, ha, q⟩ := h
  obtain ⟨u, rfl, ru⟩ := vals1 r
  cases ru
  exact d_len I ha fun t s' I' => ⟨.int kvs.length, H, I', ⟨t, rfl⟩, q⟩
end
end Lx
/-! what operators, calls and displays make of data -/
namespace Lx
open PySem PySem.Spec PyProof.Rows L2 Evl
section
variable {K : PySem.W.Frag} {S : List Addr} {σ : L2.St} {H H' : Hp} {ta tb te tc : TE} {t u : TT} {d d1 d2 : PyData} {ds es : List PyData} {tA tr : TA} {i j : Int} {x y : Str} {b : Bool}
/-! numbers -/
theorem d_I0 {f : Int → Int → Int} (ha : EvD K S ta σ H (.int i)) (hb : EvD K S tb σ H (.int j)) : EvD K S (tOp (rI0 fun i j => .int (f i j)) ta tb) σ H (.int (f i j)) := d_of_int (ev_op ha.int hb.int rv_I0)
theorem d_I {C : Int → Int → Prop} {f : Int → Int → Int} (ha : EvD K S ta σ H (.int i)) (hb : EvD K S tb σ H (.int j)) (hc : C i j) : EvD K S (tOp (rI C fun i j => .int (f i j)) ta tb) σ H (.int (f i j)) := d_of_int (ev_op ha.int hb.int (rv_I hc))
theorem d_B0 {f : Int → Int → Bool} (ha : EvD K S ta σ H (.int i)) (hb : EvD K S tb σ H (.int j)) : EvD K S (tOp (rI0 fun i j => .bl (f i j)) ta tb) σ H (.bool (f i j)) := d_of_bl (ev_op ha.int hb.int rv_I0)
theorem d_un {f : Int → Int} (ha : EvD K S ta σ H (.int i)) : EvD K S (tUn (rU fun i => .int (f i)) ta) σ H (.int (f i)) := d_of_int (ev_un ha.int fun H1 _ _ q => ⟨i, rfl, q H1 (Ex.refl H1)⟩)
theorem d_eqI (ha : EvD K S ta σ H (.int i)) (hb : EvD K S tb σ H (.int j)) : EvD K S (tOp rEq ta tb) σ H (.bool (decide (i = j))) := by
  have e : decide (V.int i = V.int j) = decide (i = j) := by simp
  rw [← e]
  exact d_of_bl (ev_op ha.int hb.int (rv_eq rfl))
theorem d_neI (ha : EvD K S ta σ H (.int i)) (hb : EvD K S tb σ H (.int j)) : EvD K S (tOp rNe ta tb) σ H (.bool (!decide (i = j))) := by
  have e : decide (V.int i = V.int j) = decide (i = j) := by simp
  rw [← e]
  exact d_of_bl (ev_op ha.int hb.int (rv_ne rfl))
theorem d_eqS (ha : EvD K S ta σ H (.str x)) (hb : EvD K S tb σ H (.str y)) : EvD K S (tOp rEq ta tb) σ H (.bool (decide (x = y))) := by
  have e : decide (V.str x = V.str y) = decide (x = y) := by simp
  rw [← e]
  exact d_of_bl (ev_op ha.str hb.str (rv_eq rfl))
theorem d_neS (ha : EvD K S ta σ H (.str x)) (hb : EvD K S tb σ H (.str y)) : EvD K S (tOp rNe ta tb) σ H (.bool (!decide (x = y))) := by
  have e : decide (V.str x = V.str y) = decide (x = y) := by simp
  rw [← e]
  exact d_of_bl (ev_op ha.str hb.str (rv_ne rfl))
/-! tests -/
theorem t_of (h : EvD K S te σ H (.bool b)) : EvT (tTest te) σ H b := et_test h.bl
theorem t_ofB (h : EvD K S te σ H (.bool b)) : EvT (tB te) σ H b := et_B h.bl
theorem d_and {a : Bool} (h1 : EvD K S ta σ H (.bool a)) (h2 : a = true → EvD K S tb σ H (.bool b)) : EvD K S (tAndV ta tb) σ H (.bool (a && b)) := d_of_bl (ev_andV h1.bl fun e => (h2 e).bl)
theorem d_or {a : Bool} (h1 : EvD K S ta σ H (.bool a)) (h2 : a = false → EvD K S tb σ H (.bool b)) : EvD K S (tOrV ta tb) σ H (.bool (a || b)) := d_of_bl (ev_orV h1.bl fun e => (h2 e).bl)
theorem d_not {a : Bool} (h1 : EvD K S ta σ H (.bool a)) : EvD K S (tNotV ta) σ H (.bool (!a)) := d_of_bl (ev_notV h1.bl)
theorem d_if (h : EvT t σ H b) (h1 : b = true → EvD K S ta σ H d) (h2 : b = false → EvD K S tb σ H d) : EvD K S (tIf t ta tb) σ H d := fun H1 e Q q => h H1 e _ fun H2 e2 => by
  cases b with
  | true => exact h1 rfl H2 (e.trans e2) Q fun v H3 e3 r => q v H3 (e2.trans e3) r
  | false => exact h2 rfl H2 (e.trans e2) Q fun v H3 e3 r => q v H3 (e2.trans e3) r
/-- a < b < c of numbers -/
theorem d_chain {f g : Int → Int → Bool} {k : Int} (ha : EvD K S ta σ H (.int i)) (hb : EvD K S tb σ H (.int j)) (hc : EvD K S tc σ H (.int k)) :
    EvD K S (tChain (rI0 fun i j => .bl (f i j)) (rI0 fun i j => .bl (g i j)) ta tb tc) σ H (.bool (f i j && g j k)) := fun H1 e Q q =>
  ha.int H1 e _ fun H2 e2 => hb.int H2 (e.trans e2) _ fun H3 e3 => ⟨i, j, rfl, rfl, f i j, rfl, by
    cases hf : f i j with
    | true =>
      show tc σ H3 _
      refine hc.int H3 ((e.trans e2).trans e3) _ fun H4 e4 => ⟨j, k, rfl, rfl, q _ H4 ((e2.trans e3).trans e4) ?_⟩
      rw [hf]
      all_goals rfl
    | false =>
      show Q (.bl false) H3
      refine q _ H3 (e2.trans e3) ?_
      rw [hf]
      all_goals rfl⟩
/-- the same where the middle is text -/
theorem d_chainS {f g : Str → Str → Bool} {z : Str} (ha : EvD K S ta σ H (.str x)) (hb : EvD K S tb σ H (.str y)) (hc : EvD K S tc σ H (.str z)) :
    EvD K S (tChain (fun x y H Q => ∃ i j, x = .str i ∧ y = .str j ∧ Q (.bl (f i j)) H) (fun x y H Q => ∃ i j, x = .str i ∧ y = .str j ∧ Q (.bl (g i j)) H) ta tb tc) σ H (.bool (f x y && g y z)) := fun H1 e Q q =>
  ha.str H1 e _ fun H2 e2 => hb.str H2 (e.trans e2) _ fun H3 e3 => ⟨x, y, rfl, rfl, f x y, rfl, by
    cases hf : f x y with
    | true =>
      show tc σ H3 _
      refine hc.str H3 ((e.trans e2).trans e3) _ fun H4 e4 => ⟨y, z, rfl, rfl, q _ H4 ((e2.trans e3).trans e4) ?_⟩
      rw [hf]
      all_goals rfl
    | false =>
      show Q (.bl false) H3
      refine q _ H3 (e2.trans e3) ?_
      rw [hf]
      all_goals rfl⟩
/-! sequences -/
theorem atI_rp {n : Int} {xs : List V} (h : RpL K H ds xs) (e : atI ds n = some d) : ∃ v, atI xs n = some v ∧ Rp K H d v := by
  unfold atI at e ⊢
  rw [h.length]
  cases hk : ixN ds.length n with
  | none =>
    rw [hk] at e
    cases e
  | some k =>
    rw [hk] at e
    exact h.get (i := k) (d := d) e
theorem d_ixL (ha : EvD K S ta σ H (.list ds)) (hb : EvD K S tb σ H (.int i)) (hi : atI ds i = some d) : EvD K S (tOp (rIxL K) ta tb) σ H d := fun H1 e Q q =>
  ha H1 e _ fun v H2 e2 r => hb.int H2 (e.trans e2) _ fun H3 e3 => by
    obtain ⟨a, xs, rfl, hs, hl⟩ := r.ex (lo_ex e3)
    obtain ⟨w, hw, rw⟩ := atI_rp hl hi
    exact ⟨a, xs, i, w, rfl, rfl, (Rx.of lo_sub).l hs, hw, q w H3 (e2.trans e3) rw⟩
theorem d_ixT (ha : EvD K S ta σ H (.tuple ds)) (hb : EvD K S tb σ H (.int i)) (hi : atI ds i = some d) : EvD K S (tOp (rIxT K) ta tb) σ H d := fun H1 e Q q =>
  ha H1 e _ fun v H2 e2 r => hb.int H2 (e.trans e2) _ fun H3 e3 => by
    obtain ⟨a, xs, rfl, hs, hl⟩ := r.ex (lo_ex e3)
    obtain ⟨w, hw, rw⟩ := atI_rp hl hi
    exact ⟨a, xs, i, w, rfl, rfl, (Rx.of lo_sub).t hs, hw, q w H3 (e2.trans e3) rw⟩
/-- what is owned: a list of data at p -/
structure Own (K : PySem.W.Frag) (S : List Addr) (H : Hp) (p : Addr) (ds : List PyData) : Prop where
  mem : p ∈ S
  at_ : ∃ xs, H p = some (.lst xs) ∧ RpL K (Lo S H) ds xs
theorem Own.ex {p : Addr} (h : Own K S H p ds) (e : Ex H H') : Own K S H' p ds := ⟨h.mem, let ⟨xs, h1, h2⟩ := h.at_; ⟨xs, e p _ h1, h2.ex (lo_ex e)⟩⟩
theorem d_ixO {n : Nat} {p : Addr} (hv : σ[n]? = some (some (.ref p))) (o : Own K S H p ds) (hb : EvD K S tb σ H (.int i)) (hi : atI ds i = some d) : EvD K S (tOp (rIxL K) (tVar n) tb) σ H d := fun H1 e Q q =>
  ⟨.ref p, hv, hb.int H1 e _ fun H2 e2 => by
    obtain ⟨xs, h1, h2⟩ := (o.ex (e.trans e2)).at_
    obtain ⟨w, hw, rw⟩ := atI_rp h2 hi
    exact ⟨p, xs, i, w, rfl, rfl, sq_of h1, hw, q w H2 e2 rw⟩⟩
theorem c_len {X : Cx} : CallR X (.builtin "len") (rLenS X.K) := call_len_seq
theorem d_lenL (ha : EvD K S ta σ H (.list ds)) : EvD K S (tCB (rLenS K) (tCons ta tNil)) σ H (.int ds.length) := fun H1 e Q q =>
  ha H1 e _ fun v H2 e2 r => by
    obtain ⟨a, xs, rfl, hs, hl⟩ := r
    refine ⟨a, xs, rfl, Or.inl ((Rx.of lo_sub).l hs), ?_⟩
    rw [hl.length]
    exact q _ H2 e2 rfl
theorem d_lenT (ha : EvD K S ta σ H (.tuple ds)) : EvD K S (tCB (rLenS K) (tCons ta tNil)) σ H (.int ds.length) := fun H1 e Q q =>
  ha H1 e _ fun v H2 e2 r => by
    obtain ⟨a, xs, rfl, hs, hl⟩ := r
    refine ⟨a, xs, rfl, Or.inr ((Rx.of lo_sub).t hs), ?_⟩
    rw [hl.length]
    exact q _ H2 e2 rfl
theorem d_lenO {n : Nat} {p : Addr} (hv : σ[n]? = some (some (.ref p))) (o : Own K S H p ds) : EvD K S (tCB (rLenS K) (tCons (tVar n) tNil)) σ H (.int ds.length) := fun H1 e Q q => by
  refine ⟨.ref p, hv, ?_⟩
  obtain ⟨xs, h1, h2⟩ := (o.ex e).at_
  refine ⟨p, xs, rfl, Or.inl (sq_of h1), ?_⟩
  rw [h2.length]
  exact q _ H1 (Ex.refl _) rfl
def rLenX : List V → Hp → VK → Prop := fun xs H Q => ∃ z, xs = [.str z] ∧ z.length ≤ sizeLine ∧ Q (.int z.length) H
theorem c_lenS {X : Cx} : CallR X (.builtin "len") rLenX := call_len_str
theorem d_lenS (ha : EvD K S ta σ H (.str x)) (hz : x.length ≤ sizeLine) : EvD K S (tCB rLenX (tCons ta tNil)) σ H (.int x.length) := fun H1 e Q q =>
  ha.str H1 e _ fun H2 e2 => ⟨x, rfl, hz, q _ H2 e2 rfl⟩
/-- a tuple of sequences: list(..), tuple(..) -/
theorem c_list {X : Cx} : CallR X (.type "list") (rListS X.K) := call_list_of
theorem new_rp {p : Addr} {o : HO} {xs : List V} (hS : Dom S H) (hp : H p = none) (r : RpL K (Lo S H) ds xs) : RpL K (Lo (p :: S) (upd H p o)) ds xs := by
  rw [lo_upd_in (List.mem_cons_self ..)]
  refine r.ex fun a o h => ?_
  have hn : a ≠ p := ne_of_none (lo_sub a o h) hp
  by_cases hm : a ∈ S
  · rw [lo_in hm] at h
    cases h
  · rw [lo_out hm] at h
    rw [lo_out (fun z => (List.mem_cons.mp z).elim hn hm)]
    exact h
theorem n_listL (hS : Dom S H) (ha : EvD K S ta σ H (.list ds)) : EvN K S (tCB (rListS K) (tCons ta tNil)) σ H ds := fun H1 e Q q =>
  ha H1 e _ fun v H2 e2 r => by
    obtain ⟨a, xs, rfl, hs, hl⟩ := r
    exact ⟨a, xs, rfl, Or.inl ((Rx.of lo_sub).l hs), fun l hl' => q l xs _ (fresh_back e2 hl') (e2.trans (Ex.new hl')) upd_same (new_rp (hS.ex (e.trans e2)) hl' hl)⟩
theorem n_listT (hS : Dom S H) (ha : EvD K S ta σ H (.tuple ds)) : EvN K S (tCB (rListS K) (tCons ta tNil)) σ H ds := fun H1 e Q q =>
  ha H1 e _ fun v H2 e2 r => by
    obtain ⟨a, xs, rfl, hs, hl⟩ := r
    exact ⟨a, xs, rfl, Or.inr ((Rx.of lo_sub).t hs), fun l hl' => q l xs _ (fresh_back e2 hl') (e2.trans (Ex.new hl')) upd_same (new_rp (hS.ex (e.trans e2)) hl' hl)⟩
def rTupS (K : PySem.W.Frag) : List V → Hp → VK → Prop := fun xs H Q => ∃ p ys, xs = [.ref p] ∧ ((SqL K H p ys ∧ ∀ l, H l = none → Q (.ref l) (upd H l (.tup ys))) ∨ (SqT K H p ys ∧ Q (.ref p) H))
theorem c_tuple {X : Cx} : CallR X (.type "tuple") (rTupS X.K) := call_tuple_of
/-- a new tuple at p -/
theorem new_tup {p : Addr} {xs : List V} (hS : Dom S H) (hp : H p = none) (r : RpL K (Lo S H) ds xs) : Rp K (Lo S (upd H p (.tup xs))) (.tuple ds) (.ref p) := by
  have ho := hS.out hp
  refine Rp.tupD (xs := xs) ?_ (r.ex (lo_ex (Ex.new hp)))
  rw [lo_out ho, upd_same]
theorem d_tupL (hS : Dom S H) (ha : EvD K S ta σ H (.list ds)) : EvD K S (tCB (rTupS K) (tCons ta tNil)) σ H (.tuple ds) := fun H1 e Q q =>
  ha H1 e _ fun v H2 e2 r => by
    obtain ⟨a, xs, rfl, hs, hl⟩ := r
    exact ⟨a, xs, rfl, Or.inl ⟨(Rx.of lo_sub).l hs, fun l hl' => q _ _ (e2.trans (Ex.new hl')) (new_tup (hS.ex (e.trans e2)) hl' hl)⟩⟩
theorem d_catT (hS : Dom S H) (ha : EvD K S ta σ H (.tuple ds)) (hb : EvD K S tb σ H (.tuple es)) (hz : ds.length + es.length ≤ sizeLine) : EvD K S (tOp (rCatA K) ta tb) σ H (.tuple (ds ++ es)) := fun H1 e Q q =>
  ha H1 e _ fun v H2 e2 r => hb H2 (e.trans e2) _ fun w H3 e3 r2 => by
    obtain ⟨a, xs, rfl, hs, hl⟩ := r.ex (lo_ex e3)
    obtain ⟨b, ys, rfl, hs2, hl2⟩ := r2
    have l1 := hl.length
    have l2 := hl2.length
    refine ⟨a, b, xs, ys, rfl, rfl, (Rx.of lo_sub).t hs, (Rx.of lo_sub).t hs2, by omega, fun h => ?_, fun _ h => ?_, fun _ _ p hp => ?_⟩
    · subst h
      have hd : ds = [] := List.eq_nil_of_length_eq_zero l1.symm
      subst hd
      exact q _ H3 (e2.trans e3) ⟨b, ys, rfl, hs2, hl2⟩
    · subst h
      have hd : es = [] := List.eq_nil_of_length_eq_zero l2.symm
      subst hd
      rw [List.append_nil] at q
      exact q _ H3 (e2.trans e3) ⟨a, xs, rfl, hs, hl⟩
    · exact q _ _ ((e2.trans e3).trans (Ex.new hp)) (new_tup (hS.ex ((e.trans e2).trans e3)) hp (hl.append hl2))
theorem d_slT (hS : Dom S H) {tl th : TO} {lo hi : Option Int} (ha : EvD K S ta σ H (.tuple ds)) (h1 : EvO tl σ H lo) (h2 : EvO th σ H hi) :
    EvD K S (tSl (rSlA K) ta tl th) σ H (.tuple ((ds.drop (HT.sIx ds.length 0 lo)).take (HT.sIx ds.length ds.length hi - HT.sIx ds.length 0 lo))) := fun H1 e Q q =>
  ha H1 e _ fun v H2 e2 r => h1 H2 (e.trans e2) _ fun H3 e3 => h2 H3 ((e.trans e2).trans e3) _ fun H4 e4 => by
    obtain ⟨a, xs, rfl, hs, hl⟩ := r.ex (lo_ex (e3.trans e4))
    have l1 := hl.length
    refine ⟨a, xs, rfl, (Rx.of lo_sub).t hs, fun h => ?_, fun _ p hp => ?_⟩
    · rw [l1] at h
      rw [h.1, h.2, List.drop_zero, Nat.sub_zero, List.take_length] at q
      exact q _ H4 ((e2.trans e3).trans e4) ⟨a, xs, rfl, hs, hl⟩
    · refine q _ _ (((e2.trans e3).trans e4).trans (Ex.new hp)) ?_
      have hc : cutV xs lo hi = (xs.drop (HT.sIx ds.length 0 lo)).take (HT.sIx ds.length ds.length hi - HT.sIx ds.length 0 lo) := by
        unfold cutV
        rw [l1]
      rw [hc]
      exact new_tup (hS.ex (((e.trans e2).trans e3).trans e4)) hp ((hl.drop _).take _)
theorem n_slL (hS : Dom S H) {tl th : TO} {lo hi : Option Int} (ha : EvD K S ta σ H (.list ds)) (h1 : EvO tl σ H lo) (h2 : EvO th σ H hi) :
    EvN K S (tSl (rSlL K) ta tl th) σ H ((ds.drop (HT.sIx ds.length 0 lo)).take (HT.sIx ds.length ds.length hi - HT.sIx ds.length 0 lo)) := fun H1 e Q q =>
  ha H1 e _ fun v H2 e2 r => h1 H2 (e.trans e2) _ fun H3 e3 => h2 H3 ((e.trans e2).trans e3) _ fun H4 e4 => by
    obtain ⟨a, xs, rfl, hs, hl⟩ := r.ex (lo_ex (e3.trans e4))
    have l1 := hl.length
    refine ⟨a, xs, rfl, (Rx.of lo_sub).l hs, fun p hp => ?_⟩
    refine q p _ _ (fresh_back ((e2.trans e3).trans e4) hp) (((e2.trans e3).trans e4).trans (Ex.new hp)) upd_same ?_
    have hc : cutV xs lo hi = (xs.drop (HT.sIx ds.length 0 lo)).take (HT.sIx ds.length ds.length hi - HT.sIx ds.length 0 lo) := by
      unfold cutV
      rw [l1]
    rw [hc]
    exact new_rp (hS.ex (((e.trans e2).trans e3).trans e4)) hp ((hl.drop _).take _)
theorem o_none : EvO tNoPart σ H none := eo_none
theorem o_some {n : Int} (h : EvD K S te σ H (.int n)) : EvO (tPart te) σ H (some n) := eo_some h.int
/-- list * n -/
theorem n_rep (hS : Dom S H) (ha : EvN K S ta σ H ds) (hb : ∀ H1, Ex H H1 → ∀ T, EvD K T tb σ H1 (.int i)) (h1 : 0 ≤ i) (h2 : i < 100000) (hz : ds.length * i.toNat ≤ sizeLine) : EvN K S (tOp rRep ta tb) σ H (List.replicate i.toNat ds).flatten := fun H1 e Q q =>
  ha H1 e _ fun p xs H2 hp e2 hx hl => (hb H2 (e.trans e2) S).int H2 (Ex.refl _) _ fun H3 e3 => by
    have l1 := hl.length
    refine ⟨p, i, xs, rfl, rfl, e3 p _ hx, by omega, by omega, by rw [l1]; exact hz, fun r hr => ?_⟩
    refine q r _ _ (fresh_back (e2.trans e3) hr) ((e2.trans e3).trans (Ex.new hr)) upd_same ?_
    have hl3 : RpL K (Lo S H3) ds xs := (hl.ex (lo_ex e3)).ex (lo_anti fun b hb => List.mem_cons_of_mem _ hb)
    have all : ∀ n : Nat, RpL K (Lo S H3) (List.replicate n ds).flatten (List.replicate n xs).flatten := by
      intro n
      induction n with
      | zero => exact rfl
      | succ n ih =>
        rw [List.replicate_succ, List.replicate_succ, List.flatten_cons, List.flatten_cons]
        exact hl3.append ih
    exact new_rp (hS.ex ((e.trans e2).trans e3)) hr (all _)
/-! sums, all, any -/
theorem ints_rp : ∀ {ns : List Int} {xs : List V}, RpL K H (ns.map PyData.int) xs → xs = ns.map V.int
  | [], _, h => h
  | n :: ns, _, h => by
    obtain ⟨v, vs, rfl, hv, hl⟩ := h
    rw [ints_rp hl, show v = V.int n from hv]
    all_goals rfl
theorem bools_rp : ∀ {bs : List Bool} {xs : List V}, RpL K H (bs.map PyData.bool) xs → xs = bs.map V.bl
  | [], _, h => h
  | n :: ns, _, h => by
    obtain ⟨v, vs, rfl, hv, hl⟩ := h
    rw [bools_rp hl, show v = V.bl n from hv]
    all_goals rfl
theorem d_sum {ns : List Int} (ha : EvD K S ta σ H (.list (ns.map PyData.int))) : EvD K S (tCB (rSum K) (tCons ta tNil)) σ H (.int ns.sum) := fun H1 e Q q =>
  ha H1 e _ fun v H2 e2 r => by
    obtain ⟨a, xs, rfl, hs, hl⟩ := r
    have hx := ints_rp hl
    subst hx
    exact ⟨a, ns, rfl, (Rx.of lo_sub).l hs, q _ H2 e2 rfl⟩
theorem d_all {bs : List Bool} (ha : EvD K S ta σ H (.list (bs.map PyData.bool))) : EvD K S (tCB (rAll K) (tCons ta tNil)) σ H (.bool (bs.all id)) := fun H1 e Q q =>
  ha H1 e _ fun v H2 e2 r => by
    obtain ⟨a, xs, rfl, hs, hl⟩ := r
    have hx := bools_rp hl
    subst hx
    exact ⟨a, bs, rfl, (Rx.of lo_sub).l hs, q _ H2 e2 rfl⟩
theorem d_any {bs : List Bool} (ha : EvD K S ta σ H (.list (bs.map PyData.bool))) : EvD K S (tCB (rAny K) (tCons ta tNil)) σ H (.bool (bs.any id)) := fun H1 e Q q =>
  ha H1 e _ fun v H2 e2 r => by
    obtain ⟨a, xs, rfl, hs, hl⟩ := r
    have hx := bools_rp hl
    subst hx
    exact ⟨a, bs, rfl, (Rx.of lo_sub).l hs, q _ H2 e2 rfl⟩
def rInt : List V → Hp → VK → Prop := fun xs H Q => (∃ i, xs = [.int i] ∧ Q (.int i) H) ∨ ∃ k, xs = [.bl k] ∧ Q (.int (if k then 1 else 0)) H
theorem c_int {X : Cx} : CallR X (.type "int") rInt := call_int1
theorem d_toInt (ha : EvD K S ta σ H (.int i)) : EvD K S (tCB rInt (tCons ta tNil)) σ H (.int i) := fun H1 e Q q => ha.int H1 e _ fun H2 e2 => Or.inl ⟨i, rfl, q _ H2 e2 rfl⟩
/-! dicts -/
def keyB : PyData → Key → Bool
  | .int i, .inl j => decide (i = j)
  | .str x, .inr y => decide (x = y)
  | _, _ => false
def lookD : List (PyData × PyData) → Key → Option PyData
  | [], _ => none
  | (k, d) :: r, x => if keyB k x then some d else lookD r x
theorem keyB_keyD (k x : Key) : keyB (keyD k) x = decide (k = x) := by
  cases k <;> cases x <;> simp [keyB, keyD]
theorem lookD_rp : ∀ {ds : List (PyData × PyData)} {kvs : List (Key × V)} (k : Key), RpD K H ds kvs → (valV kvs k = none ∧ lookD ds k = none) ∨ ∃ v d, valV kvs k = some v ∧ lookD ds k = some d ∧ Rp K H d v
  | [], _, k, h => by
    cases (show _ = [] from h)
    exact Or.inl ⟨rfl, rfl⟩
  | (a, b) :: ds, _, k, h => by
    obtain ⟨k', v, r, rfl, rfl, hv, hl⟩ := h
    by_cases e : k' = k
    · refine Or.inr ⟨v, b, ?_, ?_, hv⟩
      · unfold valV
        rw [List.find?_cons_of_pos (by simp [e])]
        all_goals rfl
      · show (if keyB (keyD k') k then some b else lookD ds k) = some b
        rw [keyB_keyD, decide_eq_true e, if_pos rfl]
    · have e1 : valV ((k', v) :: r) k = valV r k := by
        unfold valV
        rw [List.find?_cons_of_neg (by simp [e])]
      have e2 : lookD ((keyD k', b) :: ds) k = lookD ds k := by
        show (if keyB (keyD k') k then some b else lookD ds k) = lookD ds k
        rw [keyB_keyD, decide_eq_false e, if_neg Bool.false_ne_true]
      rw [e1, e2]
      exact lookD_rp k hl
theorem rp_key {k : Key} {v : V} (h : Rp K H (keyD k) v) : v = kV k := by
  cases k with
  | inl i => exact h
  | inr x => exact h
theorem d_dget {kvs : List (PyData × PyData)} {k : Key} (ha : EvD K S ta σ H (.dict kvs)) (hb : EvD K S tb σ H (keyD k)) (hl : lookD kvs k = some d) : EvD K S (tDGet ta tb) σ H d := fun H1 e Q q =>
  ha H1 e _ fun v H2 e2 r => hb H2 (e.trans e2) _ fun w H3 e3 r2 => by
    obtain ⟨a, ws, rfl, hs, hd⟩ := r.ex (lo_ex e3)
    have hw := rp_key r2
    rcases lookD_rp k hd with ⟨_, h0⟩ | ⟨u, d', h1, h2, h3⟩
    · rw [hl] at h0
      cases h0
    · rw [hl] at h2
      cases h2
      exact ⟨a, u, rfl, Or.inl ⟨ws, k, ex_rd lo_sub hs, hw, h1.symm⟩, q u H3 (e2.trans e3) h3⟩
theorem d_din {kvs : List (PyData × PyData)} {k : Key} (hb : EvD K S tb σ H (keyD k)) (ha : EvD K S ta σ H (.dict kvs)) : EvD K S (tDIn tb ta) σ H (.bool (lookD kvs k).isSome) := fun H1 e Q q =>
  hb H1 e _ fun w H2 e2 r2 => ha H2 (e.trans e2) _ fun v H3 e3 r => by
    obtain ⟨a, ws, rfl, hs, hd⟩ := r
    have hw := rp_key r2
    refine ⟨a, valV ws k, rfl, Or.inl ⟨ws, k, ex_rd lo_sub hs, hw, rfl⟩, q _ H3 (e2.trans e3) ?_⟩
    rcases lookD_rp k hd with ⟨h1, h0⟩ | ⟨u, d', h1, h2, h3⟩
    · rw [h1, h0]
      all_goals rfl
    · rw [h1, h2]
      all_goals rfl
theorem RpD.length : ∀ {ds : List (PyData × PyData)} {kvs : List (Key × V)}, RpD K H ds kvs → kvs.length = ds.length
  | [], _, h => by cases (show _ = [] from h); rfl
  | (_, _) :: ds, _, h => by
    obtain ⟨k, v, r, rfl, _, _, hl⟩ := h
    rw [List.length_cons, List.length_cons, hl.length]
/-! isinstance of a built-in class -/
def tyN : PyData → String
  | .none => "NoneType"
  | .bool _ => "bool"
  | .int _ => "int"
  | .str _ => "str"
  | .list _ => "list"
  | .tuple _ => "tuple"
  | .dict _ => "dict"
theorem rp_ty : ∀ {d : PyData} {v : V}, Rp K (Lo S H) d v → TyX K H v (.type (tyN d))
  | .none, _, h => by cases (show _ = _ from h); exact .base .non
  | .bool _, _, h => by cases (show _ = _ from h); exact .base (.bl _)
  | .int _, _, h => by cases (show _ = _ from h); exact .base (.int _)
  | .str _, _, h => by cases (show _ = _ from h); exact .base (.str _)
  | .list _, _, h => by
    obtain ⟨a, xs, rfl, hs, _⟩ := h
    rcases hs with (h | ⟨o, h⟩) | ⟨o, its, n, h1, h2, _⟩
    · exact .base (.lst (lo_sub a _ h))
    · exact .base (.frz (lo_sub a _ h))
    · exact .kList h1 h2
  | .tuple _, _, h => by
    obtain ⟨a, xs, rfl, hs, _⟩ := h
    rcases hs with (h | ⟨o, h⟩) | ⟨o, its, n, h1, h2, _⟩
    · exact .base (.tup (lo_sub a _ h))
    · exact .fTuple (lo_sub a _ h)
    · exact .kTuple h1 h2
  | .dict _, _, h => by
    obtain ⟨a, xs, rfl, hs, _⟩ := h
    rcases hs with h | ⟨o, h⟩
    · exact .base (.dK (lo_sub a _ h))
    · exact .fDict (lo_sub a _ h)
theorem d_isi {T : String} (ha : EvD K S ta σ H d) (hk : kitB (tyN d) T = some b) : EvD K S (tCB (rIsi K) (tCons ta (tCons (tC (.ty T)) tNil))) σ H (.bool b) := fun H1 e Q q =>
  ha H1 e _ fun v H2 e2 r => ⟨v, .ty T, .type (tyN d), .type T, b, rfl, .ty T, rp_ty r, kit_ty hk, q _ H2 e2 rfl⟩
/-! a call of a def that works on data -/
/-- given data that R relates to a datum, that datum is made; what stood stays -/
def PSp (K : PySem.W.Frag) (R : List PyData → PyData → Prop) : Sp := fun vs H Q _ => ∃ S ds d, Dom S H ∧ RpL K (Lo S H) ds vs ∧ R ds d ∧ ∀ v H', Ex H H' → Rp K (Lo S H') d v → Q v H'
theorem d_call {R : List PyData → PyData → Prop} {E : XK} (hS : Dom S H) (ha : EvDs K S tA σ H ds) (hR : R ds d) : EvD K S (tCall (PSp K R) [] E tA) σ H d := fun H1 e Q q =>
  ha H1 e _ fun vs H2 e2 r => by
    refine ⟨S, ds, d, hS.ex (e.trans e2), ?_, hR, fun v H3 e3 r3 => q v H3 (e2.trans e3) r3⟩
    rw [List.append_nil]
    exact r
/-- a new list is made -/
def NSp (K : PySem.W.Frag) (R : List PyData → List PyData → Prop) : Sp := fun vs H Q _ => ∃ S ds es, Dom S H ∧ RpL K (Lo S H) ds vs ∧ R ds es ∧ ∀ p xs H', H p = none → Ex H H' → H' p = some (.lst xs) → RpL K (Lo (p :: S) H') es xs → Q (.ref p) H'
theorem n_call {R : List PyData → List PyData → Prop} {E : XK} (hS : Dom S H) (ha : EvDs K S tA σ H ds) (hR : R ds es) : EvN K S (tCall (NSp K R) [] E tA) σ H es := fun H1 e Q q =>
  ha H1 e _ fun vs H2 e2 r => by
    refine ⟨S, ds, es, hS.ex (e.trans e2), ?_, hR, fun p xs H3 hp e3 hx r3 => q p xs H3 (fresh_back e2 hp) (e2.trans e3) hx r3⟩
    rw [List.append_nil]
    exact r
/-! ### statements -/
variable {D : Ends} {tu tw tz : TS} {n : Nat}
theorem sd_asg (h : EvD K S te σ H d) (k : ∀ v H1, Ex H H1 → Rp K (Lo S H1) d v → D.nx (σ.set n (some v)) H1) : tAsg te (gName n) D σ H := h H (Ex.refl H) _ k
theorem sn_asg (h : EvN K S te σ H ds) (k : ∀ p xs H1, H p = none → Ex H H1 → H1 p = some (.lst xs) → RpL K (Lo (p :: S) H1) ds xs → D.nx (σ.set n (some (.ref p))) H1) : tAsg te (gName n) D σ H := h H (Ex.refl H) _ k
theorem qd_asg (h : EvD K S te σ H d) (k : ∀ v H1, Ex H H1 → Rp K (Lo S H1) d v → tz D (σ.set n (some v)) H1) : tSeq (tAsg te (gName n)) tz D σ H := h H (Ex.refl H) _ k
theorem qn_asg (h : EvN K S te σ H ds) (k : ∀ p xs H1, H p = none → Ex H H1 → H1 p = some (.lst xs) → RpL K (Lo (p :: S) H1) ds xs → tz D (σ.set n (some (.ref p))) H1) : tSeq (tAsg te (gName n)) tz D σ H := h H (Ex.refl H) _ k
theorem sd_ret (h : EvD K S te σ H d) (k : ∀ v H1, Ex H H1 → Rp K (Lo S H1) d v → D.rt v H1) : tRet te D σ H := h H (Ex.refl H) _ k
theorem sn_ret (h : EvN K S te σ H ds) (k : ∀ p xs H1, H p = none → Ex H H1 → H1 p = some (.lst xs) → RpL K (Lo (p :: S) H1) ds xs → D.rt (.ref p) H1) : tRet te D σ H := h H (Ex.refl H) _ k
theorem sd_drop (h : EvD K S te σ H d) (k : ∀ H1, Ex H H1 → D.nx σ H1) : tDrop te D σ H := h H (Ex.refl H) _ fun _ H1 e _ => k H1 e
theorem qd_drop (h : EvD K S te σ H d) (k : ∀ H1, Ex H H1 → tz D σ H1) : tSeq (tDrop te) tz D σ H := h H (Ex.refl H) _ fun _ H1 e _ => k H1 e
theorem own_new {p : Addr} {xs : List V} (h : H p = some (.lst xs)) (r : RpL K (Lo (p :: S) H) ds xs) : Own K (p :: S) H p ds := ⟨List.mem_cons_self .., xs, h, r⟩
theorem Own.put {p : Addr} {xs : List V} (hm : p ∈ S) (r : RpL K (Lo S H) ds xs) : Own K S (upd H p (.lst xs)) p ds := ⟨hm, xs, upd_same, by rw [lo_upd_in hm]; exact r⟩
theorem Own.keep {p q : Addr} {o : HO} (w : Own K S H p ds) (hq : q ∈ S) (hn : p ≠ q) : Own K S (upd H q o) p ds := ⟨w.mem, let ⟨xs, h1, h2⟩ := w.at_; ⟨xs, by rw [upd_ne hn]; exact h1, by rw [lo_upd_in hq]; exact h2⟩⟩
/-- xs.append(e), xs owned -/
theorem sd_app {p : Addr} {m : Nat} (hv : σ[m]? = some (some (.ref p))) (o : Own K S H p ds) (h : EvD K S te σ H d) (hz : ds.length < 100000) (k : ∀ H1, Ex (Lo S H) (Lo S H1) → Dom S H1 → (∀ q, q ∈ S → q ≠ p → H1 q = H q) → Own K S H1 p (ds ++ [d]) → D.nx σ H1)
    (hS : Dom S H) : tDrop (tBM K "list" rAppend (tVar m) (tCons te tNil)) D σ H := by
  obtain ⟨xs, h1, h2⟩ := o.at_
  refine ⟨.ref p, hv, Or.inl ⟨rfl, xs, sq_of h1⟩, h H (Ex.refl H) _ fun v H2 e2 r => ⟨p, xs, v, rfl, rfl, e2 p _ h1, sz_lt (by rw [h2.length]; exact hz), ?_⟩⟩
  refine k _ (ex_upd o.mem (lo_ex e2)) ((hS.ex e2).upd) (fun q hq hn => ?_) (Own.put o.mem ((h2.ex (lo_ex e2)).append ⟨v, [], rfl, r, rfl⟩))
  rw [upd_ne hn]
  cases hH : H q with
  | none => exact absurd hH (hS q hq)
  | some u => exact e2 q u hH
end

/-! ### comprehensions -/
section
variable {K : PySem.W.Frag} {S : List Addr} {σ : L2.St} {H : Hp} {te tl : TE} {tt : TT} {j : Nat} {vs : List Nat}
/-- what a turn may take for granted: more is owned, all that was to be read still is -/
structure In (S T : List Addr) (H H1 : Hp) : Prop where
  rx : Rx H H1
  lo : Rx (Lo S H) (Lo T H1)
  dom : Dom T H1
theorem In.self (hS : Dom S H) : In S S H H := ⟨Rx.of (Ex.refl _), Rx.of (Ex.refl _), hS⟩
theorem In.trans {T U : List Addr} {H1 H2 : Hp} (a : In S T H H1) (b : In T U H1 H2) : In S U H H2 := ⟨a.rx.trans b.rx, a.lo.trans b.lo, b.dom⟩
theorem In.of {H1 : Hp} (hS : Dom S H) (e : Ex H H1) : In S S H H1 := ⟨Rx.of e, Rx.of (lo_ex e), hS.ex e⟩
theorem In.ex {T : List Addr} {H1 H2 : Hp} (a : In S T H H1) (e : Ex H1 H2) : In S T H H2 := ⟨a.rx.trans (Rx.of e), a.lo.trans (Rx.of (lo_ex e)), a.dom.ex e⟩
structure Acc (K : PySem.W.Frag) (S : List Addr) (H : Hp) (Dl : Addr) (ds : List PyData) (H' : Hp) : Prop where
  new : H Dl = none
  ex : Ex H H'
  own : Own K (Dl :: S) H' Dl ds
theorem Acc.in_ {Dl : Addr} {ds : List PyData} {H' : Hp} (hS : Dom S H) (a : Acc K S H Dl ds H') : In S (Dl :: S) H H' := by
  obtain ⟨xs, h1, h2⟩ := a.own.at_
  refine ⟨Rx.of a.ex, Rx.of fun b o h => ?_, (hS.ex a.ex).cons h1⟩
  have hb := lo_sub b o h
  by_cases hm : b ∈ S
  · rw [lo_in hm] at h
    cases h
  · rw [lo_out (fun z => (List.mem_cons.mp z).elim (ne_of_none hb a.new) hm)]
    exact a.ex b o hb
theorem acc_turn {Dl : Addr} {acc : List PyData} {H' : Hp} {σ2 : L2.St} {b : Bool} {d : PyData} (hS : Dom S H) (a : Acc K S H Dl acc H') (hz : acc.length < 100000) (ht : EvT tt σ2 H' b) (he : b = true → EvD K (Dl :: S) te σ2 H' d) :
    tt σ2 H' fun c H3 => if c = true then te σ2 H3 fun y H4 => ∃ ys, H4 Dl = some (.lst ys) ∧ ys.length < sizeLine ∧ Acc K S H Dl (if b then acc ++ [d] else acc) (upd H4 Dl (.lst (ys ++ [y]))) else Acc K S H Dl (if b then acc ++ [d] else acc) H3 := by
  refine ht H' (Ex.refl _) _ fun H3 e3 => ?_
  cases b with
  | true =>
    show te σ2 H3 fun y H4 => ∃ ys, H4 Dl = some (.lst ys) ∧ ys.length < sizeLine ∧ Acc K S H Dl (acc ++ [d]) (upd H4 Dl (.lst (ys ++ [y])))
    refine he rfl H3 e3 _ fun y H4 e4 r => ?_
    obtain ⟨ys, h1, h2⟩ := a.own.at_
    refine ⟨ys, e4 Dl _ (e3 Dl _ h1), sz_lt (by rw [h2.length]; exact hz), a.new, Ex.mut ((a.ex.trans e3).trans e4) a.new, Own.put (List.mem_cons_self ..) ?_⟩
    exact (h2.ex (lo_ex (e3.trans e4))).append ⟨y, [], rfl, r, rfl⟩
  | false => exact ⟨a.new, a.ex.trans e3, a.own.ex e3⟩
theorem take_get {α : Type} {xs : List α} {i : Nat} {x : α} (h : xs[i]? = some x) : xs.take (i + 1) = xs.take i ++ [x] := by
  rw [List.take_add_one, h]
  all_goals rfl
theorem fm_turn {ds : List PyData} {i : Nat} {d : PyData} {p : PyData → Bool} {F : PyData → PyData} (h : ds[i]? = some d) : ((ds.take (i + 1)).filter p).map F = if p d then ((ds.take i).filter p).map F ++ [F d] else ((ds.take i).filter p).map F := by
  rw [take_get h, List.filter_append, List.map_append]
  cases hp : p d with
  | true =>
    rw [List.filter_cons_of_pos hp]
    all_goals rfl
  | false =>
    rw [List.filter_cons_of_neg (by rw [hp]; exact Bool.false_ne_true)]
    show _ ++ [] = _
    rw [List.append_nil]
    all_goals rfl
variable {J : It} {G : Hp → Prop} {Y : Nat → Hp → V → Hp → Prop} {ds : List PyData} {H1 : Hp} {Q : VK}
/-- a comprehension over a walk that gives data -/
theorem lc_data (w : Walk J ds.length G Y) (p : PyData → Bool) (F : PyData → PyData) (hS : Dom S H1) (hz : ds.length ≤ 50000) (hw : ∀ x, wipe ((wipe σ vs).set j (some x)) vs = wipe σ vs) (hG : ∀ H', Ex H1 H' → G H')
    (hy : ∀ i H' x H'', i < ds.length → Ex H1 H' → Y i H' x H'' → H'' = H' ∧ ∃ d, ds[i]? = some d ∧ ∀ T, Rx (Lo S H1) (Lo T H') → Rp K (Lo T H') d x)
    (ht : ∀ d v T H', d ∈ ds → In S T H1 H' → Rp K (Lo T H') d v → EvT tt ((wipe σ vs).set j (some v)) H' (p d))
    (he : ∀ d v T H', d ∈ ds → In S T H1 H' → Rp K (Lo T H') d v → p d = true → EvD K T te ((wipe σ vs).set j (some v)) H' (F d)) (Dl : Addr) (hD : H1 Dl = none) (q : ∀ H', Acc K S H1 Dl ((ds.filter p).map F) H' → Q (.ref Dl) H') :
    ∃ W : Nat → Nat → Hp → Prop, (∃ m, W 0 m (upd H1 Dl (.lst []))) ∧ ∀ i m H, W i m H →
      (J.stop i H ∧ Q (.ref Dl) H) ∨ (J.go i H ∧ ∃ Nx : Hp → Prop, (∀ H', Nx H' → ∃ m', m' < m ∧ W (i + 1) m' H') ∧ ∀ x H', J.yld i H x H' → gName j x (wipe σ vs) H' fun σ2 H2 => wipe σ2 vs = wipe σ vs ∧ tt σ2 H2 fun b H3 =>
        if b = true then te σ2 H3 fun y H4 => ∃ acc, H4 Dl = some (.lst acc) ∧ acc.length < sizeLine ∧ Nx (upd H4 Dl (.lst (acc ++ [y]))) else Nx H3) := by
  refine lc_it w (g := gName j) (Qd := fun H' => Q (.ref Dl) H') (fun i H' => Acc K S H1 Dl (((ds.take i).filter p).map F) H') ⟨hD, Ex.new hD, own_new upd_same rfl⟩ (fun i H' _ ac => hG H' ac.ex) (fun i x H' H'' hi ac y => ?_) (fun H' ac => ?_)
  · obtain ⟨rfl, d, hd, hr⟩ := hy i H' x H'' hi ac.ex y
    have hm : d ∈ ds := List.mem_of_getElem? hd
    have il := ac.in_ hS
    have hlen : (((ds.take i).filter p).map F).length < 100000 := by
      rw [List.length_map]
      have := List.length_filter_le p (ds.take i)
      rw [List.length_take] at this
      omega
    have t := acc_turn (te := te) (d := F d) hS ac hlen (ht d x _ _ hm il (hr _ il.lo)) (fun hp => he d x _ _ hm il (hr _ il.lo) hp)
    rw [fm_turn hd]
    exact ⟨hw x, t⟩
  · rw [List.take_length] at ac
    exact q H' ac
theorem Acc.fin {Dl : Addr} {H' : Hp} (e : Ex H H1) (a : Acc K S H1 Dl ds H') : ∃ xs, H Dl = none ∧ Ex H H' ∧ H' Dl = some (.lst xs) ∧ RpL K (Lo (Dl :: S) H') ds xs := by
  obtain ⟨ys, h1, h2⟩ := a.own.at_
  exact ⟨ys, fresh_back e a.new, e.trans a.ex, h1, h2⟩
/-- [e for x in l if t], l a list -/
theorem n_lcL (p : PyData → Bool) (F : PyData → PyData) (hS : Dom S H) (hl : EvD K S tl σ H (.list ds)) (hz : ds.length ≤ 50000) (hw : ∀ x, wipe ((wipe σ vs).set j (some x)) vs = wipe σ vs)
    (ht : ∀ d v T H1, d ∈ ds → In S T H H1 → Rp K (Lo T H1) d v → EvT tt ((wipe σ vs).set j (some v)) H1 (p d))
    (he : ∀ d v T H1, d ∈ ds → In S T H H1 → Rp K (Lo T H1) d v → p d = true → EvD K T te ((wipe σ vs).set j (some v)) H1 (F d)) :
    EvN K S (tLc (iList K tl) (gName j) tt te vs) σ H ((ds.filter p).map F) := fun H0 e Q q => hl H0 e _ fun v H1 e1 r => by
  obtain ⟨a, xs, rfl, hs, hx⟩ := r
  have i0 := In.of hS (e.trans e1)
  refine ⟨a, rfl, ⟨xs, (Rx.of lo_sub).l hs⟩, fun Dl hD => ?_⟩
  refine lc_data (K := K) (S := S) (hx.length ▸ walk_list (K := K) (a := a) (xs := xs)) p F i0.dom hz hw (fun H' e' => (Rx.of (lo_sub.trans e')).l hs) (fun i H' x H'' lt e' y => ?_) (fun d v T H' m z => ht d v T H' m (i0.trans z)) (fun d v T H' m z => he d v T H' m (i0.trans z)) Dl hD fun H' ac => ?_
  · obtain ⟨d, hd, rd⟩ := hx.getV y.2
    exact ⟨y.1, d, hd, fun T l => rd.rx l⟩
  · obtain ⟨ys, h0, h1, h2, h3⟩ := ac.fin e1
    exact q Dl ys H' h0 h1 h2 h3
/-- l a tuple -/
theorem n_lcT (p : PyData → Bool) (F : PyData → PyData) (hS : Dom S H) (hl : EvD K S tl σ H (.tuple ds)) (hz : ds.length ≤ 50000) (hw : ∀ x, wipe ((wipe σ vs).set j (some x)) vs = wipe σ vs)
    (ht : ∀ d v T H1, d ∈ ds → In S T H H1 → Rp K (Lo T H1) d v → EvT tt ((wipe σ vs).set j (some v)) H1 (p d))
    (he : ∀ d v T H1, d ∈ ds → In S T H H1 → Rp K (Lo T H1) d v → p d = true → EvD K T te ((wipe σ vs).set j (some v)) H1 (F d)) :
    EvN K S (tLc (iTup K tl) (gName j) tt te vs) σ H ((ds.filter p).map F) := fun H0 e Q q => hl H0 e _ fun v H1 e1 r => by
  obtain ⟨a, xs, rfl, hs, hx⟩ := r
  have i0 := In.of hS (e.trans e1)
  refine ⟨a, rfl, ⟨xs, (Rx.of lo_sub).t hs⟩, fun Dl hD => ?_⟩
  refine lc_data (K := K) (S := S) (hx.length ▸ walk_tup (K := K) (a := a) (xs := xs)) p F i0.dom hz hw (fun H' e' => (Rx.of (lo_sub.trans e')).t hs) (fun i H' x H'' lt e' y => ?_) (fun d v T H' m z => ht d v T H' m (i0.trans z)) (fun d v T H' m z => he d v T H' m (i0.trans z)) Dl hD fun H' ac => ?_
  · obtain ⟨d, hd, rd⟩ := hx.getV y.2
    exact ⟨y.1, d, hd, fun T l => rd.rx l⟩
  · obtain ⟨ys, h0, h1, h2, h3⟩ := ac.fin e1
    exact q Dl ys H' h0 h1 h2 h3
/-- over the signs of a text -/
def signs1 (x : Str) : List PyData := x.cps.toList.map fun c => .str ⟨#[c]⟩
theorem n_lcS {x : Str} (p : PyData → Bool) (F : PyData → PyData) (hS : Dom S H) (hl : EvD K S tl σ H (.str x)) (hz : x.cps.size ≤ 50000) (hw : ∀ x, wipe ((wipe σ vs).set j (some x)) vs = wipe σ vs)
    (ht : ∀ d v T H1, d ∈ signs1 x → In S T H H1 → Rp K (Lo T H1) d v → EvT tt ((wipe σ vs).set j (some v)) H1 (p d))
    (he : ∀ d v T H1, d ∈ signs1 x → In S T H H1 → Rp K (Lo T H1) d v → p d = true → EvD K T te ((wipe σ vs).set j (some v)) H1 (F d)) :
    EvN K S (tLc (iStr tl) (gName j) tt te vs) σ H (((signs1 x).filter p).map F) := fun H0 e Q q => hl.str H0 e _ fun H1 e1 => by
  have i0 := In.of hS (e.trans e1)
  have hn : (signs1 x).length = x.cps.size := by
    unfold signs1
    rw [List.length_map, Array.length_toList]
  refine ⟨x, rfl, fun Dl hD => ?_⟩
  refine lc_data (K := K) (S := S) (hn.symm ▸ walk_str (z := x)) p F i0.dom (by rw [hn]; exact hz) hw (fun H' e' => True.intro) (fun i H' v H'' lt e' y => ?_) (fun d v T H' m z => ht d v T H' m (i0.trans z)) (fun d v T H' m z => he d v T H' m (i0.trans z)) Dl hD fun H' ac => ?_
  · obtain ⟨h1, c, h2, h3⟩ := y
    refine ⟨h1, .str ⟨#[c]⟩, ?_, fun T _ => h3⟩
    unfold signs1
    rw [List.getElem?_map, Array.getElem?_toList, h2]
    all_goals rfl
  · obtain ⟨ys, h0, h1, h2, h3⟩ := ac.fin e1
    exact q Dl ys H' h0 h1 h2 h3
/-- over range(n) -/
def nums (n : Nat) : List PyData := (List.range n).map fun i => .int ((i : Nat) : Int)
theorem n_lcR {ta : TA} {n : Nat} (p : PyData → Bool) (F : PyData → PyData) (hS : Dom S H) (hl : EvDs K S ta σ H [.int n]) (hz : n ≤ 50000) (hw : ∀ x, wipe ((wipe σ vs).set j (some x)) vs = wipe σ vs)
    (ht : ∀ d v T H1, d ∈ nums n → In S T H H1 → Rp K (Lo T H1) d v → EvT tt ((wipe σ vs).set j (some v)) H1 (p d))
    (he : ∀ d v T H1, d ∈ nums n → In S T H H1 → Rp K (Lo T H1) d v → p d = true → EvD K T te ((wipe σ vs).set j (some v)) H1 (F d)) :
    EvN K S (tLc (iRng1 ta) (gName j) tt te vs) σ H (((nums n).filter p).map F) := fun H0 e Q q => hl H0 e _ fun us H1 e1 r => by
  obtain ⟨v, r0, rfl, hv, hr⟩ := r
  obtain rfl : v = V.int n := hv
  obtain rfl : r0 = [] := hr
  have i0 := In.of hS (e.trans e1)
  have hn : (nums n).length = n := by
    unfold nums
    rw [List.length_map, List.length_range]
  refine ⟨n, rfl, by omega, by omega, fun Dl hD => ?_⟩
  have hw2 : Walk (Itr 0 (n : Int).toNat) (nums n).length (fun _ => True) (YFn fun i => .int (0 + i)) := by
    rw [hn, Int.toNat_natCast]
    exact walk_range
  refine lc_data (K := K) (S := S) hw2 p F i0.dom (by rw [hn]; exact hz) hw (fun H' e' => True.intro) (fun i H' v H'' lt e' y => ?_) (fun d v T H' m z => ht d v T H' m (i0.trans z)) (fun d v T H' m z => he d v T H' m (i0.trans z)) Dl hD fun H' ac => ?_
  · have y : H'' = H' ∧ v = .int (0 + (i : Nat)) := y
    obtain ⟨h1, rfl⟩ := y
    have hi : i < n := by
      rw [hn] at lt
      exact lt
    refine ⟨h1, .int (i : Nat), ?_, fun T _ => by rw [Int.zero_add]; rfl⟩
    unfold nums
    rw [List.getElem?_map, List.getElem?_range hi]
    all_goals rfl
  · obtain ⟨ys, h0, h1, h2, h3⟩ := ac.fin e1
    exact q Dl ys H' h0 h1 h2 h3
/-- a dict's keys, in order, as data -/
theorem keys_get : ∀ {es : List (PyData × PyData)} {kvs : List (Key × V)} {i : Nat} {kv : Key × V} {H : Hp}, RpD K H es kvs → kvs[i]? = some kv → ∃ d, es[i]? = some (keyD kv.1, d) ∧ Rp K H d kv.2
  | [], _, _, _, _, h, e => by cases (show _ = [] from h); simp at e
  | (a, b) :: ds, _, 0, kv, _, h, e => by
    obtain ⟨k, v, r, rfl, rfl, hv, hl⟩ := h
    cases (show some (k, v) = some kv from e)
    exact ⟨b, rfl, hv⟩
  | (a, b) :: ds, _, i + 1, kv, _, h, e => by
    obtain ⟨k, v, r, rfl, rfl, hv, hl⟩ := h
    exact keys_get (i := i) hl e
theorem rp_kV {k : Key} {H : Hp} : Rp K H (keyD k) (kV k) := by
  cases k <;> rfl
/-- either reading -/
def tAlt (t u : TE) : TE := fun σ H Q => t σ H Q ∨ u σ H Q
theorem pe_alt {X : Cx} {e : Expr} {t u : TE} (h1 : PE X e t) (h2 : PE X e u) : PE X e (tAlt t u) :=
  ⟨fun pins s σ H Q I h => h.elim (h1.run pins s σ H Q I) (h2.run pins s σ H Q I)⟩
/-- a comprehension over a dict: locked here, or locked by a caller already -/
theorem pe_lcKeys {X : Cx} {e : Expr} {t : TE} (h : PE X e t) : PE X e (tAlt (tLockE t) t) := pe_alt (pe_lock h) h
theorem n_lcK {es : List (PyData × PyData)} {i : Nat} {v0 : V} (p : PyData → Bool) (F : PyData → PyData) (hS : Dom S H) (hv : σ[i]? = some (some v0)) (hr : Rp K (Lo S H) (.dict es) v0) (hz : es.length ≤ 50000) (hw : ∀ x, wipe ((wipe σ vs).set j (some x)) vs = wipe σ vs)
    (ht : ∀ d v T H1, d ∈ es.map (·.1) → In S T H H1 → Rp K (Lo T H1) d v → EvT tt ((wipe σ vs).set j (some v)) H1 (p d))
    (he : ∀ d v T H1, d ∈ es.map (·.1) → In S T H H1 → Rp K (Lo T H1) d v → p d = true → EvD K T te ((wipe σ vs).set j (some v)) H1 (F d)) :
    EvN K S (tAlt (tLockE (tLc (iKeys (tVar i)) (gName j) tt te vs)) (tLc (iKeys (tVar i)) (gName j) tt te vs)) σ H (((es.map (·.1)).filter p).map F) := fun H0 e Q q => by
  obtain ⟨a, kvs, rfl, hs, hd⟩ := hr.ex (lo_ex e)
  have h0 : Dom S H0 := hS.ex e
  have hs2 : Rd H0 a (.dK kvs) := ex_rd lo_sub hs
  have ha : ¬ a ∈ S := fun m => by
    rcases hs with z | ⟨o, z⟩ <;> (rw [lo_in m] at z; cases z)
  have hlen : kvs.length = (es.map (·.1)).length := by
    rw [List.length_map, hd.length]
  -- the walk itself, over a heap where the dict is locked
  have core : ∀ (od : Obj) (HL : Hp) (Q' : VK), In S S H0 HL → HL a = some (.frz od (.dK kvs)) → (∀ Dl H', Acc K S HL Dl (((es.map (·.1)).filter p).map F) H' → Q' (.ref Dl) H') → tLc (iKeys (tVar i)) (gName j) tt te vs σ HL Q' := by
    intro od HL Q' i1 hf q'
    refine ⟨.ref a, hv, a, od, rfl, Or.inl ⟨kvs, hf, fun Dl hD => ?_⟩⟩
    have i2 := (In.of hS e).trans i1
    refine lc_data (K := K) (S := S) (hlen ▸ walk_keys (d := a) (o := od) (kvs := kvs)) p F i1.dom (by rw [List.length_map]; exact hz) hw (fun H' e' => e' a _ hf) (fun n H' x H'' lt e' y => ?_) (fun d v T H' m z => ht d v T H' m (i2.trans z)) (fun d v T H' m z => he d v T H' m (i2.trans z)) Dl hD fun H' ac => q' Dl H' ac
    obtain ⟨h1, k, v, h2, rfl⟩ := y
    obtain ⟨d, h3, _⟩ := keys_get hd h2
    refine ⟨h1, keyD k, ?_, fun T _ => rp_kV⟩
    rw [List.getElem?_map, h3]
    all_goals rfl
  rcases hs2 with h | ⟨o, h⟩
  · refine Or.inl ⟨a, .dK kvs, h, True.intro, fun od => ?_⟩
    have hl : Rx H0 (upd H0 a (.frz od (.dK kvs))) := rx_lock h fun _ _ z => nomatch z
    have hl2 : Rx (Lo S H0) (Lo S (upd H0 a (.frz od (.dK kvs)))) := by
      rw [lo_upd_out ha]
      exact rx_lock (by rw [lo_out ha]; exact h) fun _ _ z => nomatch z
    refine core od _ _ ⟨hl, hl2, h0.upd⟩ upd_same fun Dl H' ac => ?_
    have hf : H' a = some (.frz od (.dK kvs)) := ac.ex a _ upd_same
    have hDa : Dl ≠ a := fun z => by
      have := ac.new
      rw [z, upd_same] at this
      cases this
    have hD0 : H0 Dl = none := by
      have := ac.new
      rw [upd_ne hDa] at this
      exact this
    obtain ⟨ys, g1, g2⟩ := ac.own.at_
    refine ⟨hf, q Dl ys _ hD0 (fun b u hb => ?_) (by rw [upd_ne hDa]; exact g1) (g2.rx ?_)⟩
    · by_cases z : b = a
      · subst z
        rw [h] at hb
        rw [upd_same]
        exact hb
      · rw [upd_ne z]
        exact ac.ex b u (by rw [upd_ne z]; exact hb)
    · have na : ¬ a ∈ Dl :: S := fun m => (List.mem_cons.mp m).elim (fun z => hDa z.symm) ha
      rw [lo_upd_out na]
      exact rx_free (o := od) (by rw [lo_out na]; exact hf)
  · refine Or.inr (core o H0 Q (In.self h0) h fun Dl H' ac => ?_)
    obtain ⟨ys, g0, g1, g2, g3⟩ := ac.fin (Ex.refl H0)
    exact q Dl ys H' g0 g1 g2 g3
end
end Lx
namespace Lx
open PySem PySem.Spec PyProof.Rows L2 Evl
section
variable {K : PySem.W.Frag} {S : List Addr} {σ : L2.St} {H H' : Hp} {ta tb te tc : TE} {d : PyData} {es : List (PyData × PyData)}
theorem d_lenK (ha : EvD K S ta σ H (.dict es)) : EvD K S (tCB rLenK (tCons ta tNil)) σ H (.int es.length) := fun H1 e Q q =>
  ha H1 e _ fun v H2 e2 r => by
    obtain ⟨a, kvs, rfl, hs, hl⟩ := r
    refine ⟨a, kvs, rfl, ex_rd lo_sub hs, ?_⟩
    rw [hl.length]
    exact q _ H2 e2 rfl
end
end Lx
namespace Lx
open PySem PySem.Spec PyProof.Rows L2 Evl
def isInt : PyData → Bool
  | .int _ => true
  | .bool _ => true
  | _ => false
theorem kit_isInt : ∀ d : PyData, kitB (tyN d) "int" = some (isInt d)
  | .none => (by decide +kernel : kitB "NoneType" "int" = some false)
  | .bool _ => (by decide +kernel : kitB "bool" "int" = some true)
  | .int _ => (by decide +kernel : kitB "int" "int" = some true)
  | .str _ => (by decide +kernel : kitB "str" "int" = some false)
  | .list _ => (by decide +kernel : kitB "list" "int" = some false)
  | .tuple _ => (by decide +kernel : kitB "tuple" "int" = some false)
  | .dict _ => (by decide +kernel : kitB "dict" "int" = some false)
def isBool : PyData → Bool
  | .bool _ => true
  | _ => false
theorem kit_isBool : ∀ d : PyData, kitB (tyN d) "bool" = some (isBool d)
  | .none => (by decide +kernel : kitB "NoneType" "bool" = some false)
  | .bool _ => (by decide +kernel : kitB "bool" "bool" = some true)
  | .int _ => (by decide +kernel : kitB "int" "bool" = some false)
  | .str _ => (by decide +kernel : kitB "str" "bool" = some false)
  | .list _ => (by decide +kernel : kitB "list" "bool" = some false)
  | .tuple _ => (by decide +kernel : kitB "tuple" "bool" = some false)
  | .dict _ => (by decide +kernel : kitB "dict" "bool" = some false)
def isStr : PyData → Bool
  | .str _ => true
  | _ => false
theorem kit_isStr : ∀ d : PyData, kitB (tyN d) "str" = some (isStr d)
  | .none => (by decide +kernel : kitB "NoneType" "str" = some false)
  | .bool _ => (by decide +kernel : kitB "bool" "str" = some false)
  | .int _ => (by decide +kernel : kitB "int" "str" = some false)
  | .str _ => (by decide +kernel : kitB "str" "str" = some true)
  | .list _ => (by decide +kernel : kitB "list" "str" = some false)
  | .tuple _ => (by decide +kernel : kitB "tuple" "str" = some false)
  | .dict _ => (by decide +kernel : kitB "dict" "str" = some false)
def isLst : PyData → Bool
  | .list _ => true
  | _ => false
theorem kit_isLst : ∀ d : PyData, kitB (tyN d) "list" = some (isLst d)
  | .none => (by decide +kernel : kitB "NoneType" "list" = some false)
  | .bool _ => (by decide +kernel : kitB "bool" "list" = some false)
  | .int _ => (by decide +kernel : kitB "int" "list" = some false)
  | .str _ => (by decide +kernel : kitB "str" "list" = some false)
  | .list _ => (by decide +kernel : kitB "list" "list" = some true)
  | .tuple _ => (by decide +kernel : kitB "tuple" "list" = some false)
  | .dict _ => (by decide +kernel : kitB "dict" "list" = some false)
def isTup : PyData → Bool
  | .tuple _ => true
  | _ => false
theorem kit_isTup : ∀ d : PyData, kitB (tyN d) "tuple" = some (isTup d)
  | .none => (by decide +kernel : kitB "NoneType" "tuple" = some false)
  | .bool _ => (by decide +kernel : kitB "bool" "tuple" = some false)
  | .int _ => (by decide +kernel : kitB "int" "tuple" = some false)
  | .str _ => (by decide +kernel : kitB "str" "tuple" = some false)
  | .list _ => (by decide +kernel : kitB "list" "tuple" = some false)
  | .tuple _ => (by decide +kernel : kitB "tuple" "tuple" = some true)
  | .dict _ => (by decide +kernel : kitB "dict" "tuple" = some false)
def isDct : PyData → Bool
  | .dict _ => true
  | _ => false
theorem kit_isDct : ∀ d : PyData, kitB (tyN d) "dict" = some (isDct d)
  | .none => (by decide +kernel : kitB "NoneType" "dict" = some false)
  | .bool _ => (by decide +kernel : kitB "bool" "dict" = some false)
  | .int _ => (by decide +kernel : kitB "int" "dict" = some false)
  | .str _ => (by decide +kernel : kitB "str" "dict" = some false)
  | .list _ => (by decide +kernel : kitB "list" "dict" = some false)
  | .tuple _ => (by decide +kernel : kitB "tuple" "dict" = some false)
  | .dict _ => (by decide +kernel : kitB "dict" "dict" = some true)
section
variable {K : PySem.W.Frag} {S : List Addr} {σ : L2.St} {H : Hp} {ta : TE} {d : PyData}
theorem d_isInt (h : EvD K S ta σ H d) : EvD K S (tCB (rIsi K) (tCons ta (tCons (tC (.ty "int")) tNil))) σ H (.bool (isInt d)) := d_isi h (kit_isInt d)
theorem d_isBool (h : EvD K S ta σ H d) : EvD K S (tCB (rIsi K) (tCons ta (tCons (tC (.ty "bool")) tNil))) σ H (.bool (isBool d)) := d_isi h (kit_isBool d)
theorem d_isStr (h : EvD K S ta σ H d) : EvD K S (tCB (rIsi K) (tCons ta (tCons (tC (.ty "str")) tNil))) σ H (.bool (isStr d)) := d_isi h (kit_isStr d)
theorem d_isLst (h : EvD K S ta σ H d) : EvD K S (tCB (rIsi K) (tCons ta (tCons (tC (.ty "list")) tNil))) σ H (.bool (isLst d)) := d_isi h (kit_isLst d)
theorem d_isTup (h : EvD K S ta σ H d) : EvD K S (tCB (rIsi K) (tCons ta (tCons (tC (.ty "tuple")) tNil))) σ H (.bool (isTup d)) := d_isi h (kit_isTup d)
theorem d_isDct (h : EvD K S ta σ H d) : EvD K S (tCB (rIsi K) (tCons ta (tCons (tC (.ty "dict")) tNil))) σ H (.bool (isDct d)) := d_isi h (kit_isDct d)
end
end Lx
namespace Lx
open PySem PySem.Spec PyProof.Rows L2 Evl
/-! ### a list of the def's own: popped, lengthened -/
section
variable {K : PySem.W.Frag} {S : List Addr} {σ : L2.St} {H H0 H1 : Hp} {te : TE} {ds es : List PyData} {d : PyData} {p : Addr} {m n : Nat} {D : Ends} {tz : TS}
theorem Acc.up (a : Acc K S H0 p ds H) (e : Ex H H1) : Acc K S H0 p ds H1 := ⟨a.new, a.ex.trans e, a.own.ex e⟩
theorem Acc.put (a : Acc K S H0 p ds H) (e : Ex H H1) {xs : List V} (r : RpL K (Lo (p :: S) H1) es xs) : Acc K S H0 p es (upd H1 p (.lst xs)) :=
  ⟨a.new, Ex.mut (a.ex.trans e) a.new, Own.put (List.mem_cons_self ..) r⟩
theorem acc_mk {xs : List V} (hp : H p = none) (e : Ex H H1) (h : H1 p = some (.lst xs)) (r : RpL K (Lo (p :: S) H1) ds xs) : Acc K S H p ds H1 := ⟨hp, e, own_new h r⟩
theorem acc_truth (hv : σ[m]? = some (some (.ref p))) (a : Acc K S H0 p ds H) : EvT (fun σ H Q => tVar m σ H fun x H' => ∃ k, TruV K x H' k ∧ Q k H') σ H (!ds.isEmpty) := fun H1 e Q q => by
  obtain ⟨xs, h1, h2⟩ := (a.up e).own.at_
  refine ⟨.ref p, hv, !ds.isEmpty, Or.inl ⟨xs, sq_of h1, ?_⟩, q H1 (Ex.refl _)⟩
  have l := h2.length
  cases xs with
  | nil =>
    cases ds with
    | nil => rfl
    | cons _ _ => cases l
  | cons _ _ =>
    cases ds with
    | nil => cases l
    | cons _ _ => rfl
theorem rpL_last : ∀ {ds : List PyData} {xs : List V}, RpL K H (ds ++ [d]) xs → ∃ ys v, xs = ys ++ [v] ∧ RpL K H ds ys ∧ Rp K H d v
  | [], _, h => by
    obtain ⟨v, rfl, hv⟩ := rpL1 h
    exact ⟨[], v, rfl, rfl, hv⟩
  | e :: ds, _, h => by
    obtain ⟨v, vs, rfl, hv, hl⟩ := h
    obtain ⟨ys, u, rfl, hy, hu⟩ := rpL_last hl
    exact ⟨v :: ys, u, rfl, ⟨v, ys, rfl, hv, hy⟩, hu⟩
theorem acc_pop (hv : σ[m]? = some (some (.ref p))) (a : Acc K S H0 p (ds ++ [d]) H) (k : ∀ v H1, Acc K S H0 p ds H1 → Rp K (Lo (p :: S) H1) d v → tz D (σ.set n (some v)) H1) :
    tSeq (tAsg (tBM0 K "list" rPop (tVar m)) (gName n)) tz D σ H := by
  obtain ⟨xs, h1, h2⟩ := a.own.at_
  obtain ⟨ys, v, rfl, hy, hd⟩ := rpL_last h2
  refine ⟨.ref p, hv, Or.inl ⟨rfl, _, sq_of h1⟩, p, ys ++ [v], v, rfl, rfl, h1, ?_, ?_⟩
  · rw [List.length_append, List.length_singleton, Nat.add_sub_cancel, List.getElem?_append_right (Nat.le_refl _), Nat.sub_self]
    all_goals rfl
  · rw [List.dropLast_concat]
    refine k v _ (a.put (Ex.refl _) hy) ?_
    rw [lo_upd_in (List.mem_cons_self ..)]
    exact hd
theorem acc_ext (hv : σ[m]? = some (some (.ref p))) (a : Acc K S H0 p ds H) (h : EvD K (p :: S) te σ H (.tuple es)) (hz : ds.length + es.length ≤ sizeLine) (k : ∀ H1, Acc K S H0 p (ds ++ es) H1 → D.nx σ H1) :
    tDrop (tBM K "list" (rExtT K) (tVar m) (tCons te tNil)) D σ H := by
  obtain ⟨xs, h1, h2⟩ := a.own.at_
  refine ⟨.ref p, hv, Or.inl ⟨rfl, xs, sq_of h1⟩, h H (Ex.refl _) _ fun v H2 e2 r => ?_⟩
  obtain ⟨b, ys, rfl, hs, hl⟩ := r
  refine ⟨p, b, xs, ys, rfl, rfl, e2 p _ h1, (Rx.of lo_sub).t hs, by rw [h2.length, hl.length]; exact hz, ?_⟩
  exact k _ (a.put e2 ((h2.ex (lo_ex e2)).append hl))
theorem acc_app (hv : σ[m]? = some (some (.ref p))) (a : Acc K S H0 p ds H) (h : EvD K (p :: S) te σ H d) (hz : ds.length < 100000) (k : ∀ H1, Acc K S H0 p (ds ++ [d]) H1 → D.nx σ H1) :
    tDrop (tBM K "list" rAppend (tVar m) (tCons te tNil)) D σ H := by
  obtain ⟨xs, h1, h2⟩ := a.own.at_
  refine ⟨.ref p, hv, Or.inl ⟨rfl, xs, sq_of h1⟩, h H (Ex.refl _) _ fun v H2 e2 r => ⟨p, xs, v, rfl, rfl, e2 p _ h1, sz_lt (by rw [h2.length]; exact hz), ?_⟩⟩
  exact k _ (a.put e2 ((h2.ex (lo_ex e2)).append ⟨v, [], rfl, r, rfl⟩))
/-- a list of the def's own is handed back -/
theorem Acc.new_ (a : Acc K S H0 p ds H) : ∃ xs, H0 p = none ∧ Ex H0 H ∧ H p = some (.lst xs) ∧ RpL K (Lo (p :: S) H) ds xs := a.fin (Ex.refl _)
end
/-! ### dicts as data -/
section
variable {K : PySem.W.Frag} {H : Hp}
def getD (es : List (PyData × PyData)) : PyData → PyData
  | .int i => (lookD es (.inl i)).getD .none
  | .str x => (lookD es (.inr x)).getD .none
  | _ => .none
theorem getD_key (es : List (PyData × PyData)) (k : Key) : getD es (keyD k) = (lookD es k).getD .none := by cases k <;> rfl
theorem rpD_key : ∀ {es : List (PyData × PyData)} {kvs : List (Key × V)} {d : PyData}, RpD K H es kvs → d ∈ es.map (·.1) → ∃ k u, d = keyD k ∧ lookD es k = some u
  | [], _, _, _, m => by simp at m
  | (a, b) :: es, _, d, h, m => by
    obtain ⟨k, v, r, rfl, rfl, hv, hl⟩ := h
    have hit : lookD ((keyD k, b) :: es) k = some b := by
      show (if keyB (keyD k) k then some b else lookD es k) = some b
      rw [keyB_keyD, decide_eq_true rfl, if_pos rfl]
    rcases List.mem_cons.mp m with e | m
    · exact ⟨k, b, e, hit⟩
    · obtain ⟨k2, u, rfl, e⟩ := rpD_key hl m
      by_cases c : k = k2
      · subst c
        exact ⟨k, b, rfl, hit⟩
      · refine ⟨k2, u, rfl, ?_⟩
        show (if keyB (keyD k) k2 then some b else lookD es k2) = some u
        rw [keyB_keyD, decide_eq_false c, if_neg Bool.false_ne_true]
        exact e
theorem keyB_of : ∀ {d : PyData} {k : Key}, keyB d k = true → d = keyD k
  | .int i, .inl j, h => by rw [show i = j from of_decide_eq_true h]; rfl
  | .str x, .inr y, h => by rw [show x = y from of_decide_eq_true h]; rfl
  | .none, _, h => by cases h
  | .bool _, _, h => by cases h
  | .list _, _, h => by cases h
  | .tuple _, _, h => by cases h
  | .dict _, _, h => by cases h
  | .int _, .inr _, h => by cases h
  | .str _, .inl _, h => by cases h
theorem lookD_mem : ∀ {es : List (PyData × PyData)} {k : Key} {u : PyData}, lookD es k = some u → keyD k ∈ es.map (·.1)
  | [], _, _, h => by cases h
  | (a, b) :: es, k, u, h => by
    have h2 : (if keyB a k then some b else lookD es k) = some u := h
    by_cases c : keyB a k = true
    · exact List.mem_cons.mpr (Or.inl (keyB_of c).symm)
    · rw [if_neg c] at h2
      exact List.mem_cons_of_mem _ (lookD_mem h2)
end
end Lx
namespace Lx
open PySem PySem.Spec PyProof.Rows L2 Evl
theorem atI_zero {α : Type} {x : α} {xs : List α} : atI (x :: xs) 0 = some x := by
  unfold atI ixN
  rw [if_pos (by omega), if_pos (by rw [List.length_cons]; omega)]
  all_goals rfl
theorem atI_of {α : Type} {xs : List α} {x : α} {j : Nat} {z : Int} (e : z = (j : Int)) (h : xs[j]? = some x) : atI xs z = some x := by
  subst e
  have hj := (List.getElem?_eq_some_iff.mp h).1
  unfold atI ixN
  rw [if_pos (by omega), if_pos (by omega)]
  show xs[((j : Nat) : Int).toNat]? = some x
  rw [Int.toNat_natCast]
  exact h
end Lx
namespace Lx
open PySem PySem.Spec PyProof.Rows L2 Evl
theorem sl_one (ds : List PyData) : (ds.drop (HT.sIx ds.length 0 (some 1))).take (HT.sIx ds.length ds.length none - HT.sIx ds.length 0 (some 1)) = ds.drop 1 := by
  have e1 : HT.sIx ds.length 0 (some 1) = min 1 ds.length := HT.sIx_nat ds.length 0 1
  have e2 : HT.sIx ds.length ds.length none = ds.length := rfl
  rw [e1, e2]
  cases ds with
  | nil => rfl
  | cons d ds =>
    have e3 : min 1 (d :: ds).length = 1 := by rw [List.length_cons]; omega
    rw [e3]
    apply List.take_of_length_le
    rw [List.length_drop]
    all_goals exact Nat.le_refl _
theorem d_tail {K : PySem.W.Frag} {S : List Addr} {σ : L2.St} {H : Hp} {ta : TE} {ds : List PyData} (hS : Dom S H) (ha : EvD K S ta σ H (.tuple ds)) : EvD K S (tSl (rSlA K) ta (tPart (tC (.int 1))) tNoPart) σ H (.tuple (ds.drop 1)) := by
  have h := d_slT (lo := some 1) (hi := none) hS ha (o_some (K := K) (S := S) d_int) o_none
  rw [sl_one] at h
  exact h
end Lx
namespace Lx
open PySem PySem.Spec PyProof.Rows L2 Evl
section
variable {K : PySem.W.Frag} {S : List Addr} {σ : L2.St} {H : Hp} {ta : TE} {d : PyData}
/-- repr of a list or a tuple -/
theorem d_repr (h : EvD K S ta σ H d) (hr : ∀ v, Rp K H d v → ∃ a, v = V.ref a) (nd : noDict d = true) (hs : d.showable = true) (hz : d.shown.length ≤ sizeLine) (hp : d.depth ≤ 60) (hr2 : ∀ H' v, Rp K H' d v → ∃ a, v = V.ref a) :
    EvD K S (tCB (rRepr K) (tCons ta tNil)) σ H (.str d.shown) := fun H1 e Q q => h H1 e _ fun v H2 e2 r => by
  obtain ⟨a, rfl⟩ := hr2 _ v r
  exact ⟨a, d, rfl, r.ex lo_sub, nd, hs, hz, hp, q _ H2 e2 rfl⟩
theorem d_reprL {ds : List PyData} (h : EvD K S ta σ H (.list ds)) (nd : noDict (.list ds) = true) (hs : (PyData.list ds).showable = true) (hz : (PyData.list ds).shown.length ≤ sizeLine) (hp : (PyData.list ds).depth ≤ 60) :
    EvD K S (tCB (rRepr K) (tCons ta tNil)) σ H (.str (PyData.list ds).shown) :=
  d_repr h (fun v r => let ⟨a, _, e, _⟩ := r; ⟨a, e⟩) nd hs hz hp fun H' v r => let ⟨a, _, e, _⟩ := r; ⟨a, e⟩
/-! a written dict -/
def DPs (K : PySem.W.Frag) (S : List Addr) (σ : L2.St) (H : Hp) : List (TE × TE) → List (Key × PyData) → Prop
  | [], [] => True
  | (tk, tv) :: r, (k, d) :: s => EvD K S tk σ H (keyD k) ∧ EvD K S tv σ H d ∧ DPs K S σ H r s
  | _, _ => False
theorem DPs.mono {H' : Hp} (e : Ex H H') : ∀ {trs : List (TE × TE)} {kds : List (Key × PyData)}, DPs K S σ H trs kds → DPs K S σ H' trs kds
  | [], [], _ => True.intro
  | (_, _) :: _, (_, _) :: _, h => ⟨h.1.mono e, h.2.1.mono e, h.2.2.mono e⟩
  | [], _ :: _, h => h.elim
  | _ :: _, [], h => h.elim
def datP (kds : List (Key × PyData)) : List (PyData × PyData) := kds.map fun kd => (keyD kd.1, kd.2)
theorem pairs_run : ∀ {trs : List (TE × TE)} {kds : List (Key × PyData)} {H : Hp} {Q : List (V × V) → Hp → Prop}, DPs K S σ H trs kds →
    (∀ kvs H', Ex H H' → kvs.map (·.1) = kds.map (·.1) → RpD K (Lo S H') (datP kds) kvs → Q (kvs.map fun kv => (kV kv.1, kv.2)) H') → tPairs trs σ H Q
  | [], [], H, Q, _, q => q [] H (Ex.refl H) rfl rfl
  | (tk, tv) :: r, (k, d) :: s, H, Q, h, q => h.1 H (Ex.refl H) _ fun x H1 e1 rx => h.2.1 H1 e1 _ fun y H2 e2 ry => by
    refine pairs_run (h.2.2.mono (e1.trans e2)) fun kvs H3 e3 hk rd => ?_
    have hx := rp_key rx
    subst hx
    refine q ((k, y) :: kvs) H3 ((e1.trans e2).trans e3) ?_ ⟨k, y, kvs, rfl, rfl, ry.ex (lo_ex e3), rd⟩
    rw [List.map_cons, List.map_cons, hk]
  | [], _ :: _, _, _, h, _ => h.elim
  | _ :: _, [], _, _, h, _ => h.elim
theorem merge_nodup : ∀ (kvs acc : List (Key × V)), (acc.map (·.1) ++ kvs.map (·.1)).Nodup → mergeK acc kvs = acc ++ kvs
  | [], acc, _ => (List.append_nil acc).symm
  | kv :: kvs, acc, h => by
    have hn : valV acc kv.1 = none := by
      cases e : valV acc kv.1 with
      | none => rfl
      | some v =>
        have m := valV_in e
        rw [List.map_cons, List.nodup_append] at h
        exact absurd rfl (h.2.2 _ m _ (List.mem_cons_self ..))
    show mergeK (putK acc kv.1 kv.2) kvs = _
    rw [putK_new kv.2 hn, merge_nodup kvs]
    · rw [List.append_assoc]
      all_goals rfl
    · rw [List.map_append, List.append_assoc]
      exact h
theorem d_disp {trs : List (TE × TE)} {kds : List (Key × PyData)} (hS : Dom S H) (hn : (kds.map (·.1)).Nodup) (hl : kds.length ≤ 15) (h : ∀ T H', In S T H H' → DPs K T σ H' trs kds) : EvD K S (tDisp trs) σ H (.dict (datP kds)) := fun H1 e Q q => by
  intro p hp
  have hS1 := hS.ex e
  have i1 : In S (p :: S) H1 (upd H1 p (.dK [])) := by
    refine ⟨Rx.of (Ex.new hp), Rx.of fun b o hb => ?_, (hS1.ex (Ex.new hp)).cons upd_same⟩
    have hb2 := lo_sub b o hb
    have hbp : b ≠ p := ne_of_none hb2 hp
    by_cases hm : b ∈ S
    · rw [lo_in hm] at hb
      cases hb
    · rw [lo_out (fun z => (List.mem_cons.mp z).elim hbp hm), upd_ne hbp]
      exact hb2
  refine pairs_run (h _ _ ((In.of hS e).trans i1)) fun kvs H2 e2 hk rd => ?_
  have h2 : H2 p = some (.dK []) := e2 p _ upd_same
  have hl2 : kvs.length = kds.length := by
    have := congrArg List.length hk
    rw [List.length_map, List.length_map] at this
    exact this
  refine ⟨h2, kvs, rfl, by omega, ?_⟩
  have hm : mergeK [] kvs = kvs := by
    have := merge_nodup kvs [] (by rw [hk]; exact hn)
    exact this
  rw [hm]
  have ho : ¬ p ∈ S := hS1.out hp
  refine q (.ref p) _ (Ex.mut ((Ex.new hp).trans e2) hp) ⟨p, kvs, rfl, Or.inl (by rw [lo_out ho, upd_same]), rd.ex fun b o hb => ?_⟩
  have hbp : b ≠ p := fun z => by
    rw [z, lo_in (List.mem_cons_self ..)] at hb
    cases hb
  rw [lo_upd_out ho, upd_ne hbp]
  exact lo_anti (fun c hc => List.mem_cons_of_mem _ hc) b o hb
end
end Lx
namespace Lx
open PySem PySem.Spec PyProof.Rows L2 Evl
/-! the same rules, the written part told: for what stands within a comprehension -/
section
variable {X : Cx} {K : PySem.W.Frag}
theorem c_len' (h : X.K = K) : CallR X (.builtin "len") (rLenS K) := h ▸ c_len
theorem c_list' (h : X.K = K) : CallR X (.type "list") (rListS K) := h ▸ c_list
theorem c_tuple' (h : X.K = K) : CallR X (.type "tuple") (rTupS K) := h ▸ c_tuple
theorem ix_list' (h : X.K = K) : IxR X (rIxL K) := h ▸ ix_list
theorem ix_tup' (h : X.K = K) : IxR X (rIxT K) := h ▸ ix_tup
theorem sl_list' (h : X.K = K) : SlR X (rSlL K) := h ▸ sl_list
theorem sl_tupA' (h : X.K = K) : SlR X (rSlA K) := h ▸ sl_tupA
theorem op_catA' (h : X.K = K) : OpR X (binaryOp .Add) (rCatA K) := h ▸ op_catA
theorem call_isi' (h : X.K = K) : CallR X (.builtin "isinstance") (rIsi K) := h ▸ call_isi
theorem cr_sum' (hc : X.calm = true) (h : X.K = K) : CallR X (.builtin "sum") (rSum K) := h ▸ cr_sum hc
theorem cr_all' (hc : X.calm = true) (h : X.K = K) : CallR X (.builtin "all") (rAll K) := h ▸ cr_all hc
theorem cr_any' (hc : X.calm = true) (h : X.K = K) : CallR X (.builtin "any") (rAny K) := h ▸ cr_any hc
theorem op_eqD' (hu : X.A.units + 64 < cLine) (h : X.K = K) : OpR X (compareOp .Eq) (rEqD K) := h ▸ op_eqD hu
theorem op_neD' (hu : X.A.units + 64 < cLine) (h : X.K = K) : OpR X (compareOp .NotEq) (rNeD K) := h ▸ op_neD hu
theorem pi_list' {tg e : Expr} {tl : TE} (he : PE X e tl) (h : X.K = K) : PI X tg e (iList K tl) := h ▸ pi_list he
theorem pi_tup' {tg e : Expr} {tl : TE} (he : PE X e tl) (h : X.K = K) : PI X tg e (iTup K tl) := h ▸ pi_tup he
end
end Lx
namespace Lx
open PySem PySem.Spec PyProof.Rows L2 Evl
theorem yes_of {σ : L2.St} {H : Hp} {F G : Hp → Prop} (h : F H) : tYes σ H (fun b H3 => if b = true then F H3 else G H3) := by
  show (if true = true then F H else G H)
  rw [if_pos rfl]
  exact h
end Lx
namespace Lx
open PySem PySem.Spec PyProof.Rows L2 Evl
theorem gname_of {i : Nat} {v : V} {σ : L2.St} {H : Hp} {Q : L2.St → Hp → Prop} (h : Q (σ.set i (some v)) H) : gName i v σ H Q := h
end Lx
/-! the pen that a law draws from -/
namespace Lx
open PySem PySem.Spec PyProof.Rows L2 Evl
/-- a pen at p: its cells (a list q that stays), how many it has used, what is left to draw from -/
def Pen (K : PySem.W.Frag) (H : Hp) (p q : Addr) (ns : List Int) (n : Int) : Prop := ∃ r : Int, H p = some (.lst [.ref q, .int n, .int r]) ∧ SqL K (Lo [p] H) q (ns.map V.int) ∧ 0 ≤ r ∧ 0 ≤ n ∧ ns.length ≤ 60
theorem lo1_upd {H : Hp} {p : Addr} {o : HO} : Lo [p] (upd H p o) = Lo [p] H := lo_upd_in (List.mem_cons_self ..)
theorem Pen.ex {K : PySem.W.Frag} {H H' : Hp} {p q : Addr} {ns : List Int} {n : Int} (h : Pen K H p q ns n) (e : Ex H H') : Pen K H' p q ns n := by
  obtain ⟨r, h1, h2, h3⟩ := h
  exact ⟨r, e p _ h1, (Rx.of (lo_ex e)).l h2, h3⟩
/-- another list is changed -/
theorem Pen.other {K : PySem.W.Frag} {H : Hp} {p q l : Addr} {ns : List Int} {n : Int} {o : HO} (h : Pen K H p q ns n) (hn : p ≠ l) (hc : SqL K (Lo [l, p] H) q (ns.map V.int)) : Pen K (upd H l o) p q ns n := by
  obtain ⟨r, h1, h2, h3⟩ := h
  refine ⟨r, by rw [upd_ne hn]; exact h1, ?_, h3⟩
  rw [← lo_upd_in (o := o) (List.mem_cons_self (a := l) (l := [p]))] at hc
  exact (Rx.of (lo_anti fun b hb => List.mem_cons_of_mem _ hb)).l hc
/-- what stays behind a draw -/
def Stay (p : Addr) (H H' : Hp) : Prop := ∀ b o, b ≠ p → H b = some o → H' b = some o
theorem Stay.of {p : Addr} {H H' : Hp} (e : Ex H H') : Stay p H H' := fun b o _ h => e b o h
theorem Stay.trans {p : Addr} {H H1 H2 : Hp} (a : Stay p H H1) (b : Stay p H1 H2) : Stay p H H2 := fun c o hn h => b c o hn (a c o hn h)
theorem Stay.upd {p : Addr} {H H' : Hp} {o : HO} (a : Stay p H H') : Stay p H (upd H' p o) := fun b u hn h => by
  rw [upd_ne hn]
  exact a b u hn h
theorem Stay.lo {p : Addr} {S : List Addr} {H H' : Hp} (a : Stay p H H') (hp : p ∈ S) : Ex (Lo S H) (Lo S H') := fun b o h => by
  by_cases hm : b ∈ S
  · rw [lo_in hm] at h
    cases h
  · rw [lo_out hm] at h ⊢
    exact a b o (fun z => hm (by rw [z]; exact hp)) h
/-- pen = [list(script[:60]), 0, 0] -/
def spPen (K : PySem.W.Frag) : Sp := fun vs H Q _ => ∃ (a : Addr) (ns : List Int), vs = [.ref a] ∧ SqL K H a (ns.map V.int) ∧ ∀ p q ms H', H p = none → Ex H H' → Pen K H' p q ms 0 → Q (.ref p) H'
def spNext (K : PySem.W.Frag) : Sp := fun vs H Q _ => ∃ (p q : Addr) (ns : List Int) (n : Int), vs = [.ref p] ∧ Pen K H p q ns n ∧ n < 1099511627776 ∧ ∀ x H', 0 ≤ x → Pen K H' p q ns (n + 1) → Stay p H H' → Q (.int x) H'
def spDraw (K : PySem.W.Frag) : Sp := fun vs H Q _ => ∃ (p q : Addr) (ns : List Int) (u n : Int), vs = [.ref p, .int u] ∧ 0 < u ∧ u < 1073741824 ∧ Pen K H p q ns n ∧ n < 1099511627776 ∧
  ∀ x n' H', 0 ≤ x → x < u → n' ≤ n + 1 → Pen K H' p q ns n' → Stay p H H' → Q (.int x) H'
theorem canLay_ints : ∀ ns : List Int, PyData.canLayAll0 (ns.map PyData.int) = true
  | [] => rfl
  | n :: ns => by
    show (true && PyData.canLayAll0 (ns.map PyData.int)) = true
    rw [canLay_ints ns]
    all_goals rfl
theorem depth_ints : ∀ ns : List Int, PyData.depthAll (ns.map PyData.int) = 0
  | [] => rfl
  | n :: ns => by
    show max 0 (PyData.depthAll (ns.map PyData.int)) = 0
    rw [depth_ints ns]
    all_goals rfl
theorem shaped_ints (ns : List Int) : SeqAt.shaped (.list (ns.map PyData.int)) = true := by
  unfold SeqAt.shaped
  rw [Bool.and_eq_true]
  constructor
  · exact canLay_ints ns
  · apply decide_eq_true
    show PyData.depthAll (ns.map PyData.int) + 1 ≤ 64
    rw [depth_ints]
    all_goals decide
theorem eqv_nil_ints (ns : List Int) : PyData.eqv (.list (ns.map PyData.int)) (.list []) = ns.isEmpty := by
  cases ns <;> rfl
theorem dp_ints {K : PySem.W.Frag} {H : Hp} : ∀ ns : List Int, DpAll K H (ns.map V.int) (ns.map PyData.int)
  | [] => .nil
  | n :: ns => .cons (.int n) (dp_ints ns)
section
variable {K : PySem.W.Frag} {H : Hp} {σ : L2.St} {ta tb : TE} {p : Addr}
/-- pen[0] != [] -/
theorem et_neNil {ns : List Int} (ha : Ev ta σ H (.ref p)) (h : SqL K H p (ns.map V.int)) : EvT (tTest (tOp (rNeD K) ta (tLst tNil))) σ H (!ns.isEmpty) := et_test (ev_opL ha (el_lst ea_nil (by decide)) fun q H1 hq e => by
  refine rv_val fun H2 e2 Q k => ?_
  refine ⟨.list (ns.map .int), .list [], .lst (ex_l (e.trans e2) h) (dp_ints ns), .lst (sq_of (e2 q _ hq)) .nil, shaped_ints ns, by decide +kernel, ?_⟩
  rw [eqv_nil_ints]
  exact k)
theorem ev_idx {xs : List V} {i : Int} {j : Nat} {v : V} (ha : Ev ta σ H (.ref p)) (hb : Ev tb σ H (.int i)) (h : SqL K H p xs) (e : i = (j : Int)) (hv : xs[j]? = some v) : Ev (tOp (rIxL K) ta tb) σ H v := ev_op ha hb (rv_ixL h (at_of e hv))
theorem ev_int' {i : Int} (h : Ev ta σ H (.int i)) : Ev (tCB rInt (tCons ta tNil)) σ H (.int i) := fun H1 e Q q => h H1 e _ fun H2 e2 => Or.inl ⟨i, rfl, q H2 e2⟩
end
end Lx
namespace K31
open PySem PySem.Spec PyProof.Rows L2 Evl Lx
def top (i : Nat) : Stmt := PySem.Challenge.pw_likeboughs_k31_sizes_by_name.main.body.getD i (.Pass ⟨0, 0, 0, 0⟩)
abbrev s_is_top : Stmt := top 5
theorem sc_is_top : FnScope ["signs", "thing", "sign"] ["signs", "thing"] (defScope s_is_top) := ⟨rfl, rfl, rfl, by decide +kernel, rfl, by decide +kernel, by decide +kernel⟩
abbrev s_is_grown : Stmt := top 6
theorem sc_is_grown : FnScope ["signs", "thing", "waiting", "tree"] ["signs", "thing"] (defScope s_is_grown) := ⟨rfl, rfl, rfl, by decide +kernel, rfl, by decide +kernel, by decide +kernel⟩
abbrev s_places_of : Stmt := top 7
theorem sc_places_of : FnScope ["thing", "places", "at", "part"] ["thing"] (defScope s_places_of) := ⟨rfl, rfl, rfl, by decide +kernel, rfl, by decide +kernel, by decide +kernel⟩
abbrev s_is_integer : Stmt := top 10
theorem sc_is_integer : FnScope ["thing"] ["thing"] (defScope s_is_integer) := ⟨rfl, rfl, rfl, by decide +kernel, rfl, by decide +kernel, by decide +kernel⟩
abbrev s_is_between : Stmt := top 11
theorem sc_is_between : FnScope ["thing", "least", "most"] ["thing", "least", "most"] (defScope s_is_between) := ⟨rfl, rfl, rfl, by decide +kernel, rfl, by decide +kernel, by decide +kernel⟩
abbrev s_is_name : Stmt := top 12
theorem sc_is_name : FnScope ["thing", "letter"] ["thing"] (defScope s_is_name) := ⟨rfl, rfl, rfl, by decide +kernel, rfl, by decide +kernel, by decide +kernel⟩
abbrev s_is_signs : Stmt := top 16
theorem sc_is_signs : FnScope ["thing", "sign"] ["thing"] (defScope s_is_signs) := ⟨rfl, rfl, rfl, by decide +kernel, rfl, by decide +kernel, by decide +kernel⟩
abbrev s_check_signs : Stmt := top 17
theorem sc_check_signs : FnScope ["signs"] ["signs"] (defScope s_check_signs) := ⟨rfl, rfl, rfl, by decide +kernel, rfl, by decide +kernel, by decide +kernel⟩
abbrev s_check_tree : Stmt := top 18
theorem sc_check_tree : FnScope ["signs", "tree"] ["signs", "tree"] (defScope s_check_tree) := ⟨rfl, rfl, rfl, by decide +kernel, rfl, by decide +kernel, by decide +kernel⟩
abbrev s_size : Stmt := top 19
theorem sc_size : FnScope ["signs", "tree"] ["signs", "tree"] (defScope s_size) := ⟨rfl, rfl, rfl, by decide +kernel, rfl, by decide +kernel, by decide +kernel⟩
abbrev s_law_pen : Stmt := top 21
theorem sc_law_pen : FnScope ["script"] ["script"] (defScope s_law_pen) := ⟨rfl, rfl, rfl, by decide +kernel, rfl, by decide +kernel, by decide +kernel⟩
abbrev s_law_next : Stmt := top 22
theorem sc_law_next : FnScope ["pen", "index", "cell_here", "some", "more", "high"] ["pen"] (defScope s_law_next) := ⟨rfl, rfl, rfl, by decide +kernel, rfl, by decide +kernel, by decide +kernel⟩
abbrev s_law_draw : Stmt := top 23
theorem sc_law_draw : FnScope ["pen", "under", "digit"] ["pen", "under"] (defScope s_law_draw) := ⟨rfl, rfl, rfl, by decide +kernel, rfl, by decide +kernel, by decide +kernel⟩
abbrev s_law_places : Stmt := top 24
theorem sc_law_places : FnScope ["here", "brother"] ["here"] (defScope s_law_places) := ⟨rfl, rfl, rfl, by decide +kernel, rfl, by decide +kernel, by decide +kernel⟩
abbrev s_law : Stmt := top 25
theorem sc_law : FnScope ["script", "pen", "lap", "here", "piles", "turn", "rank", "brothers", "grown", "one", "due", "k"] ["script"] (defScope s_law) := ⟨rfl, rfl, rfl, by decide +kernel, rfl, by decide +kernel, by decide +kernel⟩
structure Ad where
  f_is_top : Addr
  fd_is_top : FuncData
  f_is_grown : Addr
  fd_is_grown : FuncData
  f_places_of : Addr
  fd_places_of : FuncData
  f_is_integer : Addr
  fd_is_integer : FuncData
  f_is_between : Addr
  fd_is_between : FuncData
  f_is_name : Addr
  fd_is_name : FuncData
  f_is_signs : Addr
  fd_is_signs : FuncData
  f_check_signs : Addr
  fd_check_signs : FuncData
  f_check_tree : Addr
  fd_check_tree : FuncData
  f_size : Addr
  fd_size : FuncData
  f_law_pen : Addr
  fd_law_pen : FuncData
  f_law_next : Addr
  fd_law_next : FuncData
  f_law_draw : Addr
  fd_law_draw : FuncData
  f_law_places : Addr
  fd_law_places : FuncData
  f_law : Addr
  fd_law : FuncData
  t_LONGEST_NAME : Tok
  t_MOST_SIGNS : Tok
  t_MOST_BROTHERS : Tok
structure Txt (K : PySem.W.Frag) (mg : Str → Option Value) (A : Ad) : Prop where
  m_is_top : mg "is_top" = some (.ref A.f_is_top)
  F_is_top : Fun K "is_top" "is_top" s_is_top A.f_is_top A.fd_is_top
  b_is_top : Binds K A.fd_is_top ["signs", "thing"] []
  m_is_grown : mg "is_grown" = some (.ref A.f_is_grown)
  F_is_grown : Fun K "is_grown" "is_grown" s_is_grown A.f_is_grown A.fd_is_grown
  b_is_grown : Binds K A.fd_is_grown ["signs", "thing"] []
  m_places_of : mg "places_of" = some (.ref A.f_places_of)
  F_places_of : Fun K "places_of" "places_of" s_places_of A.f_places_of A.fd_places_of
  b_places_of : Binds K A.fd_places_of ["thing"] []
  m_is_integer : mg "is_integer" = some (.ref A.f_is_integer)
  F_is_integer : Fun K "is_integer" "is_integer" s_is_integer A.f_is_integer A.fd_is_integer
  b_is_integer : Binds K A.fd_is_integer ["thing"] []
  m_is_between : mg "is_between" = some (.ref A.f_is_between)
  F_is_between : Fun K "is_between" "is_between" s_is_between A.f_is_between A.fd_is_between
  b_is_between : Binds K A.fd_is_between ["thing", "least", "most"] []
  m_is_name : mg "is_name" = some (.ref A.f_is_name)
  F_is_name : Fun K "is_name" "is_name" s_is_name A.f_is_name A.fd_is_name
  b_is_name : Binds K A.fd_is_name ["thing"] []
  m_is_signs : mg "is_signs" = some (.ref A.f_is_signs)
  F_is_signs : Fun K "is_signs" "is_signs" s_is_signs A.f_is_signs A.fd_is_signs
  b_is_signs : Binds K A.fd_is_signs ["thing"] []
  m_check_signs : mg "check_signs" = some (.ref A.f_check_signs)
  F_check_signs : Fun K "check_signs" "check_signs" s_check_signs A.f_check_signs A.fd_check_signs
  b_check_signs : Binds K A.fd_check_signs ["signs"] []
  m_check_tree : mg "check_tree" = some (.ref A.f_check_tree)
  F_check_tree : Fun K "check_tree" "check_tree" s_check_tree A.f_check_tree A.fd_check_tree
  b_check_tree : Binds K A.fd_check_tree ["signs", "tree"] []
  m_size : mg "size" = some (.ref A.f_size)
  F_size : Fun K "size" "size" s_size A.f_size A.fd_size
  b_size : Binds K A.fd_size ["signs", "tree"] []
  m_law_pen : mg "_law_pen" = some (.ref A.f_law_pen)
  F_law_pen : Fun K "_law_pen" "_law_pen" s_law_pen A.f_law_pen A.fd_law_pen
  b_law_pen : Binds K A.fd_law_pen ["script"] []
  m_law_next : mg "_law_next" = some (.ref A.f_law_next)
  F_law_next : Fun K "_law_next" "_law_next" s_law_next A.f_law_next A.fd_law_next
  b_law_next : Binds K A.fd_law_next ["pen"] []
  m_law_draw : mg "_law_draw" = some (.ref A.f_law_draw)
  F_law_draw : Fun K "_law_draw" "_law_draw" s_law_draw A.f_law_draw A.fd_law_draw
  b_law_draw : Binds K A.fd_law_draw ["pen", "under"] []
  m_law_places : mg "_law_places" = some (.ref A.f_law_places)
  F_law_places : Fun K "_law_places" "_law_places" s_law_places A.f_law_places A.fd_law_places
  b_law_places : Binds K A.fd_law_places ["here"] []
  m_law : mg "law" = some (.ref A.f_law)
  F_law : Fun K "law" "law" s_law A.f_law A.fd_law
  b_law : Binds K A.fd_law ["script"] []
  z_len : mg "len" = none
  z_isinstance : mg "isinstance" = none
  z_all : mg "all" = none
  z_sum : mg "sum" = none
  z_repr : mg "repr" = none
  z_int : mg "int" = none
  z_list : mg "list" = none
  z_tuple : mg "tuple" = none
  z_str : mg "str" = none
  z_dict : mg "dict" = none
  z_bool : mg "bool" = none
  z_range : mg "range" = none
  c_LONGEST_NAME : mg "LONGEST_NAME" = some (.int 8 A.t_LONGEST_NAME)
  c_MOST_SIGNS : mg "MOST_SIGNS" = some (.int 8 A.t_MOST_SIGNS)
  c_MOST_BROTHERS : mg "MOST_BROTHERS" = some (.int 3 A.t_MOST_BROTHERS)
end K31
namespace Lx
open PySem PySem.Spec PyProof.Rows L2 Evl
/-! data that are names, signs, trees -/
def betweenD (lo hi : Int) : PyData → Bool
  | .int i => decide (lo ≤ i) && decide (i ≤ hi)
  | _ => false
def letterD : PyData → Bool
  | .str x => (!decide (x.cps.toList < (("a" : Str)).cps.toList)) && !decide ((("z" : Str)).cps.toList < x.cps.toList)
  | _ => false
def nameD : PyData → Bool
  | .str x => decide ((1 : Int) ≤ x.length) && decide ((x.length : Int) ≤ 8) && (signs1 x).all letterD
  | _ => false
def signsD : PyData → Bool
  | .dict es => decide ((1 : Int) ≤ es.length) && decide ((es.length : Int) ≤ 8) && (es.map (·.1)).all fun k => nameD k && betweenD 0 3 (getD es k)
  | _ => false
/-- no text in it is longer than any line -/
def shortS : PyData → Bool
  | .str x => decide (x.length ≤ 50000)
  | _ => true
def shortK : PyData → Bool
  | .dict es => decide (es.length ≤ 50000) && (es.map (·.1)).all shortS
  | _ => true
end Lx
namespace K31
open PySem PySem.Spec PyProof.Rows L2 Evl Lx
section
variable {P : Program} {w : World} {K : PySem.W.Frag} {mg : Str → Option Value} {base : Heap} {A : Ad}
def R_is_integer : List PyData → PyData → Prop := fun ds d => ∃ x, ds = [x] ∧ d = .bool (isInt x && !isBool x)
theorem ok_is_integer (T : Txt K mg A) : FnOk P w K mg base CX0 1 A.f_is_integer A.fd_is_integer ["thing"] (PSp K R_is_integer) := by
  refine T.F_is_integer.ok sc_is_integer (fun vs H Q E h => ?_) (fun cdv Ar outer s H vs Q E hr h => ?_)
  · obtain ⟨S, ds, d, _, r, ⟨x, rfl, _⟩, _⟩ := h
    exact r.length
  obtain ⟨S, ds, d, hS, r, ⟨x, rfl, rfl⟩, q⟩ := h
  obtain ⟨v0, rfl, h0⟩ := rpL1 r
  refine ⟨_, (pss_one (ps_ret (pe_and (pe_callB call_isi (by rfl) T.z_isinstance (by decide +kernel) (pa_cons (pv 0) (pa_cons (pe_bltn (v := .ty "int") (by rfl) T.z_int (by decide +kernel) rfl) pa_nil))) (pe_one (pe_not (pe_callB call_isi (by rfl) T.z_isinstance (by decide +kernel) (pa_cons (pv 0) (pa_cons (pe_bltn (v := .ty "bool") (by rfl) T.z_bool (by decide +kernel) rfl) pa_nil)))))))), ?_⟩
  have x0 : EvD K S (tVar 0) (start ["thing"] [v0]) H x := d_var rfl h0
  refine sd_ret (d := .bool (isInt x && !isBool x)) (S := S) (K := K) ?_ (fun v H1 e r => q v H1 e r)
  exact d_and (d_isInt x0) fun _ => d_not (d_isBool x0)
def R_is_between : List PyData → PyData → Prop := fun ds d => ∃ x lo hi, ds = [x, .int lo, .int hi] ∧ d = .bool (betweenD lo hi x)
theorem ok_is_between (T : Txt K mg A) : FnOk P w K mg base CX0 2 A.f_is_between A.fd_is_between ["thing", "least", "most"] (PSp K R_is_between) := by
  have G_is_integer : FnOk P w K mg base CX0 1 _ _ ["thing"] (PSp K R_is_integer) := ok_is_integer T
  refine T.F_is_between.ok sc_is_between (fun vs H Q E h => ?_) (fun cdv Ar outer s H vs Q E hr h => ?_)
  · obtain ⟨S, ds, d, _, r, ⟨x, lo, hi, rfl, _⟩, _⟩ := h
    exact r.length
  obtain ⟨S, ds, d, hS, r, ⟨x, lo, hi, rfl, rfl⟩, q⟩ := h
  obtain ⟨v0, v1, v2, rfl, h0, h1, h2⟩ := rpL3 r
  refine ⟨_, (pss_one (ps_ret (pe_and (pe_call G_is_integer (hr.mono (by first | decide | omega)) rfl T.m_is_integer T.F_is_integer.kp T.b_is_integer .nil pass0 (pa_cons (pv 0) pa_nil)) (pe_one (pe_chain op_le op_le (pv 1) (pv 0) (pv 2)))))), ?_⟩
  have x0 : EvD K S (tVar 0) (start ["thing", "least", "most"] [v0, v1, v2]) H x := d_var rfl h0
  have x1 : EvD K S (tVar 1) (start ["thing", "least", "most"] [v0, v1, v2]) H (.int lo) := d_var rfl h1
  have x2 : EvD K S (tVar 2) (start ["thing", "least", "most"] [v0, v1, v2]) H (.int hi) := d_var rfl h2
  refine sd_ret (d := .bool (betweenD lo hi x)) (S := S) (K := K) ?_ (fun v H1 e r => q v H1 e r)
  have e : betweenD lo hi x = ((isInt x && !isBool x) && betweenD lo hi x) := by cases x <;> rfl
  rw [e]
  refine d_and (d_call hS (a_cons x0 a_nil) ⟨x, rfl, rfl⟩) fun h1 => ?_
  cases x with
  | int i => exact d_chain x1 x0 x2
  | bool b => cases h1
  | none => cases h1
  | str _ => cases h1
  | list _ => cases h1
  | tuple _ => cases h1
  | dict _ => cases h1
def R_is_name : List PyData → PyData → Prop := fun ds d => ∃ x, ds = [x] ∧ shortS x = true ∧ d = .bool (nameD x)
theorem ok_is_name (T : Txt K mg A) : FnOk P w K mg base CX0 1 A.f_is_name A.fd_is_name ["thing"] (PSp K R_is_name) := by
  refine T.F_is_name.ok sc_is_name (fun vs H Q E h => ?_) (fun cdv Ar outer s H vs Q E hr h => ?_)
  · obtain ⟨S, ds, d, _, r, ⟨x, rfl, _⟩, _⟩ := h
    exact r.length
  obtain ⟨S, ds, d, hS, r, ⟨x, rfl, hx, rfl⟩, q⟩ := h
  obtain ⟨v0, rfl, h0⟩ := rpL1 r
  refine ⟨_, (pss_cons (ps_if (PW.pt (pw_or (pt_not (pt_val (pe_callB call_isi (by rfl) T.z_isinstance (by decide +kernel) (pa_cons (pv 0) (pa_cons (pe_bltn (v := .ty "str") (by rfl) T.z_str (by decide +kernel) rfl) pa_nil))))) (pw_or1 (pt_not (pt_chain op_le op_le pe_int (pe_callB c_lenS (by rfl) T.z_len (by decide +kernel) (pa_cons (pv 0) pa_nil)) (pe_glob (v := .int 8) rfl T.c_LONGEST_NAME ⟨_, rfl⟩)))))) (pss_one (ps_ret pe_bl)) pss_nil)
  (pss_one (ps_ret (pe_callB (cr_all rfl) (by rfl) T.z_all (by decide +kernel) (pa_cons (pe_lc (own := [("letter", 1)]) (g := gName 1) (tt := tYes) (by rfl) sc_is_name.nd (pi_str (pv 0)) (blkOk_by (own := [("letter", 1)]) (N := ["thing", "letter"]) (sc := defScope s_is_name) (by decide +kernel)) (fun _ _ _ _ _ => pg_name (i := 1) sc_is_name.nd rfl (Or.inl rfl)) (fun _ _ _ _ _ => pts_nil) (fun _ _ _ _ _ => (pe_chain op_le_str op_le_str pe_str (pv 1) pe_str))) pa_nil))))), ?_⟩
  have x0 : EvD K S (tVar 0) (start ["thing", "letter"] [v0]) H x := d_var rfl h0
  cases x with
  | str z =>
    have hz : z.length ≤ 50000 := of_decide_eq_true hx
    have l0 : EvD K S (tCB rLenX (tCons (tVar 0) tNil)) (start ["thing", "letter"] [v0]) H (.int z.length) := d_lenS x0 (Nat.le_trans hz (by decide))
    refine q_when (b := !(isStr (.str z)) || !(decide ((1 : Int) ≤ z.length) && decide ((z.length : Int) ≤ 8))) (et_or (et_not (t_ofB (d_isStr x0))) fun _ => et_not (t_of (d_chain d_int l0 d_int))) (fun hb H1 e1 => ?_) (fun hb H1 e1 => ?_)
    · refine sd_ret (S := S) (K := K) d_bl fun v H2 e2 r => q v H2 (e1.trans e2) ?_
      have hb' : (!(decide ((1 : Int) ≤ z.length) && decide ((z.length : Int) ≤ 8))) = true := hb
      have : nameD (.str z) = false := by
        show (decide ((1 : Int) ≤ z.length) && decide ((z.length : Int) ≤ 8) && (signs1 z).all letterD) = false
        rw [Bool.not_eq_true'] at hb'
        rw [hb', Bool.false_and]
      rw [this]
      exact r
    · have hb' : (!(decide ((1 : Int) ≤ z.length) && decide ((z.length : Int) ≤ 8))) = false := hb
      have hb2 : (decide ((1 : Int) ≤ z.length) && decide ((z.length : Int) ≤ 8)) = true := by
        rw [Bool.not_eq_false'] at hb'
        exact hb'
      have hn : nameD (.str z) = ((signs1 z).map letterD).all id := by
        show (decide ((1 : Int) ≤ z.length) && decide ((z.length : Int) ≤ 8) && (signs1 z).all letterD) = _
        rw [hb2, Bool.true_and, List.all_map]
        all_goals rfl
      have hS1 := hS.ex e1
      refine sd_ret (S := S) (K := K) (d := .bool (nameD (.str z))) ?_ fun v H2 e2 r => q v H2 (e1.trans e2) r
      rw [hn]
      refine d_all (bs := (signs1 z).map letterD) ?_
      refine EvN.dat hS1 ?_
      have e2 : ((signs1 z).map letterD).map PyData.bool = ((signs1 z).filter fun _ => true).map (fun d => PyData.bool (letterD d)) := by
        rw [List.filter_eq_self.mpr (fun _ _ => rfl), List.map_map]
        all_goals rfl
      rw [e2]
      refine n_lcS (fun _ => true) (fun d => .bool (letterD d)) hS1 (x0.mono e1) hz (fun x => rfl) (fun d v T H' _ i r => fun _ _ Q q => q _ (Ex.refl _)) (fun d v T H' hm i r _ => ?_)
      obtain ⟨c, _, rfl⟩ := List.mem_map.mp hm
      refine d_chainS (f := fun i j => !decide (j.cps.toList < i.cps.toList)) (g := fun i j => !decide (j.cps.toList < i.cps.toList)) (y := ⟨#[c]⟩) ?_ ?_ ?_
      · exact d_str
      · exact d_var rfl r
      · exact d_str
  | none => exact q_when (et_or (b := false) (et_not (t_ofB (d_isStr x0))) fun z => by cases z) (fun hb H1 e1 => sd_ret (S := S) (K := K) d_bl fun v H2 e2 r => q v H2 (e1.trans e2) r) (fun hb => by cases hb)
  | bool _ => exact q_when (et_or (b := false) (et_not (t_ofB (d_isStr x0))) fun z => by cases z) (fun hb H1 e1 => sd_ret (S := S) (K := K) d_bl fun v H2 e2 r => q v H2 (e1.trans e2) r) (fun hb => by cases hb)
  | int _ => exact q_when (et_or (b := false) (et_not (t_ofB (d_isStr x0))) fun z => by cases z) (fun hb H1 e1 => sd_ret (S := S) (K := K) d_bl fun v H2 e2 r => q v H2 (e1.trans e2) r) (fun hb => by cases hb)
  | list _ => exact q_when (et_or (b := false) (et_not (t_ofB (d_isStr x0))) fun z => by cases z) (fun hb H1 e1 => sd_ret (S := S) (K := K) d_bl fun v H2 e2 r => q v H2 (e1.trans e2) r) (fun hb => by cases hb)
  | tuple _ => exact q_when (et_or (b := false) (et_not (t_ofB (d_isStr x0))) fun z => by cases z) (fun hb H1 e1 => sd_ret (S := S) (K := K) d_bl fun v H2 e2 r => q v H2 (e1.trans e2) r) (fun hb => by cases hb)
  | dict _ => exact q_when (et_or (b := false) (et_not (t_ofB (d_isStr x0))) fun z => by cases z) (fun hb H1 e1 => sd_ret (S := S) (K := K) d_bl fun v H2 e2 r => q v H2 (e1.trans e2) r) (fun hb => by cases hb)
end
end K31
namespace Lx
open PySem PySem.Spec PyProof.Rows L2 Evl
/-! trees of signs -/
theorem all_id {α : Type} (l : List α) (f : α → Bool) : l.all f = (l.map f).all id := by
  rw [List.all_map]
  all_goals rfl
theorem signs_val {es : List (PyData × PyData)} (h : signsD (.dict es) = true) {k : Key} {u : PyData} (hk : lookD es k = some u) : ∃ n : Int, u = .int n ∧ 0 ≤ n ∧ n ≤ 3 := by
  have hm := lookD_mem hk
  have h2 : (decide ((1 : Int) ≤ es.length) && decide ((es.length : Int) ≤ 8) && (es.map (·.1)).all fun k => nameD k && betweenD 0 3 (getD es k)) = true := h
  rw [Bool.and_eq_true] at h2
  have h3 := List.all_eq_true.mp h2.2 _ hm
  rw [getD_key, hk, Bool.and_eq_true] at h3
  have h4 : betweenD 0 3 u = true := h3.2
  cases u with
  | int n =>
    have h5 : (decide ((0 : Int) ≤ n) && decide (n ≤ 3)) = true := h4
    rw [Bool.and_eq_true] at h5
    exact ⟨n, rfl, of_decide_eq_true h5.1, of_decide_eq_true h5.2⟩
  | none => cases h4
  | bool _ => cases h4
  | str _ => cases h4
  | list _ => cases h4
  | tuple _ => cases h4
  | dict _ => cases h4
/-- the sign stands there, with as many brothers -/
def topD (es : List (PyData × PyData)) : PyData → Bool
  | .tuple (.str x :: ds) => match lookD es (.inr x) with
    | some (.int n) => decide ((ds.length : Int) + 1 = n + 1)
    | _ => false
  | _ => false
mutual
def treeD (es : List (PyData × PyData)) : PyData → Bool
  | .tuple ds => topD es (.tuple ds) && treeT es ds
  | _ => false
def treeT (es : List (PyData × PyData)) : List PyData → Bool
  | [] => true
  | _ :: ds => treeL es ds
def treeL (es : List (PyData × PyData)) : List PyData → Bool
  | [] => true
  | d :: ds => treeD es d && treeL es ds
end
mutual
def nodes : PyData → Nat
  | .tuple ds => 1 + nodesT ds
  | _ => 1
def nodesT : List PyData → Nat
  | [] => 0
  | _ :: ds => nodesL ds
def nodesL : List PyData → Nat
  | [] => 0
  | d :: ds => nodes d + nodesL ds
end
theorem nodesL_app (xs ys : List PyData) : nodesL (xs ++ ys) = nodesL xs + nodesL ys := by
  induction xs with
  | nil => show nodesL ys = 0 + nodesL ys; omega
  | cons x xs ih =>
    show nodes x + nodesL (xs ++ ys) = nodes x + nodesL xs + nodesL ys
    omega
theorem treeL_app (es : List (PyData × PyData)) (xs ys : List PyData) : treeL es (xs ++ ys) = (treeL es xs && treeL es ys) := by
  induction xs with
  | nil => rfl
  | cons x xs ih =>
    show (treeD es x && treeL es (xs ++ ys)) = (treeD es x && treeL es xs && treeL es ys)
    rw [ih, Bool.and_assoc]
theorem nodes_pos (d : PyData) : 1 ≤ nodes d := by
  cases d <;> first | exact Nat.le_refl 1 | (show 1 ≤ 1 + nodesT _; omega)
theorem nodesT_drop (ds : List PyData) : nodesT ds = nodesL (ds.drop 1) := by cases ds <;> rfl
theorem treeT_drop (es : List (PyData × PyData)) (ds : List PyData) : treeT es ds = treeL es (ds.drop 1) := by cases ds <;> rfl
theorem length_nodesL (ds : List PyData) : ds.length ≤ nodesL ds := by
  induction ds with
  | nil => exact Nat.le_refl 0
  | cons d ds ih =>
    show ds.length + 1 ≤ nodes d + nodesL ds
    have := nodes_pos d
    omega
theorem snoc_of {α : Type} : ∀ {xs : List α}, xs ≠ [] → ∃ ys y, xs = ys ++ [y]
  | [], h => absurd rfl h
  | x :: xs, _ => by
    by_cases h : xs = []
    · subst h
      exact ⟨[], x, rfl⟩
    · obtain ⟨ys, y, rfl⟩ := snoc_of h
      exact ⟨x :: ys, y, rfl⟩
theorem rpD_all {K : PySem.W.Frag} {H : Hp} {es : List (PyData × PyData)} {d : PyData} (h : ∃ v, Rp K H (.dict es) v) (m : d ∈ es.map (·.1)) : ∃ k u, d = keyD k ∧ lookD es k = some u := by
  obtain ⟨v, a, kvs, _, _, hd⟩ := h
  exact rpD_key hd m
end Lx
namespace K31
open PySem PySem.Spec PyProof.Rows L2 Evl Lx
section
variable {P : Program} {w : World} {K : PySem.W.Frag} {mg : Str → Option Value} {base : Heap} {A : Ad}
def R_is_signs : List PyData → PyData → Prop := fun ds d => ∃ x, ds = [x] ∧ shortK x = true ∧ d = .bool (signsD x)
theorem ok_is_signs (T : Txt K mg A) : FnOk P w K mg base CX0 3 A.f_is_signs A.fd_is_signs ["thing"] (PSp K R_is_signs) := by
  have G_is_name : FnOk P w K mg base CX0 1 _ _ ["thing"] (PSp K R_is_name) := ok_is_name T
  have G_is_between : FnOk P w K mg base CX0 2 _ _ ["thing", "least", "most"] (PSp K R_is_between) := ok_is_between T
  refine T.F_is_signs.ok sc_is_signs (fun vs H Q E h => ?_) (fun cdv Ar outer s H vs Q E hr h => ?_)
  · obtain ⟨S, ds, d, _, r, ⟨x, rfl, _⟩, _⟩ := h
    exact r.length
  obtain ⟨S, ds, d, hS, r, ⟨x, rfl, hx, rfl⟩, q⟩ := h
  obtain ⟨v0, rfl, h0⟩ := rpL1 r
  refine ⟨_, (pss_cons (ps_if (PW.pt (pw_or (pt_not (pt_val (pe_callB call_isi (by rfl) T.z_isinstance (by decide +kernel) (pa_cons (pv 0) (pa_cons (pe_bltn (v := .ty "dict") (by rfl) T.z_dict (by decide +kernel) rfl) pa_nil))))) (pw_or1 (pt_not (pt_chain op_le op_le pe_int (pe_callB c_lenK (by rfl) T.z_len (by decide +kernel) (pa_cons (pv 0) pa_nil)) (pe_glob (v := .int 8) rfl T.c_MOST_SIGNS ⟨_, rfl⟩)))))) (pss_one (ps_ret pe_bl)) pss_nil)
  (pss_one (ps_ret (pe_callB (cr_all rfl) (by rfl) T.z_all (by decide +kernel) (pa_cons (pe_lcKeys (pe_lc (own := [("sign", 1)]) (g := gName 1) (tt := tYes) (by rfl) sc_is_signs.nd (pi_keys (pv 0)) (blkOk_by (own := [("sign", 1)]) (N := ["thing", "sign"]) (sc := defScope s_is_signs) (by decide +kernel)) (fun _ _ _ _ _ => pg_name (i := 1) sc_is_signs.nd rfl (Or.inl rfl)) (fun _ _ _ _ _ => pts_nil) (fun _ _ _ _ _ => (pe_and (pe_call G_is_name (hr.mono (by first | decide | omega)) rfl T.m_is_name T.F_is_name.kp T.b_is_name .nil pass0 (pa_cons (pv 1) pa_nil)) (pe_one (pe_call G_is_between (hr.mono (by first | decide | omega)) rfl T.m_is_between T.F_is_between.kp T.b_is_between .nil pass0 (pa_cons (pe_dget (hu_of hr) (pv 0) (pv 1) (fun _ _ => rfl)) (pa_cons pe_int (pa_cons (pe_glob (v := .int 3) rfl T.c_MOST_BROTHERS ⟨_, rfl⟩) pa_nil))))))))) pa_nil))))), ?_⟩
  have x0 : EvD K S (tVar 0) (start ["thing", "sign"] [v0]) H x := d_var rfl h0
  by_cases hd : isDct x = true
  · obtain ⟨es, rfl⟩ : ∃ es, x = .dict es := by
      cases x <;> first | exact ⟨_, rfl⟩ | cases hd
    have hx2 : (decide (es.length ≤ 50000) && (es.map (·.1)).all shortS) = true := hx
    rw [Bool.and_eq_true] at hx2
    have hz : es.length ≤ 50000 := of_decide_eq_true hx2.1
    refine q_when (b := !(isDct (.dict es)) || !(decide ((1 : Int) ≤ es.length) && decide ((es.length : Int) ≤ 8))) (et_or (et_not (t_ofB (d_isDct x0))) fun _ => et_not (t_of (d_chain d_int (d_lenK x0) d_int))) (fun hb H1 e1 => ?_) (fun hb H1 e1 => ?_)
    · refine sd_ret (S := S) (K := K) d_bl fun v H2 e2 r9 => q v H2 (e1.trans e2) ?_
      have hb' : (!(decide ((1 : Int) ≤ es.length) && decide ((es.length : Int) ≤ 8))) = true := hb
      have : signsD (.dict es) = false := by
        show (decide ((1 : Int) ≤ es.length) && decide ((es.length : Int) ≤ 8) && _) = false
        rw [Bool.not_eq_true'] at hb'
        rw [hb', Bool.false_and]
      rw [this]
      exact r9
    · have hb' : (!(decide ((1 : Int) ≤ es.length) && decide ((es.length : Int) ≤ 8))) = false := hb
      rw [Bool.not_eq_false'] at hb'
      have hn : signsD (.dict es) = ((es.map (·.1)).map fun k => nameD k && betweenD 0 3 (getD es k)).all id := by
        show (decide ((1 : Int) ≤ es.length) && decide ((es.length : Int) ≤ 8) && _) = _
        rw [hb', Bool.true_and]
        exact all_id _ _
      have hS1 := hS.ex e1
      refine sd_ret (S := S) (K := K) (d := .bool (signsD (.dict es))) ?_ fun v H2 e2 r => q v H2 (e1.trans e2) r
      rw [hn]
      refine d_all ?_
      refine EvN.dat hS1 ?_
      have e2 : ((es.map (·.1)).map fun k => nameD k && betweenD 0 3 (getD es k)).map PyData.bool = ((es.map (·.1)).filter fun _ => true).map (fun k => PyData.bool (nameD k && betweenD 0 3 (getD es k))) := by
        rw [List.filter_eq_self.mpr (fun _ _ => rfl), List.map_map]
        all_goals rfl
      rw [e2]
      have h1 := h0.ex (lo_ex e1)
      refine n_lcK (v0 := v0) (fun _ => true) _ hS1 rfl h1 hz (fun x => rfl) (fun d v T H' _ i r => fun _ _ Q q => q _ (Ex.refl _)) (fun d v T H' hm i r _ => ?_)
      obtain ⟨k, u, rfl, hk⟩ := rpD_all ⟨_, h1⟩ hm
      have hsh : shortS (keyD k) = true := List.all_eq_true.mp hx2.2 _ hm
      refine d_and ?_ fun _ => ?_
      · exact d_call i.dom (a_cons (d_var rfl r) a_nil) ⟨_, rfl, hsh, rfl⟩
      · refine d_call i.dom (a_cons (d := u) ?_ (a_cons d_int (a_cons d_int a_nil))) ⟨u, 0, 3, rfl, ?_⟩
        · exact d_dget (d_var rfl (h1.rx i.lo)) (d_var rfl r) hk
        · rw [getD_key, hk]
          all_goals rfl
  · have hd' : isDct x = false := by simpa using hd
    refine q_when (b := !(isDct x) || false) (et_or (et_not (t_ofB (d_isDct x0))) fun z => by rw [hd'] at z; cases z) (fun hb H1 e1 => ?_) (fun hb => by rw [hd'] at hb; cases hb)
    refine sd_ret (S := S) (K := K) d_bl fun v H2 e2 r9 => q v H2 (e1.trans e2) ?_
    have : signsD x = false := by
      cases x <;> first | rfl | cases hd'
    rw [this]
    exact r9
def R_check_signs : List PyData → PyData → Prop := fun ds d => ∃ x, ds = [x] ∧ shortK x = true ∧ signsD x = true ∧ d = .none
theorem ok_check_signs (T : Txt K mg A) : FnOk P w K mg base CX0 4 A.f_check_signs A.fd_check_signs ["signs"] (PSp K R_check_signs) := by
  have G_is_signs : FnOk P w K mg base CX0 3 _ _ ["thing"] (PSp K R_is_signs) := ok_is_signs T
  refine T.F_check_signs.ok sc_check_signs (fun vs H Q E h => ?_) (fun cdv Ar outer s H vs Q E hr h => ?_)
  · obtain ⟨S, ds, d, _, r, ⟨x, rfl, _⟩, _⟩ := h
    exact r.length
  obtain ⟨S, ds, d, hS, r, ⟨x, rfl, hx, ht, rfl⟩, q⟩ := h
  obtain ⟨v0, rfl, h0⟩ := rpL1 r
  refine ⟨_, (pss_one (ps_if (pt_not (pt_val (pe_call G_is_signs (hr.mono (by first | decide | omega)) rfl T.m_is_signs T.F_is_signs.kp T.b_is_signs .nil pass0 (pa_cons (pv 0) pa_nil)))) (pss_one ps_never) pss_nil)), ?_⟩
  have x0 : EvD K S (tVar 0) (start ["signs"] [v0]) H x := d_var rfl h0
  refine s_when (b := !(signsD x)) (et_not (t_ofB (d_call hS (a_cons x0 a_nil) ⟨x, rfl, hx, rfl⟩))) (fun hb => by rw [ht] at hb; cases hb) (fun hb H1 e1 => q _ _ e1 rfl)
def R_is_top : List PyData → PyData → Prop := fun ds d => ∃ es x, ds = [.dict es, x] ∧ signsD (.dict es) = true ∧ d = .bool (topD es x)
theorem ok_is_top (T : Txt K mg A) : FnOk P w K mg base CX0 1 A.f_is_top A.fd_is_top ["signs", "thing"] (PSp K R_is_top) := by
  refine T.F_is_top.ok sc_is_top (fun vs H Q E h => ?_) (fun cdv Ar outer s H vs Q E hr h => ?_)
  · obtain ⟨S, ds, d, _, r, ⟨es, x, rfl, _⟩, _⟩ := h
    exact r.length
  obtain ⟨S, ds, d, hS, r, ⟨es, x, rfl, hs, rfl⟩, q⟩ := h
  obtain ⟨v0, v1, rfl, h0, h1⟩ := rpL2 r
  refine ⟨_, (pss_cons (ps_if (PW.pt (pw_or (pt_not (pt_val (pe_callB call_isi (by rfl) T.z_isinstance (by decide +kernel) (pa_cons (pv 1) (pa_cons (pe_bltn (v := .ty "tuple") (by rfl) T.z_tuple (by decide +kernel) rfl) pa_nil))))) (pw_or1 (pt_cmpR op_eq (pe_callB c_len (by rfl) T.z_len (by decide +kernel) (pa_cons (pv 1) pa_nil)) pe_int (nomark _))))) (pss_one (ps_ret pe_bl)) pss_nil)
  (pss_cons (ps_set (i := 2) sc_is_top.nd rfl (by first | exact Or.inl rfl | exact Or.inr rfl) (pe_ix ix_tup (pv 1) pe_int (fun _ _ => rfl)))
  (pss_one (ps_ret (pe_and (pe_callB call_isi (by rfl) T.z_isinstance (by decide +kernel) (pa_cons (pv 2) (pa_cons (pe_bltn (v := .ty "str") (by rfl) T.z_str (by decide +kernel) rfl) pa_nil))) (pe_and (pe_cmp (pc_din (hu_of hr) (pv 2) (pv 0))) (pe_one (pe_cmpR op_eq (pe_callB c_len (by rfl) T.z_len (by decide +kernel) (pa_cons (pv 1) pa_nil)) (pe_op op_add (pe_dget (hu_of hr) (pv 0) (pv 2) (fun _ _ => rfl)) pe_int) (nomark _))))))))), ?_⟩
  have x0 : EvD K S (tVar 0) (start ["signs", "thing", "sign"] [v0, v1]) H (.dict es) := d_var rfl h0
  have x1 : EvD K S (tVar 1) (start ["signs", "thing", "sign"] [v0, v1]) H x := d_var rfl h1
  by_cases ht : isTup x = true
  · obtain ⟨ds, rfl⟩ : ∃ ds, x = .tuple ds := by
      cases x <;> first | exact ⟨_, rfl⟩ | cases ht
    refine q_when (b := !(isTup (.tuple ds)) || decide (((ds.length : Nat) : Int) = 0)) (et_or (et_not (t_ofB (d_isTup x1))) fun _ => t_of (d_eqI (d_lenT x1) d_int)) (fun hb H1 e1 => ?_) (fun hb H1 e1 => ?_)
    · refine sd_ret (S := S) (K := K) d_bl fun v H2 e2 r9 => q v H2 (e1.trans e2) ?_
      have hb' : decide (((ds.length : Nat) : Int) = 0) = true := hb
      have hl : ds = [] := List.eq_nil_of_length_eq_zero (by have := of_decide_eq_true hb'; omega)
      subst hl
      exact r9
    · have hb' : decide (((ds.length : Nat) : Int) = 0) = false := hb
      cases ds with
      | nil => cases hb'
      | cons d0 rs =>
        have hS1 := hS.ex e1
        refine qd_asg (S := S) (K := K) (d := d0) (d_ixT (x1.mono e1) d_int atI_zero) fun v H2 e2 r2 => ?_
        have hS2 := hS1.ex e2
        have e12 := e1.trans e2
        refine sd_ret (S := S) (K := K) (d := .bool (topD es (.tuple (d0 :: rs)))) ?_ fun v H3 e3 r => q v H3 (e12.trans e3) r
        have y0 : EvD K S (tVar 0) ((start ["signs", "thing", "sign"] [v0, v1]).set 2 (some v)) H2 (.dict es) := d_var rfl (h0.ex (lo_ex e12))
        have y1 : EvD K S (tVar 1) ((start ["signs", "thing", "sign"] [v0, v1]).set 2 (some v)) H2 (.tuple (d0 :: rs)) := d_var rfl (h1.ex (lo_ex e12))
        have y2 : EvD K S (tVar 2) ((start ["signs", "thing", "sign"] [v0, v1]).set 2 (some v)) H2 d0 := d_var rfl r2
        by_cases hq : isStr d0 = true
        · obtain ⟨z, rfl⟩ : ∃ z, d0 = .str z := by
            cases d0 <;> first | exact ⟨_, rfl⟩ | cases hq
          cases hl : lookD es (.inr z) with
          | none =>
            have e : topD es (.tuple (.str z :: rs)) = (isStr (.str z) && ((lookD es (.inr z)).isSome && false)) := by
              show (match lookD es (.inr z) with | some (.int n) => decide ((rs.length : Int) + 1 = n + 1) | _ => false) = _
              rw [hl]
              all_goals rfl
            rw [e]
            refine d_and (d_isStr y2) fun _ => d_and (d_din (k := .inr z) y2 y0) fun h => ?_
            rw [hl] at h
            cases h
          | some u =>
            obtain ⟨n, rfl, _, _⟩ := signs_val hs hl
            have e : topD es (.tuple (.str z :: rs)) = (isStr (.str z) && ((lookD es (.inr z)).isSome && decide ((((PyData.str z :: rs).length : Nat) : Int) = n + 1))) := by
              show (match lookD es (.inr z) with | some (.int n) => decide ((rs.length : Int) + 1 = n + 1) | _ => false) = _
              rw [hl]
              show decide ((rs.length : Int) + 1 = n + 1) = decide (((rs.length + 1 : Nat) : Int) = n + 1)
              congr 1
            rw [e]
            exact d_and (d_isStr y2) fun _ => d_and (d_din (k := .inr z) y2 y0) fun h => d_eqI (d_lenT y1) (d_I0 (d_dget (k := .inr z) y0 y2 hl) d_int)
        · have hq' : isStr d0 = false := by simpa using hq
          have e : topD es (.tuple (d0 :: rs)) = (isStr d0 && false) := by
            rw [Bool.and_false]
            cases d0 <;> first | rfl | cases hq'
          rw [e]
          exact d_and (d_isStr y2) fun h => by rw [hq'] at h; cases h
  · have ht' : isTup x = false := by simpa using ht
    refine q_when (b := !(isTup x) || false) (et_or (et_not (t_ofB (d_isTup x1))) fun z => by rw [ht'] at z; cases z) (fun hb H1 e1 => ?_) (fun hb => by rw [ht'] at hb; cases hb)
    refine sd_ret (S := S) (K := K) d_bl fun v H2 e2 r9 => q v H2 (e1.trans e2) ?_
    have : topD es x = false := by
      cases x <;> first | rfl | cases ht'
    rw [this]
    exact r9
end
end K31
namespace Lx
open PySem PySem.Spec PyProof.Rows L2 Evl
theorem top_tuple {es : List (PyData × PyData)} {d : PyData} (h : topD es d = true) : ∃ ds, d = .tuple ds := by
  cases d <;> first | exact ⟨_, rfl⟩ | cases h
theorem tree_top {es : List (PyData × PyData)} {d : PyData} (h : topD es d = false) : treeD es d = false := by
  cases d with
  | tuple ds =>
    show (topD es (.tuple ds) && treeT es ds) = false
    rw [h, Bool.false_and]
  | none => rfl
  | bool _ => rfl
  | int _ => rfl
  | str _ => rfl
  | list _ => rfl
  | dict _ => rfl
theorem treeD_tuple {es : List (PyData × PyData)} {ds : List PyData} (h : topD es (.tuple ds) = true) : treeD es (.tuple ds) = treeL es (ds.drop 1) := by
  show (topD es (.tuple ds) && treeT es ds) = _
  rw [h, Bool.true_and, treeT_drop]
theorem nodes_tuple (ds : List PyData) : nodes (.tuple ds) = 1 + nodesL (ds.drop 1) := by
  show 1 + nodesT ds = _
  rw [nodesT_drop]
/-- the trees beneath -/
def kids : PyData → List PyData
  | .tuple ds => ds.drop 1
  | _ => []
end Lx
namespace K31
open PySem PySem.Spec PyProof.Rows L2 Evl Lx
section
variable {P : Program} {w : World} {K : PySem.W.Frag} {mg : Str → Option Value} {base : Heap} {A : Ad}
def R_is_grown : List PyData → PyData → Prop := fun ds d => ∃ es x, ds = [.dict es, x] ∧ signsD (.dict es) = true ∧ nodes x ≤ 50000 ∧ d = .bool (treeD es x)
theorem ok_is_grown (T : Txt K mg A) : FnOk P w K mg base CX0 2 A.f_is_grown A.fd_is_grown ["signs", "thing"] (PSp K R_is_grown) := by
  have G_is_top : FnOk P w K mg base CX0 1 _ _ ["signs", "thing"] (PSp K R_is_top) := ok_is_top T
  refine T.F_is_grown.ok sc_is_grown (fun vs H Q E h => ?_) (fun cdv Ar outer s H vs Q E hr h => ?_)
  · obtain ⟨S, ds, d, _, r, ⟨es, x, rfl, _⟩, _⟩ := h
    exact r.length
  obtain ⟨S, ds, d, hS, r, ⟨es, x, rfl, hs, hn, rfl⟩, q⟩ := h
  obtain ⟨v0, v1, rfl, h0, h1⟩ := rpL2 r
  refine ⟨_, (pss_cons (ps_set (i := 2) sc_is_grown.nd rfl (by first | exact Or.inl rfl | exact Or.inr rfl) (pe_lst (pa_cons (pv 1) pa_nil)))
  (pss_cons (ps_while PassesOwn.never (pt_truth (pv 2) (by intro _; rfl)) (pss_cons (ps_set (i := 3) sc_is_grown.nd rfl (by first | exact Or.inl rfl | exact Or.inr rfl) (pe_bm0 PySem.F.plainAttrs_list PySem.F.slot_list_pop PySem.F.type_list_pop mt_pop (pv 2)))
  (pss_cons (ps_if (pt_not (pt_val (pe_call G_is_top (hr.mono (by first | decide | omega)) rfl T.m_is_top T.F_is_top.kp T.b_is_top .nil pass0 (pa_cons (pv 0) (pa_cons (pv 3) pa_nil))))) (pss_one (ps_ret pe_bl)) pss_nil)
  (pss_one (ps_expr (pe_bm PySem.F.plainAttrs_list PySem.F.slot_list_extend PySem.F.type_list_extend mt_extT (pv 2) (pa_cons (pe_slice sl_tupA (pv 3) (po_some pe_int) po_none) pa_nil)))))))
  (pss_one (ps_ret pe_bl)))), ?_⟩
  refine qn_asg (S := S) (K := K) (ds := [x]) (n_lst hS (a_cons (d_var rfl h1) a_nil) (by show 1 ≤ 100000; decide)) fun p xs H1 hp e1 hx rl => ?_
  have a0 : Acc K S H p [x] H1 := acc_mk hp e1 hx rl
  refine q_while (fun m σ' H' => ∃ ws o, σ' = [some v0, some v1, some (.ref p), o] ∧ Acc K S H p ws H' ∧ treeL es ws = treeD es x ∧ m = nodesL ws ∧ m ≤ nodes x) (nodes x) ⟨[x], none, rfl, a0, Bool.and_true _, rfl, Nat.le_refl _⟩ ?_
  rintro m σ' H' ⟨ws, o, rfl, ac, ht, hm, hmx⟩
  refine ⟨!ws.isEmpty, acc_truth rfl ac, fun hb H2 e2 => ?_, fun hb H2 e2 => ?_⟩
  · refine ⟨_, fun _ _ z => z, ?_⟩
    have ne : ws ≠ [] := fun z => by rw [z] at hb; cases hb
    obtain ⟨ys, y, rfl⟩ := snoc_of ne
    rw [treeL_app] at ht
    rw [nodesL_app] at hm
    have ht2 : (treeL es ys && (treeD es y && true)) = treeD es x := ht
    rw [Bool.and_true] at ht2
    have hm2 : m = nodesL ys + (nodes y + 0) := hm
    refine acc_pop rfl (ac.up e2) fun v H3 ac3 rv => ?_
    have i3 := ac3.in_ hS
    refine q_when (b := !(topD es y)) (et_not (t_ofB (d_call i3.dom (a_cons (d_var rfl (h0.rx i3.lo)) (a_cons (d_var rfl rv) a_nil)) ⟨es, y, rfl, hs, rfl⟩))) (fun hc H4 e4 => ?_) (fun hc H4 e4 => ?_)
    · refine sd_ret (S := S) (K := K) d_bl fun v H5 e5 r9 => q v H5 ((ac3.ex.trans e4).trans e5) ?_
      rw [Bool.not_eq_true'] at hc
      rw [tree_top hc, Bool.and_false] at ht2
      rw [← ht2]
      exact r9
    · rw [Bool.not_eq_false'] at hc
      obtain ⟨cs, rfl⟩ := top_tuple hc
      have ac4 := ac3.up e4
      have hl := length_nodesL ys
      have hl2 := length_nodesL (cs.drop 1)
      have hny := nodes_tuple cs
      refine acc_ext (es := cs.drop 1) rfl ac4 ?_ ?_ fun H5 ac5 => ?_
      · exact d_tail (i3.dom.ex e4) (d_var rfl (rv.ex (lo_ex e4)))
      · exact Evl.sz_of (by omega)
      · refine ⟨nodesL (ys ++ cs.drop 1), ?_, ys ++ cs.drop 1, some v, rfl, ac5, ?_, rfl, ?_⟩
        · rw [nodesL_app]
          omega
        · rw [treeL_app, ← ht2, treeD_tuple hc]
        · rw [nodesL_app]
          omega
  · have hw : ws = [] := by
      cases ws with
      | nil => rfl
      | cons _ _ => cases hb
    subst hw
    refine sd_ret (S := S) (K := K) d_bl fun v H5 e5 r9 => q v H5 ((ac.ex.trans e2).trans e5) ?_
    rw [← ht]
    exact r9
def R_check_tree : List PyData → PyData → Prop := fun ds d => ∃ es x, ds = [.dict es, x] ∧ signsD (.dict es) = true ∧ nodes x ≤ 50000 ∧ treeD es x = true ∧ d = .none
theorem ok_check_tree (T : Txt K mg A) : FnOk P w K mg base CX0 3 A.f_check_tree A.fd_check_tree ["signs", "tree"] (PSp K R_check_tree) := by
  have G_is_grown : FnOk P w K mg base CX0 2 _ _ ["signs", "thing"] (PSp K R_is_grown) := ok_is_grown T
  refine T.F_check_tree.ok sc_check_tree (fun vs H Q E h => ?_) (fun cdv Ar outer s H vs Q E hr h => ?_)
  · obtain ⟨S, ds, d, _, r, ⟨es, x, rfl, _⟩, _⟩ := h
    exact r.length
  obtain ⟨S, ds, d, hS, r, ⟨es, x, rfl, hs, hn, ht, rfl⟩, q⟩ := h
  obtain ⟨v0, v1, rfl, h0, h1⟩ := rpL2 r
  refine ⟨_, (pss_one (ps_if (pt_not (pt_val (pe_call G_is_grown (hr.mono (by first | decide | omega)) rfl T.m_is_grown T.F_is_grown.kp T.b_is_grown .nil pass0 (pa_cons (pv 0) (pa_cons (pv 1) pa_nil))))) (pss_one ps_never) pss_nil)), ?_⟩
  refine s_when (b := !(treeD es x)) (et_not (t_ofB (d_call hS (a_cons (d_var rfl h0) (a_cons (d_var rfl h1) a_nil)) ⟨es, x, rfl, hs, hn, rfl⟩))) (fun hb => by rw [ht] at hb; cases hb) (fun hb H1 e1 => q _ _ e1 rfl)
end
end K31
namespace Lx
open PySem PySem.Spec PyProof.Rows L2 Evl
theorem treeL_get {sg : List (PyData × PyData)} : ∀ {es : List PyData} {k : Nat} {d : PyData}, treeL sg es = true → es[k]? = some d → treeD sg d = true
  | [], _, _, _, e => by simp at e
  | x :: es, 0, d, h, e => by
    cases (show some x = some d from e)
    have h2 : (treeD sg x && treeL sg es) = true := h
    exact (Bool.and_eq_true_iff.mp h2).1
  | x :: es, k + 1, d, h, e => by
    have h2 : (treeD sg x && treeL sg es) = true := h
    exact treeL_get (Bool.and_eq_true_iff.mp h2).2 (show es[k]? = some d from e)
theorem tree_tuple {sg : List (PyData × PyData)} {d : PyData} (h : treeD sg d = true) : ∃ ds, d = .tuple ds ∧ topD sg (.tuple ds) = true ∧ treeL sg (ds.drop 1) = true := by
  cases d with
  | tuple ds =>
    have h2 : (topD sg (.tuple ds) && treeT sg ds) = true := h
    rw [treeT_drop, Bool.and_eq_true] at h2
    exact ⟨ds, rfl, h2.1, h2.2⟩
  | none => cases h
  | bool _ => cases h
  | int _ => cases h
  | str _ => cases h
  | list _ => cases h
  | dict _ => cases h
end Lx
namespace K31
open PySem PySem.Spec PyProof.Rows L2 Evl Lx
section
variable {P : Program} {w : World} {K : PySem.W.Frag} {mg : Str → Option Value} {base : Heap} {A : Ad}
/-- level by level: the tree, then the trees beneath each of them in turn -/
def R_places_of : List PyData → List PyData → Prop := fun ds es => ∃ x, ds = [x] ∧ (∃ sg, treeD sg x = true) ∧ nodes x ≤ 50000 ∧ ∀ es', (es' = x :: (es'.map kids).flatten ∧ es'.length = nodes x) → es = es'
theorem ok_places_of (T : Txt K mg A) : FnOk P w K mg base CX0 1 A.f_places_of A.fd_places_of ["thing"] (fun vs H Q _ => ∃ S x sg, Dom S H ∧ RpL K (Lo S H) [x] vs ∧ treeD sg x = true ∧ nodes x ≤ 50000 ∧
    ∀ p es H', es = x :: (es.map kids).flatten → es.length = nodes x → Acc K S H p es H' → Q (.ref p) H') := by
  refine T.F_places_of.ok sc_places_of (fun vs H Q E h => ?_) (fun cdv Ar outer s H vs Q E hr h => ?_)
  · obtain ⟨S, x, sg, _, r, _⟩ := h
    exact r.length
  obtain ⟨S, x, sg, hS, r, ht, hn, q⟩ := h
  obtain ⟨v0, rfl, h0⟩ := rpL1 r
  refine ⟨_, (pss_cons (ps_set (i := 1) sc_places_of.nd rfl (by first | exact Or.inl rfl | exact Or.inr rfl) (pe_lst (pa_cons (pv 0) pa_nil)))
  (pss_cons (ps_set (i := 2) sc_places_of.nd rfl (by first | exact Or.inl rfl | exact Or.inr rfl) pe_int)
  (pss_cons (ps_while PassesOwn.never (pt_cmpR op_lt (pv 2) (pe_callB c_len (by rfl) T.z_len (by decide +kernel) (pa_cons (pv 1) pa_nil)) (nomark _)) (pss_cons (ps_set (i := 3) sc_places_of.nd rfl (by first | exact Or.inl rfl | exact Or.inr rfl) (pe_ix ix_list (pv 1) (pv 2) (fun _ _ => rfl)))
  (pss_cons (ps_if (pt_cmpR op_notN (pv 3) pe_non (nomark _)) (pss_one (ps_expr (pe_bm PySem.F.plainAttrs_list PySem.F.slot_list_extend PySem.F.type_list_extend mt_extT (pv 1) (pa_cons (pe_slice sl_tupA (pv 3) (po_some pe_int) po_none) pa_nil)))) pss_nil)
  (pss_one (ps_aug (i := 2) sc_places_of.nd rfl (by first | exact Or.inl rfl | exact Or.inr rfl) pe_int ip_add)))))
  (pss_one (ps_ret (pv 1)))))), ?_⟩
  refine qn_asg (S := S) (K := K) (ds := [x]) (n_lst hS (a_cons (d_var rfl h0) a_nil) (by show 1 ≤ 100000; decide)) fun p xs H1 hp e1 hx rl => ?_
  have a0 : Acc K S H p [x] H1 := acc_mk hp e1 hx rl
  refine qd_asg (S := p :: S) (K := K) (d := .int 0) d_int fun u H2 e2 ru => ?_
  cases (show u = .int 0 from ru)
  refine q_while (fun m σ' H' => ∃ es o k, σ' = [some v0, some (.ref p), some (.int ((k : Nat) : Int)), o] ∧ Acc K S H p es H' ∧ es = x :: ((es.take k).map kids).flatten ∧ k ≤ es.length ∧ treeL sg es = true ∧ m = nodesL (es.drop k) ∧ k + m = nodes x ∧ es.length + (m - (es.length - k)) = nodes x)
    (nodes x) ⟨[x], none, 0, rfl, a0.up e2, rfl, Nat.zero_le _, by show (treeD sg x && true) = true; rw [ht]; rfl, (by show nodes x = nodes x + 0; omega), by omega, by have := nodes_pos x; show 1 + (nodes x - (1 - 0)) = nodes x; omega⟩ ?_
  rintro m σ' H' ⟨es, o, k, rfl, ac, he, hk, htl, hm, hkm, hsz⟩
  have hS' := (ac.in_ hS).dom
  have hlen : es.length ≤ nodes x := by omega
  refine ⟨decide ((k : Int) < (es.length : Int)), t_of (K := K) (S := p :: S) (d_B0 (d_var rfl rfl) (d_lenO rfl ac.own)), fun hb H3 e3 => ?_, fun hb H3 e3 => ?_⟩
  · have hlt : k < es.length := by
      have := of_decide_eq_true hb
      omega
    refine ⟨_, fun _ _ z => z, ?_⟩
    have ac3 := ac.up e3
    have hS3 := hS'.ex e3
    have hg : es[k]? = some es[k] := List.getElem?_eq_getElem hlt
    obtain ⟨cs, hcs, hct, hcl⟩ := tree_tuple (treeL_get htl hg)
    refine qd_asg (S := p :: S) (K := K) (d := es[k]) (d_ixO rfl ac3.own (d_var rfl rfl) (atI_of rfl hg)) fun v H4 e4 rv => ?_
    have ac4 := ac3.up e4
    have hd : es.drop k = es[k] :: es.drop (k + 1) := List.drop_eq_getElem_cons hlt
    have hno : nodes es[k] = 1 + nodesL (cs.drop 1) := by rw [hcs, nodes_tuple]
    have hm2 : m = nodes es[k] + nodesL (es.drop (k + 1)) := by
      rw [hm, hd]
      all_goals rfl
    have hkids := length_nodesL (cs.drop 1)
    have hrest := length_nodesL (es.drop (k + 1))
    rw [List.length_drop] at hrest
    have hv : ∃ q, v = .ref q := by
      rw [hcs] at rv
      obtain ⟨q, _, rfl, _⟩ := rv
      exact ⟨q, rfl⟩
    refine q_if (b := true) (fun H5 e5 Q q => ?_) (fun _ H5 e5 => ?_) (fun z => nomatch z)
    · obtain ⟨q', rfl⟩ := hv
      exact ⟨_, rfl, rfl, true, by simp, q H5 (Ex.refl _)⟩
    have ac4 := ac4.up e5
    have e4 := e4.trans e5
    refine acc_ext (es := cs.drop 1) rfl ac4 (d_tail (hS3.ex e4) (d_var rfl (by rw [← hcs]; exact rv.ex (lo_ex e5)))) ?_ fun H5 ac5 => ?_
    · exact Evl.sz_of (by omega)
    · refine s_aug (a := (k : Int)) (b := 1) rfl ev_c fun H6 e6 => ?_
      have tk : (es ++ cs.drop 1).take (k + 1) = es.take k ++ [es[k]] := by
        rw [List.take_append_of_le_length (by omega), List.take_add_one, hg]
        all_goals rfl
      have dk : (es ++ cs.drop 1).drop (k + 1) = es.drop (k + 1) ++ cs.drop 1 := List.drop_append_of_le_length (by omega)
      refine ⟨nodesL ((es ++ cs.drop 1).drop (k + 1)), ?_, es ++ cs.drop 1, some v, k + 1, ?_, ac5.up e6, ?_, ?_, ?_, rfl, ?_, ?_⟩
      · rw [dk, nodesL_app]
        omega
      · show [some v0, some (V.ref p), some (V.int ((k : Int) + 1)), some v] = _
        rw [Int.natCast_add]
        all_goals rfl
      · rw [tk, List.map_append, List.flatten_append]
        have hkd : kids es[k] = cs.drop 1 := by rw [hcs]; rfl
        show es ++ cs.drop 1 = x :: (((es.take k).map kids).flatten ++ ([kids es[k]]).flatten)
        rw [hkd, List.flatten_cons, List.flatten_nil, List.append_nil, ← List.cons_append, ← he]
      · rw [List.length_append]
        omega
      · rw [treeL_app, htl, hcl]
        all_goals rfl
      · rw [dk, nodesL_app]
        omega
      · rw [dk, nodesL_app, List.length_append]
        omega
  · have hge : k = es.length := by
      have := of_decide_eq_false hb
      omega
    have he2 : es = x :: (es.map kids).flatten := by
      rw [hge, List.take_length] at he
      exact he
    refine s_ret (v := .ref p) (ev_var rfl) fun H4 e4 => q p es H4 he2 ?_ (ac.up (e3.trans e4))
    rw [hge, List.drop_length] at hm
    have : m = 0 := hm
    omega
def R_size : List PyData → PyData → Prop := fun ds d => ∃ es x, ds = [.dict es, x] ∧ shortK (.dict es) = true ∧ signsD (.dict es) = true ∧ nodes x ≤ 50000 ∧ treeD es x = true ∧ d = .int (nodes x)
theorem ok_size (T : Txt K mg A) : FnOk P w K mg base CX0 5 A.f_size A.fd_size ["signs", "tree"] (PSp K R_size) := by
  have G_check_signs : FnOk P w K mg base CX0 4 _ _ ["signs"] (PSp K R_check_signs) := ok_check_signs T
  have G_check_tree : FnOk P w K mg base CX0 3 _ _ ["signs", "tree"] (PSp K R_check_tree) := ok_check_tree T
  have G_places_of := ok_places_of (P := P) (w := w) (base := base) T
  refine T.F_size.ok sc_size (fun vs H Q E h => ?_) (fun cdv Ar outer s H vs Q E hr h => ?_)
  · obtain ⟨S, ds, d, _, r, ⟨es, x, rfl, _⟩, _⟩ := h
    exact r.length
  obtain ⟨S, ds, d, hS, r, ⟨es, x, rfl, hk, hs, hn, ht, rfl⟩, q⟩ := h
  obtain ⟨v0, v1, rfl, h0, h1⟩ := rpL2 r
  refine ⟨_, (pss_cons (ps_expr (pe_call G_check_signs (hr.mono (by first | decide | omega)) rfl T.m_check_signs T.F_check_signs.kp T.b_check_signs .nil pass0 (pa_cons (pv 0) pa_nil)))
  (pss_cons (ps_expr (pe_call G_check_tree (hr.mono (by first | decide | omega)) rfl T.m_check_tree T.F_check_tree.kp T.b_check_tree .nil pass0 (pa_cons (pv 0) (pa_cons (pv 1) pa_nil))))
  (pss_one (ps_ret (pe_callB c_len (by rfl) T.z_len (by decide +kernel) (pa_cons (pe_call G_places_of (hr.mono (by first | decide | omega)) rfl T.m_places_of T.F_places_of.kp T.b_places_of .nil pass0 (pa_cons (pv 1) pa_nil)) pa_nil)))))), ?_⟩
  refine qd_drop (S := S) (K := K) (d := .none) (d_call hS (a_cons (d_var rfl h0) a_nil) ⟨_, rfl, hk, hs, rfl⟩) fun H1 e1 => ?_
  refine qd_drop (S := S) (K := K) (d := .none) (d_call (hS.ex e1) (a_cons (d_var rfl (h0.ex (lo_ex e1))) (a_cons (d_var rfl (h1.ex (lo_ex e1))) a_nil)) ⟨es, x, rfl, hs, hn, ht, rfl⟩) fun H2 e2 => ?_
  have e12 := e1.trans e2
  have r1 := h1.ex (lo_ex e12)
  refine ⟨_, rfl, S, x, es, hS.ex e12, RpL.cons r1 rfl, ht, hn, fun p fs H3 hf hl ac => ?_⟩
  obtain ⟨xs, g0, g1, g2, g3⟩ := ac.new_
  refine ⟨p, xs, rfl, Or.inl (sq_of g2), ?_⟩
  rw [g3.length, hl]
  exact q _ H3 (e12.trans g1) rfl
end
end K31
namespace K31
open PySem PySem.Spec PyProof.Rows L2 Evl Lx
section
variable {P : Program} {w : World} {K : PySem.W.Frag} {mg : Str → Option Value} {base : Heap} {A : Ad}
theorem ok_law_next (T : Txt K mg A) : FnOk P w K mg base CX0 1 A.f_law_next A.fd_law_next ["pen"] (spNext K) := by
  refine T.F_law_next.ok sc_law_next (fun vs H Q E h => ?_) (fun cdv Ar outer s H vs Q E hr h => ?_)
  · obtain ⟨p, q, ns, n, rfl, _⟩ := h
    rfl
  obtain ⟨p, q, ns, n, rfl, ⟨r, hp, hq, hr0, hn0, hlen⟩, hn, k⟩ := h
  refine ⟨_, (pss_cons (ps_set (i := 1) sc_law_next.nd rfl (by first | exact Or.inl rfl | exact Or.inr rfl) (pe_ix ix_list (pv 0) pe_int (fun _ _ => rfl)))
  (pss_cons (ps_asg (pe_op op_add (pv 1) pe_int) (pg_sub (pv 0) pe_int set_list))
  (pss_cons (ps_set (i := 2) sc_law_next.nd rfl (by first | exact Or.inl rfl | exact Or.inr rfl) (pe_op op_add (pe_op op_mul (pv 1) pe_int) pe_int))
  (pss_cons (ps_if (pt_cmpR (op_neD hr.units) (pe_ix ix_list (pv 0) pe_int (fun _ _ => rfl)) (pe_lst pa_nil) (nomark _)) (pss_one (ps_set (i := 2) sc_law_next.nd rfl (by first | exact Or.inl rfl | exact Or.inr rfl) (pe_ix ix_list (pe_ix ix_list (pv 0) pe_int (fun _ _ => rfl)) (pe_op op_mod (pe_callTy c_int (by rfl) T.z_int (by decide +kernel) (pa_cons (pv 1) pa_nil)) (pe_callB c_len (by rfl) T.z_len (by decide +kernel) (pa_cons (pe_ix ix_list (pv 0) pe_int (fun _ _ => rfl)) pa_nil))) (fun _ _ => rfl)))) pss_nil)
  (pss_cons (ps_if (PW.pt (pw_and (pt_cmpR op_lt (pv 1) (pe_callB c_len (by rfl) T.z_len (by decide +kernel) (pa_cons (pe_ix ix_list (pv 0) pe_int (fun _ _ => rfl)) pa_nil)) (nomark _)) (pw_and1 (pt_cmpR op_ge (pv 2) (pe_op op_pow pe_int pe_int) (nomark _))))) (pss_one (ps_ret (pv 2))) pss_nil)
  (pss_cons (ps_set (i := 3) sc_law_next.nd rfl (by first | exact Or.inl rfl | exact Or.inr rfl) (pe_op op_mod (pe_callTy c_int (by rfl) T.z_int (by decide +kernel) (pa_cons (pe_op op_add (pe_op op_add (pe_op op_mod (pe_callTy c_int (by rfl) T.z_int (by decide +kernel) (pa_cons (pv 2) pa_nil)) pe_int) (pe_op op_mul (pv 1) pe_int)) pe_int) pa_nil)) pe_int))
  (pss_cons (ps_set (i := 4) sc_law_next.nd rfl (by first | exact Or.inl rfl | exact Or.inr rfl) (pe_op op_mod (pe_callTy c_int (by rfl) T.z_int (by decide +kernel) (pa_cons (pe_op op_add (pe_op op_add (pe_op op_mul (pv 3) (pv 3)) (pe_op op_mul (pv 1) pe_int)) pe_int) pa_nil)) pe_int))
  (pss_cons (ps_set (i := 5) sc_law_next.nd rfl (by first | exact Or.inl rfl | exact Or.inr rfl) (pe_op op_mod (pe_callTy c_int (by rfl) T.z_int (by decide +kernel) (pa_cons (pe_op op_add (pe_op op_add (pe_op op_mul (pv 4) (pv 4)) (pv 3)) (pe_op op_mul (pe_op op_mul (pv 1) (pv 1)) pe_int)) pa_nil)) pe_int))
  (pss_one (ps_ret (pe_op op_add (pe_op op_mul (pe_op op_add (pe_op op_mul (pv 5) pe_int) (pv 4)) pe_int) (pv 3)))))))))))), ?_⟩
  have hN : (Int.pow 2 64 : Int) = 18446744073709551616 := by decide
  refine q_asg (v := .int n) (ev_idx (ev_var rfl) ev_c (sq_of hp) (j := 1) rfl rfl) fun H1 e1 => ?_
  refine q_setL (j := 1) (v := .int (n + 1)) (e1 p _ hp) (ev_op (ev_var rfl) ev_c rv_I0) (ev_var rfl) ev_c (by show 1 < 3; decide) fun H2 e2 => ?_
  generalize hH3 : upd H2 p (HO.lst ([V.ref q, V.int n, V.int r].set 1 (V.int (n + 1)))) = H3
  have hp3 : H3 p = some (.lst [.ref q, .int (n + 1), .int r]) := by
    rw [← hH3, upd_same]
    all_goals rfl
  have lo3 : Lo [p] H3 = Lo [p] H2 := by rw [← hH3, lo1_upd]
  have hq3 : SqL K (Lo [p] H3) q (ns.map V.int) := by
    rw [lo3]
    exact (Rx.of (lo_ex (e1.trans e2))).l hq
  have st3 : Stay p H H3 := by
    rw [← hH3]
    exact (Stay.of (e1.trans e2)).upd
  -- behind it all stays as it is here
  have fin : ∀ x H', 0 ≤ x → Ex H3 H' → Q (.int x) H' := fun x H' hx e => k x H' hx ⟨r, e p _ hp3, (Rx.of (lo_ex e)).l hq3, hr0, by omega, hlen⟩ (st3.trans (Stay.of e))
  clear hH3 lo3
  have qH : ∀ H', Ex H3 H' → SqL K H' q (ns.map V.int) := fun H' e => (Rx.of (lo_sub.trans e)).l hq3
  have pq : ∀ {σ : L2.St} {H' : Hp}, σ[0]? = some (some (.ref p)) → Ex H3 H' → Ev (tOp (rIxL K) (tVar 0) (tC (.int 0))) σ H' (.ref q) := fun hσ e => ev_idx (ev_var hσ) ev_c (sq_of (e p _ hp3)) (j := 0) rfl rfl
  refine q_asg (v := .int (n * 1051 + 53)) (ev_op (ev_op (ev_var rfl) ev_c (rv_I (Or.inr ⟨by decide, by decide⟩))) ev_c rv_I0) fun H4 e4 => ?_
  have hc : ∃ c : Int, (ns.isEmpty = true → c = n * 1051 + 53) ∧ (ns.isEmpty = false → ∃ j : Nat, n % (ns.length : Int) = (j : Int) ∧ ns[j]? = some c) := by
    cases ns with
    | nil => exact ⟨_, fun _ => rfl, fun z => (by cases z)⟩
    | cons m ms =>
      have h0 : 0 ≤ n % ((m :: ms).length : Int) := Int.emod_nonneg _ (by rw [List.length_cons]; omega)
      have h1 : n % ((m :: ms).length : Int) < ((m :: ms).length : Int) := Int.emod_lt_of_pos _ (by rw [List.length_cons]; omega)
      have hj : (n % ((m :: ms).length : Int)).toNat < (m :: ms).length := by omega
      exact ⟨(m :: ms)[(n % ((m :: ms).length : Int)).toNat], fun z => (by cases z), fun _ => ⟨(n % ((m :: ms).length : Int)).toNat, by omega, List.getElem?_eq_getElem hj⟩⟩
  obtain ⟨c, hc1, hc2⟩ := hc
  refine q_ifAsg (v := .int c) (b := !ns.isEmpty) (et_neNil (pq rfl e4) (qH _ e4)) (fun hb => ?_) (fun hb => ?_) fun H5 e5 => ?_
  · rw [Bool.not_eq_true'] at hb
    obtain ⟨j, hj1, hj2⟩ := hc2 hb
    have hl : 0 < ns.length := by
      cases ns with
      | nil => cases hb
      | cons _ _ => exact Nat.succ_pos _
    refine ev_idx (pq rfl e4) (ev_op (ev_int' (ev_var rfl)) (ev_len (pq rfl e4) (qH _ e4)) (rv_I ?_)) (qH _ e4) (j := j) ?_ ?_
    · show 0 < ((ns.map V.int).length : Int)
      rw [List.length_map]
      omega
    · rw [List.length_map]
      exact hj1
    · rw [List.getElem?_map, hj2]
      all_goals rfl
  · rw [Bool.not_eq_false'] at hb
    rw [hc1 hb]
    all_goals rfl
  have e45 := e4.trans e5
  refine q_when (b := decide (n < ((ns.map V.int).length : Int)) && decide ((10 : Int) ^ (18 : Int).toNat ≤ c)) (et_and (et_test (ev_op (ev_var rfl) (ev_len (pq rfl e45) (qH _ e45)) rv_I0)) fun _ => et_test (ev_op (ev_var rfl) (ev_op ev_c ev_c (rv_I ⟨by decide, by decide, by decide⟩)) rv_I0)) (fun hb H6 e6 => ?_) (fun hb H6 e6 => ?_)
  · refine s_ret (v := .int c) (ev_var rfl) fun H7 e7 => fin c H7 ?_ ((e45.trans e6).trans e7)
    have h2 := of_decide_eq_true (Bool.and_eq_true_iff.mp hb).2
    have h3 : (0 : Int) ≤ (10 : Int) ^ (18 : Int).toNat := by decide
    omega
  · have e46 := e45.trans e6
    have pos : ∀ m : Int, 0 < m → ∀ x : Int, 0 ≤ x % m ∧ x % m < m := fun m hm x => ⟨Int.emod_nonneg _ (by omega), Int.emod_lt_of_pos _ hm⟩
    -- some
    generalize hs : ((c % 2147483587 + n * 30103 + 79) % 2147483587 : Int) = sm
    obtain ⟨s0, s1⟩ := pos 2147483587 (by decide) (c % 2147483587 + n * 30103 + 79)
    rw [hs] at s0 s1
    refine q_asg (v := .int sm) ?_ fun H7 e7 => ?_
    · rw [← hs]
      exact ev_op (ev_int' (ev_op (ev_op (ev_op (ev_int' (ev_var rfl)) ev_c (rv_I (by decide))) (ev_op (ev_var rfl) ev_c (rv_I (Or.inr ⟨by decide, by decide⟩))) rv_I0) ev_c rv_I0)) ev_c (rv_I (by decide))
    generalize hm : ((sm * sm + n * 70039 + 61) % 2147483563 : Int) = mr
    obtain ⟨m0, m1⟩ := pos 2147483563 (by decide) (sm * sm + n * 70039 + 61)
    rw [hm] at m0 m1
    refine q_asg (v := .int mr) ?_ fun H8 e8 => ?_
    · rw [← hm]
      exact ev_op (ev_int' (ev_op (ev_op (ev_op (ev_var rfl) (ev_var rfl) (rv_I (Or.inl ⟨by omega, by omega⟩))) (ev_op (ev_var rfl) ev_c (rv_I (Or.inr ⟨by decide, by decide⟩))) rv_I0) ev_c rv_I0)) ev_c (rv_I (by decide))
    generalize hh : ((mr * mr + sm + n * n * 37) % 2147483549 : Int) = hg
    obtain ⟨g0, g1⟩ := pos 2147483549 (by decide) (mr * mr + sm + n * n * 37)
    rw [hh] at g0 g1
    refine q_asg (v := .int hg) ?_ fun H9 e9 => ?_
    · rw [← hh]
      exact ev_op (ev_int' (ev_op (ev_op (ev_op (ev_var rfl) (ev_var rfl) (rv_I (Or.inl ⟨by omega, by omega⟩))) (ev_var rfl) rv_I0) (ev_op (ev_op (ev_var rfl) (ev_var rfl) (rv_I (Or.inl ⟨by omega, by omega⟩))) ev_c (rv_I (Or.inr ⟨by decide, by decide⟩))) rv_I0)) ev_c (rv_I (by decide))
    refine s_ret (v := .int ((hg * 2147483587 + mr) * 2147483563 + sm)) (ev_op (ev_op (ev_op (ev_op (ev_var rfl) ev_c (rv_I (Or.inr ⟨by decide, by decide⟩))) (ev_var rfl) rv_I0) ev_c (rv_I (Or.inr ⟨by decide, by decide⟩))) (ev_var rfl) rv_I0) fun HA eA => ?_
    exact fin _ HA (by omega) ((((e46.trans e7).trans e8).trans e9).trans eA)
end
end K31
namespace Lx
open PySem PySem.Spec PyProof.Rows L2 Evl
mutual
/-- how many trees stand one beneath another -/
def dep : PyData → Nat
  | .tuple ds => 1 + depT ds
  | _ => 1
def depT : List PyData → Nat
  | [] => 0
  | _ :: ds => depL ds
def depL : List PyData → Nat
  | [] => 0
  | d :: ds => max (dep d) (depL ds)
end
theorem dep_pos (d : PyData) : 1 ≤ dep d := by
  cases d <;> first | exact Nat.le_refl 1 | (show 1 ≤ 1 + depT _; omega)
theorem depT_drop (ds : List PyData) : depT ds = depL (ds.drop 1) := by cases ds <;> rfl
theorem dep_tuple (ds : List PyData) : dep (.tuple ds) = 1 + depL (ds.drop 1) := by
  show 1 + depT ds = _
  rw [depT_drop]
theorem depL_mem {d : PyData} : ∀ {ds : List PyData}, d ∈ ds → dep d ≤ depL ds
  | x :: ds, h => by
    show dep d ≤ max (dep x) (depL ds)
    rcases List.mem_cons.mp h with e | h
    · subst e
      omega
    · have := depL_mem h
      omega
theorem nodesL_mem {d : PyData} : ∀ {ds : List PyData}, d ∈ ds → nodes d ≤ nodesL ds
  | x :: ds, h => by
    show nodes d ≤ nodes x + nodesL ds
    rcases List.mem_cons.mp h with e | h
    · subst e
      omega
    · have := nodesL_mem h
      omega
theorem treeL_mem {sg : List (PyData × PyData)} {d : PyData} : ∀ {ds : List PyData}, treeL sg ds = true → d ∈ ds → treeD sg d = true
  | x :: ds, h, m => by
    have h2 : (treeD sg x && treeL sg ds) = true := h
    obtain ⟨h3, h4⟩ := Bool.and_eq_true_iff.mp h2
    rcases List.mem_cons.mp m with e | m
    · rw [e]
      exact h3
    · exact treeL_mem h4 m
theorem sum_nodes : ∀ ds : List PyData, (ds.map fun d => ((nodes d : Nat) : Int)).sum = ((nodesL ds : Nat) : Int)
  | [] => rfl
  | d :: ds => by
    rw [List.map_cons, List.sum_cons, sum_nodes ds]
    show ((nodes d : Nat) : Int) + ((nodesL ds : Nat) : Int) = ((nodes d + nodesL ds : Nat) : Int)
    omega
/-- nothing can be asked with no calls left -/
theorem fn_none {P : Program} {w : World} {K : PySem.W.Frag} {mg : Str → Option Value} {base : Heap} {CX : CXT} {f : Addr} {fd : FuncData} {ps : List Str} {sp : Sp} (no : ∀ vs H Q E, ¬ sp vs H Q E) : FnOk P w K mg base CX 0 f fd ps sp :=
  ⟨fun vs H Q E h => absurd h (no vs H Q E), fun A outer s H args us vs Q E _ _ _ _ h => absurd h (no vs H Q E)⟩
end Lx
namespace K31
open PySem PySem.Spec PyProof.Rows L2 Evl Lx
section
variable {P : Program} {w : World} {K : PySem.W.Frag} {mg : Str → Option Value} {base : Heap} {A : Ad}
theorem ok_law_draw (T : Txt K mg A) : FnOk P w K mg base CX0 2 A.f_law_draw A.fd_law_draw ["pen", "under"] (spDraw K) := by
  have G_law_next : FnOk P w K mg base CX0 1 _ _ ["pen"] (spNext K) := ok_law_next T
  refine T.F_law_draw.ok sc_law_draw (fun vs H Q E h => ?_) (fun cdv Ar outer s H vs Q E hr h => ?_)
  · obtain ⟨p, q, ns, u, n, rfl, _⟩ := h
    rfl
  obtain ⟨p, q, ns, u, n, rfl, hu0, hu1, hpen, hn, k⟩ := h
  refine ⟨_, (Evl.pss_cut (ps_if (pt_cmpR op_lt (pe_ix ix_list (pv 0) pe_int (fun _ _ => rfl)) (pv 1) (nomark _)) (pss_one (ps_asg (pe_call G_law_next (hr.mono (by first | decide | omega)) rfl T.m_law_next T.F_law_next.kp T.b_law_next .nil pass0 (pa_cons (pv 0) pa_nil)) (pg_sub (pv 0) pe_int set_list))) pss_nil)
  (pss_cons (ps_set (i := 2) sc_law_draw.nd rfl (by first | exact Or.inl rfl | exact Or.inr rfl) (pe_op op_mod (pe_callTy c_int (by rfl) T.z_int (by decide +kernel) (pa_cons (pe_ix ix_list (pv 0) pe_int (fun _ _ => rfl)) pa_nil)) (pv 1)))
  (pss_cons (ps_asg (pe_op op_fdiv (pe_ix ix_list (pv 0) pe_int (fun _ _ => rfl)) (pv 1)) (pg_sub (pv 0) pe_int set_list))
  (pss_one (ps_ret (pv 2)))))), ?_⟩
  obtain ⟨r, hp, hq, hr0, hn0, hlen⟩ := id hpen
  refine q_cut (M := fun σ' H' => ∃ n', σ' = start ["pen", "under", "digit"] [.ref p, .int u] ∧ n' ≤ n + 1 ∧ Pen K H' p q ns n' ∧ Stay p H H') ?_ ?_
  · refine s_when (b := decide (r < u)) (et_test (ev_op (ev_idx (ev_var rfl) ev_c (sq_of hp) (j := 2) rfl rfl) (ev_var rfl) rv_I0)) (fun hb H1 e1 => ?_) (fun hb H1 e1 => ⟨n, rfl, by omega, hpen.ex e1, Stay.of e1⟩)
    refine ⟨_, rfl, p, q, ns, n, rfl, hpen.ex e1, hn, fun x H2 hx hpen2 st => ?_⟩
    obtain ⟨r2, hp2, hq2, hr2, hn2, hl2⟩ := hpen2
    refine ⟨_, rfl, p, _, 2, 2, rfl, rfl, hp2, rfl, n + 1, rfl, by omega, ?_, ?_⟩
    · refine ⟨x, ?_, ?_, hx, hn2, hl2⟩
      · rw [upd_same]
        all_goals rfl
      · rw [lo1_upd]
        exact hq2
    · exact ((Stay.of e1).trans st).upd
  · rintro σ' H1 ⟨n', rfl, hn', ⟨r1, hp1, hq1, hr1, hn1, hl1⟩, st1⟩
    refine q_asg (v := .int (r1 % u)) (ev_op (ev_int' (ev_idx (ev_var rfl) ev_c (sq_of hp1) (j := 2) rfl rfl)) (ev_var rfl) (rv_I hu0)) fun H2 e2 => ?_
    refine q_setL (j := 2) (v := .int (r1 / u)) (e2 p _ hp1) (ev_op (ev_idx (ev_var rfl) ev_c (sq_of (e2 p _ hp1)) (j := 2) rfl rfl) (ev_var rfl) (rv_I ⟨hu0, hu1⟩)) (ev_var rfl) ev_c (by show 2 < 3; decide) fun H3 e3 => ?_
    refine s_ret (v := .int (r1 % u)) (ev_var rfl) fun H4 e4 => k (r1 % u) n' H4 (Int.emod_nonneg _ (by omega)) (Int.emod_lt_of_pos _ hu0) hn' ?_ ?_
    · refine Pen.ex ⟨r1 / u, ?_, ?_, Int.ediv_nonneg hr1 (by omega), hn1, hl1⟩ e4
      · rw [upd_same]
        all_goals rfl
      · rw [lo1_upd]
        exact (Rx.of (lo_ex (e2.trans e3))).l hq1
    · exact ((st1.trans (Stay.of (e2.trans e3))).upd).trans (Stay.of e4)
theorem ok_law_pen (T : Txt K mg A) : FnOk P w K mg base CX0 1 A.f_law_pen A.fd_law_pen ["script"] (spPen K) := by
  refine T.F_law_pen.ok sc_law_pen (fun vs H Q E h => ?_) (fun cdv Ar outer s H vs Q E hr h => ?_)
  · obtain ⟨a, ns, rfl, _⟩ := h
    rfl
  obtain ⟨a, ns, rfl, hs, k⟩ := h
  refine ⟨_, (pss_one (ps_ret (pe_lst (pa_cons (pe_callTy c_list (by rfl) T.z_list (by decide +kernel) (pa_cons (pe_slice sl_list (pv 0) po_none (po_some pe_int)) pa_nil)) (pa_cons pe_int (pa_cons pe_int pa_nil)))))), ?_⟩
  have r0 : Rp K (Lo [] H) (.list (ns.map .int)) (.ref a) := ⟨a, _, rfl, by rw [lo_nil]; exact hs, RpL.ints ns⟩
  have e1 : HT.sIx (ns.map PyData.int).length 0 none = 0 := rfl
  have e2 : HT.sIx (ns.map PyData.int).length (ns.map PyData.int).length (some 60) = min 60 (ns.map PyData.int).length := HT.sIx_nat _ _ 60
  have cut : (((ns.map PyData.int).drop (HT.sIx (ns.map PyData.int).length 0 none)).take (HT.sIx (ns.map PyData.int).length (ns.map PyData.int).length (some 60) - HT.sIx (ns.map PyData.int).length 0 none)) = (ns.take (min 60 ns.length)).map PyData.int := by
    rw [e1, e2, List.drop_zero, Nat.sub_zero, List.length_map, List.map_take]
  have d0 : Dom [] H := Dom.nil
  refine sn_ret (S := []) (K := K) (ds := [.list ((ns.take (min 60 ns.length)).map .int), .int 0, .int 0]) (n_lst d0 (a_cons (EvN.dat d0 (n_listL d0 (EvN.dat d0 ?_))) (a_cons d_int (a_cons d_int a_nil))) (by show 3 ≤ 100000; decide)) fun p xs H1 hp e1 hx rl => ?_
  · rw [← cut]
    exact n_slL d0 (d_var rfl r0) o_none (o_some (K := K) (S := []) d_int)
  · obtain ⟨x, y, z, rfl, hx1, hy, hz⟩ := rpL3 rl
    cases (show y = V.int 0 from hy)
    cases (show z = V.int 0 from hz)
    obtain ⟨q, ys, rfl, hq, hl⟩ := hx1
    have hys := ints_rp hl
    subst hys
    exact k p q _ H1 hp e1 ⟨0, hx, hq, Int.le_refl _, Int.le_refl _, by rw [List.length_take]; omega⟩
def R_places (k : Nat) : List PyData → PyData → Prop := fun ds d => ∃ x sg, ds = [x] ∧ treeD sg x = true ∧ nodes x ≤ 40000 ∧ dep x ≤ k ∧ d = .int (nodes x)
theorem ok_law_places (T : Txt K mg A) : ∀ k : Nat, FnOk P w K mg base CX0 k A.f_law_places A.fd_law_places ["here"] (PSp K (R_places k))
  | 0 => fn_none fun vs H Q E h => by
    obtain ⟨S, ds, d, _, _, ⟨x, sg, _, _, _, hd, _⟩, _⟩ := h
    have := dep_pos x
    omega
  | k + 1 => by
    have G_law_places := ok_law_places T k
    refine T.F_law_places.ok sc_law_places (fun vs H Q E h => ?_) (fun cdv Ar outer s H vs Q E hr h => ?_)
    · obtain ⟨S, ds, d, _, r, ⟨x, sg, rfl, _⟩, _⟩ := h
      exact r.length
    obtain ⟨S, ds, d, hS, r, ⟨x, sg, rfl, ht, hn, hd, rfl⟩, q⟩ := h
    obtain ⟨v0, rfl, h0⟩ := rpL1 r
    refine ⟨_, (pss_one (ps_ret (pe_op op_add pe_int (pe_callB (cr_sum rfl) (by rfl) T.z_sum (by decide +kernel) (pa_cons (pe_lc (own := [("brother", 1)]) (g := gName 1) (tt := tYes) (by rfl) sc_law_places.nd (pi_tup (pe_slice sl_tupA (pv 0) (po_some pe_int) po_none)) (blkOk_by (own := [("brother", 1)]) (N := ["here", "brother"]) (sc := defScope s_law_places) (by decide +kernel)) (fun _ _ _ _ _ => pg_name (i := 1) sc_law_places.nd rfl (Or.inl rfl)) (fun _ _ _ _ _ => pts_nil) (fun _ _ _ _ _ => (pe_call G_law_places (hr.mono (by first | decide | omega)) rfl T.m_law_places T.F_law_places.kp T.b_law_places .nil pass0 (pa_cons (pv 1) pa_nil)))) pa_nil))))), ?_⟩
    obtain ⟨cs, rfl, _, hcl⟩ := tree_tuple ht
    rw [nodes_tuple] at hn
    rw [dep_tuple] at hd
    have hlen := length_nodesL (cs.drop 1)
    refine sd_ret (S := S) (K := K) (d := .int (nodes (.tuple cs))) ?_ fun v H1 e1 r9 => q v H1 e1 r9
    have e : ((nodes (.tuple cs) : Nat) : Int) = 1 + ((cs.drop 1).map fun d => ((nodes d : Nat) : Int)).sum := by
      rw [sum_nodes, nodes_tuple]
      omega
    rw [e]
    refine d_I0 (f := fun i j => i + j) d_int (d_sum ?_)
    refine EvN.dat hS ?_
    have e2 : ((cs.drop 1).map fun d => ((nodes d : Nat) : Int)).map PyData.int = ((cs.drop 1).filter fun _ => true).map (fun d => PyData.int ((nodes d : Nat) : Int)) := by
      rw [List.filter_eq_self.mpr (fun _ _ => rfl), List.map_map]
      all_goals rfl
    rw [e2]
    refine n_lcT (fun _ => true) _ hS (d_tail hS (d_var rfl h0)) (by omega) (fun x => rfl) (fun d v T H' _ i r => fun _ _ Q q => q _ (Ex.refl _)) (fun d v T H' hm i r _ => ?_)
    have h1 := nodesL_mem hm
    have h2 := depL_mem hm
    exact d_call i.dom (a_cons (d_var rfl r) a_nil) ⟨d, sg, rfl, treeL_mem hcl hm, by omega, by omega, rfl⟩
end
end K31
namespace Lx
open PySem PySem.Spec PyProof.Rows L2 Evl
/-- one more is owned -/
theorem lo_more {T : List Addr} {H : Hp} {D : Addr} {o : HO} (hD : H D = none) : Ex (Lo T H) (Lo (D :: T) (upd H D o)) := fun b u hb => by
  have h2 := lo_sub b u hb
  have hn : b ≠ D := ne_of_none h2 hD
  by_cases hm : b ∈ T
  · rw [lo_in hm] at hb
    cases hb
  · rw [lo_out (fun z => (List.mem_cons.mp z).elim hn hm), upd_ne hn]
    exact h2
/-- a law's state: a pen at p, a list of the law's own at l, data that stand -/
structure Jn (K : PySem.W.Frag) (p q l : Addr) (cs : List Int) (stand : List (PyData × V)) (T : List Addr) (H : Hp) (ds : List PyData) (n : Int) : Prop where
  ne : l ≠ p
  hp : p ∈ T
  own : Own K T H l ds
  pen : Pen K H p q cs n
  cells : SqL K (Lo T H) q (cs.map V.int)
  data : ∀ e, e ∈ stand → Rp K (Lo T H) e.1 e.2
  dom : Dom T H
section
variable {K : PySem.W.Frag} {p q l D : Addr} {cs : List Int} {stand : List (PyData × V)} {T : List Addr} {H H' : Hp} {ds : List PyData} {n n' : Int}
theorem Jn.ex (j : Jn K p q l cs stand T H ds n) (e : Ex H H') : Jn K p q l cs stand T H' ds n :=
  ⟨j.ne, j.hp, j.own.ex e, j.pen.ex e, (Rx.of (lo_ex e)).l j.cells, fun x hx => (j.data x hx).ex (lo_ex e), j.dom.ex e⟩
theorem Jn.draw (j : Jn K p q l cs stand T H ds n) (s : Stay p H H') (h : Pen K H' p q cs n') : Jn K p q l cs stand T H' ds n' := by
  have e := s.lo j.hp
  refine ⟨j.ne, j.hp, ⟨j.own.mem, ?_⟩, h, (Rx.of e).l j.cells, fun x hx => (j.data x hx).ex e, fun b hb z => ?_⟩
  · obtain ⟨xs, h1, h2⟩ := j.own.at_
    exact ⟨xs, s l _ j.ne h1, h2.ex e⟩
  · by_cases hb2 : b = p
    · obtain ⟨r, h1, _⟩ := h
      rw [hb2, h1] at z
      cases z
    · cases hH : H b with
      | none => exact j.dom b hb hH
      | some o =>
        rw [s b o hb2 hH] at z
        cases z
theorem Jn.pen_upd (j : Jn K p q l cs stand T H ds n) {o : HO} (hm : D ∈ T) (hD : D ≠ p) : Pen K (upd H D o) p q cs n := by
  obtain ⟨r, h1, _, h3⟩ := j.pen
  refine ⟨r, by rw [upd_ne (fun z => hD z.symm)]; exact h1, ?_, h3⟩
  have hc := j.cells
  rw [← lo_upd_in (o := o) hm] at hc
  exact (Rx.of (lo_anti fun b hb => by rw [List.mem_singleton.mp hb]; exact j.hp)).l hc
/-- another own list is changed -/
theorem Jn.put (j : Jn K p q l cs stand T H ds n) {o : HO} (hm : D ∈ T) (h1 : D ≠ l) (h2 : D ≠ p) : Jn K p q l cs stand T (upd H D o) ds n := by
  refine ⟨j.ne, j.hp, j.own.keep hm (fun z => h1 z.symm), j.pen_upd hm h2, ?_, fun x hx => ?_, j.dom.upd⟩
  · rw [lo_upd_in hm]
    exact j.cells
  · rw [lo_upd_in hm]
    exact j.data x hx
theorem Jn.app (j : Jn K p q l cs stand T H ds n) {xs : List V} {es : List PyData} (r : RpL K (Lo T H) es xs) : Jn K p q l cs stand T (upd H l (.lst xs)) es n := by
  refine ⟨j.ne, j.hp, Own.put j.own.mem r, j.pen_upd j.own.mem j.ne, ?_, fun x hx => ?_, j.dom.upd⟩
  · rw [lo_upd_in j.own.mem]
    exact j.cells
  · rw [lo_upd_in j.own.mem]
    exact j.data x hx
theorem Jn.new (j : Jn K p q l cs stand T H ds n) {o : HO} (hD : H D = none) : Jn K p q l cs stand (D :: T) (upd H D o) ds n := by
  have e := lo_more (T := T) (o := o) hD
  obtain ⟨xs, h1, h2⟩ := j.own.at_
  exact ⟨j.ne, List.mem_cons_of_mem _ j.hp, ⟨List.mem_cons_of_mem _ j.own.mem, xs, by rw [upd_ne (ne_of_none h1 hD)]; exact h1, h2.ex e⟩, j.pen.ex (Ex.new hD), (Rx.of e).l j.cells, fun x hx => (j.data x hx).ex e, (j.dom.ex (Ex.new hD)).cons upd_same⟩
theorem Jn.less (j : Jn K p q l cs stand (D :: T) H ds n) (hp : p ∈ T) (hl : l ∈ T) : Jn K p q l cs stand T H ds n := by
  have e : Ex (Lo (D :: T) H) (Lo T H) := lo_anti fun b hb => List.mem_cons_of_mem _ hb
  obtain ⟨xs, h1, h2⟩ := j.own.at_
  exact ⟨j.ne, hp, ⟨hl, xs, h1, h2.ex e⟩, j.pen, (Rx.of e).l j.cells, fun x hx => (j.data x hx).ex e, fun b hb => j.dom b (List.mem_cons_of_mem _ hb)⟩
end
end Lx
namespace K31
open PySem PySem.Spec PyProof.Rows L2 Evl Lx
/-- the law's signs -/
def hereK : List (Key × PyData) := [(.inr "a", .int 0), (.inr "g", .int 1), (.inr "f", .int 2), (.inr "t", .int 3)]
def hereL : List (PyData × PyData) := datP hereK
def leafD : PyData := .tuple [.str "a"]
theorem here_ok : signsD (.dict hereL) = true := by decide +kernel
theorem here_short : shortK (.dict hereL) = true := by decide +kernel
theorem here_g : lookD hereL (.inr "g") = some (.int 1) := by first | rfl | kernel_rfl
theorem here_f : lookD hereL (.inr "f") = some (.int 2) := by first | rfl | kernel_rfl
theorem here_t : lookD hereL (.inr "t") = some (.int 3) := by first | rfl | kernel_rfl
/-- a tree of the law's pile -/
def Good (k : Nat) (d : PyData) : Prop := treeD hereL d = true ∧ nodes d ≤ 100 ∧ dep d ≤ k
theorem leaf_good : Good 1 leafD := ⟨by decide +kernel, by decide +kernel, by decide +kernel⟩
theorem Good.mono {j k : Nat} {d : PyData} (h : Good j d) (hk : j ≤ k) : Good k d := ⟨h.1, h.2.1, Nat.le_trans h.2.2 hk⟩
theorem good_L {k : Nat} : ∀ {es : List PyData}, (∀ e, e ∈ es → Good k e) → treeL hereL es = true ∧ nodesL es ≤ 100 * es.length ∧ depL es ≤ k
  | [], _ => ⟨rfl, Nat.le_refl _, Nat.zero_le _⟩
  | e :: es, h => by
    obtain ⟨h1, h2, h3⟩ := good_L fun x hx => h x (List.mem_cons_of_mem _ hx)
    obtain ⟨g1, g2, g3⟩ := h e (List.mem_cons_self ..)
    refine ⟨?_, ?_, ?_⟩
    · show (treeD hereL e && treeL hereL es) = true
      rw [g1, h1]
      all_goals rfl
    · show nodes e + nodesL es ≤ 100 * (es.length + 1)
      omega
    · show max (dep e) (depL es) ≤ k
      omega
theorem grown_ok {k : Nat} {x : Str} {es : List PyData} (hx : lookD hereL (.inr x) = some (.int es.length)) (h : ∀ e, e ∈ es → Good k e) :
    treeD hereL (.tuple (.str x :: es)) = true ∧ nodes (.tuple (.str x :: es)) ≤ 1 + 100 * es.length ∧ dep (.tuple (.str x :: es)) ≤ k + 1 := by
  obtain ⟨h1, h2, h3⟩ := good_L h
  refine ⟨?_, ?_, ?_⟩
  · have ht : topD hereL (.tuple (.str x :: es)) = true := by
      show (match lookD hereL (.inr x) with | some (.int n) => decide ((es.length : Int) + 1 = n + 1) | _ => false) = true
      rw [hx]
      exact decide_eq_true rfl
    rw [treeD_tuple ht]
    exact h1
  · rw [nodes_tuple]
    show 1 + nodesL es ≤ _
    omega
  · rw [dep_tuple]
    show 1 + depL es ≤ _
    omega
theorem two_short (n : Nat) (h : n ≤ 100) : (PyData.list [.int (n : Int), .int (n : Int)]).shown.length ≤ sizeLine := by
  refine PyData.shown_fits (B := 13) (by decide) (by decide) (d := .list [.int (n : Int), .int (n : Int)]) ?_ ?_
  · have e : (PyData.int (n : Int)).shown.length ≤ 13 := PyData.shown_int_le (by omega)
    show (decide ((PyData.int (n : Int)).shown.length ≤ 13) && (decide ((PyData.int (n : Int)).shown.length ≤ 13) && true)) = true
    rw [decide_eq_true e]
    all_goals rfl
  · have e : ∀ m : Nat, m ≤ 100 → PyData.weight (.int (m : Int)) ≤ 10 := by
      intro m hm
      show (if ((m : Int) == 0) = true then 0 else (m : Int).natAbs.log2 + 1) ≤ 10
      split
      · omega
      · have : (m : Int).natAbs.log2 ≤ 7 := by
          rw [Int.natAbs_natCast]
          by_cases z : m = 0
          · subst z
            decide
          · have := (Nat.log2_lt z (k := 8)).mpr (by omega)
            omega
        omega
    have e1 := e n h
    have e2 : (PyData.list [.int (n : Int), .int (n : Int)]).weight = _ := rfl
    simp only [PyData.weight, PyData.weightAll] at e1 ⊢
    omega
theorem two_showable (n : Nat) (h : n ≤ 100) : (PyData.list [.int (n : Int), .int (n : Int)]).showable = true := by
  have e : (PyData.int (n : Int)).showable = true := by
    show decide ((n : Int).natAbs.log2 < 1920) = true
    apply decide_eq_true
    rw [Int.natAbs_natCast]
    have := Nat.log2_le_self n
    omega
  show ((PyData.int (n : Int)).showable && ((PyData.int (n : Int)).showable && true)) = true
  rw [e]
  all_goals rfl
section
variable {P : Program} {w : World} {K : PySem.W.Frag} {mg : Str → Option Value} {base : Heap} {A : Ad}
def gSwap {α : Type} : List α → List α → List α
  | [], [a, b] => [b, a]
  | _, _ => []
theorem kb_of (T : Txt K mg A) : KBinds K A.fd_size ["signs", "tree"] ["tree", "signs"] gSwap gSwap := by
  obtain ⟨oc, od, kV, doc, pm, an, cdv, ct, osl, e, lk, hcd⟩ := T.F_size.ex
  rw [e]
  constructor
  · intro s us ws _ hl
    match us, ws, hl with
    | [], [a, b], _ => exact .of_eq rfl
    | [], [], hl => cases hl
    | [], [_], hl => cases hl
    | [], _ :: _ :: _ :: _, hl => cases hl
    | _ :: _, _, hl => cases hl
  · intro vs us zs ws r1 r2
    cases r1 with
    | cons _ _ => exact .nil
    | nil =>
      cases r2 with
      | nil => exact .nil
      | cons a r2 =>
        cases r2 with
        | nil => exact .nil
        | cons b r2 =>
          cases r2 with
          | nil => exact .cons b (.cons a .nil)
          | cons _ _ => exact .nil
def spLaw (K : PySem.W.Frag) : Sp := fun vs H Q _ => ∃ (a : Addr) (ns : List Int), vs = [.ref a] ∧ SqL K H a (ns.map V.int) ∧ ns.length ≤ 63 ∧ ∀ H', Q (.bl true) H'
end
end K31
namespace Lx
open PySem PySem.Spec PyProof.Rows L2 Evl
theorem lo_more2 {T : List Addr} {H H' : Hp} {D : Addr} (hD : H D = none) (e : Ex H H') : Ex (Lo T H) (Lo (D :: T) H') := fun b u hb => by
  have h2 := lo_sub b u hb
  have hn : b ≠ D := ne_of_none h2 hD
  by_cases hm : b ∈ T
  · rw [lo_in hm] at hb
    cases hb
  · rw [lo_out (fun z => (List.mem_cons.mp z).elim hn hm)]
    exact e b u h2
end Lx
namespace K31
open PySem PySem.Spec PyProof.Rows L2 Evl Lx
section
variable {P : Program} {w : World} {K : PySem.W.Frag} {mg : Str → Option Value} {base : Heap} {A : Ad}
theorem d_callK2 {S : List Addr} {σ : L2.St} {H : Hp} {tk : TA} {R : List PyData → PyData → Prop} {E : XK} {d1 d2 d : PyData} (hS : Dom S H) (ha : EvDs K S tk σ H [d1, d2]) (hR : R [d2, d1] d) :
    EvD K S (tCallK (PSp K R) gSwap E tNil tk) σ H d := fun H1 e Q q => ha H1 e _ fun vs H2 e2 r => by
  obtain ⟨x, y, rfl, hx, hy⟩ := rpL2 r
  exact ⟨S, [d2, d1], d, hS.ex (e.trans e2), RpL.cons hy (RpL.cons hx rfl), hR, fun v H3 e3 r3 => q v H3 (e2.trans e3) r3⟩
theorem ok_law (T : Txt K mg A) : FnG P w K mg base CX0 9 A.f_law A.fd_law ["script"] (spLaw K) := by
  have G_law_pen : FnOk P w K mg base CX0 1 _ _ ["script"] (spPen K) := ok_law_pen T
  have G_law_draw : FnOk P w K mg base CX0 2 _ _ ["pen", "under"] (spDraw K) := ok_law_draw T
  have G_law_places : FnOk P w K mg base CX0 8 _ _ ["here"] (PSp K (R_places 8)) := ok_law_places T 8
  have G_size : FnOk P w K mg base CX0 5 _ _ ["signs", "tree"] (PSp K R_size) := ok_size T
  have kb_size := kb_of T
  refine FnG.mk0 T.F_law sc_law (fun vs H Q E h => ?_) (fun cdv Ar outer s H vs Q E gd hr h => ?_)
  · obtain ⟨a, ns, rfl, _⟩ := h
    rfl
  obtain ⟨a, ns, rfl, hsc, h63, q⟩ := h
  refine ⟨_, (pss_cons (ps_set (i := 1) sc_law.nd rfl (by first | exact Or.inl rfl | exact Or.inr rfl) (pe_call G_law_pen (hr.mono (by first | decide | omega)) rfl T.m_law_pen T.F_law_pen.kp T.b_law_pen .nil pass0 (pa_cons (pv 0) pa_nil)))
  (pss_cons (ps_for PassesOwn.never rfl (pi_range1 (by rfl) T.z_range (pa_cons pe_int pa_nil)) (pg_name (i := 2) sc_law.nd rfl (by first | exact Or.inl rfl | exact Or.inr rfl)) (pss_cons (ps_set (i := 3) sc_law.nd rfl (by first | exact Or.inl rfl | exact Or.inr rfl) (pe_disp (pps_cons pe_str pe_int (pps_cons pe_str pe_int (pps_cons pe_str pe_int (pps_cons pe_str pe_int pps_nil)))) (by rfl) (by rfl) (fun z => by cases z) (by decide)))
  (pss_cons (ps_set (i := 4) sc_law.nd rfl (by first | exact Or.inl rfl | exact Or.inr rfl) (pe_lst (pa_cons (pe_tup (pa_cons pe_str pa_nil)) pa_nil)))
  (pss_cons (ps_for PassesOwn.never rfl (pi_range1 (by rfl) T.z_range (pa_cons pe_int pa_nil)) (pg_name (i := 5) sc_law.nd rfl (by first | exact Or.inl rfl | exact Or.inr rfl)) (pss_cons (ps_set (i := 6) sc_law.nd rfl (by first | exact Or.inl rfl | exact Or.inr rfl) (pe_op op_add pe_int (pe_call G_law_draw (hr.mono (by first | decide | omega)) rfl T.m_law_draw T.F_law_draw.kp T.b_law_draw .nil pass0 (pa_cons (pv 1) (pa_cons pe_int pa_nil)))))
  (pss_cons (ps_setLc (i := 7) (own := [("k", 11)]) (g := gName 11) (tt := tYes) (by rfl) sc_law.nd rfl rfl (sw_true rfl rfl rfl (by decide +kernel)) (pi_range1 (by rfl) T.z_range (pa_cons (pv 6) pa_nil)) (blkOk_by (own := [("k", 11)]) (N := ["script", "pen", "lap", "here", "piles", "turn", "rank", "brothers", "grown", "one", "due", "k"]) (sc := defScope s_law) (by decide +kernel)) (fun _ _ _ _ _ => pg_name (i := 11) sc_law.nd rfl (Or.inl rfl)) (fun _ _ _ _ _ => pts_nil) (fun _ _ _ _ _ => (pe_ix (ix_list' (K := K) rfl) (pv 4) (pe_call G_law_draw (hr.mono (by first | decide | omega)) rfl T.m_law_draw T.F_law_draw.kp T.b_law_draw .nil pass0 (pa_cons (pv 1) (pa_cons (pe_callB (c_len' (K := K) rfl) (by rfl) T.z_len (by decide +kernel) (pa_cons (pv 4) pa_nil)) pa_nil))) (fun _ _ => rfl))))
  (pss_cons (ps_set (i := 8) sc_law.nd rfl (by first | exact Or.inl rfl | exact Or.inr rfl) (pe_op op_catA (pe_tup (pa_cons (pe_ix ix_list (pe_lst (pa_cons pe_str (pa_cons pe_str (pa_cons pe_str pa_nil)))) (pe_op op_sub (pv 6) pe_int) (fun _ _ => rfl)) pa_nil)) (pe_callTy c_tuple (by rfl) T.z_tuple (by decide +kernel) (pa_cons (pv 7) pa_nil))))
  (pss_one (ps_if (pt_cmpR op_lt (pe_call G_law_places (hr.mono (by first | decide | omega)) rfl T.m_law_places T.F_law_places.kp T.b_law_places .nil pass0 (pa_cons (pv 8) pa_nil)) pe_int (nomark _)) (pss_one (ps_expr (pe_bm PySem.F.plainAttrs_list PySem.F.slot_list_append PySem.F.type_list_append mt_append (pv 4) (pa_cons (pv 8) pa_nil)))) pss_nil))))))
  (pss_one (ps_for PassesOwn.never rfl (pi_list (pv 4)) (pg_name (i := 9) sc_law.nd rfl (by first | exact Or.inl rfl | exact Or.inr rfl)) (pss_cons (ps_set (i := 10) sc_law.nd rfl (by first | exact Or.inl rfl | exact Or.inr rfl) (pe_callB (call_repr gd hr.units) (by rfl) T.z_repr (by decide +kernel) (pa_cons (pe_op op_rep (pe_lst (pa_cons (pe_call G_law_places (hr.mono (by first | decide | omega)) rfl T.m_law_places T.F_law_places.kp T.b_law_places .nil pass0 (pa_cons (pv 9) pa_nil)) pa_nil)) pe_int) pa_nil)))
  (pss_one (ps_if (pt_cmpR op_ne (pe_callB (call_repr gd hr.units) (by rfl) T.z_repr (by decide +kernel) (pa_cons (pe_lst (pa_cons (pe_callK0 G_size (hr.mono (by first | decide | omega)) rfl T.m_size T.F_size.kp kb_size pass0 (pk_cons (pv 9) (pk_cons (pv 3) pk_nil))) (pa_cons (pe_call G_size (hr.mono (by first | decide | omega)) rfl T.m_size T.F_size.kp T.b_size .nil pass0 (pa_cons (pv 3) (pa_cons (pv 9) pa_nil))) pa_nil))) pa_nil)) (pv 10) (nomark _)) (pss_one (ps_ret pe_bl)) pss_nil)))))))))
  (pss_one (ps_ret pe_bl)))), ?_⟩
  -- pen = _law_pen(script)
  refine ⟨_, rfl, a, ns, rfl, hsc, fun p cq cs H1 hp1 e1 pen1 => ?_⟩
  -- for lap in range(6)
  refine q_forR1 (n := 6) (ea_cons ev_c ea_nil) ⟨by decide, by decide⟩ (fun i σ' H' => ∃ (n : Int) (a2 a3 a4 a5 a6 a7 a8 a9 aA aB : Option V), σ' = [some (.ref a), some (.ref p), a2, a3, a4, a5, a6, a7, a8, a9, aA, aB] ∧ Pen K H' p cq cs n ∧ n ≤ 24 * (i : Int))
    (fun H2 e2 => ⟨0, none, none, none, none, none, none, none, none, none, none, rfl, pen1.ex e2, by decide⟩) ?_ ?_
  · rintro i σ' H2 hi ⟨n, a2, a3, a4, a5, a6, a7, a8, a9, aA, aB, rfl, pen2, hn⟩
    have hpat : ∃ r, H2 p = some (.lst [.ref cq, .int n, .int r]) := ⟨pen2.choose, pen2.choose_spec.1⟩
    have d2 : Dom [p] H2 := fun b hb z => by
      rw [List.mem_singleton.mp hb] at z
      obtain ⟨r, hr⟩ := hpat
      rw [hr] at z
      cases z
    -- here = {..}
    refine qd_asg (S := [p]) (K := K) (d := .dict hereL) (d_disp d2 (by decide +kernel) (by decide +kernel) fun T H' i => ⟨d_str, d_int, d_str, d_int, d_str, d_int, d_str, d_int, True.intro⟩) fun v3 H3 e3 r3 => ?_
    have d3 := d2.ex e3
    have pen3 := pen2.ex e3
    -- piles = [("a",)]
    refine qn_asg (S := [p]) (K := K) (ds := [leafD]) (n_lst d3 (a_cons (d_tup d3 (a_cons d_str a_nil) (by show 1 ≤ 100000; decide)) a_nil) (by show 1 ≤ 100000; decide)) fun l xs H4 hl e4 hx rl => ?_
    have hlp : l ≠ p := fun z => d3 p (List.mem_singleton.mpr rfl) (by rw [← z]; exact hl)
    have lo4 := lo_more2 (T := [p]) hl e4
    have j4 : Jn K p cq l cs [(.dict hereL, v3)] [l, p] H4 [leafD] n := by
      refine ⟨hlp, by simp, own_new hx rl, pen3.ex e4, ?_, fun x hx => ?_, (d3.ex e4).cons hx⟩
      · obtain ⟨r, _, hc, _⟩ := pen3
        exact (Rx.of lo4).l hc
      · cases List.mem_singleton.mp hx
        exact r3.ex lo4
    have lp : l ∈ [l, p] := by simp
    have pp : p ∈ [l, p] := by simp
    -- for turn in range(6)
    refine q_forR1 (n := 6) (ea_cons ev_c ea_nil) ⟨by decide, by decide⟩ (fun t σ' H' => ∃ (m : Int) (ds : List PyData) (a5 a6 a7 a8 a9 aA aB : Option V), σ' = [some (.ref a), some (.ref p), some (.int (i : Int)), some v3, some (.ref l), a5, a6, a7, a8, a9, aA, aB] ∧
        Jn K p cq l cs [(.dict hereL, v3)] [l, p] H' ds m ∧ m ≤ 24 * (i : Int) + 4 * (t : Int) ∧ 0 < ds.length ∧ ds.length ≤ t + 1 ∧ ∀ d, d ∈ ds → Good (t + 1) d)
      (fun H5 e5 => ⟨n, [leafD], a5, a6, a7, a8, a9, aA, aB, rfl, j4.ex e5, by omega, by decide, by decide, fun d hd => by rw [List.mem_singleton.mp hd]; exact leaf_good⟩) ?_ ?_
    · rintro t σ' H5 ht ⟨m, ds, a5, a6, a7, a8, a9, aA, aB, rfl, j5, hm, hd0, hd1, hgood⟩
      -- rank = 1 + _law_draw(pen, 3)
      refine ⟨_, rfl, p, cq, cs, 3, m, rfl, by decide, by decide, j5.pen, by omega, fun x m1 H6 hx0 hx1 hm1 pen6 st6 => ⟨1, x, rfl, rfl, ?_⟩⟩
      have j6 := j5.draw st6 pen6
      obtain ⟨rk, hrk⟩ : ∃ rk : Nat, 1 + x = (rk : Int) := ⟨(1 + x).toNat, by omega⟩
      have hrk1 : 1 ≤ rk := by omega
      have hrk3 : rk ≤ 3 := by omega
      show gName 6 (V.int (1 + x)) _ H6 _
      rw [hrk]
      -- brothers = [..]
      refine ⟨_, rfl, (rk : Int), rfl, by omega, by omega, fun Dl hD => ?_⟩
      refine lc_it (w := walk_range) (g := gName 11) (Qd := _) (fun k H' => ∃ (m : Int) (es : List PyData), Own K [Dl, l, p] H' Dl es ∧ es.length = k ∧ (∀ e, e ∈ es → e ∈ ds) ∧ Jn K p cq l cs [(.dict hereL, v3)] [Dl, l, p] H' ds m ∧ m ≤ 24 * (i : Int) + 4 * (t : Int) + 1 + (k : Int))
        ⟨m1, [], own_new upd_same rfl, rfl, fun e he => (by cases he), j6.new hD, by omega⟩ (fun _ _ _ _ => True.intro) ?_ ?_
      · rintro k y H7 H7' hk ⟨m7, es, ow, hlen, hsub, j7, hm7⟩ ⟨rfl, rfl⟩
        have hDl : Dl ≠ l := fun z => by
          obtain ⟨ys, g1, _⟩ := j6.own.at_
          rw [← z, hD] at g1
          cases g1
        have hDp : Dl ≠ p := fun z => by
          obtain ⟨r, g1, _⟩ := j6.pen
          rw [← z, hD] at g1
          cases g1
        have hk3 : k < 3 := by
          rw [Int.toNat_natCast] at hk
          omega
        refine ⟨rfl, ?_⟩
        refine yes_of ?_
        -- piles[_law_draw(pen, len(piles))]
        refine ⟨.ref l, rfl, _, rfl, (d_lenO (K := K) (S := [Dl, l, p]) (n := 4) rfl j7.own).int _ (Ex.refl _) _ fun H8 e8 => ?_⟩
        have j8 := j7.ex e8
        have hdlen : ds.length ≤ 7 := by omega
        refine ⟨p, cq, cs, (ds.length : Int), m7, rfl, by omega, by omega, j8.pen, by omega, fun z m9 H9 hz0 hz1 hm9 pen9 st9 => ?_⟩
        have j9 := j8.draw st9 pen9
        obtain ⟨xs9, g1, g2⟩ := j9.own.at_
        have hzl : z.toNat < ds.length := by omega
        have hget : ds[z.toNat]? = some ds[z.toNat] := List.getElem?_eq_getElem hzl
        obtain ⟨v, hv, rv⟩ := g2.get hget
        have ow8 := ow.ex e8
        obtain ⟨ys8, o1, o2⟩ := ow8.at_
        have o19 := st9 Dl _ hDp o1
        have o29 := o2.ex (st9.lo j8.hp)
        refine ⟨l, xs9, z, v, rfl, rfl, sq_of g1, at_of (j := z.toNat) (by omega) hv, ys8, o19, ?_, m9, es ++ [ds[z.toNat]], ?_, ?_, ?_, ?_, ?_⟩
        · rw [o2.length, hlen]
          exact Evl.sz_lt (by omega)
        · exact Own.put (by simp) (o29.append (RpL.cons rv rfl))
        · rw [List.length_append, hlen]
          all_goals rfl
        · intro e he
          rcases List.mem_append.mp he with h | h
          · exact hsub e h
          · rw [List.mem_singleton.mp h]
            exact List.getElem_mem hzl
        · exact j9.put (by simp) hDl hDp
        · omega
      · rintro H7 ⟨m7, es, ow, hlen, hsub, j7, hm7⟩
        rw [Int.toNat_natCast] at hlen hm7
        have hDT : ¬ Dl ∈ [l, p] := j6.dom.out hD
        obtain ⟨ys, o1, o2⟩ := ow.at_
        have j7b := j7.less pp lp
        have rD : Rp K (Lo [l, p] H7) (.list es) (.ref Dl) := Rp.lstD (by rw [lo_out hDT]; exact o1) (o2.ex (lo_anti fun b hb => List.mem_cons_of_mem _ hb))
        have hes : ∀ e, e ∈ es → Good (t + 1) e := fun e he => hgood e (hsub e he)
        -- grown = ([..][rank - 1],) + tuple(brothers)
        obtain ⟨nm, hnm, hlk⟩ : ∃ nm : Str, atI [PyData.str "g", .str "f", .str "t"] ((rk : Int) - 1) = some (.str nm) ∧ lookD hereL (.inr nm) = some (.int es.length) := by
          rw [hlen]
          match rk, hrk1, hrk3 with
          | 1, _, _ => exact ⟨"g", atI_of (j := 0) (by omega) rfl, here_g⟩
          | 2, _, _ => exact ⟨"f", atI_of (j := 1) (by omega) rfl, here_f⟩
          | 3, _, _ => exact ⟨"t", atI_of (j := 2) (by omega) rfl, here_t⟩
        obtain ⟨gt, gn, gd'⟩ := grown_ok hlk hes
        have dm := j7b.dom
        refine gname_of ?_
        dsimp only
        refine qd_asg (S := [l, p]) (K := K) (d := .tuple (.str nm :: es)) ?_ fun v8 H8 e8 r8 => ?_
        · refine d_catT (ds := [.str nm]) (es := es) dm (d_tup dm (a_cons ?_ a_nil) (by show 1 ≤ 100000; decide)) (d_tupL dm (d_var rfl rD)) ?_
          · refine d_ixL (EvN.dat dm (n_lst dm (a_cons d_str (a_cons d_str (a_cons d_str a_nil))) (by show 3 ≤ 100000; decide))) (d_I0 (d_var rfl rfl) d_int) hnm
          · show 1 + es.length ≤ sizeLine
            exact Evl.sz_of (by omega)
        · have j8 := j7b.ex e8
          have hnodes : nodes (.tuple (.str nm :: es)) ≤ 301 := by omega
          refine s_when (b := decide (((nodes (.tuple (.str nm :: es)) : Nat) : Int) < 100)) (t_of (d_B0 (d_call j8.dom (a_cons (d_var rfl r8) a_nil) ⟨_, hereL, rfl, gt, by omega, by omega, rfl⟩) d_int)) (fun hb H9 e9 => ?_) (fun hb H9 e9 => ?_)
          · have hlt := of_decide_eq_true hb
            have j9 := j8.ex e9
            obtain ⟨xs9, g1, g2⟩ := j9.own.at_
            refine s_app (xs := xs9) g1 (ev_var rfl) (ev_var rfl) (by rw [g2.length]; omega) fun HA eA => ?_
            have jA := j9.ex eA
            refine ⟨m7, ds ++ [.tuple (.str nm :: es)], _, _, _, _, _, _, _, rfl, jA.app ((g2.ex (lo_ex eA)).append (RpL.cons (r8.ex (lo_ex (e9.trans eA))) rfl)), by omega, by rw [List.length_append]; omega, by rw [List.length_append]; show ds.length + 1 ≤ t + 1 + 1; omega, fun d hd => ?_⟩
            rcases List.mem_append.mp hd with h | h
            · exact (hgood d h).mono (by omega)
            · rw [List.mem_singleton.mp h]
              exact ⟨gt, by omega, by omega⟩
          · exact ⟨m7, ds, _, _, _, _, _, _, _, rfl, j8.ex e9, by omega, hd0, by omega, fun d hd => (hgood d hd).mono (by omega)⟩
    · rintro σ' H5 ⟨m, ds, a5, a6, a7, a8, a9, aA, aB, rfl, j5, hm, hd0, hd1, hgood⟩
      -- for one in piles
      obtain ⟨xs5, g1, g2⟩ := j5.own.at_
      refine s_forLn (K := K) (a := l) (xs := xs5) (ev_var rfl) (sq_of g1) (fun k σ' H' => ∃ a9 aA : Option V, σ' = [some (.ref a), some (.ref p), some (.int (i : Int)), some v3, some (.ref l), a5, a6, a7, a8, a9, aA, aB] ∧ Ex H5 H') (fun H6 e6 => ⟨a9, aA, rfl, e6⟩) (fun k σ' H' _ z => let ⟨_, _, _, e⟩ := z; sq_of (e l _ g1)) ?_ ?_
      · rintro k x σ' H6 hx ⟨a9, aA, rfl, e6⟩
        have j6 := j5.ex e6
        obtain ⟨d, hd, rd⟩ := g2.getV hx
        have hmem : d ∈ ds := List.mem_of_getElem? hd
        obtain ⟨gt, gn, gdp⟩ := hgood d hmem
        have t6 : (6 : Int).toNat = 6 := rfl
        rw [t6] at gdp
        have rd6 := rd.ex (lo_ex e6)
        have rh6 := j6.data _ (List.mem_singleton.mpr rfl)
        have dm := j6.dom
        have e2 : (List.replicate (2 : Int).toNat [PyData.int ((nodes d : Nat) : Int)]).flatten = [.int ((nodes d : Nat) : Int), .int ((nodes d : Nat) : Int)] := rfl
        -- due = repr([_law_places(one)] * 2)
        refine qd_asg (S := [l, p]) (K := K) (d := .str (PyData.list [.int ((nodes d : Nat) : Int), .int ((nodes d : Nat) : Int)]).shown) (d_reprL (EvN.dat dm ?_) (by rfl) (two_showable _ gn) (two_short _ gn) (by show 1 ≤ 60; decide)) fun v7 H7 e7 r7 => ?_
        · rw [← e2]
          exact n_rep dm (n_lst dm (a_cons (d_call dm (a_cons (d_var rfl rd6) a_nil) ⟨d, hereL, rfl, gt, by omega, by omega, rfl⟩) a_nil) (by show 1 ≤ 100000; decide)) (fun _ _ _ => d_int) (by decide) (by decide) (by show 1 * 2 ≤ sizeLine; decide)
        have dm7 := dm.ex e7
        have rd7 := rd6.ex (lo_ex e7)
        have rh7 := rh6.ex (lo_ex e7)
        refine s_when (b := !decide ((PyData.list [.int ((nodes d : Nat) : Int), .int ((nodes d : Nat) : Int)]).shown = (PyData.list [.int ((nodes d : Nat) : Int), .int ((nodes d : Nat) : Int)]).shown)) (t_of (d_neS (d_reprL (EvN.dat dm7 (n_lst dm7 (a_cons ?_ (a_cons ?_ a_nil)) (by show 2 ≤ 100000; decide))) (by rfl) (two_showable _ gn) (two_short _ gn) (by show 1 ≤ 60; decide)) (d_var rfl r7))) (fun hb => ?_) (fun hb H8 e8 => ⟨_, _, rfl, (e6.trans e7).trans e8⟩)
        · exact d_callK2 dm7 (a_cons (d_var rfl rd7) (a_cons (d_var rfl rh7) a_nil)) ⟨hereL, d, rfl, here_short, here_ok, by omega, gt, rfl⟩
        · exact d_call dm7 (a_cons (d_var rfl rh7) (a_cons (d_var rfl rd7) a_nil)) ⟨hereL, d, rfl, here_short, here_ok, by omega, gt, rfl⟩
        · rw [decide_eq_true rfl] at hb
          cases hb
      · rintro σ' H6 ⟨a9, aA, rfl, e6⟩
        have t6 : (6 : Int).toNat = 6 := rfl
        rw [t6] at hm
        exact ⟨m, _, _, _, _, _, _, _, _, _, _, rfl, (j5.ex e6).pen, by omega⟩
  · rintro σ' H2 _
    exact q H2
end
end K31
namespace K31
open PySem PySem.Spec PyProof.Rows L2 Evl Lx
theorem all_mk {l : PySem.W.OpenLaw} {w : World} {K : PySem.W.Frag} {h : Heap} {mg : Str → Option Value} {fa : Addr} (X : K.In h) (G : h.Ns mainGlobals mg) (hfa : mg "law" = some (.ref fa))
    {f_is_top f_is_grown f_places_of f_is_integer f_is_between f_is_name f_is_signs f_check_signs f_check_tree f_size f_law_pen f_law_next f_law_draw f_law_places f_law : Addr} {od_is_top an_is_top od_is_grown an_is_grown od_places_of an_places_of od_is_integer an_is_integer od_is_between an_is_between od_is_name an_is_name od_is_signs an_is_signs od_check_signs an_check_signs od_check_tree an_check_tree od_size an_size od_law_pen an_law_pen od_law_next an_law_next od_law_draw an_law_draw od_law_places an_law_places od_law an_law : Option Addr} {sl_is_top sl_is_grown sl_places_of sl_is_integer sl_is_between sl_is_name sl_is_signs sl_check_signs sl_check_tree sl_size sl_law_pen sl_law_next sl_law_draw sl_law_places sl_law : Array (Option Value)} {oc_is_top kV_is_top dc_is_top pm_is_top cd_is_top ct_is_top oc_is_grown kV_is_grown dc_is_grown pm_is_grown cd_is_grown ct_is_grown oc_places_of kV_places_of dc_places_of pm_places_of cd_places_of ct_places_of oc_is_integer kV_is_integer dc_is_integer pm_is_integer cd_is_integer ct_is_integer oc_is_between kV_is_between dc_is_between pm_is_between cd_is_between ct_is_between oc_is_name kV_is_name dc_is_name pm_is_name cd_is_name ct_is_name oc_is_signs kV_is_signs dc_is_signs pm_is_signs cd_is_signs ct_is_signs oc_check_signs kV_check_signs dc_check_signs pm_check_signs cd_check_signs ct_check_signs oc_check_tree kV_check_tree dc_check_tree pm_check_tree cd_check_tree ct_check_tree oc_size kV_size dc_size pm_size cd_size ct_size oc_law_pen kV_law_pen dc_law_pen pm_law_pen cd_law_pen ct_law_pen oc_law_next kV_law_next dc_law_next pm_law_next cd_law_next ct_law_next oc_law_draw kV_law_draw dc_law_draw pm_law_draw cd_law_draw ct_law_draw oc_law_places kV_law_places dc_law_places pm_law_places cd_law_places ct_law_places oc_law kV_law dc_law pm_law cd_law ct_law : Value} {t_LONGEST_NAME t_MOST_SIGNS t_MOST_BROTHERS : Tok}
    (a_is_top : PySem.W.nsIn K mainGlobals "is_top" = some (some (.ref f_is_top))) (l_is_top : K.lookup f_is_top = some ⟨oc_is_top, od_is_top, .func (PySem.W.fnOf "is_top" "is_top" (defArgs s_is_top) (defBody s_is_top) (defScope s_is_top) .none kV_is_top dc_is_top pm_is_top an_is_top cd_is_top ct_is_top), sl_is_top⟩) (q_is_top : PySem.W.codeIn K cd_is_top "is_top" = true) (k_is_top : PySem.W.keepIn K (.ref f_is_top) = true)
    (a_is_grown : PySem.W.nsIn K mainGlobals "is_grown" = some (some (.ref f_is_grown))) (l_is_grown : K.lookup f_is_grown = some ⟨oc_is_grown, od_is_grown, .func (PySem.W.fnOf "is_grown" "is_grown" (defArgs s_is_grown) (defBody s_is_grown) (defScope s_is_grown) .none kV_is_grown dc_is_grown pm_is_grown an_is_grown cd_is_grown ct_is_grown), sl_is_grown⟩) (q_is_grown : PySem.W.codeIn K cd_is_grown "is_grown" = true) (k_is_grown : PySem.W.keepIn K (.ref f_is_grown) = true)
    (a_places_of : PySem.W.nsIn K mainGlobals "places_of" = some (some (.ref f_places_of))) (l_places_of : K.lookup f_places_of = some ⟨oc_places_of, od_places_of, .func (PySem.W.fnOf "places_of" "places_of" (defArgs s_places_of) (defBody s_places_of) (defScope s_places_of) .none kV_places_of dc_places_of pm_places_of an_places_of cd_places_of ct_places_of), sl_places_of⟩) (q_places_of : PySem.W.codeIn K cd_places_of "places_of" = true) (k_places_of : PySem.W.keepIn K (.ref f_places_of) = true)
    (a_is_integer : PySem.W.nsIn K mainGlobals "is_integer" = some (some (.ref f_is_integer))) (l_is_integer : K.lookup f_is_integer = some ⟨oc_is_integer, od_is_integer, .func (PySem.W.fnOf "is_integer" "is_integer" (defArgs s_is_integer) (defBody s_is_integer) (defScope s_is_integer) .none kV_is_integer dc_is_integer pm_is_integer an_is_integer cd_is_integer ct_is_integer), sl_is_integer⟩) (q_is_integer : PySem.W.codeIn K cd_is_integer "is_integer" = true) (k_is_integer : PySem.W.keepIn K (.ref f_is_integer) = true)
    (a_is_between : PySem.W.nsIn K mainGlobals "is_between" = some (some (.ref f_is_between))) (l_is_between : K.lookup f_is_between = some ⟨oc_is_between, od_is_between, .func (PySem.W.fnOf "is_between" "is_between" (defArgs s_is_between) (defBody s_is_between) (defScope s_is_between) .none kV_is_between dc_is_between pm_is_between an_is_between cd_is_between ct_is_between), sl_is_between⟩) (q_is_between : PySem.W.codeIn K cd_is_between "is_between" = true) (k_is_between : PySem.W.keepIn K (.ref f_is_between) = true)
    (a_is_name : PySem.W.nsIn K mainGlobals "is_name" = some (some (.ref f_is_name))) (l_is_name : K.lookup f_is_name = some ⟨oc_is_name, od_is_name, .func (PySem.W.fnOf "is_name" "is_name" (defArgs s_is_name) (defBody s_is_name) (defScope s_is_name) .none kV_is_name dc_is_name pm_is_name an_is_name cd_is_name ct_is_name), sl_is_name⟩) (q_is_name : PySem.W.codeIn K cd_is_name "is_name" = true) (k_is_name : PySem.W.keepIn K (.ref f_is_name) = true)
    (a_is_signs : PySem.W.nsIn K mainGlobals "is_signs" = some (some (.ref f_is_signs))) (l_is_signs : K.lookup f_is_signs = some ⟨oc_is_signs, od_is_signs, .func (PySem.W.fnOf "is_signs" "is_signs" (defArgs s_is_signs) (defBody s_is_signs) (defScope s_is_signs) .none kV_is_signs dc_is_signs pm_is_signs an_is_signs cd_is_signs ct_is_signs), sl_is_signs⟩) (q_is_signs : PySem.W.codeIn K cd_is_signs "is_signs" = true) (k_is_signs : PySem.W.keepIn K (.ref f_is_signs) = true)
    (a_check_signs : PySem.W.nsIn K mainGlobals "check_signs" = some (some (.ref f_check_signs))) (l_check_signs : K.lookup f_check_signs = some ⟨oc_check_signs, od_check_signs, .func (PySem.W.fnOf "check_signs" "check_signs" (defArgs s_check_signs) (defBody s_check_signs) (defScope s_check_signs) .none kV_check_signs dc_check_signs pm_check_signs an_check_signs cd_check_signs ct_check_signs), sl_check_signs⟩) (q_check_signs : PySem.W.codeIn K cd_check_signs "check_signs" = true) (k_check_signs : PySem.W.keepIn K (.ref f_check_signs) = true)
    (a_check_tree : PySem.W.nsIn K mainGlobals "check_tree" = some (some (.ref f_check_tree))) (l_check_tree : K.lookup f_check_tree = some ⟨oc_check_tree, od_check_tree, .func (PySem.W.fnOf "check_tree" "check_tree" (defArgs s_check_tree) (defBody s_check_tree) (defScope s_check_tree) .none kV_check_tree dc_check_tree pm_check_tree an_check_tree cd_check_tree ct_check_tree), sl_check_tree⟩) (q_check_tree : PySem.W.codeIn K cd_check_tree "check_tree" = true) (k_check_tree : PySem.W.keepIn K (.ref f_check_tree) = true)
    (a_size : PySem.W.nsIn K mainGlobals "size" = some (some (.ref f_size))) (l_size : K.lookup f_size = some ⟨oc_size, od_size, .func (PySem.W.fnOf "size" "size" (defArgs s_size) (defBody s_size) (defScope s_size) .none kV_size dc_size pm_size an_size cd_size ct_size), sl_size⟩) (q_size : PySem.W.codeIn K cd_size "size" = true) (k_size : PySem.W.keepIn K (.ref f_size) = true)
    (a_law_pen : PySem.W.nsIn K mainGlobals "_law_pen" = some (some (.ref f_law_pen))) (l_law_pen : K.lookup f_law_pen = some ⟨oc_law_pen, od_law_pen, .func (PySem.W.fnOf "_law_pen" "_law_pen" (defArgs s_law_pen) (defBody s_law_pen) (defScope s_law_pen) .none kV_law_pen dc_law_pen pm_law_pen an_law_pen cd_law_pen ct_law_pen), sl_law_pen⟩) (q_law_pen : PySem.W.codeIn K cd_law_pen "_law_pen" = true) (k_law_pen : PySem.W.keepIn K (.ref f_law_pen) = true)
    (a_law_next : PySem.W.nsIn K mainGlobals "_law_next" = some (some (.ref f_law_next))) (l_law_next : K.lookup f_law_next = some ⟨oc_law_next, od_law_next, .func (PySem.W.fnOf "_law_next" "_law_next" (defArgs s_law_next) (defBody s_law_next) (defScope s_law_next) .none kV_law_next dc_law_next pm_law_next an_law_next cd_law_next ct_law_next), sl_law_next⟩) (q_law_next : PySem.W.codeIn K cd_law_next "_law_next" = true) (k_law_next : PySem.W.keepIn K (.ref f_law_next) = true)
    (a_law_draw : PySem.W.nsIn K mainGlobals "_law_draw" = some (some (.ref f_law_draw))) (l_law_draw : K.lookup f_law_draw = some ⟨oc_law_draw, od_law_draw, .func (PySem.W.fnOf "_law_draw" "_law_draw" (defArgs s_law_draw) (defBody s_law_draw) (defScope s_law_draw) .none kV_law_draw dc_law_draw pm_law_draw an_law_draw cd_law_draw ct_law_draw), sl_law_draw⟩) (q_law_draw : PySem.W.codeIn K cd_law_draw "_law_draw" = true) (k_law_draw : PySem.W.keepIn K (.ref f_law_draw) = true)
    (a_law_places : PySem.W.nsIn K mainGlobals "_law_places" = some (some (.ref f_law_places))) (l_law_places : K.lookup f_law_places = some ⟨oc_law_places, od_law_places, .func (PySem.W.fnOf "_law_places" "_law_places" (defArgs s_law_places) (defBody s_law_places) (defScope s_law_places) .none kV_law_places dc_law_places pm_law_places an_law_places cd_law_places ct_law_places), sl_law_places⟩) (q_law_places : PySem.W.codeIn K cd_law_places "_law_places" = true) (k_law_places : PySem.W.keepIn K (.ref f_law_places) = true)
    (a_law : PySem.W.nsIn K mainGlobals "law" = some (some (.ref f_law))) (l_law : K.lookup f_law = some ⟨oc_law, od_law, .func (PySem.W.fnOf "law" "law" (defArgs s_law) (defBody s_law) (defScope s_law) .none kV_law dc_law pm_law an_law cd_law ct_law), sl_law⟩) (q_law : PySem.W.codeIn K cd_law "law" = true) (k_law : PySem.W.keepIn K (.ref f_law) = true)
    (z_len : PySem.W.nsIn K mainGlobals "len" = some none)
    (z_isinstance : PySem.W.nsIn K mainGlobals "isinstance" = some none)
    (z_all : PySem.W.nsIn K mainGlobals "all" = some none)
    (z_sum : PySem.W.nsIn K mainGlobals "sum" = some none)
    (z_repr : PySem.W.nsIn K mainGlobals "repr" = some none)
    (z_int : PySem.W.nsIn K mainGlobals "int" = some none)
    (z_list : PySem.W.nsIn K mainGlobals "list" = some none)
    (z_tuple : PySem.W.nsIn K mainGlobals "tuple" = some none)
    (z_str : PySem.W.nsIn K mainGlobals "str" = some none)
    (z_dict : PySem.W.nsIn K mainGlobals "dict" = some none)
    (z_bool : PySem.W.nsIn K mainGlobals "bool" = some none)
    (z_range : PySem.W.nsIn K mainGlobals "range" = some none)
    (c_LONGEST_NAME : PySem.W.nsIn K mainGlobals "LONGEST_NAME" = some (some (.int 8 t_LONGEST_NAME)))
    (c_MOST_SIGNS : PySem.W.nsIn K mainGlobals "MOST_SIGNS" = some (some (.int 8 t_MOST_SIGNS)))
    (c_MOST_BROTHERS : PySem.W.nsIn K mainGlobals "MOST_BROTHERS" = some (some (.int 3 t_MOST_BROTHERS)))
    : ∃ fd : FuncData, (∀ (s : Shared) (v : Value), BindsTo s fd ⟨[v], []⟩ [("script", v)]) ∧ ∀ base : Heap, K.In base → base.Ns mainGlobals mg → FnG l.prog w K mg base CX0 9 fa fd ["script"] (spLaw K) := by
  have F_is_top := fun_mk (st := s_is_top) l_is_top q_is_top k_is_top
  have b_is_top := F_is_top.binds (ps := ["signs", "thing"]) fun _ _ _ _ _ _ us hl => match us, hl with | [_, _], _ => rfl
  have F_is_grown := fun_mk (st := s_is_grown) l_is_grown q_is_grown k_is_grown
  have b_is_grown := F_is_grown.binds (ps := ["signs", "thing"]) fun _ _ _ _ _ _ us hl => match us, hl with | [_, _], _ => rfl
  have F_places_of := fun_mk (st := s_places_of) l_places_of q_places_of k_places_of
  have b_places_of := F_places_of.binds (ps := ["thing"]) fun _ _ _ _ _ _ us hl => match us, hl with | [_], _ => rfl
  have F_is_integer := fun_mk (st := s_is_integer) l_is_integer q_is_integer k_is_integer
  have b_is_integer := F_is_integer.binds (ps := ["thing"]) fun _ _ _ _ _ _ us hl => match us, hl with | [_], _ => rfl
  have F_is_between := fun_mk (st := s_is_between) l_is_between q_is_between k_is_between
  have b_is_between := F_is_between.binds (ps := ["thing", "least", "most"]) fun _ _ _ _ _ _ us hl => match us, hl with | [_, _, _], _ => rfl
  have F_is_name := fun_mk (st := s_is_name) l_is_name q_is_name k_is_name
  have b_is_name := F_is_name.binds (ps := ["thing"]) fun _ _ _ _ _ _ us hl => match us, hl with | [_], _ => rfl
  have F_is_signs := fun_mk (st := s_is_signs) l_is_signs q_is_signs k_is_signs
  have b_is_signs := F_is_signs.binds (ps := ["thing"]) fun _ _ _ _ _ _ us hl => match us, hl with | [_], _ => rfl
  have F_check_signs := fun_mk (st := s_check_signs) l_check_signs q_check_signs k_check_signs
  have b_check_signs := F_check_signs.binds (ps := ["signs"]) fun _ _ _ _ _ _ us hl => match us, hl with | [_], _ => rfl
  have F_check_tree := fun_mk (st := s_check_tree) l_check_tree q_check_tree k_check_tree
  have b_check_tree := F_check_tree.binds (ps := ["signs", "tree"]) fun _ _ _ _ _ _ us hl => match us, hl with | [_, _], _ => rfl
  have F_size := fun_mk (st := s_size) l_size q_size k_size
  have b_size := F_size.binds (ps := ["signs", "tree"]) fun _ _ _ _ _ _ us hl => match us, hl with | [_, _], _ => rfl
  have F_law_pen := fun_mk (st := s_law_pen) l_law_pen q_law_pen k_law_pen
  have b_law_pen := F_law_pen.binds (ps := ["script"]) fun _ _ _ _ _ _ us hl => match us, hl with | [_], _ => rfl
  have F_law_next := fun_mk (st := s_law_next) l_law_next q_law_next k_law_next
  have b_law_next := F_law_next.binds (ps := ["pen"]) fun _ _ _ _ _ _ us hl => match us, hl with | [_], _ => rfl
  have F_law_draw := fun_mk (st := s_law_draw) l_law_draw q_law_draw k_law_draw
  have b_law_draw := F_law_draw.binds (ps := ["pen", "under"]) fun _ _ _ _ _ _ us hl => match us, hl with | [_, _], _ => rfl
  have F_law_places := fun_mk (st := s_law_places) l_law_places q_law_places k_law_places
  have b_law_places := F_law_places.binds (ps := ["here"]) fun _ _ _ _ _ _ us hl => match us, hl with | [_], _ => rfl
  have F_law := fun_mk (st := s_law) l_law q_law k_law
  have b_law := F_law.binds (ps := ["script"]) fun _ _ _ _ _ _ us hl => match us, hl with | [_], _ => rfl
  have e := hfa.symm.trans (PySem.W.mg_of X G a_law)
  cases e
  refine ⟨PySem.W.fnOf "law" "law" (defArgs s_law) (defBody s_law) (defScope s_law) .none kV_law dc_law pm_law an_law cd_law ct_law, fun s v => .of_eq rfl, fun base _ _ => ?_⟩
  have T : Txt K mg ⟨f_is_top, _, f_is_grown, _, f_places_of, _, f_is_integer, _, f_is_between, _, f_is_name, _, f_is_signs, _, f_check_signs, _, f_check_tree, _, f_size, _, f_law_pen, _, f_law_next, _, f_law_draw, _, f_law_places, _, fa, _, t_LONGEST_NAME, t_MOST_SIGNS, t_MOST_BROTHERS⟩ := ⟨PySem.W.mg_of X G a_is_top, F_is_top, b_is_top, PySem.W.mg_of X G a_is_grown, F_is_grown, b_is_grown, PySem.W.mg_of X G a_places_of, F_places_of, b_places_of, PySem.W.mg_of X G a_is_integer, F_is_integer, b_is_integer, PySem.W.mg_of X G a_is_between, F_is_between, b_is_between, PySem.W.mg_of X G a_is_name, F_is_name, b_is_name, PySem.W.mg_of X G a_is_signs, F_is_signs, b_is_signs, PySem.W.mg_of X G a_check_signs, F_check_signs, b_check_signs, PySem.W.mg_of X G a_check_tree, F_check_tree, b_check_tree, PySem.W.mg_of X G a_size, F_size, b_size, PySem.W.mg_of X G a_law_pen, F_law_pen, b_law_pen, PySem.W.mg_of X G a_law_next, F_law_next, b_law_next, PySem.W.mg_of X G a_law_draw, F_law_draw, b_law_draw, PySem.W.mg_of X G a_law_places, F_law_places, b_law_places, PySem.W.mg_of X G a_law, F_law, b_law, PySem.W.mg_none_of X G z_len, PySem.W.mg_none_of X G z_isinstance, PySem.W.mg_none_of X G z_all, PySem.W.mg_none_of X G z_sum, PySem.W.mg_none_of X G z_repr, PySem.W.mg_none_of X G z_int, PySem.W.mg_none_of X G z_list, PySem.W.mg_none_of X G z_tuple, PySem.W.mg_none_of X G z_str, PySem.W.mg_none_of X G z_dict, PySem.W.mg_none_of X G z_bool, PySem.W.mg_none_of X G z_range, PySem.W.mg_of X G c_LONGEST_NAME, PySem.W.mg_of X G c_MOST_SIGNS, PySem.W.mg_of X G c_MOST_BROTHERS⟩
  exact ok_law T
theorem walk {l : PySem.W.OpenLaw} {q : Program} {loose : List Str} {XP : (Str → Option Value) → Heap → Prop} {YP : World → Heap → Prop} {d : DefRec} {K : Params → PySem.W.Frag} (hn : l.most = some 63) (hdf : d.params.defaults = [])
    (hY : ∀ (w : World) (h : Heap), YP w h → (K w.params).In h)
    (F : ∀ (w : World) (mg : Str → Option Value) (fa : Addr) (h : Heap), (K w.params).In h → h.Ns mainGlobals mg → mg d.name = some (.ref fa) →
      ∃ fd : FuncData, (∀ (s : Shared) (u : Value), BindsTo s fd ⟨[u], []⟩ [("script", u)]) ∧ ∀ base : Heap, (K w.params).In base → base.Ns mainGlobals mg → FnG l.prog w (K w.params) mg base CX0 9 fa fd ["script"] (spLaw (K w.params))) :
    PySem.W.WalkO q loose XP YP l.row.toRowW d [] (fun f vs => PySem.call f vs) :=
  walkG (n := 63) (k := 9) (x := "script") (CX := fun _ => CX0) (sp := fun w => spLaw (K w.params)) hn (by decide) hdf ⟨rfl, by decide, by decide⟩ hY F (fun _ _ a ns hl hS => ⟨a, ns, rfl, hS, hl, fun _ => rfl⟩) fun _ _ _ _ _ z => z
end K31
open PySem PySem.W PyProof.Rows
set_option maxRecDepth 100000 in
set_option maxHeartbeats 0 in
theorem PySem.Challenge.cw_likeboughs_k31_sizes_by_name_holds : PySem.Challenge.rw_likeboughs_k31_sizes_by_name.Holds := by
  w_on; o_law; k_head; (case hw => w_witness2)
  k_fill
  refine K31.walk (l := PySem.Challenge.rw_likeboughs_k31_sizes_by_name) rfl rfl (fun w h Y => PySem.W.kIn_of Y) ?F
  case F =>
    intro w mg fa h KX G hmg
    refine' K31.all_mk KX G hmg ?a_is_top ?l_is_top ?q_is_top ?k_is_top ?a_is_grown ?l_is_grown ?q_is_grown ?k_is_grown ?a_places_of ?l_places_of ?q_places_of ?k_places_of ?a_is_integer ?l_is_integer ?q_is_integer ?k_is_integer ?a_is_between ?l_is_between ?q_is_between ?k_is_between ?a_is_name ?l_is_name ?q_is_name ?k_is_name ?a_is_signs ?l_is_signs ?q_is_signs ?k_is_signs ?a_check_signs ?l_check_signs ?q_check_signs ?k_check_signs ?a_check_tree ?l_check_tree ?q_check_tree ?k_check_tree ?a_size ?l_size ?q_size ?k_size ?a_law_pen ?l_law_pen ?q_law_pen ?k_law_pen ?a_law_next ?l_law_next ?q_law_next ?k_law_next ?a_law_draw ?l_law_draw ?q_law_draw ?k_law_draw ?a_law_places ?l_law_places ?q_law_places ?k_law_places ?a_law ?l_law ?q_law ?k_law ?z_len ?z_isinstance ?z_all ?z_sum ?z_repr ?z_int ?z_list ?z_tuple ?z_str ?z_dict ?z_bool ?z_range ?c_LONGEST_NAME ?c_MOST_SIGNS ?c_MOST_BROTHERS
    (case a_is_top => k_is)
    (case l_is_top => k_is)
    (case q_is_top => k_is)
    (case k_is_top => k_is)
    (case a_is_grown => k_is)
    (case l_is_grown => k_is)
    (case q_is_grown => k_is)
    (case k_is_grown => k_is)
    (case a_places_of => k_is)
    (case l_places_of => k_is)
    (case q_places_of => k_is)
    (case k_places_of => k_is)
    (case a_is_integer => k_is)
    (case l_is_integer => k_is)
    (case q_is_integer => k_is)
    (case k_is_integer => k_is)
    (case a_is_between => k_is)
    (case l_is_between => k_is)
    (case q_is_between => k_is)
    (case k_is_between => k_is)
    (case a_is_name => k_is)
    (case l_is_name => k_is)
    (case q_is_name => k_is)
    (case k_is_name => k_is)
    (case a_is_signs => k_is)
    (case l_is_signs => k_is)
    (case q_is_signs => k_is)
    (case k_is_signs => k_is)
    (case a_check_signs => k_is)
    (case l_check_signs => k_is)
    (case q_check_signs => k_is)
    (case k_check_signs => k_is)
    (case a_check_tree => k_is)
    (case l_check_tree => k_is)
    (case q_check_tree => k_is)
    (case k_check_tree => k_is)
    (case a_size => k_is)
    (case l_size => k_is)
    (case q_size => k_is)
    (case k_size => k_is)
    (case a_law_pen => k_is)
    (case l_law_pen => k_is)
    (case q_law_pen => k_is)
    (case k_law_pen => k_is)
    (case a_law_next => k_is)
    (case l_law_next => k_is)
    (case q_law_next => k_is)
    (case k_law_next => k_is)
    (case a_law_draw => k_is)
    (case l_law_draw => k_is)
    (case q_law_draw => k_is)
    (case k_law_draw => k_is)
    (case a_law_places => k_is)
    (case l_law_places => k_is)
    (case q_law_places => k_is)
    (case k_law_places => k_is)
    (case a_law => k_is)
    (case l_law => k_is)
    (case q_law => k_is)
    (case k_law => k_is)
    (case z_len => k_is)
    (case z_isinstance => k_is)
    (case z_all => k_is)
    (case z_sum => k_is)
    (case z_repr => k_is)
    (case z_int => k_is)
    (case z_list => k_is)
    (case z_tuple => k_is)
    (case z_str => k_is)
    (case z_dict => k_is)
    (case z_bool => k_is)
    (case z_range => k_is)
    (case c_LONGEST_NAME => k_is)
    (case c_MOST_SIGNS => k_is)
    (case c_MOST_BROTHERS => k_is)

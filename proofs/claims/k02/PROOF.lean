import PyProof.Rows.All
import Wide.All
import OpenK.AllK
import Wide.FinOn
import HandS.ForMost
import HandS.TupAny
import HandS.Evl
import HandS.IsInst
import HandS.Star
import KE.LtData
import HandS.WordsExc
import HandS.ExcOwn
import HandS.TryOnly
import HandS.Small
import HandS.Zip
import HandS.RevRange
import HandS.Rev
import KE.SortData
import PyProof.ExcBaseAll.ValueError
import HandS.Walk
import PySem.Challenge.RW_likeboughs_k02_trees_of_a_size
set_option Elab.async false
set_option linter.all false
set_option maxRecDepth 100000
set_option maxHeartbeats 4000000
/-! values and heaps of an evaluator; how they stand for those of the layer -/
noncomputable section
namespace Vz
open PySem L2

inductive W where
  | non | bl (b : Bool) | int (i : Int) | str (x : List Nat) | tup (ws : List W) | loc (n : Nat) | rep (d : PyData)
inductive Ob where
  | lst (ws : List W)
  | dct (t : Bool) (kvs : List (W × W)) (lk : Bool)
  | ins (c : Nat) (fs : List (Nat × W))
  | opq (k : Nat)
/-- objects by number: 0 at the root, odd to the left -/
inductive T where
  | e | n (o : Ob) (l r : T)
def forceNat {α : Type} (n : Nat) (k : Nat → α) : α := Nat.rec (k 0) (fun m _ => k (m + 1)) n
theorem forceNat_eq {α : Type} (n : Nat) (k : Nat → α) : forceNat n k = k n := by cases n <;> rfl
def forceInt {α : Type} (i : Int) (k : Int → α) : α := Int.rec (fun n => forceNat n fun n => k (.ofNat n)) (fun n => forceNat n fun n => k (.negSucc n)) i
theorem forceInt_eq {α : Type} (i : Int) (k : Int → α) : forceInt i k = k i := by
  cases i with
  | ofNat n => exact forceNat_eq n fun n => k (.ofNat n)
  | negSucc n => exact forceNat_eq n fun n => k (.negSucc n)
def T.get (t : T) : Nat → Option Ob := T.rec (fun _ => none) (fun o _ _ gl gr k => Nat.rec (some o) (fun j _ => cond (Nat.beq (j % 2) 0) (gl (j / 2)) (gr (j / 2))) k) t
def T.set (t : T) : Nat → Ob → Option T := T.rec (fun k o => Nat.rec (some (.n o .e .e)) (fun _ _ => none) k)
  (fun o l r sl sr k u => Nat.rec (some (.n u l r)) (fun j _ => cond (Nat.beq (j % 2) 0) (Option.rec none (fun l' => some (.n o l' r)) (sl (j / 2) u)) (Option.rec none (fun r' => some (.n o l r')) (sr (j / 2) u))) k) t
theorem T.get_e (k : Nat) : T.get .e k = none := rfl
theorem T.get_0 (o : Ob) (l r : T) : T.get (.n o l r) 0 = some o := rfl
theorem T.get_s (o : Ob) (l r : T) (j : Nat) : T.get (.n o l r) (j + 1) = cond (Nat.beq (j % 2) 0) (l.get (j / 2)) (r.get (j / 2)) := rfl
theorem T.set_s (o u : Ob) (l r : T) (j : Nat) : T.set (.n o l r) (j + 1) u = cond (Nat.beq (j % 2) 0) (Option.rec none (fun l' => some (.n o l' r)) (l.set (j / 2) u)) (Option.rec none (fun r' => some (.n o l r')) (r.set (j / 2) u)) := rfl
theorem T.get_set : ∀ {t t' : T} {k : Nat} {o : Ob}, t.set k o = some t' → ∀ j, t'.get j = if j = k then some o else t.get j := by
  intro t
  induction t with
  | e =>
    intro t' k o h j
    cases k with
    | zero =>
      cases h
      cases j with
      | zero => rfl
      | succ j =>
        rw [T.get_s, if_neg (by omega)]
        cases Nat.beq (j % 2) 0 <;> rfl
    | succ k => cases h
  | n u l r il ir =>
    intro t' k o h j
    cases k with
    | zero =>
      cases h
      cases j with
      | zero => rfl
      | succ j =>
        rw [T.get_s, T.get_s, if_neg (by omega)]
    | succ k =>
      rw [T.set_s] at h
      have arith : ∀ a b : Nat, a % 2 = b % 2 → a / 2 = b / 2 → a = b := fun a b h1 h2 => by omega
      cases hb : Nat.beq (k % 2) 0 with
      | true =>
        rw [hb] at h
        have hk : k % 2 = 0 := Nat.eq_of_beq_eq_true hb
        cases hl : l.set (k / 2) o with
        | none => rw [hl] at h; cases h
        | some l' =>
          rw [hl] at h
          cases h
          cases j with
          | zero => rw [if_neg (by omega)]; rfl
          | succ j =>
            rw [T.get_s, T.get_s]
            cases hj : Nat.beq (j % 2) 0 with
            | true =>
              have hj' : j % 2 = 0 := Nat.eq_of_beq_eq_true hj
              show l'.get (j / 2) = _
              rw [il hl (j / 2)]
              by_cases e : j / 2 = k / 2
              · rw [if_pos e, if_pos (by omega)]
              · rw [if_neg e, if_neg (by omega)]
                rfl
            | false =>
              have hj' : j % 2 ≠ 0 := Nat.ne_of_beq_eq_false hj
              rw [if_neg (by omega)]
              rfl
      | false =>
        rw [hb] at h
        have hk : k % 2 ≠ 0 := Nat.ne_of_beq_eq_false hb
        cases hr : r.set (k / 2) o with
        | none => rw [hr] at h; cases h
        | some r' =>
          rw [hr] at h
          cases h
          cases j with
          | zero => rw [if_neg (by omega)]; rfl
          | succ j =>
            rw [T.get_s, T.get_s]
            cases hj : Nat.beq (j % 2) 0 with
            | true =>
              have hj' : j % 2 = 0 := Nat.eq_of_beq_eq_true hj
              rw [if_neg (by omega)]
              rfl
            | false =>
              have hj' : j % 2 ≠ 0 := Nat.ne_of_beq_eq_false hj
              show r'.get (j / 2) = _
              rw [ir hr (j / 2)]
              by_cases e : j / 2 = k / 2
              · rw [if_pos e, if_pos (by omega)]
              · rw [if_neg e, if_neg (by omega)]
                rfl
inductive Hs where
  | mk (t : T) (n : Nat)
def Hs.t : Hs → T | .mk t _ => t
def Hs.n : Hs → Nat | .mk _ n => n
def Hs.get (h : Hs) (i : Nat) : Option Ob := h.t.get i
def Hs.set (h : Hs) (i : Nat) (o : Ob) : Option Hs := Option.rec none (fun t => some (.mk t h.n)) (h.t.set i o)
/-- a new object at h.n -/
def Hs.new (h : Hs) (o : Ob) : Option Hs := Option.rec none (fun t => forceNat (h.n + 1) fun n => some (.mk t n)) (h.t.set h.n o)
def hs0 : Hs := .mk .e 0
theorem Hs.get_set {h h' : Hs} {i : Nat} {o : Ob} (e : h.set i o = some h') : h'.n = h.n ∧ ∀ j, h'.get j = if j = i then some o else h.get j := by
  unfold Hs.set at e
  cases q : h.t.set i o with
  | none => rw [q] at e; cases e
  | some t =>
    rw [q] at e
    cases e
    exact ⟨rfl, fun j => T.get_set q j⟩
theorem Hs.get_new {h h' : Hs} {o : Ob} (e : h.new o = some h') : h'.n = h.n + 1 ∧ ∀ j, h'.get j = if j = h.n then some o else h.get j := by
  unfold Hs.new at e
  cases q : h.t.set h.n o with
  | none => rw [q] at e; cases e
  | some t =>
    rw [q] at e
    have e : (forceNat (h.n + 1) fun n => some (Hs.mk t n)) = some h' := e
    rw [forceNat_eq] at e
    cases e
    exact ⟨rfl, fun j => T.get_set q j⟩

/-! ### what stands for what -/
mutual
/-- v stands for w; m: where the numbered objects lie -/
def RV (m : List Addr) (H : Hp) : W → V → Prop
  | .non, v => v = .non
  | .bl b, v => v = .bl b
  | .int i, v => v = .int i
  | .str x, v => v = .str ⟨x.toArray⟩
  | .tup ws, v => ∃ a xs, v = .ref a ∧ H a = some (.tup xs) ∧ RVs m H ws xs
  | .loc n, v => ∃ a, m[n]? = some a ∧ v = .ref a
  | .rep d, v => v = .str d.shown
def RVs (m : List Addr) (H : Hp) : List W → List V → Prop
  | [], xs => xs = []
  | w :: ws, xs => ∃ v vs, xs = v :: vs ∧ RV m H w v ∧ RVs m H ws vs
end
/-- keys of a dict: ints and texts, or tuples of such -/
def keyW : W → Option Key
  | .int i => some (.inl i)
  | .str x => some (.inr ⟨x.toArray⟩)
  | _ => none
def keysW : List W → Option (List Key)
  | [] => some []
  | w :: ws => match keyW w, keysW ws with
    | some k, some ks => some (k :: ks)
    | _, _ => none
def keyT : W → Option (List Key)
  | .tup ws => keysW ws
  | _ => none
def RD {κ : Type} (kw : W → Option κ) (m : List Addr) (H : Hp) : List (W × W) → List (κ × V) → Prop
  | [], ks => ks = []
  | (k, w) :: r, ks => ∃ k' v rs, ks = (k', v) :: rs ∧ kw k = some k' ∧ RV m H w v ∧ RD kw m H r rs
def RU (m : List Addr) (H : Hp) (kvs : List (W × W)) (u : HO) : Bool → Prop
  | false => ∃ ks, u = .dK ks ∧ RD keyW m H kvs ks
  | true => ∃ ks, u = .dT ks ∧ RD keyT m H kvs ks
def RF (an : Nat → Str) (m : List Addr) (H : Hp) : List (Nat × W) → List (Str × V) → Prop
  | [], fs => fs = []
  | (k, w) :: r, fs => ∃ v rs, fs = (an k, v) :: rs ∧ RV m H w v ∧ RF an m H r rs
variable (ca : Nat → Addr) (an : Nat → Str) (oq : Nat → List V)
def RO (m : List Addr) (H : Hp) : Ob → Addr → Prop
  | .lst ws, a => ∃ xs, H a = some (.lst xs) ∧ RVs m H ws xs
  | .dct t kvs false, a => ∃ u, H a = some u ∧ RU m H kvs u t
  | .dct t kvs true, a => ∃ u od, H a = some (.frz od u) ∧ RU m H kvs u t
  | .ins c fs, a => ∃ dx xs, H a = some (.ins (ca c) dx xs) ∧ RF an m H fs xs
  | .opq k, a => H a = some (.lst (oq k))
structure RH (m : List Addr) (h : Hs) (H : Hp) : Prop where
  len : m.length = h.n
  nd : m.Nodup
  ob : ∀ (i : Nat) (a : Addr), m[i]? = some a → ∃ o, h.get i = some o ∧ RO ca an oq m H o a
  inn : ∀ (i : Nat) (o : Ob), h.get i = some o → i < m.length
/-- what is not in the map stays -/
def Fr (m : List Addr) (H H' : Hp) : Prop := ∀ b o, H b = some o → b ∉ m → H' b = some o
structure Step (m : List Addr) (H : Hp) (m' : List Addr) (H' : Hp) : Prop where
  pre : ∃ l, m' = m ++ l
  fr : Fr m H H'
  new : ∀ b, b ∈ m' → b ∉ m → H b = none
  frz : ∀ b o u, H b = some (.frz o u) → H' b = some (.frz o u)
section
variable {ca : Nat → Addr} {an : Nat → Str} {oq : Nat → List V} {m m' m1 m2 : List Addr} {H H' H1 H2 : Hp} {h h' : Hs}
theorem Step.refl : Step m H m H := ⟨⟨[], by simp⟩, fun _ _ e _ => e, fun b h1 h2 => absurd h1 h2, fun _ _ _ e => e⟩
theorem Step.sub (s : Step m H m' H') {b : Addr} (hb : b ∈ m) : b ∈ m' := by
  obtain ⟨l, rfl⟩ := s.pre
  exact List.mem_append_left _ hb
theorem Step.trans (a : Step m H m1 H1) (b : Step m1 H1 m2 H2) : Step m H m2 H2 := by
  obtain ⟨l, e⟩ := a.pre
  obtain ⟨l', e'⟩ := b.pre
  refine ⟨⟨l ++ l', by rw [e', e, List.append_assoc]⟩, fun c o ho hc => ?_, fun c h2 hc => ?_, fun c o u q => b.frz c o u (a.frz c o u q)⟩
  · refine b.fr c o (a.fr c o ho hc) fun hm => ?_
    have := a.new c hm hc
    rw [ho] at this
    cases this
  · by_cases hm : c ∈ m1
    · exact a.new c hm hc
    · cases q : H c with
      | none => rfl
      | some o =>
        have := a.fr c o q hc
        rw [b.new c h2 hm] at this
        cases this
theorem Step.get (s : Step m H m' H') {n : Nat} {a : Addr} (h : m[n]? = some a) : m'[n]? = some a := by
  obtain ⟨l, rfl⟩ := s.pre
  rw [List.getElem?_append_left (List.getElem?_eq_some_iff.mp h).1]
  exact h
/-- what is mapped is no tuple -/
theorem RU.noTup {kvs : List (W × W)} {u : HO} {t : Bool} (q : RU m H kvs u t) : ∀ xs, u ≠ .tup xs := fun xs z => by
  cases t with
  | false => obtain ⟨_, rfl, _⟩ := q; cases z
  | true => obtain ⟨_, rfl, _⟩ := q; cases z
theorem RH.noTup (r : RH ca an oq m h H) {a : Addr} (ha : a ∈ m) : ∀ xs, H a ≠ some (.tup xs) := by
  obtain ⟨i, hi⟩ := List.getElem?_of_mem ha
  obtain ⟨o, _, q⟩ := r.ob i a hi
  intro xs z
  cases o with
  | lst ws =>
    obtain ⟨ys, e, _⟩ := q
    rw [e] at z
    cases z
  | dct t kvs lk =>
    cases lk with
    | false =>
      obtain ⟨u, e, q⟩ := q
      rw [e] at z
      exact q.noTup xs (Option.some.inj z)
    | true =>
      obtain ⟨u, od, e, q⟩ := q
      rw [e] at z
      cases z
  | ins c fs =>
    obtain ⟨dx, ys, e, _⟩ := q
    rw [e] at z
    cases z
  | opq k =>
    have e : H a = some (.lst (oq k)) := q
    rw [e] at z
    cases z
theorem Step.sqT (s : Step m H m' H') (r : RH ca an oq m h H) {a : Addr} {xs : List V} (q : H a = some (.tup xs)) : H' a = some (.tup xs) :=
  s.fr a _ q fun z => r.noTup z xs q
/-- what values lean on: the map grows, tuples stay -/
structure Sw (m : List Addr) (H : Hp) (m' : List Addr) (H' : Hp) : Prop where
  pre : ∃ l, m' = m ++ l
  tup : ∀ a xs, H a = some (.tup xs) → H' a = some (.tup xs)
theorem Step.sw (s : Step m H m' H') (r : RH ca an oq m h H) : Sw m H m' H' := ⟨s.pre, fun a xs q => s.sqT r q⟩
theorem Sw.refl : Sw m H m H := ⟨⟨[], by simp⟩, fun _ _ e => e⟩
theorem Sw.trans (a : Sw m H m1 H1) (b : Sw m1 H1 m2 H2) : Sw m H m2 H2 := by
  obtain ⟨l, e⟩ := a.pre
  obtain ⟨l', e'⟩ := b.pre
  exact ⟨⟨l ++ l', by rw [e', e, List.append_assoc]⟩, fun x xs q => b.tup x xs (a.tup x xs q)⟩
theorem Sw.get (s : Sw m H m' H') {n : Nat} {a : Addr} (h : m[n]? = some a) : m'[n]? = some a := by
  obtain ⟨l, rfl⟩ := s.pre
  rw [List.getElem?_append_left (List.getElem?_eq_some_iff.mp h).1]
  exact h
mutual
theorem Sw.rv (s : Sw m H m' H') : ∀ (w : W) (v : V), RV m H w v → RV m' H' w v
  | .non, _, e => e
  | .bl _, _, e => e
  | .int _, _, e => e
  | .str _, _, e => e
  | .tup ws, _, e => by
    obtain ⟨a, xs, rfl, q, rs⟩ := e
    exact ⟨a, xs, rfl, s.tup _ _ q, s.rvs ws xs rs⟩
  | .loc n, _, e => by
    obtain ⟨a, q, rfl⟩ := e
    exact ⟨a, s.get q, rfl⟩
  | .rep _, _, e => e
theorem Sw.rvs (s : Sw m H m' H') : ∀ (ws : List W) (xs : List V), RVs m H ws xs → RVs m' H' ws xs
  | [], _, e => e
  | w :: ws, _, e => by
    obtain ⟨v, vs, rfl, a, b⟩ := e
    exact ⟨v, vs, rfl, s.rv w v a, s.rvs ws vs b⟩
end
theorem Sw.rd {κ : Type} {kw : W → Option κ} (s : Sw m H m' H') : ∀ (kvs : List (W × W)) (ks : List (κ × V)), RD kw m H kvs ks → RD kw m' H' kvs ks
  | [], _, e => e
  | (k, w) :: kvs, _, e => by
    obtain ⟨k', v, rs, rfl, a, b, c⟩ := e
    exact ⟨k', v, rs, rfl, a, s.rv w v b, s.rd kvs rs c⟩
theorem Sw.ru (s : Sw m H m' H') {kvs : List (W × W)} {u : HO} {t : Bool} (q : RU m H kvs u t) : RU m' H' kvs u t := by
  cases t with
  | false =>
    obtain ⟨ks, rfl, q⟩ := q
    exact ⟨ks, rfl, s.rd _ _ q⟩
  | true =>
    obtain ⟨ks, rfl, q⟩ := q
    exact ⟨ks, rfl, s.rd _ _ q⟩
theorem Sw.rf (s : Sw m H m' H') : ∀ (fs : List (Nat × W)) (xs : List (Str × V)), RF an m H fs xs → RF an m' H' fs xs
  | [], _, e => e
  | (k, w) :: fs, _, e => by
    obtain ⟨v, rs, rfl, b, c⟩ := e
    exact ⟨v, rs, rfl, s.rv w v b, s.rf fs rs c⟩
/-- an object's description, behind a step that leaves its own place -/
theorem Sw.ro (s : Sw m H m' H') {o : Ob} {a : Addr} (q : RO ca an oq m H o a) (e : H' a = H a) : RO ca an oq m' H' o a := by
  cases o with
  | lst ws =>
    obtain ⟨xs, q, rs⟩ := q
    exact ⟨xs, e.trans q, s.rvs _ _ rs⟩
  | dct t kvs lk =>
    cases lk with
    | false =>
      obtain ⟨u, q, rs⟩ := q
      exact ⟨u, e.trans q, s.ru rs⟩
    | true =>
      obtain ⟨u, od, q, rs⟩ := q
      exact ⟨u, od, e.trans q, s.ru rs⟩
  | ins c fs =>
    obtain ⟨dx, xs, q, rs⟩ := q
    exact ⟨dx, xs, e.trans q, s.rf _ _ rs⟩
  | opq k => exact e.trans q
theorem Step.rv (s : Step m H m' H') (r : RH ca an oq m h H) (w : W) (v : V) (q : RV m H w v) : RV m' H' w v := (s.sw r).rv w v q
theorem Step.rvs (s : Step m H m' H') (r : RH ca an oq m h H) (w : List W) (v : List V) (q : RVs m H w v) : RVs m' H' w v := (s.sw r).rvs w v q
theorem Step.rd {κ : Type} {kw : W → Option κ} (s : Step m H m' H') (r : RH ca an oq m h H) (kvs : List (W × W)) (ks : List (κ × V)) (q : RD kw m H kvs ks) : RD kw m' H' kvs ks := (s.sw r).rd kvs ks q
theorem Step.ru (s : Step m H m' H') (r : RH ca an oq m h H) {kvs : List (W × W)} {u : HO} {t : Bool} (q : RU m H kvs u t) : RU m' H' kvs u t := (s.sw r).ru q
theorem Step.ro (s : Step m H m' H') (r : RH ca an oq m h H) {o : Ob} {a : Addr} (q : RO ca an oq m H o a) (e : H' a = H a) : RO ca an oq m' H' o a := (s.sw r).ro q e
theorem RVs.length : ∀ {ws : List W} {xs : List V}, RVs m H ws xs → ws.length = xs.length
  | [], _, e => by cases e; rfl
  | w :: ws, _, e => by
    obtain ⟨v, vs, rfl, _, b⟩ := e
    rw [List.length_cons, List.length_cons, RVs.length b]
theorem RVs.nil : RVs m H [] [] := rfl
theorem RVs.cons {w : W} {v : V} {ws : List W} {vs : List V} (a : RV m H w v) (b : RVs m H ws vs) : RVs m H (w :: ws) (v :: vs) := ⟨v, vs, rfl, a, b⟩
theorem RVs.append : ∀ {ws ws' : List W} {xs xs' : List V}, RVs m H ws xs → RVs m H ws' xs' → RVs m H (ws ++ ws') (xs ++ xs')
  | [], _, _, _, a, b => by cases a; exact b
  | w :: ws, _, _, _, a, b => by
    obtain ⟨v, vs, rfl, p, q⟩ := a
    exact ⟨v, _, rfl, p, RVs.append q b⟩
theorem RVs.get : ∀ {ws : List W} {xs : List V} {i : Nat} {w : W}, RVs m H ws xs → ws[i]? = some w → ∃ v, xs[i]? = some v ∧ RV m H w v
  | [], _, _, _, _, e => by simp at e
  | w :: ws, _, 0, _, a, e => by
    obtain ⟨v, vs, rfl, p, q⟩ := a
    simp at e
    subst e
    exact ⟨v, rfl, p⟩
  | w :: ws, _, i + 1, _, a, e => by
    obtain ⟨v, vs, rfl, p, q⟩ := a
    obtain ⟨v', e1, e2⟩ := RVs.get (i := i) q (by simpa using e)
    exact ⟨v', by simpa using e1, e2⟩
theorem RVs.get' : ∀ {ws : List W} {xs : List V} {i : Nat} {v : V}, RVs m H ws xs → xs[i]? = some v → ∃ w, ws[i]? = some w ∧ RV m H w v
  | [], _, _, _, a, e => by cases a; simp at e
  | w :: ws, _, 0, _, a, e => by
    obtain ⟨v, vs, rfl, p, q⟩ := a
    simp at e
    subst e
    exact ⟨w, rfl, p⟩
  | w :: ws, _, i + 1, _, a, e => by
    obtain ⟨v, vs, rfl, p, q⟩ := a
    obtain ⟨v', e1, e2⟩ := RVs.get' (i := i) q (by simpa using e)
    exact ⟨v', by simpa using e1, e2⟩
theorem RVs.take : ∀ {ws : List W} {xs : List V} (n : Nat), RVs m H ws xs → RVs m H (ws.take n) (xs.take n)
  | _, _, 0, _ => rfl
  | [], _, n + 1, a => by cases a; exact rfl
  | w :: ws, _, n + 1, a => by
    obtain ⟨v, vs, rfl, p, q⟩ := a
    exact ⟨v, _, rfl, p, RVs.take n q⟩
theorem RVs.drop : ∀ {ws : List W} {xs : List V} (n : Nat), RVs m H ws xs → RVs m H (ws.drop n) (xs.drop n)
  | _, _, 0, a => a
  | [], _, n + 1, a => by cases a; exact rfl
  | w :: ws, _, n + 1, a => by
    obtain ⟨v, vs, rfl, p, q⟩ := a
    exact RVs.drop n q
theorem RVs.set {w : W} {v : V} (r : RV m H w v) : ∀ {ws : List W} {xs : List V} (i : Nat), RVs m H ws xs → RVs m H (ws.set i w) (xs.set i v)
  | [], _, _, a => by cases a; exact rfl
  | w' :: ws, _, 0, a => by
    obtain ⟨v', vs, rfl, p, q⟩ := a
    exact ⟨v, vs, rfl, r, q⟩
  | w' :: ws, _, i + 1, a => by
    obtain ⟨v', vs, rfl, p, q⟩ := a
    exact ⟨v', _, rfl, p, RVs.set r i q⟩
/-- a new object is laid, not numbered -/
theorem step_lay {p : Addr} {o : HO} (hp : H p = none) : Step m H m (upd H p o) :=
  ⟨⟨[], by simp⟩, fun b u e _ => by rw [upd_ne (ne_of_none e hp)]; exact e, fun b h1 h2 => absurd h1 h2, fun b o u e => by rw [upd_ne (ne_of_none e hp)]; exact e⟩
theorem RH.notin (r : RH ca an oq m h H) {p : Addr} (hp : H p = none) : p ∉ m := fun hm => by
  obtain ⟨i, hi⟩ := List.getElem?_of_mem hm
  obtain ⟨o, _, q⟩ := r.ob i p hi
  cases o with
  | lst ws => obtain ⟨_, e, _⟩ := q; rw [hp] at e; cases e
  | dct t kvs lk =>
    cases lk with
    | false => obtain ⟨_, e, _⟩ := q; rw [hp] at e; cases e
    | true => obtain ⟨_, _, e, _⟩ := q; rw [hp] at e; cases e
  | ins c fs => obtain ⟨_, _, e, _⟩ := q; rw [hp] at e; cases e
  | opq k =>
    have e : H p = some (.lst (oq k)) := q
    rw [hp] at e
    cases e
theorem RH.lay (r : RH ca an oq m h H) {p : Addr} {o : HO} (hp : H p = none) : RH ca an oq m h (upd H p o) :=
  ⟨r.len, r.nd, fun i a e => by
    obtain ⟨u, h1, h2⟩ := r.ob i a e
    exact ⟨u, h1, (step_lay hp).ro r h2 (upd_ne fun z => r.notin hp (by rw [← z]; exact List.mem_of_getElem? e))⟩, r.inn⟩
/-- a new object is numbered -/
theorem step_new {p : Addr} {o : HO} (hp : H p = none) : Step m H (m ++ [p]) (upd H p o) :=
  ⟨⟨[p], rfl⟩, fun b u e _ => by rw [upd_ne (ne_of_none e hp)]; exact e, fun b h1 h2 => by
    rcases List.mem_append.mp h1 with z | z
    · exact absurd z h2
    · rw [List.mem_singleton.mp z]; exact hp, fun b o u e => by rw [upd_ne (ne_of_none e hp)]; exact e⟩
/-- an object that is there already, and no tuple, is numbered and written -/
theorem sw_adopt {q : Addr} {o : HO} (ht : ∀ xs, H q ≠ some (.tup xs)) : Sw m H (m ++ [q]) (upd H q o) :=
  ⟨⟨[q], rfl⟩, fun a xs e => by rw [upd_ne fun z => ht xs (by rw [← z]; exact e)]; exact e⟩
theorem RH.adopt (r : RH ca an oq m h H) {p : Addr} {o : HO} {u : Ob} (hn : p ∉ m) (ht : ∀ xs, H p ≠ some (.tup xs)) (e : h.new u = some h') (ro : RO ca an oq (m ++ [p]) (upd H p o) u p) : RH ca an oq (m ++ [p]) h' (upd H p o) := by
  obtain ⟨e1, e2⟩ := Hs.get_new e
  refine ⟨by rw [List.length_append, e1, r.len]; rfl, ?_, fun i a q => ?_, fun i o q => ?_⟩
  · rw [List.nodup_append]
    refine ⟨r.nd, by simp, fun a ha b hb => ?_⟩
    rw [List.mem_singleton.mp hb]
    exact fun z => hn (by rw [← z]; exact ha)
  · rw [e2]
    by_cases hi : i = h.n
    · rw [if_pos hi]
      rw [hi, ← r.len, List.getElem?_append_right (Nat.le_refl _), Nat.sub_self] at q
      cases q
      exact ⟨u, rfl, ro⟩
    · rw [if_neg hi]
      have hl : i < (m ++ [p]).length := (List.getElem?_eq_some_iff.mp q).1
      rw [List.length_append, r.len] at hl
      have hl : i < h.n := by simp at hl; omega
      rw [List.getElem?_append_left (by rw [r.len]; exact hl)] at q
      obtain ⟨o', h1, h2⟩ := r.ob i a q
      exact ⟨o', h1, (sw_adopt ht).ro h2 (upd_ne fun z => hn (by rw [← z]; exact List.mem_of_getElem? q))⟩
  · rw [e2] at q
    rw [List.length_append, r.len]
    by_cases hi : i = h.n
    · rw [hi]; simp
    · rw [if_neg hi] at q
      have := r.inn i o q
      rw [r.len] at this
      exact Nat.lt_of_lt_of_le this (Nat.le_add_right _ _)
theorem RH.new (r : RH ca an oq m h H) {p : Addr} {o : HO} {u : Ob} (hp : H p = none) (e : h.new u = some h') (ro : RO ca an oq (m ++ [p]) (upd H p o) u p) : RH ca an oq (m ++ [p]) h' (upd H p o) :=
  r.adopt (r.notin hp) (fun xs z => by rw [hp] at z; cases z) e ro
/-- .. from where it was not yet there -/
theorem Step.adopt {p : Addr} {o : HO} (s : Step m H m1 H1) (hp : H p = none) : Step m H (m1 ++ [p]) (upd H1 p o) := by
  obtain ⟨l, e⟩ := s.pre
  refine ⟨⟨l ++ [p], by rw [e, List.append_assoc]⟩, fun b u q hb => ?_, fun b h1 h2 => ?_, fun b o u q => by rw [upd_ne (ne_of_none q hp)]; exact s.frz b o u q⟩
  · rw [upd_ne (ne_of_none q hp)]
    exact s.fr b u q hb
  · rcases List.mem_append.mp h1 with z | z
    · exact s.new b z h2
    · rw [List.mem_singleton.mp z]
      exact hp
theorem new_get (r : RH ca an oq m h H) (p : Addr) : (m ++ [p])[h.n]? = some p := by
  rw [← r.len, List.getElem?_append_right (Nat.le_refl _), Nat.sub_self]
  rfl
/-- a numbered object is written -/
theorem step_set {i : Nat} {a : Addr} {o : HO} (e : m[i]? = some a) (hz : ∀ o u, H a ≠ some (.frz o u)) : Step m H m (upd H a o) :=
  ⟨⟨[], by simp⟩, fun b u q hb => by rw [upd_ne fun z => hb (by rw [z]; exact List.mem_of_getElem? e)]; exact q, fun b h1 h2 => absurd h1 h2, fun b o u q => by rw [upd_ne fun z => hz o u (by rw [← z]; exact q)]; exact q⟩
/-- as far as values go -/
theorem sw_set {a : Addr} {o : HO} (ht : ∀ xs, H a ≠ some (.tup xs)) : Sw m H m (upd H a o) := ⟨⟨[], by simp⟩, fun b xs e => by rw [upd_ne fun z => ht xs (by rw [← z]; exact e)]; exact e⟩
theorem RH.set (r : RH ca an oq m h H) {i : Nat} {a : Addr} {o : HO} {u : Ob} (hi : m[i]? = some a) (e : h.set i u = some h') (ro : RO ca an oq m (upd H a o) u a) : RH ca an oq m h' (upd H a o) := by
  obtain ⟨e1, e2⟩ := Hs.get_set e
  refine ⟨by rw [e1, r.len], r.nd, fun j b q => ?_, fun j o q => ?_⟩
  · rw [e2]
    by_cases hj : j = i
    · rw [if_pos hj]
      rw [hj, hi] at q
      cases q
      exact ⟨u, rfl, ro⟩
    · rw [if_neg hj]
      obtain ⟨o', h1, h2⟩ := r.ob j b q
      refine ⟨o', h1, (sw_set fun xs => r.noTup (List.mem_of_getElem? hi) xs).ro h2 (upd_ne fun z => hj ?_)⟩
      subst z
      obtain ⟨l1, q1⟩ := List.getElem?_eq_some_iff.mp q
      obtain ⟨l2, q2⟩ := List.getElem?_eq_some_iff.mp hi
      exact (List.getElem_inj r.nd).mp (q1.trans q2.symm)
  · rw [e2] at q
    by_cases hj : j = i
    · rw [hj]
      exact (List.getElem?_eq_some_iff.mp hi).1
    · rw [if_neg hj] at q
      exact r.inn j o q
/-- what is out of the map is written -/
theorem RH.out (r : RH ca an oq m h H) {p : Addr} {o : HO} (hn : p ∉ m) (ht : ∀ xs, H p ≠ some (.tup xs)) : RH ca an oq m h (upd H p o) :=
  ⟨r.len, r.nd, fun i a e => by
    obtain ⟨u, h1, h2⟩ := r.ob i a e
    exact ⟨u, h1, (sw_set ht).ro h2 (upd_ne fun z => hn (by rw [← z]; exact List.mem_of_getElem? e))⟩, r.inn⟩
theorem Step.out {p : Addr} {o : HO} (s : Step m H m1 H1) (hp : H p = none) : Step m H m1 (upd H1 p o) :=
  ⟨s.pre, fun b u q hb => by rw [upd_ne (ne_of_none q hp)]; exact s.fr b u q hb, s.new, fun b o u q => by rw [upd_ne (ne_of_none q hp)]; exact s.frz b o u q⟩
theorem RH.at (r : RH ca an oq m h H) {i : Nat} {o : Ob} (e : h.get i = some o) : ∃ a, m[i]? = some a ∧ RO ca an oq m H o a := by
  have hi := r.inn i o e
  obtain ⟨o', h1, h2⟩ := r.ob i m[i] (List.getElem?_eq_getElem hi)
  rw [e] at h1
  cases h1
  exact ⟨_, List.getElem?_eq_getElem hi, h2⟩
end
end Vz
end
/-! readings of the layer that run the evaluator -/
noncomputable section
namespace Vz
open PySem PySem.Spec PyProof.Rows L2

inductive Out (α : Type) where
  | ok (a : α) (h : Hs) | exc (c : Nat) (h : Hs) | bad
abbrev Env := List (Option W)
abbrev D := Env → Hs → Out W
abbrev DL := Env → Hs → Out (List W)
abbrev DT := Env → Hs → Out Bool
inductive Fl where
  | nx (ρ : Env) | rt (w : W) | bk (ρ : Env) | ct (ρ : Env)
abbrev DS := Env → Hs → Out Fl
@[inline] def Out.bind {α β : Type} (x : Out α) (f : α → Hs → Out β) : Out β := Out.rec f (fun c h => .exc c h) .bad x
theorem bind_ok {α β : Type} {a : α} {h : Hs} {f : α → Hs → Out β} : Out.bind (.ok a h) f = f a h := rfl
theorem bind_exc {α β : Type} {c : Nat} {h : Hs} {f : α → Hs → Out β} : Out.bind (.exc c h) f = .exc c h := rfl
theorem bind_bad {α β : Type} {f : α → Hs → Out β} : Out.bind .bad f = .bad := rfl
theorem bind_assoc {α β γ : Type} {x : Out α} {f : α → Hs → Out β} {g : β → Hs → Out γ} : (x.bind f).bind g = x.bind fun a h => (f a h).bind g := by cases x <;> rfl
/-- an option that must be there -/
@[inline] def orBad {α β : Type} (x : Option α) (f : α → Out β) : Out β := Option.rec .bad f x

structure Cn where
  K : PySem.W.Frag
  ca : Nat → Addr
  an : Nat → Str
  oq : Nat → List V
variable (C : Cn)
abbrev Cn.rh (C : Cn) := RH C.ca C.an C.oq

/-- the slots -/
def RE (m : List Addr) (H : Hp) : Env → L2.St → Prop
  | [], σ => σ = []
  | none :: ρ, σ => ∃ x r, σ = x :: r ∧ RE m H ρ r
  | some w :: ρ, σ => ∃ v r, σ = some v :: r ∧ RV m H w v ∧ RE m H ρ r
/-- what is wanted behind an outcome -/
def Post {α : Type} (m : List Addr) (H : Hp) (E : XK) (Q : α → List Addr → Hp → Prop) : Out α → Prop
  | .ok a h' => ∀ m' H', Step m H m' H' → C.rh m' h' H' → Q a m' H'
  | .exc c h' => ∀ m' H', Step m H m' H' → C.rh m' h' H' → E (.ref (C.ca c)) none H'
  | .bad => False
def tD (E : XK) (d : D) : TE := fun σ H Q => ∃ m ρ h, RE m H ρ σ ∧ C.rh m h H ∧ Post C m H E (fun w m' H' => ∀ v, RV m' H' w v → Q v H') (d ρ h)
def tDL (E : XK) (d : DL) : TA := fun σ H Q => ∃ m ρ h, RE m H ρ σ ∧ C.rh m h H ∧ Post C m H E (fun ws m' H' => ∀ vs, RVs m' H' ws vs → Q vs H') (d ρ h)
def tDT (E : XK) (d : DT) : TT := fun σ H Q => ∃ m ρ h, RE m H ρ σ ∧ C.rh m h H ∧ Post C m H E (fun b m' H' => Q b H') (d ρ h)
def endsOf (D : Ends) (f : Fl) (m' : List Addr) (H' : Hp) : Prop := match f with
  | .nx ρ => ∀ σ, RE m' H' ρ σ → D.nx σ H'
  | .rt w => ∀ v, RV m' H' w v → D.rt v H'
  | .bk ρ => ∀ σ, RE m' H' ρ σ → D.bk σ H'
  | .ct ρ => ∀ σ, RE m' H' ρ σ → D.ct σ H'
def tDS (E : XK) (d : DS) : TS := fun D σ H => ∃ m ρ h, RE m H ρ σ ∧ C.rh m h H ∧ Post C m H E (endsOf D) (d ρ h)

section
variable {C : Cn} {m m' m1 m2 : List Addr} {H H' H1 H2 : Hp} {h h' : Hs} {ρ : Env} {σ : L2.St} {E : XK} {α β : Type}
theorem Sw.re (s : Sw m H m' H') : ∀ {ρ : Env} {σ : L2.St}, RE m H ρ σ → RE m' H' ρ σ
  | [], _, e => e
  | none :: ρ, _, e => by
    obtain ⟨x, q, rfl, e⟩ := e
    exact ⟨x, q, rfl, s.re e⟩
  | some w :: ρ, _, e => by
    obtain ⟨v, q, rfl, a, e⟩ := e
    exact ⟨v, q, rfl, s.rv w v a, s.re e⟩
theorem Step.re (s : Step m H m' H') (r : C.rh m h H) {ρ : Env} {σ : L2.St} (e : RE m H ρ σ) : RE m' H' ρ σ := (s.sw r).re e
theorem RE.get : ∀ {ρ : Env} {σ : L2.St} {i : Nat} {w : W}, RE m H ρ σ → ρ[i]? = some (some w) → ∃ v, σ[i]? = some (some v) ∧ RV m H w v
  | [], _, _, _, _, e => by simp at e
  | none :: ρ, _, 0, _, _, e => by simp at e
  | none :: ρ, _, i + 1, _, r, e => by
    obtain ⟨x, q, rfl, r⟩ := r
    obtain ⟨v, e1, e2⟩ := RE.get (i := i) r (by simpa using e)
    exact ⟨v, by simpa using e1, e2⟩
  | some w :: ρ, _, 0, _, r, e => by
    obtain ⟨v, q, rfl, a, _⟩ := r
    simp at e
    subst e
    exact ⟨v, rfl, a⟩
  | some w :: ρ, _, i + 1, _, r, e => by
    obtain ⟨v, q, rfl, _, r⟩ := r
    obtain ⟨v, e1, e2⟩ := RE.get (i := i) r (by simpa using e)
    exact ⟨v, by simpa using e1, e2⟩
theorem RE.set {w : W} {v : V} (a : RV m H w v) : ∀ {ρ : Env} {σ : L2.St} (i : Nat), RE m H ρ σ → RE m H (ρ.set i (some w)) (σ.set i (some v))
  | [], _, _, r => by cases r; exact rfl
  | none :: ρ, _, 0, r => by
    obtain ⟨x, q, rfl, r⟩ := r
    exact ⟨v, q, rfl, a, r⟩
  | some _ :: ρ, _, 0, r => by
    obtain ⟨x, q, rfl, _, r⟩ := r
    exact ⟨v, q, rfl, a, r⟩
  | none :: ρ, _, i + 1, r => by
    obtain ⟨x, q, rfl, r⟩ := r
    exact ⟨x, _, rfl, RE.set a i r⟩
  | some _ :: ρ, _, i + 1, r => by
    obtain ⟨x, q, rfl, b, r⟩ := r
    exact ⟨x, _, rfl, b, RE.set a i r⟩
theorem RE.wipe1 : ∀ {ρ : Env} {σ : L2.St} (i : Nat), RE m H ρ σ → RE m H (ρ.set i none) (σ.set i none)
  | [], _, _, r => by cases r; exact rfl
  | none :: ρ, _, 0, r => by
    obtain ⟨x, q, rfl, r⟩ := r
    exact ⟨none, q, rfl, r⟩
  | some _ :: ρ, _, 0, r => by
    obtain ⟨x, q, rfl, _, r⟩ := r
    exact ⟨none, q, rfl, r⟩
  | none :: ρ, _, i + 1, r => by
    obtain ⟨x, q, rfl, r⟩ := r
    exact ⟨x, _, rfl, RE.wipe1 i r⟩
  | some _ :: ρ, _, i + 1, r => by
    obtain ⟨x, q, rfl, b, r⟩ := r
    exact ⟨x, _, rfl, b, RE.wipe1 i r⟩
theorem Post.mono {Q Q' : α → List Addr → Hp → Prop} {o : Out α} (p : Post C m H E Q o) (k : ∀ a m' H', Q a m' H' → Q' a m' H') : Post C m H E Q' o := by
  cases o with
  | ok a h' => exact fun m' H' s r => k a m' H' (p m' H' s r)
  | exc c h' => exact p
  | bad => exact p
/-- behind a bind: first the first, then the second, from where the first led -/
theorem Post.bind {Q : β → List Addr → Hp → Prop} {o : Out α} {f : α → Hs → Out β} (p : Post C m H E Q (o.bind f)) :
    Post C m H E (fun a m1 H1 => Step m H m1 H1 → ∃ h1, C.rh m1 h1 H1 ∧ Post C m1 H1 E Q (f a h1)) o := by
  cases o with
  | ok a h1 =>
    intro m1 H1 s1 r1 _
    refine ⟨h1, r1, ?_⟩
    have p : Post C m H E Q (f a h1) := p
    revert p
    cases f a h1 with
    | ok b h2 => exact fun p m2 H2 s2 r2 => p m2 H2 (s1.trans s2) r2
    | exc c h2 => exact fun p m2 H2 s2 r2 => p m2 H2 (s1.trans s2) r2
    | bad => exact fun p => p
  | exc c h1 => exact p
  | bad => exact p
/-- the same, what follows told from the first place -/
theorem Post.bind0 {Q : β → List Addr → Hp → Prop} {o : Out α} {f : α → Hs → Out β} (p : Post C m H E Q (o.bind f)) :
    Post C m H E (fun a m1 H1 => ∃ h1, C.rh m1 h1 H1 ∧ Post C m H E Q (f a h1)) o := by
  cases o with
  | ok a h1 => exact fun m1 H1 s1 r1 => ⟨h1, r1, p⟩
  | exc c h1 => exact p
  | bad => exact p
/-- an outcome from a later place -/
theorem Post.later {Q : α → List Addr → Hp → Prop} {o : Out α} (s : Step m H m1 H1) (p : Post C m H E Q o) : Post C m1 H1 E Q o := by
  cases o with
  | ok a h' => exact fun m' H' s' r => p m' H' (s.trans s') r
  | exc c h' => exact fun m' H' s' r => p m' H' (s.trans s') r
  | bad => exact p
/-- the same with the steps told -/
theorem Post.step {Q : α → List Addr → Hp → Prop} {o : Out α} (p : Post C m H E Q o) : Post C m H E (fun a m' H' => Step m H m' H' ∧ (∃ h', C.rh m' h' H') ∧ Q a m' H') o := by
  cases o with
  | ok a h' => exact fun m' H' s r => ⟨s, ⟨h', r⟩, p m' H' s r⟩
  | exc c h' => exact p
  | bad => exact p
end

theorem _root_.L2.PE.imp {X : Cx} {e : Expr} {t t' : TE} (h : PE X e t) (i : ∀ σ H Q, t' σ H Q → t σ H Q) : PE X e t' := ⟨fun pins s σ H Q I q => h.run pins s σ H Q I (i σ H Q q)⟩
theorem _root_.L2.PT.imp {X : Cx} {e : Expr} {t t' : TT} (h : PT X e t) (i : ∀ σ H Q, t' σ H Q → t σ H Q) : PT X e t' := ⟨fun pins s σ H Q I q => h.run pins s σ H Q I (i σ H Q q)⟩
theorem _root_.L2.PA.imp {X : Cx} {e : List Expr} {t t' : TA} (h : PA X e t) (i : ∀ σ H Q, t' σ H Q → t σ H Q) : PA X e t' := ⟨fun pos pins s σ H Q I q => h.run pos pins s σ H Q I (i σ H Q q)⟩
theorem _root_.L2.PS.imp {X : Cx} {e : Stmt} {t t' : TS} (h : PS X e t) (i : ∀ D σ H, t' D σ H → t D σ H) : PS X e t' := ⟨fun pins s σ H D I q => h.run pins s σ H D I (i D σ H q)⟩
theorem _root_.L2.PSs.imp {X : Cx} {e : List Stmt} {t t' : TS} (h : PSs X e t) (i : ∀ D σ H, t' D σ H → t D σ H) : PSs X e t' := ⟨fun pins s σ H D I q => h.run pins s σ H D I (i D σ H q)⟩

/-! ### expressions -/
def dC (w : W) : D := fun _ h => .ok w h
def getE (ρ : Env) : Nat → Option (Option W) := List.rec (fun _ => none) (fun x _ ih n => Nat.rec (some x) (fun k _ => ih k) n) ρ
theorem getE_eq : ∀ (ρ : Env) (i : Nat), getE ρ i = ρ[i]?
  | [], _ => rfl
  | _ :: _, 0 => rfl
  | _ :: ρ, i + 1 => getE_eq ρ i
def dV (i : Nat) : D := fun ρ h => orBad (getE ρ i) fun x => orBad x fun w => .ok w h
/-- two, then an operation -/
def dOp (f : W → W → Hs → Out W) (a b : D) : D := fun ρ h => (a ρ h).bind fun x h1 => (b ρ h1).bind fun y h2 => f x y h2
def dUn (f : W → Hs → Out W) (a : D) : D := fun ρ h => (a ρ h).bind fun x h1 => f x h1
def dNil : DL := fun _ h => .ok [] h
def dCons (a : D) (b : DL) : DL := fun ρ h => (a ρ h).bind fun x h1 => (b ρ h1).bind fun xs h2 => .ok (x :: xs) h2
def dTup (a : DL) : D := fun ρ h => (a ρ h).bind fun ws h1 => cond (Nat.ble ws.length 100000) (.ok (.tup ws) h1) .bad
def dLst (a : DL) : D := fun ρ h => (a ρ h).bind fun ws h1 => cond (Nat.ble ws.length 100000) (orBad (h1.new (.lst ws)) fun h2 => .ok (.loc h1.n) h2) .bad
section
variable {C : Cn} {X : Cx} {E : XK} {e a b : Expr} {es : List Expr} {pos : Pos} {d da db : D} {dl : DL} {σ : L2.St} {H : Hp}
/-- a reading by the evaluator, entered -/
theorem tD.into {Q : VK} {ta : TE} (h : tD C E d σ H Q) (k : ∀ m ρ h, RE m H ρ σ → C.rh m h H → Post C m H E (fun w m' H' => ∀ v, RV m' H' w v → Q v H') (d ρ h) → ta σ H Q) : ta σ H Q := by
  obtain ⟨m, ρ, h, r1, r2, p⟩ := h
  exact k m ρ h r1 r2 p
theorem pe_c {w : W} {v : V} (h : PE X e (tC v)) (hw : ∀ m H, RV m H w v) : PE X e (tD C E (dC w)) := h.imp fun σ H Q ⟨m, ρ, h, r1, r2, p⟩ => p m H Step.refl r2 v (hw m H)
theorem de_int {i : Int} {j} : PE X (.Constant (.int i) j pos) (tD C E (dC (.int i))) := pe_c pe_int fun _ _ => rfl
theorem de_bl {i : Bool} {j} : PE X (.Constant (.bool i) j pos) (tD C E (dC (.bl i))) := pe_c pe_bl fun _ _ => rfl
theorem de_non {j} : PE X (.Constant .none j pos) (tD C E (dC .non)) := pe_c pe_non fun _ _ => rfl
theorem de_str {x : Str} {j} {l : List Nat} (hl : x.cps.toList = l) : PE X (.Constant (.str x) j pos) (tD C E (dC (.str l))) := pe_c pe_str fun _ _ => by
  subst hl
  exact rfl
theorem de_v {i : Nat} (h : PE X e (tVar i)) : PE X e (tD C E (dV i)) := h.imp fun σ H Q ⟨m, ρ, h, r1, r2, p⟩ => by
  unfold dV at p
  rw [getE_eq] at p
  cases q : ρ[i]? with
  | none => rw [q] at p; exact p.elim
  | some x =>
    rw [q] at p
    cases x with
    | none => exact p.elim
    | some w =>
      obtain ⟨v, e1, e2⟩ := r1.get q
      exact ⟨v, e1, p m H Step.refl r2 v e2⟩
/-- first a part, then what follows -/
theorem tD.of {Q : VK} {m : List Addr} {ρ : Env} {h : Hs} {α : Type} {f : W → Hs → Out α} {R : α → List Addr → Hp → Prop} (r1 : RE m H ρ σ) (r2 : C.rh m h H) (p : Post C m H E R ((d ρ h).bind f))
    (k : ∀ w v m1 h1 H1, Step m H m1 H1 → RE m1 H1 ρ σ → C.rh m1 h1 H1 → RV m1 H1 w v → Post C m1 H1 E R (f w h1) → Q v H1) : tD C E d σ H Q := by
  refine ⟨m, ρ, h, r1, r2, ?_⟩
  have p2 := p.bind.step
  refine p2.mono fun w m1 H1 ⟨s1, _, q⟩ v rv => ?_
  obtain ⟨h1, r, p'⟩ := q s1
  exact k w v m1 h1 H1 s1 (s1.re r2 r1) r rv p'
theorem tD.of0 {Q : VK} {m0 : List Addr} {H0 : Hp} {m : List Addr} {ρ : Env} {h : Hs} {α : Type} {f : W → Hs → Out α} {R : α → List Addr → Hp → Prop} (s0 : Step m0 H0 m H) (r1 : RE m H ρ σ) (r2 : C.rh m h H) (p : Post C m0 H0 E R ((d ρ h).bind f))
    (k : ∀ w v m1 h1 H1, Step m H m1 H1 → RE m1 H1 ρ σ → C.rh m1 h1 H1 → RV m1 H1 w v → Post C m0 H0 E R (f w h1) → Q v H1) : tD C E d σ H Q := by
  refine ⟨m, ρ, h, r1, r2, ?_⟩
  refine (p.bind0.later s0).step.mono fun w m1 H1 ⟨s1, _, h1, r, q⟩ v rv => ?_
  exact k w v m1 h1 H1 s1 (s1.re r2 r1) r rv q
theorem tDL.of {Q : List V → Hp → Prop} {m : List Addr} {ρ : Env} {h : Hs} {α : Type} {f : List W → Hs → Out α} {R : α → List Addr → Hp → Prop} (r1 : RE m H ρ σ) (r2 : C.rh m h H) (p : Post C m H E R ((dl ρ h).bind f))
    (k : ∀ w v m1 h1 H1, Step m H m1 H1 → RE m1 H1 ρ σ → C.rh m1 h1 H1 → RVs m1 H1 w v → Post C m1 H1 E R (f w h1) → Q v H1) : tDL C E dl σ H Q := by
  refine ⟨m, ρ, h, r1, r2, ?_⟩
  have p2 := p.bind.step
  refine p2.mono fun w m1 H1 ⟨s1, _, q⟩ v rv => ?_
  obtain ⟨h1, r, p'⟩ := q s1
  exact k w v m1 h1 H1 s1 (s1.re r2 r1) r rv p'
/-- an operator's rule serves what the evaluator does -/
def OpD (C : Cn) (E : XK) (r : R2) (f : W → W → Hs → Out W) : Prop := ∀ m h H x y vx vy (Q : VK), C.rh m h H → RV m H x vx → RV m H y vy → Post C m H E (fun w m' H' => ∀ v, RV m' H' w v → Q v H') (f x y h) → r vx vy H Q
def UnD (C : Cn) (E : XK) (r : V → Hp → VK → Prop) (f : W → Hs → Out W) : Prop := ∀ m h H x vx (Q : VK), C.rh m h H → RV m H x vx → Post C m H E (fun w m' H' => ∀ v, RV m' H' w v → Q v H') (f x h) → r vx H Q
theorem of_op {r : R2} {f : W → W → Hs → Out W} (hf : OpD C E r f) {Q : VK} (h : tD C E (dOp f da db) σ H Q) : tOp r (tD C E da) (tD C E db) σ H Q := by
  obtain ⟨m, ρ, h, r1, r2, p⟩ := h
  refine tD.of r1 r2 p fun w v m1 h1 H1 s1 e1 k1 rv p1 => ?_
  refine tD.of e1 k1 p1 fun w2 v2 m2 h2 H2 s2 e2 k2 rv2 p2 => ?_
  exact hf m2 h2 H2 w w2 v v2 Q k2 (s2.rv k1 w v rv) rv2 p2
theorem de_op {op : Operator} {r : R2} {f : W → W → Hs → Out W} (ho : OpR X (binaryOp op) r) (hf : OpD C E r f) (ha : PE X a (tD C E da)) (hb : PE X b (tD C E db)) : PE X (.BinOp a op b pos) (tD C E (dOp f da db)) :=
  (pe_op ho ha hb).imp fun σ H Q h => of_op hf h
theorem de_cmp {op : CmpOp} {r : R2} {f : W → W → Hs → Out W} (ho : OpR X (compareOp op) r) (hf : OpD C E r f) (ha : PE X a (tD C E da)) (hb : PE X b (tD C E db)) (hm : behindInMarks op b = false) : PE X (.Compare a [op] [b] pos) (tD C E (dOp f da db)) :=
  (pe_cmpR ho ha hb hm).imp fun σ H Q h => of_op hf h
theorem de_ix {r : R2} {f : W → W → Hs → Out W} (ho : IxR X r) (hf : OpD C E r f) (ha : PE X a (tD C E da)) (hb : PE X b (tD C E db)) (hs : PlainIx b) : PE X (.Subscript a b pos) (tD C E (dOp f da db)) :=
  (pe_ix ho ha hb hs).imp fun σ H Q h => of_op hf h
theorem de_un {op : UnaryOp} {r : V → Hp → VK → Prop} {f : W → Hs → Out W} (ho : UnR X (unaryOp op) r) (hf : UnD C E r f) (ha : PE X a (tD C E da)) : PE X (.UnaryOp op a pos) (tD C E (dUn f da)) :=
  (pe_un ho ha).imp fun σ H Q ⟨m, ρ, h, r1, r2, p⟩ => tD.of r1 r2 p fun w v m1 h1 H1 s1 e1 k1 rv p1 => hf m1 h1 H1 w v Q k1 rv p1
theorem da_nil : PA X [] (tDL C E dNil) := L2.PA.imp pa_nil fun σ H Q ⟨m, ρ, h, r1, r2, p⟩ => p m H Step.refl r2 [] rfl
theorem da_cons (ha : PE X a (tD C E da)) (hr : PA X es (tDL C E dl)) (hs : starEach (a :: es) X.env = (false, eval a X.env) :: starEach es X.env := by rfl) : PA X (a :: es) (tDL C E (dCons da dl)) :=
  L2.PA.imp (pa_cons ha hr hs) fun σ H Q ⟨m, ρ, h, r1, r2, p⟩ => by
    refine tD.of r1 r2 p fun w v m1 h1 H1 s1 e1 k1 rv p1 => ?_
    refine tDL.of e1 k1 p1 fun ws vs m2 h2 H2 s2 e2 k2 rv2 p2 => ?_
    exact p2 m2 H2 Step.refl k2 _ (RVs.cons (s2.rv k1 w v rv) rv2)
theorem ble_sz {n : Nat} (h : Nat.ble n 100000 = true) : n ≤ sizeLine := Nat.le_trans (Nat.le_of_ble_eq_true h) (by decide)
theorem de_tup {x1} (h : PA X es (tDL C E dl)) : PE X (.Tuple es x1 pos) (tD C E (dTup dl)) := (pe_tup h).imp fun σ H Q ⟨m, ρ, h, r1, r2, p⟩ => by
  refine tDL.of r1 r2 p fun ws vs m1 h1 H1 s1 e1 k1 rv p1 => ?_
  cases hb : Nat.ble ws.length 100000 with
  | false => rw [hb] at p1; exact p1.elim
  | true =>
    rw [hb] at p1
    refine ⟨by rw [← rv.length]; exact ble_sz hb, fun q hq => ?_⟩
    have s2 := step_lay (m := m1) (o := .tup vs) hq
    exact p1 m1 _ s2 (k1.lay hq) _ ⟨q, vs, rfl, upd_same, s2.rvs k1 _ _ rv⟩
theorem de_lst (h : PA X es (tDL C E dl)) : PE X (.List es pos) (tD C E (dLst dl)) := (pe_lst h).imp fun σ H Q ⟨m, ρ, h, r1, r2, p⟩ => by
  refine tDL.of r1 r2 p fun ws vs m1 h1 H1 s1 e1 k1 rv p1 => ?_
  cases hb : Nat.ble ws.length 100000 with
  | false => rw [hb] at p1; exact p1.elim
  | true =>
    rw [hb] at p1
    refine ⟨by rw [← rv.length]; exact ble_sz hb, fun q hq => ?_⟩
    cases hn : h1.new (.lst ws) with
    | none => rw [hn] at p1; exact p1.elim
    | some h2 =>
      rw [hn] at p1
      have s2 := step_new (m := m1) (o := .lst vs) hq
      exact p1 _ _ s2 (k1.new hq hn ⟨vs, upd_same, s2.rvs k1 _ _ rv⟩) _ ⟨q, new_get k1 q, rfl⟩
/-- a new list -/
theorem new_lst {m1 : List Addr} {h1 : Hs} {H1 : Hp} {ws : List W} {vs : List V} {Q : VK} (k1 : C.rh m1 h1 H1) (rv : RVs m1 H1 ws vs) (p1 : Post C m1 H1 E (fun w m' H' => ∀ v, RV m' H' w v → Q v H') (orBad (h1.new (.lst ws)) fun h2 => .ok (.loc h1.n) h2)) :
    ∀ q, H1 q = none → Q (.ref q) (upd H1 q (.lst vs)) := fun q hq => by
  cases hn : h1.new (.lst ws) with
  | none => rw [hn] at p1; exact p1.elim
  | some h2 =>
    rw [hn] at p1
    have s2 := step_new (m := m1) (o := .lst vs) hq
    exact p1 _ _ s2 (k1.new hq hn ⟨vs, upd_same, s2.rvs k1 _ _ rv⟩) _ ⟨q, new_get k1 q, rfl⟩
end
end Vz
end
namespace Lx
open PySem PySem.AutoSeq1
theorem ext_tup (l : Addr) (items : Array Value) (n : Nat) (b : Addr) (items2 : Array Value) (n2 : Nat) (dd : Option Addr) (sl : Array (Option Value))
    (hs0 : ¬(!items.isEmpty && Builtin.List.listTooLong (items.size + items2.size)) = true) (hs1 : items.size ≤ sizeLine) (hs2 : items.size + items2.size ≤ sizeLine + 1) :
    Meets (Builtin.«list.extend» ⟨[.ref l, .ref b], []⟩) (fun _ R s =>
      s.heap.get? l = some { cls := .type "list", dict := none, data := .seq items n, slots := #[] } ∧
      s.heap.get? b = some { cls := .type "tuple", dict := dd, data := .seq items2 n2, slots := sl } ∧
      R (.ok (.ret Value.none)) { s with heap := s.heap.update l (Obj.mapSeq fun x => x ++ items2), toks := s.toks }) :=
  .of_wp fun prog w A R s h => by
    obtain ⟨hp, g, d, tk, os⟩ := s
    obtain ⟨hl, hb, h⟩ := h
    have f1 := idx_int
    have f2 := sub_tuple_tuple
    have f3 := sub_list_list
    have f4 := sub_tuple_list
    have f5 := sub_list_tuple
    have hz' : (items ++ items2).size ≤ sizeLine + 1 := by rw [Array.size_append]; exact hs2
    wp_walk using (wpAny_updateSeq hl rfl (hz := hs1) (_hz' := hz')), wpAny_loadPart' hl, wpAny_loadPart' hb
    exact ⟨_, rfl, h⟩
end Lx
namespace Lx
open PySem PySem.Spec PyProof.Rows L2
section
variable {X : Cx}
def rExtT (K : PySem.W.Frag) : V → List V → Hp → VK → Prop := fun x vs H Q => ∃ l b xs zs, x = .ref l ∧ vs = [.ref b] ∧ H l = some (.lst xs) ∧ SqT K H b zs ∧ xs.length + zs.length ≤ sizeLine ∧ Q .non (upd H l (.lst (xs ++ zs)))
theorem mt_extT : MtR X "list.extend" (rExtT X.K) := by
  intro pins s σ H x vs v us Q I rx rv h
  obtain ⟨l, b, xs, zs, rfl, rfl, hH, hB, hz, q⟩ := h
  cases rx
  obtain ⟨u, rfl, ru⟩ := rv.one
  cases ru
  obtain ⟨z, its, n, r, hl, e⟩ := I.lstM hH
  obtain ⟨its2, r2, ⟨⟨cls, dd, dt, sl⟩, ho, hc, n2, hd⟩, hz2⟩ := I.tuple hB
  simp only at hc hd
  subst hc hd
  have hlen2 := r2.length
  have hsz : its.toArray.size + its2.toArray.size ≤ sizeLine := by
    rw [List.size_toArray, List.size_toArray]
    omega
  have hlong : ¬ (!its.toArray.isEmpty && Builtin.List.listTooLong (its.toArray.size + its2.toArray.size)) = true := by
    rw [notLongL hsz, Bool.and_false]
    decide
  refine call_meets F.slot_list_extend ⟨_, e, rfl⟩ F.entry_list_extend (F.args_list_extend_2 _ _) (ext_tup l its.toArray n b its2.toArray n2 dd sl hlong (by rw [List.size_toArray]; omega) (by omega)) ⟨e, ho, ?_⟩
  refine ⟨.non, _, I.lset (its' := its ++ its2) hH e (by simp) (r.append r2) ?_, rfl, q⟩
  rw [List.length_append]
  omega
/-- len of a dict, locked or not -/
def rLenK : List V → Hp → VK → Prop := fun xs H Q => ∃ a kvs, xs = [.ref a] ∧ Rd H a (.dK kvs) ∧ Q (.int kvs.length) H
theorem c_lenK : CallR X (.builtin "len") rLenK := by
  intro pins s σ H xs us Q I r h
  obtain ⟨a, kvs, rfl, ha, q⟩ := h
  obtain ⟨u, rfl, ru⟩ := vals1 r
  cases ru
  exact d_len I ha fun t s' I' => ⟨.int kvs.length, H, I', ⟨t, rfl⟩, q⟩
end
end Lx
/-! data in the heap, seen through what is owned -/
namespace Lx
open PySem L2 Evl

/-- the heap without what is owned -/
def Lo (S : List Addr) (H : Hp) : Hp := fun b => if b ∈ S then none else H b
def Dom (S : List Addr) (H : Hp) : Prop := ∀ b, b ∈ S → H b ≠ none
theorem lo_in {S : List Addr} {H : Hp} {b : Addr} (h : b ∈ S) : Lo S H b = none := if_pos h
theorem lo_out {S : List Addr} {H : Hp} {b : Addr} (h : ¬ b ∈ S) : Lo S H b = H b := if_neg h
theorem lo_nil {H : Hp} : Lo [] H = H := by
  funext b
  exact lo_out (by simp)
theorem lo_ex {S : List Addr} {H H' : Hp} (e : Ex H H') : Ex (Lo S H) (Lo S H') := fun a o h => by
  by_cases hm : a ∈ S
  · rw [lo_in hm] at h
    cases h
  · rw [lo_out hm] at h ⊢
    exact e a o h
theorem lo_sub {S : List Addr} {H : Hp} : Ex (Lo S H) H := fun a o h => by
  by_cases hm : a ∈ S
  · rw [lo_in hm] at h
    cases h
  · rw [lo_out hm] at h
    exact h
theorem lo_anti {S T : List Addr} {H : Hp} (hs : ∀ b, b ∈ S → b ∈ T) : Ex (Lo T H) (Lo S H) := fun a o h => by
  by_cases hm : a ∈ T
  · rw [lo_in hm] at h
    cases h
  · rw [lo_out hm] at h
    rw [lo_out (fun z => hm (hs a z))]
    exact h
theorem lo_upd_in {S : List Addr} {H : Hp} {p : Addr} {o : HO} (h : p ∈ S) : Lo S (upd H p o) = Lo S H := by
  funext b
  by_cases hm : b ∈ S
  · rw [lo_in hm, lo_in hm]
  · rw [lo_out hm, lo_out hm, upd_ne (fun z => hm (by rw [z]; exact h))]
theorem lo_upd_out {S : List Addr} {H : Hp} {p : Addr} {o : HO} (h : ¬ p ∈ S) : Lo S (upd H p o) = upd (Lo S H) p o := by
  funext b
  by_cases hb : b = p
  · subst hb
    rw [lo_out h, upd_same, upd_same]
  · by_cases hm : b ∈ S
    · rw [lo_in hm, upd_ne hb, lo_in hm]
    · rw [lo_out hm, upd_ne hb, upd_ne hb, lo_out hm]
theorem Dom.ex {S : List Addr} {H H' : Hp} (d : Dom S H) (e : Ex H H') : Dom S H' := fun b hb n => by
  cases h : H b with
  | none => exact d b hb h
  | some o =>
    rw [e b o h] at n
    cases n
theorem Dom.out {S : List Addr} {H : Hp} {p : Addr} (d : Dom S H) (h : H p = none) : ¬ p ∈ S := fun m => d p m h
theorem Dom.upd {S : List Addr} {H : Hp} {p : Addr} {o : HO} (d : Dom S H) : Dom S (upd H p o) := fun b hb n => by
  by_cases e : b = p
  · subst e
    rw [upd_same] at n
    cases n
  · rw [upd_ne e] at n
    exact d b hb n
theorem Dom.cons {S : List Addr} {H : Hp} {p : Addr} {o : HO} (d : Dom S H) (h : H p = some o) : Dom (p :: S) H := fun b hb n => by
  rcases List.mem_cons.mp hb with e | m
  · rw [e, h] at n
    cases n
  · exact d b m n
theorem Dom.nil {H : Hp} : Dom [] H := fun b hb => by simp at hb
/-- only what is owned changes, all else grows -/
theorem ex_upd {S : List Addr} {H H' : Hp} {p : Addr} {o : HO} (hp : p ∈ S) (e : Ex (Lo S H) (Lo S H')) : Ex (Lo S H) (Lo S (upd H' p o)) := by
  rw [lo_upd_in hp]
  exact e

def keyD : Key → PyData
  | .inl i => .int i
  | .inr x => .str x

mutual
/-- v stands for the datum -/
def Rp (K : PySem.W.Frag) (H : Hp) : PyData → V → Prop
  | .none, v => v = .non
  | .bool b, v => v = .bl b
  | .int i, v => v = .int i
  | .str x, v => v = .str x
  | .list ds, v => ∃ a xs, v = .ref a ∧ SqL K H a xs ∧ RpL K H ds xs
  | .tuple ds, v => ∃ a xs, v = .ref a ∧ SqT K H a xs ∧ RpL K H ds xs
  | .dict ds, v => ∃ a kvs, v = .ref a ∧ Rd H a (.dK kvs) ∧ RpD K H ds kvs
def RpL (K : PySem.W.Frag) (H : Hp) : List PyData → List V → Prop
  | [], xs => xs = []
  | d :: ds, xs => ∃ v vs, xs = v :: vs ∧ Rp K H d v ∧ RpL K H ds vs
def RpD (K : PySem.W.Frag) (H : Hp) : List (PyData × PyData) → List (Key × V) → Prop
  | [], kvs => kvs = []
  | (d, e) :: ds, kvs => ∃ k v r, kvs = (k, v) :: r ∧ d = keyD k ∧ Rp K H e v ∧ RpD K H ds r
end
section
variable {K : PySem.W.Frag} {H H' : Hp}
/-- what can be read in H can be read in H' -/
structure Rx (H H' : Hp) : Prop where
  ls : ∀ a xs, Rd H a (.lst xs) → Rd H' a (.lst xs)
  ts : ∀ a xs, Rd H a (.tup xs) → Rd H' a (.tup xs)
  ks : ∀ a kvs, Rd H a (.dK kvs) → Rd H' a (.dK kvs)
theorem Rx.of {H H' : Hp} (e : Ex H H') : Rx H H' := ⟨fun _ _ h => ex_rd e h, fun _ _ h => ex_rd e h, fun _ _ h => ex_rd e h⟩
theorem Rx.trans {H H1 H2 : Hp} (a : Rx H H1) (b : Rx H1 H2) : Rx H H2 := ⟨fun x y h => b.ls x y (a.ls x y h), fun x y h => b.ts x y (a.ts x y h), fun x y h => b.ks x y (a.ks x y h)⟩
theorem Rx.l {H H' : Hp} (e : Rx H H') {a : Addr} {xs : List V} (h : SqL K H a xs) : SqL K H' a xs := h.elim (fun h => .inl (e.ls a _ h)) .inr
theorem Rx.t {H H' : Hp} (e : Rx H H') {a : Addr} {xs : List V} (h : SqT K H a xs) : SqT K H' a xs := h.elim (fun h => .inl (e.ts a _ h)) .inr
/-- a lock laid on, a lock taken off -/
theorem rx_lock {H : Hp} {p : Addr} {o : Obj} {u : HO} (h : H p = some u) (hu : ∀ o w, u ≠ .frz o w) : Rx H (upd H p (.frz o u)) := by
  have one : ∀ a v, (∀ o w, v ≠ HO.frz o w) → Rd H a v → Rd (upd H p (.frz o u)) a v := fun a v hv r => by
    by_cases e : a = p
    · subst e
      rcases r with r | ⟨o', r⟩
      · rw [h] at r
        cases r
        exact Or.inr ⟨o, upd_same⟩
      · rw [h] at r
        cases r
        exact absurd rfl (hu _ _)
    · rcases r with r | ⟨o', r⟩
      · exact Or.inl (by rw [upd_ne e]; exact r)
      · exact Or.inr ⟨o', by rw [upd_ne e]; exact r⟩
  exact ⟨fun a xs r => one a _ (fun _ _ z => nomatch z) r, fun a xs r => one a _ (fun _ _ z => nomatch z) r, fun a xs r => one a _ (fun _ _ z => nomatch z) r⟩
theorem rx_free {H : Hp} {p : Addr} {o : Obj} {u : HO} (h : H p = some (.frz o u)) : Rx H (upd H p u) := by
  have one : ∀ a v, (∀ o w, v ≠ HO.frz o w) → Rd H a v → Rd (upd H p u) a v := fun a v hv r => by
    by_cases e : a = p
    · subst e
      rcases r with r | ⟨o', r⟩
      · rw [h] at r
        cases r
        exact absurd rfl (hv _ _)
      · rw [h] at r
        cases r
        exact Or.inl upd_same
    · rcases r with r | ⟨o', r⟩
      · exact Or.inl (by rw [upd_ne e]; exact r)
      · exact Or.inr ⟨o', by rw [upd_ne e]; exact r⟩
  exact ⟨fun a xs r => one a _ (fun _ _ z => nomatch z) r, fun a xs r => one a _ (fun _ _ z => nomatch z) r, fun a xs r => one a _ (fun _ _ z => nomatch z) r⟩
mutual
theorem rp_rx (e : Rx H H') : ∀ (d : PyData) (v : V), Rp K H d v → Rp K H' d v
  | .none, _, h => h
  | .bool _, _, h => h
  | .int _, _, h => h
  | .str _, _, h => h
  | .list ds, _, h => by
    obtain ⟨a, xs, hv, hs, hl⟩ := h
    exact ⟨a, xs, hv, e.l hs, rpL_rx e ds xs hl⟩
  | .tuple ds, _, h => by
    obtain ⟨a, xs, hv, hs, hl⟩ := h
    exact ⟨a, xs, hv, e.t hs, rpL_rx e ds xs hl⟩
  | .dict ds, _, h => by
    obtain ⟨a, kvs, hv, hs, hl⟩ := h
    exact ⟨a, kvs, hv, e.ks a _ hs, rpD_rx e ds kvs hl⟩
theorem rpL_rx (e : Rx H H') : ∀ (ds : List PyData) (xs : List V), RpL K H ds xs → RpL K H' ds xs
  | [], _, h => h
  | d :: ds, _, h => by
    obtain ⟨v, vs, hx, hv, hl⟩ := h
    exact ⟨v, vs, hx, rp_rx e d v hv, rpL_rx e ds vs hl⟩
theorem rpD_rx (e : Rx H H') : ∀ (ds : List (PyData × PyData)) (kvs : List (Key × V)), RpD K H ds kvs → RpD K H' ds kvs
  | [], _, h => h
  | (d, d') :: ds, _, h => by
    obtain ⟨k, v, r, hx, hk, hv, hl⟩ := h
    exact ⟨k, v, r, hx, hk, rp_rx e d' v hv, rpD_rx e ds r hl⟩
end
theorem Rp.rx {d : PyData} {v : V} (h : Rp K H d v) (e : Rx H H') : Rp K H' d v := rp_rx e d v h
theorem Rp.ex {d : PyData} {v : V} (h : Rp K H d v) (e : Ex H H') : Rp K H' d v := rp_rx (Rx.of e) d v h
theorem RpL.ex {ds : List PyData} {xs : List V} (h : RpL K H ds xs) (e : Ex H H') : RpL K H' ds xs := rpL_rx (Rx.of e) ds xs h
theorem RpL.rx {ds : List PyData} {xs : List V} (h : RpL K H ds xs) (e : Rx H H') : RpL K H' ds xs := rpL_rx e ds xs h
theorem RpD.ex {ds : List (PyData × PyData)} {kvs : List (Key × V)} (h : RpD K H ds kvs) (e : Ex H H') : RpD K H' ds kvs := rpD_rx (Rx.of e) ds kvs h
theorem RpL.nil : RpL K H [] [] := rfl
theorem RpL.cons {d : PyData} {ds : List PyData} {v : V} {vs : List V} (h : Rp K H d v) (t : RpL K H ds vs) : RpL K H (d :: ds) (v :: vs) := ⟨v, vs, rfl, h, t⟩
theorem RpL.length : ∀ {ds : List PyData} {xs : List V}, RpL K H ds xs → xs.length = ds.length
  | [], _, h => by cases (show _ = [] from h); rfl
  | _ :: ds, _, h => by
    obtain ⟨v, vs, rfl, _, hl⟩ := h
    rw [List.length_cons, List.length_cons, hl.length]
theorem RpL.get : ∀ {ds : List PyData} {xs : List V} {i : Nat} {d : PyData}, RpL K H ds xs → ds[i]? = some d → ∃ v, xs[i]? = some v ∧ Rp K H d v
  | [], _, _, _, _, e => by simp at e
  | _ :: ds, _, 0, d, h, e => by
    obtain ⟨v, vs, rfl, hv, _⟩ := h
    cases (show some _ = some d from e)
    exact ⟨v, rfl, hv⟩
  | _ :: ds, _, i + 1, d, h, e => by
    obtain ⟨v, vs, rfl, _, hl⟩ := h
    exact hl.get (i := i) (d := d) e
theorem RpL.getV : ∀ {ds : List PyData} {xs : List V} {i : Nat} {v : V}, RpL K H ds xs → xs[i]? = some v → ∃ d, ds[i]? = some d ∧ Rp K H d v
  | [], _, i, _, h, e => by cases (show _ = [] from h); simp at e
  | d :: ds, _, 0, v, h, e => by
    obtain ⟨v', vs, rfl, hv, _⟩ := h
    cases (show some v' = some v from e)
    exact ⟨d, rfl, hv⟩
  | _ :: ds, _, i + 1, v, h, e => by
    obtain ⟨v', vs, rfl, _, hl⟩ := h
    exact hl.getV (i := i) (v := v) e
theorem RpL.append : ∀ {ds es : List PyData} {xs ys : List V}, RpL K H ds xs → RpL K H es ys → RpL K H (ds ++ es) (xs ++ ys)
  | [], _, _, _, h, g => by cases (show _ = [] from h); exact g
  | _ :: ds, _, _, _, h, g => by
    obtain ⟨v, vs, rfl, hv, hl⟩ := h
    exact ⟨v, vs ++ _, rfl, hv, hl.append g⟩
theorem RpL.drop : ∀ {ds : List PyData} {xs : List V} (n : Nat), RpL K H ds xs → RpL K H (ds.drop n) (xs.drop n)
  | _, _, 0, h => h
  | [], _, n + 1, h => by cases (show _ = [] from h); exact rfl
  | _ :: ds, _, n + 1, h => by
    obtain ⟨v, vs, rfl, _, hl⟩ := h
    exact hl.drop n
theorem RpL.take : ∀ {ds : List PyData} {xs : List V} (n : Nat), RpL K H ds xs → RpL K H (ds.take n) (xs.take n)
  | _, _, 0, _ => rfl
  | [], _, n + 1, h => by cases (show _ = [] from h); exact rfl
  | _ :: ds, _, n + 1, h => by
    obtain ⟨v, vs, rfl, hv, hl⟩ := h
    exact ⟨v, vs.take n, rfl, hv, hl.take n⟩
theorem RpL.ints : ∀ (ns : List Int), RpL K H (ns.map PyData.int) (ns.map V.int)
  | [] => rfl
  | n :: ns => ⟨_, _, rfl, rfl, RpL.ints ns⟩
theorem Rp.lstD {p : Addr} {xs : List V} {ds : List PyData} (h : H p = some (.lst xs)) (hl : RpL K H ds xs) : Rp K H (.list ds) (.ref p) := ⟨p, xs, rfl, sq_of h, hl⟩
theorem Rp.tupD {p : Addr} {xs : List V} {ds : List PyData} (h : H p = some (.tup xs)) (hl : RpL K H ds xs) : Rp K H (.tuple ds) (.ref p) := ⟨p, xs, rfl, st_of h, hl⟩
end

/-! ### what an expression is worth, as a datum -/
section
variable (K : PySem.W.Frag) (S : List Addr)
def EvD (te : TE) (σ : L2.St) (H : Hp) (d : PyData) : Prop := ∀ H1, Ex H H1 → ∀ Q : VK, (∀ v H2, Ex H1 H2 → Rp K (Lo S H2) d v → Q v H2) → te σ H1 Q
def EvDs (ta : TA) (σ : L2.St) (H : Hp) (ds : List PyData) : Prop := ∀ H1, Ex H H1 → ∀ Q : List V → Hp → Prop, (∀ vs H2, Ex H1 H2 → RpL K (Lo S H2) ds vs → Q vs H2) → ta σ H1 Q
/-- a new list -/
def EvN (te : TE) (σ : L2.St) (H : Hp) (ds : List PyData) : Prop := ∀ H1, Ex H H1 → ∀ Q : VK, (∀ p xs H2, H1 p = none → Ex H1 H2 → H2 p = some (.lst xs) → RpL K (Lo (p :: S) H2) ds xs → Q (.ref p) H2) → te σ H1 Q
end
section
variable {K : PySem.W.Frag} {S : List Addr} {σ : L2.St} {H H' : Hp} {ta tb te tc : TE} {t u : TT} {d : PyData} {ds es : List PyData} {tA : TA}
theorem EvD.mono (e : Ex H H') (h : EvD K S te σ H d) : EvD K S te σ H' d := fun H1 a Q q => h H1 (e.trans a) Q q
theorem EvDs.mono (e : Ex H H') (h : EvDs K S tA σ H ds) : EvDs K S tA σ H' ds := fun H1 a Q q => h H1 (e.trans a) Q q
theorem EvN.mono (e : Ex H H') (h : EvN K S te σ H ds) : EvN K S te σ H' ds := fun H1 a Q q => h H1 (e.trans a) Q q
/-- a new list is a list -/
theorem EvN.dat (hS : Dom S H) (h : EvN K S te σ H ds) : EvD K S te σ H (.list ds) := fun H1 e Q q => h H1 e Q fun p xs H2 hp e2 hx hl =>
  q (.ref p) H2 e2 (Rp.lstD (by rw [lo_out ((hS.ex e).out hp)]; exact hx) (hl.ex (lo_anti fun b hb => List.mem_cons_of_mem _ hb)))
theorem EvD.int {i : Int} (h : EvD K S te σ H (.int i)) : Ev te σ H (.int i) := fun H1 e Q q => h H1 e Q fun v H2 e2 r => by cases (show v = _ from r); exact q H2 e2
theorem EvD.bl {b : Bool} (h : EvD K S te σ H (.bool b)) : Ev te σ H (.bl b) := fun H1 e Q q => h H1 e Q fun v H2 e2 r => by cases (show v = _ from r); exact q H2 e2
theorem EvD.str {x : Str} (h : EvD K S te σ H (.str x)) : Ev te σ H (.str x) := fun H1 e Q q => h H1 e Q fun v H2 e2 r => by cases (show v = _ from r); exact q H2 e2
theorem EvD.non (h : EvD K S te σ H .none) : Ev te σ H .non := fun H1 e Q q => h H1 e Q fun v H2 e2 r => by cases (show v = _ from r); exact q H2 e2
theorem d_of_int {i : Int} (h : Ev te σ H (.int i)) : EvD K S te σ H (.int i) := fun H1 e Q q => h H1 e Q fun H2 e2 => q _ H2 e2 rfl
theorem d_of_bl {b : Bool} (h : Ev te σ H (.bl b)) : EvD K S te σ H (.bool b) := fun H1 e Q q => h H1 e Q fun H2 e2 => q _ H2 e2 rfl
theorem d_of_str {x : Str} (h : Ev te σ H (.str x)) : EvD K S te σ H (.str x) := fun H1 e Q q => h H1 e Q fun H2 e2 => q _ H2 e2 rfl
theorem d_of_non (h : Ev te σ H .non) : EvD K S te σ H .none := fun H1 e Q q => h H1 e Q fun H2 e2 => q _ H2 e2 rfl
theorem d_var {i : Nat} {v : V} (h : σ[i]? = some (some v)) (r : Rp K (Lo S H) d v) : EvD K S (tVar i) σ H d := fun H1 e _ q => ⟨v, h, q v H1 (Ex.refl H1) (r.ex (lo_ex e))⟩
theorem d_int {i : Int} : EvD K S (tC (.int i)) σ H (.int i) := fun H1 _ _ q => q _ H1 (Ex.refl H1) rfl
theorem d_bl {b : Bool} : EvD K S (tC (.bl b)) σ H (.bool b) := fun H1 _ _ q => q _ H1 (Ex.refl H1) rfl
theorem d_str {x : Str} : EvD K S (tC (.str x)) σ H (.str x) := fun H1 _ _ q => q _ H1 (Ex.refl H1) rfl
theorem d_non : EvD K S (tC .non) σ H .none := fun H1 _ _ q => q _ H1 (Ex.refl H1) rfl
theorem a_nil : EvDs K S tNil σ H [] := fun H1 _ _ q => q [] H1 (Ex.refl H1) rfl
theorem a_cons {tr : TA} (h : EvD K S ta σ H d) (hr : EvDs K S tr σ H ds) : EvDs K S (tCons ta tr) σ H (d :: ds) := fun H1 e _ q =>
  h H1 e _ fun v H2 e2 r => hr H2 (e.trans e2) _ fun vs H3 e3 rs => q (v :: vs) H3 (e2.trans e3) ⟨v, vs, rfl, r.ex (lo_ex e3), rs⟩
theorem d_tup (hS : Dom S H) (h : EvDs K S tA σ H ds) (hl : ds.length ≤ 100000) : EvD K S (tTup tA) σ H (.tuple ds) := fun H1 e _ q =>
  h H1 e _ fun vs H2 e2 r => ⟨by rw [r.length]; exact sz_of hl, fun p hp => by
    have ho : ¬ p ∈ S := ((hS.ex e).ex e2).out hp
    refine q (.ref p) _ (e2.trans (Ex.new hp)) (Rp.tupD (xs := vs) (by rw [lo_out ho, upd_same]) (r.ex (lo_ex (Ex.new hp))))⟩
theorem n_lst (hS : Dom S H) (h : EvDs K S tA σ H ds) (hl : ds.length ≤ 100000) : EvN K S (tLst tA) σ H ds := fun H1 e _ q =>
  h H1 e _ fun vs H2 e2 r => ⟨by rw [r.length]; exact sz_of hl, fun p hp => by
    have ho : ¬ p ∈ S := ((hS.ex e).ex e2).out hp
    refine q p vs _ (fresh_back e2 hp) (e2.trans (Ex.new hp)) upd_same ?_
    rw [lo_upd_in (List.mem_cons_self ..)]
    refine r.ex fun a o h => ?_
    have hn : a ≠ p := ne_of_none (lo_sub a o h) hp
    by_cases hm : a ∈ S
    · rw [lo_in hm] at h
      cases h
    · rw [lo_out hm] at h
      rw [lo_out (fun z => (List.mem_cons.mp z).elim hn hm)]
      exact h⟩
end
end Lx
namespace Lx
open PySem L2 Evl
section
variable {K : PySem.W.Frag} {H : Hp} {a b c d : PyData} {vs : List V}
theorem rpL1 (h : RpL K H [a] vs) : ∃ x, vs = [x] ∧ Rp K H a x := by
  obtain ⟨x, r, rfl, hx, h⟩ := h
  cases (show r = [] from h)
  exact ⟨x, rfl, hx⟩
theorem rpL2 (h : RpL K H [a, b] vs) : ∃ x y, vs = [x, y] ∧ Rp K H a x ∧ Rp K H b y := by
  obtain ⟨x, r, rfl, hx, h⟩ := h
  obtain ⟨y, rfl, hy⟩ := rpL1 h
  exact ⟨x, y, rfl, hx, hy⟩
theorem rpL3 (h : RpL K H [a, b, c] vs) : ∃ x y z, vs = [x, y, z] ∧ Rp K H a x ∧ Rp K H b y ∧ Rp K H c z := by
  obtain ⟨x, r, rfl, hx, h⟩ := h
  obtain ⟨y, z, rfl, hy, hz⟩ := rpL2 h
  exact ⟨x, y, z, rfl, hx, hy, hz⟩
theorem rpL4 (h : RpL K H [a, b, c, d] vs) : ∃ x y z u, vs = [x, y, z, u] ∧ Rp K H a x ∧ Rp K H b y ∧ Rp K H c z ∧ Rp K H d u := by
  obtain ⟨x, r, rfl, hx, h⟩ := h
  obtain ⟨y, z, u, rfl, hy, hz, hu⟩ := rpL3 h
  exact ⟨x, y, z, u, rfl, hx, hy, hz, hu⟩
end
end Lx
/-! defs whose callers hold no guard: there repr of data is known -/
namespace Lx
open PySem PySem.Spec PyProof.Rows L2 Evl
section
variable (P : Program) (w : World) (K : PySem.W.Frag) (mg : Str → Option Value) (base : Heap) (CX : CXT)
/-- as a def's promise, entered where no guard is held -/
structure FnG (k : Nat) (f : Addr) (fd : FuncData) (ps : List Str) (sp : Sp) : Prop where
  many : ∀ vs H Q E, sp vs H Q E → vs.length = ps.length
  goes : ∀ (A : Around) (outer : List Env) (s : Shared) (H : Hp) (args : Args) (us : List Value) (vs : List V) (Q : VK) (E : XK),
    A.guards = some [] → Room k A → Env0 P w K mg base A outer s H → BindsTo s fd args (ps.zip us) → Vals vs us → sp vs H Q E → codeAny (model P w) A (.call (.ref f) args) (CR CX outer P w H s Q E) s
end
section
variable {P : Program} {w : World} {K : PySem.W.Frag} {mg : Str → Option Value} {base : Heap} {CX : CXT} {k : Nat} {f : Addr} {fd : FuncData} {ps N : List Str} {sp : Sp} {x qual : Str} {st : Stmt}
theorem FnG.of (F : FnOk P w K mg base CX k f fd ps sp) : FnG P w K mg base CX k f fd ps sp :=
  ⟨F.len, fun A outer s H args us vs Q E _ hr he hb hv hs => F.run A outer s H args us vs Q E hr he hb hv hs⟩
/-- a def of the text, by its body, entered without a guard -/
theorem FnG.mk' (F : Fun K x qual st f fd) (S : FnScope N ps (defScope st)) (len : ∀ vs H Q E, sp vs H Q E → vs.length = ps.length)
    (body : ∀ (cdv : Value) (A : Around) (outer : List Env) (s : Shared) (H : Hp) (vs : List V) (Q : VK) (E : XK), A.guards = some [] → Room k (A.deeper (envOfC qual (defScope st) s.heap.objs.size f cdv)) → sp vs H Q E →
      ∃ t, PSs (cxOf CX P w K mg base N qual (defScope st) f cdv A outer s H E) (defBody st) t ∧ t { nx := fun _ H' => Q .non H', rt := Q } (start N vs) H) : FnG P w K mg base CX (k + 1) f fd ps sp := by
  obtain ⟨oc, od, kV, doc, pm, an, cdv, ct, osl, rfl, lk, hcd⟩ := F.ex
  constructor
  · exact len
  intro A outer s H args us vs Q E hg hr e0 hb r hsp
  have many := len _ _ _ _ hsp
  have keep : ∀ b o, base.get? b = some o → s.heap.get? b = some o := fun b o e => (e0.bs b o e).1
  have kinds : ∀ y, y ∈ ps.zip us → (defScope st).names.lookup y.1 = some .local ∨ ((defScope st).names.lookup y.1 = some .cell ∧ ((cellsFrom (s.heap.objs.size + 1) (defScope st).names []).lookup y.1).isSome = true) := by
    rintro ⟨y, z⟩ hy
    rcases S.par y (List.of_mem_zip hy).1 with q | q
    · exact Or.inl q
    · exact Or.inr ⟨q, PySem.W.cellsFrom_some _ _ _ (Or.inl q)⟩
  refine codeAny_call_function hr.depth ((e0.mod.kin.keeps keep) _ _ lk) rfl S.co S.gen rfl (PySem.W.codeRec_of (e0.mod.kin.keeps keep) hcd) (hb _ _ _ _ ?_)
  refine wpAny_newFunctionEnv_cells S.kind kinds fun env he s1 ic => ?_
  subst he
  constructor
  · exact (e0.mod.nolimit.keeps keep).keeps ic.toInCall.keep
  apply codeAny_func
  obtain ⟨t, ht, hq⟩ := body cdv A outer s H vs Q E hg (hr.deeper _) hsp
  have I : Inv (cxOf CX P w K mg base N qual (defScope st) f cdv A outer s H E) [] (start N vs) H s1 := inv_start S hr.hd e0 many r ic
  refine wpAny_mono (ht.run [] s1 (start N vs) H _ I hq) ?_ (fun _ _ z => z)
  intro fl s' hs
  cases fl with
  | next =>
    obtain ⟨σ', H', J, q⟩ := hs
    exact ⟨V.non, H', J.os, J.bare, J.base, J.hok, rfl, q⟩
  | ret u =>
    obtain ⟨v, σ', H', J, rv, q⟩ := hs
    exact ⟨v, H', J.os, J.bare, J.base, J.hok, rv, q⟩
  | brk => exact False.elim (let ⟨_, _, _, q⟩ := hs; q)
  | cont => exact False.elim (let ⟨_, _, _, q⟩ := hs; q)
/-- nothing is raised out of it -/
theorem FnG.mk0 (F : Fun K x qual st f fd) (S : FnScope N ps (defScope st)) (len : ∀ vs H Q E, sp vs H Q E → vs.length = ps.length)
    (body : ∀ (cdv : Value) (A : Around) (outer : List Env) (s : Shared) (H : Hp) (vs : List V) (Q : VK) (E : XK), A.guards = some [] → Room k (A.deeper (envOfC qual (defScope st) s.heap.objs.size f cdv)) → sp vs H Q E →
      ∃ t, PSs (cxOf CX P w K mg base N qual (defScope st) f cdv A outer s H E).nox (defBody st) t ∧ t { nx := fun _ H' => Q .non H', rt := Q } (start N vs) H) : FnG P w K mg base CX (k + 1) f fd ps sp :=
  FnG.mk' F S len fun cdv A outer s H vs Q E hg hr h => by
    obtain ⟨t, ht, q⟩ := body cdv A outer s H vs Q E hg hr h
    exact ⟨t, ht.nox, q⟩
end

section
variable {X : Cx} {CX : CXT} {k : Nat} {f : Addr} {fd : FuncData} {ps ks : List Str} {sp : Sp} {dvs : List V} {ds : List Value} {E : XK} {x : Str} {p pos : Pos} {e : Expr} {es : List Expr} {t tk : TA} {kws : List Keyword}
/-- f(e, ..), f entered without a guard -/
theorem pe_callG (F : FnG X.prog X.w X.K X.mg X.base CX k f fd ps sp) (gd : X.A.guards = some []) (hr : Room k X.A) (hg : Gl X x) (hm : X.mg x = some (.ref f)) (hk : PySem.W.keepIn X.K (.ref f) = true) (hb : Binds X.K fd ps ds) (hd : Vals dvs ds) (hx : Passes CX X E)
    (ha : PA X (e :: es) t) (hdb : (x == ("__debug__" : Str)) = false := by decide) (he : starEach (e :: es) X.env = (false, eval e X.env) :: starEach es X.env := by rfl) (hpl : (backTo pos (starEach es X.env)).any (·.1) = false := by rfl) :
    PE X (.Call (.Name x p) (e :: es) [] pos) (tCall sp dvs E t) := by
  constructor
  intro pins s σ H Q I h
  refine wpAny_Call_Name_kw (ld_glob I hg hm ?_ hdb)
  refine PySem.W.callWith_K (h₀ := X.base) I.ok.mod.kin hk ?_ he hpl
  refine thn (ha.run pos pins s σ H _ I h) fun us s1 z => ?_
  obtain ⟨vs, H1, I1, r, q⟩ := z
  constructor
  · exact I1.kIn
  have r2 : Vals (vs ++ dvs) (us ++ ds) := r.append hd
  have hl : (us ++ ds).length = ps.length := r2.length.symm.trans (F.many _ _ _ _ q)
  refine wpAny_call (codeAny_mono (F.goes X.A X.stack s1 H1 ⟨us, []⟩ (us ++ ds) (vs ++ dvs) Q E gd hr I1.env0 (hb s1 us I1.kIn hl) r2 q) ?_)
  intro res s' hq
  match res, hq with
  | .error er, hq => exact hx pins σ H1 s1 er s' I1 hq
  | .ok (.ret u), hq => exact I1.after hq
variable {g : List Value → List Value → List Value} {gV : List V → List V → List V}
/-- f(k = v, ..), nothing by position -/
theorem pe_callK0 (F : FnOk X.prog X.w X.K X.mg X.base CX k f fd ps sp) (hr : Room k X.A) (hg : Gl X x) (hm : X.mg x = some (.ref f)) (hk : PySem.W.keepIn X.K (.ref f) = true) (hb : KBinds X.K fd ps ks g gV) (hx : Passes CX X E)
    (hkw : PK X kws tk) (hall : (backToKw pos (keywordEach kws X.env)).all (·.1.isSome) = true := by rfl) (hks : (backToKw pos (keywordEach kws X.env)).filterMap (·.1) = ks := by rfl)
    (hdb : (x == ("__debug__" : Str)) = false := by decide) (hpl : ((backTo pos (starEach [] X.env)).any (·.1) || (backToKw pos (keywordEach kws X.env)).any (·.1.isNone)) = false := by rfl) :
    PE X (.Call (.Name x p) [] kws pos) (tCallK sp gV E tNil tk) := by
  constructor
  intro pins s σ H Q I h
  refine wpAny_Call_Name_kw (ld_glob I hg hm ?_ hdb)
  refine PySem.W.callWith_KW0 (h₀ := X.base) I.ok.mod.kin hk hall ?_ hpl
  refine thn (hkw.run pos pins s σ H _ I h) fun ws s2 z => ?_
  obtain ⟨zs, H2, I2, rz, q2⟩ := z
  constructor
  · exact I2.kIn
  rw [hks]
  exact run_fnk (us := []) (vs := []) F hr hb hx I2 .nil rz q2
end

/-! ### data read out of the heap; repr of it -/
mutual
def noDict : PyData → Bool
  | .list ds => noDictL ds
  | .tuple ds => noDictL ds
  | .dict _ => false
  | _ => true
def noDictL : List PyData → Bool
  | [] => true
  | d :: ds => noDict d && noDictL ds
end
section
variable {K : PySem.W.Frag} {H : Hp}
mutual
theorem rp_dp : ∀ (d : PyData) (v : V), noDict d = true → Rp K H d v → Dp K H v d
  | .none, v, _, h => by cases (show v = _ from h); exact .non
  | .bool b, v, _, h => by cases (show v = _ from h); exact .bl b
  | .int i, v, _, h => by cases (show v = _ from h); exact .int i
  | .str x, v, _, h => by cases (show v = _ from h); exact .str x
  | .list ds, _, n, h => by
    obtain ⟨a, xs, rfl, hs, hl⟩ := h
    exact .lst hs (rpL_dp ds xs n hl)
  | .tuple ds, _, n, h => by
    obtain ⟨a, xs, rfl, hs, hl⟩ := h
    exact .tup hs (rpL_dp ds xs n hl)
  | .dict _, _, n, _ => by cases n
theorem rpL_dp : ∀ (ds : List PyData) (xs : List V), noDictL ds = true → RpL K H ds xs → DpAll K H xs ds
  | [], xs, _, h => by cases (show xs = _ from h); exact .nil
  | d :: ds, _, n, h => by
    obtain ⟨v, vs, rfl, hv, hl⟩ := h
    have n2 : (noDict d && noDictL ds) = true := n
    obtain ⟨n3, n4⟩ := Bool.and_eq_true_iff.mp n2
    exact .cons (rp_dp d v n3 hv) (rpL_dp ds vs n4 hl)
end
mutual
theorem noDict_has : ∀ d : PyData, noDict d = true → d.hasDict = false
  | .none, _ => rfl
  | .bool _, _ => rfl
  | .int _, _ => rfl
  | .str _, _ => rfl
  | .list ds, n => noDictL_has ds n
  | .tuple ds, n => noDictL_has ds n
  | .dict _, n => by cases n
theorem noDictL_has : ∀ ds : List PyData, noDictL ds = true → PyData.hasDictAll ds = false
  | [], _ => rfl
  | d :: ds, n => by
    have n2 : (noDict d && noDictL ds) = true := n
    obtain ⟨n3, n4⟩ := Bool.and_eq_true_iff.mp n2
    show (d.hasDict || PyData.hasDictAll ds) = false
    rw [noDict_has d n3, noDictL_has ds n4]
    all_goals rfl
end
end
/-- repr of a list or tuple of data without dicts -/
def rRepr (K : PySem.W.Frag) : List V → Hp → VK → Prop := fun vs H Q => ∃ a d, vs = [.ref a] ∧ Rp K H d (.ref a) ∧ noDict d = true ∧ d.showable = true ∧ d.shown.length ≤ sizeLine ∧ d.depth ≤ 60 ∧ Q (.str d.shown) H
theorem call_repr {X : Cx} (gd : X.A.guards = some []) (hu : X.A.units + 64 < cLine) : CallR X (.builtin "repr") (rRepr X.K) := by
  intro pins s σ H vs us Q I r h
  obtain ⟨a, d, rfl, hd, nd, hs, hz, hp, q⟩ := h
  rw [Vals.ref1 r]
  obtain ⟨as, hr⟩ := Dp.reads I d _ (.ref a) (rp_dp d _ nd hd) rfl
  refine PySem.repr_of_reads' hr hs (fun z => by rw [noDict_has d nd] at z; cases z) gd (by omega) (fun b o e => e) (fun h' u tk hk => ?_) hz
  exact ⟨.str d.shown, H, I.kept hk, ⟨u, rfl⟩, q⟩

/-! ### list.extend by a tuple -/
end Lx
/-! operations on values -/
noncomputable section
namespace Vz
open PySem PySem.Spec PyProof.Rows L2

/-- append, strictly -/
def appS {α β : Type} (xs ys : List α) (k : List α → β) : β := List.rec (motive := fun _ => (List α → β) → β) (fun k => k ys) (fun x _ ih k => ih fun l => k (x :: l)) xs k
theorem appS_eq {α β : Type} (ys : List α) : ∀ (xs : List α) (k : List α → β), appS xs ys k = k (xs ++ ys)
  | [], k => rfl
  | x :: xs, k => (appS_eq ys xs fun l => k (x :: l))
def lstAt (h : Hs) (n : Nat) : Option (List W) := match h.get n with
  | some (.lst ws) => some ws
  | _ => none
def sz (n : Nat) : Bool := Nat.ble n 100000
section
variable {C : Cn} {m : List Addr} {H : Hp} {h : Hs} {X : Cx} {E : XK}
theorem lstAt_get {n : Nat} {ws : List W} (e : lstAt h n = some ws) : h.get n = some (.lst ws) := by
  unfold lstAt at e
  split at e
  · rename_i q
    cases e
    exact q
  · cases e
theorem lst_of {n : Nat} {ws : List W} {v : V} (r : C.rh m h H) (e : lstAt h n = some ws) (rv : RV m H (.loc n) v) : ∃ a xs, v = .ref a ∧ m[n]? = some a ∧ H a = some (.lst xs) ∧ RVs m H ws xs := by
  obtain ⟨a, ha, rfl⟩ := rv
  obtain ⟨b, hb, xs, q, rs⟩ := r.at (lstAt_get e)
  rw [ha] at hb
  cases hb
  exact ⟨a, xs, rfl, ha, q, rs⟩
/-- a value that needs no heap -/
theorem post_ok {w : W} {v : V} {Q : VK} (r : C.rh m h H) (p : Post C m H E (fun w m' H' => ∀ v, RV m' H' w v → Q v H') (.ok w h)) (rv : RV m H w v) : Q v H := p m H Step.refl r v rv
/-- a new tuple -/
theorem post_tup {ws : List W} {xs : List V} {Q : VK} (r : C.rh m h H) (p : Post C m H E (fun w m' H' => ∀ v, RV m' H' w v → Q v H') (.ok (.tup ws) h)) (rv : RVs m H ws xs) : ∀ q, H q = none → Q (.ref q) (upd H q (.tup xs)) := fun q hq =>
  p m _ (step_lay hq) (r.lay hq) _ ⟨q, xs, rfl, upd_same, (step_lay hq).rvs r _ _ rv⟩

/-! ### + -/
def opAdd : W → W → Hs → Out W
  | .int i, .int j, h => forceInt (i + j) fun k => .ok (.int k) h
  | .tup a, .tup b, h => cond (sz (a.length + b.length)) (appS a b fun c => .ok (.tup c) h) .bad
  | .loc a, .loc b, h => orBad (lstAt h a) fun a => orBad (lstAt h b) fun b => cond (sz (a.length + b.length)) (appS a b fun c => orBad (h.new (.lst c)) fun h2 => .ok (.loc h.n) h2) .bad
  | .str a, .str b, h => cond (sz (a.length + b.length)) (appS a b fun c => .ok (.str c) h) .bad
  | _, _, _ => .bad
theorem orBad_of {α β : Type} {m : List Addr} {H : Hp} {Q : β → List Addr → Hp → Prop} {x : Option α} {f : α → Out β} (p : Post C m H E Q (orBad x f)) : ∃ a, x = some a ∧ Post C m H E Q (f a) := by
  cases x with
  | none => exact p.elim
  | some a => exact ⟨a, rfl, p⟩
theorem cond_of {β : Type} {m : List Addr} {H : Hp} {Q : β → List Addr → Hp → Prop} {b : Bool} {f : Out β} (p : Post C m H E Q (cond b f .bad)) : b = true ∧ Post C m H E Q f := by
  cases b with
  | false => exact p.elim
  | true => exact ⟨rfl, p⟩
theorem sz_le {n : Nat} (h : sz n = true) : n ≤ sizeLine := ble_sz h
def rAddS : R2 := fun x y H Q => ∃ i j, x = .str i ∧ y = .str j ∧ i.length + j.length ≤ sizeLine ∧ Q (.str (i ++ j)) H
def rAddN : R2 := rI0 fun i j => V.int (i + j)
def rAdd (K : PySem.W.Frag) : R2 := fun x y H Q => rAddN x y H Q ∨ rCatA K x y H Q ∨ rCat x y H Q ∨ rAddS x y H Q
theorem str_app (a b : List Nat) : (⟨a.toArray⟩ : Str) ++ ⟨b.toArray⟩ = ⟨(a ++ b).toArray⟩ := by
  show Str.append _ _ = _
  unfold Str.append
  simp
theorem op_addD (hK : X.K = C.K) : OpR X (binaryOp .Add) (rAdd C.K) := by
  rw [← hK]
  exact op_add.or (op_catA.or (op_cat.or op_add_str))
theorem RVs.nil_iff {ws : List W} {xs : List V} (r : RVs m H ws xs) : xs = [] ↔ ws = [] := by
  have e := r.length
  rw [← List.length_eq_zero_iff, ← List.length_eq_zero_iff, e]
theorem od_add : OpD C E (rAdd C.K) opAdd := by
  intro m h H x y vx vy Q r rx ry p
  match x, y, p with
  | .int i, .int j, p =>
    have p : Post C m H E _ (forceInt (i + j) fun k => Out.ok (W.int k) h) := p
    rw [forceInt_eq] at p
    exact .inl ⟨i, j, rx, ry, post_ok r p rfl⟩
  | .tup a, .tup b, p =>
    obtain ⟨s, p⟩ := cond_of p
    rw [appS_eq] at p
    obtain ⟨a1, xs, rfl, q1, r1⟩ := rx
    obtain ⟨b1, ys, rfl, q2, r2⟩ := ry
    refine .inr (.inl ⟨a1, b1, xs, ys, rfl, rfl, SqT.of q1, SqT.of q2, by rw [← r1.length, ← r2.length]; exact sz_le s, fun z => ?_, fun _ z => ?_, fun _ _ => post_tup r p (r1.append r2)⟩)
    · have za := r1.nil_iff.mp z
      subst za
      exact post_ok r p ⟨b1, ys, rfl, q2, r2⟩
    · have zb := r2.nil_iff.mp z
      subst zb
      rw [List.append_nil] at p
      exact post_ok r p ⟨a1, xs, rfl, q1, r1⟩
  | .loc a, .loc b, p =>
    obtain ⟨a', ea, p⟩ := orBad_of p
    obtain ⟨b', eb, p⟩ := orBad_of p
    obtain ⟨s, p⟩ := cond_of p
    rw [appS_eq] at p
    obtain ⟨a1, xs, rfl, _, q1, r1⟩ := lst_of r ea rx
    obtain ⟨b1, ys, rfl, _, q2, r2⟩ := lst_of r eb ry
    exact .inr (.inr (.inl ⟨a1, b1, xs, ys, rfl, rfl, q1, q2, by rw [← r1.length, ← r2.length]; exact sz_le s, new_lst r (r1.append r2) p⟩))
  | .str a, .str b, p =>
    obtain ⟨s, p⟩ := cond_of p
    rw [appS_eq] at p
    refine .inr (.inr (.inr ⟨_, _, rx, ry, ?_, ?_⟩))
    · simpa [Str.length] using sz_le s
    · rw [str_app]
      exact post_ok r p rfl

/-! ### ints -/
def oI (g : Int → Int → Option Int) : W → W → Hs → Out W
  | .int i, .int j, h => orBad (g i j) fun k => forceInt k fun k => .ok (.int k) h
  | _, _, _ => .bad
/-- an operation on ints: where it answers, the rule's condition holds -/
theorem od_I {c : Int → Int → Prop} {f : Int → Int → Int} {g : Int → Int → Option Int} (hg : ∀ i j k, g i j = some k → c i j ∧ k = f i j) : OpD C E (rI c fun i j => V.int (f i j)) (oI g) := by
  intro m h H x y vx vy Q r rx ry p
  match x, y, p with
  | .int i, .int j, p =>
    obtain ⟨k, e, p⟩ := orBad_of p
    rw [forceInt_eq] at p
    obtain ⟨c1, rfl⟩ := hg i j k e
    exact ⟨i, j, rx, ry, c1, post_ok r p rfl⟩
def gSubI (i j : Int) : Option Int := some (i - j)
def gMulI (i j : Int) : Option Int := cond (Nat.blt i.natAbs (2 ^ 64) || Nat.blt j.natAbs (2 ^ 64)) (some (i * j)) none
def gDivI : Int → Int → Option Int
  | i, .ofNat (j + 1) => cond (Nat.blt j 1073741823) (some (i / .ofNat (j + 1))) none
  | _, _ => none
def gModI : Int → Int → Option Int
  | i, .ofNat (j + 1) => some (i % .ofNat (j + 1))
  | _, _ => none
def gPowI : Int → Int → Option Int
  | .ofNat i, .ofNat j => cond (Nat.ble j 1000000 && Nat.blt i (2 ^ 64)) (some (.ofNat (i ^ j))) none
  | _, _ => none
theorem blt_lt {a b : Nat} (h : Nat.blt a b = true) : a < b := by
  unfold Nat.blt at h
  exact Nat.le_of_ble_eq_true h
theorem op_subD : OpR X (binaryOp .Sub) (rI (fun _ _ => True) fun i j => V.int (i - j)) := opI (C := fun _ _ => True) (g := fun i j => i - j) fun _ _ _ _ _ _ _ _ q => sub_int q
theorem od_sub : OpD C E (rI (fun _ _ => True) fun i j => V.int (i - j)) (oI gSubI) := od_I fun i j k e => ⟨trivial, (Option.some.inj e).symm⟩
theorem od_mulI : OpD C E (rI CMul fun i j => V.int (i * j)) (oI gMulI) := od_I fun i j k e => by
  unfold gMulI at e
  cases hb : (Nat.blt i.natAbs (2 ^ 64) || Nat.blt j.natAbs (2 ^ 64)) with
  | false => rw [hb] at e; cases e
  | true =>
    rw [hb] at e
    refine ⟨?_, (Option.some.inj e).symm⟩
    rcases Bool.or_eq_true_iff.mp hb with z | z
    · have := blt_lt z
      exact .inl (by omega)
    · have := blt_lt z
      exact .inr (by omega)
theorem od_div : OpD C E (rI CDiv fun i j => V.int (i / j)) (oI gDivI) := od_I fun i j k e => by
  match j, e with
  | .ofNat (j + 1), e =>
    have e : cond (Nat.blt j 1073741823) (some (i / .ofNat (j + 1))) none = some k := e
    cases hb : Nat.blt j 1073741823 with
    | false => rw [hb] at e; cases e
    | true =>
      rw [hb] at e
      have := blt_lt hb
      refine ⟨⟨?_, ?_⟩, (Option.some.inj e).symm⟩
      · show (0 : Int) < ((j + 1 : Nat) : Int)
        omega
      · show ((j + 1 : Nat) : Int) < 1073741824
        omega
theorem od_mod : OpD C E (rI (fun _ j => 0 < j) fun i j => V.int (i % j)) (oI gModI) := od_I fun i j k e => by
  match j, e with
  | .ofNat (j + 1), e =>
    refine ⟨?_, (Option.some.inj e).symm⟩
    show (0 : Int) < ((j + 1 : Nat) : Int)
    omega
theorem od_pow : OpD C E (rI CPow fun i j => V.int (i ^ j.toNat)) (oI gPowI) := od_I fun i j k e => by
  match i, j, e with
  | .ofNat i, .ofNat j, e =>
    have e : cond (Nat.ble j 1000000 && Nat.blt i (2 ^ 64)) (some (Int.ofNat (i ^ j))) none = some k := e
    cases hb : (Nat.ble j 1000000 && Nat.blt i (2 ^ 64)) with
    | false => rw [hb] at e; cases e
    | true =>
      rw [hb] at e
      obtain ⟨z1, z2⟩ := Bool.and_eq_true_iff.mp hb
      have h1 := Nat.le_of_ble_eq_true z1
      have h2 := blt_lt z2
      refine ⟨⟨?_, ?_, ?_⟩, ?_⟩
      · show (0 : Int) ≤ (j : Int)
        omega
      · show (j : Int) ≤ 1000000
        omega
      · exact h2
      · rw [← Option.some.inj e]
        show ((i ^ j : Nat) : Int) = (i : Int) ^ (Int.toNat (j : Int))
        rw [Int.toNat_natCast]
        simp
/-- lists times a number -/
def opMul : W → W → Hs → Out W
  | .loc a, .int (.ofNat k), h => orBad (lstAt h a) fun ws => cond (Nat.blt k 100000 && sz (ws.length * k)) (orBad (h.new (.lst (List.replicate k ws).flatten)) fun h2 => .ok (.loc h.n) h2) .bad
  | x, y, h => oI gMulI x y h
def rMul : R2 := fun x y H Q => rI CMul (fun i j => V.int (i * j)) x y H Q ∨ rRep x y H Q
theorem op_mulD : OpR X (binaryOp .Mult) rMul := op_mul.or op_rep
theorem RVs.rep {ws : List W} {xs : List V} (r : RVs m H ws xs) : ∀ k : Nat, RVs m H (List.replicate k ws).flatten (List.replicate k xs).flatten
  | 0 => rfl
  | k + 1 => by
    rw [List.replicate_succ, List.replicate_succ, List.flatten_cons, List.flatten_cons]
    exact r.append (RVs.rep r k)
theorem od_mul : OpD C E rMul opMul := by
  intro m h H x y vx vy Q r rx ry p
  have other : Post C m H E (fun w m' H' => ∀ v, RV m' H' w v → Q v H') (oI gMulI x y h) → rMul vx vy H Q := fun p => .inl (od_mulI m h H x y vx vy Q r rx ry p)
  match x, y, p with
  | .loc a, .int (.ofNat k), p =>
    obtain ⟨ws, e, p⟩ := orBad_of p
    obtain ⟨s, p⟩ := cond_of p
    obtain ⟨s1, s2⟩ := Bool.and_eq_true_iff.mp s
    have h1 := blt_lt s1
    have h2 := sz_le s2
    obtain ⟨a1, xs, rfl, _, q1, r1⟩ := lst_of r e rx
    cases ry
    refine .inr ⟨a1, (k : Int), xs, rfl, rfl, q1, by omega, by omega, ?_, ?_⟩
    · rw [Int.toNat_natCast, ← r1.length]
      exact h2
    · rw [Int.toNat_natCast]
      exact new_lst r (r1.rep k) p
  | .int i, .int j, p => exact other p
  | .loc a, .int (.negSucc k), p => exact other p
end
end Vz
end
/-! data read out of the heap; equality, order, dicts, subscripts -/
noncomputable section
namespace Vz
open PySem PySem.Spec PyProof.Rows L2

def mapO {α β : Type} (f : α → Option β) : List α → Option (List β)
  | [] => some []
  | x :: xs => match f x with
    | some y => match mapO f xs with
      | some ys => some (y :: ys)
      | none => none
    | none => none
/-- the datum that a value is, to a depth -/
def rdD : Nat → Hs → W → Option PyData
  | 0, _, _ => none
  | n + 1, h, w => match w with
    | .non => some .none
    | .bl b => some (.bool b)
    | .int i => some (.int i)
    | .str x => cond (x.all fun c => Nat.blt c 1114112) (some (.str ⟨x.toArray⟩)) none
    | .tup ws => match mapO (rdD n h) ws with
      | some ds => some (.tuple ds)
      | none => none
    | .loc k => match lstAt h k with
      | some ws => match mapO (rdD n h) ws with
        | some ds => some (.list ds)
        | none => none
      | none => none
    | .rep _ => none
section
variable {C : Cn} {m : List Addr} {H : Hp} {h : Hs} {X : Cx} {E : XK}
theorem mapO_cons {α β : Type} {f : α → Option β} {x : α} {xs : List α} {l : List β} (e : mapO f (x :: xs) = some l) : ∃ y ys, l = y :: ys ∧ f x = some y ∧ mapO f xs = some ys := by
  unfold mapO at e
  cases h1 : f x with
  | none => rw [h1] at e; cases e
  | some y =>
    rw [h1] at e
    cases h2 : mapO f xs with
    | none => rw [h2] at e; cases e
    | some ys =>
      rw [h2] at e
      cases e
      exact ⟨y, ys, rfl, rfl, rfl⟩
theorem rdDs {n : Nat} {K : PySem.W.Frag} (ih : ∀ w d v, rdD n h w = some d → RV m H w v → Dp K H v d ∧ d.canLay0 = true ∧ d.depth ≤ n) :
    ∀ (ws : List W) (ds : List PyData) (xs : List V), mapO (rdD n h) ws = some ds → RVs m H ws xs → DpAll K H xs ds ∧ PyData.canLayAll0 ds = true ∧ PyData.depthAll ds ≤ n
  | [], ds, xs, e, r => by
    cases e
    cases r
    refine ⟨.nil, by simp [PyData.canLayAll0], by simp [PyData.depthAll]⟩
  | w :: ws, ds, _, e, r => by
    obtain ⟨d, ds', rfl, e1, e2⟩ := mapO_cons e
    obtain ⟨v, vs, rfl, r1, r2⟩ := r
    obtain ⟨a1, a2, a3⟩ := ih w d v e1 r1
    obtain ⟨b1, b2, b3⟩ := rdDs ih ws ds' vs e2 r2
    refine ⟨.cons a1 b1, ?_, ?_⟩
    · simp [PyData.canLayAll0, a2, b2]
    · simp only [PyData.depthAll]
      omega
theorem rdD_ok (r : C.rh m h H) (K : PySem.W.Frag) : ∀ (n : Nat) (w : W) (d : PyData) (v : V), rdD n h w = some d → RV m H w v → Dp K H v d ∧ d.canLay0 = true ∧ d.depth ≤ n
  | 0, _, _, _, e, _ => by cases e
  | n + 1, .non, _, _, e, q => by cases e; cases q; exact ⟨.non, by simp [PyData.canLay0], by simp [PyData.depth]⟩
  | n + 1, .bl b, _, _, e, q => by cases e; cases q; exact ⟨.bl b, by simp [PyData.canLay0], by simp [PyData.depth]⟩
  | n + 1, .int b, _, _, e, q => by cases e; cases q; exact ⟨.int b, by simp [PyData.canLay0], by simp [PyData.depth]⟩
  | n + 1, .str x, d, _, e, q => by
    have e : cond (x.all fun c => Nat.blt c 1114112) (some (PyData.str ⟨x.toArray⟩)) none = some d := e
    cases hb : (x.all fun c => Nat.blt c 1114112) with
    | false => rw [hb] at e; cases e
    | true =>
      rw [hb] at e
      cases e
      cases q
      refine ⟨.str _, ?_, by simp [PyData.depth]⟩
      simp only [PyData.canLay0, PyData.strOk]
      rw [List.all_eq_true] at hb
      simp only [List.all_toArray', List.all_eq_true, decide_eq_true_eq]
      intro c hc
      exact blt_lt (hb c hc)
  | n + 1, .tup ws, d, _, e, q => by
    have e : (match mapO (rdD n h) ws with | some ds => some (PyData.tuple ds) | none => none) = some d := e
    cases h1 : mapO (rdD n h) ws with
    | none => rw [h1] at e; cases e
    | some ds =>
      rw [h1] at e
      cases e
      obtain ⟨a, xs, rfl, q1, q2⟩ := q
      obtain ⟨b1, b2, b3⟩ := rdDs (rdD_ok r K n) ws ds xs h1 q2
      refine ⟨.tup (SqT.of q1) b1, by simp [PyData.canLay0, b2], by simp only [PyData.depth]; omega⟩
  | n + 1, .loc k, d, _, e, q => by
    have e : (match lstAt h k with | some ws => (match mapO (rdD n h) ws with | some ds => some (PyData.list ds) | none => none) | none => none) = some d := e
    cases h0 : lstAt h k with
    | none => rw [h0] at e; cases e
    | some ws =>
      rw [h0] at e
      cases h1 : mapO (rdD n h) ws with
      | none => simp only [h1] at e; cases e
      | some ds =>
        simp only [h1] at e
        cases e
        obtain ⟨a, xs, rfl, _, q1, q2⟩ := lst_of r h0 q
        obtain ⟨b1, b2, b3⟩ := rdDs (rdD_ok r K n) ws ds xs h1 q2
        refine ⟨.lst (SqL.of q1) b1, by simp [PyData.canLay0, b2], by simp only [PyData.depth]; omega⟩
  | n + 1, .rep _, _, _, e, _ => by cases e

/-! ### == -/
def eqNs (a b : List Nat) : Bool := List.rec (motive := fun _ => List Nat → Bool) (fun b => List.rec true (fun _ _ _ => false) b) (fun x _ ih b => List.rec false (fun y ys _ => cond (Nat.beq x y) (ih ys) false) b) a b
theorem eqNs_eq : ∀ (a b : List Nat), eqNs a b = decide (a = b)
  | [], [] => rfl
  | [], _ :: _ => by simp [eqNs]
  | _ :: _, [] => by simp [eqNs]
  | x :: a, y :: b => by
    show cond (Nat.beq x y) (eqNs a b) false = _
    rw [eqNs_eq a b]
    cases hb : Nat.beq x y with
    | true =>
      have e := Nat.eq_of_beq_eq_true hb
      subst e
      simp
    | false =>
      have e := Nat.ne_of_beq_eq_false hb
      simp [e]
def eqI (i j : Int) : Bool := Int.rec (fun a => Int.rec (fun b => Nat.beq a b) (fun _ => false) j) (fun a => Int.rec (fun _ => false) (fun b => Nat.beq a b) j) i
theorem eqI_eq (i j : Int) : eqI i j = decide (i = j) := by
  cases i with
  | ofNat a =>
    cases j with
    | ofNat b =>
      show Nat.beq a b = _
      cases hb : Nat.beq a b with
      | true =>
        have e := Nat.eq_of_beq_eq_true hb
        subst e
        simp
      | false =>
        have e := Nat.ne_of_beq_eq_false hb
        exact (decide_eq_false fun z => e (Int.ofNat.inj z)).symm
    | negSucc b => exact (decide_eq_false fun z => nomatch z).symm
  | negSucc a =>
    cases j with
    | ofNat b => exact (decide_eq_false fun z => nomatch z).symm
    | negSucc b =>
      show Nat.beq a b = _
      cases hb : Nat.beq a b with
      | true =>
        have e := Nat.eq_of_beq_eq_true hb
        subst e
        simp
      | false =>
        have e := Nat.ne_of_beq_eq_false hb
        simp [e]
mutual
/-- the same datum, to the sign -/
def samD : PyData → PyData → Bool
  | .none, .none => true
  | .bool a, .bool b => a == b
  | .int i, .int j => eqI i j
  | .str x, .str y => eqNs x.cps.toList y.cps.toList
  | .list xs, .list ys => samDs xs ys
  | .tuple xs, .tuple ys => samDs xs ys
  | .dict xs, .dict ys => samDp xs ys
  | _, _ => false
def samDs : List PyData → List PyData → Bool
  | [], [] => true
  | x :: xs, y :: ys => cond (samD x y) (samDs xs ys) false
  | _, _ => false
def samDp : List (PyData × PyData) → List (PyData × PyData) → Bool
  | [], [] => true
  | (a, b) :: xs, (c, d) :: ys => cond (samD a c) (cond (samD b d) (samDp xs ys) false) false
  | _, _ => false
end
theorem cond_t {b : Bool} {x : Bool} (h : cond b x false = true) : b = true ∧ x = true := by
  cases b with
  | false => cases h
  | true => exact ⟨rfl, h⟩
mutual
theorem samD_eq : ∀ (d e : PyData), samD d e = true → d = e
  | .none, .none, _ => rfl
  | .bool a, .bool b, h => by
    have h : (a == b) = true := by simpa [samD] using h
    rw [eq_of_beq h]
  | .int i, .int j, h => by
    have h : eqI i j = true := by simpa [samD] using h
    rw [eqI_eq] at h
    rw [of_decide_eq_true h]
  | .str x, .str y, h => by
    have h : eqNs x.cps.toList y.cps.toList = true := by simpa [samD] using h
    rw [eqNs_eq] at h
    rw [PySem.W.str_of_cps (of_decide_eq_true h)]
  | .list xs, .list ys, h => by rw [samDs_eq xs ys (by simpa [samD] using h)]
  | .tuple xs, .tuple ys, h => by rw [samDs_eq xs ys (by simpa [samD] using h)]
  | .dict xs, .dict ys, h => by rw [samDp_eq xs ys (by simpa [samD] using h)]
theorem samDs_eq : ∀ (d e : List PyData), samDs d e = true → d = e
  | [], [], _ => rfl
  | x :: xs, y :: ys, h => by
    have h : cond (samD x y) (samDs xs ys) false = true := by simpa [samDs] using h
    obtain ⟨a, b⟩ := cond_t h
    rw [samD_eq x y a, samDs_eq xs ys b]
theorem samDp_eq : ∀ (d e : List (PyData × PyData)), samDp d e = true → d = e
  | [], [], _ => rfl
  | (a, b) :: xs, (c, d) :: ys, h => by
    have h : cond (samD a c) (cond (samD b d) (samDp xs ys) false) false = true := by simpa [samDp] using h
    obtain ⟨p, q⟩ := cond_t h
    obtain ⟨q, t⟩ := cond_t q
    rw [samD_eq a c p, samD_eq b d q, samDp_eq xs ys t]
end
/-- Python's ==, where it is known -/
def eqW (h : Hs) : W → W → Option Bool
  | .int i, .int j => some (eqI i j)
  | .str a, .str b => some (eqNs a b)
  | .rep d, .rep e => cond (samD d e) (some true) none
  | x, y => match rdD 60 h x, rdD 60 h y with
    | some d, some e => some (PyData.eqv d e)
    | _, _ => none
def oEq : W → W → Hs → Out W := fun x y h => orBad (eqW h x y) fun b => .ok (.bl b) h
def oNe : W → W → Hs → Out W := fun x y h => orBad (eqW h x y) fun b => .ok (.bl (!b)) h
def rEq' (K : PySem.W.Frag) : R2 := fun x y H Q => rEq x y H Q ∨ rEqD K x y H Q
def rNe' (K : PySem.W.Frag) : R2 := fun x y H Q => rNe x y H Q ∨ rNeD K x y H Q
theorem op_eqE (hu : X.A.units + 64 < cLine) (hK : X.K = C.K) : OpR X (compareOp .Eq) (rEq' C.K) := by
  rw [← hK]
  exact op_eq.or (op_eqD hu)
theorem op_neE (hu : X.A.units + 64 < cLine) (hK : X.K = C.K) : OpR X (compareOp .NotEq) (rNe' C.K) := by
  rw [← hK]
  exact op_ne.or (op_neD hu)
theorem shaped_of {d : PyData} {n : Nat} (h1 : d.canLay0 = true) (h2 : d.depth ≤ n) (hn : n ≤ 64) : SeqAt.shaped d = true := by
  unfold SeqAt.shaped
  rw [h1, decide_eq_true (Nat.le_trans h2 hn)]
  rfl
/-- how two values are equal: as scalars, or as data -/
theorem eqW_ok (r : C.rh m h H) {x y : W} {vx vy : V} {b : Bool} (e : eqW h x y = some b) (rx : RV m H x vx) (ry : RV m H y vy) :
    (scal vx vy = true ∧ b = decide (vx = vy)) ∨ ∃ d e, Dp C.K H vx d ∧ Dp C.K H vy e ∧ SeqAt.shaped d = true ∧ SeqAt.shaped e = true ∧ b = PyData.eqv d e := by
  have deep : (match rdD 60 h x, rdD 60 h y with | some d, some e => some (PyData.eqv d e) | _, _ => none) = some b → (scal vx vy = true ∧ b = decide (vx = vy)) ∨ ∃ d e, Dp C.K H vx d ∧ Dp C.K H vy e ∧ SeqAt.shaped d = true ∧ SeqAt.shaped e = true ∧ b = PyData.eqv d e := fun e => by
    cases h1 : rdD 60 h x with
    | none => rw [h1] at e; cases e
    | some d =>
      cases h2 : rdD 60 h y with
      | none => rw [h1, h2] at e; cases e
      | some d' =>
        rw [h1, h2] at e
        obtain ⟨a1, a2, a3⟩ := rdD_ok r C.K 60 x d vx h1 rx
        obtain ⟨b1, b2, b3⟩ := rdD_ok r C.K 60 y d' vy h2 ry
        exact .inr ⟨d, d', a1, b1, shaped_of a2 a3 (by decide), shaped_of b2 b3 (by decide), (Option.some.inj e).symm⟩
  match x, y, e, deep, rx, ry with
  | .int i, .int j, e, _, rx, ry =>
    cases rx
    cases ry
    have e : some (eqI i j) = some b := e
    refine .inl ⟨rfl, ?_⟩
    rw [← Option.some.inj e, eqI_eq]
    simp
  | .str i, .str j, e, _, rx, ry =>
    cases rx
    cases ry
    have e : some (eqNs i j) = some b := e
    refine .inl ⟨rfl, ?_⟩
    rw [← Option.some.inj e, eqNs_eq]
    simp
  | .rep d, .rep d', e, _, rx, ry =>
    cases rx
    cases ry
    have e : cond (samD d d') (some true) none = some b := e
    cases hs : samD d d' with
    | false => rw [hs] at e; cases e
    | true =>
      rw [hs] at e
      have e2 : true = b := Option.some.inj e
      have := samD_eq d d' hs
      subst this
      refine .inl ⟨rfl, ?_⟩
      rw [← e2]
      simp
  | .non, y, e, deep, _, _ => exact deep e
  | .bl _, y, e, deep, _, _ => exact deep e
  | .tup _, y, e, deep, _, _ => exact deep e
  | .loc _, y, e, deep, _, _ => exact deep e
  | .int _, .non, e, deep, _, _ => exact deep e
  | .int _, .bl _, e, deep, _, _ => exact deep e
  | .int _, .str _, e, deep, _, _ => exact deep e
  | .int _, .tup _, e, deep, _, _ => exact deep e
  | .int _, .loc _, e, deep, _, _ => exact deep e
  | .int _, .rep _, e, deep, _, _ => exact deep e
  | .str _, .non, e, deep, _, _ => exact deep e
  | .str _, .bl _, e, deep, _, _ => exact deep e
  | .str _, .int _, e, deep, _, _ => exact deep e
  | .str _, .tup _, e, deep, _, _ => exact deep e
  | .str _, .loc _, e, deep, _, _ => exact deep e
  | .str _, .rep _, e, deep, _, _ => exact deep e
  | .rep _, .non, e, deep, _, _ => exact deep e
  | .rep _, .bl _, e, deep, _, _ => exact deep e
  | .rep _, .int _, e, deep, _, _ => exact deep e
  | .rep _, .str _, e, deep, _, _ => exact deep e
  | .rep _, .tup _, e, deep, _, _ => exact deep e
  | .rep _, .loc _, e, deep, _, _ => exact deep e
theorem od_eq : OpD C E (rEq' C.K) oEq := by
  intro m h H x y vx vy Q r rx ry p
  obtain ⟨b, e, p⟩ := orBad_of p
  have q : Q (.bl b) H := post_ok r p rfl
  rcases eqW_ok r e rx ry with ⟨h1, rfl⟩ | ⟨d, e', h1, h2, h3, h4, rfl⟩
  · exact .inl ⟨h1, q⟩
  · exact .inr ⟨d, e', h1, h2, h3, h4, q⟩
theorem od_ne : OpD C E (rNe' C.K) oNe := by
  intro m h H x y vx vy Q r rx ry p
  obtain ⟨b, e, p⟩ := orBad_of p
  have q : Q (.bl (!b)) H := post_ok r p rfl
  rcases eqW_ok r e rx ry with ⟨h1, rfl⟩ | ⟨d, e', h1, h2, h3, h4, rfl⟩
  · exact .inl ⟨h1, q⟩
  · exact .inr ⟨d, e', h1, h2, h3, h4, q⟩

/-! ### < of ints, of texts -/
def ltI (i j : Int) : Bool := Int.rec (fun a => Int.rec (fun b => Nat.blt a b) (fun _ => false) j) (fun a => Int.rec (fun _ => true) (fun b => Nat.blt b a) j) i
theorem blt_dec (a b : Nat) : Nat.blt a b = decide (a < b) := by
  unfold Nat.blt
  by_cases h : a < b
  · rw [decide_eq_true h]
    exact Nat.ble_eq_true_of_le h
  · rw [decide_eq_false h]
    cases hb : Nat.ble (Nat.succ a) b with
    | false => rfl
    | true => exact absurd (Nat.le_of_ble_eq_true hb) h
theorem ltI_eq (i j : Int) : ltI i j = decide (i < j) := by
  cases i with
  | ofNat a =>
    cases j with
    | ofNat b =>
      show Nat.blt a b = _
      rw [blt_dec]
      exact decide_eq_decide.mpr (by show a < b ↔ (a : Int) < (b : Int); omega)
    | negSucc b => exact (decide_eq_false (by show ¬ (a : Int) < Int.negSucc b; omega)).symm
  | negSucc a =>
    cases j with
    | ofNat b => exact (decide_eq_true (by show Int.negSucc a < (b : Int); omega)).symm
    | negSucc b =>
      show Nat.blt b a = _
      rw [blt_dec]
      exact decide_eq_decide.mpr (by omega)
def ltNs (a b : List Nat) : Bool := List.rec (motive := fun _ => List Nat → Bool) (fun b => List.rec false (fun _ _ _ => true) b) (fun x _ ih b => List.rec false (fun y ys _ => cond (Nat.beq x y) (ih ys) (Nat.blt x y)) b) a b
theorem ltNs_eq : ∀ (a b : List Nat), ltNs a b = decide (a < b)
  | [], [] => rfl
  | [], _ :: _ => by simp [ltNs]
  | _ :: _, [] => by simp [ltNs]
  | x :: a, y :: b => by
    show cond (Nat.beq x y) (ltNs a b) (Nat.blt x y) = _
    rw [ltNs_eq a b, blt_dec]
    cases hb : Nat.beq x y with
    | true =>
      have e := Nat.eq_of_beq_eq_true hb
      subst e
      simp [List.cons_lt_cons_iff]
    | false =>
      have e := Nat.ne_of_beq_eq_false hb
      simp [List.cons_lt_cons_iff, e]
def oCmp (f : Int → Int → Bool) (g : List Nat → List Nat → Bool) : W → W → Hs → Out W
  | .int i, .int j, h => .ok (.bl (f i j)) h
  | .str a, .str b, h => .ok (.bl (g a b)) h
  | _, _, _ => .bad
def rCmp (f : Int → Int → Bool) (g : List Nat → List Nat → Bool) : R2 := fun x y H Q => rI0 (fun i j => V.bl (f i j)) x y H Q ∨ ∃ i j, x = .str i ∧ y = .str j ∧ Q (.bl (g i.cps.toList j.cps.toList)) H
theorem od_cmp {f : Int → Int → Bool} {g : List Nat → List Nat → Bool} : OpD C E (rCmp f g) (oCmp f g) := by
  intro m h H x y vx vy Q r rx ry p
  match x, y, p with
  | .int i, .int j, p => exact .inl ⟨i, j, rx, ry, post_ok r p rfl⟩
  | .str a, .str b, p => exact .inr ⟨_, _, rx, ry, post_ok (v := .bl (g a b)) r p rfl⟩
theorem op_ltE : OpR X (compareOp .Lt) (rCmp ltI ltNs) := by
  have h := (op_lt (X := X)).or op_lt_str
  have e1 : ltI = fun i j => decide (i < j) := by funext i j; exact ltI_eq i j
  have e2 : ltNs = fun i j => decide (i < j) := by funext i j; exact ltNs_eq i j
  rw [e1, e2]
  exact h
theorem op_leE : OpR X (compareOp .LtE) (rCmp (fun i j => !ltI j i) (fun i j => !ltNs j i)) := by
  have h := (op_le (X := X)).or op_le_str
  have e1 : (fun i j => !ltI j i) = fun i j => decide (i ≤ j) := by
    funext i j
    rw [ltI_eq]
    by_cases h : i ≤ j
    · rw [decide_eq_true h, decide_eq_false (by omega)]
      rfl
    · rw [decide_eq_false h, decide_eq_true (by omega)]
      rfl
  have e2 : (fun i j => !ltNs j i) = fun i j => !decide (j < i) := by funext i j; rw [ltNs_eq]
  rw [e1, e2]
  exact h
def noS (a b : List Nat) : Bool := false
theorem op_gtE : OpR X (compareOp .Gt) (rI0 fun i j => V.bl (ltI j i)) := by
  have e1 : (fun i j => V.bl (ltI j i)) = fun i j => V.bl (decide (j < i)) := by funext i j; rw [ltI_eq]
  rw [e1]
  exact op_gt
theorem op_geE : OpR X (compareOp .GtE) (rI0 fun i j => V.bl (!ltI i j)) := by
  have e1 : (fun i j => V.bl (!ltI i j)) = fun i j => V.bl (decide (j ≤ i)) := by
    funext i j
    rw [ltI_eq]
    by_cases h : j ≤ i
    · rw [decide_eq_true h, decide_eq_false (by omega)]
      rfl
    · rw [decide_eq_false h, decide_eq_true (by omega)]
      rfl
  rw [e1]
  exact op_ge
def oCmpI (f : Int → Int → Bool) : W → W → Hs → Out W
  | .int i, .int j, h => .ok (.bl (f i j)) h
  | _, _, _ => .bad
theorem od_cmpI {f : Int → Int → Bool} : OpD C E (rI0 fun i j => V.bl (f i j)) (oCmpI f) := by
  intro m h H x y vx vy Q r rx ry p
  match x, y, p with
  | .int i, .int j, p => exact ⟨i, j, rx, ry, post_ok r p rfl⟩
end
end Vz
end
/-! items, slices, built-ins, methods, tests -/
noncomputable section
namespace Vz
open PySem PySem.Spec PyProof.Rows L2

/-- the item at an int, from behind below 0 -/
def nthW (ws : List W) : Nat → Option W := List.rec (fun _ => none) (fun x _ ih n => Nat.rec (some x) (fun k _ => ih k) n) ws
theorem nthW_eq : ∀ (ws : List W) (i : Nat), nthW ws i = ws[i]?
  | [], _ => rfl
  | _ :: _, 0 => rfl
  | _ :: ws, i + 1 => nthW_eq ws i
def atF (ws : List W) : Int → Option W
  | .ofNat k => nthW ws k
  | .negSucc k => cond (Nat.ble (k + 1) ws.length) (nthW ws (ws.length - (k + 1))) none
section
variable {C : Cn} {m : List Addr} {H : Hp} {h : Hs} {X : Cx} {E : XK}
theorem atF_ok {ws : List W} {xs : List V} {i : Int} {w : W} (e : atF ws i = some w) (r : RVs m H ws xs) : ∃ v, atI xs i = some v ∧ RV m H w v := by
  cases i with
  | ofNat k =>
    have e : nthW ws k = some w := e
    rw [nthW_eq] at e
    obtain ⟨v, h1, h2⟩ := r.get e
    exact ⟨v, atI_nat h1, h2⟩
  | negSucc k =>
    have e : cond (Nat.ble (k + 1) ws.length) (nthW ws (ws.length - (k + 1))) none = some w := e
    cases hb : Nat.ble (k + 1) ws.length with
    | false => rw [hb] at e; cases e
    | true =>
      rw [hb] at e
      have hl := Nat.le_of_ble_eq_true hb
      have e : nthW ws (ws.length - (k + 1)) = some w := e
      rw [nthW_eq] at e
      obtain ⟨v, h1, h2⟩ := r.get e
      refine ⟨v, ?_, h2⟩
      have hl2 := r.length
      unfold atI ixN
      rw [if_neg (by omega), if_pos (by omega)]
      have e3 : (Int.negSucc k + (xs.length : Int)).toNat = ws.length - (k + 1) := by omega
      rw [e3]
      exact h1
theorem tup_of {ws : List W} {v : V} (rv : RV m H (.tup ws) v) : ∃ a xs, v = .ref a ∧ H a = some (.tup xs) ∧ RVs m H ws xs := rv
def oIx : W → W → Hs → Out W
  | .loc n, .int i, h => orBad (lstAt h n) fun ws => orBad (atF ws i) fun w => .ok w h
  | .tup ws, .int i, h => orBad (atF ws i) fun w => .ok w h
  | .str x, .int (.ofNat i), h => cond (sz x.length) (orBad x[i]? fun c => .ok (.str [c]) h) .bad
  | _, _, _ => .bad
theorem ix_D (hK : X.K = C.K) : IxR X (rIx C.K) := by
  rw [← hK]
  exact ix_seq
theorem od_ix : OpD C E (rIx C.K) oIx := by
  intro m h H x y vx vy Q r rx ry p
  match x, y, p with
  | .loc n, .int i, p =>
    obtain ⟨ws, e, p⟩ := orBad_of p
    obtain ⟨w, e2, p⟩ := orBad_of p
    obtain ⟨a, xs, rfl, _, q1, r1⟩ := lst_of r e rx
    obtain ⟨v, h1, h2⟩ := atF_ok e2 r1
    cases ry
    exact .inl ⟨a, xs, i, v, rfl, rfl, SqL.of q1, h1, post_ok r p h2⟩
  | .tup ws, .int i, p =>
    obtain ⟨w, e2, p⟩ := orBad_of p
    obtain ⟨a, xs, rfl, q1, r1⟩ := rx
    obtain ⟨v, h1, h2⟩ := atF_ok e2 r1
    cases ry
    exact .inr (.inl ⟨a, xs, i, v, rfl, rfl, SqT.of q1, h1, post_ok r p h2⟩)
  | .str x, .int (.ofNat i), p =>
    obtain ⟨s, p⟩ := cond_of p
    obtain ⟨c, e, p⟩ := orBad_of p
    cases rx
    cases ry
    refine .inr (.inr ⟨_, _, c, rfl, rfl, ?_, ?_, post_ok (v := .str ⟨#[c]⟩) r p rfl⟩)
    · simpa [Str.length] using sz_le s
    · exact atI_nat (by simpa using e)

/-! ### parts of lists and tuples -/
abbrev DO := Env → Hs → Out (Option Int)
def tDO (C : Cn) (E : XK) (d : DO) : TO := fun σ H Q => ∃ m ρ h, RE m H ρ σ ∧ C.rh m h H ∧ Post C m H E (fun o m' H' => Q o H') (d ρ h)
def dNo : DO := fun _ h => .ok none h
def dSo (a : D) : DO := fun ρ h => (a ρ h).bind fun x h1 => match x with
  | .int i => .ok (some i) h1
  | _ => .bad
def sIxF (n d : Nat) : Option Int → Nat
  | none => d
  | some (.ofNat k) => cond (Nat.ble k n) k n
  | some (.negSucc k) => n - (k + 1)
theorem sIxF_eq (n d : Nat) (o : Option Int) : sIxF n d o = HT.sIx n d o := by
  match o with
  | none => rfl
  | some (.ofNat k) =>
    show cond (Nat.ble k n) k n = HT.sIx n d (some (k : Int))
    rw [HT.sIx_nat]
    cases hb : Nat.ble k n with
    | true =>
      have := Nat.le_of_ble_eq_true hb
      show k = min k n
      omega
    | false =>
      have : ¬ k ≤ n := fun z => by rw [Nat.ble_eq_true_of_le z] at hb; cases hb
      show n = min k n
      omega
  | some (.negSucc k) =>
    show n - (k + 1) = (if Int.negSucc k < 0 then (Int.negSucc k + (n : Int)).toNat else min (Int.negSucc k).toNat n)
    rw [if_pos (by omega)]
    omega
def cutF (ws : List W) (lo hi : Option Int) : List W := (ws.drop (sIxF ws.length 0 lo)).take (sIxF ws.length ws.length hi - sIxF ws.length 0 lo)
theorem cutF_ok {ws : List W} {xs : List V} (r : RVs m H ws xs) (lo hi : Option Int) : RVs m H (cutF ws lo hi) (cutV xs lo hi) := by
  unfold cutF cutV
  rw [sIxF_eq, sIxF_eq, r.length]
  exact (r.drop _).take _
def oSl : W → Option Int → Option Int → Hs → Out W
  | .tup ws, lo, hi, h => .ok (.tup (cutF ws lo hi)) h
  | .loc n, lo, hi, h => orBad (lstAt h n) fun ws => orBad (h.new (.lst (cutF ws lo hi))) fun h2 => .ok (.loc h.n) h2
  | _, _, _, _ => .bad
def dSl (a : D) (l u : DO) : D := fun ρ h => (a ρ h).bind fun x h1 => (l ρ h1).bind fun lo h2 => (u ρ h2).bind fun hi h3 => oSl x lo hi h3
theorem do_no : PO X none (tDO C E dNo) := ⟨fun pins s σ H Q I ⟨m, ρ, h, r1, r2, p⟩ => po_none.run pins s σ H Q I (p m H Step.refl r2)⟩
theorem tDO.of {σ : L2.St} {d : DO} {Q : Option Int → Hp → Prop} {ρ : Env} {α : Type} {f : Option Int → Hs → Out α} {R : α → List Addr → Hp → Prop} (r1 : RE m H ρ σ) (r2 : C.rh m h H) (p : Post C m H E R ((d ρ h).bind f))
    (k : ∀ w m1 h1 H1, Step m H m1 H1 → RE m1 H1 ρ σ → C.rh m1 h1 H1 → Post C m1 H1 E R (f w h1) → Q w H1) : tDO C E d σ H Q := by
  refine ⟨m, ρ, h, r1, r2, ?_⟩
  refine p.bind.step.mono fun w m1 H1 ⟨s1, _, q⟩ => ?_
  obtain ⟨h1, r, p'⟩ := q s1
  exact k w m1 h1 H1 s1 (s1.re r2 r1) r p'
theorem do_so {e : Expr} {d : D} (he : PE X e (tD C E d)) : PO X (some e) (tDO C E (dSo d)) := ⟨fun pins s σ H Q I ⟨m, ρ, h, r1, r2, p⟩ => (po_some he).run pins s σ H Q I (by
  refine tD.of r1 r2 p fun w v m1 h1 H1 s1 e1 k1 rv p1 => ?_
  match w, p1, rv with
  | .int i, p1, rv => exact ⟨i, rv, p1 m1 H1 Step.refl k1⟩)⟩
def rSl (K : PySem.W.Frag) : V → Option Int → Option Int → Hp → VK → Prop := fun x lo hi H Q => rSlL K x lo hi H Q ∨ rSlA K x lo hi H Q
theorem sl_D (hK : X.K = C.K) : SlR X (rSl C.K) := by
  rw [← hK]
  exact sl_list.or sl_tupA
theorem de_sl {a : Expr} {lo hi : Option Expr} {da : D} {dl du : DO} {p2 pos : Pos} (hK : X.K = C.K) (ha : PE X a (tD C E da)) (hl : PO X lo (tDO C E dl)) (hu : PO X hi (tDO C E du)) : PE X (.Subscript a (.Slice lo hi none p2) pos) (tD C E (dSl da dl du)) :=
  (pe_slice (sl_D hK) ha hl hu).imp fun σ H Q ⟨m, ρ, h, r1, r2, p⟩ => by
    refine tD.of r1 r2 p fun w v m1 h1 H1 s1 e1 k1 rv p1 => ?_
    refine tDO.of e1 k1 p1 fun lo m2 h2 H2 s2 e2 k2 p2 => ?_
    refine tDO.of e2 k2 p2 fun hi m3 h3 H3 s3 e3 k3 p3 => ?_
    have rv := (s2.trans s3).rv k1 w v rv
    match w, p3, rv with
    | .tup ws, p3, rv =>
      obtain ⟨a, xs, rfl, q1, r1⟩ := rv
      refine .inr ⟨a, xs, rfl, SqT.of q1, fun z => ?_, fun _ => post_tup k3 p3 (cutF_ok r1 lo hi)⟩
      have e : cutF ws lo hi = ws := by
        unfold cutF
        rw [sIxF_eq, sIxF_eq, r1.length, z.1, z.2, List.drop_zero, Nat.sub_zero, ← r1.length, List.take_length]
      have p4 : Post C m3 H3 E _ (Out.ok (W.tup (cutF ws lo hi)) h3) := p3
      rw [e] at p4
      exact post_ok k3 p4 ⟨a, xs, rfl, q1, r1⟩
    | .loc n, p3, rv =>
      obtain ⟨ws, e, p3⟩ := orBad_of p3
      obtain ⟨a, xs, rfl, _, q1, r1⟩ := lst_of k3 e rv
      exact .inl ⟨a, xs, rfl, SqL.of q1, new_lst k3 (cutF_ok r1 lo hi) p3⟩

/-! ### built-ins -/
def CallD (C : Cn) (E : XK) (r : List V → Hp → VK → Prop) (f : List W → Hs → Out W) : Prop := ∀ m h H ws xs (Q : VK), C.rh m h H → RVs m H ws xs → Post C m H E (fun w m' H' => ∀ v, RV m' H' w v → Q v H') (f ws h) → r xs H Q
def dCal (f : List W → Hs → Out W) (a : DL) : D := fun ρ h => (a ρ h).bind fun ws h1 => f ws h1
theorem of_call {r : List V → Hp → VK → Prop} {f : List W → Hs → Out W} {dl : DL} {σ : L2.St} (hf : CallD C E r f) {Q : VK} (q : tD C E (dCal f dl) σ H Q) : tCB r (tDL C E dl) σ H Q := by
  obtain ⟨m, ρ, h, r1, r2, p⟩ := q
  exact tDL.of r1 r2 p fun ws vs m1 h1 H1 s1 e1 k1 rv p1 => hf m1 h1 H1 ws vs Q k1 rv p1
section
variable {x : Str} {p pos : Pos} {e : Expr} {es : List Expr} {id T : String} {r : List V → Hp → VK → Prop} {f : List W → Hs → Out W} {dl : DL}
theorem de_callB (hc : CallR X (.builtin id) r) (hf : CallD C E r f) (hg : Gl X x) (hm : X.mg x = none) (hv : bootBuiltins x = some (.builtin id)) (ha : PA X (e :: es) (tDL C E dl)) (hn : x ≠ "__name__" := by decide) (hdb : (x == ("__debug__" : Str)) = false := by decide)
    (he : starEach (e :: es) X.env = (false, eval e X.env) :: starEach es X.env := by rfl) (hpl : (backTo pos (starEach es X.env)).any (·.1) = false := by rfl) : PE X (.Call (.Name x p) (e :: es) [] pos) (tD C E (dCal f dl)) :=
  (pe_callB hc hg hm hv ha hn hdb he hpl).imp fun σ H Q q => of_call hf q
theorem de_callTy (hc : CallR X (.type T) r) (hf : CallD C E r f) (hg : Gl X x) (hm : X.mg x = none) (hv : bootBuiltins x = some (.type T)) (ha : PA X (e :: es) (tDL C E dl)) (hn : x ≠ "__name__" := by decide) (hdb : (x == ("__debug__" : Str)) = false := by decide)
    (he : starEach (e :: es) X.env = (false, eval e X.env) :: starEach es X.env := by rfl) (hpl : (backTo pos (starEach es X.env)).any (·.1) = false := by rfl) : PE X (.Call (.Name x p) (e :: es) [] pos) (tD C E (dCal f dl)) :=
  (pe_callTy hc hg hm hv ha hn hdb he hpl).imp fun σ H Q q => of_call hf q
end
def okN (n : Nat) (h : Hs) : Out W := forceNat n fun k => .ok (.int (.ofNat k)) h
def fLen : List W → Hs → Out W
  | [.tup ws], h => okN ws.length h
  | [.str x], h => cond (sz x.length) (okN x.length h) .bad
  | [.loc n], h => match h.get n with
    | some (.lst ws) => okN ws.length h
    | some (.dct false kvs _) => okN kvs.length h
    | _ => .bad
  | _, _ => .bad
def rLen (K : PySem.W.Frag) : List V → Hp → VK → Prop := fun xs H Q => (∃ p ys, xs = [.ref p] ∧ (SqL K H p ys ∨ SqT K H p ys) ∧ Q (.int ys.length) H) ∨ (∃ z, xs = [.str z] ∧ z.length ≤ sizeLine ∧ Q (.int z.length) H) ∨ Lx.rLenK xs H Q
theorem cr_len (hK : X.K = C.K) : CallR X (.builtin "len") (rLen C.K) := by
  rw [← hK]
  exact call_len_seq.or (call_len_str.or Lx.c_lenK)
theorem post_n {n : Nat} {Q : VK} (r : C.rh m h H) (p : Post C m H E (fun w m' H' => ∀ v, RV m' H' w v → Q v H') (okN n h)) : Q (.int (n : Int)) H := by
  unfold okN at p
  rw [forceNat_eq] at p
  exact post_ok (v := .int (n : Int)) r p rfl
theorem RVs.one {w : W} {xs : List V} (r : RVs m H [w] xs) : ∃ v, xs = [v] ∧ RV m H w v := by
  obtain ⟨v, vs, rfl, a, b⟩ := r
  cases b
  exact ⟨v, rfl, a⟩
theorem RVs.two {w u : W} {xs : List V} (r : RVs m H [w, u] xs) : ∃ v z, xs = [v, z] ∧ RV m H w v ∧ RV m H u z := by
  obtain ⟨v, vs, rfl, a, b⟩ := r
  obtain ⟨z, rfl, c⟩ := b.one
  exact ⟨v, z, rfl, a, c⟩
theorem RD.length {κ : Type} {kw : W → Option κ} : ∀ {kvs : List (W × W)} {ks : List (κ × V)}, RD kw m H kvs ks → kvs.length = ks.length
  | [], _, e => by cases e; rfl
  | (k, w) :: kvs, _, e => by
    obtain ⟨k', v, rs, rfl, _, _, q⟩ := e
    rw [List.length_cons, List.length_cons, RD.length q]
/-- a dict with keys ints and texts, to be read -/
theorem dct_of {n : Nat} {kvs : List (W × W)} {lk : Bool} {v : V} (r : C.rh m h H) (e : h.get n = some (.dct false kvs lk)) (rv : RV m H (.loc n) v) : ∃ a ks, v = .ref a ∧ m[n]? = some a ∧ Rd H a (.dK ks) ∧ (lk = false → H a = some (.dK ks)) ∧ (lk = true → ∃ od, H a = some (.frz od (.dK ks))) ∧ RD keyW m H kvs ks := by
  obtain ⟨a, ha, rfl⟩ := rv
  obtain ⟨b, hb, q⟩ := r.at e
  rw [ha] at hb
  cases hb
  cases lk with
  | false =>
    obtain ⟨u, q, ks, rfl, q2⟩ := q
    exact ⟨a, ks, rfl, ha, .inl q, fun _ => q, fun z => (by cases z), q2⟩
  | true =>
    obtain ⟨u, od, q, ks, rfl, q2⟩ := q
    exact ⟨a, ks, rfl, ha, .inr ⟨od, q⟩, fun z => (by cases z), fun _ => ⟨od, q⟩, q2⟩
theorem cd_len : CallD C E (rLen C.K) fLen := by
  intro m h H ws xs Q r rv p
  match ws, p, rv with
  | [.tup ws], p, rv =>
    obtain ⟨v, rfl, a, ys, rfl, q1, r1⟩ := rv.one
    have q := post_n r p
    rw [r1.length] at q
    exact .inl ⟨a, ys, rfl, .inr (SqT.of q1), q⟩
  | [.str x], p, rv =>
    obtain ⟨s, p⟩ := cond_of p
    obtain ⟨v, rfl, rfl⟩ := rv.one
    refine .inr (.inl ⟨_, rfl, ?_, ?_⟩)
    · simpa [Str.length] using sz_le s
    · have q := post_n r p
      simpa [Str.length] using q
  | [.loc n], p, rv =>
    obtain ⟨v, rfl, ra⟩ := rv.one
    have p : Post C m H E _ (match h.get n with | some (.lst ws) => okN ws.length h | some (.dct false kvs _) => okN kvs.length h | _ => .bad) := p
    cases e : h.get n with
    | none => rw [e] at p; exact p.elim
    | some o =>
      rw [e] at p
      match o, p, e with
      | .lst ws, p, e =>
        obtain ⟨a, ys, rfl, _, q1, r1⟩ := lst_of (ws := ws) r (by unfold lstAt; rw [e]) ra
        have q := post_n r p
        rw [r1.length] at q
        exact .inl ⟨a, ys, rfl, .inl (SqL.of q1), q⟩
      | .dct false kvs lk, p, e =>
        obtain ⟨a, ks, rfl, _, q1, _, _, q2⟩ := dct_of r e ra
        have q := post_n r p
        rw [q2.length] at q
        exact .inr (.inr ⟨a, ks, rfl, q1, q⟩)
def fInt : List W → Hs → Out W
  | [.int i], h => .ok (.int i) h
  | _, _ => .bad
theorem cd_int : CallD C E (fun xs H Q => (∃ i, xs = [.int i] ∧ Q (.int i) H) ∨ ∃ k, xs = [.bl k] ∧ Q (.int (if k then 1 else 0)) H) fInt := by
  intro m h H ws xs Q r rv p
  match ws, p, rv with
  | [.int i], p, rv =>
    obtain ⟨v, rfl, rfl⟩ := rv.one
    exact .inl ⟨i, rfl, post_ok r p rfl⟩
def fList : List W → Hs → Out W
  | [.tup ws], h => orBad (h.new (.lst ws)) fun h2 => .ok (.loc h.n) h2
  | [.loc n], h => orBad (lstAt h n) fun ws => orBad (h.new (.lst ws)) fun h2 => .ok (.loc h.n) h2
  | _, _ => .bad
def rList (K : PySem.W.Frag) : List V → Hp → VK → Prop := fun xs H Q => ∃ p ys, xs = [.ref p] ∧ (SqL K H p ys ∨ SqT K H p ys) ∧ ∀ l, H l = none → Q (.ref l) (upd H l (.lst ys))
theorem cr_list (hK : X.K = C.K) : CallR X (.type "list") (rList C.K) := by
  rw [← hK]
  exact call_list_of
theorem cd_list : CallD C E (rList C.K) fList := by
  intro m h H ws xs Q r rv p
  match ws, p, rv with
  | [.tup ws], p, rv =>
    obtain ⟨v, rfl, a, ys, rfl, q1, r1⟩ := rv.one
    exact ⟨a, ys, rfl, .inr (SqT.of q1), new_lst r r1 p⟩
  | [.loc n], p, rv =>
    obtain ⟨v, rfl, ra⟩ := rv.one
    obtain ⟨ws, e, p⟩ := orBad_of p
    obtain ⟨a, ys, rfl, _, q1, r1⟩ := lst_of r e ra
    exact ⟨a, ys, rfl, .inl (SqL.of q1), new_lst r r1 p⟩
def fTuple : List W → Hs → Out W
  | [.tup ws], h => .ok (.tup ws) h
  | [.loc n], h => orBad (lstAt h n) fun ws => .ok (.tup ws) h
  | _, _ => .bad
def rTuple (K : PySem.W.Frag) : List V → Hp → VK → Prop := fun xs H Q => ∃ p ys, xs = [.ref p] ∧ ((SqL K H p ys ∧ ∀ l, H l = none → Q (.ref l) (upd H l (.tup ys))) ∨ (SqT K H p ys ∧ Q (.ref p) H))
theorem cr_tuple (hK : X.K = C.K) : CallR X (.type "tuple") (rTuple C.K) := by
  rw [← hK]
  exact call_tuple_of
theorem cd_tuple : CallD C E (rTuple C.K) fTuple := by
  intro m h H ws xs Q r rv p
  match ws, p, rv with
  | [.tup ws], p, rv =>
    obtain ⟨v, rfl, a, ys, rfl, q1, r1⟩ := rv.one
    exact ⟨a, ys, rfl, .inr ⟨SqT.of q1, post_ok r p ⟨a, ys, rfl, q1, r1⟩⟩⟩
  | [.loc n], p, rv =>
    obtain ⟨v, rfl, ra⟩ := rv.one
    obtain ⟨ws, e, p⟩ := orBad_of p
    obtain ⟨a, ys, rfl, _, q1, r1⟩ := lst_of r e ra
    exact ⟨a, ys, rfl, .inl ⟨SqL.of q1, post_tup r p r1⟩⟩
/-- the ints of a list -/
def intsW : List W → Option (List Int) := mapO fun w => match w with
  | .int i => some i
  | _ => none
def blsW : List W → Option (List Bool) := mapO fun w => match w with
  | .bl i => some i
  | _ => none
theorem intsW_ok : ∀ {ws : List W} {ns : List Int} {xs : List V}, intsW ws = some ns → RVs m H ws xs → xs = ns.map V.int
  | [], ns, xs, e, r => by cases e; cases r; rfl
  | w :: ws, ns, xs, e, r => by
    obtain ⟨y, ys, rfl, e1, e2⟩ := mapO_cons e
    obtain ⟨v, vs, rfl, r1, r2⟩ := r
    rw [intsW_ok e2 r2, List.map_cons]
    match w, e1, r1 with
    | .int i, e1, r1 => cases e1; cases r1; rfl
theorem blsW_ok : ∀ {ws : List W} {ns : List Bool} {xs : List V}, blsW ws = some ns → RVs m H ws xs → xs = ns.map V.bl
  | [], ns, xs, e, r => by cases e; cases r; rfl
  | w :: ws, ns, xs, e, r => by
    obtain ⟨y, ys, rfl, e1, e2⟩ := mapO_cons e
    obtain ⟨v, vs, rfl, r1, r2⟩ := r
    rw [blsW_ok e2 r2, List.map_cons]
    match w, e1, r1 with
    | .bl i, e1, r1 => cases e1; cases r1; rfl
def sumS (ns : List Int) (a : Int) (k : Int → Out W) : Out W := List.rec (motive := fun _ => Int → Out W) (fun a => k a) (fun x _ ih a => forceInt (a + x) ih) ns a
theorem sumS_eq (k : Int → Out W) : ∀ (ns : List Int) (a : Int), sumS ns a k = k (a + ns.sum)
  | [], a => by
    show k a = _
    simp
  | x :: ns, a => by
    show forceInt (a + x) (fun a => sumS ns a k) = _
    rw [forceInt_eq, sumS_eq k ns (a + x), List.sum_cons, Int.add_assoc]
def fSum : List W → Hs → Out W
  | [.loc n], h => orBad (lstAt h n) fun ws => orBad (intsW ws) fun ns => sumS ns 0 fun k => .ok (.int k) h
  | _, _ => .bad
theorem crD_sum (hc : X.calm = true) (hK : X.K = C.K) : CallR X (.builtin "sum") (rSum C.K) := by
  rw [← hK]
  exact cr_sum hc
theorem cd_sum : CallD C E (rSum C.K) fSum := by
  intro m h H ws xs Q r rv p
  match ws, p, rv with
  | [.loc n], p, rv =>
    obtain ⟨v, rfl, ra⟩ := rv.one
    obtain ⟨ws, e, p⟩ := orBad_of p
    obtain ⟨ns, e2, p⟩ := orBad_of p
    obtain ⟨a, ys, rfl, _, q1, r1⟩ := lst_of r e ra
    have := intsW_ok e2 r1
    subst this
    rw [sumS_eq, Int.zero_add] at p
    exact ⟨a, ns, rfl, SqL.of q1, post_ok r p rfl⟩
def fAll (g : List Bool → Bool) : List W → Hs → Out W
  | [.loc n], h => orBad (lstAt h n) fun ws => orBad (blsW ws) fun ns => Bool.rec (.ok (.bl false) h) (.ok (.bl true) h) (g ns)
  | _, _ => .bad
theorem crD_all (hc : X.calm = true) (hK : X.K = C.K) : CallR X (.builtin "all") (rAll C.K) := by
  rw [← hK]
  exact cr_all hc
theorem crD_any (hc : X.calm = true) (hK : X.K = C.K) : CallR X (.builtin "any") (rAny C.K) := by
  rw [← hK]
  exact cr_any hc
theorem boolrec {α : Type} (b : Bool) (f : Bool → α) : Bool.rec (f false) (f true) b = f b := by cases b <;> rfl
theorem cd_all : CallD C E (rAll C.K) (fAll fun ns => ns.all id) := by
  intro m h H ws xs Q r rv p
  match ws, p, rv with
  | [.loc n], p, rv =>
    obtain ⟨v, rfl, ra⟩ := rv.one
    obtain ⟨ws, e, p⟩ := orBad_of p
    obtain ⟨ns, e2, p⟩ := orBad_of p
    obtain ⟨a, ys, rfl, _, q1, r1⟩ := lst_of r e ra
    have := blsW_ok e2 r1
    subst this
    have p : Post C m H E _ (Bool.rec (Out.ok (W.bl false) h) (Out.ok (W.bl true) h) (ns.all id)) := p
    rw [boolrec (ns.all id) fun b => Out.ok (W.bl b) h] at p
    exact ⟨a, ns, rfl, SqL.of q1, post_ok r p rfl⟩
theorem cd_any : CallD C E (rAny C.K) (fAll fun ns => ns.any id) := by
  intro m h H ws xs Q r rv p
  match ws, p, rv with
  | [.loc n], p, rv =>
    obtain ⟨v, rfl, ra⟩ := rv.one
    obtain ⟨ws, e, p⟩ := orBad_of p
    obtain ⟨ns, e2, p⟩ := orBad_of p
    obtain ⟨a, ys, rfl, _, q1, r1⟩ := lst_of r e ra
    have := blsW_ok e2 r1
    subst this
    have p : Post C m H E _ (Bool.rec (Out.ok (W.bl false) h) (Out.ok (W.bl true) h) (ns.any id)) := p
    rw [boolrec (ns.any id) fun b => Out.ok (W.bl b) h] at p
    exact ⟨a, ns, rfl, SqL.of q1, post_ok r p rfl⟩
/-- isinstance of a built-in type: the name of a value's type -/
def tyW (h : Hs) : W → Option String
  | .non => some "NoneType"
  | .bl _ => some "bool"
  | .int _ => some "int"
  | .str _ => some "str"
  | .tup _ => some "tuple"
  | .loc n => match h.get n with
    | some (.lst _) => some "list"
    | some (.dct false _ _) => some "dict"
    | some (.dct true _ false) => some "dict"
    | _ => none
  | .rep _ => some "str"
theorem tyW_ok (r : C.rh m h H) {w : W} {v : V} {t : String} (e : tyW h w = some t) (rv : RV m H w v) : TyX C.K H v (.type t) := by
  match w, e, rv with
  | .non, e, rv => cases e; cases rv; exact .base .non
  | .bl _, e, rv => cases e; cases rv; exact .base (.bl _)
  | .int _, e, rv => cases e; cases rv; exact .base (.int _)
  | .str _, e, rv => cases e; cases rv; exact .base (.str _)
  | .rep _, e, rv => cases e; cases rv; exact .base (.str _)
  | .tup ws, e, rv =>
    cases e
    obtain ⟨a, xs, rfl, q, _⟩ := rv
    exact .base (.tup q)
  | .loc n, e, rv =>
    have e : (match h.get n with | some (.lst _) => some "list" | some (.dct false _ _) => some "dict" | some (.dct true _ false) => some "dict" | _ => none) = some t := e
    cases e0 : h.get n with
    | none => rw [e0] at e; cases e
    | some o =>
      rw [e0] at e
      obtain ⟨a, ha, rfl⟩ := rv
      obtain ⟨b, hb, q⟩ := r.at e0
      rw [ha] at hb
      cases hb
      match o, e, q with
      | .lst ws, e, q =>
        cases e
        obtain ⟨xs, q, _⟩ := q
        exact .base (.lst q)
      | .dct false kvs false, e, q =>
        cases e
        obtain ⟨_, q, ks, rfl, _⟩ := q
        exact .base (.dK q)
      | .dct true kvs false, e, q =>
        cases e
        obtain ⟨_, q, ks, rfl, _⟩ := q
        exact .base (.dT q)
      | .dct false kvs true, e, q =>
        cases e
        obtain ⟨_, od, q, ks, rfl, _⟩ := q
        exact .fDict q
def fIsi (T : String) : List W → Hs → Out W
  | [w], h => orBad (tyW h w) fun t => orBad (kitB t T) fun b => .ok (.bl b) h
  | _, _ => .bad
def rIsiD (K : PySem.W.Frag) (T : String) : List V → Hp → VK → Prop := fun xs H Q => rIsi K (xs ++ [.ty T]) H Q
theorem cd_isi {T : String} : CallD C E (rIsiD C.K T) (fIsi T) := by
  intro m h H ws xs Q r rv p
  match ws, p, rv with
  | [w], p, rv =>
    obtain ⟨v, rfl, ra⟩ := rv.one
    obtain ⟨t, e, p⟩ := orBad_of p
    obtain ⟨b, e2, p⟩ := orBad_of p
    exact ⟨v, .ty T, .type t, .type T, b, rfl, .ty T, tyW_ok r e ra, kit_ty e2, post_ok r p rfl⟩
/-- isinstance(e, T) of a built-in type -/
theorem de_isi {T : String} {e c : Expr} {d : D} {p pos : Pos} (hK : X.K = C.K) (hg : Gl X "isinstance") (hm : X.mg "isinstance" = none) (he : PE X e (tD C E d)) (hc : PE X c (tC (.ty T)))
    (hs1 : starEach [e, c] X.env = (false, eval e X.env) :: starEach [c] X.env := by rfl) (hs2 : starEach [c] X.env = (false, eval c X.env) :: starEach [] X.env := by rfl) (hpl : (backTo pos (starEach [c] X.env)).any (·.1) = false := by rfl) :
    PE X (.Call (.Name "isinstance" p) [e, c] [] pos) (tD C E (dCal (fIsi T) (dCons d dNil))) :=
  (pe_callB call_isi hg hm (by decide +kernel) (pa_cons he (pa_cons hc pa_nil hs2) hs1) (by decide) (by decide) hs1 hpl).imp fun σ H Q ⟨m, ρ, h, r1, r2, p⟩ => by
    rw [hK]
    have p : Post C m H E (fun w m' H' => ∀ v, RV m' H' w v → Q v H') ((d ρ h).bind fun x h1 => fIsi T [x] h1) := by
      revert p
      unfold dCal dCons dNil
      cases d ρ h with
      | ok a h1 => exact fun p => p
      | exc c h1 => exact fun p => p
      | bad => exact fun p => p
    refine tD.of r1 r2 p fun w v m1 h1 H1 s1 e1 k1 rv p1 => ?_
    exact cd_isi m1 h1 H1 [w] [v] Q k1 (RVs.cons rv RVs.nil) p1

/-! ### methods of lists -/
def isLst (h : Hs) : W → Bool
  | .loc n => match h.get n with
    | some (.lst _) => true
    | _ => false
  | _ => false
def dBM (f : W → List W → Hs → Out W) (a : D) (b : DL) : D := fun ρ h => (a ρ h).bind fun x h1 => cond (isLst h1 x) ((b ρ h1).bind fun ws h2 => f x ws h2) .bad
def BmD (C : Cn) (E : XK) (r : V → List V → Hp → VK → Prop) (f : W → List W → Hs → Out W) : Prop := ∀ m h H x vx ws xs (Q : VK), C.rh m h H → RV m H x vx → RVs m H ws xs → Post C m H E (fun w m' H' => ∀ v, RV m' H' w v → Q v H') (f x ws h) → r vx xs H Q
theorem isLst_ty {w : W} {v : V} (r : C.rh m h H) (e : isLst h w = true) (rv : RV m H w v) : tyV C.K "list" v H := by
  match w, e, rv with
  | .loc n, e, rv =>
    have e : (match h.get n with | some (.lst _) => true | _ => false) = true := e
    cases e0 : h.get n with
    | none => rw [e0] at e; cases e
    | some o =>
      rw [e0] at e
      match o, e with
      | .lst ws, _ =>
        obtain ⟨a, ys, rfl, _, q1, r1⟩ := lst_of (ws := ws) r (by unfold lstAt; rw [e0]) rv
        exact .inl ⟨rfl, ys, SqL.of q1⟩
section
variable {o e : Expr} {es : List Expr} {name : Str} {id : String} {apos cpos : Pos} {r : V → List V → Hp → VK → Prop} {f : W → List W → Hs → Out W} {da : D} {dl : DL}
theorem de_bm (hK : X.K = C.K) (pa : PlainAttrs "list") (slot : Slot "list" name id) (hty : typeOf (.builtin id) = pure (.type "method_descriptor")) (hm : MtR X id r) (hf : BmD C E r f) (ho : PE X o (tD C E da)) (ha : PA X (e :: es) (tDL C E dl))
    (hbase : attributeBase o name X.env (eval o X.env) = eval o X.env := by rfl)
    (hfew : ((backTo cpos (starEach (e :: es) X.env)).all (fun x => !x.1) && (backToKw cpos (keywordEach [] X.env)).all (fun x => x.1.isSome)
      && decide ((e :: es).length + ([] : List Keyword).length + (if ([] : List Keyword).isEmpty then 0 else 1) < 30)) = true := by rfl)
    (hline : (apos.endLine == cpos.line) = true := by rfl) (hs : starEach (e :: es) X.env = (false, eval e X.env) :: starEach es X.env := by rfl) (hplain : (backTo cpos (starEach es X.env)).any (·.1) = false := by rfl) :
    PE X (.Call (.Attribute o name apos) (e :: es) [] cpos) (tD C E (dBM f da dl)) :=
  (pe_bm pa slot hty hm ho ha hbase hfew hline hs hplain).imp fun σ H Q ⟨m, ρ, h, r1, r2, p⟩ => by
    rw [hK]
    refine tD.of r1 r2 p fun w v m1 h1 H1 s1 e1 k1 rv p1 => ?_
    obtain ⟨c, p1⟩ := cond_of p1
    refine ⟨isLst_ty k1 c rv, tDL.of e1 k1 p1 fun ws vs m2 h2 H2 s2 e2 k2 rv2 p2 => ?_⟩
    exact hf m2 h2 H2 w v ws vs Q k2 (s2.rv k1 w v rv) rv2 p2
theorem de_bm0 (hK : X.K = C.K) (pa : PlainAttrs "list") (slot : Slot "list" name id) (hty : typeOf (.builtin id) = pure (.type "method_descriptor")) (hm : MtR X id r) (hf : BmD C E r f) (ho : PE X o (tD C E da))
    (hbase : attributeBase o name X.env (eval o X.env) = eval o X.env := by rfl) (hline : (apos.endLine == cpos.line) = true := by rfl) : PE X (.Call (.Attribute o name apos) [] [] cpos) (tD C E (dBM f da dNil)) :=
  (pe_bm0 pa slot hty hm ho hbase hline).imp fun σ H Q ⟨m, ρ, h, r1, r2, p⟩ => by
    rw [hK]
    refine tD.of r1 r2 p fun w v m1 h1 H1 s1 e1 k1 rv p1 => ?_
    obtain ⟨c, p1⟩ := cond_of p1
    exact ⟨isLst_ty k1 c rv, hf m1 h1 H1 w v [] [] Q k1 rv RVs.nil p1⟩
end
/-- a list is written: ws there, new behind -/
def setL {α : Type} (h : Hs) (n : Nat) (ws : List W) (k : Hs → Out α) : Out α := orBad (h.set n (.lst ws)) k
theorem set_lst {n : Nat} {ws us : List W} {v : V} {ys : List V} {α : Type} {k : Hs → Out α} {R : α → List Addr → Hp → Prop} (r : C.rh m h H) (e : lstAt h n = some us) (rv : RV m H (.loc n) v) (ru : RVs m H ws ys) (p : Post C m H E R (setL h n ws k)) :
    ∃ a xs h2, v = .ref a ∧ H a = some (.lst xs) ∧ RVs m H us xs ∧ Step m H m (upd H a (.lst ys)) ∧ C.rh m h2 (upd H a (.lst ys)) ∧ Post C m (upd H a (.lst ys)) E R (k h2) := by
  obtain ⟨a, xs, rfl, ha, q1, r1⟩ := lst_of r e rv
  obtain ⟨h2, e2, p⟩ := orBad_of p
  have s := step_set (o := .lst ys) (H := H) ha fun o u z => by rw [q1] at z; cases z
  exact ⟨a, xs, h2, rfl, q1, r1, s, r.set ha e2 ⟨ys, upd_same, s.rvs r _ _ ru⟩, p.later s⟩
def fApp : W → List W → Hs → Out W
  | .loc n, [w], h => orBad (lstAt h n) fun ws => cond (Nat.blt ws.length 100000) (appS ws [w] fun l => setL h n l fun h2 => .ok .non h2) .bad
  | _, _, _ => .bad
theorem blt_sz {n : Nat} (h : Nat.blt n 100000 = true) : n < sizeLine := Nat.lt_of_lt_of_le (blt_lt h) (by decide)
theorem bd_app : BmD C E rAppend fApp := by
  intro m h H x vx ws xs Q r rx rv p
  match x, ws, p, rx, rv with
  | .loc n, [w], p, rx, rv =>
    obtain ⟨v, rfl, rw'⟩ := rv.one
    obtain ⟨us, e, p⟩ := orBad_of p
    obtain ⟨c, p⟩ := cond_of p
    rw [appS_eq] at p
    obtain ⟨a, xs, rfl, _, q1, r1⟩ := lst_of r e rx
    obtain ⟨a', xs', h2, e1, q2, r2, s, k2, p⟩ := set_lst r e rx (r1.append (RVs.cons rw' RVs.nil)) p
    cases e1
    exact ⟨a, xs, v, rfl, rfl, q1, by rw [← r1.length]; exact blt_sz c, p m _ Step.refl k2 _ rfl⟩
def fExt : W → List W → Hs → Out W
  | .loc n, [.tup w], h => orBad (lstAt h n) fun ws => cond (sz (ws.length + w.length)) (appS ws w fun l => setL h n l fun h2 => .ok .non h2) .bad
  | .loc n, [.loc k], h => orBad (lstAt h n) fun ws => orBad (lstAt h k) fun w => cond (sz (ws.length + w.length)) (appS ws w fun l => setL h n l fun h2 => .ok .non h2) .bad
  | _, _, _ => .bad
def rExt (K : PySem.W.Frag) : V → List V → Hp → VK → Prop := fun x xs H Q => rExtend x xs H Q ∨ Lx.rExtT K x xs H Q
theorem mt_ext (hK : X.K = C.K) : MtR X "list.extend" (rExt C.K) := by
  rw [← hK]
  exact MtR.or mt_extend Lx.mt_extT
theorem bd_ext : BmD C E (rExt C.K) fExt := by
  intro m h H x vx ws xs Q r rx rv p
  match x, ws, p, rx, rv with
  | .loc n, [.tup w], p, rx, rv =>
    obtain ⟨v, rfl, b, ys, rfl, q3, r3⟩ := rv.one
    obtain ⟨us, e, p⟩ := orBad_of p
    obtain ⟨c, p⟩ := cond_of p
    rw [appS_eq] at p
    obtain ⟨a, xs, rfl, _, q1, r1⟩ := lst_of r e rx
    obtain ⟨a', xs', h2, e1, q2, r2, s, k2, p⟩ := set_lst r e rx (r1.append r3) p
    cases e1
    exact .inr ⟨a, b, xs, ys, rfl, rfl, q1, SqT.of q3, by rw [← r1.length, ← r3.length]; exact sz_le c, p m _ Step.refl k2 _ rfl⟩
  | .loc n, [.loc k], p, rx, rv =>
    obtain ⟨v, rfl, rb⟩ := rv.one
    obtain ⟨us, e, p⟩ := orBad_of p
    obtain ⟨w, e', p⟩ := orBad_of p
    obtain ⟨c, p⟩ := cond_of p
    rw [appS_eq] at p
    obtain ⟨a, xs, rfl, _, q1, r1⟩ := lst_of r e rx
    obtain ⟨b, ys, rfl, _, q3, r3⟩ := lst_of r e' rb
    obtain ⟨a', xs', h2, e1, q2, r2, s, k2, p⟩ := set_lst r e rx (r1.append r3) p
    cases e1
    exact .inl ⟨a, b, xs, ys, rfl, rfl, q1, q3, by rw [← r1.length, ← r3.length]; exact sz_le c, p m _ Step.refl k2 _ rfl⟩
def lastS {α : Type} (ws : List W) (k : List W → W → Out α) : Out α := List.rec (motive := fun _ => (List W → W → Out α) → Out α) (fun _ => .bad) (fun x xs ih k => List.rec (k [] x) (fun _ _ _ => ih fun l y => k (x :: l) y) xs) ws k
theorem lastS_eq {α : Type} : ∀ (ws : List W) (k : List W → W → Out α), (ws = [] ∧ lastS ws k = .bad) ∨ ∃ l y, ws = l ++ [y] ∧ lastS ws k = k l y
  | [], k => .inl ⟨rfl, rfl⟩
  | [x], k => .inr ⟨[], x, rfl, rfl⟩
  | x :: y :: ws, k => by
    have e : lastS (x :: y :: ws) k = lastS (y :: ws) fun l z => k (x :: l) z := rfl
    rcases lastS_eq (y :: ws) fun l z => k (x :: l) z with ⟨h, _⟩ | ⟨l, z, h1, h2⟩
    · cases h
    · exact .inr ⟨x :: l, z, by rw [h1]; rfl, e.trans h2⟩
def fPop : W → List W → Hs → Out W
  | .loc n, [], h => orBad (lstAt h n) fun ws => lastS ws fun l w => setL h n l fun h2 => .ok w h2
  | _, _, _ => .bad
theorem RVs.split : ∀ {l : List W} {w : W} {xs : List V}, RVs m H (l ++ [w]) xs → ∃ ys v, xs = ys ++ [v] ∧ RVs m H l ys ∧ RV m H w v
  | [], w, xs, r => by
    obtain ⟨v, rfl, a⟩ := r.one
    exact ⟨[], v, rfl, rfl, a⟩
  | u :: l, w, _, r => by
    obtain ⟨v, vs, rfl, a, b⟩ := r
    obtain ⟨ys, z, rfl, c, d⟩ := RVs.split b
    exact ⟨v :: ys, z, rfl, RVs.cons a c, d⟩
theorem bd_pop : BmD C E rPop fPop := by
  intro m h H x vx ws xs Q r rx rv p
  match x, ws, p, rx, rv with
  | .loc n, [], p, rx, rv =>
    cases rv
    obtain ⟨us, e, p⟩ := orBad_of p
    have p : Post C m H E _ (lastS us fun l w => setL h n l fun h2 => .ok w h2) := p
    rcases lastS_eq us fun l w => setL h n l fun h2 => Out.ok w h2 with ⟨_, h2⟩ | ⟨l, w, rfl, h2⟩
    · rw [h2] at p
      exact p.elim
    · rw [h2] at p
      obtain ⟨a, xs, rfl, _, q1, r1⟩ := lst_of r e rx
      obtain ⟨ys, v, rfl, r3, r4⟩ := r1.split
      obtain ⟨a', xs', h3, e1, q2, r2, s, k2, p⟩ := set_lst r e rx r3 p
      cases e1
      refine ⟨a, _, v, rfl, rfl, q1, by simp, ?_⟩
      rw [List.dropLast_concat]
      exact p m _ Step.refl k2 v (s.rv r w v r4)
end
end Vz
end
/-! dicts; tests -/
noncomputable section
namespace Vz
open PySem PySem.Spec PyProof.Rows L2

def eqKey : W → W → Bool
  | .int i, .int j => eqI i j
  | .str a, .str b => eqNs a b
  | _, _ => false
def eqKeys : List W → List W → Bool
  | [], [] => true
  | a :: as, b :: bs => cond (eqKey a b) (eqKeys as bs) false
  | _, _ => false
def eqTup : W → W → Bool
  | .tup a, .tup b => eqKeys a b
  | _, _ => false
def lookG (eq : W → W → Bool) (k : W) : List (W × W) → Option W
  | [] => none
  | (a, w) :: r => cond (eq a k) (some w) (lookG eq k r)
def hasG (eq : W → W → Bool) (k : W) : List (W × W) → Bool
  | [] => false
  | (a, _) :: r => cond (eq a k) true (hasG eq k r)
def replG (eq : W → W → Bool) (k v : W) : List (W × W) → List (W × W)
  | [] => []
  | (a, w) :: r => (a, cond (eq a k) v w) :: replG eq k v r
def putG (eq : W → W → Bool) (kvs : List (W × W)) (k v : W) : List (W × W) := cond (hasG eq k kvs) (replG eq k v kvs) (kvs ++ [(k, v)])
section
variable {C : Cn} {m : List Addr} {H : Hp} {h : Hs} {X : Cx} {E : XK}
theorem eqKey_ok {a b : W} {k k' : Key} (ha : keyW a = some k) (hb : keyW b = some k') : eqKey a b = decide (k = k') := by
  match a, b, ha, hb with
  | .int i, .int j, ha, hb =>
    cases ha
    cases hb
    show eqI i j = _
    rw [eqI_eq]
    simp
  | .str x, .str y, ha, hb =>
    cases ha
    cases hb
    show eqNs x y = _
    rw [eqNs_eq]
    simp
  | .int i, .str y, ha, hb =>
    cases ha
    cases hb
    exact (decide_eq_false fun z => nomatch z).symm
  | .str x, .int j, ha, hb =>
    cases ha
    cases hb
    exact (decide_eq_false fun z => nomatch z).symm
theorem keysW_cons {w : W} {ws : List W} {l : List Key} (e : keysW (w :: ws) = some l) : ∃ k ks, l = k :: ks ∧ keyW w = some k ∧ keysW ws = some ks := by
  unfold keysW at e
  cases h1 : keyW w with
  | none => rw [h1] at e; cases e
  | some k =>
    cases h2 : keysW ws with
    | none => rw [h1, h2] at e; cases e
    | some ks =>
      rw [h1, h2] at e
      cases e
      exact ⟨k, ks, rfl, rfl, rfl⟩
theorem eqKeys_ok : ∀ {a b : List W} {k k' : List Key}, keysW a = some k → keysW b = some k' → eqKeys a b = decide (k = k')
  | [], [], _, _, ha, hb => by cases ha; cases hb; rfl
  | [], _ :: _, _, _, ha, hb => by
    obtain ⟨x, xs, rfl, _, _⟩ := keysW_cons hb
    cases ha
    exact (decide_eq_false fun z => nomatch z).symm
  | _ :: _, [], _, _, ha, hb => by
    obtain ⟨x, xs, rfl, _, _⟩ := keysW_cons ha
    cases hb
    exact (decide_eq_false fun z => nomatch z).symm
  | a :: as, b :: bs, _, _, ha, hb => by
    obtain ⟨x, xs, rfl, h1, h2⟩ := keysW_cons ha
    obtain ⟨y, ys, rfl, h3, h4⟩ := keysW_cons hb
    show cond (eqKey a b) (eqKeys as bs) false = _
    rw [eqKey_ok h1 h3, eqKeys_ok h2 h4]
    by_cases e : x = y
    · subst e
      simp
    · rw [decide_eq_false e]
      exact (decide_eq_false fun z => e (List.cons.inj z).1).symm
theorem eqTup_ok {a b : W} {k k' : List Key} (ha : keyT a = some k) (hb : keyT b = some k') : eqTup a b = decide (k = k') := by
  match a, b, ha, hb with
  | .tup x, .tup y, ha, hb => exact eqKeys_ok (a := x) (b := y) ha hb
/-- a kind of keys -/
structure KOk {κ : Type} [DecidableEq κ] (kw : W → Option κ) (eq : W → W → Bool) : Prop where
  eq : ∀ a b k k', kw a = some k → kw b = some k' → eq a b = decide (k = k')
theorem kok : KOk keyW eqKey := ⟨fun _ _ _ _ => eqKey_ok⟩
theorem kokT : KOk keyT eqTup := ⟨fun _ _ _ _ => eqTup_ok⟩
section
variable {κ : Type} [DecidableEq κ] {kw : W → Option κ} {eq : W → W → Bool}
theorem look_ok (ok : KOk kw eq) {key : W} {k : κ} (hk : kw key = some k) : ∀ {kvs : List (W × W)} {ks : List (κ × V)}, RD kw m H kvs ks →
    (lookG eq key kvs = none ∧ valV ks k = none) ∨ ∃ w v, lookG eq key kvs = some w ∧ valV ks k = some v ∧ RV m H w v
  | [], _, r => by cases r; exact .inl ⟨rfl, rfl⟩
  | (a, w) :: kvs, _, r => by
    obtain ⟨k', v, rs, rfl, h1, h2, h3⟩ := r
    have e : lookG eq key ((a, w) :: kvs) = cond (eq a key) (some w) (lookG eq key kvs) := rfl
    rw [e, ok.eq _ _ _ _ h1 hk]
    by_cases hq : k' = k
    · rw [decide_eq_true hq, valV_pos (p := (k', v)) hq]
      exact .inr ⟨w, v, rfl, rfl, h2⟩
    · rw [decide_eq_false hq, valV_neg (p := (k', v)) hq]
      exact look_ok ok hk h3
theorem has_ok (ok : KOk kw eq) {key : W} {k : κ} (hk : kw key = some k) : ∀ {kvs : List (W × W)} {ks : List (κ × V)}, RD kw m H kvs ks → hasG eq key kvs = ks.any fun kv => decide (kv.1 = k)
  | [], _, r => by cases r; rfl
  | (a, w) :: kvs, _, r => by
    obtain ⟨k', v, rs, rfl, h1, h2, h3⟩ := r
    have e : hasG eq key ((a, w) :: kvs) = cond (eq a key) true (hasG eq key kvs) := rfl
    rw [e, ok.eq _ _ _ _ h1 hk, List.any_cons, has_ok ok hk h3]
    by_cases hq : k' = k
    · rw [decide_eq_true hq]; rfl
    · rw [decide_eq_false hq]; rfl
theorem repl_ok (ok : KOk kw eq) {key u : W} {k : κ} {y : V} (hk : kw key = some k) (ru : RV m H u y) : ∀ {kvs : List (W × W)} {ks : List (κ × V)}, RD kw m H kvs ks → RD kw m H (replG eq key u kvs) (ks.map fun kv => if kv.1 = k then (kv.1, y) else kv)
  | [], _, r => by cases r; exact rfl
  | (a, w) :: kvs, _, r => by
    obtain ⟨k', v, rs, rfl, h1, h2, h3⟩ := r
    have e : replG eq key u ((a, w) :: kvs) = (a, cond (eq a key) u w) :: replG eq key u kvs := rfl
    rw [e, ok.eq _ _ _ _ h1 hk, List.map_cons]
    by_cases hq : k' = k
    · rw [decide_eq_true hq, if_pos hq]
      exact ⟨k', y, _, rfl, h1, ru, repl_ok ok hk ru h3⟩
    · rw [decide_eq_false hq, if_neg hq]
      exact ⟨k', v, _, rfl, h1, h2, repl_ok ok hk ru h3⟩
theorem snoc_ok {key u : W} {k : κ} {y : V} (hk : kw key = some k) (ru : RV m H u y) : ∀ {kvs : List (W × W)} {ks : List (κ × V)}, RD kw m H kvs ks → RD kw m H (kvs ++ [(key, u)]) (ks ++ [(k, y)])
  | [], _, r => by cases r; exact ⟨k, y, [], rfl, hk, ru, rfl⟩
  | (a, w) :: kvs, _, r => by
    obtain ⟨k', v, rs, rfl, h1, h2, h3⟩ := r
    exact ⟨k', v, _, rfl, h1, h2, snoc_ok hk ru h3⟩
theorem put_ok (ok : KOk kw eq) {key u : W} {k : κ} {y : V} (hk : kw key = some k) (ru : RV m H u y) {kvs : List (W × W)} {ks : List (κ × V)} (r : RD kw m H kvs ks) : RD kw m H (putG eq kvs key u) (putK ks k y) := by
  unfold putG putK
  rw [has_ok ok hk r]
  cases ks.any fun kv => decide (kv.1 = k) with
  | true => exact repl_ok ok hk ru r
  | false => exact snoc_ok hk ru r
end
theorem dctT_of {n : Nat} {kvs : List (W × W)} {lk : Bool} {v : V} (r : C.rh m h H) (e : h.get n = some (.dct true kvs lk)) (rv : RV m H (.loc n) v) : ∃ a ks, v = .ref a ∧ m[n]? = some a ∧ Rd H a (.dT ks) ∧ (lk = false → H a = some (.dT ks)) ∧ (lk = true → ∃ od, H a = some (.frz od (.dT ks))) ∧ RD keyT m H kvs ks := by
  obtain ⟨a, ha, rfl⟩ := rv
  obtain ⟨b, hb, q⟩ := r.at e
  rw [ha] at hb
  cases hb
  cases lk with
  | false =>
    obtain ⟨u, q, ks, rfl, q2⟩ := q
    exact ⟨a, ks, rfl, ha, .inl q, fun _ => q, fun z => (by cases z), q2⟩
  | true =>
    obtain ⟨u, od, q, ks, rfl, q2⟩ := q
    exact ⟨a, ks, rfl, ha, .inr ⟨od, q⟩, fun z => (by cases z), fun _ => ⟨od, q⟩, q2⟩
/-- what a dict holds at a key -/
def dctGet (h : Hs) (x key : W) : Option (Option W) := match x with
  | .loc n => match h.get n with
    | some (.dct false kvs _) => match keyW key with
      | some _ => some (lookG eqKey key kvs)
      | none => none
    | some (.dct true kvs _) => match keyT key with
      | some _ => some (lookG eqTup key kvs)
      | none => none
    | _ => none
  | _ => none
theorem kV_of {w : W} {v : V} {k : Key} (e : keyW w = some k) (rv : RV m H w v) : v = kV k := by
  match w, e, rv with
  | .int i, e, rv => cases e; cases rv; rfl
  | .str i, e, rv => cases e; cases rv; rfl
theorem kVs_of : ∀ {ws : List W} {xs : List V} {ks : List Key}, keysW ws = some ks → RVs m H ws xs → xs = ks.map kV
  | [], _, _, e, rv => by cases e; cases rv; rfl
  | w :: ws, _, _, e, rv => by
    obtain ⟨k, ks, rfl, e1, e2⟩ := keysW_cons e
    obtain ⟨v, vs, rfl, r1, r2⟩ := rv
    rw [kV_of e1 r1, kVs_of e2 r2]
    rfl
theorem keyT_of {w : W} {v : V} {k : List Key} (e : keyT w = some k) (rv : RV m H w v) : ∃ b, v = .ref b ∧ H b = some (.tup (k.map kV)) := by
  match w, e, rv with
  | .tup ws, e, rv =>
    obtain ⟨a, xs, rfl, q, r⟩ := rv
    have e : keysW ws = some k := e
    rw [kVs_of e r] at q
    exact ⟨a, rfl, q⟩
theorem dctGet_ok (r : C.rh m h H) {x key : W} {vx vk : V} {o : Option W} (e : dctGet h x key = some o) (rx : RV m H x vx) (rk : RV m H key vk) :
    ∃ a, vx = .ref a ∧ ((o = none ∧ DGet H a vk none) ∨ ∃ w v, o = some w ∧ DGet H a vk (some v) ∧ RV m H w v) := by
  match x, e, rx with
  | .loc n, e, rx =>
    have e : (match h.get n with
      | some (.dct false kvs _) => match keyW key with
        | some _ => some (lookG eqKey key kvs)
        | none => none
      | some (.dct true kvs _) => match keyT key with
        | some _ => some (lookG eqTup key kvs)
        | none => none
      | _ => none) = some o := e
    cases e0 : h.get n with
    | none => rw [e0] at e; cases e
    | some ob =>
      rw [e0] at e
      match ob, e, e0 with
      | .dct false kvs lk, e, e0 =>
        cases hk : keyW key with
        | none => simp only [hk] at e; cases e
        | some k =>
          simp only [hk] at e
          obtain ⟨a, ks, rfl, _, q1, _, _, q2⟩ := dct_of r e0 rx
          have ek := kV_of hk rk
          refine ⟨a, rfl, ?_⟩
          have e := Option.some.inj e
          rcases look_ok kok hk q2 with ⟨z1, z2⟩ | ⟨w, v, z1, z2, z3⟩
          · exact .inl ⟨by rw [← e, z1], .inl ⟨ks, k, q1, ek, z2.symm⟩⟩
          · exact .inr ⟨w, v, by rw [← e, z1], .inl ⟨ks, k, q1, ek, z2.symm⟩, z3⟩
      | .dct true kvs lk, e, e0 =>
        cases hk : keyT key with
        | none => simp only [hk] at e; cases e
        | some k =>
          simp only [hk] at e
          obtain ⟨a, ks, rfl, _, q1, _, _, q2⟩ := dctT_of r e0 rx
          obtain ⟨b, eb, hb⟩ := keyT_of hk rk
          refine ⟨a, rfl, ?_⟩
          have e := Option.some.inj e
          rcases look_ok kokT hk q2 with ⟨z1, z2⟩ | ⟨w, v, z1, z2, z3⟩
          · exact .inl ⟨by rw [← e, z1], .inr ⟨ks, k, b, q1, eb, hb, z2.symm⟩⟩
          · exact .inr ⟨w, v, by rw [← e, z1], .inr ⟨ks, k, b, q1, eb, hb, z2.symm⟩, z3⟩
def dDGet (a b : D) : D := fun ρ h => (a ρ h).bind fun x h1 => (b ρ h1).bind fun y h2 => orBad (dctGet h2 x y) fun o => orBad o fun w => .ok w h2
def dDIn (b : Bool) (k a : D) : D := fun ρ h => (k ρ h).bind fun y h1 => (a ρ h1).bind fun x h2 => orBad (dctGet h2 x y) fun o => Option.rec (.ok (.bl (!b)) h2) (fun _ => .ok (.bl b) h2) o
section
variable {o i e : Expr} {pos : Pos} {da db : D}
theorem de_dget (hu : X.A.units + 1 < cLine) (ho : PE X o (tD C E da)) (hi : PE X i (tD C E db)) (hs : NoSl i) : PE X (.Subscript o i pos) (tD C E (dDGet da db)) :=
  (pe_dget hu ho hi hs).imp fun σ H Q ⟨m, ρ, h, r1, r2, p⟩ => by
    refine tD.of r1 r2 p fun w v m1 h1 H1 s1 e1 k1 rv p1 => ?_
    refine tD.of e1 k1 p1 fun w2 v2 m2 h2 H2 s2 e2 k2 rv2 p2 => ?_
    obtain ⟨ob, q1, p2⟩ := orBad_of p2
    obtain ⟨w3, rfl, p2⟩ := orBad_of p2
    obtain ⟨a, rfl, z⟩ := dctGet_ok k2 q1 (s2.rv k1 w v rv) rv2
    rcases z with ⟨z, _⟩ | ⟨w', v', z1, z2, z3⟩
    · cases z
    · cases z1
      exact ⟨a, v', rfl, z2, post_ok k2 p2 z3⟩
theorem de_din (hu : X.A.units + 1 < cLine) (hi : PE X i (tD C E db)) (ho : PE X o (tD C E da)) : PC X .In i o (tD C E (dDIn true db da)) := ⟨fun pins s σ H Q I ⟨m, ρ, h, r1, r2, p⟩ => (pc_din hu hi ho).run pins s σ H Q I (by
    refine tD.of r1 r2 p fun w v m1 h1 H1 s1 e1 k1 rv p1 => ?_
    refine tD.of e1 k1 p1 fun w2 v2 m2 h2 H2 s2 e2 k2 rv2 p2 => ?_
    obtain ⟨ob, q1, p2⟩ := orBad_of p2
    obtain ⟨a, rfl, z⟩ := dctGet_ok k2 q1 rv2 (s2.rv k1 w v rv)
    rcases z with ⟨rfl, z⟩ | ⟨w', v', rfl, z2, z3⟩
    · exact ⟨a, none, rfl, z, post_ok (w := .bl false) k2 p2 rfl⟩
    · exact ⟨a, some v', rfl, z2, post_ok (w := .bl true) k2 p2 rfl⟩)⟩
theorem de_dnotin (hu : X.A.units + 1 < cLine) (hi : PE X i (tD C E db)) (ho : PE X o (tD C E da)) : PC X .NotIn i o (tD C E (dDIn false db da)) := ⟨fun pins s σ H Q I ⟨m, ρ, h, r1, r2, p⟩ => (pc_dnotin hu hi ho).run pins s σ H Q I (by
    refine tD.of r1 r2 p fun w v m1 h1 H1 s1 e1 k1 rv p1 => ?_
    refine tD.of e1 k1 p1 fun w2 v2 m2 h2 H2 s2 e2 k2 rv2 p2 => ?_
    obtain ⟨ob, q1, p2⟩ := orBad_of p2
    obtain ⟨a, rfl, z⟩ := dctGet_ok k2 q1 rv2 (s2.rv k1 w v rv)
    rcases z with ⟨rfl, z⟩ | ⟨w', v', rfl, z2, z3⟩
    · exact ⟨a, none, rfl, z, post_ok (w := .bl true) k2 p2 rfl⟩
    · exact ⟨a, some v', rfl, z2, post_ok (w := .bl false) k2 p2 rfl⟩)⟩
end
/-- {} -/
def dDNew (t : Bool) : D := fun _ h => orBad (h.new (.dct t [] false)) fun h2 => .ok (.loc h.n) h2
theorem de_dnewK {pos : Pos} : PE X (.Dict [] [] pos) (tD C E (dDNew false)) := pe_dnewK.imp fun σ H Q ⟨m, ρ, h, r1, r2, p⟩ q hq => by
  obtain ⟨h2, e, p⟩ := orBad_of p
  exact p _ _ (step_new hq) (r2.new hq e ⟨_, upd_same, [], rfl, rfl⟩) _ ⟨q, new_get r2 q, rfl⟩
theorem de_dnewT {pos : Pos} : PE X (.Dict [] [] pos) (tD C E (dDNew true)) := pe_dnewT.imp fun σ H Q ⟨m, ρ, h, r1, r2, p⟩ q hq => by
  obtain ⟨h2, e, p⟩ := orBad_of p
  exact p _ _ (step_new hq) (r2.new hq e ⟨_, upd_same, [], rfl, rfl⟩) _ ⟨q, new_get r2 q, rfl⟩
/-- d[k] = v -/
def dctPut {α : Type} (h : Hs) (x key v : W) (k : Hs → Out α) : Out α := match x with
  | .loc n => match h.get n with
    | some (.dct false kvs false) => match keyW key with
      | some _ => cond (Nat.blt kvs.length 100000) (orBad (h.set n (.dct false (putG eqKey kvs key v) false)) k) .bad
      | none => .bad
    | some (.dct true kvs false) => match keyT key with
      | some _ => cond (Nat.blt kvs.length 100000) (orBad (h.set n (.dct true (putG eqTup kvs key v) false)) k) .bad
      | none => .bad
    | _ => .bad
  | _ => .bad
theorem dctPut_ok {α : Type} {k : Hs → Out α} {R : α → List Addr → Hp → Prop} (r : C.rh m h H) {x key v : W} {vx vk vv : V} (rx : RV m H x vx) (rk : RV m H key vk) (rv : RV m H v vv) (p : Post C m H E R (dctPut h x key v k)) :
    ∃ a H2 h2, vx = .ref a ∧ DPut H a vk vv H2 ∧ Step m H m H2 ∧ C.rh m h2 H2 ∧ Post C m H2 E R (k h2) := by
  match x, p, rx with
  | .loc n, p, rx =>
    have p : Post C m H E R (match h.get n with
    | some (.dct false kvs false) => match keyW key with
      | some _ => cond (Nat.blt kvs.length 100000) (orBad (h.set n (.dct false (putG eqKey kvs key v) false)) k) .bad
      | none => .bad
    | some (.dct true kvs false) => match keyT key with
      | some _ => cond (Nat.blt kvs.length 100000) (orBad (h.set n (.dct true (putG eqTup kvs key v) false)) k) .bad
      | none => .bad
    | _ => .bad) := p
    cases e0 : h.get n with
    | none => rw [e0] at p; exact p.elim
    | some ob =>
      rw [e0] at p
      match ob, p, e0 with
      | .dct false kvs false, p, e0 =>
        cases hk : keyW key with
        | none => simp only [hk] at p; exact p.elim
        | some kk =>
          simp only [hk] at p
          obtain ⟨c, p⟩ := cond_of p
          obtain ⟨h2, e2, p⟩ := orBad_of p
          obtain ⟨a, ks, rfl, ha, _, q1, _, q2⟩ := dct_of r e0 rx
          have q1 := q1 rfl
          have s := step_set (H := H) (o := .dK (putK ks kk vv)) ha fun o u z => by rw [q1] at z; cases z
          refine ⟨a, _, h2, rfl, ?_, s, r.set ha e2 ⟨_, upd_same, _, rfl, s.rd r _ _ (put_ok kok hk rv q2)⟩, p.later s⟩
          rw [kV_of hk rk]
          exact DPut.k q1 (by rw [← q2.length]; exact blt_sz c)
      | .dct true kvs false, p, e0 =>
        cases hk : keyT key with
        | none => simp only [hk] at p; exact p.elim
        | some kk =>
          simp only [hk] at p
          obtain ⟨c, p⟩ := cond_of p
          obtain ⟨h2, e2, p⟩ := orBad_of p
          obtain ⟨a, ks, rfl, ha, _, q1, _, q2⟩ := dctT_of r e0 rx
          have q1 := q1 rfl
          obtain ⟨b, rfl, hb⟩ := keyT_of hk rk
          have s := step_set (H := H) (o := .dT (putK ks kk vv)) ha fun o u z => by rw [q1] at z; cases z
          exact ⟨a, _, h2, rfl, DPut.t q1 hb (by rw [← q2.length]; exact blt_sz c), s, r.set ha e2 ⟨_, upd_same, _, rfl, s.rd r _ _ (put_ok kokT hk rv q2)⟩, p.later s⟩
end
end Vz
end
/-! displays of dicts; tests; values of tests -/
noncomputable section
namespace Vz
open PySem PySem.Spec PyProof.Rows L2

section
variable {C : Cn} {m : List Addr} {H : Hp} {h : Hs} {X : Cx} {E : XK}
/-! ### {k: v, ..} -/
def RVp (m : List Addr) (H : Hp) : List (W × W) → List (V × V) → Prop
  | [], xs => xs = []
  | (a, b) :: r, xs => ∃ x y rs, xs = (x, y) :: rs ∧ RV m H a x ∧ RV m H b y ∧ RVp m H r rs
theorem Step.rvp {m' : List Addr} {H' : Hp} (s : Step m H m' H') (r : C.rh m h H) : ∀ {ws : List (W × W)} {xs : List (V × V)}, RVp m H ws xs → RVp m' H' ws xs
  | [], _, e => e
  | (a, b) :: ws, _, e => by
    obtain ⟨x, y, rs, rfl, p, q, t⟩ := e
    exact ⟨x, y, rs, rfl, s.rv r a x p, s.rv r b y q, s.rvp r t⟩
def dPairs : List (D × D) → Env → Hs → Out (List (W × W))
  | [], _, h => .ok [] h
  | (a, b) :: r, ρ, h => (a ρ h).bind fun x h1 => (b ρ h1).bind fun y h2 => (dPairs r ρ h2).bind fun l h3 => .ok ((x, y) :: l) h3
theorem pairs_of {σ : L2.St} {ρ : Env} {α : Type} {m0 : List Addr} {H0 : Hp} {R : α → List Addr → Hp → Prop} : ∀ {ts : List (D × D)} {m : List Addr} {h : Hs} {H : Hp} {Q : List (V × V) → Hp → Prop} {f : List (W × W) → Hs → Out α}, Step m0 H0 m H → RE m H ρ σ → C.rh m h H →
    Post C m0 H0 E R ((dPairs ts ρ h).bind f) → (∀ ws xs m1 h1 H1, Step m H m1 H1 → C.rh m1 h1 H1 → RVp m1 H1 ws xs → Post C m0 H0 E R (f ws h1) → Q xs H1) → tPairs (ts.map fun p => (tD C E p.1, tD C E p.2)) σ H Q
  | [], m, h, H, Q, f, s0, r1, r2, p, k => k [] [] m h H Step.refl r2 rfl p
  | (a, b) :: ts, m, h, H, Q, f, s0, r1, r2, p, k => by
    have p : Post C m0 H0 E R ((a ρ h).bind fun x h1 => (b ρ h1).bind fun y h2 => (dPairs ts ρ h2).bind fun l h3 => f ((x, y) :: l) h3) := by
      have e : (dPairs ((a, b) :: ts) ρ h).bind f = (a ρ h).bind fun x h1 => (b ρ h1).bind fun y h2 => (dPairs ts ρ h2).bind fun l h3 => f ((x, y) :: l) h3 := by
        show (Out.bind (a ρ h) _).bind f = _
        cases a ρ h with
        | ok x h1 =>
          show (Out.bind (b ρ h1) _).bind f = Out.bind (b ρ h1) _
          cases b ρ h1 with
          | ok y h2 =>
            show (Out.bind (dPairs ts ρ h2) _).bind f = Out.bind (dPairs ts ρ h2) _
            cases dPairs ts ρ h2 <;> rfl
          | exc c h2 => rfl
          | bad => rfl
        | exc c h1 => rfl
        | bad => rfl
      rw [e] at p
      exact p
    refine tD.of0 s0 r1 r2 p fun x vx m1 h1 H1 s1 e1 k1 rx p1 => ?_
    refine tD.of0 (s0.trans s1) e1 k1 p1 fun y vy m2 h2 H2 s2 e2 k2 ry p2 => ?_
    refine pairs_of ((s0.trans s1).trans s2) e2 k2 p2 fun ws xs m3 h3 H3 s3 k3 rp p3 => ?_
    exact k ((x, y) :: ws) ((vx, vy) :: xs) m3 h3 H3 ((s1.trans s2).trans s3) k3 ⟨vx, vy, xs, rfl, (s2.trans s3).rv k1 x vx rx, s3.rv k2 y vy ry, rp⟩ p3
def mergeG (kvs : List (W × W)) : List (W × W) → List (W × W)
  | [] => kvs
  | (a, b) :: r => mergeG (putG eqKey kvs a b) r
def keysOk : List (W × W) → Bool
  | [] => true
  | (a, _) :: r => match keyW a with
    | some _ => keysOk r
    | none => false
theorem merge_ok : ∀ {ws : List (W × W)} {xs : List (V × V)} {kvs : List (W × W)} {ks : List (Key × V)}, keysOk ws = true → RVp m H ws xs → RD keyW m H kvs ks → ∃ ls : List (Key × V), xs = ls.map (fun kv => (kV kv.1, kv.2)) ∧ RD keyW m H (mergeG kvs ws) (mergeK ks ls)
  | [], xs, kvs, ks, _, e, r => by cases e; exact ⟨[], rfl, r⟩
  | (a, b) :: ws, xs, kvs, ks, ok, e, r => by
    obtain ⟨x, y, rs, rfl, p, q, t⟩ := e
    have ok : (match keyW a with | some _ => keysOk ws | none => false) = true := ok
    cases hk : keyW a with
    | none => rw [hk] at ok; cases ok
    | some k =>
      rw [hk] at ok
      obtain ⟨ls, rfl, z⟩ := merge_ok ok t (put_ok kok hk q r)
      refine ⟨(k, y) :: ls, ?_, z⟩
      rw [kV_of hk p]
      rfl
def dDisp (ts : List (D × D)) : D := fun ρ h => (dPairs ts ρ h).bind fun kvs h1 => cond (keysOk kvs && Nat.ble kvs.length 15) (orBad (h1.new (.dct false (mergeG [] kvs) false)) fun h2 => .ok (.loc h1.n) h2) .bad
theorem de_disp {pos : Pos} {keys : List (Option Expr)} {values : List Expr} {ts : List (D × D)} (hp : PPs X pos keys values (ts.map fun p => (tD C E p.1, tD C E p.2))) (hall : keys.all (·.isSome) = true) (hl : keys.length = values.length) (h0 : keys ≠ [])
    (h15 : keys.length ≤ 15) : PE X (.Dict keys values pos) (tD C E (dDisp ts)) := (pe_disp hp hall hl h0 h15).imp fun σ H Q ⟨m, ρ, h, r1, r2, p⟩ q hq => by
  have s0 := step_lay (m := m) (o := .dK []) hq
  refine pairs_of s0 (s0.re r2 r1) (r2.lay hq) p fun ws xs m1 h1 H1 s1 k1 rp p1 => ?_
  obtain ⟨c, p1⟩ := cond_of p1
  obtain ⟨c1, c2⟩ := Bool.and_eq_true_iff.mp c
  obtain ⟨h2, e2, p1⟩ := orBad_of p1
  have hq1 : H1 q = some (.dK []) := s1.fr q _ upd_same (r2.notin hq)
  have hm1 : q ∉ m1 := fun z => by
    have := s1.new q z (r2.notin hq)
    rw [upd_same] at this
    cases this
  obtain ⟨ls, rfl, rd⟩ := merge_ok (kvs := []) (ks := []) c1 rp rfl
  have hlen : ∀ {ws : List (W × W)} {xs : List (V × V)}, RVp m1 H1 ws xs → ws.length = xs.length := by
    intro ws
    induction ws with
    | nil => intro xs e; cases e; rfl
    | cons a ws ih =>
      intro xs e
      obtain ⟨a1, a2⟩ := a
      obtain ⟨x, y, rs, rfl, _, _, t⟩ := e
      rw [List.length_cons, List.length_cons, ih t]
  refine ⟨hq1, ls, rfl, ?_, ?_⟩
  · have := hlen rp
    rw [List.length_map] at this
    rw [← this]
    exact Nat.le_of_ble_eq_true c2
  · have ht : ∀ xs, H1 q ≠ some (.tup xs) := fun xs z => by rw [hq1] at z; cases z
    exact p1 _ _ ((s0.trans s1).adopt hq) (k1.adopt hm1 ht e2 ⟨_, upd_same, _, rfl, (sw_adopt ht).rd _ _ rd⟩) _ ⟨q, new_get k1 q, rfl⟩
end
end Vz
end
/-! tests, and, or, not, a if t else b, chains -/
noncomputable section
namespace Vz
open PySem PySem.Spec PyProof.Rows L2

section
variable {C : Cn} {m : List Addr} {H : Hp} {h : Hs} {X : Cx} {E : XK} {a b c e : Expr} {pos : Pos} {d da db dc : D} {ta tb : DT} {rest : List Expr}
/-- a bool's value -/
def blOf {α : Type} (w : W) (k : Bool → Out α) : Out α := match w with
  | .bl b => k b
  | _ => .bad
theorem blOf_of {α : Type} {w : W} {k : Bool → Out α} {R : α → List Addr → Hp → Prop} (p : Post C m H E R (blOf w k)) : ∃ b, w = .bl b ∧ Post C m H E R (k b) := by
  match w, p with
  | .bl b, p => exact ⟨b, rfl, p⟩
def dTb (d : D) : DT := fun ρ h => (d ρ h).bind fun x h1 => blOf x fun b => Bool.rec (.ok false h1) (.ok true h1) b
theorem of_bl {b : Bool} {R : Bool → List Addr → Hp → Prop} (p : Post C m H E R (Bool.rec (.ok false h) (.ok true h) b)) : Post C m H E R (.ok b h) := by
  cases b <;> exact p
theorem dt_of {t : TT} (ht : PT X e t) (hi : ∀ σ H Q, tB (tD C E d) σ H Q → t σ H Q) : PT X e (tDT C E (dTb d)) := ht.imp fun σ H Q ⟨m, ρ, h, r1, r2, p⟩ => hi σ H Q (by
  refine tD.of r1 r2 p fun w v m1 h1 H1 s1 e1 k1 rv p1 => ?_
  obtain ⟨b, rfl, p1⟩ := blOf_of p1
  cases rv
  exact ⟨b, rfl, (of_bl p1) m1 H1 Step.refl k1⟩)
theorem dt_val (h : PE X e (tD C E d)) (he : ∀ whole, isTrue e X.env whole = (do let v ← whole; standAt e.pos; holding [v] (truthy v)) := by intro _; rfl) : PT X e (tDT C E (dTb d)) := dt_of (pt_val h he) fun _ _ _ q => q
theorem dt_cmpR {op : CmpOp} {r : R2} {f : W → W → Hs → Out W} (ho : OpR X (compareOp op) r) (hf : OpD C E r f) (ha : PE X a (tD C E da)) (hb : PE X b (tD C E db)) (hm : behindInMarks op b = false) : PT X (.Compare a [op] [b] pos) (tDT C E (dTb (dOp f da db))) :=
  dt_of (pt_cmpR ho ha hb hm) fun σ H Q q => of_op hf q
theorem dt_cmp {op : CmpOp} (hc : PC X op a b (tD C E d)) (h1 : behindInMarks op b = false := by first | exact nobehind _ (by decide) (by decide) | rfl) : PT X (.Compare a [op] [b] pos) (tDT C E (dTb d)) := dt_of (pt_cmp hc h1) fun _ _ _ q => q
theorem de_cmpP {op : CmpOp} (hc : PC X op a b (tD C E d)) (h1 : behindInMarks op b = false := by first | exact nobehind _ (by decide) (by decide) | rfl) : PE X (.Compare a [op] [b] pos) (tD C E d) := pe_cmp hc h1
/-- x op y op' z -/
def dChain (f g : W → W → Hs → Out W) (a b c : D) : D := fun ρ h => (a ρ h).bind fun x h1 => (b ρ h1).bind fun y h2 => (f x y h2).bind fun z h3 => blOf z fun k => Bool.rec (.ok (.bl false) h3) ((c ρ h3).bind fun u h4 => g y u h4) k
/-- an operation that only tells a bool -/
def BoolOp (f : W → W → Hs → Out W) : Prop := ∀ x y h, f x y h = .bad ∨ ∃ b, f x y h = .ok (.bl b) h
theorem of_chain {f g : W → W → Hs → Out W} {r r' : R2} (bf : BoolOp f) (hf : OpD C E r f) (hg : OpD C E r' g) {σ : L2.St} {H : Hp} {Q : VK} (q : tD C E (dChain f g da db dc) σ H Q) : tChain r r' (tD C E da) (tD C E db) (tD C E dc) σ H Q := by
  obtain ⟨m, ρ, h, r1, r2, p⟩ := q
  refine tD.of r1 r2 p fun x vx m1 h1 H1 s1 e1 k1 rx p1 => ?_
  refine tD.of e1 k1 p1 fun y vy m2 h2 H2 s2 e2 k2 ry p2 => ?_
  refine hf m2 h2 H2 x y vx vy _ k2 (s2.rv k1 x vx rx) ry ?_
  rcases bf x y h2 with z | ⟨b, z⟩
  · rw [z] at p2
    exact p2.elim
  · rw [z] at p2 ⊢
    intro m3 H3 s3 k3 v rv
    cases rv
    refine ⟨b, rfl, ?_⟩
    cases b with
    | false => exact p2 m3 H3 s3 k3 _ rfl
    | true =>
      have p3 : Post C m3 H3 E (fun w m' H' => ∀ v, RV m' H' w v → Q v H') ((dc ρ h2).bind fun u h4 => g y u h4) := p2.later s3
      rw [if_pos rfl]
      refine tD.of (s3.re k2 e2) k3 p3 fun u vu m4 h4 H4 s4 e4 k4 ru p4 => ?_
      exact hg m4 h4 H4 y u vy vu Q k4 ((s3.trans s4).rv k2 y vy ry) ru p4
theorem de_chain {op op' : CmpOp} {r r' : R2} {f g : W → W → Hs → Out W} (ho : OpR X (compareOp op) r) (ho' : OpR X (compareOp op') r') (bf : BoolOp f) (hf : OpD C E r f) (hg : OpD C E r' g) (ha : PE X a (tD C E da)) (hb : PE X b (tD C E db)) (hc : PE X c (tD C E dc))
    (hm : lastMarks [op, op'] [b, c] = false := by with_unfolding_all rfl) : PE X (.Compare a [op, op'] [b, c] pos) (tD C E (dChain f g da db dc)) := (pe_chain ho ho' ha hb hc hm).imp fun σ H Q q => of_chain bf hf hg q
theorem dt_chain {op op' : CmpOp} {r r' : R2} {f g : W → W → Hs → Out W} (ho : OpR X (compareOp op) r) (ho' : OpR X (compareOp op') r') (bf : BoolOp f) (hf : OpD C E r f) (hg : OpD C E r' g) (ha : PE X a (tD C E da)) (hb : PE X b (tD C E db)) (hc : PE X c (tD C E dc))
    (hm : lastMarks [op, op'] [b, c] = false := by with_unfolding_all rfl) : PT X (.Compare a [op, op'] [b, c] pos) (tDT C E (dTb (dChain f g da db dc))) := dt_of (pt_chain ho ho' ha hb hc hm) fun σ H Q q => of_chain bf hf hg q
theorem bo_cmp {f : Int → Int → Bool} {g : List Nat → List Nat → Bool} : BoolOp (oCmp f g) := fun x y h => by
  match x, y with
  | .int i, .int j => exact .inr ⟨_, rfl⟩
  | .str i, .str j => exact .inr ⟨_, rfl⟩
  | .non, _ | .bl _, _ | .tup _, _ | .loc _, _ | .rep _, _ => exact .inl rfl
  | .int _, .non | .int _, .bl _ | .int _, .tup _ | .int _, .loc _ | .int _, .rep _ | .int _, .str _ => exact .inl rfl
  | .str _, .non | .str _, .bl _ | .str _, .tup _ | .str _, .loc _ | .str _, .rep _ | .str _, .int _ => exact .inl rfl
theorem bo_cmpI {f : Int → Int → Bool} : BoolOp (oCmpI f) := fun x y h => by
  match x, y with
  | .int i, .int j => exact .inr ⟨_, rfl⟩
  | .non, _ | .bl _, _ | .tup _, _ | .loc _, _ | .rep _, _ | .str _, _ => exact .inl rfl
  | .int _, .non | .int _, .bl _ | .int _, .tup _ | .int _, .loc _ | .int _, .rep _ | .int _, .str _ => exact .inl rfl
/-! and, or, not: tests -/
def dTand (a b : DT) : DT := fun ρ h => (a ρ h).bind fun x h1 => Bool.rec (.ok false h1) (b ρ h1) x
def dTor (a b : DT) : DT := fun ρ h => (a ρ h).bind fun x h1 => Bool.rec (b ρ h1) (.ok true h1) x
def dTnot (a : DT) : DT := fun ρ h => (a ρ h).bind fun x h1 => Bool.rec (.ok true h1) (.ok false h1) x
theorem tDT.of {σ : L2.St} {d : DT} {Q : Bool → Hp → Prop} {ρ : Env} {α : Type} {f : Bool → Hs → Out α} {R : α → List Addr → Hp → Prop} (r1 : RE m H ρ σ) (r2 : C.rh m h H) (p : Post C m H E R ((d ρ h).bind f))
    (k : ∀ w m1 h1 H1, Step m H m1 H1 → RE m1 H1 ρ σ → C.rh m1 h1 H1 → Post C m1 H1 E R (f w h1) → Q w H1) : tDT C E d σ H Q := by
  refine ⟨m, ρ, h, r1, r2, ?_⟩
  refine p.bind.step.mono fun w m1 H1 ⟨s1, _, q⟩ => ?_
  obtain ⟨h1, r, p'⟩ := q s1
  exact k w m1 h1 H1 s1 (s1.re r2 r1) r p'
theorem dw_one (h : PT X a (tDT C E ta)) {op : Bool} : PW X (.BoolOp .And [a] pos) (tDT C E ta) := pw_and1 h
theorem dw_one' (h : PT X a (tDT C E ta)) : PW X (.BoolOp .Or [a] pos) (tDT C E ta) := pw_or1 h
theorem _root_.L2.PW.imp {X : Cx} {e : Expr} {t t' : TT} (h : PW X e t) (i : ∀ σ H Q, t' σ H Q → t σ H Q) : PW X e t' := ⟨fun wh pins s σ H Q I q => h.run wh pins s σ H Q I (i σ H Q q)⟩
theorem dw_and (ha : PT X a (tDT C E ta)) (hb : PW X (.BoolOp .And (b :: rest) pos) (tDT C E tb)) : PW X (.BoolOp .And (a :: b :: rest) pos) (tDT C E (dTand ta tb)) := (pw_and ha hb).imp fun σ H Q ⟨m, ρ, h, r1, r2, p⟩ => by
  refine tDT.of r1 r2 p fun w m1 h1 H1 s1 e1 k1 p1 => ?_
  cases w with
  | false => exact p1 m1 H1 Step.refl k1
  | true => exact ⟨m1, ρ, h1, e1, k1, p1⟩
theorem dw_or (ha : PT X a (tDT C E ta)) (hb : PW X (.BoolOp .Or (b :: rest) pos) (tDT C E tb)) : PW X (.BoolOp .Or (a :: b :: rest) pos) (tDT C E (dTor ta tb)) := (pw_or ha hb).imp fun σ H Q ⟨m, ρ, h, r1, r2, p⟩ => by
  refine tDT.of r1 r2 p fun w m1 h1 H1 s1 e1 k1 p1 => ?_
  cases w with
  | true => exact p1 m1 H1 Step.refl k1
  | false => exact ⟨m1, ρ, h1, e1, k1, p1⟩
theorem dt_not (ha : PT X a (tDT C E ta)) : PT X (.UnaryOp .Not a pos) (tDT C E (dTnot ta)) := (pt_not ha).imp fun σ H Q ⟨m, ρ, h, r1, r2, p⟩ => by
  refine tDT.of r1 r2 p fun w m1 h1 H1 s1 e1 k1 p1 => ?_
  cases w with
  | true => exact p1 m1 H1 Step.refl k1
  | false => exact p1 m1 H1 Step.refl k1
/-! .. values -/
def dAnd (a b : D) : D := fun ρ h => (a ρ h).bind fun x h1 => blOf x fun k => Bool.rec (.ok (.bl false) h1) (b ρ h1) k
def dOr (a b : D) : D := fun ρ h => (a ρ h).bind fun x h1 => blOf x fun k => Bool.rec (b ρ h1) (.ok (.bl true) h1) k
def dNot (a : D) : D := fun ρ h => (a ρ h).bind fun x h1 => blOf x fun k => Bool.rec (.ok (.bl true) h1) (.ok (.bl false) h1) k
theorem de_one {op} (h : PE X a (tD C E da)) : PE X (.BoolOp op [a] pos) (tD C E da) := pe_one h
theorem de_and (ha : PE X a (tD C E da)) (hb : PE X (.BoolOp .And (b :: rest) pos) (tD C E db)) : PE X (.BoolOp .And (a :: b :: rest) pos) (tD C E (dAnd da db)) := (pe_and ha hb).imp fun σ H Q ⟨m, ρ, h, r1, r2, p⟩ => by
  refine tD.of r1 r2 p fun w v m1 h1 H1 s1 e1 k1 rv p1 => ?_
  obtain ⟨k, rfl, p1⟩ := blOf_of p1
  cases rv
  refine ⟨k, rfl, ?_⟩
  cases k with
  | false => exact post_ok (w := .bl false) k1 p1 rfl
  | true => exact ⟨m1, ρ, h1, e1, k1, p1⟩
theorem de_or (ha : PE X a (tD C E da)) (hb : PE X (.BoolOp .Or (b :: rest) pos) (tD C E db)) : PE X (.BoolOp .Or (a :: b :: rest) pos) (tD C E (dOr da db)) := (pe_or ha hb).imp fun σ H Q ⟨m, ρ, h, r1, r2, p⟩ => by
  refine tD.of r1 r2 p fun w v m1 h1 H1 s1 e1 k1 rv p1 => ?_
  obtain ⟨k, rfl, p1⟩ := blOf_of p1
  cases rv
  refine ⟨k, rfl, ?_⟩
  cases k with
  | true => exact post_ok (w := .bl true) k1 p1 rfl
  | false => exact ⟨m1, ρ, h1, e1, k1, p1⟩
theorem de_not (ha : PE X a (tD C E da)) : PE X (.UnaryOp .Not a pos) (tD C E (dNot da)) := (pe_not ha).imp fun σ H Q ⟨m, ρ, h, r1, r2, p⟩ => by
  refine tD.of r1 r2 p fun w v m1 h1 H1 s1 e1 k1 rv p1 => ?_
  obtain ⟨k, rfl, p1⟩ := blOf_of p1
  cases rv
  refine ⟨k, rfl, ?_⟩
  cases k with
  | true => exact post_ok (w := .bl false) k1 p1 rfl
  | false => exact post_ok (w := .bl true) k1 p1 rfl
def dIf (t : DT) (a b : D) : D := fun ρ h => (t ρ h).bind fun x h1 => Bool.rec (b ρ h1) (a ρ h1) x
theorem de_if (hc : PT X c (tDT C E ta)) (ha : PE X a (tD C E da)) (hb : PE X b (tD C E db)) : PE X (.IfExp c a b pos) (tD C E (dIf ta da db)) := (pe_ifExp hc ha hb).imp fun σ H Q ⟨m, ρ, h, r1, r2, p⟩ => by
  refine tDT.of r1 r2 p fun w m1 h1 H1 s1 e1 k1 p1 => ?_
  cases w with
  | true => exact ⟨m1, ρ, h1, e1, k1, p1⟩
  | false => exact ⟨m1, ρ, h1, e1, k1, p1⟩
/-- truth of lists, tuples, ints, bools, texts, None -/
def truW (h : Hs) : W → Option Bool
  | .non => some false
  | .bl b => some b
  | .int i => some (!eqI i 0)
  | .str x => cond (sz x.length) (some (!Nat.beq x.length 0)) none
  | .tup ws => some (!ws.isEmpty)
  | .loc n => match h.get n with
    | some (.lst ws) => some (!ws.isEmpty)
    | some (.dct false kvs false) => some (!kvs.isEmpty)
    | _ => none
  | .rep _ => none
def dTru (d : D) : DT := fun ρ h => (d ρ h).bind fun x h1 => orBad (truW h1 x) fun b => Bool.rec (.ok false h1) (.ok true h1) b
theorem RVs.empty {ws : List W} {xs : List V} (r : RVs m H ws xs) : ws.isEmpty = xs.isEmpty := by
  cases ws with
  | nil => cases r; rfl
  | cons w ws => obtain ⟨v, vs, rfl, _, _⟩ := r; rfl
theorem truW_ok (r : C.rh m h H) {w : W} {v : V} {b : Bool} (e : truW h w = some b) (rv : RV m H w v) : TruV C.K v H b := by
  match w, e, rv with
  | .non, e, rv => cases e; cases rv; rfl
  | .bl _, e, rv => cases e; cases rv; rfl
  | .int i, e, rv =>
    cases e
    cases rv
    show (!eqI i 0) = (i != 0)
    rw [eqI_eq, bne, Bool.beq_eq_decide_eq]
  | .str x, e, rv =>
    have e : cond (sz x.length) (some (!Nat.beq x.length 0)) none = some b := e
    cases hb : sz x.length with
    | false => rw [hb] at e; cases e
    | true =>
      rw [hb] at e
      cases e
      cases rv
      refine ⟨?_, ?_⟩
      · simpa [Str.length] using sz_le hb
      · show (!Nat.beq x.length 0) = (((Str.length ⟨x.toArray⟩ : Nat) : Int) != 0)
        have : Str.length ⟨x.toArray⟩ = x.length := by simp [Str.length]
        rw [this]
        cases x with
        | nil => rfl
        | cons c x =>
          show true = _
          symm
          simp only [List.length_cons, bne_iff_ne, ne_eq]
          omega
  | .tup ws, e, rv =>
    cases e
    obtain ⟨a, xs, rfl, q, r1⟩ := rv
    exact .inr (.inl ⟨xs, SqT.of q, by rw [r1.empty]⟩)
  | .loc n, e, rv =>
    have e : (match h.get n with | some (.lst ws) => some (!ws.isEmpty) | some (.dct false kvs false) => some (!kvs.isEmpty) | _ => none) = some b := e
    cases e0 : h.get n with
    | none => rw [e0] at e; cases e
    | some o =>
      rw [e0] at e
      match o, e, e0 with
      | .lst ws, e, e0 =>
        cases e
        obtain ⟨a, ys, rfl, _, q1, r1⟩ := lst_of (ws := ws) r (by unfold lstAt; rw [e0]) rv
        exact .inl ⟨ys, SqL.of q1, by rw [r1.empty]⟩
      | .dct false kvs false, e, e0 =>
        cases e
        obtain ⟨a, ks, rfl, _, _, q1, _, q2⟩ := dct_of r e0 rv
        refine .inr (.inr ⟨ks, q1 rfl, ?_⟩)
        cases kvs with
        | nil => cases q2; rfl
        | cons p kvs =>
          obtain ⟨p1, p2⟩ := p
          obtain ⟨_, _, _, rfl, _⟩ := q2
          rfl
theorem dt_tru (hK : X.K = C.K) (ha : PE X a (tD C E da)) (he : ∀ whole, isTrue a X.env whole = (do let v ← whole; standAt a.pos; holding [v] (truthy v)) := by intro _; rfl) : PT X a (tDT C E (dTru da)) := (pt_truth ha he).imp fun σ H Q ⟨m, ρ, h, r1, r2, p⟩ => by
  refine tD.of r1 r2 p fun w v m1 h1 H1 s1 e1 k1 rv p1 => ?_
  obtain ⟨b, e, p1⟩ := orBad_of p1
  exact ⟨b, by rw [hK]; exact truW_ok k1 e rv, (of_bl p1) m1 H1 Step.refl k1⟩
/-! is None -/
def oIsN (b : Bool) : W → W → Hs → Out W := fun x y h => match y with
  | .non => match x with
    | .non => .ok (.bl b) h
    | _ => .ok (.bl (!b)) h
  | _ => .bad
theorem isN_dec {w : W} {v : V} (rv : RV m H w v) : (w = .non ∧ decide (v = V.non) = true) ∨ (w ≠ .non ∧ decide (v = V.non) = false) := by
  match w, rv with
  | .non, rv => cases rv; exact .inl ⟨rfl, rfl⟩
  | .bl _, rv => cases rv; exact .inr ⟨(fun z => by cases z), rfl⟩
  | .int _, rv => cases rv; exact .inr ⟨(fun z => by cases z), rfl⟩
  | .str _, rv => cases rv; exact .inr ⟨(fun z => by cases z), rfl⟩
  | .rep _, rv => cases rv; exact .inr ⟨(fun z => by cases z), rfl⟩
  | .tup _, rv =>
    obtain ⟨_, _, rfl, _⟩ := rv
    exact .inr ⟨(fun z => by cases z), rfl⟩
  | .loc _, rv =>
    obtain ⟨_, _, rfl⟩ := rv
    exact .inr ⟨(fun z => by cases z), rfl⟩
theorem isN_eq {b : Bool} {x : W} (hx : x ≠ .non) : oIsN b x .non h = .ok (.bl (!b)) h := by
  cases x with
  | non => exact absurd rfl hx
  | _ => rfl
theorem od_isN : OpD C E (fun x y H Q => y = .non ∧ Q (.bl (decide (x = .non))) H) (oIsN true) := by
  intro m h H x y vx vy Q r rx ry p
  match y, p, ry with
  | .non, p, ry =>
    refine ⟨ry, ?_⟩
    rcases isN_dec rx with ⟨rfl, z⟩ | ⟨z1, z⟩
    · rw [z]
      exact post_ok (w := .bl true) r p rfl
    · rw [z]
      rw [isN_eq z1] at p
      exact post_ok (w := .bl false) r p rfl
theorem od_notN : OpD C E (fun x y H Q => y = .non ∧ Q (.bl (!decide (x = .non))) H) (oIsN false) := by
  intro m h H x y vx vy Q r rx ry p
  match y, p, ry with
  | .non, p, ry =>
    refine ⟨ry, ?_⟩
    rcases isN_dec rx with ⟨rfl, z⟩ | ⟨z1, z⟩
    · rw [z]
      exact post_ok (w := .bl false) r p rfl
    · rw [z]
      rw [isN_eq z1] at p
      exact post_ok (w := .bl true) r p rfl
end
end Vz
end
/-! targets and statements -/
noncomputable section
namespace Vz
open PySem PySem.Spec PyProof.Rows L2

/-- a slot is set, strictly -/
def setS {α : Type} (ρ : Env) (i : Nat) (x : Option W) (k : Env → α) : α :=
  List.rec (motive := fun _ => Nat → (Env → α) → α) (fun _ k => k []) (fun y ys ih n k => Nat.rec (k (x :: ys)) (fun j _ => ih j fun l => k (y :: l)) n) ρ i k
theorem setS_eq {α : Type} (x : Option W) : ∀ (ρ : Env) (i : Nat) (k : Env → α), setS ρ i x k = k (ρ.set i x)
  | [], _, _ => rfl
  | y :: ys, 0, k => rfl
  | y :: ys, i + 1, k => setS_eq x ys i fun l => k (y :: l)
abbrev DG := W → Env → Hs → Out Env
abbrev DGs := List W → Env → Hs → Out Env
/-- all slots but own stay -/
structure Agree (own : List Nat) (σ σ' : L2.St) : Prop where
  len : σ'.length = σ.length
  at_ : ∀ i, i ∉ own → σ'[i]? = σ[i]?
section
variable {C : Cn} {m : List Addr} {H : Hp} {h : Hs} {X : Cx} {E : XK} {own own' : List Nat}
theorem Agree.refl {σ : L2.St} : Agree own σ σ := ⟨rfl, fun _ _ => rfl⟩
theorem Agree.trans {σ σ1 σ2 : L2.St} (a : Agree own σ σ1) (b : Agree own σ1 σ2) : Agree own σ σ2 := ⟨b.len.trans a.len, fun i hi => (b.at_ i hi).trans (a.at_ i hi)⟩
theorem Agree.mono {σ σ1 : L2.St} (a : Agree own σ σ1) (s : ∀ i ∈ own, i ∈ own') : Agree own' σ σ1 := ⟨a.len, fun i hi => a.at_ i fun z => hi (s i z)⟩
theorem Agree.set {σ : L2.St} {i : Nat} {x : Option V} (hi : i ∈ own) : Agree own σ (σ.set i x) := ⟨by simp, fun j hj => by rw [List.getElem?_set_ne]; rintro rfl; exact hj hi⟩
theorem wipe_in {σ : L2.St} {i : Nat} : ∀ {vs : List Nat}, i ∈ vs → (wipe σ vs)[i]? = if i < σ.length then some none else none
  | [], h => by cases h
  | v :: vs, h => by
    unfold wipe
    by_cases hv : v = i
    · subst hv
      by_cases hl : v < σ.length
      · rw [if_pos hl, List.getElem?_set_self (by rw [wipe_length]; exact hl)]
      · rw [if_neg hl, List.getElem?_eq_none (by rw [List.length_set, wipe_length]; omega)]
    · rw [List.getElem?_set_ne hv]
      rcases List.mem_cons.mp h with z | z
      · exact absurd z.symm hv
      · exact wipe_in z
theorem Agree.wipe {σ σ' : L2.St} {vs : List Nat} (a : Agree own σ σ') (s : ∀ i ∈ own, i ∈ vs) : wipe σ' vs = wipe σ vs := by
  apply List.ext_getElem?
  intro i
  by_cases hi : i ∈ vs
  · rw [wipe_in hi, wipe_in hi, a.len]
  · rw [wipe_out hi, wipe_out hi]
    exact a.at_ i fun z => hi (s i z)
def wipeE (ρ : Env) : List Nat → Env
  | [] => ρ
  | v :: vs => (wipeE ρ vs).set v none
theorem RE.wipe {ρ : Env} {σ : L2.St} (r : RE m H ρ σ) : ∀ vs, RE m H (wipeE ρ vs) (wipe σ vs)
  | [] => r
  | v :: vs => (RE.wipe r vs).wipe1 v
def tDG (C : Cn) (E : XK) (own : List Nat) (g : DG) : TG := fun v σ H Q => ∃ m ρ h w, RE m H ρ σ ∧ C.rh m h H ∧ RV m H w v ∧ Post C m H E (fun ρ' m' H' => ∀ σ', RE m' H' ρ' σ' → Agree own σ σ' → Q σ' H') (g w ρ h)
def tDGs (C : Cn) (E : XK) (own : List Nat) (g : DGs) : TGs := fun v σ H Q => ∃ m ρ h w, RE m H ρ σ ∧ C.rh m h H ∧ RVs m H w v ∧ Post C m H E (fun ρ' m' H' => ∀ σ', RE m' H' ρ' σ' → Agree own σ σ' → Q σ' H') (g w ρ h)
theorem _root_.L2.PG.imp {e : Expr} {t t' : TG} (h : PG X e t) (i : ∀ v σ H Q, t' v σ H Q → t v σ H Q) : PG X e t' := ⟨fun pins s σ H v u Q I r q => h.run pins s σ H v u Q I r (i v σ H Q q)⟩
theorem _root_.L2.PGs.imp {e : List Expr} {t t' : TGs} (h : PGs X e t) (i : ∀ v σ H Q, t' v σ H Q → t v σ H Q) : PGs X e t' := ⟨fun pins s σ H v u Q I r q => h.run pins s σ H v u Q I r (i v σ H Q q)⟩
def dgN (i : Nat) : DG := fun w ρ h => setS ρ i (some w) fun ρ' => .ok ρ' h
theorem dg_name {i : Nat} {e : Expr} (h : PG X e (gName i)) : PG X e (tDG C E [i] (dgN i)) := h.imp fun v σ H Q ⟨m, ρ, h, w, r1, r2, rv, p⟩ => by
  unfold dgN at p
  rw [setS_eq] at p
  exact p m H Step.refl r2 _ (r1.set rv i) (Agree.set (by simp))
def dgNil : DGs := fun ws ρ h => match ws with
  | [] => .ok ρ h
  | _ => .bad
def dgCons (g : DG) (gs : DGs) : DGs := fun ws ρ h => match ws with
  | w :: ws => (g w ρ h).bind fun ρ1 h1 => gs ws ρ1 h1
  | [] => .bad
theorem dgs_nil : PGs X [] (tDGs C E [] dgNil) := pgs_nil.imp fun v σ H Q ⟨m, ρ, h, w, r1, r2, rv, p⟩ => by
  match w, p, rv with
  | [], p, rv =>
    cases rv
    exact ⟨rfl, p m H Step.refl r2 σ r1 Agree.refl⟩
theorem dgs_cons {e : Expr} {es : List Expr} {g : DG} {gs : DGs} (h1 : PG X e (tDG C E own g)) (h2 : PGs X es (tDGs C E own' gs))
    (hs : (assignEach (e :: es) X.env).map (·.2) = assign e X.env :: (assignEach es X.env).map (·.2) := by rfl) : PGs X (e :: es) (tDGs C E (own ++ own') (dgCons g gs)) := (pgs_cons h1 h2 hs).imp fun v σ H Q ⟨m, ρ, h, w, r1, r2, rv, p⟩ => by
  match w, p, rv with
  | w :: ws, p, rv =>
    obtain ⟨v, vs, rfl, a, b⟩ := rv
    refine ⟨v, vs, rfl, m, ρ, h, w, r1, r2, a, ?_⟩
    refine p.bind.step.mono fun ρ1 m1 H1 ⟨s1, _, q⟩ σ1 e1 a1 => ?_
    obtain ⟨h1, k1, p1⟩ := q s1
    refine ⟨m1, ρ1, h1, ws, e1, k1, s1.rvs r2 _ _ b, p1.mono fun ρ2 m2 H2 q σ2 e2 a2 => ?_⟩
    exact q σ2 e2 ((a1.mono fun i hi => List.mem_append_left _ hi).trans (a2.mono fun i hi => List.mem_append_right _ hi))
def dgTup (n : Nat) (gs : DGs) : DG := fun w ρ h => match w with
  | .tup ws => cond (Nat.beq ws.length n) (gs ws ρ h) .bad
  | _ => .bad
theorem dg_tup {es : List Expr} {k n : Nat} {pos : Pos} {gs : DGs} (hc : X.calm = true) (h : PGs X es (tDGs C E own gs)) (hn : (assignEach es X.env).length = n := by rfl) (hst : (assignEach es X.env).findIdx? (·.1) = none := by rfl) : PG X (.Tuple es k pos) (tDG C E own (dgTup n gs)) :=
  (pg_tup hc h hn hst).imp fun v σ H Q ⟨m, ρ, h, w, r1, r2, rv, p⟩ => by
    match w, p, rv with
    | .tup ws, p, rv =>
      obtain ⟨a, xs, rfl, q1, r3⟩ := rv
      obtain ⟨c, p⟩ := cond_of p
      exact ⟨a, xs, rfl, SqT.of q1, by rw [← r3.length]; exact Nat.eq_of_beq_eq_true c, m, ρ, h, ws, r1, r2, r3, p⟩
/-- xs[i] = v -/
def ixF (n : Nat) : Int → Option Nat
  | .ofNat k => cond (Nat.blt k n) (some k) none
  | .negSucc k => cond (Nat.ble (k + 1) n) (some (n - (k + 1))) none
theorem ixF_ok {n : Nat} {i : Int} {j : Nat} (e : ixF n i = some j) : ixN n i = some j := by
  match i, e with
  | .ofNat k, e =>
    have e : cond (Nat.blt k n) (some k) none = some j := e
    cases hb : Nat.blt k n with
    | false => rw [hb] at e; cases e
    | true =>
      rw [hb] at e
      cases e
      have := blt_lt hb
      unfold ixN
      rw [if_pos (by show (0 : Int) ≤ (j : Int); omega), if_pos (by show (j : Int) < n; omega)]
      rfl
  | .negSucc k, e =>
    have e : cond (Nat.ble (k + 1) n) (some (n - (k + 1))) none = some j := e
    cases hb : Nat.ble (k + 1) n with
    | false => rw [hb] at e; cases e
    | true =>
      rw [hb] at e
      cases e
      have := Nat.le_of_ble_eq_true hb
      unfold ixN
      rw [if_neg (by omega), if_pos (by omega)]
      congr 1
      omega
def setLS {α β : Type} (xs : List α) (i : Nat) (x : α) (k : List α → β) : β :=
  List.rec (motive := fun _ => Nat → (List α → β) → β) (fun _ k => k []) (fun y ys ih n k => Nat.rec (k (x :: ys)) (fun j _ => ih j fun l => k (y :: l)) n) xs i k
theorem setLS_eq {α β : Type} (x : α) : ∀ (xs : List α) (i : Nat) (k : List α → β), setLS xs i x k = k (xs.set i x)
  | [], _, _ => rfl
  | y :: ys, 0, k => rfl
  | y :: ys, i + 1, k => setLS_eq x ys i fun l => k (y :: l)
def putL {α : Type} (h : Hs) (x y w : W) (k : Hs → Out α) : Out α := match x, y with
  | .loc n, .int i => orBad (lstAt h n) fun ws => orBad (ixF ws.length i) fun j => setLS ws j w fun l => setL h n l k
  | _, _ => .bad
theorem putL_ok {α : Type} {k : Hs → Out α} {R : α → List Addr → Hp → Prop} (r : C.rh m h H) {x y w : W} {vx vy v : V} (rx : RV m H x vx) (ry : RV m H y vy) (rv : RV m H w v) (p : Post C m H E R (putL h x y w k)) :
    ∃ a xs i j h2, vx = .ref a ∧ vy = .int i ∧ H a = some (.lst xs) ∧ ixN xs.length i = some j ∧ Step m H m (upd H a (.lst (xs.set j v))) ∧ C.rh m h2 (upd H a (.lst (xs.set j v))) ∧ Post C m (upd H a (.lst (xs.set j v))) E R (k h2) := by
  match x, y, p, rx, ry with
  | .loc n, .int i, p, rx, ry =>
    obtain ⟨ws, e, p⟩ := orBad_of p
    obtain ⟨j, e2, p⟩ := orBad_of p
    rw [setLS_eq] at p
    obtain ⟨a, xs, rfl, _, q1, r1⟩ := lst_of r e rx
    obtain ⟨a', xs', h2, e1, q2, r2, s, k2, p⟩ := set_lst r e rx (r1.set rv j) p
    cases e1
    cases ry
    exact ⟨a, xs, i, j, h2, rfl, rfl, q1, by rw [← r1.length]; exact ixF_ok e2, s, k2, p⟩
def dgSub (a b : D) : DG := fun w ρ h => (a ρ h).bind fun x h1 => (b ρ h1).bind fun y h2 => putL h2 x y w fun h3 => .ok ρ h3
theorem dg_sub {o i : Expr} {pos : Pos} {da db : D} (ho : PE X o (tD C E da)) (hi : PE X i (tD C E db)) (ha : ∀ v, assign (.Subscript o i pos) X.env v = (do
      let ov ← holding [v] (eval o X.env)
      let iv ← holding [v, ov] (eval i X.env)
      standAt pos
      holding [v, ov, iv] (setItem ov iv v)
      release [v, ov, iv] []) := by intro _; rfl) : PG X (.Subscript o i pos) (tDG C E [] (dgSub da db)) := (pg_sub ho hi set_list ha).imp fun v σ H Q ⟨m, ρ, h, w, r1, r2, rv, p⟩ => by
  refine tD.of r1 r2 p fun x vx m1 h1 H1 s1 e1 k1 rx p1 => ?_
  refine tD.of e1 k1 p1 fun y vy m2 h2 H2 s2 e2 k2 ry p2 => ?_
  obtain ⟨a, xs, i, j, h3, rfl, rfl, q1, q2, s3, k3, p3⟩ := putL_ok k2 (s2.rv k1 x vx rx) ry ((s1.trans s2).rv r2 w v rv) p2
  exact ⟨a, xs, i, j, rfl, rfl, q1, q2, p3 m2 _ Step.refl k3 σ (s3.re k2 e2) Agree.refl⟩

/-! ### statements -/
section
variable {e : Expr} {st : Stmt} {rest : List Stmt} {pos : Pos} {d da db dv : D} {ds dt : DS}
def dsNext : DS := fun ρ h => .ok (.nx ρ) h
def dsSeq (a b : DS) : DS := fun ρ h => (a ρ h).bind fun f h1 => Fl.rec (fun ρ1 => b ρ1 h1) (fun w => .ok (.rt w) h1) (fun ρ1 => .ok (.bk ρ1) h1) (fun ρ1 => .ok (.ct ρ1) h1) f
theorem dss_nil : PSs X [] (tDS C E dsNext) := (pss_nil (X := X)).imp fun D σ H ⟨m, ρ, h, r1, r2, p⟩ => p m H Step.refl r2 σ r1
theorem dss_one (h : PS X st (tDS C E ds)) : PSs X [st] (tDS C E ds) := pss_one h
theorem dss_cons (h1 : PS X st (tDS C E ds)) (h2 : PSs X rest (tDS C E dt)) : PSs X (st :: rest) (tDS C E (dsSeq ds dt)) := (pss_cons h1 h2).imp fun D σ H ⟨m, ρ, h, r1, r2, p⟩ => by
  refine ⟨m, ρ, h, r1, r2, p.bind.step.mono fun f m1 H1 ⟨s1, _, q⟩ => ?_⟩
  obtain ⟨h1, k1, p1⟩ := q s1
  cases f with
  | nx ρ1 => exact fun σ1 e1 => ⟨m1, ρ1, h1, e1, k1, p1⟩
  | rt w => exact p1 m1 H1 Step.refl k1
  | bk ρ1 => exact p1 m1 H1 Step.refl k1
  | ct ρ1 => exact p1 m1 H1 Step.refl k1
def dsBk : DS := fun ρ h => .ok (.bk ρ) h
def dsCt : DS := fun ρ h => .ok (.ct ρ) h
theorem ds_pass : PS X (.Pass pos) (tDS C E dsNext) := (ps_pass (X := X)).imp fun D σ H ⟨m, ρ, h, r1, r2, p⟩ => p m H Step.refl r2 σ r1
theorem ds_break : PS X (.Break pos) (tDS C E dsBk) := (ps_break (X := X)).imp fun D σ H ⟨m, ρ, h, r1, r2, p⟩ => p m H Step.refl r2 σ r1
theorem ds_continue : PS X (.Continue pos) (tDS C E dsCt) := (ps_continue (X := X)).imp fun D σ H ⟨m, ρ, h, r1, r2, p⟩ => p m H Step.refl r2 σ r1
def dsDrop (d : D) : DS := fun ρ h => (d ρ h).bind fun _ h1 => .ok (.nx ρ) h1
theorem ds_expr (he : PE X e (tD C E d)) (hs : swapsWith e none pos.line X.env = pure false := by rfl) : PS X (.Expr e pos) (tDS C E (dsDrop d)) := (ps_expr he hs).imp fun D σ H ⟨m, ρ, h, r1, r2, p⟩ => by
  refine tD.of r1 r2 p fun w v m1 h1 H1 s1 e1 k1 rv p1 => ?_
  exact p1 m1 H1 Step.refl k1 σ e1
def dsRet (d : D) : DS := fun ρ h => (d ρ h).bind fun w h1 => .ok (.rt w) h1
theorem ds_ret (he : PE X e (tD C E d)) : PS X (.Return (some e) pos) (tDS C E (dsRet d)) := (ps_ret he).imp fun D σ H ⟨m, ρ, h, r1, r2, p⟩ => by
  refine tD.of r1 r2 p fun w v m1 h1 H1 s1 e1 k1 rv p1 => ?_
  exact p1 m1 H1 Step.refl k1 v rv
def dsRetN : DS := fun ρ h => .ok (.rt .non) h
theorem ds_retN : PS X (.Return none pos) (tDS C E dsRetN) := (ps_retN (X := X)).imp fun D σ H ⟨m, ρ, h, r1, r2, p⟩ => p m H Step.refl r2 .non rfl
def dsIf (t : DT) (a b : DS) : DS := fun ρ h => (t ρ h).bind fun x h1 => Bool.rec (b ρ h1) (a ρ h1) x
theorem ds_if {c : Expr} {a b : List Stmt} {tc : DT} {ta tb : DS} (hc : PT X c (tDT C E tc)) (ha : PSs X a (tDS C E ta)) (hb : PSs X b (tDS C E tb)) : PS X (.If c a b pos) (tDS C E (dsIf tc ta tb)) := (ps_if hc ha hb).imp fun D σ H ⟨m, ρ, h, r1, r2, p⟩ => by
  refine tDT.of r1 r2 p fun w m1 h1 H1 s1 e1 k1 p1 => ?_
  cases w with
  | true => exact ⟨m1, ρ, h1, e1, k1, p1⟩
  | false => exact ⟨m1, ρ, h1, e1, k1, p1⟩
def dsAsg (d : D) (g : DG) : DS := fun ρ h => (d ρ h).bind fun w h1 => (g w ρ h1).bind fun ρ1 h2 => .ok (.nx ρ1) h2
theorem of_asg {g : DG} {D : Ends} {σ : L2.St} {H : Hp} (q : tDS C E (dsAsg d g) D σ H) : tAsg (tD C E d) (tDG C E own g) D σ H := by
  obtain ⟨m, ρ, h, r1, r2, p⟩ := q
  refine tD.of r1 r2 p fun w v m1 h1 H1 s1 e1 k1 rv p1 => ?_
  refine ⟨m1, ρ, h1, w, e1, k1, rv, p1.bind.step.mono fun ρ1 m2 H2 ⟨s2, _, q⟩ σ2 e2 _ => ?_⟩
  obtain ⟨h2, k2, p2⟩ := q s2
  exact p2 m2 H2 Step.refl k2 σ2 e2
theorem ds_asg {tg : Expr} {g : DG} (he : PE X e (tD C E d)) (hg : PG X tg (tDG C E own g)) (hs : swapsWithSole [tg] e pos.line X.env = pure false := by rfl) (hw : swappedStores [tg] e X.env = pure none := by rfl)
    (h1 : (assignEach [tg] X.env).map (·.2) = [assign tg X.env] := by rfl) : PS X (.Assign [tg] e pos) (tDS C E (dsAsg d g)) := (ps_asg he hg hs hw h1).imp fun D σ H q => of_asg q
def dsSet (d : D) (i : Nat) : DS := fun ρ h => (d ρ h).bind fun w h1 => setS ρ i (some w) fun ρ1 => .ok (.nx ρ1) h1
theorem of_set {i : Nat} {D : Ends} {σ : L2.St} {H : Hp} (q : tDS C E (dsSet d i) D σ H) : tAsg (tD C E d) (gName i) D σ H := by
  obtain ⟨m, ρ, h, r1, r2, p⟩ := q
  refine tD.of r1 r2 p fun w v m1 h1 H1 s1 e1 k1 rv p1 => ?_
  rw [setS_eq] at p1
  exact p1 m1 H1 Step.refl k1 _ (e1.set rv i)
theorem ds_set {i : Nat} {st : Stmt} (h : PS X st (tAsg (tD C E d) (gName i))) : PS X st (tDS C E (dsSet d i)) := h.imp fun D σ H q => of_set q
/-- a, b = x, y -/
def dsPar (a b : D) (i j : Nat) : DS := fun ρ h => (a ρ h).bind fun x h1 => (b ρ h1).bind fun y h2 => setS ρ i (some x) fun ρ1 => setS ρ1 j (some y) fun ρ2 => .ok (.nx ρ2) h2
theorem ds_par {i j : Nat} {st : Stmt} (h : PS X st (tPar i j (tDL C E (dCons da (dCons db dNil))))) : PS X st (tDS C E (dsPar da db i j)) := h.imp fun D σ H ⟨m, ρ, h, r1, r2, p⟩ => by
  have p : Post C m H E (endsOf D) ((dCons da (dCons db dNil) ρ h).bind fun ws h2 => match ws with
      | [x, y] => setS ρ i (some x) fun ρ1 => setS ρ1 j (some y) fun ρ2 => .ok (.nx ρ2) h2
      | _ => .bad) := by
    revert p
    unfold dsPar dCons dNil
    cases da ρ h with
    | ok x h1 =>
      show Post _ _ _ _ _ (Out.bind (db ρ h1) _) → Post _ _ _ _ _ (Out.bind (Out.bind (Out.bind (db ρ h1) _) _) _)
      cases db ρ h1 with
      | ok y h2 => exact fun p => p
      | exc c h2 => exact fun p => p
      | bad => exact fun p => p
    | exc c h1 => exact fun p => p
    | bad => exact fun p => p
  refine tDL.of r1 r2 p fun ws vs m1 h1 H1 s1 e1 k1 rv p1 => ?_
  match ws, p1, rv with
  | [x, y], p1, rv =>
    obtain ⟨v, z, rfl, a, b⟩ := rv.two
    have p1 : Post C m1 H1 E (endsOf D) (setS ρ i (some x) fun ρ1 => setS ρ1 j (some y) fun ρ2 => .ok (.nx ρ2) h1) := p1
    rw [setS_eq, setS_eq] at p1
    exact ⟨v, z, rfl, p1 m1 H1 Step.refl k1 _ ((e1.set a i).set b j)⟩
/-- d[k] = v -/
def dsDPut (a k v : D) : DS := fun ρ h => (v ρ h).bind fun w h1 => (a ρ h1).bind fun x h2 => (k ρ h2).bind fun y h3 => dctPut h3 x y w fun h4 => .ok (.nx ρ) h4
theorem ds_dput {o i value : Expr} {pos' : Pos} (hu : X.A.units + 1 < cLine) (ho : PE X o (tD C E da)) (hi : PE X i (tD C E db)) (hv : PE X value (tD C E dv)) (hs : swapsWith value (some (.Subscript o i pos')) pos.line X.env = pure false := by rfl) :
    PS X (.Assign [.Subscript o i pos'] value pos) (tDS C E (dsDPut da db dv)) := (ps_dput hu ho hi hv hs).imp fun D σ H ⟨m, ρ, h, r1, r2, p⟩ => by
  refine tD.of r1 r2 p fun w v m1 h1 H1 s1 e1 k1 rv p1 => ?_
  refine tD.of e1 k1 p1 fun x vx m2 h2 H2 s2 e2 k2 rx p2 => ?_
  refine tD.of e2 k2 p2 fun y vy m3 h3 H3 s3 e3 k3 ry p3 => ?_
  obtain ⟨a, H4, h4, rfl, q1, s4, k4, p4⟩ := dctPut_ok k3 (s3.rv k2 x vx rx) ry ((s2.trans s3).rv k1 w v rv) p3
  exact ⟨a, H4, rfl, q1, p4 m3 H4 Step.refl k4 σ (s4.re k3 e3)⟩
/-- name op= e -/
def dsAug (f : W → W → Hs → Out W) (i : Nat) (d : D) : DS := fun ρ h => orBad (getE ρ i) fun x => orBad x fun x => (d ρ h).bind fun y h1 => (f x y h1).bind fun z h2 => setS ρ i (some z) fun ρ1 => .ok (.nx ρ1) h2
theorem ds_aug {i : Nat} {st : Stmt} {ti : TIp} {f : W → W → Hs → Out W} (h : PS X st (tAug i (tD C E d) ti)) (hf : OpD C E ti f) : PS X st (tDS C E (dsAug f i d)) := h.imp fun D σ H ⟨m, ρ, h, r1, r2, p⟩ => by
  obtain ⟨x, q1, p⟩ := orBad_of p
  obtain ⟨x, rfl, p⟩ := orBad_of p
  rw [getE_eq] at q1
  obtain ⟨v, e1, rx⟩ := r1.get q1
  refine ⟨v, e1, tD.of r1 r2 p fun y vy m1 h1 H1 s1 e1 k1 ry p1 => ?_⟩
  refine hf m1 h1 H1 x y v vy _ k1 (s1.rv r2 x v rx) ry (p1.bind.step.mono fun z m2 H2 ⟨s2, _, q⟩ vz rz => ?_)
  obtain ⟨h2, k2, p2⟩ := q s2
  rw [setS_eq] at p2
  exact p2 m2 H2 Step.refl k2 _ ((s2.re k1 e1).set rz i)
end
end
end Vz
end
/-! what is walked; for, while -/
noncomputable section
namespace Vz
open PySem PySem.Spec PyProof.Rows L2

/-- the item at a turn: none: not known; some none: the end -/
abbrev Itm := Nat → Hs → Option (Option W)
abbrev DI := Env → Hs → Out Itm
section
variable {C : Cn} {m : List Addr} {H : Hp} {h : Hs} {X : Cx} {E : XK}
/-- what is locked stays so -/
def Fz (H H' : Hp) : Prop := ∀ b o u, H b = some (.frz o u) → H' b = some (.frz o u)
theorem Fz.trans {H H1 H2 : Hp} (a : Fz H H1) (b : Fz H1 H2) : Fz H H2 := fun x o u q => b x o u (a x o u q)
theorem fz_set {H : Hp} {a : Addr} {o : HO} (hz : ∀ o u, H a ≠ some (.frz o u)) : Fz H (upd H a o) := fun b o u q => by rw [upd_ne fun z => hz o u (by rw [← z]; exact q)]; exact q
def ItOk (C : Cn) (J : It) (m0 : List Addr) (H0 : Hp) (f : Itm) : Prop := ∀ i m h H, Sw m0 H0 m H → Fz H0 H → C.rh m h H → (f i h = some none → J.stop i H) ∧ ∀ w, f i h = some (some w) → J.go i H ∧ ∀ x H', J.yld i H x H' → Step m H m H' ∧ C.rh m h H' ∧ RV m H' w x
def tDI (C : Cn) (E : XK) (d : DI) : TI := fun σ H R => ∃ m ρ h, RE m H ρ σ ∧ C.rh m h H ∧ Post C m H E (fun f m' H' => ∀ J, ItOk C J m' H' f → R J H') (d ρ h)
theorem _root_.L2.PI.imp {tg e : Expr} {t t' : TI} (h : PI X tg e t) (i : ∀ σ H Q, t' σ H Q → t σ H Q) : PI X tg e t' := ⟨fun pins s σ H R I q => h.run pins s σ H R I (i σ H R q)⟩
theorem _root_.L2.PI.or {tg e : Expr} {t t' : TI} (h : PI X tg e t) (h' : PI X tg e t') : PI X tg e (fun σ H R => t σ H R ∨ t' σ H R) := ⟨fun pins s σ H R I q => q.elim (h.run pins s σ H R I) (h'.run pins s σ H R I)⟩
def itL (n : Nat) : Itm := fun i h => match lstAt h n with
  | some ws => some (nthW ws i)
  | none => none
def itT (ws : List W) : Itm := fun i _ => some (nthW ws i)
def itS (x : List Nat) : Itm := fun i _ => some (match x[i]? with
  | some c => some (.str [c])
  | none => none)
def itR (lo : Int) (n : Nat) : Itm := fun i _ => cond (Nat.blt i n) (forceInt (lo + .ofNat i) fun k => some (some (.int k))) (some none)
theorem nthW_none {ws : List W} {i : Nat} (h : nthW ws i = none) : ws.length ≤ i := by
  rw [nthW_eq] at h
  exact List.getElem?_eq_none_iff.mp h
theorem ok_L {n : Nat} {a : Addr} (ha : m[n]? = some a) : ItOk C (Itl C.K a) m H (itL n) := by
  intro i m1 h1 H1 s fz r
  unfold itL
  cases e : lstAt h1 n with
  | none => exact ⟨fun z => (by cases z), fun w z => (by cases z)⟩
  | some ws =>
    obtain ⟨b, xs, eb, hb, q1, r1⟩ := lst_of r e ⟨a, s.get ha, rfl⟩
    cases eb
    refine ⟨fun z => ?_, fun w z => ?_⟩
    · have z := nthW_none (Option.some.inj z)
      exact ⟨xs, SqL.of q1, by rw [← r1.length]; exact z⟩
    · have z : nthW ws i = some w := Option.some.inj z
      rw [nthW_eq] at z
      obtain ⟨v, h3, h4⟩ := r1.get z
      refine ⟨⟨xs, v, SqL.of q1, h3⟩, fun x H' y => ?_⟩
      obtain ⟨rfl, y⟩ := y
      have h5 := y xs (SqL.of q1)
      rw [h3] at h5
      cases h5
      exact ⟨Step.refl, r, h4⟩
theorem ok_T {ws : List W} {xs : List V} {a : Addr} (r0 : C.rh m h H) (ha : H a = some (.tup xs)) (rs : RVs m H ws xs) : ItOk C (Itt C.K a) m H (itT ws) := by
  intro i m1 h1 H1 s fz r
  have q1 := s.tup _ _ ha
  have r1 := s.rvs _ _ rs
  refine ⟨fun z => ?_, fun w z => ?_⟩
  · have z := nthW_none (Option.some.inj z)
    exact ⟨xs, SqT.of q1, by rw [← r1.length]; exact z⟩
  · have z : nthW ws i = some w := Option.some.inj z
    rw [nthW_eq] at z
    obtain ⟨v, h3, h4⟩ := r1.get z
    refine ⟨⟨xs, v, SqT.of q1, h3⟩, fun x H' y => ?_⟩
    obtain ⟨rfl, y⟩ := y
    have h5 := y xs (SqT.of q1)
    rw [h3] at h5
    cases h5
    exact ⟨Step.refl, r, h4⟩
theorem ok_S {x : List Nat} : ItOk C (Its ⟨x.toArray⟩) m H (itS x) := by
  intro i m1 h1 H1 s fz r
  unfold itS
  refine ⟨fun z => ?_, fun w z => ?_⟩
  · cases e : x[i]? with
    | some c => rw [e] at z; cases z
    | none =>
      have := List.getElem?_eq_none_iff.mp e
      show Array.size _ ≤ i
      simpa using this
  · cases e : x[i]? with
    | none => rw [e] at z; cases z
    | some c =>
      rw [e] at z
      cases z
      have hl := (List.getElem?_eq_some_iff.mp e).1
      refine ⟨by show i < Array.size _; simpa using hl, fun v H' y => ?_⟩
      obtain ⟨rfl, c', e2, rfl⟩ := y
      have e3 : x[i]? = some c' := by simpa using e2
      rw [e] at e3
      cases e3
      exact ⟨Step.refl, r, rfl⟩
theorem ok_R {lo : Int} {n : Nat} : ItOk C (Itr lo n) m H (itR lo n) := by
  intro i m1 h1 H1 s fz r
  unfold itR
  cases hb : Nat.blt i n with
  | true =>
    refine ⟨fun z => ?_, fun w z => ?_⟩
    · have z : (forceInt (lo + .ofNat i) fun k => some (some (W.int k))) = some none := z
      rw [forceInt_eq] at z
      cases z
    · have z : (forceInt (lo + .ofNat i) fun k => some (some (W.int k))) = some (some w) := z
      rw [forceInt_eq] at z
      cases z
      refine ⟨blt_lt hb, fun x H' y => ?_⟩
      obtain ⟨rfl, rfl⟩ := y
      exact ⟨Step.refl, r, rfl⟩
  | false =>
    refine ⟨fun z => ?_, fun w z => by cases z⟩
    rw [blt_dec] at hb
    have := of_decide_eq_false hb
    show n ≤ i
    omega
/-- an evaluation whose outcome is told -/
theorem tD.told {d : D} {σ : L2.St} {ρ : Env} {w : W} {h1 : Hs} {Q : VK} (hd : d ρ h = .ok w h1) (r1 : RE m H ρ σ) (r2 : C.rh m h H) (k : ∀ v m1 H1, Step m H m1 H1 → C.rh m1 h1 H1 → RV m1 H1 w v → Q v H1) : tD C E d σ H Q :=
  ⟨m, ρ, h, r1, r2, by rw [hd]; exact fun m1 H1 s1 k1 v rv => k v m1 H1 s1 k1 rv⟩
/-- a list, a tuple, a text -/
def diSeq (d : D) : DI := fun ρ h => (d ρ h).bind fun w h1 => match w with
  | .tup ws => .ok (itT ws) h1
  | .str x => .ok (itS x) h1
  | .loc n => match h1.get n with
    | some (.lst _) => .ok (itL n) h1
    | _ => .bad
  | _ => .bad
theorem di_seq {tg e : Expr} {d : D} (hK : X.K = C.K) (he : PE X e (tD C E d)) : PI X tg e (tDI C E (diSeq d)) :=
  ((pi_list he).or ((pi_tup he).or (pi_str he))).imp fun σ H R ⟨m, ρ, h, r1, r2, p⟩ => by
    rw [hK]
    cases hd : d ρ h with
    | bad =>
      unfold diSeq at p
      rw [hd] at p
      exact p.elim
    | exc c h1 =>
      refine .inl ⟨m, ρ, h, r1, r2, ?_⟩
      unfold diSeq at p
      rw [hd] at p ⊢
      exact p
    | ok w h1 =>
      have p : Post C m H E _ ((d ρ h).bind fun w h1 => (match w with
        | .tup ws => Out.ok (itT ws) h1
        | .str x => .ok (itS x) h1
        | .loc n => match h1.get n with
          | some (.lst _) => .ok (itL n) h1
          | _ => .bad
        | _ => .bad : Out Itm)) := p
      rw [hd] at p
      match w, p, hd with
      | .tup ws, p, hd =>
        refine .inr (.inl (tD.told hd r1 r2 fun v m1 H1 s1 k1 rv => ?_))
        obtain ⟨a, xs, rfl, q1, rs⟩ := rv
        exact ⟨a, rfl, ⟨xs, SqT.of q1⟩, p m1 H1 s1 k1 _ (ok_T k1 q1 rs)⟩
      | .str x, p, hd =>
        refine .inr (.inr (tD.told hd r1 r2 fun v m1 H1 s1 k1 rv => ?_))
        cases rv
        exact ⟨_, rfl, p m1 H1 s1 k1 _ ok_S⟩
      | .loc n, p, hd =>
        have p : Post C m H E (fun f m' H' => ∀ J, ItOk C J m' H' f → R J H') (match h1.get n with | some (.lst _) => Out.ok (itL n) h1 | _ => .bad) := p
        cases e0 : h1.get n with
        | none => rw [e0] at p; exact p.elim
        | some o =>
          rw [e0] at p
          match o, p, e0 with
          | .lst ws, p, e0 =>
            refine .inl (tD.told hd r1 r2 fun v m1 H1 s1 k1 rv => ?_)
            obtain ⟨a, xs, rfl, ha, q1, rs⟩ := lst_of (ws := ws) k1 (by unfold lstAt; rw [e0]) rv
            exact ⟨a, rfl, ⟨xs, SqL.of q1⟩, p m1 H1 s1 k1 _ (ok_L ha)⟩
def bnd62 (j : Int) : Bool := Nat.blt j.natAbs 4611686018427387904
def toN (j : Int) : Nat := Int.rec (fun n => n) (fun _ => 0) j
theorem toN_eq (j : Int) : toN j = j.toNat := by cases j <;> rfl
def diRng1 (a : DL) : DI := fun ρ h => (a ρ h).bind fun ws h1 => match ws with
  | [.int j] => cond (bnd62 j) (forceNat (toN j) fun n => .ok (itR 0 n) h1) .bad
  | _ => .bad
def diRng2 (a : DL) : DI := fun ρ h => (a ρ h).bind fun ws h1 => match ws with
  | [.int i, .int j] => cond (bnd62 i && bnd62 j) (forceNat (toN (j - i)) fun n => .ok (itR i n) h1) .bad
  | _ => .bad
theorem bnd_of {j : Int} (h : bnd62 j = true) : -(2 ^ 62) ≤ j ∧ j < 2 ^ 62 := by
  have := blt_lt h
  omega
section
variable {tg a b : Expr} {dl : DL} {p pos : Pos}
theorem di_rng1 (hg : Gl X "range") (hm : X.mg "range" = none) (ha : PA X [a] (tDL C E dl)) (hs : starEach [a] X.env = [(false, eval a X.env)] := by rfl) : PI X tg (.Call (.Name "range" p) [a] [] pos) (tDI C E (diRng1 dl)) := (pi_range1 hg hm ha hs).imp fun σ H R ⟨m, ρ, h, r1, r2, p⟩ => by
  refine tDL.of r1 r2 p fun ws vs m1 h1 H1 s1 e1 k1 rv p1 => ?_
  match ws, p1, rv with
  | [.int j], p1, rv =>
    obtain ⟨v, rfl, rfl⟩ := rv.one
    obtain ⟨c, p1⟩ := cond_of p1
    rw [forceNat_eq, toN_eq] at p1
    obtain ⟨c1, c2⟩ := bnd_of c
    exact ⟨j, rfl, c1, c2, p1 m1 H1 Step.refl k1 _ ok_R⟩
theorem di_rng2 (hg : Gl X "range") (hm : X.mg "range" = none) (ha : PA X [a, b] (tDL C E dl)) (hs : starEach [a, b] X.env = [(false, eval a X.env), (false, eval b X.env)] := by rfl) (hs2 : starEach [b] X.env = [(false, eval b X.env)] := by rfl) :
    PI X tg (.Call (.Name "range" p) [a, b] [] pos) (tDI C E (diRng2 dl)) := (pi_range2 hg hm ha hs hs2).imp fun σ H R ⟨m, ρ, h, r1, r2, p⟩ => by
  refine tDL.of r1 r2 p fun ws vs m1 h1 H1 s1 e1 k1 rv p1 => ?_
  match ws, p1, rv with
  | [.int i, .int j], p1, rv =>
    obtain ⟨v, z, rfl, rfl, rfl⟩ := rv.two
    obtain ⟨c, p1⟩ := cond_of p1
    obtain ⟨ca, cb⟩ := Bool.and_eq_true_iff.mp c
    rw [forceNat_eq, toN_eq] at p1
    obtain ⟨c1, c2⟩ := bnd_of ca
    obtain ⟨c3, c4⟩ := bnd_of cb
    exact ⟨i, j, rfl, ⟨c1, c2, c3, c4⟩, p1 m1 H1 Step.refl k1 _ ok_R⟩
end
/-! for -/
def forL (f : Itm) (g : DG) (b : DS) (fuel : Nat) : Nat → Env → Hs → Out Fl :=
  Nat.rec (motive := fun _ => Nat → Env → Hs → Out Fl) (fun _ _ _ => .bad) (fun _ ih i ρ h => orBad (f i h) fun o => Option.rec (.ok (.nx ρ) h) (fun w => (g w ρ h).bind fun ρ1 h1 => (b ρ1 h1).bind fun fl h2 =>
    Fl.rec (fun ρ2 => forceNat (i + 1) fun j => ih j ρ2 h2) (fun w => .ok (.rt w) h2) (fun ρ2 => .ok (.nx ρ2) h2) (fun ρ2 => forceNat (i + 1) fun j => ih j ρ2 h2) fl) o) fuel
def dsFor (it : DI) (g : DG) (b : DS) : DS := fun ρ h => (it ρ h).bind fun f h1 => forL f g b 1000000 0 ρ h1
theorem of_for {it : DI} {g : DG} {b : DS} {own : List Nat} {D : Ends} {σ : L2.St} {H : Hp} (q : tDS C E (dsFor it g b) D σ H) : tFor (tDI C E it) (tDG C E own g) (tDS C E b) D σ H := by
  obtain ⟨m, ρ, h, r1, r2, p⟩ := q
  refine ⟨m, ρ, h, r1, r2, p.bind.step.mono fun f m1 H1 ⟨s1, _, q⟩ J hJ => ?_⟩
  obtain ⟨h1, k1, p1⟩ := q s1
  refine ⟨fun i k σ' H' => ∃ m' ρ' h', Step m1 H1 m' H' ∧ RE m' H' ρ' σ' ∧ C.rh m' h' H' ∧ Post C m' H' E (endsOf D) (forL f g b k i ρ' h'), ⟨_, m1, ρ, h1, Step.refl, s1.re r2 r1, k1, p1⟩, ?_⟩
  rintro i k σ' H' ⟨m', ρ', h', s', e', k', p'⟩
  cases k with
  | zero => exact p'.elim
  | succ k =>
    obtain ⟨j1, j2⟩ := hJ i m' h' H' (s'.sw k1) s'.frz k'
    obtain ⟨o, q1, p'⟩ := orBad_of p'
    cases o with
    | none => exact .inl ⟨j1 q1, p' m' H' Step.refl k' σ' e'⟩
    | some w =>
      obtain ⟨j3, j4⟩ := j2 w q1
      have p' : Post C m' H' E (endsOf D) ((g w ρ' h').bind fun ρ1 h1 => (b ρ1 h1).bind fun fl h2 =>
        Fl.rec (fun ρ2 => forceNat (i + 1) fun j => forL f g b k j ρ2 h2) (fun w => .ok (.rt w) h2) (fun ρ2 => .ok (.nx ρ2) h2) (fun ρ2 => forceNat (i + 1) fun j => forL f g b k j ρ2 h2) fl) := p'
      refine .inr ⟨j3, fun σ2 H2 => ∃ m2 ρ2 h2, Step m1 H1 m2 H2 ∧ RE m2 H2 ρ2 σ2 ∧ C.rh m2 h2 H2 ∧ Post C m2 H2 E (endsOf D) (forL f g b k (i + 1) ρ2 h2), fun σ2 H2 n2 => ⟨k, Nat.lt_succ_self k, n2⟩, fun x H2 y => ?_⟩
      obtain ⟨s2, k2, rx⟩ := j4 x H2 y
      have s12 := s'.trans s2
      refine ⟨m', ρ', h', w, s2.re k' e', k2, rx, (p'.later s2).bind.step.mono fun ρ3 m3 H3 ⟨s3, _, q3⟩ σ3 e3 _ => ?_⟩
      obtain ⟨h3, k3, p3⟩ := q3 s3
      refine ⟨m3, ρ3, h3, e3, k3, p3.bind.step.mono fun fl m4 H4 ⟨s4, _, q4⟩ => ?_⟩
      obtain ⟨h4, k4, p4⟩ := q4 s4
      have s14 := (s12.trans s3).trans s4
      cases fl with
      | nx ρ4 =>
        intro σ4 e4
        have p4 : Post C m4 H4 E (endsOf D) (forceNat (i + 1) fun j => forL f g b k j ρ4 h4) := p4
        rw [forceNat_eq] at p4
        exact ⟨m4, ρ4, h4, s14, e4, k4, p4⟩
      | ct ρ4 =>
        intro σ4 e4
        have p4 : Post C m4 H4 E (endsOf D) (forceNat (i + 1) fun j => forL f g b k j ρ4 h4) := p4
        rw [forceNat_eq] at p4
        exact ⟨m4, ρ4, h4, s14, e4, k4, p4⟩
      | bk ρ4 => exact fun σ4 e4 => p4 m4 H4 Step.refl k4 σ4 e4
      | rt w4 => exact fun v rv => p4 m4 H4 Step.refl k4 v rv
theorem ds_for {tg iter : Expr} {body : List Stmt} {pos : Pos} {it : DI} {g : DG} {b : DS} {own : List Nat} (hp : PassesOwn (model X.prog X.w) X.A X.env X.xe) (hc : X.calm = true) (hi : PI X tg iter (tDI C E it)) (hg : PG X tg (tDG C E own g)) (hb : PSs X body (tDS C E b))
    (hs : ∀ x, foldedSetIterable iter X.env x = pure x := by intro _; rfl) : PS X (.For tg iter body [] pos) (tDS C E (dsFor it g b)) := (ps_for hp hc hi hg hb hs).imp fun D σ H q => of_for q
/-! while -/
def whL (t : DT) (b : DS) (fuel : Nat) : Env → Hs → Out Fl :=
  Nat.rec (motive := fun _ => Env → Hs → Out Fl) (fun _ _ => .bad) (fun _ ih ρ h => (t ρ h).bind fun c h1 => Bool.rec (.ok (.nx ρ) h1) ((b ρ h1).bind fun fl h2 =>
    Fl.rec (fun ρ2 => ih ρ2 h2) (fun w => .ok (.rt w) h2) (fun ρ2 => .ok (.nx ρ2) h2) (fun ρ2 => ih ρ2 h2) fl) c) fuel
def dsWhile (t : DT) (b : DS) : DS := fun ρ h => whL t b 1000000 ρ h
theorem ds_while {c : Expr} {body : List Stmt} {pos : Pos} {t : DT} {b : DS} (hp : PassesOwn (model X.prog X.w) X.A X.env X.xe) (hc : PT X c (tDT C E t)) (hb : PSs X body (tDS C E b)) : PS X (.While c body [] pos) (tDS C E (dsWhile t b)) :=
  (ps_while hp hc hb).imp fun D σ H ⟨m, ρ, h, r1, r2, p⟩ => by
    refine ⟨fun k σ' H' => ∃ m' ρ' h', RE m' H' ρ' σ' ∧ C.rh m' h' H' ∧ Post C m' H' E (endsOf D) (whL t b k ρ' h'), ⟨_, m, ρ, h, r1, r2, p⟩, ?_⟩
    rintro k σ' H' ⟨m', ρ', h', e', k', p'⟩
    cases k with
    | zero => exact p'.elim
    | succ k =>
      have p' : Post C m' H' E (endsOf D) ((t ρ' h').bind fun c h1 => Bool.rec (.ok (.nx ρ') h1) ((b ρ' h1).bind fun fl h2 =>
        Fl.rec (fun ρ2 => whL t b k ρ2 h2) (fun w => .ok (.rt w) h2) (fun ρ2 => .ok (.nx ρ2) h2) (fun ρ2 => whL t b k ρ2 h2) fl) c) := p'
      refine tDT.of e' k' p' fun w m1 h1 H1 s1 e1 k1 p1 => ?_
      cases w with
      | false => exact p1 m1 H1 Step.refl k1 σ' e1
      | true =>
        rw [if_pos rfl]
        refine ⟨fun σ2 H2 => ∃ m2 ρ2 h2, RE m2 H2 ρ2 σ2 ∧ C.rh m2 h2 H2 ∧ Post C m2 H2 E (endsOf D) (whL t b k ρ2 h2), fun σ2 H2 n2 => ⟨k, Nat.lt_succ_self k, n2⟩, m1, ρ', h1, e1, k1, ?_⟩
        have p1 : Post C m1 H1 E (endsOf D) ((b ρ' h1).bind fun fl h2 => Fl.rec (fun ρ2 => whL t b k ρ2 h2) (fun w => .ok (.rt w) h2) (fun ρ2 => .ok (.nx ρ2) h2) (fun ρ2 => whL t b k ρ2 h2) fl) := p1
        refine p1.bind.step.mono fun fl m4 H4 ⟨s4, _, q4⟩ => ?_
        obtain ⟨h4, k4, p4⟩ := q4 s4
        cases fl with
        | nx ρ4 => exact fun σ4 e4 => ⟨m4, ρ4, h4, e4, k4, p4⟩
        | ct ρ4 => exact fun σ4 e4 => ⟨m4, ρ4, h4, e4, k4, p4⟩
        | bk ρ4 => exact fun σ4 e4 => p4 m4 H4 Step.refl k4 σ4 e4
        | rt w4 => exact fun v rv => p4 m4 H4 Step.refl k4 v rv
end
end Vz
end
/-! comprehensions; dicts that are walked -/
noncomputable section
namespace Vz
open PySem PySem.Spec PyProof.Rows L2

theorem agree_wipe {σ : L2.St} {vs : List Nat} : Agree vs σ (wipe σ vs) := ⟨wipe_length σ vs, fun i hi => wipe_out hi⟩
/-- nothing is raised within a block -/
abbrev E0 : XK := fun _ _ _ => False
/-- what would be raised is not known -/
def noX {α : Type} (o : Out α) : Out α := Out.rec (fun a h => .ok a h) (fun _ _ => .bad) .bad o
section
variable {C : Cn} {m : List Addr} {H : Hp} {h : Hs} {X : Cx} {E : XK}
theorem Post.noX {α β : Type} {o : Out α} {f : α → Hs → Out β} {R : β → List Addr → Hp → Prop} (p : Post C m H E R ((noX o).bind f)) :
    Post C m H E0 (fun a m1 H1 => ∃ h1, C.rh m1 h1 H1 ∧ Post C m H E R (f a h1)) o := by
  cases o with
  | ok a h1 => exact fun m1 H1 s1 r1 => ⟨h1, r1, p⟩
  | exc c h1 => exact p.elim
  | bad => exact p.elim
/-- a test of a clause -/
def dtYes : DT := fun _ h => .ok true h
theorem dts_nil : PTs X [] (tDT C E dtYes) := ⟨fun pins s σ H Q I ⟨m, ρ, h, r1, r2, p⟩ => (pts_nil (X := X)).run pins s σ H Q I (p m H Step.refl r2)⟩
theorem dts_one {c : Expr} {t : DT} (h : PT X c (tDT C E t)) : PTs X [c] (tDT C E t) := pts_one h
/-- one clause: the items so far backwards -/
def lcL (f : Itm) (g : DG) (tt : DT) (te : D) (ρ0 : Env) (fuel : Nat) : Nat → Nat → List W → Hs → Out (Nat × List W) :=
  Nat.rec (motive := fun _ => Nat → Nat → List W → Hs → Out (Nat × List W)) (fun _ _ _ _ => .bad) (fun _ ih i n acc h => orBad (f i h) fun o => Option.rec (.ok (n, acc) h) (fun w => (noX (g w ρ0 h)).bind fun ρ1 h1 => (noX (tt ρ1 h1)).bind fun b h2 =>
    Bool.rec (forceNat (i + 1) fun j => ih j n acc h2) ((noX (te ρ1 h2)).bind fun y h3 => cond (Nat.blt n 100000) (forceNat (i + 1) fun j => forceNat (n + 1) fun n => ih j n (y :: acc) h3) .bad) b) o) fuel
def revS {α : Type} (l : List W) (k : List W → Out α) : Out α := List.rec (motive := fun _ => List W → Out α) (fun a => k a) (fun x _ ih a => ih (x :: a)) l []
theorem revS_go {α : Type} (k : List W → Out α) : ∀ (l a : List W), List.rec (motive := fun _ => List W → Out α) (fun a => k a) (fun x _ ih a => ih (x :: a)) l a = k (l.reverse ++ a)
  | [], a => rfl
  | x :: l, a => by
    show List.rec (motive := fun _ => List W → Out α) (fun a => k a) (fun x _ ih a => ih (x :: a)) l (x :: a) = _
    rw [revS_go k l (x :: a), List.reverse_cons, List.append_assoc]
    rfl
theorem revS_eq {α : Type} (k : List W → Out α) (l : List W) : revS l k = k l.reverse := by
  show List.rec (motive := fun _ => List W → Out α) (fun a => k a) (fun x _ ih a => ih (x :: a)) l [] = _
  rw [revS_go, List.append_nil]
def dLc (it : DI) (g : DG) (tt : DT) (te : D) (vs : List Nat) : D := fun ρ h => (it ρ h).bind fun f h1 => (lcL f g tt te (wipeE ρ vs) 1000000 0 0 [] h1).bind fun acc h2 => revS acc.2 fun l => orBad (h2.new (.lst l)) fun h3 => .ok (.loc h2.n) h3
theorem upd_self {H : Hp} {a : Addr} {o : HO} (e : H a = some o) : upd H a o = H := by
  funext b
  unfold upd
  by_cases z : b = a
  · rw [if_pos z, z, e]
  · rw [if_neg z]
/-- the new list D of a comprehension, out of the map while it grows -/
structure Grow (C : Cn) (m1 : List Addr) (H1 : Hp) (D : Addr) (acc : List W) (m : List Addr) (h : Hs) (H : Hp) : Prop where
  st : Step m1 H1 m H
  rh : C.rh m h H
  out : D ∉ m
  at_ : ∃ xs, H D = some (.lst xs) ∧ RVs m H acc.reverse xs
variable {m1 m' m2 : List Addr} {H1 H' H2 : Hp} {L : Addr} {acc : List W} {h' h2 : Hs}
theorem Grow.next (g : Grow C m1 H1 L acc m h H) (hD : H1 L = none) (s : Step m H m' H') (r : C.rh m' h' H') : Grow C m1 H1 L acc m' h' H' := by
  obtain ⟨xs, e, rs⟩ := g.at_
  refine ⟨g.st.trans s, r, fun z => ?_, xs, s.fr L _ e g.out, s.rvs g.rh _ _ rs⟩
  have := s.new L z g.out
  rw [e] at this
  cases this
theorem Grow.push (g : Grow C m1 H1 L acc m h H) (hD : H1 L = none) {w : W} {v : V} (rv : RV m H w v) : ∃ xs, H L = some (.lst xs) ∧ xs.length = acc.length ∧ Grow C m1 H1 L (w :: acc) m h (upd H L (.lst (xs ++ [v]))) := by
  obtain ⟨xs, e, rs⟩ := g.at_
  have ht : ∀ ys, H L ≠ some (.tup ys) := fun ys z => by rw [e] at z; cases z
  refine ⟨xs, e, ?_, g.st.out hD, g.rh.out g.out ht, g.out, _, upd_same, ?_⟩
  · rw [← rs.length, List.length_reverse]
  · rw [List.reverse_cons]
    exact (sw_set ht).rvs _ _ (rs.append (RVs.cons rv RVs.nil))
theorem Grow.fin (g : Grow C m1 H1 L acc m h H) (hD : H1 L = none) {Q : VK} (p : Post C m1 H1 E (fun w m' H' => ∀ v, RV m' H' w v → Q v H') (revS acc fun l => orBad (h.new (.lst l)) fun h3 => .ok (.loc h.n) h3)) : Q (.ref L) H := by
  rw [revS_eq] at p
  obtain ⟨h3, e3, p⟩ := orBad_of p
  obtain ⟨xs, e, rs⟩ := g.at_
  have ht : ∀ ys, H L ≠ some (.tup ys) := fun ys z => by rw [e] at z; cases z
  have a := g.rh.adopt (o := .lst xs) g.out ht e3 ⟨xs, upd_same, (sw_adopt ht).rvs _ _ rs⟩
  have s := g.st.adopt (o := .lst xs) hD
  rw [upd_self e] at a s
  exact p _ _ s a _ ⟨L, new_get g.rh L, rfl⟩
theorem of_lc {it : DI} {g : DG} {tt : DT} {te : D} {vs own : List Nat} {σ : L2.St} {H : Hp} {Q : VK} (ho : ∀ i ∈ own, i ∈ vs) (q : tD C E (dLc it g tt te vs) σ H Q) : tLc (tDI C E it) (tDG C E0 own g) (tDT C E0 tt) (tD C E0 te) vs σ H Q := by
  obtain ⟨m, ρ, h, r1, r2, p⟩ := q
  refine ⟨m, ρ, h, r1, r2, p.bind.step.mono fun f m1 H1 ⟨s1, _, q⟩ J hJ D hD => ?_⟩
  obtain ⟨h1, k1, p1⟩ := q s1
  have re0 := (s1.re r2 r1).wipe vs
  refine ⟨fun i k H' => ∃ m' h' n acc, Grow C m1 H1 D acc m' h' H' ∧ acc.length ≤ n ∧ Post C m1 H1 E (fun w m' H' => ∀ v, RV m' H' w v → Q v H') ((lcL f g tt te (wipeE ρ vs) k i n acc h').bind fun acc h2 => revS acc.2 fun l => orBad (h2.new (.lst l)) fun h3 => .ok (.loc h2.n) h3),
    ⟨1000000, m1, h1, 0, [], ⟨step_lay hD, k1.lay hD, k1.notin hD, [], upd_same, rfl⟩, Nat.le_refl _, p1⟩, ?_⟩
  rintro i k H' ⟨m', h', n, acc, gr, hl, p'⟩
  cases k with
  | zero => exact p'.elim
  | succ k =>
    obtain ⟨j1, j2⟩ := hJ i m' h' H' (gr.st.sw k1) gr.st.frz gr.rh
    have e : lcL f g tt te (wipeE ρ vs) (k + 1) i n acc h' = orBad (f i h') fun o => Option.rec (.ok (n, acc) h') (fun w => (noX (g w (wipeE ρ vs) h')).bind fun ρ1 h1 => (noX (tt ρ1 h1)).bind fun b h2 =>
      Bool.rec (forceNat (i + 1) fun j => lcL f g tt te (wipeE ρ vs) k j n acc h2) ((noX (te ρ1 h2)).bind fun y h3 => cond (Nat.blt n 100000) (forceNat (i + 1) fun j => forceNat (n + 1) fun n => lcL f g tt te (wipeE ρ vs) k j n (y :: acc) h3) .bad) b) o := rfl
    rw [e] at p'
    cases hf : f i h' with
    | none => rw [hf] at p'; exact p'.elim
    | some o =>
      rw [hf] at p'
      cases o with
      | none => exact .inl ⟨j1 hf, gr.fin hD p'⟩
      | some w =>
        obtain ⟨j3, j4⟩ := j2 w hf
        refine .inr ⟨j3, fun H2 => ∃ m2 h2 n2 acc2, Grow C m1 H1 D acc2 m2 h2 H2 ∧ acc2.length ≤ n2 ∧ Post C m1 H1 E (fun w m' H' => ∀ v, RV m' H' w v → Q v H') ((lcL f g tt te (wipeE ρ vs) k (i + 1) n2 acc2 h2).bind fun acc h2 => revS acc.2 fun l => orBad (h2.new (.lst l)) fun h3 => .ok (.loc h2.n) h3), fun H2 n2 => ⟨k, Nat.lt_succ_self k, n2⟩, fun x H2 y => ?_⟩
        obtain ⟨s2, k2, rx⟩ := j4 x H2 y
        have gr2 := gr.next hD s2 k2
        have re2 : RE m' H2 (wipeE ρ vs) (wipe σ vs) := gr2.st.re k1 re0
        have p' : Post C m1 H1 E (fun w m' H' => ∀ v, RV m' H' w v → Q v H') (((noX (g w (wipeE ρ vs) h')).bind fun ρ1 h1 => (noX (tt ρ1 h1)).bind fun b h2 =>
          Bool.rec (forceNat (i + 1) fun j => lcL f g tt te (wipeE ρ vs) k j n acc h2) ((noX (te ρ1 h2)).bind fun y h3 => cond (Nat.blt n 100000) (forceNat (i + 1) fun j => forceNat (n + 1) fun n => lcL f g tt te (wipeE ρ vs) k j n (y :: acc) h3) .bad) b).bind fun acc h2 => revS acc.2 fun l => orBad (h2.new (.lst l)) fun h3 => .ok (.loc h2.n) h3) := p'
        rw [bind_assoc] at p'
        refine ⟨m', wipeE ρ vs, h', w, re2, k2, rx, (p'.noX.later gr2.st).step.mono fun ρ3 m3 H3 ⟨s3, _, h3, k3, p3⟩ σ3 e3 a3 => ⟨(agree_wipe.trans (a3.mono ho)).wipe fun i hi => hi, ?_⟩⟩
        have gr3 := gr2.next hD s3 k3
        rw [bind_assoc] at p3
        refine ⟨m3, ρ3, h3, e3, k3, (p3.noX.later gr3.st).step.mono fun b m4 H4 ⟨s4, _, h4, k4, p4⟩ => ?_⟩
        have gr4 := gr3.next hD s4 k4
        cases b with
        | false =>
          simp only [Bool.false_eq_true, if_false]
          have p4 : Post C m1 H1 E (fun w m' H' => ∀ v, RV m' H' w v → Q v H') ((forceNat (i + 1) fun j => lcL f g tt te (wipeE ρ vs) k j n acc h4).bind fun acc h2 => revS acc.2 fun l => orBad (h2.new (.lst l)) fun h3 => .ok (.loc h2.n) h3) := p4
          rw [forceNat_eq] at p4
          exact ⟨m4, h4, n, acc, gr4, hl, p4⟩
        | true =>
          simp only [if_true]
          have p4 : Post C m1 H1 E (fun w m' H' => ∀ v, RV m' H' w v → Q v H') (((noX (te ρ3 h4)).bind fun y h3 => cond (Nat.blt n 100000) (forceNat (i + 1) fun j => forceNat (n + 1) fun n => lcL f g tt te (wipeE ρ vs) k j n (y :: acc) h3) .bad).bind fun acc h2 => revS acc.2 fun l => orBad (h2.new (.lst l)) fun h3 => .ok (.loc h2.n) h3) := p4
          rw [bind_assoc] at p4
          refine ⟨m4, ρ3, h4, s4.re k3 e3, k4, (p4.noX.later gr4.st).step.mono fun y m5 H5 ⟨s5, _, h5, k5, p5⟩ vy ry => ?_⟩
          have gr5 := gr4.next hD s5 k5
          obtain ⟨xs, q1, q2, gr6⟩ := gr5.push hD ry
          have e5 : ∀ (c : Bool) (o : Out (Nat × List W)) (kk : Nat × List W → Hs → Out W), (cond c o .bad).bind kk = cond c (o.bind kk) .bad := fun c o kk => by cases c <;> rfl
          rw [e5] at p5
          obtain ⟨c, p5⟩ := cond_of p5
          rw [forceNat_eq, forceNat_eq] at p5
          exact ⟨xs, q1, by rw [q2]; exact Nat.lt_of_le_of_lt hl (blt_sz c), m5, h5, n + 1, y :: acc, gr6, Nat.succ_le_succ hl, p5⟩
end
end Vz
end
/-! two clauses; the rules; dicts that are walked -/
noncomputable section
namespace Vz
open PySem PySem.Spec PyProof.Rows L2

def lcL2 (f : Itm) (g : DG) (tt : DT) (it1 : DI) (g1 : DG) (tt1 : DT) (te : D) (ρ0 : Env) (vs1 : List Nat) (fuel : Nat) : Nat → Nat → List W → Hs → Out (Nat × List W) :=
  Nat.rec (motive := fun _ => Nat → Nat → List W → Hs → Out (Nat × List W)) (fun _ _ _ _ => .bad) (fun _ ih i n acc h => orBad (f i h) fun o => Option.rec (.ok (n, acc) h) (fun w => (noX (g w ρ0 h)).bind fun ρ1 h1 => (noX (tt ρ1 h1)).bind fun b h2 =>
    Bool.rec (forceNat (i + 1) fun j => ih j n acc h2) ((noX (it1 ρ1 h2)).bind fun f1 h3 => (lcL f1 g1 tt1 te (wipeE ρ1 vs1) 1000000 0 n acc h3).bind fun p h4 => forceNat (i + 1) fun j => ih j p.1 p.2 h4) b) o) fuel
def dLc2 (it : DI) (g : DG) (tt : DT) (it1 : DI) (g1 : DG) (tt1 : DT) (te : D) (vs vs1 : List Nat) : D := fun ρ h => (it ρ h).bind fun f h1 => (lcL2 f g tt it1 g1 tt1 te (wipeE ρ vs) vs1 1000000 0 0 [] h1).bind fun acc h2 => revS acc.2 fun l => orBad (h2.new (.lst l)) fun h3 => .ok (.loc h2.n) h3
section
variable {C : Cn} {m : List Addr} {H : Hp} {h : Hs} {X : Cx} {E : XK}
theorem of_lc2 {it it1 : DI} {g g1 : DG} {tt tt1 : DT} {te : D} {vs vs1 own own1 : List Nat} {σ : L2.St} {H : Hp} {Q : VK} (ho : ∀ i ∈ own, i ∈ vs) (ho1 : ∀ i ∈ own1, i ∈ vs1) (q : tD C E (dLc2 it g tt it1 g1 tt1 te vs vs1) σ H Q) :
    tLc2 (tDI C E it) (tDG C E0 own g) (tDT C E0 tt) (tDI C E0 it1) (tDG C E0 own1 g1) (tDT C E0 tt1) (tD C E0 te) vs vs1 σ H Q := by
  obtain ⟨m, ρ, h, r1, r2, p⟩ := q
  refine ⟨m, ρ, h, r1, r2, p.bind.step.mono fun f m1 H1 ⟨s1, _, q⟩ J hJ D hD => ?_⟩
  obtain ⟨h1, k1, p1⟩ := q s1
  have re0 := (s1.re r2 r1).wipe vs
  generalize hfin : (fun (acc : Nat × List W) (h2 : Hs) => revS acc.2 fun l => orBad (h2.new (.lst l)) fun h3 => Out.ok (W.loc h2.n) h3) = fin at p1
  refine ⟨fun i k H' => ∃ m' h' n acc, Grow C m1 H1 D acc m' h' H' ∧ acc.length ≤ n ∧ Post C m1 H1 E (fun w m' H' => ∀ v, RV m' H' w v → Q v H') ((lcL2 f g tt it1 g1 tt1 te (wipeE ρ vs) vs1 k i n acc h').bind fin),
    ⟨1000000, m1, h1, 0, [], ⟨step_lay hD, k1.lay hD, k1.notin hD, [], upd_same, rfl⟩, Nat.le_refl _, p1⟩, ?_⟩
  rintro i k H' ⟨m', h', n, acc, gr, hl, p'⟩
  cases k with
  | zero => exact p'.elim
  | succ k =>
    obtain ⟨j1, j2⟩ := hJ i m' h' H' (gr.st.sw k1) gr.st.frz gr.rh
    have e : lcL2 f g tt it1 g1 tt1 te (wipeE ρ vs) vs1 (k + 1) i n acc h' = orBad (f i h') fun o => Option.rec (.ok (n, acc) h') (fun w => (noX (g w (wipeE ρ vs) h')).bind fun ρ1 h1 => (noX (tt ρ1 h1)).bind fun b h2 =>
      Bool.rec (forceNat (i + 1) fun j => lcL2 f g tt it1 g1 tt1 te (wipeE ρ vs) vs1 k j n acc h2) ((noX (it1 ρ1 h2)).bind fun f1 h3 => (lcL f1 g1 tt1 te (wipeE ρ1 vs1) 1000000 0 n acc h3).bind fun p h4 => forceNat (i + 1) fun j => lcL2 f g tt it1 g1 tt1 te (wipeE ρ vs) vs1 k j p.1 p.2 h4) b) o := rfl
    rw [e] at p'
    cases hf : f i h' with
    | none => rw [hf] at p'; exact p'.elim
    | some o =>
      rw [hf] at p'
      cases o with
      | none =>
        have p' : Post C m1 H1 E (fun w m' H' => ∀ v, RV m' H' w v → Q v H') (fin (n, acc) h') := p'
        rw [← hfin] at p'
        exact .inl ⟨j1 hf, gr.fin hD p'⟩
      | some w =>
        obtain ⟨j3, j4⟩ := j2 w hf
        generalize hN : (fun H2 : Hp => ∃ m2 h2 n2 acc2, Grow C m1 H1 D acc2 m2 h2 H2 ∧ acc2.length ≤ n2 ∧ Post C m1 H1 E (fun w m' H' => ∀ v, RV m' H' w v → Q v H') ((lcL2 f g tt it1 g1 tt1 te (wipeE ρ vs) vs1 k (i + 1) n2 acc2 h2).bind fin)) = Nx
        refine .inr ⟨j3, Nx, fun H2 n2 => ⟨k, Nat.lt_succ_self k, by rw [← hN] at n2; exact n2⟩, fun x H2 y => ?_⟩
        obtain ⟨s2, k2, rx⟩ := j4 x H2 y
        have gr2 := gr.next hD s2 k2
        have re2 : RE m' H2 (wipeE ρ vs) (wipe σ vs) := gr2.st.re k1 re0
        have p' : Post C m1 H1 E (fun w m' H' => ∀ v, RV m' H' w v → Q v H') (((noX (g w (wipeE ρ vs) h')).bind fun ρ1 h1 => (noX (tt ρ1 h1)).bind fun b h2 =>
          Bool.rec (forceNat (i + 1) fun j => lcL2 f g tt it1 g1 tt1 te (wipeE ρ vs) vs1 k j n acc h2) ((noX (it1 ρ1 h2)).bind fun f1 h3 => (lcL f1 g1 tt1 te (wipeE ρ1 vs1) 1000000 0 n acc h3).bind fun p h4 => forceNat (i + 1) fun j => lcL2 f g tt it1 g1 tt1 te (wipeE ρ vs) vs1 k j p.1 p.2 h4) b).bind fin) := p'
        rw [bind_assoc] at p'
        refine ⟨m', wipeE ρ vs, h', w, re2, k2, rx, (p'.noX.later gr2.st).step.mono fun ρ3 m3 H3 ⟨s3, _, h3, k3, p3⟩ σ3 e3 a3 => ⟨(agree_wipe.trans (a3.mono ho)).wipe fun i hi => hi, ?_⟩⟩
        have gr3 := gr2.next hD s3 k3
        rw [bind_assoc] at p3
        refine ⟨m3, ρ3, h3, e3, k3, (p3.noX.later gr3.st).step.mono fun b m4 H4 ⟨s4, _, h4, k4, p4⟩ => ?_⟩
        have gr4 := gr3.next hD s4 k4
        have e4 := s4.re k3 e3
        cases b with
        | false =>
          simp only [Bool.false_eq_true, if_false]
          have p4 : Post C m1 H1 E (fun w m' H' => ∀ v, RV m' H' w v → Q v H') ((forceNat (i + 1) fun j => lcL2 f g tt it1 g1 tt1 te (wipeE ρ vs) vs1 k j n acc h4).bind fin) := p4
          rw [forceNat_eq] at p4
          rw [← hN]
          exact ⟨m4, h4, n, acc, gr4, hl, p4⟩
        | true =>
          simp only [if_true]
          have p4 : Post C m1 H1 E (fun w m' H' => ∀ v, RV m' H' w v → Q v H') (((noX (it1 ρ3 h4)).bind fun f1 h3 => (lcL f1 g1 tt1 te (wipeE ρ3 vs1) 1000000 0 n acc h3).bind fun p h4 => forceNat (i + 1) fun j => lcL2 f g tt it1 g1 tt1 te (wipeE ρ vs) vs1 k j p.1 p.2 h4).bind fin) := p4
          rw [bind_assoc] at p4
          refine ⟨m4, ρ3, h4, e4, k4, (p4.noX.later gr4.st).step.mono fun f1 m5 H5 ⟨s5, _, h5, k5, p5⟩ J1 hJ1 => ?_⟩
          have gr5 := gr4.next hD s5 k5
          have re5 := (s5.re k4 e4).wipe vs1
          rw [bind_assoc] at p5
          generalize hfi : (fun (p : Nat × List W) (h4 : Hs) => (forceNat (i + 1) fun j => lcL2 f g tt it1 g1 tt1 te (wipeE ρ vs) vs1 k j p.1 p.2 h4).bind fin) = fin1 at p5
          refine ⟨fun j k1 H' => ∃ m' h' n acc, Sw m5 H5 m' H' ∧ Fz H5 H' ∧ Grow C m1 H1 D acc m' h' H' ∧ acc.length ≤ n ∧ Post C m1 H1 E (fun w m' H' => ∀ v, RV m' H' w v → Q v H') ((lcL f1 g1 tt1 te (wipeE ρ3 vs1) k1 j n acc h').bind fin1),
            ⟨1000000, m5, h5, n, acc, Sw.refl, fun _ _ _ q => q, gr5, hl, p5⟩, ?_⟩
          rintro j kk H6 ⟨m6, h6, n6, acc6, st6, fz6, gr6, hl6, p6⟩
          cases kk with
          | zero => exact p6.elim
          | succ kk =>
            obtain ⟨l1, l2⟩ := hJ1 j m6 h6 H6 st6 fz6 gr6.rh
            have e : lcL f1 g1 tt1 te (wipeE ρ3 vs1) (kk + 1) j n6 acc6 h6 = orBad (f1 j h6) fun o => Option.rec (.ok (n6, acc6) h6) (fun w => (noX (g1 w (wipeE ρ3 vs1) h6)).bind fun ρ1 h1 => (noX (tt1 ρ1 h1)).bind fun b h2 =>
              Bool.rec (forceNat (j + 1) fun j => lcL f1 g1 tt1 te (wipeE ρ3 vs1) kk j n6 acc6 h2) ((noX (te ρ1 h2)).bind fun y h3 => cond (Nat.blt n6 100000) (forceNat (j + 1) fun j => forceNat (n6 + 1) fun n => lcL f1 g1 tt1 te (wipeE ρ3 vs1) kk j n (y :: acc6) h3) .bad) b) o := rfl
            rw [e] at p6
            cases hf6 : f1 j h6 with
            | none => rw [hf6] at p6; exact p6.elim
            | some o =>
              rw [hf6] at p6
              cases o with
              | none =>
                refine .inl ⟨l1 hf6, ?_⟩
                have p6 : Post C m1 H1 E (fun w m' H' => ∀ v, RV m' H' w v → Q v H') (fin1 (n6, acc6) h6) := p6
                rw [← hfi] at p6
                have p6 : Post C m1 H1 E (fun w m' H' => ∀ v, RV m' H' w v → Q v H') ((forceNat (i + 1) fun j => lcL2 f g tt it1 g1 tt1 te (wipeE ρ vs) vs1 k j n6 acc6 h6).bind fin) := p6
                rw [forceNat_eq] at p6
                rw [← hN]
                exact ⟨m6, h6, n6, acc6, gr6, hl6, p6⟩
              | some w6 =>
                obtain ⟨l3, l4⟩ := l2 w6 hf6
                refine .inr ⟨l3, fun H2 => ∃ m' h' n acc, Sw m5 H5 m' H2 ∧ Fz H5 H2 ∧ Grow C m1 H1 D acc m' h' H2 ∧ acc.length ≤ n ∧ Post C m1 H1 E (fun w m' H' => ∀ v, RV m' H' w v → Q v H') ((lcL f1 g1 tt1 te (wipeE ρ3 vs1) kk (j + 1) n acc h').bind fin1), fun H2 n2 => ⟨kk, Nat.lt_succ_self kk, n2⟩, fun x H7 y => ?_⟩
                obtain ⟨s7, k7, rx7⟩ := l4 x H7 y
                have gr7 := gr6.next hD s7 k7
                have st7 := st6.trans (s7.sw gr6.rh)
                have re7 : RE m6 H7 (wipeE ρ3 vs1) (wipe σ3 vs1) := st7.re re5
                have p6 : Post C m1 H1 E (fun w m' H' => ∀ v, RV m' H' w v → Q v H') (((noX (g1 w6 (wipeE ρ3 vs1) h6)).bind fun ρ1 h1 => (noX (tt1 ρ1 h1)).bind fun b h2 =>
                  Bool.rec (forceNat (j + 1) fun j => lcL f1 g1 tt1 te (wipeE ρ3 vs1) kk j n6 acc6 h2) ((noX (te ρ1 h2)).bind fun y h3 => cond (Nat.blt n6 100000) (forceNat (j + 1) fun j => forceNat (n6 + 1) fun n => lcL f1 g1 tt1 te (wipeE ρ3 vs1) kk j n (y :: acc6) h3) .bad) b).bind fin1) := p6
                rw [bind_assoc] at p6
                refine ⟨m6, wipeE ρ3 vs1, h6, w6, re7, k7, rx7, (p6.noX.later gr7.st).step.mono fun ρ8 m8 H8 ⟨s8, _, h8, k8, p8⟩ σ8 e8 a8 => ⟨(agree_wipe.trans (a8.mono ho1)).wipe fun i hi => hi, ?_⟩⟩
                have gr8 := gr7.next hD s8 k8
                rw [bind_assoc] at p8
                refine ⟨m8, ρ8, h8, e8, k8, (p8.noX.later gr8.st).step.mono fun b m9 H9 ⟨s9, _, h9, k9, p9⟩ => ?_⟩
                have gr9 := gr8.next hD s9 k9
                have st9 := (st7.trans (s8.sw k7)).trans (s9.sw k8)
                cases b with
                | false =>
                  simp only [Bool.false_eq_true, if_false]
                  have p9 : Post C m1 H1 E (fun w m' H' => ∀ v, RV m' H' w v → Q v H') ((forceNat (j + 1) fun j => lcL f1 g1 tt1 te (wipeE ρ3 vs1) kk j n6 acc6 h9).bind fin1) := p9
                  rw [forceNat_eq] at p9
                  exact ⟨m9, h9, n6, acc6, st9, ((fz6.trans s7.frz).trans s8.frz).trans s9.frz, gr9, hl6, p9⟩
                | true =>
                  simp only [if_true]
                  have p9 : Post C m1 H1 E (fun w m' H' => ∀ v, RV m' H' w v → Q v H') (((noX (te ρ8 h9)).bind fun y h3 => cond (Nat.blt n6 100000) (forceNat (j + 1) fun j => forceNat (n6 + 1) fun n => lcL f1 g1 tt1 te (wipeE ρ3 vs1) kk j n (y :: acc6) h3) .bad).bind fin1) := p9
                  rw [bind_assoc] at p9
                  refine ⟨m9, ρ8, h9, s9.re k8 e8, k9, (p9.noX.later gr9.st).step.mono fun y mA HA ⟨sA, _, hA, kA, pA⟩ vy ry => ?_⟩
                  have grA := gr9.next hD sA kA
                  obtain ⟨xs, q1, q2, grB⟩ := grA.push hD ry
                  have e5 : ∀ (c : Bool) (o : Out (Nat × List W)) (kk : Nat × List W → Hs → Out W), (cond c o .bad).bind kk = cond c (o.bind kk) .bad := fun c o kk => by cases c <;> rfl
                  rw [e5] at pA
                  obtain ⟨c, pA⟩ := cond_of pA
                  rw [forceNat_eq, forceNat_eq] at pA
                  refine ⟨xs, q1, by rw [q2]; exact Nat.lt_of_le_of_lt hl6 (blt_sz c), mA, hA, n6 + 1, y :: acc6, (st9.trans (sA.sw k9)).trans (sw_set fun ys z => by rw [q1] at z; cases z), ((((fz6.trans s7.frz).trans s8.frz).trans s9.frz).trans sA.frz).trans (fz_set fun o u z => by rw [q1] at z; cases z), grB, Nat.succ_le_succ hl6, pA⟩
/-! ### the rules -/
section
variable {elt tg iter tg1 iter1 : Expr} {ifs ifs1 : List Expr} {scope : Scope} {own : List (Str × Nat)} {vs1 gown gown1 : List Nat} {pos : Pos} {it it1 : DI} {g g1 : DG} {tt tt1 : DT} {te : D}
theorem de_lc (hc : X.calm = true) (hN : X.N.Nodup) (hi : PI X tg iter (tDI C E it)) (ok : BlkOk X.N X.env.scope scope own)
    (hg : ∀ (s : Shared) (H : Hp) (A : Addr) (cl : List (Str × Addr)) (fp : List Addr), PG (X.blk s H scope (compEnvC scope cl A X.env) fp) tg (tDG C E0 gown g)) (ht : ∀ (s : Shared) (H : Hp) (A : Addr) (cl : List (Str × Addr)) (fp : List Addr), PTs (X.blk s H scope (compEnvC scope cl A X.env) fp) ifs (tDT C E0 tt))
    (he : ∀ (s : Shared) (H : Hp) (A : Addr) (cl : List (Str × Addr)) (fp : List Addr), PE (X.blk s H scope (compEnvC scope cl A X.env) fp) elt (tD C E0 te)) (ho : gown.all fun i => (own.map (·.2)).contains i) (hs : ∀ x, foldedSetIterable iter X.env x = pure x := by intro _; rfl) :
    PE X (.ListComp elt [⟨tg, iter, ifs, 0⟩] scope pos) (tD C E (dLc it g tt te (own.map (·.2)))) := (pe_lc hc hN hi ok hg ht he hs).imp fun σ H Q q => of_lc (fun i hi => by simpa using List.all_eq_true.mp ho i hi) q
theorem of_setd {t : TE} {d : D} {i : Nat} {D : Ends} {σ : L2.St} {H : Hp} (ht : ∀ Q, tD C E d σ H Q → t σ H Q) (q : tDS C E (dsSet d i) D σ H) : tAsg t (gName i) D σ H := ht _ (of_set q)
theorem ds_setLc {i : Nat} {y : Str} {py spos : Pos} (hc : X.calm = true) (hN : X.N.Nodup) (hy : X.N[i]? = some y) (hyl : X.env.scope.names.lookup y = some .local)
    (hsw : swapsWith (.ListComp elt [⟨tg, iter, ifs, 0⟩] scope pos) (some (.Name y py)) spos.line X.env = pure true) (hi : PI X tg iter (tDI C E it)) (ok : BlkOk X.N X.env.scope scope own)
    (hg : ∀ (s : Shared) (H : Hp) (A : Addr) (cl : List (Str × Addr)) (fp : List Addr), PG (X.blk s H scope (compEnvC scope cl A X.env) fp) tg (tDG C E0 gown g)) (ht : ∀ (s : Shared) (H : Hp) (A : Addr) (cl : List (Str × Addr)) (fp : List Addr), PTs (X.blk s H scope (compEnvC scope cl A X.env) fp) ifs (tDT C E0 tt))
    (he : ∀ (s : Shared) (H : Hp) (A : Addr) (cl : List (Str × Addr)) (fp : List Addr), PE (X.blk s H scope (compEnvC scope cl A X.env) fp) elt (tD C E0 te)) (ho : gown.all fun i => (own.map (·.2)).contains i) (hs : ∀ x, foldedSetIterable iter X.env x = pure x := by intro _; rfl) :
    PS X (.Assign [.Name y py] (.ListComp elt [⟨tg, iter, ifs, 0⟩] scope pos) spos) (tDS C E (dsSet (dLc it g tt te (own.map (·.2))) i)) :=
  (ps_setLc hc hN hy hyl hsw hi ok hg ht he hs).imp fun D σ H q => of_setd (fun Q q => of_lc (fun i hi => by simpa using List.all_eq_true.mp ho i hi) q) q
theorem de_lc2 (hc : X.calm = true) (hN : X.N.Nodup) (hi : PI X tg iter (tDI C E it)) (ok : BlkOk X.N X.env.scope scope own) (hv : vs1.all fun i => (own.map (·.2)).contains i)
    (hg : ∀ (s : Shared) (H : Hp) (A : Addr) (cl : List (Str × Addr)) (fp : List Addr), PG (X.blk s H scope (compEnvC scope cl A X.env) fp) tg (tDG C E0 gown g)) (ht : ∀ (s : Shared) (H : Hp) (A : Addr) (cl : List (Str × Addr)) (fp : List Addr), PTs (X.blk s H scope (compEnvC scope cl A X.env) fp) ifs (tDT C E0 tt))
    (hi1 : ∀ (s : Shared) (H : Hp) (A : Addr) (cl : List (Str × Addr)) (fp : List Addr), PI (X.blk s H scope (compEnvC scope cl A X.env) fp) tg1 iter1 (tDI C E0 it1))
    (hg1 : ∀ (s : Shared) (H : Hp) (A : Addr) (cl : List (Str × Addr)) (fp : List Addr), PG (X.blk s H scope (compEnvC scope cl A X.env) fp) tg1 (tDG C E0 gown1 g1)) (ht1 : ∀ (s : Shared) (H : Hp) (A : Addr) (cl : List (Str × Addr)) (fp : List Addr), PTs (X.blk s H scope (compEnvC scope cl A X.env) fp) ifs1 (tDT C E0 tt1))
    (he : ∀ (s : Shared) (H : Hp) (A : Addr) (cl : List (Str × Addr)) (fp : List Addr), PE (X.blk s H scope (compEnvC scope cl A X.env) fp) elt (tD C E0 te)) (ho : gown.all fun i => (own.map (·.2)).contains i) (ho1 : gown1.all fun i => vs1.contains i)
    (hs : ∀ x, foldedSetIterable iter X.env x = pure x := by intro _; rfl) (hs1 : ∀ env x, foldedSetIterable iter1 env x = pure x := by intro _ _; rfl) :
    PE X (.ListComp elt [⟨tg, iter, ifs, 0⟩, ⟨tg1, iter1, ifs1, 0⟩] scope pos) (tD C E (dLc2 it g tt it1 g1 tt1 te (own.map (·.2)) vs1)) :=
  (pe_lc2 hc hN hi ok (fun i hi => by simpa using List.all_eq_true.mp hv i hi) hg ht hi1 hg1 ht1 he hs hs1).imp fun σ H Q q => of_lc2 (fun i hi => by simpa using List.all_eq_true.mp ho i hi) (fun i hi => by simpa using List.all_eq_true.mp ho1 i hi) q
theorem ds_setLc2 {i : Nat} {y : Str} {py spos : Pos} (hc : X.calm = true) (hN : X.N.Nodup) (hy : X.N[i]? = some y) (hyl : X.env.scope.names.lookup y = some .local)
    (hsw : swapsWith (.ListComp elt [⟨tg, iter, ifs, 0⟩, ⟨tg1, iter1, ifs1, 0⟩] scope pos) (some (.Name y py)) spos.line X.env = pure true) (hi : PI X tg iter (tDI C E it)) (ok : BlkOk X.N X.env.scope scope own) (hv : vs1.all fun i => (own.map (·.2)).contains i)
    (hg : ∀ (s : Shared) (H : Hp) (A : Addr) (cl : List (Str × Addr)) (fp : List Addr), PG (X.blk s H scope (compEnvC scope cl A X.env) fp) tg (tDG C E0 gown g)) (ht : ∀ (s : Shared) (H : Hp) (A : Addr) (cl : List (Str × Addr)) (fp : List Addr), PTs (X.blk s H scope (compEnvC scope cl A X.env) fp) ifs (tDT C E0 tt))
    (hi1 : ∀ (s : Shared) (H : Hp) (A : Addr) (cl : List (Str × Addr)) (fp : List Addr), PI (X.blk s H scope (compEnvC scope cl A X.env) fp) tg1 iter1 (tDI C E0 it1))
    (hg1 : ∀ (s : Shared) (H : Hp) (A : Addr) (cl : List (Str × Addr)) (fp : List Addr), PG (X.blk s H scope (compEnvC scope cl A X.env) fp) tg1 (tDG C E0 gown1 g1)) (ht1 : ∀ (s : Shared) (H : Hp) (A : Addr) (cl : List (Str × Addr)) (fp : List Addr), PTs (X.blk s H scope (compEnvC scope cl A X.env) fp) ifs1 (tDT C E0 tt1))
    (he : ∀ (s : Shared) (H : Hp) (A : Addr) (cl : List (Str × Addr)) (fp : List Addr), PE (X.blk s H scope (compEnvC scope cl A X.env) fp) elt (tD C E0 te)) (ho : gown.all fun i => (own.map (·.2)).contains i) (ho1 : gown1.all fun i => vs1.contains i)
    (hs : ∀ x, foldedSetIterable iter X.env x = pure x := by intro _; rfl) (hs1 : ∀ env x, foldedSetIterable iter1 env x = pure x := by intro _ _; rfl) :
    PS X (.Assign [.Name y py] (.ListComp elt [⟨tg, iter, ifs, 0⟩, ⟨tg1, iter1, ifs1, 0⟩] scope pos) spos) (tDS C E (dsSet (dLc2 it g tt it1 g1 tt1 te (own.map (·.2)) vs1) i)) :=
  (ps_setLc2 hc hN hy hyl hsw hi ok (fun i hi => by simpa using List.all_eq_true.mp hv i hi) hg ht hi1 hg1 ht1 he hs hs1).imp fun D σ H q => of_setd (fun Q q => of_lc2 (fun i hi => by simpa using List.all_eq_true.mp ho i hi) (fun i hi => by simpa using List.all_eq_true.mp ho1 i hi) q) q
end

/-! ### dicts that are walked: locked while they are -/
def keyAt (i : Nat) : List (W × W) → Option W := fun kvs => List.rec (fun _ => none) (fun x _ ih n => Nat.rec (some x.1) (fun k _ => ih k) n) kvs i
theorem keyAt_eq : ∀ (kvs : List (W × W)) (i : Nat), keyAt i kvs = (kvs[i]?).map (·.1)
  | [], _ => rfl
  | _ :: _, 0 => rfl
  | _ :: kvs, i + 1 => keyAt_eq kvs i
def itK (n : Nat) : Itm := fun i h => match h.get n with
  | some (.dct _ kvs true) => some (keyAt i kvs)
  | _ => none
theorem RD.get {κ : Type} {kw : W → Option κ} : ∀ {kvs : List (W × W)} {ks : List (κ × V)} {i : Nat} {p : W × W}, RD kw m H kvs ks → kvs[i]? = some p → ∃ k v, ks[i]? = some (k, v) ∧ kw p.1 = some k ∧ RV m H p.2 v
  | [], _, _, _, _, e => by simp at e
  | (a, w) :: kvs, _, 0, p, r, e => by
    obtain ⟨k', v, rs, rfl, h1, h2, h3⟩ := r
    simp at e
    subst e
    exact ⟨k', v, rfl, h1, h2⟩
  | (a, w) :: kvs, _, i + 1, p, r, e => by
    obtain ⟨k', v, rs, rfl, h1, h2, h3⟩ := r
    obtain ⟨k, v, q1, q2, q3⟩ := RD.get (i := i) h3 (by simpa using e)
    exact ⟨k, v, by simpa using q1, q2, q3⟩
theorem rv_key {w : W} {k : Key} (e : keyW w = some k) : RV m H w (kV k) := by
  match w, e with
  | .int i, e => cases e; rfl
  | .str x, e => cases e; rfl
theorem rvs_keys : ∀ {ws : List W} {ks : List Key}, keysW ws = some ks → RVs m H ws (ks.map kV)
  | [], _, e => by cases e; rfl
  | w :: ws, _, e => by
    obtain ⟨k, ks, rfl, e1, e2⟩ := keysW_cons e
    exact ⟨kV k, _, rfl, rv_key e1, rvs_keys e2⟩
theorem ok_K {n : Nat} {a : Addr} {o : Obj} {ks : List (Key × V)} (ha : m[n]? = some a) (hl : H a = some (.frz o (.dK ks))) : ItOk C (Itk a o ks) m H (itK n) := by
  intro i m1 h1 H1 s fz r
  have hl1 := fz a o _ hl
  unfold itK
  cases e : h1.get n with
  | none => exact ⟨fun z => (by cases z), fun w z => (by cases z)⟩
  | some ob =>
    match ob, e with
    | .dct false kvs true, e =>
      obtain ⟨b, ks', eb, _, _, _, q1, q2⟩ := dct_of r e ⟨a, s.get ha, rfl⟩
      cases eb
      obtain ⟨od, q1⟩ := q1 rfl
      rw [hl1] at q1
      cases q1
      have hlen := q2.length
      refine ⟨fun z => ?_, fun w z => ?_⟩
      · have z : keyAt i kvs = none := Option.some.inj z
        rw [keyAt_eq, Option.map_eq_none_iff, List.getElem?_eq_none_iff] at z
        exact ⟨hl1, by omega⟩
      · have z : keyAt i kvs = some w := Option.some.inj z
        rw [keyAt_eq] at z
        obtain ⟨p, z1, rfl⟩ := Option.map_eq_some_iff.mp z
        obtain ⟨k, v, z2, z3, z4⟩ := q2.get z1
        refine ⟨⟨hl1, (List.getElem?_eq_some_iff.mp z2).1⟩, fun x H' y => ?_⟩
        obtain ⟨rfl, k', v', y1, rfl⟩ := y
        rw [z2] at y1
        cases y1
        exact ⟨Step.refl, r, rv_key z3⟩
    | .dct true kvs true, e =>
      obtain ⟨b, ks', eb, _, _, _, q1, q2⟩ := dctT_of r e ⟨a, s.get ha, rfl⟩
      cases eb
      obtain ⟨od, q1⟩ := q1 rfl
      rw [hl1] at q1
      cases q1
    | .dct _ kvs false, e => exact ⟨fun z => (by cases z), fun w z => (by cases z)⟩
    | .lst _, e => exact ⟨fun z => (by cases z), fun w z => (by cases z)⟩
    | .ins _ _, e => exact ⟨fun z => (by cases z), fun w z => (by cases z)⟩
    | .opq _, e => exact ⟨fun z => (by cases z), fun w z => (by cases z)⟩
theorem ok_KT {n : Nat} {a : Addr} {o : Obj} {ks : List (List Key × V)} (ha : m[n]? = some a) (hl : H a = some (.frz o (.dT ks))) : ItOk C (Itkt a o ks) m H (itK n) := by
  intro i m1 h1 H1 s fz r
  have hl1 := fz a o _ hl
  unfold itK
  cases e : h1.get n with
  | none => exact ⟨fun z => (by cases z), fun w z => (by cases z)⟩
  | some ob =>
    match ob, e with
    | .dct true kvs true, e =>
      obtain ⟨b, ks', eb, _, _, _, q1, q2⟩ := dctT_of r e ⟨a, s.get ha, rfl⟩
      cases eb
      obtain ⟨od, q1⟩ := q1 rfl
      rw [hl1] at q1
      cases q1
      have hlen := q2.length
      refine ⟨fun z => ?_, fun w z => ?_⟩
      · have z : keyAt i kvs = none := Option.some.inj z
        rw [keyAt_eq, Option.map_eq_none_iff, List.getElem?_eq_none_iff] at z
        exact ⟨hl1, by omega⟩
      · have z : keyAt i kvs = some w := Option.some.inj z
        rw [keyAt_eq] at z
        obtain ⟨p, z1, rfl⟩ := Option.map_eq_some_iff.mp z
        obtain ⟨k, v, z2, z3, z4⟩ := q2.get z1
        refine ⟨⟨hl1, (List.getElem?_eq_some_iff.mp z2).1⟩, fun x H' y => ?_⟩
        obtain ⟨rfl, k', v', q, y1, rfl, y2⟩ := y
        rw [z2] at y1
        cases y1
        refine ⟨Step.refl, r, ?_⟩
        obtain ⟨p1, p2⟩ := p
        match p1, z3 with
        | .tup ws, z3 => exact ⟨q, _, rfl, y2, rvs_keys z3⟩
    | .dct false kvs true, e =>
      obtain ⟨b, ks', eb, _, _, _, q1, q2⟩ := dct_of r e ⟨a, s.get ha, rfl⟩
      cases eb
      obtain ⟨od, q1⟩ := q1 rfl
      rw [hl1] at q1
      cases q1
    | .dct _ kvs false, e => exact ⟨fun z => (by cases z), fun w z => (by cases z)⟩
    | .lst _, e => exact ⟨fun z => (by cases z), fun w z => (by cases z)⟩
    | .ins _ _, e => exact ⟨fun z => (by cases z), fun w z => (by cases z)⟩
    | .opq _, e => exact ⟨fun z => (by cases z), fun w z => (by cases z)⟩
def diKeys (d : D) : DI := fun ρ h => (d ρ h).bind fun w h1 => match w with
  | .loc n => match h1.get n with
    | some (.dct _ _ true) => .ok (itK n) h1
    | _ => .bad
  | _ => .bad
theorem di_keys {tg e : Expr} {d : D} (he : PE X e (tD C E d)) : PI X tg e (tDI C E (diKeys d)) := (pi_keys he).imp fun σ H R ⟨m, ρ, h, r1, r2, p⟩ => by
  refine tD.of r1 r2 p fun w v m1 h1 H1 s1 e1 k1 rv p1 => ?_
  match w, p1, rv with
  | .loc n, p1, rv =>
    have p1 : Post C m1 H1 E (fun f m' H' => ∀ J, ItOk C J m' H' f → R J H') (match h1.get n with | some (.dct _ _ true) => Out.ok (itK n) h1 | _ => .bad) := p1
    cases e0 : h1.get n with
    | none => rw [e0] at p1; exact p1.elim
    | some o =>
      rw [e0] at p1
      match o, p1, e0 with
      | .dct false kvs true, p1, e0 =>
        obtain ⟨a, ks, rfl, ha, _, _, q1, q2⟩ := dct_of k1 e0 rv
        obtain ⟨od, q1⟩ := q1 rfl
        exact ⟨a, od, rfl, .inl ⟨ks, q1, p1 m1 H1 Step.refl k1 _ (ok_K ha q1)⟩⟩
      | .dct true kvs true, p1, e0 =>
        obtain ⟨a, ks, rfl, ha, _, _, q1, q2⟩ := dctT_of k1 e0 rv
        obtain ⟨od, q1⟩ := q1 rfl
        exact ⟨a, od, rfl, .inr ⟨ks, q1, p1 m1 H1 Step.refl k1 _ (ok_KT ha q1)⟩⟩
end
end Vz
end
/-! locks: a dict is read, not written, while it is walked -/
noncomputable section
namespace Vz
open PySem PySem.Spec PyProof.Rows L2

/-- which dict is to be locked: told by the reader -/
abbrev Wh := Env → Hs → Option Nat
def lkR {α : Type} (p : Wh) (s : Env → Hs → Out α) : Env → Hs → Out α := fun ρ h => orBad (p ρ h) fun n => match h.get n with
  | some (.dct t kvs false) => orBad (h.set n (.dct t kvs true)) fun h1 => (s ρ h1).bind fun a h2 => orBad (h2.set n (.dct t kvs false)) fun h3 => .ok a h3
  | some (.dct t kvs true) => s ρ h
  | _ => .bad
section
variable {C : Cn} {m m2 : List Addr} {H H2 : Hp} {h h1 h2 h3 : Hs} {X : Cx} {E : XK} {α : Type}
theorem mut_ru {kvs : List (W × W)} {u : HO} {t : Bool} (q : RU m H kvs u t) : Mut (some u) := by
  cases t with
  | false => obtain ⟨_, rfl, _⟩ := q; trivial
  | true => obtain ⟨_, rfl, _⟩ := q; trivial
theorem ru_nofrz {kvs : List (W × W)} {u : HO} {t : Bool} (q : RU m H kvs u t) : ∀ o v, u ≠ .frz o v := fun o v z => by
  cases t with
  | false => obtain ⟨_, rfl, _⟩ := q; cases z
  | true => obtain ⟨_, rfl, _⟩ := q; cases z
/-- into the lock -/
theorem lock_in {n : Nat} {a : Addr} {t : Bool} {kvs : List (W × W)} {u : HO} (r : C.rh m h H) (ha : m[n]? = some a) (hu : H a = some u) (ru : RU m H kvs u t) (e : h.set n (.dct t kvs true) = some h1) (od : Obj) :
    Step m H m (upd H a (.frz od u)) ∧ C.rh m h1 (upd H a (.frz od u)) := by
  have nf : ∀ o v, H a ≠ some (.frz o v) := fun o v z => ru_nofrz ru o v (by rw [hu] at z; exact Option.some.inj z)
  have nt : ∀ xs, H a ≠ some (.tup xs) := fun xs z => ru.noTup xs (by rw [hu] at z; exact Option.some.inj z)
  refine ⟨step_set ha nf, r.set ha e ⟨u, od, upd_same, (sw_set nt).ru ru⟩⟩
/-- out of it -/
theorem lock_out {n : Nat} {a : Addr} {t : Bool} {kvs : List (W × W)} {u : HO} {od : Obj} (r : C.rh m h H) (ha : m[n]? = some a) (hu : H a = some u) (ru : RU m H kvs u t) (s : Step m (upd H a (.frz od u)) m2 H2) (r2 : C.rh m2 h2 H2) (e : h2.set n (.dct t kvs false) = some h3) :
    H2 a = some (.frz od u) ∧ Sw m2 H2 m2 (upd H2 a u) ∧ Step m H m2 (upd H2 a u) ∧ C.rh m2 h3 (upd H2 a u) := by
  have nf : ∀ o v, H a ≠ some (.frz o v) := fun o v z => ru_nofrz ru o v (by rw [hu] at z; exact Option.some.inj z)
  have q2 : H2 a = some (.frz od u) := s.frz a od u upd_same
  have nt2 : ∀ xs, H2 a ≠ some (.tup xs) := fun xs z => by rw [q2] at z; cases z
  have hm : a ∈ m := List.mem_of_getElem? ha
  have st : Step m H m2 (upd H2 a u) := by
    refine ⟨s.pre, fun b o q hb => ?_, fun b z1 z2 => ?_, fun b o v q => ?_⟩
    · have hne : b ≠ a := fun z => hb (by rw [z]; exact hm)
      rw [upd_ne hne]
      exact s.fr b o (by rw [upd_ne hne]; exact q) hb
    · have hne : b ≠ a := fun z => z2 (by rw [z]; exact hm)
      have := s.new b z1 z2
      rw [upd_ne hne] at this
      exact this
    · have hne : b ≠ a := fun z => nf o v (by rw [← z]; exact q)
      rw [upd_ne hne]
      exact s.frz b o v (by rw [upd_ne hne]; exact q)
  exact ⟨q2, sw_set nt2, st, r2.set (s.get ha) e ⟨u, upd_same, (st.sw r).ru ru⟩⟩
theorem ro_dct {n : Nat} {t : Bool} {kvs : List (W × W)} (r : C.rh m h H) (e : h.get n = some (.dct t kvs false)) : ∃ a u, m[n]? = some a ∧ H a = some u ∧ RU m H kvs u t := by
  obtain ⟨a, q, u, q1, q2⟩ := r.at e
  exact ⟨a, u, q, q1, q2⟩
theorem _root_.L2.PS.or {e : Stmt} {t t' : TS} (h : PS X e t) (h' : PS X e t') : PS X e (fun D σ H => t D σ H ∨ t' D σ H) := ⟨fun pins s σ H D I q => q.elim (h.run pins s σ H D I) (h'.run pins s σ H D I)⟩
theorem _root_.L2.PE.or {e : Expr} {t t' : TE} (h : PE X e t) (h' : PE X e t') : PE X e (fun σ H Q => t σ H Q ∨ t' σ H Q) := ⟨fun pins s σ H Q I q => q.elim (h.run pins s σ H Q I) (h'.run pins s σ H Q I)⟩
abbrev dsLock (p : Wh) (s : DS) : DS := lkR p s
abbrev dLock (p : Wh) (d : D) : D := lkR p d
theorem lkR_of {p : Wh} {s : Env → Hs → Out α} {ρ : Env} {R : α → List Addr → Hp → Prop} (q : Post C m H E R (lkR p s ρ h)) :
    (∃ n t kvs h1, h.get n = some (.dct t kvs false) ∧ h.set n (.dct t kvs true) = some h1 ∧ Post C m H E R ((s ρ h1).bind fun a h2 => orBad (h2.set n (.dct t kvs false)) fun h3 => .ok a h3)) ∨ Post C m H E R (s ρ h) := by
  unfold lkR at q
  obtain ⟨n, _, q⟩ := orBad_of q
  cases e : h.get n with
  | none => rw [e] at q; exact q.elim
  | some o =>
    rw [e] at q
    match o, q, e with
    | .dct t kvs true, q, e => exact .inr q
    | .dct t kvs false, q, e =>
      obtain ⟨h1, e1, q⟩ := orBad_of q
      exact .inl ⟨n, t, kvs, h1, e, e1, q⟩
theorem ds_lock {st : Stmt} {s : DS} (p : Wh) (hs : PS X st (tDS C E s)) : PS X st (tDS C E (dsLock p s)) := ((ps_lock hs).or hs).imp fun D σ H ⟨m, ρ, h, r1, r2, q⟩ => by
  rcases lkR_of q with ⟨n, t, kvs, h1, e, e1, q⟩ | q
  · refine .inl ?_
    obtain ⟨a, u, ha, hu, ru⟩ := ro_dct r2 e
    refine ⟨a, u, hu, mut_ru ru, fun od => ?_⟩
    obtain ⟨s1, k1⟩ := lock_in r2 ha hu ru e1 od
    refine ⟨m, ρ, h1, s1.re r2 r1, k1, (q.bind0.later s1).step.mono fun fl m2 H2 ⟨s2, _, h2, k2, q2⟩ => ?_⟩
    obtain ⟨h3, e3, q2⟩ := orBad_of q2
    obtain ⟨z1, z2, z3, z4⟩ := lock_out r2 ha hu ru s2 k2 e3
    have q2 := q2 m2 _ z3 z4
    cases fl with
    | nx ρ1 => exact fun σ1 x1 => ⟨z1, q2 σ1 (z2.re x1)⟩
    | rt w => exact fun v rv => ⟨z1, q2 v (z2.rv w v rv)⟩
    | bk ρ1 => exact fun σ1 x1 => ⟨z1, q2 σ1 (z2.re x1)⟩
    | ct ρ1 => exact fun σ1 x1 => ⟨z1, q2 σ1 (z2.re x1)⟩
  · exact .inr ⟨m, ρ, h, r1, r2, q⟩
theorem de_lock {e : Expr} {d : D} (p : Wh) (hs : PE X e (tD C E d)) : PE X e (tD C E (dLock p d)) := ((pe_lock hs).or hs).imp fun σ H Q ⟨m, ρ, h, r1, r2, q⟩ => by
  rcases lkR_of q with ⟨n, t, kvs, h1, e, e1, q⟩ | q
  · refine .inl ?_
    obtain ⟨a, u, ha, hu, ru⟩ := ro_dct r2 e
    refine ⟨a, u, hu, mut_ru ru, fun od => ?_⟩
    obtain ⟨s1, k1⟩ := lock_in r2 ha hu ru e1 od
    refine ⟨m, ρ, h1, s1.re r2 r1, k1, (q.bind0.later s1).step.mono fun w m2 H2 ⟨s2, _, h2, k2, q2⟩ v rv => ?_⟩
    obtain ⟨h3, e3, q2⟩ := orBad_of q2
    obtain ⟨z1, z2, z3, z4⟩ := lock_out r2 ha hu ru s2 k2 e3
    exact ⟨z1, q2 m2 _ z3 z4 v (z2.rv w v rv)⟩
  · exact .inr ⟨m, ρ, h, r1, r2, q⟩
end
/-- the dict in a slot -/
def whV (i : Nat) : Wh := fun ρ _ => match getE ρ i with
  | some (some (.loc n)) => some n
  | _ => none
end Vz
end
/-! defs and calls -/
noncomputable section
namespace Vz
open PySem PySem.Spec PyProof.Rows L2

abbrev DF := List W → Hs → Out W
/-- a def's promise: its evaluator is run -/
def spD (C : Cn) (n : Nat) (F : DF) : Sp := fun vs H Q E => vs.length = n ∧ ∃ m h ws, RVs m H ws vs ∧ C.rh m h H ∧ Post C m H E (fun w m' H' => ∀ v, RV m' H' w v → Q v H') (F ws h)
/-- the slots at the start: n in all -/
def startE (n : Nat) (ws : List W) : Env := List.rec (motive := fun _ => Nat → Env) (fun n => Nat.rec [] (fun _ ih => none :: ih) n) (fun w _ ih n => some w :: ih (n - 1)) ws n
theorem startE_re {m : List Addr} {H : Hp} : ∀ {ws : List W} {vs : List V} (n : Nat), RVs m H ws vs → RE m H (startE n ws) (vs.map some ++ List.replicate (n - vs.length) none)
  | [], _, n, r => by
    cases r
    show RE m H (Nat.rec [] (fun _ ih => none :: ih) n) (List.replicate n none)
    induction n with
    | zero => exact rfl
    | succ n ih => exact ⟨none, _, rfl, ih⟩
  | w :: ws, _, n, r => by
    obtain ⟨v, vs, rfl, a, b⟩ := r
    refine ⟨v, _, rfl, a, ?_⟩
    have := startE_re (n - 1) b
    rw [show n - (v :: vs).length = n - 1 - vs.length by simp; omega]
    exact this
/-- a body is run; n slots -/
def runB (n : Nat) (d : DS) : DF := fun ws h => (d (startE n ws) h).bind fun fl h1 => Fl.rec (fun _ => .ok .non h1) (fun w => .ok w h1) (fun _ => .bad) (fun _ => .bad) fl
section
variable {C : Cn} {P : Program} {w : World} {K : PySem.W.Frag} {mg : Str → Option Value} {base : Heap} {x qual : Str} {st : Stmt} {f : Addr} {fd : FuncData} {N ps : List Str} {k n sn : Nat} {E : XK} {m : List Addr} {H : Hp} {h : Hs} {d : DS} {F : DF}
theorem run_ok {vs : List V} {ws : List W} {Q : VK} (r : RVs m H ws vs) (r2 : C.rh m h H) (hN : N.length = sn) (p : Post C m H E (fun w m' H' => ∀ v, RV m' H' w v → Q v H') (runB sn d ws h)) :
    tDS C E d { nx := fun _ H' => Q .non H', rt := Q } (L2.start N vs) H := by
  refine ⟨m, startE sn ws, h, ?_, r2, p.bind.step.mono fun fl m1 H1 ⟨s1, _, q⟩ => ?_⟩
  · unfold L2.start
    rw [hN]
    exact startE_re sn r
  obtain ⟨h1, k1, p1⟩ := q s1
  cases fl with
  | nx ρ1 => exact fun σ1 e1 => p1 m1 H1 Step.refl k1 .non rfl
  | rt w => exact fun v rv => p1 m1 H1 Step.refl k1 v rv
  | bk ρ1 => exact p1.elim
  | ct ρ1 => exact p1.elim
/-- a def of the text keeps its promise -/
theorem fn_ok (T : Fun K x qual st f fd) (S : FnScope N ps (defScope st)) (hn : ps.length = n) (hN : N.length = sn)
    (body : ∀ (cdv : Value) (A : Around) (outer : List PySem.Env) (s : Shared) (H : Hp) (E : XK), Room k (A.deeper (envOfC qual (defScope st) s.heap.objs.size f cdv)) →
      PSs (cxOf (L2.CX P w) P w K mg base N qual (defScope st) f cdv A outer s H E) (defBody st) (tDS C E d)) : FnOk P w K mg base (L2.CX P w) (k + 1) f fd ps (spD C n (runB sn d)) :=
  T.okX S (fun vs H Q E h => h.1.trans hn.symm) fun cdv A outer s H vs Q E hr ⟨_, m, h, ws, r, r2, p⟩ => ⟨_, body cdv A outer s H E hr, run_ok r r2 hN p⟩
/-- the same, entered without a guard: repr is known -/
theorem fn_okG (T : Fun K x qual st f fd) (S : FnScope N ps (defScope st)) (hn : ps.length = n) (hN : N.length = sn)
    (body : ∀ (cdv : Value) (A : Around) (outer : List PySem.Env) (s : Shared) (H : Hp) (E : XK), A.guards = some [] → Room k (A.deeper (envOfC qual (defScope st) s.heap.objs.size f cdv)) →
      PSs (cxOf (L2.CX P w) P w K mg base N qual (defScope st) f cdv A outer s H E) (defBody st) (tDS C E d)) : Lx.FnG P w K mg base (L2.CX P w) (k + 1) f fd ps (spD C n (runB sn d)) :=
  Lx.FnG.mk' T S (fun vs H Q E h => h.1.trans hn.symm) fun cdv A outer s H vs Q E hg hr ⟨_, m, h, ws, r, r2, p⟩ => ⟨_, body cdv A outer s H E hg hr, run_ok r r2 hN p⟩
/-- what is never entered -/
def badF : DF := fun _ _ => .bad
theorem fn_bad (hn : ps.length = n) : FnOk P w K mg base (L2.CX P w) k f fd ps (spD C n badF) :=
  ⟨fun vs H Q E h => h.1.trans hn.symm, fun A outer s H args us vs Q E _ _ _ _ ⟨_, m, h, ws, r, r2, p⟩ => p.elim⟩
theorem fn_badG (hn : ps.length = n) : Lx.FnG P w K mg base (L2.CX P w) k f fd ps (spD C n badF) := .of (fn_bad hn)
/-- level by level -/
def lev (b : DF → DF) (k : Nat) : DF := Nat.rec badF (fun _ ih => b ih) k
theorem fn_lev {j : Nat} {b : DF → DF} (hn : ps.length = n) (step : ∀ k F, FnOk P w K mg base (L2.CX P w) (j + k) f fd ps (spD C n F) → FnOk P w K mg base (L2.CX P w) (j + k + 1) f fd ps (spD C n (b F))) : ∀ k, FnOk P w K mg base (L2.CX P w) (j + k) f fd ps (spD C n (lev b k))
  | 0 => fn_bad hn
  | k + 1 => step k _ (fn_lev hn step k)
theorem fn_levG {j : Nat} {b : DF → DF} (hn : ps.length = n) (step : ∀ k F, Lx.FnG P w K mg base (L2.CX P w) (j + k) f fd ps (spD C n F) → Lx.FnG P w K mg base (L2.CX P w) (j + k + 1) f fd ps (spD C n (b F))) : ∀ k, Lx.FnG P w K mg base (L2.CX P w) (j + k) f fd ps (spD C n (lev b k))
  | 0 => fn_badG hn
  | k + 1 => step k _ (fn_levG hn step k)
end

/-! ### calls -/
section
variable {C : Cn} {X : Cx} {E : XK} {k n : Nat} {f : Addr} {fd : FuncData} {ps : List Str} {F : DF} {dvs : List V} {dws : List W} {ds : List Value} {x : Str} {p pos : Pos} {e : Expr} {es : List Expr} {dl : DL}
/-- f(..), the defaults dws behind -/
def dCall (n : Nat) (F : DF) (dws : List W) (dl : DL) : D := fun ρ h => (dl ρ h).bind fun ws h1 => appS ws dws fun l => cond (Nat.beq l.length n) (F l h1) .bad
theorem of_dcall {σ : L2.St} {H : Hp} {Q : VK} (hd : ∀ m H, RVs m H dws dvs) (q : tD C E (dCall n F dws dl) σ H Q) : tCall (spD C n F) dvs E (tDL C E dl) σ H Q := by
  obtain ⟨m, ρ, h, r1, r2, p⟩ := q
  refine tDL.of r1 r2 p fun ws vs m1 h1 H1 s1 e1 k1 rv p1 => ?_
  rw [appS_eq] at p1
  obtain ⟨c, p1⟩ := cond_of p1
  have c : (ws ++ dws).length = n := Nat.eq_of_beq_eq_true c
  have rr := rv.append (hd m1 H1)
  exact ⟨rr.length.symm.trans c, m1, h1, _, rr, k1, p1⟩
/-- what a def's body and a block pass on -/
theorem pass_body {P : Program} {w : World} {K : PySem.W.Frag} {mg : Str → Option Value} {base : Heap} {N : List Str} {qual : Str} {sc : Scope} {cdv : Value} {A : Around} {outer : List PySem.Env} {s : Shared} {H : Hp} :
    Passes (L2.CX P w) (cxOf (L2.CX P w) P w K mg base N qual sc f cdv A outer s H E) E := passes_call (takes_of rfl rfl rfl rfl) fun _ _ _ _ h => h
theorem de_call (T : FnOk X.prog X.w X.K X.mg X.base (L2.CX X.prog X.w) k f fd ps (spD C n F)) (hr : Room k X.A) (hx : Passes (L2.CX X.prog X.w) X E) (hg : Gl X x) (hm : X.mg x = some (.ref f)) (hk : PySem.W.keepIn X.K (.ref f) = true) (hb : Binds X.K fd ps ds) (hd : Vals dvs ds) (hw : ∀ m H, RVs m H dws dvs)
    (ha : PA X (e :: es) (tDL C E dl)) (hdb : (x == ("__debug__" : Str)) = false := by decide) (he : starEach (e :: es) X.env = (false, eval e X.env) :: starEach es X.env := by rfl) (hpl : (backTo pos (starEach es X.env)).any (·.1) = false := by rfl) :
    PE X (.Call (.Name x p) (e :: es) [] pos) (tD C E (dCall n F dws dl)) := (pe_call T hr hg hm hk hb hd hx ha hdb he hpl).imp fun σ H Q q => of_dcall hw q
theorem de_call0 (T : FnOk X.prog X.w X.K X.mg X.base (L2.CX X.prog X.w) k f fd ps (spD C n F)) (hr : Room k X.A) (hx : Passes (L2.CX X.prog X.w) X E) (hg : Gl X x) (hm : X.mg x = some (.ref f)) (hk : PySem.W.keepIn X.K (.ref f) = true) (hb : Binds X.K fd ps ds) (hd : Vals dvs ds) (hw : ∀ m H, RVs m H dws dvs)
    (hdb : (x == ("__debug__" : Str)) = false := by decide) : PE X (.Call (.Name x p) [] [] pos) (tD C E (dCall n F dws dNil)) := (pe_call0 T hr hg hm hk hb hd hx hdb).imp fun σ H Q q => by
  have := of_dcall hw q
  obtain ⟨m, ρ, h, r1, r2, p⟩ := this
  exact p m H Step.refl r2 [] rfl
theorem de_callG (T : Lx.FnG X.prog X.w X.K X.mg X.base (L2.CX X.prog X.w) k f fd ps (spD C n F)) (gd : X.A.guards = some []) (hr : Room k X.A) (hx : Passes (L2.CX X.prog X.w) X E) (hg : Gl X x) (hm : X.mg x = some (.ref f)) (hk : PySem.W.keepIn X.K (.ref f) = true) (hb : Binds X.K fd ps ds) (hd : Vals dvs ds) (hw : ∀ m H, RVs m H dws dvs)
    (ha : PA X (e :: es) (tDL C E dl)) (hdb : (x == ("__debug__" : Str)) = false := by decide) (he : starEach (e :: es) X.env = (false, eval e X.env) :: starEach es X.env := by rfl) (hpl : (backTo pos (starEach es X.env)).any (·.1) = false := by rfl) :
    PE X (.Call (.Name x p) (e :: es) [] pos) (tD C E (dCall n F dws dl)) := (Lx.pe_callG T gd hr hg hm hk hb hd hx ha hdb he hpl).imp fun σ H Q q => of_dcall hw q
end
end Vz
end
/-! raise, try -/
noncomputable section
namespace Vz
open PySem PySem.Spec PyProof.Rows L2

section
variable {C : Cn} {X : Cx} {E : XK} {e : Expr} {pos : Pos} {c : Nat}
def dsRaise (c : Nat) : DS := fun _ h => .exc c h
theorem ds_raise (hc : X.calm = true) (tk : Takes X (fun cls d _ H => E cls d H)) (he : PMk X e (fun _ H Q => Q (.ref (C.ca c)) none H)) : PS X (.Raise (some e) none pos) (tDS C E (dsRaise c)) :=
  (ps_raise hc tk he).imp fun D σ H ⟨m, ρ, h, r1, r2, p⟩ => p m H Step.refl r2
theorem takes_body {P : Program} {w : World} {K : PySem.W.Frag} {mg : Str → Option Value} {base : Heap} {N : List Str} {qual : Str} {sc : Scope} {cdv : Value} {A : Around} {outer : List PySem.Env} {s : Shared} {H : Hp} {f : Addr} :
    Takes (cxOf (L2.CX P w) P w K mg base N qual sc f cdv A outer s H E) (fun cls d _ H => E cls d H) := takes_of rfl rfl rfl rfl
theorem post_noX1 {α : Type} {o : Out α} {m : List Addr} {H : Hp} {R : α → List Addr → Hp → Prop} (p : Post C m H E R (Vz.noX o)) : Post C m H E0 R o := by
  cases o with
  | ok a h1 => exact p
  | exc c h1 => exact p.elim
  | bad => exact p.elim
/-- the args' exceptions are not known, those of the def itself are told with the slots -/
def dCallS (n : Nat) (F : DF) (dl : DL) : D := fun ρ h => (noX (dl ρ h)).bind fun ws h1 => cond (Nat.beq ws.length n) (F ws h1) .bad
section
variable {k n : Nat} {f : Addr} {fd : FuncData} {ps : List Str} {F : DF} {x : Str} {p : Pos} {es : List Expr} {dl : DL} {W : WX}
theorem de_callS (T : FnOk X.prog X.w X.K X.mg X.base (L2.CX X.prog X.w) k f fd ps (spD C n F)) (hr : Room k X.A) (tk : Takes X W) (hg : Gl X x) (hm : X.mg x = some (.ref f)) (hk : PySem.W.keepIn X.K (.ref f) = true) (hb : Binds X.K fd ps [])
    (ha : PA X (e :: es) (tDL C E0 dl)) (hdb : (x == ("__debug__" : Str)) = false := by decide) (he : starEach (e :: es) X.env = (false, eval e X.env) :: starEach es X.env := by rfl) (hpl : (backTo pos (starEach es X.env)).any (·.1) = false := by rfl) :
    PE X (.Call (.Name x p) (e :: es) [] pos) (fun σ H Q => tD C (fun cls d H => W cls d σ H) (dCallS n F dl) σ H Q) :=
  (pe_callS (E := fun σ cls d H => W cls d σ H) T hr hg hm hk hb (fun σ => passAt tk σ) ha hdb he hpl).imp fun σ H Q ⟨m, ρ, h, r1, r2, p⟩ => by
    refine ⟨m, ρ, h, r1, r2, p.noX.step.mono fun ws m1 H1 ⟨s1, _, h1, k1, p1⟩ vs rv => ?_⟩
    obtain ⟨c, p1⟩ := cond_of p1
    exact ⟨rv.length.symm.trans (Nat.eq_of_beq_eq_true c), m1, h1, ws, rv, k1, p1.later s1⟩
end
/-- try: b, except ..: s; cc: is a class caught -/
def dsTry (b : DS) (cc : Nat → Option Bool) (s : DS) : DS := fun ρ h => Out.rec (fun fl h1 => .ok fl h1) (fun c h1 => orBad (cc c) fun y => Bool.rec (.exc c h1) (noX (s ρ h1)) y) .bad (b ρ h)
theorem ds_try {x : Str} {cl : Value} {body suite : List Stmt} {b₀ : Stmt} {np pos' : Pos} {b s : DS} {cc : Nat → Option Bool} (hs : X.stack = X.env :: X.outer) (hf : X.env.frame = some X.env.locals) (hc : Names X x cl) (tk : Takes X (fun cls d _ H => E cls d H))
    (hcc : ∀ c y, cc c = some y → PySem.W.exmOne X.K (.ref (C.ca c)) cl = some y)
    (hb : ∀ (W : WX) (pn : List (Addr × Obj)) (xe : Value → Shared → Prop), Takes (X.tr pn xe) W → PSs (X.tr pn xe) body (fun D σ H => tDS C (fun cls d H => W cls d σ H) b D σ H))
    (hsu : ∀ (a : Addr) (pn : List (Addr × Obj)), PSs (X.suite a pn) (b₀ :: suite) (tDS C E0 s)) :
    PS X (.Try body [.ExceptHandler (some (.Name x np)) none (b₀ :: suite) pos'] [] [] pos) (tDS C E (dsTry b cc s)) :=
  (ps_try_only (ts := fun _ _ _ => tDS C E0 s) hs hf hc tk (fun W pn xe t _ => hb W pn xe t) (fun a oe cls d pn _ _ => hsu a _)).imp fun D σ H ⟨m, ρ, h, r1, r2, p⟩ => by
    refine ⟨m, ρ, h, r1, r2, ?_⟩
    have p : Post C m H E (endsOf D) (Out.rec (fun fl h1 => .ok fl h1) (fun c h1 => orBad (cc c) fun y => Bool.rec (.exc c h1) (noX (s ρ h1)) y) .bad (b ρ h)) := p
    revert p
    cases b ρ h with
    | ok fl h1 => exact fun p => p
    | bad => exact fun p => p
    | exc c h1 =>
      intro p m' H' s' k'
      obtain ⟨y, ey, p⟩ := orBad_of (f := fun y => (Bool.rec (.exc c h1) (noX (s ρ h1)) y : Out Fl)) p
      refine ⟨y, hcc c y ey, fun z => ?_, fun z => ?_⟩
      · subst z
        intro a na
        have p : Post C m H E (endsOf D) (noX (s ρ h1)) := p
        exact ⟨m', ρ, h1, s'.re r2 r1, k', (post_noX1 p).later s'⟩
      · subst z
        exact p m' H' s' k'
theorem ds_exprS {W : WX} {d : D} (he : PE X e (fun σ H Q => tD C (fun cls d H => W cls d σ H) d σ H Q)) (hs : swapsWith e none pos.line X.env = pure false := by rfl) : PSs X [.Expr e pos] (fun D σ H => tDS C (fun cls d H => W cls d σ H) (dsDrop d) D σ H) :=
  pss_one ((ps_expr he hs).imp fun D σ H ⟨m, ρ, h, r1, r2, p⟩ => by
    refine tD.of r1 r2 p fun w v m1 h1 H1 s1 e1 k1 rv p1 => ?_
    exact p1 m1 H1 Step.refl k1 σ e1)
end
end Vz
end
/-! starred displays; more that is walked -/
noncomputable section
namespace Vz
open PySem PySem.Spec PyProof.Rows L2

section
variable {C : Cn} {m : List Addr} {H : Hp} {h : Hs} {X : Cx} {E : XK} {e e2 a b : Expr} {es : List Expr} {p pos tpos apos : Pos} {d da db : D} {dl : DL}
/-- what stands in a list or a tuple -/
def itemsS {α : Type} (h : Hs) (w : W) (k : List W → Out α) : Out α := match w with
  | .tup ws => k ws
  | .loc n => orBad (lstAt h n) k
  | _ => .bad
theorem itemsS_ok {α : Type} {k : List W → Out α} {R : α → List Addr → Hp → Prop} (r : C.rh m h H) {w : W} {v : V} (rv : RV m H w v) (q : Post C m H E R (itemsS h w k)) :
    ∃ p xs ws, v = .ref p ∧ ((w = .tup ws ∧ H p = some (.tup xs)) ∨ (∃ n, w = .loc n ∧ m[n]? = some p ∧ H p = some (.lst xs))) ∧ RVs m H ws xs ∧ Post C m H E R (k ws) := by
  match w, q, rv with
  | .tup ws, q, rv =>
    obtain ⟨p, xs, rfl, h1, h2⟩ := rv
    exact ⟨p, xs, ws, rfl, .inl ⟨rfl, h1⟩, h2, q⟩
  | .loc n, q, rv =>
    obtain ⟨ws, e, q⟩ := orBad_of q
    obtain ⟨p, xs, rfl, hm, h1, h2⟩ := lst_of r e rv
    exact ⟨p, xs, ws, rfl, .inr ⟨n, rfl, hm, h1⟩, h2, q⟩
/-- *a, .. -/
def dStar (a : D) (b : DL) : DL := fun ρ h => (a ρ h).bind fun x h1 => itemsS h1 x fun xs => (b ρ h1).bind fun ys h2 => appS xs ys fun l => .ok l h2
theorem da_star (ha : PE X e (tD C E da)) (hr : PA X es (tDL C E dl)) (hs : starEach (.Starred e p :: es) X.env = (true, eval e X.env) :: starEach es X.env := by rfl) : PA X (.Starred e p :: es) (tDL C E (dStar da dl)) :=
  L2.PA.imp (StX.pa_star ha hr hs) fun σ H Q ⟨m, ρ, h, r1, r2, q⟩ => by
    refine tD.of r1 r2 q fun w v m1 h1 H1 s1 e1 k1 rv p1 => ?_
    obtain ⟨pp, xs, ws, rfl, hx, rs, p1⟩ := itemsS_ok k1 rv p1
    refine ⟨pp, xs, rfl, ?_, ?_⟩
    · rcases hx with ⟨_, hx⟩ | ⟨n, _, _, hx⟩
      · exact .inl (SqT.of hx)
      · exact .inr (SqL.of hx)
    refine tDL.of e1 k1 p1 fun ys vs m2 h2 H2 s2 e2 k2 rv2 p2 => ?_
    rw [appS_eq] at p2
    exact p2 m2 H2 Step.refl k2 _ ((s2.rvs k1 _ _ rs).append rv2)
/-! enumerate(list) -/
def itE (n : Nat) : Itm := fun i h => match lstAt h n with
  | some ws => some (match nthW ws i with
    | some w => some (.tup [.int (.ofNat i), w])
    | none => none)
  | none => none
theorem rv_pair {q : Addr} {x y : W} {vx vy : V} (hq : H q = none) (r : C.rh m h H) (rx : RV m H x vx) (ry : RV m H y vy) :
    Step m H m (upd H q (.tup [vx, vy])) ∧ C.rh m h (upd H q (.tup [vx, vy])) ∧ RV m (upd H q (.tup [vx, vy])) (.tup [x, y]) (.ref q) := by
  have s := step_lay (m := m) (o := .tup [vx, vy]) hq
  exact ⟨s, r.lay hq, q, [vx, vy], rfl, upd_same, RVs.cons (s.rv r x vx rx) (RVs.cons (s.rv r y vy ry) RVs.nil)⟩
theorem ok_E {n : Nat} {a : Addr} (ha : m[n]? = some a) : ItOk C (Ite C.K a) m H (itE n) := by
  intro i m1 h1 H1 s fz r
  unfold itE
  cases e : lstAt h1 n with
  | none => exact ⟨fun z => (by cases z), fun w z => (by cases z)⟩
  | some ws =>
    obtain ⟨b, xs, eb, hb, q1, r1⟩ := lst_of r e ⟨a, s.get ha, rfl⟩
    cases eb
    cases hn : nthW ws i with
    | none =>
      refine ⟨fun z => ?_, fun w z => ?_⟩
      · exact ⟨xs, SqL.of q1, by rw [← r1.length]; exact nthW_none hn⟩
      · simp only [hn] at z; cases z
    | some w0 =>
      have hn2 := hn
      rw [nthW_eq] at hn2
      obtain ⟨v, h3, h4⟩ := r1.get hn2
      refine ⟨fun z => ?_, fun w z => ?_⟩
      · simp only [hn] at z; cases z
      · simp only [hn] at z
        cases z
        refine ⟨⟨xs, v, SqL.of q1, h3⟩, fun x H' y => ?_⟩
        obtain ⟨q, x', rfl, hq, rfl, y⟩ := y
        have h5 := y xs (SqL.of q1)
        rw [h3] at h5
        cases h5
        exact rv_pair hq r (x := .int (.ofNat i)) rfl h4
def diEnum (a : DL) : DI := fun ρ h => (a ρ h).bind fun ws h1 => match ws with
  | [.loc n] => orBad (lstAt h1 n) fun _ => .ok (itE n) h1
  | _ => .bad
theorem di_enum {elts : List Expr} {kk : Nat} (hK : X.K = C.K) (hg : Gl X "enumerate") (hm : X.mg "enumerate" = none) (ha : PA X [e] (tDL C E dl)) (hs : starEach [e] X.env = [(false, eval e X.env)] := by rfl) :
    PI X (.Tuple elts kk tpos) (.Call (.Name "enumerate" p) [e] [] pos) (tDI C E (diEnum dl)) := (pi_enum hg hm ha hs).imp fun σ H R ⟨m, ρ, h, r1, r2, q⟩ => by
  rw [hK]
  refine tDL.of r1 r2 q fun ws vs m1 h1 H1 s1 e1 k1 rv p1 => ?_
  match ws, p1, rv with
  | [.loc n], p1, rv =>
    obtain ⟨v, rfl, r⟩ := rv.one
    obtain ⟨ws, e, p1⟩ := orBad_of p1
    obtain ⟨a, xs, rfl, ha, q1, rs⟩ := lst_of k1 e r
    exact ⟨a, xs, rfl, SqL.of q1, p1 m1 H1 Step.refl k1 _ (ok_E ha)⟩
/-! zip of two lists, of two tuples -/
def itZ (f g : Itm) : Itm := fun i h => match f i h with
  | some (some x) => match g i h with
    | some (some y) => some (some (.tup [x, y]))
    | some none => some none
    | none => none
  | some none => match g i h with
    | some _ => some none
    | none => none
  | none => none
theorem ok_Z {n k : Nat} {a b : Addr} (ha : m[n]? = some a) (hb : m[k]? = some b) : ItOk C (Itz C.K a b) m H (itZ (itL n) (itL k)) := by
  intro i m1 h1 H1 s fz r
  unfold itZ itL
  cases e : lstAt h1 n with
  | none => exact ⟨fun z => (by cases z), fun w z => (by cases z)⟩
  | some ws =>
    cases e' : lstAt h1 k with
    | none =>
      cases hn : nthW ws i with
      | none => simp only [hn]; exact ⟨fun z => (by cases z), fun w z => (by cases z)⟩
      | some w0 => simp only [hn]; exact ⟨fun z => (by cases z), fun w z => (by cases z)⟩
    | some us =>
      obtain ⟨a', xs, ea, _, q1, r1⟩ := lst_of r e ⟨a, s.get ha, rfl⟩
      cases ea
      obtain ⟨b', ys, eb, _, q2, r2⟩ := lst_of r e' ⟨b, s.get hb, rfl⟩
      cases eb
      cases hn : nthW ws i with
      | none =>
        simp only [hn]
        exact ⟨fun z => ⟨xs, ys, SqL.of q1, SqL.of q2, .inl (by rw [← r1.length]; exact nthW_none hn)⟩, fun w z => (by cases z)⟩
      | some w0 =>
        cases hk : nthW us i with
        | none =>
          simp only [hn, hk]
          exact ⟨fun z => ⟨xs, ys, SqL.of q1, SqL.of q2, .inr (by rw [← r2.length]; exact nthW_none hk)⟩, fun w z => (by cases z)⟩
        | some u0 =>
          simp only [hn, hk]
          rw [nthW_eq] at hn hk
          obtain ⟨v, h3, h4⟩ := r1.get hn
          obtain ⟨u, h5, h6⟩ := r2.get hk
          refine ⟨fun z => (by cases z), fun w z => ?_⟩
          cases z
          refine ⟨⟨xs, ys, v, u, SqL.of q1, SqL.of q2, h3, h5⟩, fun x H' y => ?_⟩
          obtain ⟨q, x1, x2, rfl, hq, rfl, y1, y2⟩ := y
          have t1 := y1 xs (SqL.of q1)
          have t2 := y2 ys (SqL.of q2)
          rw [h3] at t1
          rw [h5] at t2
          cases t1
          cases t2
          exact rv_pair hq r h4 h6
theorem ok_ZT {ws us : List W} {xs ys : List V} {a b : Addr} (ha : H a = some (.tup xs)) (ra : RVs m H ws xs) (hb : H b = some (.tup ys)) (rb : RVs m H us ys) : ItOk C (RZ.ItzT C.K a b) m H (itZ (itT ws) (itT us)) := by
  intro i m1 h1 H1 s fz r
  have q1 := s.tup _ _ ha
  have r1 := s.rvs _ _ ra
  have q2 := s.tup _ _ hb
  have r2 := s.rvs _ _ rb
  unfold itZ itT
  cases hn : nthW ws i with
  | none => exact ⟨fun z => ⟨xs, ys, SqT.of q1, SqT.of q2, .inl (by rw [← r1.length]; exact nthW_none hn)⟩, fun w z => (by cases z)⟩
  | some w0 =>
    cases hk : nthW us i with
    | none => exact ⟨fun z => ⟨xs, ys, SqT.of q1, SqT.of q2, .inr (by rw [← r2.length]; exact nthW_none hk)⟩, fun w z => (by cases z)⟩
    | some u0 =>
      rw [nthW_eq] at hn hk
      obtain ⟨v, h3, h4⟩ := r1.get hn
      obtain ⟨u, h5, h6⟩ := r2.get hk
      refine ⟨fun z => (by cases z), fun w z => ?_⟩
      cases z
      refine ⟨⟨xs, ys, v, u, SqT.of q1, SqT.of q2, h3, h5⟩, fun x H' y => ?_⟩
      obtain ⟨q, x1, x2, rfl, hq, rfl, y1, y2⟩ := y
      have t1 := y1 xs (SqT.of q1)
      have t2 := y2 ys (SqT.of q2)
      rw [h3] at t1
      rw [h5] at t2
      cases t1
      cases t2
      exact rv_pair hq r h4 h6
def diZip (a : DL) : DI := fun ρ h => (a ρ h).bind fun ws h1 => match ws with
  | [.loc n, .loc k] => orBad (lstAt h1 n) fun _ => orBad (lstAt h1 k) fun _ => .ok (itZ (itL n) (itL k)) h1
  | [.tup x, .tup y] => .ok (itZ (itT x) (itT y)) h1
  | _ => .bad
theorem di_zip {elts : List Expr} {kk : Nat} (hK : X.K = C.K) (hg : Gl X "zip") (hm : X.mg "zip" = none) (ha : PA X [e, e2] (tDL C E dl))
    (hs : starEach [e, e2] X.env = (false, eval e X.env) :: starEach [e2] X.env := by rfl) (hpl : (backTo pos (starEach [e2] X.env)).any (·.1) = false := by rfl) :
    PI X (.Tuple elts kk tpos) (.Call (.Name "zip" p) [e, e2] [] pos) (tDI C E (diZip dl)) := (RZ.pi_zipA hg hm ha hs hpl).imp fun σ H R ⟨m, ρ, h, r1, r2, q⟩ => by
  rw [hK]
  refine tDL.of r1 r2 q fun ws vs m1 h1 H1 s1 e1 k1 rv p1 => ?_
  match ws, p1, rv with
  | [.loc n, .loc k], p1, rv =>
    obtain ⟨v, u, rfl, r, r'⟩ := rv.two
    obtain ⟨ws, e, p1⟩ := orBad_of p1
    obtain ⟨us, e', p1⟩ := orBad_of p1
    obtain ⟨a, xs, rfl, ha, q1, rs⟩ := lst_of k1 e r
    obtain ⟨b, ys, rfl, hb, q2, rs2⟩ := lst_of k1 e' r'
    exact ⟨a, b, xs, ys, rfl, .inl ⟨SqL.of q1, SqL.of q2, p1 m1 H1 Step.refl k1 _ (ok_Z ha hb)⟩⟩
  | [.tup x, .tup y], p1, rv =>
    obtain ⟨v, u, rfl, r, r'⟩ := rv.two
    obtain ⟨a, xs, rfl, q1, rs⟩ := r
    obtain ⟨b, ys, rfl, q2, rs2⟩ := r'
    exact ⟨a, b, xs, ys, rfl, .inr ⟨SqT.of q1, SqT.of q2, p1 m1 H1 Step.refl k1 _ (ok_ZT q1 rs q2 rs2)⟩⟩
/-! the values and the items of a dict -/
def valAt (i : Nat) : List (W × W) → Option W := fun kvs => List.rec (fun _ => none) (fun x _ ih n => Nat.rec (some x.2) (fun k _ => ih k) n) kvs i
theorem valAt_eq : ∀ (kvs : List (W × W)) (i : Nat), valAt i kvs = (kvs[i]?).map (·.2)
  | [], _ => rfl
  | _ :: _, 0 => rfl
  | _ :: kvs, i + 1 => valAt_eq kvs i
def itV (n : Nat) : Itm := fun i h => match h.get n with
  | some (.dct false kvs true) => some (valAt i kvs)
  | _ => none
def pairAt (i : Nat) (kvs : List (W × W)) : Option W := match keyAt i kvs, valAt i kvs with
  | some k, some w => some (.tup [k, w])
  | _, _ => none
theorem pairAt_eq (kvs : List (W × W)) (i : Nat) : pairAt i kvs = (kvs[i]?).map fun p => W.tup [p.1, p.2] := by
  unfold pairAt
  rw [keyAt_eq, valAt_eq]
  cases kvs[i]? <;> rfl
def itI (n : Nat) : Itm := fun i h => match h.get n with
  | some (.dct false kvs true) => some (pairAt i kvs)
  | _ => none
theorem itKV_lk {n : Nat} {α : Type} {f : List (W × W) → α} {h1 : Hs} {x : α} (z : (match h1.get n with
  | some (.dct false kvs true) => some (f kvs)
  | _ => none) = some x) : ∃ kvs, h1.get n = some (.dct false kvs true) ∧ f kvs = x := by
  cases e : h1.get n with
  | none => rw [e] at z; cases z
  | some ob =>
    rw [e] at z
    cases ob with
    | lst _ => cases z
    | ins _ _ => cases z
    | opq _ => cases z
    | dct t kvs lk =>
      cases lk with
      | false => cases t <;> cases z
      | true =>
        cases t with
        | true => cases z
        | false => exact ⟨kvs, rfl, Option.some.inj z⟩
theorem ok_V {n : Nat} {a : Addr} {o : Obj} {ks : List (Key × V)} (ha : m[n]? = some a) (hl : H a = some (.frz o (.dK ks))) : ItOk C (Itd a o ks) m H (itV n) := by
  intro i m1 h1 H1 s fz r
  have hl1 := fz a o _ hl
  have key : ∀ {x : Option W}, itV n i h1 = some x → ∃ kvs, RD keyW m1 H1 kvs ks ∧ (kvs[i]?).map (·.2) = x := fun {x} z => by
    obtain ⟨kvs, e, z⟩ := itKV_lk (f := fun kvs => valAt i kvs) z
    obtain ⟨b, ks', eb, _, _, _, q1, q2⟩ := dct_of r e ⟨a, s.get ha, rfl⟩
    cases eb
    obtain ⟨od, q1⟩ := q1 rfl
    rw [hl1] at q1
    cases q1
    exact ⟨kvs, q2, by rw [← valAt_eq]; exact z⟩
  refine ⟨fun z => ?_, fun w z => ?_⟩
  · obtain ⟨kvs, q2, z⟩ := key z
    rw [Option.map_eq_none_iff, List.getElem?_eq_none_iff] at z
    have := q2.length
    exact ⟨hl1, by omega⟩
  · obtain ⟨kvs, q2, z⟩ := key z
    obtain ⟨p, z1, rfl⟩ := Option.map_eq_some_iff.mp z
    obtain ⟨k, v, z2, z3, z4⟩ := q2.get z1
    refine ⟨⟨hl1, (List.getElem?_eq_some_iff.mp z2).1⟩, fun x H' y => ?_⟩
    obtain ⟨rfl, k', y1⟩ := y
    rw [z2] at y1
    cases y1
    exact ⟨Step.refl, r, z4⟩
theorem ok_I {n : Nat} {a : Addr} {o : Obj} {ks : List (Key × V)} (ha : m[n]? = some a) (hl : H a = some (.frz o (.dK ks))) : ItOk C (Iti a o ks) m H (itI n) := by
  intro i m1 h1 H1 s fz r
  have hl1 := fz a o _ hl
  have key : ∀ {x : Option W}, itI n i h1 = some x → ∃ kvs, RD keyW m1 H1 kvs ks ∧ (kvs[i]?).map (fun p => W.tup [p.1, p.2]) = x := fun {x} z => by
    obtain ⟨kvs, e, z⟩ := itKV_lk (f := fun kvs => pairAt i kvs) z
    obtain ⟨b, ks', eb, _, _, _, q1, q2⟩ := dct_of r e ⟨a, s.get ha, rfl⟩
    cases eb
    obtain ⟨od, q1⟩ := q1 rfl
    rw [hl1] at q1
    cases q1
    exact ⟨kvs, q2, by rw [← pairAt_eq]; exact z⟩
  refine ⟨fun z => ?_, fun w z => ?_⟩
  · obtain ⟨kvs, q2, z⟩ := key z
    rw [Option.map_eq_none_iff, List.getElem?_eq_none_iff] at z
    have := q2.length
    exact ⟨hl1, by omega⟩
  · obtain ⟨kvs, q2, z⟩ := key z
    obtain ⟨p, z1, rfl⟩ := Option.map_eq_some_iff.mp z
    obtain ⟨k, v, z2, z3, z4⟩ := q2.get z1
    refine ⟨⟨hl1, (List.getElem?_eq_some_iff.mp z2).1⟩, fun x H' y => ?_⟩
    obtain ⟨q, k', v', y1, rfl, hq, rfl⟩ := y
    rw [z2] at y1
    cases y1
    exact rv_pair hq r (rv_key z3) z4
def diDct (it : Nat → Itm) (d : D) : DI := fun ρ h => (d ρ h).bind fun w h1 => match w with
  | .loc n => match h1.get n with
    | some (.dct false _ true) => .ok (it n) h1
    | _ => .bad
  | _ => .bad
theorem diDct_of {it : Nat → Itm} {σ : L2.St} {R : It → Hp → Prop} {S : VK} (q : tDI C E (diDct it d) σ H R) (k : ∀ m h H n a od ks, C.rh m h H → m[n]? = some a → H a = some (.frz od (.dK ks)) → (∀ J, ItOk C J m H (it n) → R J H) → S (.ref a) H) : tD C E d σ H S := by
  obtain ⟨m, ρ, h, r1, r2, p⟩ := q
  refine tD.of r1 r2 p fun w v m1 h1 H1 s1 e1 k1 rv p1 => ?_
  match w, p1, rv with
  | .loc n, p1, rv =>
    have p1 : Post C m1 H1 E (fun f m' H' => ∀ J, ItOk C J m' H' f → R J H') (match h1.get n with | some (.dct false _ true) => Out.ok (it n) h1 | _ => .bad) := p1
    cases e0 : h1.get n with
    | none => rw [e0] at p1; exact p1.elim
    | some o =>
      rw [e0] at p1
      match o, p1, e0 with
      | .dct false kvs true, p1, e0 =>
        obtain ⟨a, ks, rfl, ha, _, _, q1, q2⟩ := dct_of k1 e0 rv
        obtain ⟨od, q1⟩ := q1 rfl
        exact k m1 h1 H1 n a od ks k1 ha q1 fun J hJ => p1 m1 H1 Step.refl k1 J hJ
theorem di_vals {tg : Expr} (he : PE X e (tD C E d)) (hbase : attributeBase e "values" X.env (eval e X.env) = eval e X.env := by rfl) (hline : (apos.endLine == pos.line) = true := by rfl) :
    PI X tg (.Call (.Attribute e "values" apos) [] [] pos) (tDI C E (diDct itV d)) := (pi_values he hbase hline).imp fun σ H R q => diDct_of q fun m h H n a od ks r ha hl k => ⟨a, od, ks, rfl, hl, k _ (ok_V ha hl)⟩
theorem di_items {elts : List Expr} {kk : Nat} (he : PE X e (tD C E d)) (hbase : attributeBase e "items" X.env (eval e X.env) = eval e X.env := by rfl) (hline : (apos.endLine == pos.line) = true := by rfl) :
    PI X (.Tuple elts kk tpos) (.Call (.Attribute e "items" apos) [] [] pos) (tDI C E (diDct itI d)) := (pi_items he hbase hline).imp fun σ H R q => diDct_of q fun m h H n a od ks r ha hl k => ⟨a, od, ks, rfl, hl, k _ (ok_I ha hl)⟩
end
end Vz
end
/-! order of data, sorting -/
noncomputable section
namespace Vz
open PySem PySem.Spec PyProof.Rows L2 PySem.W

/-- what is sorted: ints, texts, rows (lists or tuples) of such: first hd, then rest; trees: a text, then trees -/
inductive Ty where
  | int | str | tree | nev | row (t : Bool) (hd : List Ty) (rest : Ty)
mutual
def fitD : PyData → Ty → Bool
  | .int _, .int => true
  | .str _, .str => true
  | .tuple ds, .tree => fitDs ds [.str] .tree
  | .tuple ds, .row true hd rest => fitDs ds hd rest
  | .list ds, .row false hd rest => fitDs ds hd rest
  | _, _ => false
def fitDs : List PyData → List Ty → Ty → Bool
  | [], _, _ => true
  | d :: ds, t :: hd, rest => cond (fitD d t) (fitDs ds hd rest) false
  | d :: ds, [], rest => cond (fitD d rest) (fitDs ds [] rest) false
end
mutual
theorem fit_alike : ∀ (d e : PyData) (t : Ty), fitD d t = true → fitD e t = true → alike d e = true
  | d, e, .nev, h1, _ => by cases d <;> simp [fitD] at h1
  | d, e, .int, h1, h2 => by cases d <;> simp [fitD] at h1; cases e <;> simp [fitD] at h2; simp [alike]
  | d, e, .str, h1, h2 => by cases d <;> simp [fitD] at h1; cases e <;> simp [fitD] at h2; simp [alike]
  | .tuple ds, e, .tree, h1, h2 => by
    cases e <;> simp [fitD] at h2
    rename_i es
    simp only [alike]
    exact fits_alike ds es [.str] .tree (by simpa [fitD] using h1) h2
  | .none, e, .tree, h1, _ => by simp [fitD] at h1
  | .bool _, e, .tree, h1, _ => by simp [fitD] at h1
  | .int _, e, .tree, h1, _ => by simp [fitD] at h1
  | .str _, e, .tree, h1, _ => by simp [fitD] at h1
  | .list _, e, .tree, h1, _ => by simp [fitD] at h1
  | .dict _, e, .tree, h1, _ => by simp [fitD] at h1
  | .tuple ds, e, .row t hd rest, h1, h2 => by
    cases t with
    | false => simp [fitD] at h1
    | true =>
      cases e <;> simp [fitD] at h2
      rename_i es
      simp only [alike]
      exact fits_alike ds es hd rest (by simpa [fitD] using h1) h2
  | .list ds, e, .row t hd rest, h1, h2 => by
    cases t with
    | true => simp [fitD] at h1
    | false =>
      cases e <;> simp [fitD] at h2
      rename_i es
      simp only [alike]
      exact fits_alike ds es hd rest (by simpa [fitD] using h1) h2
  | .none, e, .row _ _ _, h1, _ => by simp [fitD] at h1
  | .bool _, e, .row _ _ _, h1, _ => by simp [fitD] at h1
  | .int _, e, .row _ _ _, h1, _ => by simp [fitD] at h1
  | .str _, e, .row _ _ _, h1, _ => by simp [fitD] at h1
  | .dict _, e, .row _ _ _, h1, _ => by simp [fitD] at h1
theorem fits_alike : ∀ (ds es : List PyData) (hd : List Ty) (rest : Ty), fitDs ds hd rest = true → fitDs es hd rest = true → alikeAll ds es = true
  | [], _, _, _, _, _ => by simp [alikeAll]
  | _ :: _, [], _, _, _, _ => by simp [alikeAll]
  | d :: ds, e :: es, t :: hd, rest, h1, h2 => by
    obtain ⟨a1, a2⟩ := cond_t (by simpa [fitDs] using h1 : cond (fitD d t) (fitDs ds hd rest) false = true)
    obtain ⟨b1, b2⟩ := cond_t (by simpa [fitDs] using h2 : cond (fitD e t) (fitDs es hd rest) false = true)
    simp only [alikeAll, fit_alike d e t a1 b1, fits_alike ds es hd rest a2 b2, Bool.and_self]
  | d :: ds, e :: es, [], rest, h1, h2 => by
    obtain ⟨a1, a2⟩ := cond_t (by simpa [fitDs] using h1 : cond (fitD d rest) (fitDs ds [] rest) false = true)
    obtain ⟨b1, b2⟩ := cond_t (by simpa [fitDs] using h2 : cond (fitD e rest) (fitDs es [] rest) false = true)
    simp only [alikeAll, fit_alike d e rest a1 b1, fits_alike ds es [] rest a2 b2, Bool.and_self]
end
/-! three ways -/
inductive Cp where
  | lt | eq | gt
mutual
def cmpD : PyData → PyData → Cp
  | .int i, .int j => cond (ltI i j) .lt (cond (eqI i j) .eq .gt)
  | .str x, .str y => cond (eqNs x.cps.toList y.cps.toList) .eq (cond (ltNs x.cps.toList y.cps.toList) .lt .gt)
  | .tuple xs, .tuple ys => cmpDs xs ys
  | .list xs, .list ys => cmpDs xs ys
  | _, _ => .eq
def cmpDs : List PyData → List PyData → Cp
  | [], [] => .eq
  | [], _ :: _ => .lt
  | _ :: _, [] => .gt
  | x :: xs, y :: ys => match cmpD x y with
    | .eq => cmpDs xs ys
    | .lt => .lt
    | .gt => .gt
end
/-- what a comparison tells -/
def CpOk (c : Cp) (lt eq : Bool) : Prop := match c with
  | .lt => lt = true ∧ eq = false
  | .eq => lt = false ∧ eq = true
  | .gt => lt = false ∧ eq = false
theorem lex_nil_cons (y : PyData) (ys : List PyData) : lexLt itemOrd (keyToksAll []) (keyToksAll (y :: ys)) = true := by
  rw [toks_all_cons]
  simp only [keyToksAll]
  rw [lex_atom (by intro h; cases h)]
  decide +kernel
theorem lex_cons_nil (y : PyData) (ys : List PyData) : lexLt itemOrd (keyToksAll (y :: ys)) (keyToksAll []) = false := by
  rw [toks_all_cons]
  simp only [keyToksAll]
  rw [lex_atom (by intro h; cases h)]
  decide +kernel
theorem cp_int (i j : Int) : CpOk (cmpD (.int i) (.int j)) (dataLt (.int i) (.int j)) (PyData.eqv (.int i) (.int j)) := by
  rw [dataLt_int]
  simp only [cmpD, PyData.eqv, ltI_eq, eqI_eq]
  by_cases h1 : i < j
  · have h2 : i ≠ j := by omega
    simp [h1, h2, CpOk]
  · by_cases h2 : i = j
    · simp [h1, h2, CpOk]
    · simp [h1, h2, CpOk]
theorem cp_str (x y : Str) : CpOk (cmpD (.str x) (.str y)) (dataLt (.str x) (.str y)) (PyData.eqv (.str x) (.str y)) := by
  rw [dataLt_str]
  simp only [cmpD, PyData.eqv, ltNs_eq, eqNs_eq]
  by_cases h1 : x.cps.toList = y.cps.toList
  · have h2 := str_of_cps h1
    subst h2
    simp [CpOk]
  · have h2 : x ≠ y := fun z => h1 (by rw [z])
    by_cases h3 : x.cps.toList < y.cps.toList
    · simp only [h1, h3, decide_false, decide_true, cond_false, cond_true, CpOk]
      exact ⟨trivial, by simpa using h2⟩
    · simp only [h1, h3, decide_false, cond_false, CpOk]
      exact ⟨trivial, by simpa using h2⟩
mutual
theorem cmp_ok : ∀ (d e : PyData) (t : Ty), fitD d t = true → fitD e t = true → CpOk (cmpD d e) (dataLt d e) (PyData.eqv d e)
  | .int i, e, t, h1, h2 => by
    cases t <;> simp [fitD] at h1
    cases e <;> simp [fitD] at h2
    exact cp_int _ _
  | .str x, e, t, h1, h2 => by
    cases t <;> simp [fitD] at h1
    cases e <;> simp [fitD] at h2
    exact cp_str _ _
  | .tuple ds, e, t, h1, h2 => by
    have key : ∃ hd rest, fitDs ds hd rest = true ∧ ∃ es, e = .tuple es ∧ fitDs es hd rest = true := by
      cases t with
      | tree =>
        cases e <;> simp [fitD] at h2
        exact ⟨[.str], .tree, by simpa [fitD] using h1, _, rfl, h2⟩
      | row b hd rest =>
        cases b with
        | false => simp [fitD] at h1
        | true =>
          cases e <;> simp [fitD] at h2
          exact ⟨hd, rest, by simpa [fitD] using h1, _, rfl, h2⟩
      | _ => simp [fitD] at h1
    obtain ⟨hd, rest, k1, es, rfl, k2⟩ := key
    rw [dataLt_tuple]
    simp only [cmpD, PyData.eqv]
    exact cmps_ok ds es hd rest k1 k2
  | .list ds, e, t, h1, h2 => by
    have key : ∃ hd rest, fitDs ds hd rest = true ∧ ∃ es, e = .list es ∧ fitDs es hd rest = true := by
      cases t with
      | row b hd rest =>
        cases b with
        | true => simp [fitD] at h1
        | false =>
          cases e <;> simp [fitD] at h2
          exact ⟨hd, rest, by simpa [fitD] using h1, _, rfl, h2⟩
      | _ => simp [fitD] at h1
    obtain ⟨hd, rest, k1, es, rfl, k2⟩ := key
    rw [dataLt_list]
    simp only [cmpD, PyData.eqv]
    exact cmps_ok ds es hd rest k1 k2
  | .none, e, t, h1, _ => by cases t <;> simp [fitD] at h1
  | .bool _, e, t, h1, _ => by cases t <;> simp [fitD] at h1
  | .dict _, e, t, h1, _ => by cases t <;> simp [fitD] at h1
theorem cmps_ok : ∀ (ds es : List PyData) (hd : List Ty) (rest : Ty), fitDs ds hd rest = true → fitDs es hd rest = true → CpOk (cmpDs ds es) (lexLt itemOrd (keyToksAll ds) (keyToksAll es)) (PyData.eqvAll ds es)
  | [], [], _, _, _, _ => by
    have e : lexLt itemOrd (keyToksAll []) (keyToksAll []) = false := lex_irrefl _
    simp [cmpDs, CpOk, e, PyData.eqvAll]
  | [], y :: ys, _, _, _, _ => by simp [cmpDs, CpOk, lex_nil_cons, PyData.eqvAll]
  | x :: xs, [], _, _, _, _ => by simp [cmpDs, CpOk, lex_cons_nil, PyData.eqvAll]
  | x :: xs, y :: ys, hd, rest, h1, h2 => by
    have key : ∃ t hd', fitD x t = true ∧ fitD y t = true ∧ fitDs xs hd' rest = true ∧ fitDs ys hd' rest = true := by
      cases hd with
      | nil =>
        obtain ⟨a1, a2⟩ := cond_t (by simpa [fitDs] using h1 : cond (fitD x rest) (fitDs xs [] rest) false = true)
        obtain ⟨b1, b2⟩ := cond_t (by simpa [fitDs] using h2 : cond (fitD y rest) (fitDs ys [] rest) false = true)
        exact ⟨rest, [], a1, b1, a2, b2⟩
      | cons t hd =>
        obtain ⟨a1, a2⟩ := cond_t (by simpa [fitDs] using h1 : cond (fitD x t) (fitDs xs hd rest) false = true)
        obtain ⟨b1, b2⟩ := cond_t (by simpa [fitDs] using h2 : cond (fitD y t) (fitDs ys hd rest) false = true)
        exact ⟨t, hd, a1, b1, a2, b2⟩
    obtain ⟨t, hd', a1, b1, a2, b2⟩ := key
    have c1 := cmp_ok x y t a1 b1
    have c2 := cmps_ok xs ys hd' rest a2 b2
    rw [dataLt_cons (fit_alike x y t a1 b1)]
    simp only [cmpDs, PyData.eqvAll]
    cases hc : cmpD x y with
    | eq =>
      rw [hc] at c1
      obtain ⟨e1, e2⟩ := c1
      simp only [e2, if_true, Bool.true_and]
      exact c2
    | lt =>
      rw [hc] at c1
      obtain ⟨e1, e2⟩ := c1
      simp [e1, e2, CpOk]
    | gt =>
      rw [hc] at c1
      obtain ⟨e1, e2⟩ := c1
      simp [e1, e2, CpOk]
end
/-- not greater -/
def leC (x y : PyData) : Bool := match cmpD y x with
  | .lt => false
  | _ => true
theorem leC_eq {x y : PyData} {t : Ty} (h1 : fitD x t = true) (h2 : fitD y t = true) : leC x y = !dataLt y x := by
  have c := cmp_ok y x t h2 h1
  unfold leC
  cases hc : cmpD y x with
  | lt => rw [hc] at c; rw [c.1]; rfl
  | eq => rw [hc] at c; rw [c.1]; rfl
  | gt => rw [hc] at c; rw [c.1]; rfl
/-! merge sort -/
section
variable {α β : Type}
def mgF (le : α → α → Bool) : Nat → List α → List α → List α
  | 0, _, _ => []
  | _ + 1, [], ys => ys
  | _ + 1, x :: xs, [] => x :: xs
  | k + 1, x :: xs, y :: ys => cond (le x y) (x :: mgF le k xs (y :: ys)) (y :: mgF le k (x :: xs) ys)
theorem mgF_eq (le : α → α → Bool) : ∀ (k : Nat) (xs ys : List α), xs.length + ys.length < k → mgF le k xs ys = xs.merge ys le
  | k + 1, [], ys, _ => by
    rw [List.merge.eq_def]
    cases ys <;> rfl
  | k + 1, x :: xs, [], _ => by
    rw [List.merge.eq_def]
    rfl
  | k + 1, x :: xs, y :: ys, h => by
    rw [List.cons_merge_cons]
    show cond (le x y) (x :: mgF le k xs (y :: ys)) (y :: mgF le k (x :: xs) ys) = _
    simp only [List.length_cons] at h
    rw [mgF_eq le k xs (y :: ys) (by simp only [List.length_cons]; omega), mgF_eq le k (x :: xs) ys (by simp only [List.length_cons]; omega)]
    cases le x y <;> rfl
/-- n: the length -/
def msF (le : α → α → Bool) : Nat → Nat → List α → List α
  | 0, _, xs => xs
  | k + 1, n, xs => cond (Nat.ble n 1) xs (mgF le (n + 1) (msF le k ((n + 1) / 2) (xs.take ((n + 1) / 2))) (msF le k (n / 2) (xs.drop ((n + 1) / 2))))
theorem mergeSort_len (le : α → α → Bool) (xs : List α) : (xs.mergeSort le).length = xs.length := (List.mergeSort_perm xs le).length_eq
theorem msF_eq (le : α → α → Bool) : ∀ (k n : Nat) (xs : List α), xs.length = n → n ≤ k → msF le k n xs = xs.mergeSort le
  | 0, n, xs, h1, h2 => by
    have : xs = [] := List.eq_nil_of_length_eq_zero (by omega)
    subst this
    simp [msF]
  | k + 1, n, xs, h1, h2 => by
    unfold msF
    cases hb : Nat.ble n 1 with
    | true =>
      have := Nat.le_of_ble_eq_true hb
      match xs, h1 with
      | [], _ => simp
      | [a], _ => simp
      | a :: b :: r, h1 => simp only [List.length_cons] at h1; omega
    | false =>
      have hn : ¬ n ≤ 1 := fun z => by rw [Nat.ble_eq_true_of_le z] at hb; cases hb
      match xs, h1 with
      | [], h1 => simp at h1; omega
      | [a], h1 => simp at h1; omega
      | a :: b :: r, h1 =>
        rw [List.mergeSort.eq_3, List.MergeSort.Internal.splitInTwo_fst, List.MergeSort.Internal.splitInTwo_snd]
        have hl : (a :: b :: r).length = n := h1
        simp only [hl]
        show mgF le (n + 1) (msF le k ((n + 1) / 2) ((a :: b :: r).take ((n + 1) / 2))) (msF le k (n / 2) ((a :: b :: r).drop ((n + 1) / 2))) = _
        have l1 : ((a :: b :: r).take ((n + 1) / 2)).length = (n + 1) / 2 := by rw [List.length_take, hl]; omega
        have l2 : ((a :: b :: r).drop ((n + 1) / 2)).length = n / 2 := by rw [List.length_drop, hl]; omega
        rw [msF_eq le k _ _ l1 (by omega), msF_eq le k _ _ l2 (by omega), mgF_eq le _ _ _ (by rw [mergeSort_len, mergeSort_len, l1, l2]; omega)]
theorem merge_map {le : α → α → Bool} {le' : β → β → Bool} (f : α → β) : ∀ (xs ys : List α), (∀ a ∈ xs, ∀ b ∈ ys, le a b = le' (f a) (f b)) → (xs.merge ys le).map f = (xs.map f).merge (ys.map f) le'
  | [], ys, _ => by simp
  | x :: xs, [], _ => by simp
  | x :: xs, y :: ys, h => by
    rw [List.map_cons, List.map_cons, List.cons_merge_cons, List.cons_merge_cons, ← h x (by simp) y (by simp)]
    cases le x y with
    | true =>
      simp only [if_true, List.map_cons]
      rw [merge_map f xs (y :: ys) fun a ha b hb => h a (List.mem_cons_of_mem _ ha) b hb]
      rfl
    | false =>
      simp only [Bool.false_eq_true, if_false, List.map_cons]
      rw [merge_map f (x :: xs) ys fun a ha b hb => h a ha b (List.mem_cons_of_mem _ hb)]
      rfl
/-- sorted, then carried over; the orders agree on what is there -/
theorem mergeSort_map {le : α → α → Bool} {le' : β → β → Bool} (f : α → β) : ∀ (n : Nat) (xs : List α), xs.length ≤ n → (∀ a ∈ xs, ∀ b ∈ xs, le a b = le' (f a) (f b)) → (xs.mergeSort le).map f = (xs.map f).mergeSort le'
  | n, [], _, _ => by simp
  | n, [a], _, _ => by simp
  | 0, a :: b :: r, hl, _ => by simp at hl
  | n + 1, a :: b :: r, hl, h => by
    rw [List.map_cons, List.map_cons, List.mergeSort.eq_3, List.mergeSort.eq_3]
    simp only [List.MergeSort.Internal.splitInTwo_fst, List.MergeSort.Internal.splitInTwo_snd, List.length_cons, List.length_map]
    generalize hk : (r.length + 1 + 1 + 1) / 2 = k
    simp only [List.length_cons] at hl
    have m1 : ∀ z, z ∈ ((a :: b :: r).take k).mergeSort le → z ∈ a :: b :: r := fun z hz => List.mem_of_mem_take ((List.mergeSort_perm _ le).mem_iff.mp hz)
    have m2 : ∀ z, z ∈ ((a :: b :: r).drop k).mergeSort le → z ∈ a :: b :: r := fun z hz => List.mem_of_mem_drop ((List.mergeSort_perm _ le).mem_iff.mp hz)
    rw [merge_map f _ _ fun x hx y hy => h x (m1 x hx) y (m2 y hy)]
    rw [mergeSort_map f n _ (by rw [List.length_take, List.length_cons, List.length_cons]; omega) fun x hx y hy => h x (List.mem_of_mem_take hx) y (List.mem_of_mem_take hy)]
    rw [mergeSort_map f n _ (by rw [List.length_drop, List.length_cons, List.length_cons]; omega) fun x hx y hy => h x (List.mem_of_mem_drop hx) y (List.mem_of_mem_drop hy)]
    rw [List.map_take, List.map_drop, List.map_cons, List.map_cons]
end
end Vz
end
/-! sorted(list) -/
noncomputable section
namespace Vz
open PySem PySem.Spec PyProof.Rows L2 PySem.W

/-- sorted(xs), the items read as data -/
def rSortD (K : PySem.W.Frag) : List V → Hp → VK → Prop := fun vs H Q => ∃ (a : Addr) (bs : List (V × PyData)), vs = [V.ref a] ∧ SqL K H a (bs.map (·.1)) ∧ (∀ b ∈ bs, Dp K H b.1 b.2 ∧ b.2.depth ≤ 60) ∧ AllAlike (bs.map (·.2)) ∧ PySem.W.Sortable (bs.map (·.2)) ∧
  ∀ p, H p = none → Q (.ref p) (upd H p (.lst ((bs.mergeSort (dataLe false (·.2))).map (·.1))))
theorem each_vals {bs : List (V × PyData)} : ∀ {us : List Value}, Vals (bs.map (·.1)) us → EachIs (fun u b => RelV b.1 u) us bs := by
  induction bs with
  | nil => intro us h; cases h; exact .nil
  | cons b bs ih =>
    intro us h
    cases h with
    | cons h1 h2 => exact .cons h1 (ih h2)
theorem vals_each {bs : List (V × PyData)} : ∀ {us : List Value}, EachIs (fun u b => RelV b.1 u) us bs → Vals (bs.map (·.1)) us := by
  induction bs with
  | nil => intro us h; cases h; exact .nil
  | cons b bs ih =>
    intro us h
    cases h with
    | cons h1 h2 => exact .cons h1 (ih h2)
theorem cr_sortD {X : Cx} (hu : X.A.units + 64 < cLine) : CallR X (.builtin "sorted") (rSortD X.K) := by
  intro pins s σ H vs us Q I r h
  obtain ⟨a, bs, rfl, hs, hb, hal, hk, q⟩ := h
  obtain ⟨its, rv, hl, hz⟩ := I.list hs
  rw [Vals.ref1 r]
  have e := each_vals rv
  have er : EachIs (fun u b => ∃ as, Reads s.heap u b.2 as) its bs := (each_mem e).mono fun u b ⟨x, hm⟩ => Dp.reads I b.2 b.1 u (hb b hm).1 x
  rw [List.length_map] at hz
  refine sorted_data (enc := fun b : V × PyData => b.2) hl.isList e er hal hk hz (fun b hm => ?_) fun out h1 h2 => ?_
  · have := (hb b hm).2
    omega
  obtain ⟨ep, he'⟩ := PyProof.Rows.sortedAll_at s.heap its out.toArray
  have hlen : ((bs.mergeSort (dataLe false (·.2))).map (·.1)).length ≤ sizeLine := by
    rw [List.length_map, mergeSort_len]
    exact hz
  exact ⟨.ref _, upd H (s.heap.objs.size + 1) (.lst _), I.laid (t' := s.toks) (fun _ _ => PyProof.Rows.sortedAll_old) (Nat.le_succ _) ⟨hlen, out, ep, vals_each h2, he'⟩, rfl, q _ (I.hok.fresh (Nat.le_succ _))⟩

/-- the items are all rows with something in them, or none is a row -/
def srtOk (ds : List PyData) : Bool := match ds with
  | .tuple _ :: _ => ds.all fun d => match d with
    | .tuple (_ :: _) => true
    | _ => false
  | _ => ds.all fun d => match d with
    | .tuple _ => false
    | .none => false
    | _ => true
theorem srtOk_ok {ds : List PyData} (h : srtOk ds = true) : PySem.W.Sortable ds := by
  have a1 : (ds.all fun d => match d with | .tuple (_ :: _) => true | _ => false) = true → PySem.W.Sortable ds := fun h => .inl fun d hd => by
    have := List.all_eq_true.mp h d hd
    cases d with
    | tuple xs =>
      cases xs with
      | nil => cases this
      | cons x r => exact ⟨x, r, rfl⟩
    | _ => cases this
  have a2 : (ds.all fun d => match d with | .tuple _ => false | .none => false | _ => true) = true → PySem.W.Sortable ds := fun h => .inr fun d hd => by
    have := List.all_eq_true.mp h d hd
    cases d with
    | tuple xs => cases this
    | none => cases this
    | _ => exact ⟨fun z => (by cases z), fun xs z => (by cases z)⟩
  unfold srtOk at h
  split at h
  · exact a1 h
  · exact a2 h
/-- the items, forced -/
def fstS {α : Type} (ps : List (W × PyData)) (k : List W → Out α) : Out α := List.rec (motive := fun _ => (List W → Out α) → Out α) (fun k => k []) (fun p _ ih k => ih fun l => Prod.rec (fun w _ => k (w :: l)) p) ps k
theorem fstS_eq {α : Type} : ∀ (ps : List (W × PyData)) (k : List W → Out α), fstS ps k = k (ps.map (·.1))
  | [], _ => rfl
  | (w, d) :: ps, k => fstS_eq ps fun l => k (w :: l)
def cSort (ty : Ty) : List W → Hs → Out W := fun as h => match as with
  | [.loc n] => orBad (lstAt h n) fun ws => orBad (mapO (rdD 60 h) ws) fun ds => cond (ds.all fun d => fitD d ty) (cond (srtOk ds) (fstS (msF (fun a b => leC a.2 b.2) ws.length ws.length (ws.zip ds)) fun l => orBad (h.new (.lst l)) fun h2 => .ok (.loc h.n) h2) .bad) .bad
  | _ => .bad
section
variable {C : Cn} {m : List Addr} {H : Hp} {h : Hs} {X : Cx} {E : XK}
theorem rvs_mem {ts : List (W × V × PyData)} (hm : ∀ t ∈ ts, RV m H t.1 t.2.1) : RVs m H (ts.map (·.1)) (ts.map (·.2.1)) := by
  induction ts with
  | nil => exact rfl
  | cons t ts ih => exact ⟨_, _, rfl, hm t (by simp), ih fun t ht => hm t (List.mem_cons_of_mem _ ht)⟩
theorem triples : ∀ {ws : List W} {xs : List V} {ds : List PyData}, RVs m H ws xs → mapO (rdD 60 h) ws = some ds →
    ∃ ts : List (W × V × PyData), ws = ts.map (·.1) ∧ xs = ts.map (·.2.1) ∧ ds = ts.map (·.2.2) ∧ ∀ t ∈ ts, RV m H t.1 t.2.1 ∧ rdD 60 h t.1 = some t.2.2
  | [], _, _, r, e => by
    cases r
    cases e
    exact ⟨[], rfl, rfl, rfl, fun t ht => by cases ht⟩
  | w :: ws, _, _, r, e => by
    obtain ⟨v, vs, rfl, r1, r2⟩ := r
    obtain ⟨d, ds, rfl, e1, e2⟩ := mapO_cons e
    obtain ⟨ts, rfl, rfl, rfl, hm⟩ := triples r2 e2
    refine ⟨(w, v, d) :: ts, rfl, rfl, rfl, fun t ht => ?_⟩
    rcases List.mem_cons.mp ht with rfl | ht
    · exact ⟨r1, e1⟩
    · exact hm t ht
theorem zip_maps {α β γ : Type} (f : α → β) (g : α → γ) : ∀ ts : List α, (ts.map f).zip (ts.map g) = ts.map fun t => (f t, g t)
  | [] => rfl
  | t :: ts => by simp [zip_maps f g ts]
theorem crD_sort (ty : Ty) : CallD C E (rSortD C.K) (cSort ty) := by
  intro m h H ws vs Q k1 rv p
  match ws, p, rv with
  | [.loc n], p, rv =>
    obtain ⟨v, rfl, r⟩ := rv.one
    obtain ⟨ws, e, p⟩ := orBad_of p
    obtain ⟨ds, e2, p⟩ := orBad_of p
    obtain ⟨c1, p⟩ := cond_of p
    obtain ⟨c2, p⟩ := cond_of p
    rw [fstS_eq] at p
    obtain ⟨a, xs, rfl, ha, q1, rs⟩ := lst_of k1 e r
    obtain ⟨ts, rfl, rfl, rfl, hm⟩ := triples rs e2
    have fit : ∀ t ∈ ts, fitD t.2.2 ty = true := fun t ht => List.all_eq_true.mp c1 _ (List.mem_map.mpr ⟨t, ht, rfl⟩)
    have hle : ∀ x ∈ ts, ∀ y ∈ ts, dataLe false (fun t : W × V × PyData => t.2.2) x y = leC x.2.2 y.2.2 := fun x hx y hy => (leC_eq (fit x hx) (fit y hy)).symm
    have s1 : (ts.mergeSort (dataLe false (fun t : W × V × PyData => t.2.2))).map (fun t => (t.1, t.2.2)) = (ts.map fun t => (t.1, t.2.2)).mergeSort (fun a b => leC a.2 b.2) := mergeSort_map (fun t => (t.1, t.2.2)) _ ts (Nat.le_refl _) hle
    have s2 : (ts.mergeSort (dataLe false (fun t : W × V × PyData => t.2.2))).map (fun t => (t.2.1, t.2.2)) = (ts.map fun t => (t.2.1, t.2.2)).mergeSort (dataLe false (·.2)) := mergeSort_map (le := dataLe false (fun t : W × V × PyData => t.2.2)) (le' := dataLe false (fun b : V × PyData => b.2)) (fun t => (t.2.1, t.2.2)) _ ts (Nat.le_refl _) fun x _ y _ => rfl
    rw [zip_maps, msF_eq _ _ _ _ (by simp) (Nat.le_refl _), ← s1, List.map_map] at p
    refine ⟨a, ts.map fun t => (t.2.1, t.2.2), rfl, ?_, fun b hb => ?_, ?_, ?_, fun q hq => ?_⟩
    · rw [List.map_map]
      exact SqL.of q1
    · obtain ⟨t, ht, rfl⟩ := List.mem_map.mp hb
      obtain ⟨b1, b2⟩ := hm t ht
      obtain ⟨z1, _, z3⟩ := rdD_ok k1 C.K 60 t.1 t.2.2 t.2.1 b2 b1
      exact ⟨z1, z3⟩
    · rw [List.map_map]
      intro d hd d' hd'
      obtain ⟨t, ht, rfl⟩ := List.mem_map.mp hd
      obtain ⟨t', ht', rfl⟩ := List.mem_map.mp hd'
      exact fit_alike _ _ ty (fit t ht) (fit t' ht')
    · rw [List.map_map]
      exact srtOk_ok c2
    · rw [← s2, List.map_map]
      refine new_lst k1 ?_ p q hq
      exact rvs_mem fun t ht => (hm t ((List.mergeSort_perm _ _).mem_iff.mp ht)).1
end
end Vz
end
/-! repr of data, of flat dicts -/
noncomputable section
namespace Vz
open PySem PySem.Spec PyProof.Rows L2

mutual
/-- leaves that show short -/
def smallR : PyData → Bool
  | .none => true
  | .bool _ => true
  | .int i => Nat.blt i.natAbs 1000000000000
  | .str x => x.cps.toList.all fun c => Nat.blt c 1114112
  | .list xs => smallRs xs
  | .tuple xs => smallRs xs
  | .dict kvs => smallRp kvs
def smallRs : List PyData → Bool
  | [] => true
  | x :: xs => cond (smallR x) (smallRs xs) false
def smallRp : List (PyData × PyData) → Bool
  | [] => true
  | (k, v) :: r => cond (smallR k) (cond (smallR v) (smallRp r) false) false
end
mutual
theorem small_ok : ∀ d : PyData, smallR d = true → d.leavesShort 13 = true ∧ d.showable = true
  | .none, _ => ⟨rfl, rfl⟩
  | .bool _, _ => ⟨rfl, rfl⟩
  | .int i, h => by
    have h : Nat.blt i.natAbs 1000000000000 = true := by simpa [smallR] using h
    have h := blt_lt h
    refine ⟨?_, ?_⟩
    · simp only [PyData.leavesShort, decide_eq_true_eq]
      exact PyData.shown_int_le (by omega)
    · simp only [PyData.showable, decide_eq_true_eq]
      have : i.natAbs.log2 < 1920 := by
        by_cases z : i.natAbs = 0
        · rw [z]; decide
        · rw [Nat.log2_lt z]
          exact Nat.lt_of_lt_of_le h (Nat.le_trans (by decide : 1000000000000 ≤ 2 ^ 40) (Nat.pow_le_pow_right (by decide) (by decide)))
      exact this
  | .str x, h => by
    have h : (x.cps.toList.all fun c => Nat.blt c 1114112) = true := by simpa [smallR] using h
    refine ⟨?_, rfl⟩
    simp only [PyData.leavesShort, List.all_eq_true, decide_eq_true_eq]
    intro c hc
    have := blt_lt (List.all_eq_true.mp h c hc)
    have e : (16 : Nat) ^ 8 = 4294967296 := by decide
    omega
  | .list xs, h => by
    obtain ⟨a, b⟩ := smalls_ok xs (by simpa [smallR] using h)
    exact ⟨by simpa only [PyData.leavesShort] using a, by simpa only [PyData.showable] using b⟩
  | .tuple xs, h => by
    obtain ⟨a, b⟩ := smalls_ok xs (by simpa [smallR] using h)
    exact ⟨by simpa only [PyData.leavesShort] using a, by simpa only [PyData.showable] using b⟩
  | .dict kvs, h => by
    obtain ⟨a, b⟩ := smallp_ok kvs (by simpa [smallR] using h)
    exact ⟨by simpa only [PyData.leavesShort] using a, by simpa only [PyData.showable] using b⟩
theorem smalls_ok : ∀ xs : List PyData, smallRs xs = true → PyData.leavesShortAll 13 xs = true ∧ PyData.showableAll xs = true
  | [], _ => ⟨rfl, rfl⟩
  | x :: xs, h => by
    obtain ⟨h1, h2⟩ := cond_t (by simpa [smallRs] using h : cond (smallR x) (smallRs xs) false = true)
    obtain ⟨a, b⟩ := small_ok x h1
    obtain ⟨c, d⟩ := smalls_ok xs h2
    exact ⟨by simp only [PyData.leavesShortAll, a, c, Bool.and_self], by simp only [PyData.showableAll, b, d, Bool.and_self]⟩
theorem smallp_ok : ∀ xs : List (PyData × PyData), smallRp xs = true → PyData.leavesShortKv 13 xs = true ∧ PyData.showableKv xs = true
  | [], _ => ⟨rfl, rfl⟩
  | (k, v) :: xs, h => by
    obtain ⟨h1, h2⟩ := cond_t (by simpa [smallRp] using h : cond (smallR k) (cond (smallR v) (smallRp xs) false) false = true)
    obtain ⟨h2, h3⟩ := cond_t h2
    obtain ⟨a, b⟩ := small_ok k h1
    obtain ⟨a', b'⟩ := small_ok v h2
    obtain ⟨c, d⟩ := smallp_ok xs h3
    exact ⟨by simp only [PyData.leavesShortKv, a, a', c, Bool.and_self], by simp only [PyData.showableKv, b, b', d, Bool.and_self]⟩
end
mutual
/-- no list, no dict within -/
def noLst : PyData → Bool
  | .list _ => false
  | .dict _ => false
  | .tuple xs => noLsts xs
  | _ => true
def noLsts : List PyData → Bool
  | [] => true
  | x :: xs => cond (noLst x) (noLsts xs) false
end
mutual
theorem reads_nil {h : Heap} : ∀ (d : PyData) (v : Value) (as : List Addr), Reads h v d as → noLst d = true → as = []
  | .none, _, _, r, _ => by cases r; rfl
  | .bool _, _, _, r, _ => by cases r; rfl
  | .int _, _, _, r, _ => by cases r; rfl
  | .str _, _, _, r, _ => by cases r; rfl
  | .list _, _, _, _, n => by simp [noLst] at n
  | .dict _, _, _, _, n => by simp [noLst] at n
  | .tuple xs, _, _, r, n => by
    cases r with
    | tuple h1 h2 h3 h4 => exact readss_nil xs _ _ h4 (by simpa [noLst] using n)
theorem readss_nil {h : Heap} : ∀ (ds : List PyData) (vs : List Value) (as : List Addr), ReadsAll h vs ds as → noLsts ds = true → as = []
  | [], _, _, r, _ => by cases r; rfl
  | d :: ds, _, _, r, n => by
    obtain ⟨n1, n2⟩ := cond_t (by simpa [noLsts] using n : cond (noLst d) (noLsts ds) false = true)
    cases r with
    | cons h1 h2 => rw [reads_nil d _ _ h1 n1, readss_nil ds _ _ h2 n2]; rfl
end
mutual
theorem noLst_dict : ∀ d : PyData, d.canLay0 = true → d.hasDict = false
  | .none, _ => rfl
  | .bool _, _ => rfl
  | .int _, _ => rfl
  | .str _, _ => rfl
  | .list xs, h => by simp only [PyData.hasDict]; exact noLsts_dict xs (by simpa only [PyData.canLay0] using h)
  | .tuple xs, h => by simp only [PyData.hasDict]; exact noLsts_dict xs (by simpa only [PyData.canLay0] using h)
  | .dict _, h => by simp [PyData.canLay0] at h
theorem noLsts_dict : ∀ ds : List PyData, PyData.canLayAll0 ds = true → PyData.hasDictAll ds = false
  | [], _ => rfl
  | d :: ds, h => by
    have h : d.canLay0 = true ∧ PyData.canLayAll0 ds = true := by simpa only [PyData.canLayAll0, Bool.and_eq_true] using h
    simp only [PyData.hasDictAll, noLst_dict d h.1, noLsts_dict ds h.2, Bool.or_self]
end
def keyD : Key → PyData
  | .inl i => .int i
  | .inr x => .str x
theorem key_reads {h : Heap} {k : Key} {v : Value} (e : keyIs k v = true) : Reads h v (keyD k) [] := by
  rcases keyIs_shape e with ⟨i, t, rfl, rfl⟩ | ⟨x, t, rfl, rfl⟩
  · exact .int i t
  · exact .str x t
theorem pairs_reads {P : Program} {w : World} {h : Heap} : ∀ {es : List DictEntry} {vs : List (Key × Value)} {kvs : List (Key × V)} {ds : List PyData}, Pairs (mixKind P w) es vs → KV kvs vs →
    (∀ us : List Value, Vals (kvs.map (·.2)) us → ∃ bs, ReadsAll h us ds bs) → noLsts ds = true → ReadsAll h (es.map (·.key)) (kvs.map fun p => keyD p.1) [] ∧ ReadsAll h (es.map (·.val)) ds [] := by
  have step : ∀ {es : List DictEntry} {vs : List (Key × Value)} {kvs : List (Key × V)}, Pairs (mixKind P w) es vs → KV kvs vs → ReadsAll h (es.map (·.key)) (kvs.map fun p => keyD p.1) [] ∧ Vals (kvs.map (·.2)) (es.map (·.val)) := by
    intro es vs kvs p
    induction p generalizing kvs with
    | nil =>
      intro k
      cases k
      exact ⟨.nil, .nil⟩
    | cons h1 h2 h3 ih =>
      intro k
      cases k with
      | cons r rr =>
        obtain ⟨a, b⟩ := ih rr
        obtain ⟨r1, r2⟩ := r
        refine ⟨?_, ?_⟩
        · have := ReadsAll.cons (key_reads (h := h) h1) a
          rw [← r1] at this
          exact this
        · refine .cons ?_ b
          show RelV _ (DictEntry.val _)
          rw [h2]
          exact r2
  intro es vs kvs ds p k r n
  obtain ⟨a, b⟩ := step p k
  obtain ⟨bs, q⟩ := r _ b
  have := readss_nil ds _ _ q n
  subst this
  exact ⟨a, q⟩
def rReprD (K : PySem.W.Frag) : List V → Hp → VK → Prop := fun vs H Q => ∃ (a : Addr) (d : PyData), vs = [.ref a] ∧ ((Dp K H (.ref a) d ∧ d.hasDict = false) ∨ ∃ (kvs : List (Key × V)) (ds : List PyData), Rd H a (.dK kvs) ∧ DpAll K H (kvs.map (·.2)) ds ∧ noLsts ds = true ∧ d = .dict ((kvs.map fun p => keyD p.1).zip ds) ∧ ds.length = kvs.length) ∧
  d.showable = true ∧ d.shown.length ≤ sizeLine ∧ d.depth ≤ 62 ∧ Q (.str d.shown) H
theorem cr_repr {X : Cx} (gd : X.A.guards = some []) (hu : X.A.units + 64 < cLine) : CallR X (.builtin "repr") (rReprD X.K) := by
  intro pins s σ H vs us Q I r h
  obtain ⟨a, d, rfl, hd, hs, hz, hp, q⟩ := h
  rw [Vals.ref1 r]
  have key : ∃ as, Reads s.heap (.ref a) d as ∧ (d.hasDict = true → sysModules ∉ as) := by
    rcases hd with ⟨hd, nd⟩ | ⟨kvs, ds, e, hv, hn, rfl, hl⟩
    · obtain ⟨as, hr⟩ := Dp.reads I d _ (.ref a) hd rfl
      exact ⟨as, hr, fun z => by rw [nd] at z; cases z⟩
    · obtain ⟨_, lo, vs, rel, o, es, ep, ho, hx, hdat, _, hp, _⟩ := dk_rd I.hok e
      obtain ⟨r1, r2⟩ := pairs_reads (h := s.heap) hp rel (fun us hu => Dp.readsAll I ds _ us hv hu) hn
      have e1 : ((kvs.map fun p => keyD p.1).zip ds).map (·.1) = kvs.map fun p => keyD p.1 := List.map_fst_zip (by rw [List.length_map]; omega)
      have e2 : ((kvs.map fun p => keyD p.1).zip ds).map (·.2) = ds := List.map_snd_zip (by rw [List.length_map]; omega)
      refine ⟨_, Reads.dict ho hx.1 hdat (by rw [e1]; exact r1) (by rw [e2]; exact r2), fun _ hm => ?_⟩
      have hm : sysModules ∈ [a] := by simpa using hm
      have := List.mem_singleton.mp hm
      rw [this] at lo
      simp at lo
  obtain ⟨as, hr, hsm⟩ := key
  refine PySem.repr_of_reads' hr hs hsm gd (by omega) (fun b o e => e) (fun h' u tk hk => ?_) hz
  exact ⟨.str d.shown, H, I.kept hk, ⟨u, rfl⟩, q⟩
def keyOfW : W → Option PyData
  | .int i => some (.int i)
  | .str x => some (.str ⟨x.toArray⟩)
  | _ => none
def valsW : List (W × W) → List W := fun kvs => kvs.map (·.2)
def keysOf : List (W × W) → List PyData
  | [] => []
  | (k, _) :: r => match keyOfW k with
    | some d => d :: keysOf r
    | none => .none :: keysOf r
def rdP (h : Hs) (w : W) : Option PyData := match w with
  | .tup ws => rdD 60 h (.tup ws)
  | .loc n => match h.get n with
    | some (.lst ws) => rdD 60 h (.loc n)
    | some (.dct false kvs _) => match mapO (rdD 60 h) (valsW kvs) with
      | some ds => cond (noLsts ds) (some (.dict ((keysOf kvs).zip ds))) none
      | none => none
    | _ => none
  | _ => none
def fRepr : List W → Hs → Out W
  | [w], h => orBad (rdP h w) fun d => cond (smallR d) (cond (Nat.ble d.weight 1000000) (cond (Nat.ble d.depth 62) (.ok (.rep d) h) .bad) .bad) .bad
  | _, _ => .bad
section
variable {C : Cn} {m : List Addr} {H : Hp} {h : Hs} {X : Cx} {E : XK}
theorem rd_keys : ∀ {kvs : List (W × W)} {ks : List (Key × V)}, RD keyW m H kvs ks → keysOf kvs = ks.map fun p => keyD p.1
  | [], _, r => by cases r; rfl
  | (k, w) :: kvs, _, r => by
    obtain ⟨k', v, rs, rfl, h1, _, h3⟩ := r
    have ih := rd_keys h3
    match k, h1 with
    | .int i, h1 =>
      cases h1
      show PyData.int i :: keysOf kvs = _
      rw [ih]
      rfl
    | .str x, h1 =>
      cases h1
      show PyData.str ⟨x.toArray⟩ :: keysOf kvs = _
      rw [ih]
      rfl
theorem rd_vals : ∀ {kvs : List (W × W)} {ks : List (Key × V)}, RD keyW m H kvs ks → RVs m H (valsW kvs) (ks.map (·.2))
  | [], _, r => by cases r; exact rfl
  | (k, w) :: kvs, _, r => by
    obtain ⟨k', v, rs, rfl, _, h2, h3⟩ := r
    exact ⟨v, _, rfl, h2, rd_vals h3⟩
theorem rdDs_ok (r : C.rh m h H) {ws : List W} {ds : List PyData} {xs : List V} (e : mapO (rdD 60 h) ws = some ds) (rv : RVs m H ws xs) : DpAll C.K H xs ds :=
  (rdDs (K := C.K) (rdD_ok r C.K 60) ws ds xs e rv).1
theorem mapO_len {α β : Type} {f : α → Option β} : ∀ {xs : List α} {ys : List β}, mapO f xs = some ys → ys.length = xs.length
  | [], _, e => by cases e; rfl
  | x :: xs, _, e => by
    obtain ⟨y, ys, rfl, _, e2⟩ := mapO_cons e
    rw [List.length_cons, List.length_cons, mapO_len e2]
theorem cd_repr : CallD C E (rReprD C.K) fRepr := by
  intro m h H ws vs Q k1 rv p
  match ws, p, rv with
  | [w], p, rv =>
    obtain ⟨v, rfl, r⟩ := rv.one
    obtain ⟨d, e, p⟩ := orBad_of p
    obtain ⟨c1, p⟩ := cond_of p
    obtain ⟨c2, p⟩ := cond_of p
    obtain ⟨c3, p⟩ := cond_of p
    obtain ⟨s1, s2⟩ := small_ok d c1
    have hz : d.shown.length ≤ sizeLine := PyData.shown_fits (by decide) (by decide) s1 (Nat.le_trans (Nat.le_of_ble_eq_true c2) (by decide))
    have hdp := Nat.le_of_ble_eq_true c3
    have q : Q (.str d.shown) H := post_ok (w := .rep d) k1 p rfl
    match w, e, r with
    | .tup ws, e, r =>
      have e : rdD 60 h (.tup ws) = some d := e
      obtain ⟨a1, a2, a3⟩ := rdD_ok k1 C.K 60 _ d v e r
      obtain ⟨a, xs, rfl, _, _⟩ := r
      exact ⟨a, d, rfl, .inl ⟨a1, noLst_dict d a2⟩, s2, hz, hdp, q⟩
    | .loc n, e, r =>
      unfold rdP at e
      cases e0 : h.get n with
      | none => simp only [e0] at e; cases e
      | some o =>
        simp only [e0] at e
        cases o with
        | lst ws =>
          obtain ⟨a1, a2, a3⟩ := rdD_ok k1 C.K 60 _ d v e r
          obtain ⟨a, _, rfl⟩ := r
          exact ⟨a, d, rfl, .inl ⟨a1, noLst_dict d a2⟩, s2, hz, hdp, q⟩
        | ins _ _ => cases e
        | opq _ => cases e
        | dct t kvs lk =>
          cases t with
          | true => cases e
          | false =>
            cases e1 : mapO (rdD 60 h) (valsW kvs) with
            | none => simp only [e1] at e; cases e
            | some ds =>
              simp only [e1] at e
              cases hn : noLsts ds with
              | false => rw [hn] at e; cases e
              | true =>
                rw [hn] at e
                cases e
                obtain ⟨a, ks, rfl, _, q1, _, _, q2⟩ := dct_of k1 e0 r
                have hv := rd_vals q2
                refine ⟨a, _, rfl, .inr ⟨ks, ds, q1, rdDs_ok k1 e1 hv, hn, by rw [rd_keys q2], ?_⟩, s2, hz, hdp, q⟩
                have := mapO_len e1
                have := hv.length
                rw [List.length_map] at this
                omega
end
end Vz
end
noncomputable section
namespace K02
open PySem PySem.Spec PyProof.Rows L2
def top (i : Nat) : Stmt := PySem.Challenge.pw_likeboughs_k02_trees_of_a_size.main.body.getD i (.Pass ⟨0, 0, 0, 0⟩)
abbrev s_row_counts : Stmt := top 6
theorem sc_row_counts : FnScope ["signs", "most", "counts", "size", "brothers", "_", "sign", "ahead"] ["signs", "most"] (defScope s_row_counts) := ⟨rfl, rfl, rfl, by decide +kernel, rfl, by decide +kernel, by decide +kernel⟩
abbrev s_rows_with : Stmt := top 7
theorem sc_rows_with : FnScope ["signs", "counts", "brothers", "places", "known", "rows", "ahead", "ends", "heads", "head", "end"] ["signs", "counts", "brothers", "places", "known"] (defScope s_rows_with) := ⟨rfl, rfl, rfl, by decide +kernel, rfl, by decide +kernel, by decide +kernel⟩
abbrev s_grown : Stmt := top 8
theorem sc_grown : FnScope ["signs", "counts", "size", "known", "sign", "row"] ["signs", "counts", "size", "known"] (defScope s_grown) := ⟨rfl, rfl, rfl, by decide +kernel, rfl, by decide +kernel, by decide +kernel⟩
abbrev s_is_integer : Stmt := top 11
theorem sc_is_integer : FnScope ["thing"] ["thing"] (defScope s_is_integer) := ⟨rfl, rfl, rfl, by decide +kernel, rfl, by decide +kernel, by decide +kernel⟩
abbrev s_is_between : Stmt := top 12
theorem sc_is_between : FnScope ["thing", "least", "most"] ["thing", "least", "most"] (defScope s_is_between) := ⟨rfl, rfl, rfl, by decide +kernel, rfl, by decide +kernel, by decide +kernel⟩
abbrev s_is_name : Stmt := top 13
theorem sc_is_name : FnScope ["thing", "letter"] ["thing"] (defScope s_is_name) := ⟨rfl, rfl, rfl, by decide +kernel, rfl, by decide +kernel, by decide +kernel⟩
abbrev s_is_signs : Stmt := top 19
theorem sc_is_signs : FnScope ["thing", "sign"] ["thing"] (defScope s_is_signs) := ⟨rfl, rfl, rfl, by decide +kernel, rfl, by decide +kernel, by decide +kernel⟩
abbrev s_check_signs : Stmt := top 20
theorem sc_check_signs : FnScope ["signs"] ["signs"] (defScope s_check_signs) := ⟨rfl, rfl, rfl, by decide +kernel, rfl, by decide +kernel, by decide +kernel⟩
abbrev s_trees_of_size : Stmt := top 21
theorem sc_trees_of_size : FnScope ["signs", "size", "counts"] ["signs", "size"] (defScope s_trees_of_size) := ⟨rfl, rfl, rfl, by decide +kernel, rfl, by decide +kernel, by decide +kernel⟩
abbrev s_law_pen : Stmt := top 23
theorem sc_law_pen : FnScope ["script"] ["script"] (defScope s_law_pen) := ⟨rfl, rfl, rfl, by decide +kernel, rfl, by decide +kernel, by decide +kernel⟩
abbrev s_law_next : Stmt := top 24
theorem sc_law_next : FnScope ["pen", "index", "cell_here", "some", "more", "high"] ["pen"] (defScope s_law_next) := ⟨rfl, rfl, rfl, by decide +kernel, rfl, by decide +kernel, by decide +kernel⟩
abbrev s_law_draw : Stmt := top 25
theorem sc_law_draw : FnScope ["pen", "under", "digit"] ["pen", "under"] (defScope s_law_draw) := ⟨rfl, rfl, rfl, by decide +kernel, rfl, by decide +kernel, by decide +kernel⟩
abbrev s_law_spans : Stmt := top 26
theorem sc_law_spans : FnScope ["total", "many", "found", "first", "rest"] ["total", "many"] (defScope s_law_spans) := ⟨rfl, rfl, rfl, by decide +kernel, rfl, by decide +kernel, by decide +kernel⟩
abbrev s_law_trees : Stmt := top 27
theorem sc_law_trees : FnScope ["signs", "most", "found", "total", "here", "sign", "sizes", "rows", "one", "longer", "row", "tree"] ["signs", "most"] (defScope s_law_trees) := ⟨rfl, rfl, rfl, by decide +kernel, rfl, by decide +kernel, by decide +kernel⟩
abbrev s_law_signs : Stmt := top 28
theorem sc_law_signs : FnScope ["pen", "pool"] ["pen"] (defScope s_law_signs) := ⟨rfl, rfl, rfl, by decide +kernel, rfl, by decide +kernel, by decide +kernel⟩
abbrev s_law_is_refused : Stmt := top 29
theorem sc_law_is_refused : FnScope ["signs", "size_here", "is_so"] ["signs", "size_here"] (defScope s_law_is_refused) := ⟨rfl, rfl, rfl, by decide +kernel, rfl, by decide +kernel, by decide +kernel⟩
abbrev s_law_typed_right : Stmt := top 30
theorem sc_law_typed_right : FnScope ["way", "lap", "wide"] [] (defScope s_law_typed_right) := ⟨rfl, rfl, rfl, by decide +kernel, rfl, by decide +kernel, by decide +kernel⟩
abbrev s_law : Stmt := top 31
theorem sc_law : FnScope ["script", "pen", "lap", "signs", "every", "kept", "total", "again", "found"] ["script"] (defScope s_law) := ⟨rfl, rfl, rfl, by decide +kernel, rfl, by decide +kernel, by decide +kernel⟩
structure Ad where
  ca : Nat → Addr
  f_row_counts : Addr
  fd_row_counts : FuncData
  f_rows_with : Addr
  fd_rows_with : FuncData
  f_grown : Addr
  fd_grown : FuncData
  f_is_integer : Addr
  fd_is_integer : FuncData
  f_is_between : Addr
  fd_is_between : FuncData
  f_is_name : Addr
  fd_is_name : FuncData
  f_is_signs : Addr
  fd_is_signs : FuncData
  f_check_signs : Addr
  fd_check_signs : FuncData
  f_trees_of_size : Addr
  fd_trees_of_size : FuncData
  f_law_pen : Addr
  fd_law_pen : FuncData
  f_law_next : Addr
  fd_law_next : FuncData
  f_law_draw : Addr
  fd_law_draw : FuncData
  f_law_spans : Addr
  fd_law_spans : FuncData
  f_law_trees : Addr
  fd_law_trees : FuncData
  f_law_signs : Addr
  fd_law_signs : FuncData
  f_law_is_refused : Addr
  fd_law_is_refused : FuncData
  f_law_typed_right : Addr
  fd_law_typed_right : FuncData
  f_law : Addr
  fd_law : FuncData
  t_LONGEST_NAME : Tok
  t_MOST_SIGNS : Tok
  t_MOST_BROTHERS : Tok
  t_MOST_SIZE : Tok
  t_MOST_TREES : Tok
structure XCls (K : PySem.W.Frag) (mg : Str → Option Value) (x : Str) (c : Addr) : Prop where
  mg : mg x = some (.ref c)
  kp : PySem.W.keepIn K (.ref c) = true
  ex : PySem.W.excIn K c [.type "ValueError", .type "Exception", .type "BaseException", .type "object"] "ValueError.__new__" = true
  rs1 : PySem.W.subIn K (.ref c) (.type "BaseException") = some true
  rs2 : PySem.W.typeIn K (.ref c) = some (.type "type")
theorem XCls.rs {K : PySem.W.Frag} {mg : Str → Option Value} {x : Str} {c : Addr} (h : XCls K mg x c) {X : Cx} (hK : X.K = K := by rfl) : Raises X (.ref c) := by
  subst hK
  exact raises_own h.rs1 h.rs2
structure Txt (K : PySem.W.Frag) (mg : Str → Option Value) (A : Ad) : Prop where
  m_row_counts : mg "row_counts" = some (.ref A.f_row_counts)
  F_row_counts : Fun K "row_counts" "row_counts" s_row_counts A.f_row_counts A.fd_row_counts
  b_row_counts : Binds K A.fd_row_counts ["signs", "most"] []
  m_rows_with : mg "rows_with" = some (.ref A.f_rows_with)
  F_rows_with : Fun K "rows_with" "rows_with" s_rows_with A.f_rows_with A.fd_rows_with
  b_rows_with : Binds K A.fd_rows_with ["signs", "counts", "brothers", "places", "known"] []
  m_grown : mg "grown" = some (.ref A.f_grown)
  F_grown : Fun K "grown" "grown" s_grown A.f_grown A.fd_grown
  b_grown : Binds K A.fd_grown ["signs", "counts", "size", "known"] []
  m_is_integer : mg "is_integer" = some (.ref A.f_is_integer)
  F_is_integer : Fun K "is_integer" "is_integer" s_is_integer A.f_is_integer A.fd_is_integer
  b_is_integer : Binds K A.fd_is_integer ["thing"] []
  m_is_between : mg "is_between" = some (.ref A.f_is_between)
  F_is_between : Fun K "is_between" "is_between" s_is_between A.f_is_between A.fd_is_between
  b_is_between : Binds K A.fd_is_between ["thing", "least", "most"] []
  m_is_name : mg "is_name" = some (.ref A.f_is_name)
  F_is_name : Fun K "is_name" "is_name" s_is_name A.f_is_name A.fd_is_name
  b_is_name : Binds K A.fd_is_name ["thing"] []
  m_is_signs : mg "is_signs" = some (.ref A.f_is_signs)
  F_is_signs : Fun K "is_signs" "is_signs" s_is_signs A.f_is_signs A.fd_is_signs
  b_is_signs : Binds K A.fd_is_signs ["thing"] []
  m_check_signs : mg "check_signs" = some (.ref A.f_check_signs)
  F_check_signs : Fun K "check_signs" "check_signs" s_check_signs A.f_check_signs A.fd_check_signs
  b_check_signs : Binds K A.fd_check_signs ["signs"] []
  m_trees_of_size : mg "trees_of_size" = some (.ref A.f_trees_of_size)
  F_trees_of_size : Fun K "trees_of_size" "trees_of_size" s_trees_of_size A.f_trees_of_size A.fd_trees_of_size
  b_trees_of_size : Binds K A.fd_trees_of_size ["signs", "size"] []
  m_law_pen : mg "_law_pen" = some (.ref A.f_law_pen)
  F_law_pen : Fun K "_law_pen" "_law_pen" s_law_pen A.f_law_pen A.fd_law_pen
  b_law_pen : Binds K A.fd_law_pen ["script"] []
  m_law_next : mg "_law_next" = some (.ref A.f_law_next)
  F_law_next : Fun K "_law_next" "_law_next" s_law_next A.f_law_next A.fd_law_next
  b_law_next : Binds K A.fd_law_next ["pen"] []
  m_law_draw : mg "_law_draw" = some (.ref A.f_law_draw)
  F_law_draw : Fun K "_law_draw" "_law_draw" s_law_draw A.f_law_draw A.fd_law_draw
  b_law_draw : Binds K A.fd_law_draw ["pen", "under"] []
  m_law_spans : mg "_law_spans" = some (.ref A.f_law_spans)
  F_law_spans : Fun K "_law_spans" "_law_spans" s_law_spans A.f_law_spans A.fd_law_spans
  b_law_spans : Binds K A.fd_law_spans ["total", "many"] []
  m_law_trees : mg "_law_trees" = some (.ref A.f_law_trees)
  F_law_trees : Fun K "_law_trees" "_law_trees" s_law_trees A.f_law_trees A.fd_law_trees
  b_law_trees : Binds K A.fd_law_trees ["signs", "most"] []
  m_law_signs : mg "_law_signs" = some (.ref A.f_law_signs)
  F_law_signs : Fun K "_law_signs" "_law_signs" s_law_signs A.f_law_signs A.fd_law_signs
  b_law_signs : Binds K A.fd_law_signs ["pen"] []
  m_law_is_refused : mg "_law_is_refused" = some (.ref A.f_law_is_refused)
  F_law_is_refused : Fun K "_law_is_refused" "_law_is_refused" s_law_is_refused A.f_law_is_refused A.fd_law_is_refused
  b_law_is_refused : Binds K A.fd_law_is_refused ["signs", "size_here"] []
  m_law_typed_right : mg "_law_typed_right" = some (.ref A.f_law_typed_right)
  F_law_typed_right : Fun K "_law_typed_right" "_law_typed_right" s_law_typed_right A.f_law_typed_right A.fd_law_typed_right
  b_law_typed_right : Binds K A.fd_law_typed_right [] []
  m_law : mg "law" = some (.ref A.f_law)
  F_law : Fun K "law" "law" s_law A.f_law A.fd_law
  b_law : Binds K A.fd_law ["script"] []
  z_len : mg "len" = none
  z_isinstance : mg "isinstance" = none
  z_all : mg "all" = none
  z_sum : mg "sum" = none
  z_repr : mg "repr" = none
  z_int : mg "int" = none
  z_list : mg "list" = none
  z_str : mg "str" = none
  z_dict : mg "dict" = none
  z_bool : mg "bool" = none
  z_range : mg "range" = none
  z_sorted : mg "sorted" = none
  c_LONGEST_NAME : mg "LONGEST_NAME" = some (.int 8 A.t_LONGEST_NAME)
  c_MOST_SIGNS : mg "MOST_SIGNS" = some (.int 8 A.t_MOST_SIGNS)
  c_MOST_BROTHERS : mg "MOST_BROTHERS" = some (.int 3 A.t_MOST_BROTHERS)
  c_MOST_SIZE : mg "MOST_SIZE" = some (.int 40 A.t_MOST_SIZE)
  c_MOST_TREES : mg "MOST_TREES" = some (.int 1000 A.t_MOST_TREES)
  x_TooMany : XCls K mg "TooMany" (A.ca 0)
  e_TooMany : PySem.W.exmOne K (.ref (A.ca 0)) (.ref (A.ca 0)) = some true
end K02
end
noncomputable section
namespace Vz
open PySem PySem.Spec PyProof.Rows L2
theorem ds_bad {C : Cn} {X : Cx} {E : XK} {st : Stmt} : PS X st (tDS C E fun _ _ => .bad) := ⟨fun pins s σ H D I ⟨m, ρ, h, r1, r2, p⟩ => p.elim⟩
def dsBad : DS := fun _ _ => .bad
theorem cc0 {K : PySem.W.Frag} {ca : Nat → Addr} {cl : Value} (h : PySem.W.exmOne K (.ref (ca 0)) cl = some true) : ∀ (c : Nat) (y : Bool), (Nat.rec (some true) (fun _ _ => none) c : Option Bool) = some y → PySem.W.exmOne K (.ref (ca c)) cl = some y := by
  intro c y e
  cases c with
  | zero => cases e; exact h
  | succ c => cases e
end Vz
namespace K02
open PySem PySem.Spec PyProof.Rows L2 Vz
variable {P : Program} {w : World} {K : PySem.W.Frag} {mg : Str → Option Value} {base : Heap} {A : Ad} {an : Nat → Str} {oq : Nat → List V}

def D_is_integer : DS := (dsRet (dAnd (dCal (fIsi "int") (dCons (dV 0) dNil)) (dNot (dCal (fIsi "bool") (dCons (dV 0) dNil)))))
def F_is_integer : DF := runB 1 D_is_integer
theorem ok_is_integer (T : Txt K mg A) : FnOk P w K mg base (L2.CX P w) 1 A.f_is_integer A.fd_is_integer ["thing"] (spD ⟨K, A.ca, an, oq⟩ 1 F_is_integer) := fn_ok T.F_is_integer sc_is_integer rfl rfl fun cdv Ar outer s H E hr =>
  (dss_one (ds_ret (de_and (de_isi (T := "int") rfl (by rfl) T.z_isinstance (de_v (pv 0)) (pe_bltn (v := .ty "int") (by rfl) T.z_int (by decide +kernel) rfl)) (de_one (de_not (de_isi (T := "bool") rfl (by rfl) T.z_isinstance (de_v (pv 0)) (pe_bltn (v := .ty "bool") (by rfl) T.z_bool (by decide +kernel) rfl)))))))

def D_is_between : DS := (dsRet (dAnd (dCall 1 F_is_integer [] (dCons (dV 0) dNil)) (dChain (oCmp (fun i j => !ltI j i) (fun i j => !ltNs j i)) (oCmp (fun i j => !ltI j i) (fun i j => !ltNs j i)) (dV 1) (dV 0) (dV 2))))
def F_is_between : DF := runB 3 D_is_between
theorem ok_is_between (T : Txt K mg A) : FnOk P w K mg base (L2.CX P w) 2 A.f_is_between A.fd_is_between ["thing", "least", "most"] (spD ⟨K, A.ca, an, oq⟩ 3 F_is_between) := fn_ok T.F_is_between sc_is_between rfl rfl fun cdv Ar outer s H E hr =>
  (dss_one (ds_ret (de_and (de_call (dws := []) (dvs := []) (ok_is_integer T) (hr.mono (by first | decide | omega)) pass_body (by rfl) T.m_is_integer T.F_is_integer.kp T.b_is_integer .nil (fun _ _ => rfl) (da_cons (de_v (pv 0)) da_nil)) (de_one (de_chain op_leE op_leE bo_cmp od_cmp od_cmp (de_v (pv 1)) (de_v (pv 0)) (de_v (pv 2)))))))

def D_is_name : DS := (dsSeq (dsIf (dTor (dTnot (dTb (dCal (fIsi "str") (dCons (dV 0) dNil)))) (dTnot (dTb (dChain (oCmp (fun i j => !ltI j i) (fun i j => !ltNs j i)) (oCmp (fun i j => !ltI j i) (fun i j => !ltNs j i)) (dC (.int 1)) (dCal fLen (dCons (dV 0) dNil)) (dC (.int 8)))))) (dsRet (dC (.bl false))) dsNext)
  (dsRet (dCal (fAll fun ns => ns.all id) (dCons (dLc (diSeq (dV 0)) (dgN 1) dtYes (dChain (oCmp (fun i j => !ltI j i) (fun i j => !ltNs j i)) (oCmp (fun i j => !ltI j i) (fun i j => !ltNs j i)) (dC (.str [97])) (dV 1) (dC (.str [122]))) [1]) dNil))))
def F_is_name : DF := runB 2 D_is_name
theorem ok_is_name (T : Txt K mg A) : FnOk P w K mg base (L2.CX P w) 1 A.f_is_name A.fd_is_name ["thing"] (spD ⟨K, A.ca, an, oq⟩ 1 F_is_name) := fn_ok T.F_is_name sc_is_name rfl rfl fun cdv Ar outer s H E hr =>
  (dss_cons (ds_if (PW.pt (dw_or (dt_not (dt_val (de_isi (T := "str") rfl (by rfl) T.z_isinstance (de_v (pv 0)) (pe_bltn (v := .ty "str") (by rfl) T.z_str (by decide +kernel) rfl)))) (dw_one' (dt_not (dt_chain op_leE op_leE bo_cmp od_cmp od_cmp de_int (de_callB (cr_len rfl) cd_len (by rfl) T.z_len (by decide +kernel) (da_cons (de_v (pv 0)) da_nil)) (pe_c (pe_glob (v := .int 8) rfl T.c_LONGEST_NAME ⟨_, rfl⟩) fun _ _ => rfl)))))) (dss_one (ds_ret de_bl)) dss_nil)
  (dss_one (ds_ret (de_callB (crD_all rfl rfl) cd_all (by rfl) T.z_all (by decide +kernel) (da_cons (de_lc (own := [("letter", 1)]) rfl sc_is_name.nd (di_seq rfl (de_v (pv 0))) (blkOk_by (own := [("letter", 1)]) (N := ["thing", "letter"]) (sc := defScope s_is_name) (by decide +kernel)) (fun _ _ _ _ _ => (dg_name (pg_name (i := 1) sc_is_name.nd rfl (Or.inl rfl)))) (fun _ _ _ _ _ => dts_nil) (fun _ _ _ _ _ => (de_chain op_leE op_leE bo_cmp od_cmp od_cmp (de_str (l := [97]) (by rfl)) (de_v (pv 1)) (de_str (l := [122]) (by rfl)))) (by decide)) da_nil)))))

def D_is_signs : DS := (dsSeq (dsIf (dTor (dTnot (dTb (dCal (fIsi "dict") (dCons (dV 0) dNil)))) (dTnot (dTb (dChain (oCmp (fun i j => !ltI j i) (fun i j => !ltNs j i)) (oCmp (fun i j => !ltI j i) (fun i j => !ltNs j i)) (dC (.int 1)) (dCal fLen (dCons (dV 0) dNil)) (dC (.int 8)))))) (dsRet (dC (.bl false))) dsNext)
  (dsRet (dCal (fAll fun ns => ns.all id) (dCons (dLock (whV 0) (dLc (diKeys (dV 0)) (dgN 1) dtYes (dAnd (dCall 1 F_is_name [] (dCons (dV 1) dNil)) (dCall 3 F_is_between [] (dCons (dDGet (dV 0) (dV 1)) (dCons (dC (.int 0)) (dCons (dC (.int 3)) dNil))))) [1])) dNil))))
def F_is_signs : DF := runB 2 D_is_signs
theorem ok_is_signs (T : Txt K mg A) : FnOk P w K mg base (L2.CX P w) 3 A.f_is_signs A.fd_is_signs ["thing"] (spD ⟨K, A.ca, an, oq⟩ 1 F_is_signs) := fn_ok T.F_is_signs sc_is_signs rfl rfl fun cdv Ar outer s H E hr =>
  (dss_cons (ds_if (PW.pt (dw_or (dt_not (dt_val (de_isi (T := "dict") rfl (by rfl) T.z_isinstance (de_v (pv 0)) (pe_bltn (v := .ty "dict") (by rfl) T.z_dict (by decide +kernel) rfl)))) (dw_one' (dt_not (dt_chain op_leE op_leE bo_cmp od_cmp od_cmp de_int (de_callB (cr_len rfl) cd_len (by rfl) T.z_len (by decide +kernel) (da_cons (de_v (pv 0)) da_nil)) (pe_c (pe_glob (v := .int 8) rfl T.c_MOST_SIGNS ⟨_, rfl⟩) fun _ _ => rfl)))))) (dss_one (ds_ret de_bl)) dss_nil)
  (dss_one (ds_ret (de_callB (crD_all rfl rfl) cd_all (by rfl) T.z_all (by decide +kernel) (da_cons (de_lock (whV 0) (de_lc (own := [("sign", 1)]) rfl sc_is_signs.nd (di_keys (de_v (pv 0))) (blkOk_by (own := [("sign", 1)]) (N := ["thing", "sign"]) (sc := defScope s_is_signs) (by decide +kernel)) (fun _ _ _ _ _ => (dg_name (pg_name (i := 1) sc_is_signs.nd rfl (Or.inl rfl)))) (fun _ _ _ _ _ => dts_nil) (fun _ _ _ _ _ => (de_and (de_call (dws := []) (dvs := []) (ok_is_name T) (hr.mono (by first | decide | omega)) passL (by rfl) T.m_is_name T.F_is_name.kp T.b_is_name .nil (fun _ _ => rfl) (da_cons (de_v (pv 1)) da_nil)) (de_one (de_call (dws := []) (dvs := []) (ok_is_between T) (hr.mono (by first | decide | omega)) passL (by rfl) T.m_is_between T.F_is_between.kp T.b_is_between .nil (fun _ _ => rfl) (da_cons (de_dget (hu_of hr) (de_v (pv 0)) (de_v (pv 1)) (fun _ _ => rfl)) (da_cons de_int (da_cons (pe_c (pe_glob (v := .int 3) rfl T.c_MOST_BROTHERS ⟨_, rfl⟩) fun _ _ => rfl) da_nil))))))) (by decide))) da_nil)))))

def D_check_signs : DS := (dsIf (dTnot (dTb (dCall 1 F_is_signs [] (dCons (dV 0) dNil)))) dsBad dsNext)
def F_check_signs : DF := runB 1 D_check_signs
theorem ok_check_signs (T : Txt K mg A) : FnOk P w K mg base (L2.CX P w) 4 A.f_check_signs A.fd_check_signs ["signs"] (spD ⟨K, A.ca, an, oq⟩ 1 F_check_signs) := fn_ok T.F_check_signs sc_check_signs rfl rfl fun cdv Ar outer s H E hr =>
  (dss_one (ds_if (dt_not (dt_val (de_call (dws := []) (dvs := []) (ok_is_signs T) (hr.mono (by first | decide | omega)) pass_body (by rfl) T.m_is_signs T.F_is_signs.kp T.b_is_signs .nil (fun _ _ => rfl) (da_cons (de_v (pv 0)) da_nil)))) (dss_one ds_bad) dss_nil))

def D_row_counts : DS := (dsSeq (dsSet (dLc (diRng1 (dCons (dC (.int 4)) dNil)) (dgN 5) dtYes (dOp opMul (dLst (dCons (dC (.int 0)) dNil)) (dOp opAdd (dV 1) (dC (.int 1)))) [5]) 2)
  (dsSeq (dsAsg (dC (.int 1)) (dgSub (dOp oIx (dV 2) (dC (.int 0))) (dC (.int 0))))
  (dsSeq (dsFor (diRng2 (dCons (dC (.int 1)) (dCons (dOp opAdd (dV 1) (dC (.int 1))) dNil))) (dgN 3) (dsSeq (dsAsg (dCal fSum (dCons (dLock (whV 0) (dLc (diKeys (dV 0)) (dgN 6) dtYes (dOp oIx (dOp oIx (dV 2) (dDGet (dV 0) (dV 6))) (dOp (oI gSubI) (dV 3) (dC (.int 1)))) [6])) dNil)) (dgSub (dOp oIx (dV 2) (dC (.int 1))) (dV 3)))
  (dsFor (diSeq (dTup (dCons (dC (.int 2)) (dCons (dC (.int 3)) dNil)))) (dgN 4) (dsAsg (dCal fSum (dCons (dLc (diRng2 (dCons (dC (.int 1)) (dCons (dV 3) dNil))) (dgN 7) dtYes (dOp opMul (dOp oIx (dOp oIx (dV 2) (dC (.int 1))) (dV 7)) (dOp oIx (dOp oIx (dV 2) (dOp (oI gSubI) (dV 4) (dC (.int 1)))) (dOp (oI gSubI) (dV 3) (dV 7)))) [7]) dNil)) (dgSub (dOp oIx (dV 2) (dV 4)) (dV 3))))))
  (dsRet (dV 2)))))
def F_row_counts : DF := runB 8 D_row_counts
theorem ok_row_counts (T : Txt K mg A) : FnOk P w K mg base (L2.CX P w) 1 A.f_row_counts A.fd_row_counts ["signs", "most"] (spD ⟨K, A.ca, an, oq⟩ 2 F_row_counts) := fn_ok T.F_row_counts sc_row_counts rfl rfl fun cdv Ar outer s H E hr =>
  (dss_cons (ds_set (ps_set (i := 2) sc_row_counts.nd rfl (by first | exact Or.inl rfl | exact Or.inr rfl) (de_lc (own := [("_", 5)]) rfl sc_row_counts.nd (di_rng1 (by rfl) T.z_range (da_cons de_int da_nil)) (blkOk_by (own := [("_", 5)]) (N := ["signs", "most", "counts", "size", "brothers", "_", "sign", "ahead"]) (sc := defScope s_row_counts) (by decide +kernel)) (fun _ _ _ _ _ => (dg_name (pg_name (i := 5) sc_row_counts.nd rfl (Or.inl rfl)))) (fun _ _ _ _ _ => dts_nil) (fun _ _ _ _ _ => (de_op op_mulD od_mul (de_lst (da_cons de_int da_nil)) (de_op (op_addD rfl) od_add (de_v (pv 1)) de_int))) (by decide))))
  (dss_cons (ds_asg de_int (dg_sub (de_ix (ix_D rfl) od_ix (de_v (pv 2)) de_int (fun _ _ => rfl)) de_int))
  (dss_cons (ds_for (passes_of rfl) rfl (di_rng2 (by rfl) T.z_range (da_cons de_int (da_cons (de_op (op_addD rfl) od_add (de_v (pv 1)) de_int) da_nil))) (dg_name (pg_name (i := 3) sc_row_counts.nd rfl (by first | exact Or.inl rfl | exact Or.inr rfl))) (dss_cons (ds_asg (de_callB (crD_sum rfl rfl) cd_sum (by rfl) T.z_sum (by decide +kernel) (da_cons (de_lock (whV 0) (de_lc (own := [("sign", 6)]) rfl sc_row_counts.nd (di_keys (de_v (pv 0))) (blkOk_by (own := [("sign", 6)]) (N := ["signs", "most", "counts", "size", "brothers", "_", "sign", "ahead"]) (sc := defScope s_row_counts) (by decide +kernel)) (fun _ _ _ _ _ => (dg_name (pg_name (i := 6) sc_row_counts.nd rfl (Or.inl rfl)))) (fun _ _ _ _ _ => dts_nil) (fun _ _ _ _ _ => (de_ix (ix_D rfl) od_ix (de_ix (ix_D rfl) od_ix (de_v (pv 2)) (de_dget (hu_of hr) (de_v (pv 0)) (de_v (pv 6)) (fun _ _ => rfl)) (fun _ _ => rfl)) (de_op op_subD od_sub (de_v (pv 3)) de_int) (fun _ _ => rfl))) (by decide))) da_nil)) (dg_sub (de_ix (ix_D rfl) od_ix (de_v (pv 2)) de_int (fun _ _ => rfl)) (de_v (pv 3))))
  (dss_one (ds_for (passes_of rfl) rfl (di_seq rfl (de_tup (da_cons de_int (da_cons de_int da_nil)))) (dg_name (pg_name (i := 4) sc_row_counts.nd rfl (by first | exact Or.inl rfl | exact Or.inr rfl))) (dss_one (ds_asg (de_callB (crD_sum rfl rfl) cd_sum (by rfl) T.z_sum (by decide +kernel) (da_cons (de_lc (own := [("ahead", 7)]) rfl sc_row_counts.nd (di_rng2 (by rfl) T.z_range (da_cons de_int (da_cons (de_v (pv 3)) da_nil))) (blkOk_by (own := [("ahead", 7)]) (N := ["signs", "most", "counts", "size", "brothers", "_", "sign", "ahead"]) (sc := defScope s_row_counts) (by decide +kernel)) (fun _ _ _ _ _ => (dg_name (pg_name (i := 7) sc_row_counts.nd rfl (Or.inl rfl)))) (fun _ _ _ _ _ => dts_nil) (fun _ _ _ _ _ => (de_op op_mulD od_mul (de_ix (ix_D rfl) od_ix (de_ix (ix_D rfl) od_ix (de_v (pv 2)) de_int (fun _ _ => rfl)) (de_v (pv 7)) (fun _ _ => rfl)) (de_ix (ix_D rfl) od_ix (de_ix (ix_D rfl) od_ix (de_v (pv 2)) (de_op op_subD od_sub (de_v (pv 4)) de_int) (fun _ _ => rfl)) (de_op op_subD od_sub (de_v (pv 3)) (de_v (pv 7))) (fun _ _ => rfl)))) (by decide)) da_nil)) (dg_sub (de_ix (ix_D rfl) od_ix (de_v (pv 2)) (de_v (pv 4)) (fun _ _ => rfl)) (de_v (pv 3)))))))))
  (dss_one (ds_ret (de_v (pv 2)))))))

def D_rows_with (RW GR : DF) : DS := (dsSeq (dsIf (dTb (dOp oEq (dOp oIx (dOp oIx (dV 1) (dV 2)) (dV 3)) (dC (.int 0)))) (dsRet (dLst dNil)) dsNext)
  (dsSeq (dsIf (dTb (dOp oEq (dV 2) (dC (.int 0)))) (dsRet (dLst (dCons (dTup dNil) dNil))) dsNext)
  (dsSeq (dsSet (dLst dNil) 5)
  (dsSeq (dsFor (diRng2 (dCons (dC (.int 1)) (dCons (dOp opAdd (dV 3) (dC (.int 1))) dNil))) (dgN 6) (dsIf (dTand (dTb (dOp (oCmpI fun i j => ltI j i) (dOp oIx (dOp oIx (dV 1) (dC (.int 1))) (dV 6)) (dC (.int 0)))) (dTb (dOp (oCmpI fun i j => ltI j i) (dOp oIx (dOp oIx (dV 1) (dOp (oI gSubI) (dV 2) (dC (.int 1)))) (dOp (oI gSubI) (dV 3) (dV 6))) (dC (.int 0))))) (dsSeq (dsSet (dCall 5 RW [] (dCons (dV 0) (dCons (dV 1) (dCons (dOp (oI gSubI) (dV 2) (dC (.int 1))) (dCons (dOp (oI gSubI) (dV 3) (dV 6)) (dCons (dV 4) dNil)))))) 7)
  (dsSeq (dsSet (dCall 4 GR [] (dCons (dV 0) (dCons (dV 1) (dCons (dV 6) (dCons (dV 4) dNil))))) 8)
  (dsDrop (dBM fExt (dV 5) (dCons (dLc2 (diSeq (dV 8)) (dgN 9) dtYes (diSeq (dV 7)) (dgN 10) dtYes (dTup (dCons (dV 9) (dStar (dV 10) dNil))) [9, 10] [10]) dNil))))) dsNext))
  (dsRet (dV 5))))))
theorem ok_rows_with (T : Txt K mg A) {k : Nat} {RW GR : DF} (hrw : FnOk P w K mg base (L2.CX P w) k A.f_rows_with A.fd_rows_with ["signs", "counts", "brothers", "places", "known"] (spD ⟨K, A.ca, an, oq⟩ 5 RW)) (hgr : FnOk P w K mg base (L2.CX P w) k A.f_grown A.fd_grown ["signs", "counts", "size", "known"] (spD ⟨K, A.ca, an, oq⟩ 4 GR)) : FnOk P w K mg base (L2.CX P w) (k + 1) A.f_rows_with A.fd_rows_with ["signs", "counts", "brothers", "places", "known"] (spD ⟨K, A.ca, an, oq⟩ 5 (runB 11 (D_rows_with RW GR))) := fn_ok T.F_rows_with sc_rows_with rfl rfl fun cdv Ar outer s H E hr =>
  (dss_cons (ds_if (dt_cmpR (op_eqE hr.units rfl) od_eq (de_ix (ix_D rfl) od_ix (de_ix (ix_D rfl) od_ix (de_v (pv 1)) (de_v (pv 2)) (fun _ _ => rfl)) (de_v (pv 3)) (fun _ _ => rfl)) de_int (nomark _)) (dss_one (ds_ret (de_lst da_nil))) dss_nil)
  (dss_cons (ds_if (dt_cmpR (op_eqE hr.units rfl) od_eq (de_v (pv 2)) de_int (nomark _)) (dss_one (ds_ret (de_lst (da_cons (de_tup da_nil) da_nil)))) dss_nil)
  (dss_cons (ds_set (ps_set (i := 5) sc_rows_with.nd rfl (by first | exact Or.inl rfl | exact Or.inr rfl) (de_lst da_nil)))
  (dss_cons (ds_for (passes_of rfl) rfl (di_rng2 (by rfl) T.z_range (da_cons de_int (da_cons (de_op (op_addD rfl) od_add (de_v (pv 3)) de_int) da_nil))) (dg_name (pg_name (i := 6) sc_rows_with.nd rfl (by first | exact Or.inl rfl | exact Or.inr rfl))) (dss_one (ds_if (PW.pt (dw_and (dt_cmpR op_gtE od_cmpI (de_ix (ix_D rfl) od_ix (de_ix (ix_D rfl) od_ix (de_v (pv 1)) de_int (fun _ _ => rfl)) (de_v (pv 6)) (fun _ _ => rfl)) de_int (nomark _)) (dw_one (op := true) (dt_cmpR op_gtE od_cmpI (de_ix (ix_D rfl) od_ix (de_ix (ix_D rfl) od_ix (de_v (pv 1)) (de_op op_subD od_sub (de_v (pv 2)) de_int) (fun _ _ => rfl)) (de_op op_subD od_sub (de_v (pv 3)) (de_v (pv 6))) (fun _ _ => rfl)) de_int (nomark _))))) (dss_cons (ds_set (ps_set (i := 7) sc_rows_with.nd rfl (by first | exact Or.inl rfl | exact Or.inr rfl) (de_call (dws := []) (dvs := []) hrw (hr.mono (by first | decide | omega)) pass_body (by rfl) T.m_rows_with T.F_rows_with.kp T.b_rows_with .nil (fun _ _ => rfl) (da_cons (de_v (pv 0)) (da_cons (de_v (pv 1)) (da_cons (de_op op_subD od_sub (de_v (pv 2)) de_int) (da_cons (de_op op_subD od_sub (de_v (pv 3)) (de_v (pv 6))) (da_cons (de_v (pv 4)) da_nil))))))))
  (dss_cons (ds_set (ps_set (i := 8) sc_rows_with.nd rfl (by first | exact Or.inl rfl | exact Or.inr rfl) (de_call (dws := []) (dvs := []) hgr (hr.mono (by first | decide | omega)) pass_body (by rfl) T.m_grown T.F_grown.kp T.b_grown .nil (fun _ _ => rfl) (da_cons (de_v (pv 0)) (da_cons (de_v (pv 1)) (da_cons (de_v (pv 6)) (da_cons (de_v (pv 4)) da_nil)))))))
  (dss_one (ds_expr (de_bm rfl PySem.F.plainAttrs_list PySem.F.slot_list_extend PySem.F.type_list_extend (mt_ext rfl) bd_ext (de_v (pv 5)) (da_cons (de_lc2 (own := [("head", 9), ("end", 10)]) rfl sc_rows_with.nd (di_seq rfl (de_v (pv 8))) (blkOk_by (own := [("head", 9), ("end", 10)]) (N := ["signs", "counts", "brothers", "places", "known", "rows", "ahead", "ends", "heads", "head", "end"]) (sc := defScope s_rows_with) (by decide +kernel)) (vs1 := [10]) (by decide) (fun _ _ _ _ _ => (dg_name (pg_name (i := 9) sc_rows_with.nd rfl (Or.inl rfl)))) (fun _ _ _ _ _ => dts_nil) (fun _ _ _ _ _ => (di_seq rfl (de_v (pv 7)))) (fun _ _ _ _ _ => (dg_name (pg_name (i := 10) sc_rows_with.nd rfl (Or.inl rfl)))) (fun _ _ _ _ _ => dts_nil) (fun _ _ _ _ _ => (de_tup (da_cons (de_v (pv 9)) (da_star (de_v (pv 10)) da_nil)))) (by decide) (by decide)) da_nil)))))) dss_nil)))
  (dss_one (ds_ret (de_v (pv 5))))))))

def D_grown (RW GR : DF) : DS := (dsSeq (dsIf (dTb (dDIn false (dV 2) (dV 3))) (dsDPut (dV 3) (dV 2) (dLock (whV 0) (dLc2 (diKeys (dV 0)) (dgN 4) dtYes (diSeq (dCall 5 RW [] (dCons (dV 0) (dCons (dV 1) (dCons (dDGet (dV 0) (dV 4)) (dCons (dOp (oI gSubI) (dV 2) (dC (.int 1))) (dCons (dV 3) dNil))))))) (dgN 5) dtYes (dTup (dCons (dV 4) (dStar (dV 5) dNil))) [4, 5] [5]))) dsNext)
  (dsRet (dDGet (dV 3) (dV 2))))
theorem ok_grown (T : Txt K mg A) {k : Nat} {RW GR : DF} (hrw : FnOk P w K mg base (L2.CX P w) k A.f_rows_with A.fd_rows_with ["signs", "counts", "brothers", "places", "known"] (spD ⟨K, A.ca, an, oq⟩ 5 RW)) (hgr : FnOk P w K mg base (L2.CX P w) k A.f_grown A.fd_grown ["signs", "counts", "size", "known"] (spD ⟨K, A.ca, an, oq⟩ 4 GR)) : FnOk P w K mg base (L2.CX P w) (k + 1) A.f_grown A.fd_grown ["signs", "counts", "size", "known"] (spD ⟨K, A.ca, an, oq⟩ 4 (runB 6 (D_grown RW GR))) := fn_ok T.F_grown sc_grown rfl rfl fun cdv Ar outer s H E hr =>
  (dss_cons (ds_if (dt_cmp (de_dnotin (hu_of hr) (de_v (pv 2)) (de_v (pv 3)))) (dss_one (ds_dput (hu_of hr) (de_v (pv 3)) (de_v (pv 2)) (de_lock (whV 0) (de_lc2 (own := [("sign", 4), ("row", 5)]) rfl sc_grown.nd (di_keys (de_v (pv 0))) (blkOk_by (own := [("sign", 4), ("row", 5)]) (N := ["signs", "counts", "size", "known", "sign", "row"]) (sc := defScope s_grown) (by decide +kernel)) (vs1 := [5]) (by decide) (fun _ _ _ _ _ => (dg_name (pg_name (i := 4) sc_grown.nd rfl (Or.inl rfl)))) (fun _ _ _ _ _ => dts_nil) (fun _ _ _ _ _ => (di_seq rfl (de_call (dws := []) (dvs := []) hrw (hr.mono (by first | decide | omega)) passL (by rfl) T.m_rows_with T.F_rows_with.kp T.b_rows_with .nil (fun _ _ => rfl) (da_cons (de_v (pv 0)) (da_cons (de_v (pv 1)) (da_cons (de_dget (hu_of hr) (de_v (pv 0)) (de_v (pv 4)) (fun _ _ => rfl)) (da_cons (de_op op_subD od_sub (de_v (pv 2)) de_int) (da_cons (de_v (pv 3)) da_nil)))))))) (fun _ _ _ _ _ => (dg_name (pg_name (i := 5) sc_grown.nd rfl (Or.inl rfl)))) (fun _ _ _ _ _ => dts_nil) (fun _ _ _ _ _ => (de_tup (da_cons (de_v (pv 4)) (da_star (de_v (pv 5)) da_nil)))) (by decide) (by decide))))) dss_nil)
  (dss_one (ds_ret (de_dget (hu_of hr) (de_v (pv 3)) (de_v (pv 2)) (fun _ _ => rfl)))))

def RG (k : Nat) : DF × DF := Nat.rec (badF, badF) (fun _ p => (runB 11 (D_rows_with p.1 p.2), runB 6 (D_grown p.1 p.2))) k
theorem ok_RG (T : Txt K mg A) : ∀ k, FnOk P w K mg base (L2.CX P w) k A.f_rows_with A.fd_rows_with ["signs", "counts", "brothers", "places", "known"] (spD ⟨K, A.ca, an, oq⟩ 5 (RG k).1) ∧ FnOk P w K mg base (L2.CX P w) k A.f_grown A.fd_grown ["signs", "counts", "size", "known"] (spD ⟨K, A.ca, an, oq⟩ 4 (RG k).2)
  | 0 => ⟨fn_bad rfl, fn_bad rfl⟩
  | k + 1 => let ⟨h1, h2⟩ := ok_RG T k; ⟨ok_rows_with T h1 h2, ok_grown T h1 h2⟩

def D_trees_of_size : DS := (dsSeq (dsDrop (dCall 1 F_check_signs [] (dCons (dV 0) dNil)))
  (dsSeq (dsIf (dTnot (dTb (dCall 3 F_is_between [] (dCons (dV 1) (dCons (dC (.int 1)) (dCons (dC (.int 40)) dNil)))))) dsBad dsNext)
  (dsSeq (dsSet (dCall 2 F_row_counts [] (dCons (dV 0) (dCons (dV 1) dNil))) 2)
  (dsSeq (dsIf (dTb (dOp (oCmpI fun i j => ltI j i) (dOp oIx (dOp oIx (dV 2) (dC (.int 1))) (dV 1)) (dC (.int 1000)))) (dsRaise 0) dsNext)
  (dsRet (dCal (cSort .tree) (dCons (dCall 4 (RG 125).2 [] (dCons (dV 0) (dCons (dV 2) (dCons (dV 1) (dCons (dDNew false) dNil))))) dNil)))))))
def F_trees_of_size : DF := runB 3 D_trees_of_size
theorem ok_trees_of_size (T : Txt K mg A) : FnOk P w K mg base (L2.CX P w) 127 A.f_trees_of_size A.fd_trees_of_size ["signs", "size"] (spD ⟨K, A.ca, an, oq⟩ 2 F_trees_of_size) := fn_ok T.F_trees_of_size sc_trees_of_size rfl rfl fun cdv Ar outer s H E hr =>
  (dss_cons (ds_expr (de_call (dws := []) (dvs := []) (ok_check_signs T) (hr.mono (by first | decide | omega)) pass_body (by rfl) T.m_check_signs T.F_check_signs.kp T.b_check_signs .nil (fun _ _ => rfl) (da_cons (de_v (pv 0)) da_nil)))
  (dss_cons (ds_if (dt_not (dt_val (de_call (dws := []) (dvs := []) (ok_is_between T) (hr.mono (by first | decide | omega)) pass_body (by rfl) T.m_is_between T.F_is_between.kp T.b_is_between .nil (fun _ _ => rfl) (da_cons (de_v (pv 1)) (da_cons de_int (da_cons (pe_c (pe_glob (v := .int 40) rfl T.c_MOST_SIZE ⟨_, rfl⟩) fun _ _ => rfl) da_nil)))))) (dss_one ds_bad) dss_nil)
  (dss_cons (ds_set (ps_set (i := 2) sc_trees_of_size.nd rfl (by first | exact Or.inl rfl | exact Or.inr rfl) (de_call (dws := []) (dvs := []) (ok_row_counts T) (hr.mono (by first | decide | omega)) pass_body (by rfl) T.m_row_counts T.F_row_counts.kp T.b_row_counts .nil (fun _ _ => rfl) (da_cons (de_v (pv 0)) (da_cons (de_v (pv 1)) da_nil)))))
  (dss_cons (ds_if (dt_cmpR op_gtE od_cmpI (de_ix (ix_D rfl) od_ix (de_ix (ix_D rfl) od_ix (de_v (pv 2)) de_int (fun _ _ => rfl)) (de_v (pv 1)) (fun _ _ => rfl)) (pe_c (pe_glob (v := .int 1000) rfl T.c_MOST_TREES ⟨_, rfl⟩) fun _ _ => rfl) (nomark _)) (dss_one (ds_raise rfl takes_body (pmk_own PySem.F.excBase_ValueError T.x_TooMany.ex T.x_TooMany.mg T.x_TooMany.kp T.x_TooMany.rs (by rfl)))) dss_nil)
  (dss_one (ds_ret (de_callB (cr_sortD hr.units) (crD_sort .tree) (by rfl) T.z_sorted (by decide +kernel) (da_cons (de_call (dws := []) (dvs := []) (ok_RG T 125).2 (hr.mono (by first | decide | omega)) pass_body (by rfl) T.m_grown T.F_grown.kp T.b_grown .nil (fun _ _ => rfl) (da_cons (de_v (pv 0)) (da_cons (de_v (pv 2)) (da_cons (de_v (pv 1)) (da_cons de_dnewK da_nil))))) da_nil))))))))

def D_law_spans (SP : DF) : DS := (dsSeq (dsIf (dTb (dOp oEq (dV 1) (dC (.int 0)))) (dsRet (dIf (dTb (dOp oEq (dV 0) (dC (.int 0)))) (dLst (dCons (dTup dNil) dNil)) (dLst dNil))) dsNext)
  (dsSeq (dsSet (dLst dNil) 2)
  (dsSeq (dsFor (diRng2 (dCons (dC (.int 1)) (dCons (dOp opAdd (dV 0) (dC (.int 1))) dNil))) (dgN 3) (dsDrop (dBM fExt (dV 2) (dCons (dLc (diSeq (dCall 2 SP [] (dCons (dOp (oI gSubI) (dV 0) (dV 3)) (dCons (dOp (oI gSubI) (dV 1) (dC (.int 1))) dNil)))) (dgN 4) dtYes (dOp opAdd (dTup (dCons (dV 3) dNil)) (dV 4)) [4]) dNil))))
  (dsRet (dV 2)))))
theorem ok_law_spans (T : Txt K mg A) {k : Nat} {SP : DF} (hsp : FnOk P w K mg base (L2.CX P w) k A.f_law_spans A.fd_law_spans ["total", "many"] (spD ⟨K, A.ca, an, oq⟩ 2 SP)) : FnOk P w K mg base (L2.CX P w) (k + 1) A.f_law_spans A.fd_law_spans ["total", "many"] (spD ⟨K, A.ca, an, oq⟩ 2 (runB 5 (D_law_spans SP))) := fn_ok T.F_law_spans sc_law_spans rfl rfl fun cdv Ar outer s H E hr =>
  (dss_cons (ds_if (dt_cmpR (op_eqE hr.units rfl) od_eq (de_v (pv 1)) de_int (nomark _)) (dss_one (ds_ret (de_if (dt_cmpR (op_eqE hr.units rfl) od_eq (de_v (pv 0)) de_int (nomark _)) (de_lst (da_cons (de_tup da_nil) da_nil)) (de_lst da_nil)))) dss_nil)
  (dss_cons (ds_set (ps_set (i := 2) sc_law_spans.nd rfl (by first | exact Or.inl rfl | exact Or.inr rfl) (de_lst da_nil)))
  (dss_cons (ds_for (passes_of rfl) rfl (di_rng2 (by rfl) T.z_range (da_cons de_int (da_cons (de_op (op_addD rfl) od_add (de_v (pv 0)) de_int) da_nil))) (dg_name (pg_name (i := 3) sc_law_spans.nd rfl (by first | exact Or.inl rfl | exact Or.inr rfl))) (dss_one (ds_expr (de_bm rfl PySem.F.plainAttrs_list PySem.F.slot_list_extend PySem.F.type_list_extend (mt_ext rfl) bd_ext (de_v (pv 2)) (da_cons (de_lc (own := [("rest", 4)]) rfl sc_law_spans.nd (di_seq rfl (de_call (dws := []) (dvs := []) hsp (hr.mono (by first | decide | omega)) pass_body (by rfl) T.m_law_spans T.F_law_spans.kp T.b_law_spans .nil (fun _ _ => rfl) (da_cons (de_op op_subD od_sub (de_v (pv 0)) (de_v (pv 3))) (da_cons (de_op op_subD od_sub (de_v (pv 1)) de_int) da_nil)))) (blkOk_by (own := [("rest", 4)]) (N := ["total", "many", "found", "first", "rest"]) (sc := defScope s_law_spans) (by decide +kernel)) (fun _ _ _ _ _ => (dg_name (pg_name (i := 4) sc_law_spans.nd rfl (Or.inl rfl)))) (fun _ _ _ _ _ => dts_nil) (fun _ _ _ _ _ => (de_op (op_addD rfl) od_add (de_tup (da_cons (de_v (pv 3)) da_nil)) (de_v (pv 4)))) (by decide)) da_nil)))))
  (dss_one (ds_ret (de_v (pv 2)))))))

def SPf (k : Nat) : DF := lev (fun F => runB 5 (D_law_spans F)) k
theorem ok_SPf (T : Txt K mg A) (k : Nat) : FnOk P w K mg base (L2.CX P w) k A.f_law_spans A.fd_law_spans ["total", "many"] (spD ⟨K, A.ca, an, oq⟩ 2 (SPf k)) := by
  have := fn_lev (j := 0) (P := P) (w := w) (K := K) (mg := mg) (base := base) (C := ⟨K, A.ca, an, oq⟩) (f := A.f_law_spans) (fd := A.fd_law_spans) (ps := ["total", "many"]) (n := 2) (b := fun F => runB 5 (D_law_spans F)) rfl (fun k F h => ok_law_spans T h) k
  rw [Nat.zero_add] at this
  exact this

def D_law_trees : DS := (dsSeq (dsSet (dDNew false) 2)
  (dsSeq (dsFor (diRng2 (dCons (dC (.int 1)) (dCons (dOp opAdd (dV 1) (dC (.int 1))) dNil))) (dgN 3) (dsSeq (dsSet (dLst dNil) 4)
  (dsSeq (dsLock (whV 0) (dsFor (diKeys (dV 0)) (dgN 5) (dsFor (diSeq (dCall 2 (SPf 8) [] (dCons (dOp (oI gSubI) (dV 3) (dC (.int 1))) (dCons (dDGet (dV 0) (dV 5)) dNil)))) (dgN 6) (dsSeq (dsSet (dLst (dCons (dTup dNil) dNil)) 7)
  (dsSeq (dsFor (diSeq (dV 6)) (dgN 8) (dsSeq (dsSet (dLst dNil) 9)
  (dsSeq (dsFor (diSeq (dV 7)) (dgN 10) (dsDrop (dBM fExt (dV 9) (dCons (dLc (diSeq (dDGet (dV 2) (dV 8))) (dgN 11) dtYes (dOp opAdd (dV 10) (dTup (dCons (dV 11) dNil))) [11]) dNil))))
  (dsSet (dV 9) 7))))
  (dsDrop (dBM fExt (dV 4) (dCons (dLc (diSeq (dV 7)) (dgN 10) dtYes (dOp opAdd (dTup (dCons (dV 5) dNil)) (dV 10)) [10]) dNil))))))))
  (dsDPut (dV 2) (dV 3) (dCal (cSort .tree) (dCons (dV 4) dNil))))))
  (dsRet (dV 2))))
def F_law_trees : DF := runB 12 D_law_trees
theorem ok_law_trees (T : Txt K mg A) : FnOk P w K mg base (L2.CX P w) 9 A.f_law_trees A.fd_law_trees ["signs", "most"] (spD ⟨K, A.ca, an, oq⟩ 2 F_law_trees) := fn_ok T.F_law_trees sc_law_trees rfl rfl fun cdv Ar outer s H E hr =>
  (dss_cons (ds_set (ps_set (i := 2) sc_law_trees.nd rfl (by first | exact Or.inl rfl | exact Or.inr rfl) de_dnewK))
  (dss_cons (ds_for (passes_of rfl) rfl (di_rng2 (by rfl) T.z_range (da_cons de_int (da_cons (de_op (op_addD rfl) od_add (de_v (pv 1)) de_int) da_nil))) (dg_name (pg_name (i := 3) sc_law_trees.nd rfl (by first | exact Or.inl rfl | exact Or.inr rfl))) (dss_cons (ds_set (ps_set (i := 4) sc_law_trees.nd rfl (by first | exact Or.inl rfl | exact Or.inr rfl) (de_lst da_nil)))
  (dss_cons (ds_lock (whV 0) (ds_for (passes_of rfl) rfl (di_keys (de_v (pv 0))) (dg_name (pg_name (i := 5) sc_law_trees.nd rfl (by first | exact Or.inl rfl | exact Or.inr rfl))) (dss_one (ds_for (passes_of rfl) rfl (di_seq rfl (de_call (dws := []) (dvs := []) (ok_SPf T 8) (hr.mono (by first | decide | omega)) pass_body (by rfl) T.m_law_spans T.F_law_spans.kp T.b_law_spans .nil (fun _ _ => rfl) (da_cons (de_op op_subD od_sub (de_v (pv 3)) de_int) (da_cons (de_dget (hu_of hr) (de_v (pv 0)) (de_v (pv 5)) (fun _ _ => rfl)) da_nil)))) (dg_name (pg_name (i := 6) sc_law_trees.nd rfl (by first | exact Or.inl rfl | exact Or.inr rfl))) (dss_cons (ds_set (ps_set (i := 7) sc_law_trees.nd rfl (by first | exact Or.inl rfl | exact Or.inr rfl) (de_lst (da_cons (de_tup da_nil) da_nil))))
  (dss_cons (ds_for (passes_of rfl) rfl (di_seq rfl (de_v (pv 6))) (dg_name (pg_name (i := 8) sc_law_trees.nd rfl (by first | exact Or.inl rfl | exact Or.inr rfl))) (dss_cons (ds_set (ps_set (i := 9) sc_law_trees.nd rfl (by first | exact Or.inl rfl | exact Or.inr rfl) (de_lst da_nil)))
  (dss_cons (ds_for (passes_of rfl) rfl (di_seq rfl (de_v (pv 7))) (dg_name (pg_name (i := 10) sc_law_trees.nd rfl (by first | exact Or.inl rfl | exact Or.inr rfl))) (dss_one (ds_expr (de_bm rfl PySem.F.plainAttrs_list PySem.F.slot_list_extend PySem.F.type_list_extend (mt_ext rfl) bd_ext (de_v (pv 9)) (da_cons (de_lc (own := [("tree", 11)]) rfl sc_law_trees.nd (di_seq rfl (de_dget (hu_of hr) (de_v (pv 2)) (de_v (pv 8)) (fun _ _ => rfl))) (blkOk_by (own := [("tree", 11)]) (N := ["signs", "most", "found", "total", "here", "sign", "sizes", "rows", "one", "longer", "row", "tree"]) (sc := defScope s_law_trees) (by decide +kernel)) (fun _ _ _ _ _ => (dg_name (pg_name (i := 11) sc_law_trees.nd rfl (Or.inl rfl)))) (fun _ _ _ _ _ => dts_nil) (fun _ _ _ _ _ => (de_op (op_addD rfl) od_add (de_v (pv 10)) (de_tup (da_cons (de_v (pv 11)) da_nil)))) (by decide)) da_nil)))))
  (dss_one (ds_set (ps_set (i := 7) sc_law_trees.nd rfl (by first | exact Or.inl rfl | exact Or.inr rfl) (de_v (pv 9))))))))
  (dss_one (ds_expr (de_bm rfl PySem.F.plainAttrs_list PySem.F.slot_list_extend PySem.F.type_list_extend (mt_ext rfl) bd_ext (de_v (pv 4)) (da_cons (de_lc (own := [("row", 10)]) rfl sc_law_trees.nd (di_seq rfl (de_v (pv 7))) (blkOk_by (own := [("row", 10)]) (N := ["signs", "most", "found", "total", "here", "sign", "sizes", "rows", "one", "longer", "row", "tree"]) (sc := defScope s_law_trees) (by decide +kernel)) (fun _ _ _ _ _ => (dg_name (pg_name (i := 10) sc_law_trees.nd rfl (Or.inl rfl)))) (fun _ _ _ _ _ => dts_nil) (fun _ _ _ _ _ => (de_op (op_addD rfl) od_add (de_tup (da_cons (de_v (pv 5)) da_nil)) (de_v (pv 10)))) (by decide)) da_nil))))))))))
  (dss_one (ds_dput (hu_of hr) (de_v (pv 2)) (de_v (pv 3)) (de_callB (cr_sortD hr.units) (crD_sort .tree) (by rfl) T.z_sorted (by decide +kernel) (da_cons (de_v (pv 4)) da_nil)))))))
  (dss_one (ds_ret (de_v (pv 2))))))

end K02
end
noncomputable section
namespace K02
open PySem PySem.Spec PyProof.Rows L2 Vz
variable {P : Program} {w : World} {K : PySem.W.Frag} {mg : Str → Option Value} {base : Heap} {A : Ad} {an : Nat → Str} {oq : Nat → List V}

def D_law_is_refused : DS := (dsSeq (dsSet (dC (.bl false)) 2)
  (dsSeq (dsTry (dsDrop (dCallS 2 F_trees_of_size (dCons (dV 0) (dCons (dV 1) dNil)))) (fun c => Nat.rec (some true) (fun _ _ => none) c) (dsSet (dC (.bl true)) 2))
  (dsRet (dV 2))))
def F_law_is_refused : DF := runB 3 D_law_is_refused
theorem ok_law_is_refused (T : Txt K mg A) : FnOk P w K mg base (L2.CX P w) 128 A.f_law_is_refused A.fd_law_is_refused ["signs", "size_here"] (spD ⟨K, A.ca, an, oq⟩ 2 F_law_is_refused) := fn_ok T.F_law_is_refused sc_law_is_refused rfl rfl fun cdv Ar outer s H E hr =>
  (dss_cons (ds_set (ps_set (i := 2) sc_law_is_refused.nd rfl (by first | exact Or.inl rfl | exact Or.inr rfl) de_bl))
  (dss_cons (ds_try (cl := .ref (A.ca 0)) rfl rfl ⟨by rfl, by decide, .inl T.x_TooMany.mg⟩ takes_body (cc0 T.e_TooMany) (fun W pn xe tk => ds_exprS (de_callS (ok_trees_of_size T) (hr.mono (by first | decide | omega)) tk (by rfl) T.m_trees_of_size T.F_trees_of_size.kp T.b_trees_of_size (da_cons (de_v (pv 0)) (da_cons (de_v (pv 1)) da_nil)))) (fun a pn => (dss_one (ds_set (ps_set (i := 2) sc_law_is_refused.nd rfl (by first | exact Or.inl rfl | exact Or.inr rfl) de_bl)))))
  (dss_one (ds_ret (de_v (pv 2))))))

def D_law_typed_right : DS := (dsSeq (dsIf (dTor (dTb (dOp oNe (dCall 2 F_trees_of_size [] (dCons (dDisp [((dC (.str [97])), (dC (.int 0))), ((dC (.str [102])), (dC (.int 2)))]) (dCons (dC (.int 40)) dNil))) (dLst dNil))) (dTnot (dTb (dCall 2 F_law_is_refused [] (dCons (dDisp [((dC (.str [97])), (dC (.int 0))), ((dC (.str [102])), (dC (.int 2)))]) (dCons (dC (.int 39)) dNil)))))) (dsRet (dC (.bl false))) dsNext)
  (dsSeq (dsSet (dTup (dCons (dC (.str [97])) dNil)) 0)
  (dsSeq (dsFor (diRng1 (dCons (dC (.int 39)) dNil)) (dgN 1) (dsSet (dTup (dCons (dC (.str [103])) (dCons (dV 0) dNil))) 0))
  (dsSeq (dsIf (dTor (dTb (dOp oNe (dCall 2 F_trees_of_size [] (dCons (dDisp [((dC (.str [97])), (dC (.int 0))), ((dC (.str [103])), (dC (.int 1)))]) (dCons (dC (.int 40)) dNil))) (dLst (dCons (dV 0) dNil)))) (dTb (dOp oNe (dCall 2 F_trees_of_size [] (dCons (dDisp [((dC (.str [102])), (dC (.int 2)))]) (dCons (dC (.int 5)) dNil))) (dLst dNil)))) (dsRet (dC (.bl false))) dsNext)
  (dsSeq (dsSet (dDisp [((dC (.str [97])), (dC (.int 0))), ((dC (.str [98])), (dC (.int 0))), ((dC (.str [99])), (dC (.int 0))), ((dC (.str [100])), (dC (.int 0))), ((dC (.str [103])), (dC (.int 1))), ((dC (.str [104])), (dC (.int 1))), ((dC (.str [116])), (dC (.int 3))), ((dC (.str [117])), (dC (.int 3)))]) 2)
  (dsRet (dAnd (dOp oEq (dCal fLen (dCons (dCall 2 F_trees_of_size [] (dCons (dV 2) (dCons (dC (.int 4)) dNil))) dNil)) (dC (.int 160))) (dCall 2 F_law_is_refused [] (dCons (dV 2) (dCons (dC (.int 5)) dNil))))))))))
def F_law_typed_right : DF := runB 3 D_law_typed_right
theorem ok_law_typed_right (T : Txt K mg A) : FnOk P w K mg base (L2.CX P w) 129 A.f_law_typed_right A.fd_law_typed_right [] (spD ⟨K, A.ca, an, oq⟩ 0 F_law_typed_right) := fn_ok T.F_law_typed_right sc_law_typed_right rfl rfl fun cdv Ar outer s H E hr =>
  (dss_cons (ds_if (PW.pt (dw_or (dt_cmpR (op_neE hr.units rfl) od_ne (de_call (dws := []) (dvs := []) (ok_trees_of_size T) (hr.mono (by first | decide | omega)) pass_body (by rfl) T.m_trees_of_size T.F_trees_of_size.kp T.b_trees_of_size .nil (fun _ _ => rfl) (da_cons (de_disp (ts := [((dC (.str [97])), (dC (.int 0))), ((dC (.str [102])), (dC (.int 2)))]) (pps_cons (de_str (l := [97]) (by rfl)) de_int (pps_cons (de_str (l := [102]) (by rfl)) de_int pps_nil)) (by rfl) (by rfl) (fun z => by cases z) (by decide)) (da_cons de_int da_nil))) (de_lst da_nil) (nomark _)) (dw_one' (dt_not (dt_val (de_call (dws := []) (dvs := []) (ok_law_is_refused T) (hr.mono (by first | decide | omega)) pass_body (by rfl) T.m_law_is_refused T.F_law_is_refused.kp T.b_law_is_refused .nil (fun _ _ => rfl) (da_cons (de_disp (ts := [((dC (.str [97])), (dC (.int 0))), ((dC (.str [102])), (dC (.int 2)))]) (pps_cons (de_str (l := [97]) (by rfl)) de_int (pps_cons (de_str (l := [102]) (by rfl)) de_int pps_nil)) (by rfl) (by rfl) (fun z => by cases z) (by decide)) (da_cons de_int da_nil)))))))) (dss_one (ds_ret de_bl)) dss_nil)
  (dss_cons (ds_set (ps_set (i := 0) sc_law_typed_right.nd rfl (by first | exact Or.inl rfl | exact Or.inr rfl) (de_tup (da_cons (de_str (l := [97]) (by rfl)) da_nil))))
  (dss_cons (ds_for (passes_of rfl) rfl (di_rng1 (by rfl) T.z_range (da_cons de_int da_nil)) (dg_name (pg_name (i := 1) sc_law_typed_right.nd rfl (by first | exact Or.inl rfl | exact Or.inr rfl))) (dss_one (ds_set (ps_set (i := 0) sc_law_typed_right.nd rfl (by first | exact Or.inl rfl | exact Or.inr rfl) (de_tup (da_cons (de_str (l := [103]) (by rfl)) (da_cons (de_v (pv 0)) da_nil)))))))
  (dss_cons (ds_if (PW.pt (dw_or (dt_cmpR (op_neE hr.units rfl) od_ne (de_call (dws := []) (dvs := []) (ok_trees_of_size T) (hr.mono (by first | decide | omega)) pass_body (by rfl) T.m_trees_of_size T.F_trees_of_size.kp T.b_trees_of_size .nil (fun _ _ => rfl) (da_cons (de_disp (ts := [((dC (.str [97])), (dC (.int 0))), ((dC (.str [103])), (dC (.int 1)))]) (pps_cons (de_str (l := [97]) (by rfl)) de_int (pps_cons (de_str (l := [103]) (by rfl)) de_int pps_nil)) (by rfl) (by rfl) (fun z => by cases z) (by decide)) (da_cons de_int da_nil))) (de_lst (da_cons (de_v (pv 0)) da_nil)) (nomark _)) (dw_one' (dt_cmpR (op_neE hr.units rfl) od_ne (de_call (dws := []) (dvs := []) (ok_trees_of_size T) (hr.mono (by first | decide | omega)) pass_body (by rfl) T.m_trees_of_size T.F_trees_of_size.kp T.b_trees_of_size .nil (fun _ _ => rfl) (da_cons (de_disp (ts := [((dC (.str [102])), (dC (.int 2)))]) (pps_cons (de_str (l := [102]) (by rfl)) de_int pps_nil) (by rfl) (by rfl) (fun z => by cases z) (by decide)) (da_cons de_int da_nil))) (de_lst da_nil) (nomark _))))) (dss_one (ds_ret de_bl)) dss_nil)
  (dss_cons (ds_set (ps_set (i := 2) sc_law_typed_right.nd rfl (by first | exact Or.inl rfl | exact Or.inr rfl) (de_disp (ts := [((dC (.str [97])), (dC (.int 0))), ((dC (.str [98])), (dC (.int 0))), ((dC (.str [99])), (dC (.int 0))), ((dC (.str [100])), (dC (.int 0))), ((dC (.str [103])), (dC (.int 1))), ((dC (.str [104])), (dC (.int 1))), ((dC (.str [116])), (dC (.int 3))), ((dC (.str [117])), (dC (.int 3)))]) (pps_cons (de_str (l := [97]) (by rfl)) de_int (pps_cons (de_str (l := [98]) (by rfl)) de_int (pps_cons (de_str (l := [99]) (by rfl)) de_int (pps_cons (de_str (l := [100]) (by rfl)) de_int (pps_cons (de_str (l := [103]) (by rfl)) de_int (pps_cons (de_str (l := [104]) (by rfl)) de_int (pps_cons (de_str (l := [116]) (by rfl)) de_int (pps_cons (de_str (l := [117]) (by rfl)) de_int pps_nil)))))))) (by rfl) (by rfl) (fun z => by cases z) (by decide))))
  (dss_one (ds_ret (de_and (de_cmp (op_eqE hr.units rfl) od_eq (de_callB (cr_len rfl) cd_len (by rfl) T.z_len (by decide +kernel) (da_cons (de_call (dws := []) (dvs := []) (ok_trees_of_size T) (hr.mono (by first | decide | omega)) pass_body (by rfl) T.m_trees_of_size T.F_trees_of_size.kp T.b_trees_of_size .nil (fun _ _ => rfl) (da_cons (de_v (pv 2)) (da_cons de_int da_nil))) da_nil)) de_int (nomark _)) (de_one (de_call (dws := []) (dvs := []) (ok_law_is_refused T) (hr.mono (by first | decide | omega)) pass_body (by rfl) T.m_law_is_refused T.F_law_is_refused.kp T.b_law_is_refused .nil (fun _ _ => rfl) (da_cons (de_v (pv 2)) (da_cons de_int da_nil))))))))))))

end K02
end
/-! the end of a law whose def is entered without a guard -/
namespace Lx
open PySem PySem.Spec PyProof.Rows L2 Evl
section
variable {P : Program} {w : World} {K : PySem.W.Frag} {mg mb : Str → Option Value} {CX : CXT} {k : Nat} {fa a : Addr} {fd : FuncData} {x : Str} {sp : Sp} {s1 : Shared} {vs : List Value} {ns : List Int}
/-- what is left behind the call: True, nothing old changed -/
def Left (s1 : Shared) (r : Result) (s' : Shared) : Prop := r = .ok (.ret (.bool true)) ∧ OldK s1.heap s'.heap ∧ s'.os = s1.os ∧ AllBare s'.gens
/-- from an abstract heap that tracks nothing but the script, and that as a known object -/
theorem law_from {H : Hp} (KX : K.In s1.heap) (hns : s1.heap.Ns mainGlobals mg) (hb : s1.heap.Ns builtinsNs mb) (hbb : ∀ x : Str, x ≠ "__name__" → mb x = bootBuiltins x) (hlim : s1.heap.NoLimit) (hg : s1.gens = #[]) (hr : Room k callerA)
    (F : ∀ base : Heap, K.In base → base.Ns mainGlobals mg → FnG P w K mg base CX k fa fd [x] sp) (hbind : ∀ (s : Shared) (u : Value), BindsTo s fd ⟨[u], []⟩ [(x, u)])
    (hsp : sp [.ref a] H (fun v _ => v = .bl true) fun _ _ _ => False) (hCX : ∀ H e s', CX [] H s1 (fun _ _ _ => False) e s' → False)
    (ha : ∃ o, s1.heap.get? a = some o ∧ ∀ es ep, o.data ≠ .dict es ep) (ok : HOk P w H s1.heap) (one : ∀ b, b ≠ a → H b = none) (fz : H a = none ∨ ((∃ o u, H a = some (.frz o u)) ∧ K.lookup a = none)) :
    codeAny (model P w) callerA (.call (.ref fa) ⟨[.ref a], []⟩) (Left s1) s1 := by
  have dictFree : ∀ {b : Addr} {o : Obj} {es : Array DictEntry} {ep : Nat}, s1.heap.get? b = some o → o.data = .dict es ep → H b = none := by
    intro b o es ep e d
    by_cases hba : b = a
    · obtain ⟨o', e', n⟩ := ha
      rw [hba, e'] at e
      cases e
      exact absurd d (n es ep)
    · exact one b hba
  have nsB : ∀ {b : Addr} {m : Str → Option Value}, s1.heap.Ns b m → (hidT s1.heap H).Ns b m := by
    rintro b m ⟨o, es, ep, e, d, r⟩
    exact ⟨o, es, ep, hidT_get e (dictFree e d), d, r⟩
  have kB : K.In (hidT s1.heap H) := by
    intro b o e
    refine hidT_get (KX b o e) ?_
    by_cases hba : b = a
    · rcases fz with z | ⟨_, z⟩
      · rw [hba]
        exact z
      · rw [hba, z] at e
        cases e
    · exact one b hba
  obtain ⟨mc, c1, c2⟩ := hlim
  have md : Mod K mg (hidT s1.heap H) := ⟨kB, nsB hns, ⟨mb, nsB hb, hbb⟩, ⟨mc, nsB c1, c2⟩⟩
  have e0 : Env0 P w K mg (hidT s1.heap H) callerA [] s1 H := ⟨rfl, md, fun b o e => of_hidT e, Nat.le_of_eq (hidT_size _ _), trivial, fun b hb => (by cases hb), ok, .of_eq hg⟩
  refine codeAny_mono ((F _ kB (nsB hns)).goes callerA [] s1 H ⟨[.ref a], []⟩ [.ref a] [.ref a] _ _ rfl hr e0 (hbind s1 (.ref a)) (.cons rfl .nil) hsp) ?_
  intro r s' z
  match r, z with
  | .error e, z => exact (hCX H e s' z).elim
  | .ok (.ret u), z =>
    obtain ⟨v, H', os, bare, un, ok', r', q⟩ := z
    obtain rfl : v = V.bl true := q
    obtain rfl : u = Value.bool true := r'
    refine ⟨rfl, OldK.of_keep ?_, os, bare⟩
    intro b o e
    cases hq : H b with
    | none => exact un.keep b o e hq (fun m => (by cases m)) (fun m => (by cases m))
    | some u =>
      have hba : b = a := Classical.byContradiction fun n => (by rw [one b n] at hq; cases hq)
      rcases fz with z | ⟨⟨ob, uo, z⟩, _⟩
      · rw [← hba, hq] at z
        cases z
      · rw [← hba] at z
        obtain ⟨g1, _⟩ := ok b _ z
        obtain ⟨g2, _⟩ := ok' b _ (un.frzs b ob uo z)
        rw [e] at g1
        cases g1
        exact g2
end
/-- as walk_of, of a def entered without a guard -/
theorem walkG {l : PySem.W.OpenLaw} {n k : Nat} {q : Program} {loose : List Str} {XP : (Str → Option Value) → Heap → Prop} {YP : World → Heap → Prop} {d : DefRec} {K : Params → PySem.W.Frag} {CX : World → CXT} {sp : World → Sp} {x : Str}
    (hn : l.most = some n) (hn2 : n ≤ sizeLine) (hdf : d.params.defaults = []) (hr : Room k callerA) (hY : ∀ (w : World) (h : Heap), YP w h → (K w.params).In h)
    (F : ∀ (w : World) (mg : Str → Option Value) (fa : Addr) (h : Heap), (K w.params).In h → h.Ns mainGlobals mg → mg d.name = some (.ref fa) →
      ∃ fd : FuncData, (∀ (s : Shared) (u : Value), BindsTo s fd ⟨[u], []⟩ [(x, u)]) ∧ ∀ base : Heap, (K w.params).In base → base.Ns mainGlobals mg → FnG l.prog w (K w.params) mg base (CX w) k fa fd [x] (sp w))
    (hsp : ∀ (w : World) (H : Hp) (a : Addr) (ns : List Int), ns.length ≤ n → SqL (K w.params) H a (ns.map V.int) → sp w [.ref a] H (fun v _ => v = .bl true) fun _ _ _ => False)
    (hCX : ∀ (w : World) (H : Hp) (s : Shared) (e : Value) (s' : Shared), CX w [] H s (fun _ _ _ => False) e s' → False) : PySem.W.WalkO q loose XP YP l.row.toRowW d [] (fun f vs => PySem.call f vs) := by
  refine Att.attach_call hn hdf ?_
  intro w s0 s1 mg mb fa o pm cd doc a vs ns G Y ho hd hcd hmg hobj hints hlen hg
  have KX := hY w _ Y
  obtain ⟨fd, hb, hF⟩ := F w mg fa _ KX G.T.g hmg
  have rv := vals_ints hints
  have lenV := hints.length
  have there : ∃ o, s1.heap.get? a = some o ∧ ∀ es ep, o.data ≠ .dict es ep := ⟨_, hobj, fun es ep z => (by cases z)⟩
  have short := Nat.le_trans hlen hn2
  cases hk : (K w.params).lookup a with
  | some o' =>
    have e := KX a o' hk
    rw [hobj] at e
    cases e
    refine law_from (H := fun _ => none) KX G.T.g G.T.b G.T.builtins G.T.nolimit hg hr hF hb (hsp w _ a ns hlen ?_) (fun H e s' => hCX w H s1 e s') there (fun b u z => (by cases z)) (fun _ _ => rfl) (Or.inl rfl)
    refine Or.inr ⟨_, vs.toArray, _, hk, rfl, rfl, rfl, ?_, ?_⟩
    · rw [List.size_toArray, lenV]
      exact short
    · simpa using rv
  | none =>
    have at_ : (fun b => if b = a then some (HO.frz { cls := .type "list", data := .seq vs.toArray } (.lst (ns.map V.int))) else none) a = some (HO.frz { cls := .type "list", data := .seq vs.toArray } (.lst (ns.map V.int))) := if_pos rfl
    refine law_from (H := fun b => if b = a then some (.frz { cls := .type "list", data := .seq vs.toArray } (.lst (ns.map V.int))) else none) KX G.T.g G.T.b G.T.builtins G.T.nolimit hg hr hF hb (hsp w _ a ns hlen (Or.inl (Or.inr ⟨_, at_⟩))) (fun H e s' => hCX w H s1 e s') there ?_ (fun b n => if_neg n) (Or.inr ⟨⟨_, _, at_⟩, hk⟩)
    intro b u z
    by_cases hba : b = a
    · subst hba
      have z := at_.symm.trans z
      cases z
      refine ⟨hobj, ?_, vs, _, rv, hobj⟩
      rw [List.length_map]
      exact short
    · have z := (show (if b = a then some (HO.frz { cls := .type "list", data := .seq vs.toArray } (.lst (ns.map V.int))) else none) = none from if_neg hba).symm.trans z
      cases z
end Lx
/-! what operators, calls and displays make of data -/
namespace Lx
open PySem PySem.Spec PyProof.Rows L2 Evl
section
variable {K : PySem.W.Frag} {S : List Addr} {σ : L2.St} {H H' : Hp} {ta tb te tc : TE} {t u : TT} {d d1 d2 : PyData} {ds es : List PyData} {tA tr : TA} {i j : Int} {x y : Str} {b : Bool}
/-! numbers -/
theorem d_I0 {f : Int → Int → Int} (ha : EvD K S ta σ H (.int i)) (hb : EvD K S tb σ H (.int j)) : EvD K S (tOp (rI0 fun i j => .int (f i j)) ta tb) σ H (.int (f i j)) := d_of_int (ev_op ha.int hb.int rv_I0)
theorem d_I {C : Int → Int → Prop} {f : Int → Int → Int} (ha : EvD K S ta σ H (.int i)) (hb : EvD K S tb σ H (.int j)) (hc : C i j) : EvD K S (tOp (rI C fun i j => .int (f i j)) ta tb) σ H (.int (f i j)) := d_of_int (ev_op ha.int hb.int (rv_I hc))
theorem d_B0 {f : Int → Int → Bool} (ha : EvD K S ta σ H (.int i)) (hb : EvD K S tb σ H (.int j)) : EvD K S (tOp (rI0 fun i j => .bl (f i j)) ta tb) σ H (.bool (f i j)) := d_of_bl (ev_op ha.int hb.int rv_I0)
theorem d_un {f : Int → Int} (ha : EvD K S ta σ H (.int i)) : EvD K S (tUn (rU fun i => .int (f i)) ta) σ H (.int (f i)) := d_of_int (ev_un ha.int fun H1 _ _ q => ⟨i, rfl, q H1 (Ex.refl H1)⟩)
theorem d_eqI (ha : EvD K S ta σ H (.int i)) (hb : EvD K S tb σ H (.int j)) : EvD K S (tOp rEq ta tb) σ H (.bool (decide (i = j))) := by
  have e : decide (V.int i = V.int j) = decide (i = j) := by simp
  rw [← e]
  exact d_of_bl (ev_op ha.int hb.int (rv_eq rfl))
theorem d_neI (ha : EvD K S ta σ H (.int i)) (hb : EvD K S tb σ H (.int j)) : EvD K S (tOp rNe ta tb) σ H (.bool (!decide (i = j))) := by
  have e : decide (V.int i = V.int j) = decide (i = j) := by simp
  rw [← e]
  exact d_of_bl (ev_op ha.int hb.int (rv_ne rfl))
theorem d_eqS (ha : EvD K S ta σ H (.str x)) (hb : EvD K S tb σ H (.str y)) : EvD K S (tOp rEq ta tb) σ H (.bool (decide (x = y))) := by
  have e : decide (V.str x = V.str y) = decide (x = y) := by simp
  rw [← e]
  exact d_of_bl (ev_op ha.str hb.str (rv_eq rfl))
theorem d_neS (ha : EvD K S ta σ H (.str x)) (hb : EvD K S tb σ H (.str y)) : EvD K S (tOp rNe ta tb) σ H (.bool (!decide (x = y))) := by
  have e : decide (V.str x = V.str y) = decide (x = y) := by simp
  rw [← e]
  exact d_of_bl (ev_op ha.str hb.str (rv_ne rfl))
/-! tests -/
theorem t_of (h : EvD K S te σ H (.bool b)) : EvT (tTest te) σ H b := et_test h.bl
theorem t_ofB (h : EvD K S te σ H (.bool b)) : EvT (tB te) σ H b := et_B h.bl
theorem d_and {a : Bool} (h1 : EvD K S ta σ H (.bool a)) (h2 : a = true → EvD K S tb σ H (.bool b)) : EvD K S (tAndV ta tb) σ H (.bool (a && b)) := d_of_bl (ev_andV h1.bl fun e => (h2 e).bl)
theorem d_or {a : Bool} (h1 : EvD K S ta σ H (.bool a)) (h2 : a = false → EvD K S tb σ H (.bool b)) : EvD K S (tOrV ta tb) σ H (.bool (a || b)) := d_of_bl (ev_orV h1.bl fun e => (h2 e).bl)
theorem d_not {a : Bool} (h1 : EvD K S ta σ H (.bool a)) : EvD K S (tNotV ta) σ H (.bool (!a)) := d_of_bl (ev_notV h1.bl)
theorem d_if (h : EvT t σ H b) (h1 : b = true → EvD K S ta σ H d) (h2 : b = false → EvD K S tb σ H d) : EvD K S (tIf t ta tb) σ H d := fun H1 e Q q => h H1 e _ fun H2 e2 => by
  cases b with
  | true => exact h1 rfl H2 (e.trans e2) Q fun v H3 e3 r => q v H3 (e2.trans e3) r
  | false => exact h2 rfl H2 (e.trans e2) Q fun v H3 e3 r => q v H3 (e2.trans e3) r
/-- a < b < c of numbers -/
theorem d_chain {f g : Int → Int → Bool} {k : Int} (ha : EvD K S ta σ H (.int i)) (hb : EvD K S tb σ H (.int j)) (hc : EvD K S tc σ H (.int k)) :
    EvD K S (tChain (rI0 fun i j => .bl (f i j)) (rI0 fun i j => .bl (g i j)) ta tb tc) σ H (.bool (f i j && g j k)) := fun H1 e Q q =>
  ha.int H1 e _ fun H2 e2 => hb.int H2 (e.trans e2) _ fun H3 e3 => ⟨i, j, rfl, rfl, f i j, rfl, by
    cases hf : f i j with
    | true =>
      show tc σ H3 _
      refine hc.int H3 ((e.trans e2).trans e3) _ fun H4 e4 => ⟨j, k, rfl, rfl, q _ H4 ((e2.trans e3).trans e4) ?_⟩
      rw [hf]
      all_goals rfl
    | false =>
      show Q (.bl false) H3
      refine q _ H3 (e2.trans e3) ?_
      rw [hf]
      all_goals rfl⟩
/-- the same where the middle is text -/
theorem d_chainS {f g : Str → Str → Bool} {z : Str} (ha : EvD K S ta σ H (.str x)) (hb : EvD K S tb σ H (.str y)) (hc : EvD K S tc σ H (.str z)) :
    EvD K S (tChain (fun x y H Q => ∃ i j, x = .str i ∧ y = .str j ∧ Q (.bl (f i j)) H) (fun x y H Q => ∃ i j, x = .str i ∧ y = .str j ∧ Q (.bl (g i j)) H) ta tb tc) σ H (.bool (f x y && g y z)) := fun H1 e Q q =>
  ha.str H1 e _ fun H2 e2 => hb.str H2 (e.trans e2) _ fun H3 e3 => ⟨x, y, rfl, rfl, f x y, rfl, by
    cases hf : f x y with
    | true =>
      show tc σ H3 _
      refine hc.str H3 ((e.trans e2).trans e3) _ fun H4 e4 => ⟨y, z, rfl, rfl, q _ H4 ((e2.trans e3).trans e4) ?_⟩
      rw [hf]
      all_goals rfl
    | false =>
      show Q (.bl false) H3
      refine q _ H3 (e2.trans e3) ?_
      rw [hf]
      all_goals rfl⟩
/-! sequences -/
theorem atI_rp {n : Int} {xs : List V} (h : RpL K H ds xs) (e : atI ds n = some d) : ∃ v, atI xs n = some v ∧ Rp K H d v := by
  unfold atI at e ⊢
  rw [h.length]
  cases hk : ixN ds.length n with
  | none =>
    rw [hk] at e
    cases e
  | some k =>
    rw [hk] at e
    exact h.get (i := k) (d := d) e
theorem d_ixL (ha : EvD K S ta σ H (.list ds)) (hb : EvD K S tb σ H (.int i)) (hi : atI ds i = some d) : EvD K S (tOp (rIxL K) ta tb) σ H d := fun H1 e Q q =>
  ha H1 e _ fun v H2 e2 r => hb.int H2 (e.trans e2) _ fun H3 e3 => by
    obtain ⟨a, xs, rfl, hs, hl⟩ := r.ex (lo_ex e3)
    obtain ⟨w, hw, rw⟩ := atI_rp hl hi
    exact ⟨a, xs, i, w, rfl, rfl, (Rx.of lo_sub).l hs, hw, q w H3 (e2.trans e3) rw⟩
theorem d_ixT (ha : EvD K S ta σ H (.tuple ds)) (hb : EvD K S tb σ H (.int i)) (hi : atI ds i = some d) : EvD K S (tOp (rIxT K) ta tb) σ H d := fun H1 e Q q =>
  ha H1 e _ fun v H2 e2 r => hb.int H2 (e.trans e2) _ fun H3 e3 => by
    obtain ⟨a, xs, rfl, hs, hl⟩ := r.ex (lo_ex e3)
    obtain ⟨w, hw, rw⟩ := atI_rp hl hi
    exact ⟨a, xs, i, w, rfl, rfl, (Rx.of lo_sub).t hs, hw, q w H3 (e2.trans e3) rw⟩
/-- what is owned: a list of data at p -/
structure Own (K : PySem.W.Frag) (S : List Addr) (H : Hp) (p : Addr) (ds : List PyData) : Prop where
  mem : p ∈ S
  at_ : ∃ xs, H p = some (.lst xs) ∧ RpL K (Lo S H) ds xs
theorem Own.ex {p : Addr} (h : Own K S H p ds) (e : Ex H H') : Own K S H' p ds := ⟨h.mem, let ⟨xs, h1, h2⟩ := h.at_; ⟨xs, e p _ h1, h2.ex (lo_ex e)⟩⟩
theorem d_ixO {n : Nat} {p : Addr} (hv : σ[n]? = some (some (.ref p))) (o : Own K S H p ds) (hb : EvD K S tb σ H (.int i)) (hi : atI ds i = some d) : EvD K S (tOp (rIxL K) (tVar n) tb) σ H d := fun H1 e Q q =>
  ⟨.ref p, hv, hb.int H1 e _ fun H2 e2 => by
    obtain ⟨xs, h1, h2⟩ := (o.ex (e.trans e2)).at_
    obtain ⟨w, hw, rw⟩ := atI_rp h2 hi
    exact ⟨p, xs, i, w, rfl, rfl, sq_of h1, hw, q w H2 e2 rw⟩⟩
theorem c_len {X : Cx} : CallR X (.builtin "len") (rLenS X.K) := call_len_seq
theorem d_lenL (ha : EvD K S ta σ H (.list ds)) : EvD K S (tCB (rLenS K) (tCons ta tNil)) σ H (.int ds.length) := fun H1 e Q q =>
  ha H1 e _ fun v H2 e2 r => by
    obtain ⟨a, xs, rfl, hs, hl⟩ := r
    refine ⟨a, xs, rfl, Or.inl ((Rx.of lo_sub).l hs), ?_⟩
    rw [hl.length]
    exact q _ H2 e2 rfl
theorem d_lenT (ha : EvD K S ta σ H (.tuple ds)) : EvD K S (tCB (rLenS K) (tCons ta tNil)) σ H (.int ds.length) := fun H1 e Q q =>
  ha H1 e _ fun v H2 e2 r => by
    obtain ⟨a, xs, rfl, hs, hl⟩ := r
    refine ⟨a, xs, rfl, Or.inr ((Rx.of lo_sub).t hs), ?_⟩
    rw [hl.length]
    exact q _ H2 e2 rfl
theorem d_lenO {n : Nat} {p : Addr} (hv : σ[n]? = some (some (.ref p))) (o : Own K S H p ds) : EvD K S (tCB (rLenS K) (tCons (tVar n) tNil)) σ H (.int ds.length) := fun H1 e Q q => by
  refine ⟨.ref p, hv, ?_⟩
  obtain ⟨xs, h1, h2⟩ := (o.ex e).at_
  refine ⟨p, xs, rfl, Or.inl (sq_of h1), ?_⟩
  rw [h2.length]
  exact q _ H1 (Ex.refl _) rfl
def rLenX : List V → Hp → VK → Prop := fun xs H Q => ∃ z, xs = [.str z] ∧ z.length ≤ sizeLine ∧ Q (.int z.length) H
theorem c_lenS {X : Cx} : CallR X (.builtin "len") rLenX := call_len_str
theorem d_lenS (ha : EvD K S ta σ H (.str x)) (hz : x.length ≤ sizeLine) : EvD K S (tCB rLenX (tCons ta tNil)) σ H (.int x.length) := fun H1 e Q q =>
  ha.str H1 e _ fun H2 e2 => ⟨x, rfl, hz, q _ H2 e2 rfl⟩
/-- a tuple of sequences: list(..), tuple(..) -/
theorem c_list {X : Cx} : CallR X (.type "list") (rListS X.K) := call_list_of
theorem new_rp {p : Addr} {o : HO} {xs : List V} (hS : Dom S H) (hp : H p = none) (r : RpL K (Lo S H) ds xs) : RpL K (Lo (p :: S) (upd H p o)) ds xs := by
  rw [lo_upd_in (List.mem_cons_self ..)]
  refine r.ex fun a o h => ?_
  have hn : a ≠ p := ne_of_none (lo_sub a o h) hp
  by_cases hm : a ∈ S
  · rw [lo_in hm] at h
    cases h
  · rw [lo_out hm] at h
    rw [lo_out (fun z => (List.mem_cons.mp z).elim hn hm)]
    exact h
theorem n_listL (hS : Dom S H) (ha : EvD K S ta σ H (.list ds)) : EvN K S (tCB (rListS K) (tCons ta tNil)) σ H ds := fun H1 e Q q =>
  ha H1 e _ fun v H2 e2 r => by
    obtain ⟨a, xs, rfl, hs, hl⟩ := r
    exact ⟨a, xs, rfl, Or.inl ((Rx.of lo_sub).l hs), fun l hl' => q l xs _ (fresh_back e2 hl') (e2.trans (Ex.new hl')) upd_same (new_rp (hS.ex (e.trans e2)) hl' hl)⟩
theorem n_listT (hS : Dom S H) (ha : EvD K S ta σ H (.tuple ds)) : EvN K S (tCB (rListS K) (tCons ta tNil)) σ H ds := fun H1 e Q q =>
  ha H1 e _ fun v H2 e2 r => by
    obtain ⟨a, xs, rfl, hs, hl⟩ := r
    exact ⟨a, xs, rfl, Or.inr ((Rx.of lo_sub).t hs), fun l hl' => q l xs _ (fresh_back e2 hl') (e2.trans (Ex.new hl')) upd_same (new_rp (hS.ex (e.trans e2)) hl' hl)⟩
def rTupS (K : PySem.W.Frag) : List V → Hp → VK → Prop := fun xs H Q => ∃ p ys, xs = [.ref p] ∧ ((SqL K H p ys ∧ ∀ l, H l = none → Q (.ref l) (upd H l (.tup ys))) ∨ (SqT K H p ys ∧ Q (.ref p) H))
theorem c_tuple {X : Cx} : CallR X (.type "tuple") (rTupS X.K) := call_tuple_of
/-- a new tuple at p -/
theorem new_tup {p : Addr} {xs : List V} (hS : Dom S H) (hp : H p = none) (r : RpL K (Lo S H) ds xs) : Rp K (Lo S (upd H p (.tup xs))) (.tuple ds) (.ref p) := by
  have ho := hS.out hp
  refine Rp.tupD (xs := xs) ?_ (r.ex (lo_ex (Ex.new hp)))
  rw [lo_out ho, upd_same]
theorem d_tupL (hS : Dom S H) (ha : EvD K S ta σ H (.list ds)) : EvD K S (tCB (rTupS K) (tCons ta tNil)) σ H (.tuple ds) := fun H1 e Q q =>
  ha H1 e _ fun v H2 e2 r => by
    obtain ⟨a, xs, rfl, hs, hl⟩ := r
    exact ⟨a, xs, rfl, Or.inl ⟨(Rx.of lo_sub).l hs, fun l hl' => q _ _ (e2.trans (Ex.new hl')) (new_tup (hS.ex (e.trans e2)) hl' hl)⟩⟩
theorem d_catT (hS : Dom S H) (ha : EvD K S ta σ H (.tuple ds)) (hb : EvD K S tb σ H (.tuple es)) (hz : ds.length + es.length ≤ sizeLine) : EvD K S (tOp (rCatA K) ta tb) σ H (.tuple (ds ++ es)) := fun H1 e Q q =>
  ha H1 e _ fun v H2 e2 r => hb H2 (e.trans e2) _ fun w H3 e3 r2 => by
    obtain ⟨a, xs, rfl, hs, hl⟩ := r.ex (lo_ex e3)
    obtain ⟨b, ys, rfl, hs2, hl2⟩ := r2
    have l1 := hl.length
    have l2 := hl2.length
    refine ⟨a, b, xs, ys, rfl, rfl, (Rx.of lo_sub).t hs, (Rx.of lo_sub).t hs2, by omega, fun h => ?_, fun _ h => ?_, fun _ _ p hp => ?_⟩
    · subst h
      have hd : ds = [] := List.eq_nil_of_length_eq_zero l1.symm
      subst hd
      exact q _ H3 (e2.trans e3) ⟨b, ys, rfl, hs2, hl2⟩
    · subst h
      have hd : es = [] := List.eq_nil_of_length_eq_zero l2.symm
      subst hd
      rw [List.append_nil] at q
      exact q _ H3 (e2.trans e3) ⟨a, xs, rfl, hs, hl⟩
    · exact q _ _ ((e2.trans e3).trans (Ex.new hp)) (new_tup (hS.ex ((e.trans e2).trans e3)) hp (hl.append hl2))
theorem d_slT (hS : Dom S H) {tl th : TO} {lo hi : Option Int} (ha : EvD K S ta σ H (.tuple ds)) (h1 : EvO tl σ H lo) (h2 : EvO th σ H hi) :
    EvD K S (tSl (rSlA K) ta tl th) σ H (.tuple ((ds.drop (HT.sIx ds.length 0 lo)).take (HT.sIx ds.length ds.length hi - HT.sIx ds.length 0 lo))) := fun H1 e Q q =>
  ha H1 e _ fun v H2 e2 r => h1 H2 (e.trans e2) _ fun H3 e3 => h2 H3 ((e.trans e2).trans e3) _ fun H4 e4 => by
    obtain ⟨a, xs, rfl, hs, hl⟩ := r.ex (lo_ex (e3.trans e4))
    have l1 := hl.length
    refine ⟨a, xs, rfl, (Rx.of lo_sub).t hs, fun h => ?_, fun _ p hp => ?_⟩
    · rw [l1] at h
      rw [h.1, h.2, List.drop_zero, Nat.sub_zero, List.take_length] at q
      exact q _ H4 ((e2.trans e3).trans e4) ⟨a, xs, rfl, hs, hl⟩
    · refine q _ _ (((e2.trans e3).trans e4).trans (Ex.new hp)) ?_
      have hc : cutV xs lo hi = (xs.drop (HT.sIx ds.length 0 lo)).take (HT.sIx ds.length ds.length hi - HT.sIx ds.length 0 lo) := by
        unfold cutV
        rw [l1]
      rw [hc]
      exact new_tup (hS.ex (((e.trans e2).trans e3).trans e4)) hp ((hl.drop _).take _)
theorem n_slL (hS : Dom S H) {tl th : TO} {lo hi : Option Int} (ha : EvD K S ta σ H (.list ds)) (h1 : EvO tl σ H lo) (h2 : EvO th σ H hi) :
    EvN K S (tSl (rSlL K) ta tl th) σ H ((ds.drop (HT.sIx ds.length 0 lo)).take (HT.sIx ds.length ds.length hi - HT.sIx ds.length 0 lo)) := fun H1 e Q q =>
  ha H1 e _ fun v H2 e2 r => h1 H2 (e.trans e2) _ fun H3 e3 => h2 H3 ((e.trans e2).trans e3) _ fun H4 e4 => by
    obtain ⟨a, xs, rfl, hs, hl⟩ := r.ex (lo_ex (e3.trans e4))
    have l1 := hl.length
    refine ⟨a, xs, rfl, (Rx.of lo_sub).l hs, fun p hp => ?_⟩
    refine q p _ _ (fresh_back ((e2.trans e3).trans e4) hp) (((e2.trans e3).trans e4).trans (Ex.new hp)) upd_same ?_
    have hc : cutV xs lo hi = (xs.drop (HT.sIx ds.length 0 lo)).take (HT.sIx ds.length ds.length hi - HT.sIx ds.length 0 lo) := by
      unfold cutV
      rw [l1]
    rw [hc]
    exact new_rp (hS.ex (((e.trans e2).trans e3).trans e4)) hp ((hl.drop _).take _)
theorem o_none : EvO tNoPart σ H none := eo_none
theorem o_some {n : Int} (h : EvD K S te σ H (.int n)) : EvO (tPart te) σ H (some n) := eo_some h.int
/-- list * n -/
theorem n_rep (hS : Dom S H) (ha : EvN K S ta σ H ds) (hb : ∀ H1, Ex H H1 → ∀ T, EvD K T tb σ H1 (.int i)) (h1 : 0 ≤ i) (h2 : i < 100000) (hz : ds.length * i.toNat ≤ sizeLine) : EvN K S (tOp rRep ta tb) σ H (List.replicate i.toNat ds).flatten := fun H1 e Q q =>
  ha H1 e _ fun p xs H2 hp e2 hx hl => (hb H2 (e.trans e2) S).int H2 (Ex.refl _) _ fun H3 e3 => by
    have l1 := hl.length
    refine ⟨p, i, xs, rfl, rfl, e3 p _ hx, by omega, by omega, by rw [l1]; exact hz, fun r hr => ?_⟩
    refine q r _ _ (fresh_back (e2.trans e3) hr) ((e2.trans e3).trans (Ex.new hr)) upd_same ?_
    have hl3 : RpL K (Lo S H3) ds xs := (hl.ex (lo_ex e3)).ex (lo_anti fun b hb => List.mem_cons_of_mem _ hb)
    have all : ∀ n : Nat, RpL K (Lo S H3) (List.replicate n ds).flatten (List.replicate n xs).flatten := by
      intro n
      induction n with
      | zero => exact rfl
      | succ n ih =>
        rw [List.replicate_succ, List.replicate_succ, List.flatten_cons, List.flatten_cons]
        exact hl3.append ih
    exact new_rp (hS.ex ((e.trans e2).trans e3)) hr (all _)
/-! sums, all, any -/
theorem ints_rp : ∀ {ns : List Int} {xs : List V}, RpL K H (ns.map PyData.int) xs → xs = ns.map V.int
  | [], _, h => h
  | n :: ns, _, h => by
    obtain ⟨v, vs, rfl, hv, hl⟩ := h
    rw [ints_rp hl, show v = V.int n from hv]
    all_goals rfl
theorem bools_rp : ∀ {bs : List Bool} {xs : List V}, RpL K H (bs.map PyData.bool) xs → xs = bs.map V.bl
  | [], _, h => h
  | n :: ns, _, h => by
    obtain ⟨v, vs, rfl, hv, hl⟩ := h
    rw [bools_rp hl, show v = V.bl n from hv]
    all_goals rfl
theorem d_sum {ns : List Int} (ha : EvD K S ta σ H (.list (ns.map PyData.int))) : EvD K S (tCB (rSum K) (tCons ta tNil)) σ H (.int ns.sum) := fun H1 e Q q =>
  ha H1 e _ fun v H2 e2 r => by
    obtain ⟨a, xs, rfl, hs, hl⟩ := r
    have hx := ints_rp hl
    subst hx
    exact ⟨a, ns, rfl, (Rx.of lo_sub).l hs, q _ H2 e2 rfl⟩
theorem d_all {bs : List Bool} (ha : EvD K S ta σ H (.list (bs.map PyData.bool))) : EvD K S (tCB (rAll K) (tCons ta tNil)) σ H (.bool (bs.all id)) := fun H1 e Q q =>
  ha H1 e _ fun v H2 e2 r => by
    obtain ⟨a, xs, rfl, hs, hl⟩ := r
    have hx := bools_rp hl
    subst hx
    exact ⟨a, bs, rfl, (Rx.of lo_sub).l hs, q _ H2 e2 rfl⟩
theorem d_any {bs : List Bool} (ha : EvD K S ta σ H (.list (bs.map PyData.bool))) : EvD K S (tCB (rAny K) (tCons ta tNil)) σ H (.bool (bs.any id)) := fun H1 e Q q =>
  ha H1 e _ fun v H2 e2 r => by
    obtain ⟨a, xs, rfl, hs, hl⟩ := r
    have hx := bools_rp hl
    subst hx
    exact ⟨a, bs, rfl, (Rx.of lo_sub).l hs, q _ H2 e2 rfl⟩
def rInt : List V → Hp → VK → Prop := fun xs H Q => (∃ i, xs = [.int i] ∧ Q (.int i) H) ∨ ∃ k, xs = [.bl k] ∧ Q (.int (if k then 1 else 0)) H
theorem c_int {X : Cx} : CallR X (.type "int") rInt := call_int1
theorem d_toInt (ha : EvD K S ta σ H (.int i)) : EvD K S (tCB rInt (tCons ta tNil)) σ H (.int i) := fun H1 e Q q => ha.int H1 e _ fun H2 e2 => Or.inl ⟨i, rfl, q _ H2 e2 rfl⟩
/-! dicts -/
def keyB : PyData → Key → Bool
  | .int i, .inl j => decide (i = j)
  | .str x, .inr y => decide (x = y)
  | _, _ => false
def lookD : List (PyData × PyData) → Key → Option PyData
  | [], _ => none
  | (k, d) :: r, x => if keyB k x then some d else lookD r x
theorem keyB_keyD (k x : Key) : keyB (keyD k) x = decide (k = x) := by
  cases k <;> cases x <;> simp [keyB, keyD]
theorem lookD_rp : ∀ {ds : List (PyData × PyData)} {kvs : List (Key × V)} (k : Key), RpD K H ds kvs → (valV kvs k = none ∧ lookD ds k = none) ∨ ∃ v d, valV kvs k = some v ∧ lookD ds k = some d ∧ Rp K H d v
  | [], _, k, h => by
    cases (show _ = [] from h)
    exact Or.inl ⟨rfl, rfl⟩
  | (a, b) :: ds, _, k, h => by
    obtain ⟨k', v, r, rfl, rfl, hv, hl⟩ := h
    by_cases e : k' = k
    · refine Or.inr ⟨v, b, ?_, ?_, hv⟩
      · unfold valV
        rw [List.find?_cons_of_pos (by simp [e])]
        all_goals rfl
      · show (if keyB (keyD k') k then some b else lookD ds k) = some b
        rw [keyB_keyD, decide_eq_true e, if_pos rfl]
    · have e1 : valV ((k', v) :: r) k = valV r k := by
        unfold valV
        rw [List.find?_cons_of_neg (by simp [e])]
      have e2 : lookD ((keyD k', b) :: ds) k = lookD ds k := by
        show (if keyB (keyD k') k then some b else lookD ds k) = lookD ds k
        rw [keyB_keyD, decide_eq_false e, if_neg Bool.false_ne_true]
      rw [e1, e2]
      exact lookD_rp k hl
theorem rp_key {k : Key} {v : V} (h : Rp K H (keyD k) v) : v = kV k := by
  cases k with
  | inl i => exact h
  | inr x => exact h
theorem d_dget {kvs : List (PyData × PyData)} {k : Key} (ha : EvD K S ta σ H (.dict kvs)) (hb : EvD K S tb σ H (keyD k)) (hl : lookD kvs k = some d) : EvD K S (tDGet ta tb) σ H d := fun H1 e Q q =>
  ha H1 e _ fun v H2 e2 r => hb H2 (e.trans e2) _ fun w H3 e3 r2 => by
    obtain ⟨a, ws, rfl, hs, hd⟩ := r.ex (lo_ex e3)
    have hw := rp_key r2
    rcases lookD_rp k hd with ⟨_, h0⟩ | ⟨u, d', h1, h2, h3⟩
    · rw [hl] at h0
      cases h0
    · rw [hl] at h2
      cases h2
      exact ⟨a, u, rfl, Or.inl ⟨ws, k, ex_rd lo_sub hs, hw, h1.symm⟩, q u H3 (e2.trans e3) h3⟩
theorem d_din {kvs : List (PyData × PyData)} {k : Key} (hb : EvD K S tb σ H (keyD k)) (ha : EvD K S ta σ H (.dict kvs)) : EvD K S (tDIn tb ta) σ H (.bool (lookD kvs k).isSome) := fun H1 e Q q =>
  hb H1 e _ fun w H2 e2 r2 => ha H2 (e.trans e2) _ fun v H3 e3 r => by
    obtain ⟨a, ws, rfl, hs, hd⟩ := r
    have hw := rp_key r2
    refine ⟨a, valV ws k, rfl, Or.inl ⟨ws, k, ex_rd lo_sub hs, hw, rfl⟩, q _ H3 (e2.trans e3) ?_⟩
    rcases lookD_rp k hd with ⟨h1, h0⟩ | ⟨u, d', h1, h2, h3⟩
    · rw [h1, h0]
      all_goals rfl
    · rw [h1, h2]
      all_goals rfl
theorem RpD.length : ∀ {ds : List (PyData × PyData)} {kvs : List (Key × V)}, RpD K H ds kvs → kvs.length = ds.length
  | [], _, h => by cases (show _ = [] from h); rfl
  | (_, _) :: ds, _, h => by
    obtain ⟨k, v, r, rfl, _, _, hl⟩ := h
    rw [List.length_cons, List.length_cons, hl.length]
/-! isinstance of a built-in class -/
def tyN : PyData → String
  | .none => "NoneType"
  | .bool _ => "bool"
  | .int _ => "int"
  | .str _ => "str"
  | .list _ => "list"
  | .tuple _ => "tuple"
  | .dict _ => "dict"
theorem rp_ty : ∀ {d : PyData} {v : V}, Rp K (Lo S H) d v → TyX K H v (.type (tyN d))
  | .none, _, h => by cases (show _ = _ from h); exact .base .non
  | .bool _, _, h => by cases (show _ = _ from h); exact .base (.bl _)
  | .int _, _, h => by cases (show _ = _ from h); exact .base (.int _)
  | .str _, _, h => by cases (show _ = _ from h); exact .base (.str _)
  | .list _, _, h => by
    obtain ⟨a, xs, rfl, hs, _⟩ := h
    rcases hs with (h | ⟨o, h⟩) | ⟨o, its, n, h1, h2, _⟩
    · exact .base (.lst (lo_sub a _ h))
    · exact .base (.frz (lo_sub a _ h))
    · exact .kList h1 h2
  | .tuple _, _, h => by
    obtain ⟨a, xs, rfl, hs, _⟩ := h
    rcases hs with (h | ⟨o, h⟩) | ⟨o, its, n, h1, h2, _⟩
    · exact .base (.tup (lo_sub a _ h))
    · exact .fTuple (lo_sub a _ h)
    · exact .kTuple h1 h2
  | .dict _, _, h => by
    obtain ⟨a, xs, rfl, hs, _⟩ := h
    rcases hs with h | ⟨o, h⟩
    · exact .base (.dK (lo_sub a _ h))
    · exact .fDict (lo_sub a _ h)
theorem d_isi {T : String} (ha : EvD K S ta σ H d) (hk : kitB (tyN d) T = some b) : EvD K S (tCB (rIsi K) (tCons ta (tCons (tC (.ty T)) tNil))) σ H (.bool b) := fun H1 e Q q =>
  ha H1 e _ fun v H2 e2 r => ⟨v, .ty T, .type (tyN d), .type T, b, rfl, .ty T, rp_ty r, kit_ty hk, q _ H2 e2 rfl⟩
/-! a call of a def that works on data -/
/-- given data that R relates to a datum, that datum is made; what stood stays -/
def PSp (K : PySem.W.Frag) (R : List PyData → PyData → Prop) : Sp := fun vs H Q _ => ∃ S ds d, Dom S H ∧ RpL K (Lo S H) ds vs ∧ R ds d ∧ ∀ v H', Ex H H' → Rp K (Lo S H') d v → Q v H'
theorem d_call {R : List PyData → PyData → Prop} {E : XK} (hS : Dom S H) (ha : EvDs K S tA σ H ds) (hR : R ds d) : EvD K S (tCall (PSp K R) [] E tA) σ H d := fun H1 e Q q =>
  ha H1 e _ fun vs H2 e2 r => by
    refine ⟨S, ds, d, hS.ex (e.trans e2), ?_, hR, fun v H3 e3 r3 => q v H3 (e2.trans e3) r3⟩
    rw [List.append_nil]
    exact r
/-- a new list is made -/
def NSp (K : PySem.W.Frag) (R : List PyData → List PyData → Prop) : Sp := fun vs H Q _ => ∃ S ds es, Dom S H ∧ RpL K (Lo S H) ds vs ∧ R ds es ∧ ∀ p xs H', H p = none → Ex H H' → H' p = some (.lst xs) → RpL K (Lo (p :: S) H') es xs → Q (.ref p) H'
theorem n_call {R : List PyData → List PyData → Prop} {E : XK} (hS : Dom S H) (ha : EvDs K S tA σ H ds) (hR : R ds es) : EvN K S (tCall (NSp K R) [] E tA) σ H es := fun H1 e Q q =>
  ha H1 e _ fun vs H2 e2 r => by
    refine ⟨S, ds, es, hS.ex (e.trans e2), ?_, hR, fun p xs H3 hp e3 hx r3 => q p xs H3 (fresh_back e2 hp) (e2.trans e3) hx r3⟩
    rw [List.append_nil]
    exact r
/-! ### statements -/
variable {D : Ends} {tu tw tz : TS} {n : Nat}
theorem sd_asg (h : EvD K S te σ H d) (k : ∀ v H1, Ex H H1 → Rp K (Lo S H1) d v → D.nx (σ.set n (some v)) H1) : tAsg te (gName n) D σ H := h H (Ex.refl H) _ k
theorem sn_asg (h : EvN K S te σ H ds) (k : ∀ p xs H1, H p = none → Ex H H1 → H1 p = some (.lst xs) → RpL K (Lo (p :: S) H1) ds xs → D.nx (σ.set n (some (.ref p))) H1) : tAsg te (gName n) D σ H := h H (Ex.refl H) _ k
theorem qd_asg (h : EvD K S te σ H d) (k : ∀ v H1, Ex H H1 → Rp K (Lo S H1) d v → tz D (σ.set n (some v)) H1) : tSeq (tAsg te (gName n)) tz D σ H := h H (Ex.refl H) _ k
theorem qn_asg (h : EvN K S te σ H ds) (k : ∀ p xs H1, H p = none → Ex H H1 → H1 p = some (.lst xs) → RpL K (Lo (p :: S) H1) ds xs → tz D (σ.set n (some (.ref p))) H1) : tSeq (tAsg te (gName n)) tz D σ H := h H (Ex.refl H) _ k
theorem sd_ret (h : EvD K S te σ H d) (k : ∀ v H1, Ex H H1 → Rp K (Lo S H1) d v → D.rt v H1) : tRet te D σ H := h H (Ex.refl H) _ k
theorem sn_ret (h : EvN K S te σ H ds) (k : ∀ p xs H1, H p = none → Ex H H1 → H1 p = some (.lst xs) → RpL K (Lo (p :: S) H1) ds xs → D.rt (.ref p) H1) : tRet te D σ H := h H (Ex.refl H) _ k
theorem sd_drop (h : EvD K S te σ H d) (k : ∀ H1, Ex H H1 → D.nx σ H1) : tDrop te D σ H := h H (Ex.refl H) _ fun _ H1 e _ => k H1 e
theorem qd_drop (h : EvD K S te σ H d) (k : ∀ H1, Ex H H1 → tz D σ H1) : tSeq (tDrop te) tz D σ H := h H (Ex.refl H) _ fun _ H1 e _ => k H1 e
theorem own_new {p : Addr} {xs : List V} (h : H p = some (.lst xs)) (r : RpL K (Lo (p :: S) H) ds xs) : Own K (p :: S) H p ds := ⟨List.mem_cons_self .., xs, h, r⟩
theorem Own.put {p : Addr} {xs : List V} (hm : p ∈ S) (r : RpL K (Lo S H) ds xs) : Own K S (upd H p (.lst xs)) p ds := ⟨hm, xs, upd_same, by rw [lo_upd_in hm]; exact r⟩
theorem Own.keep {p q : Addr} {o : HO} (w : Own K S H p ds) (hq : q ∈ S) (hn : p ≠ q) : Own K S (upd H q o) p ds := ⟨w.mem, let ⟨xs, h1, h2⟩ := w.at_; ⟨xs, by rw [upd_ne hn]; exact h1, by rw [lo_upd_in hq]; exact h2⟩⟩
/-- xs.append(e), xs owned -/
theorem sd_app {p : Addr} {m : Nat} (hv : σ[m]? = some (some (.ref p))) (o : Own K S H p ds) (h : EvD K S te σ H d) (hz : ds.length < 100000) (k : ∀ H1, Ex (Lo S H) (Lo S H1) → Dom S H1 → (∀ q, q ∈ S → q ≠ p → H1 q = H q) → Own K S H1 p (ds ++ [d]) → D.nx σ H1)
    (hS : Dom S H) : tDrop (tBM K "list" rAppend (tVar m) (tCons te tNil)) D σ H := by
  obtain ⟨xs, h1, h2⟩ := o.at_
  refine ⟨.ref p, hv, Or.inl ⟨rfl, xs, sq_of h1⟩, h H (Ex.refl H) _ fun v H2 e2 r => ⟨p, xs, v, rfl, rfl, e2 p _ h1, sz_lt (by rw [h2.length]; exact hz), ?_⟩⟩
  refine k _ (ex_upd o.mem (lo_ex e2)) ((hS.ex e2).upd) (fun q hq hn => ?_) (Own.put o.mem ((h2.ex (lo_ex e2)).append ⟨v, [], rfl, r, rfl⟩))
  rw [upd_ne hn]
  cases hH : H q with
  | none => exact absurd hH (hS q hq)
  | some u => exact e2 q u hH
end

/-! ### comprehensions -/
section
variable {K : PySem.W.Frag} {S : List Addr} {σ : L2.St} {H : Hp} {te tl : TE} {tt : TT} {j : Nat} {vs : List Nat}
/-- what a turn may take for granted: more is owned, all that was to be read still is -/
structure In (S T : List Addr) (H H1 : Hp) : Prop where
  rx : Rx H H1
  lo : Rx (Lo S H) (Lo T H1)
  dom : Dom T H1
theorem In.self (hS : Dom S H) : In S S H H := ⟨Rx.of (Ex.refl _), Rx.of (Ex.refl _), hS⟩
theorem In.trans {T U : List Addr} {H1 H2 : Hp} (a : In S T H H1) (b : In T U H1 H2) : In S U H H2 := ⟨a.rx.trans b.rx, a.lo.trans b.lo, b.dom⟩
theorem In.of {H1 : Hp} (hS : Dom S H) (e : Ex H H1) : In S S H H1 := ⟨Rx.of e, Rx.of (lo_ex e), hS.ex e⟩
theorem In.ex {T : List Addr} {H1 H2 : Hp} (a : In S T H H1) (e : Ex H1 H2) : In S T H H2 := ⟨a.rx.trans (Rx.of e), a.lo.trans (Rx.of (lo_ex e)), a.dom.ex e⟩
structure Acc (K : PySem.W.Frag) (S : List Addr) (H : Hp) (Dl : Addr) (ds : List PyData) (H' : Hp) : Prop where
  new : H Dl = none
  ex : Ex H H'
  own : Own K (Dl :: S) H' Dl ds
theorem Acc.in_ {Dl : Addr} {ds : List PyData} {H' : Hp} (hS : Dom S H) (a : Acc K S H Dl ds H') : In S (Dl :: S) H H' := by
  obtain ⟨xs, h1, h2⟩ := a.own.at_
  refine ⟨Rx.of a.ex, Rx.of fun b o h => ?_, (hS.ex a.ex).cons h1⟩
  have hb := lo_sub b o h
  by_cases hm : b ∈ S
  · rw [lo_in hm] at h
    cases h
  · rw [lo_out (fun z => (List.mem_cons.mp z).elim (ne_of_none hb a.new) hm)]
    exact a.ex b o hb
theorem acc_turn {Dl : Addr} {acc : List PyData} {H' : Hp} {σ2 : L2.St} {b : Bool} {d : PyData} (hS : Dom S H) (a : Acc K S H Dl acc H') (hz : acc.length < 100000) (ht : EvT tt σ2 H' b) (he : b = true → EvD K (Dl :: S) te σ2 H' d) :
    tt σ2 H' fun c H3 => if c = true then te σ2 H3 fun y H4 => ∃ ys, H4 Dl = some (.lst ys) ∧ ys.length < sizeLine ∧ Acc K S H Dl (if b then acc ++ [d] else acc) (upd H4 Dl (.lst (ys ++ [y]))) else Acc K S H Dl (if b then acc ++ [d] else acc) H3 := by
  refine ht H' (Ex.refl _) _ fun H3 e3 => ?_
  cases b with
  | true =>
    show te σ2 H3 fun y H4 => ∃ ys, H4 Dl = some (.lst ys) ∧ ys.length < sizeLine ∧ Acc K S H Dl (acc ++ [d]) (upd H4 Dl (.lst (ys ++ [y])))
    refine he rfl H3 e3 _ fun y H4 e4 r => ?_
    obtain ⟨ys, h1, h2⟩ := a.own.at_
    refine ⟨ys, e4 Dl _ (e3 Dl _ h1), sz_lt (by rw [h2.length]; exact hz), a.new, Ex.mut ((a.ex.trans e3).trans e4) a.new, Own.put (List.mem_cons_self ..) ?_⟩
    exact (h2.ex (lo_ex (e3.trans e4))).append ⟨y, [], rfl, r, rfl⟩
  | false => exact ⟨a.new, a.ex.trans e3, a.own.ex e3⟩
theorem take_get {α : Type} {xs : List α} {i : Nat} {x : α} (h : xs[i]? = some x) : xs.take (i + 1) = xs.take i ++ [x] := by
  rw [List.take_add_one, h]
  all_goals rfl
theorem fm_turn {ds : List PyData} {i : Nat} {d : PyData} {p : PyData → Bool} {F : PyData → PyData} (h : ds[i]? = some d) : ((ds.take (i + 1)).filter p).map F = if p d then ((ds.take i).filter p).map F ++ [F d] else ((ds.take i).filter p).map F := by
  rw [take_get h, List.filter_append, List.map_append]
  cases hp : p d with
  | true =>
    rw [List.filter_cons_of_pos hp]
    all_goals rfl
  | false =>
    rw [List.filter_cons_of_neg (by rw [hp]; exact Bool.false_ne_true)]
    show _ ++ [] = _
    rw [List.append_nil]
    all_goals rfl
variable {J : It} {G : Hp → Prop} {Y : Nat → Hp → V → Hp → Prop} {ds : List PyData} {H1 : Hp} {Q : VK}
/-- a comprehension over a walk that gives data -/
theorem lc_data (w : Walk J ds.length G Y) (p : PyData → Bool) (F : PyData → PyData) (hS : Dom S H1) (hz : ds.length ≤ 50000) (hw : ∀ x, wipe ((wipe σ vs).set j (some x)) vs = wipe σ vs) (hG : ∀ H', Ex H1 H' → G H')
    (hy : ∀ i H' x H'', i < ds.length → Ex H1 H' → Y i H' x H'' → H'' = H' ∧ ∃ d, ds[i]? = some d ∧ ∀ T, Rx (Lo S H1) (Lo T H') → Rp K (Lo T H') d x)
    (ht : ∀ d v T H', d ∈ ds → In S T H1 H' → Rp K (Lo T H') d v → EvT tt ((wipe σ vs).set j (some v)) H' (p d))
    (he : ∀ d v T H', d ∈ ds → In S T H1 H' → Rp K (Lo T H') d v → p d = true → EvD K T te ((wipe σ vs).set j (some v)) H' (F d)) (Dl : Addr) (hD : H1 Dl = none) (q : ∀ H', Acc K S H1 Dl ((ds.filter p).map F) H' → Q (.ref Dl) H') :
    ∃ W : Nat → Nat → Hp → Prop, (∃ m, W 0 m (upd H1 Dl (.lst []))) ∧ ∀ i m H, W i m H →
      (J.stop i H ∧ Q (.ref Dl) H) ∨ (J.go i H ∧ ∃ Nx : Hp → Prop, (∀ H', Nx H' → ∃ m', m' < m ∧ W (i + 1) m' H') ∧ ∀ x H', J.yld i H x H' → gName j x (wipe σ vs) H' fun σ2 H2 => wipe σ2 vs = wipe σ vs ∧ tt σ2 H2 fun b H3 =>
        if b = true then te σ2 H3 fun y H4 => ∃ acc, H4 Dl = some (.lst acc) ∧ acc.length < sizeLine ∧ Nx (upd H4 Dl (.lst (acc ++ [y]))) else Nx H3) := by
  refine lc_it w (g := gName j) (Qd := fun H' => Q (.ref Dl) H') (fun i H' => Acc K S H1 Dl (((ds.take i).filter p).map F) H') ⟨hD, Ex.new hD, own_new upd_same rfl⟩ (fun i H' _ ac => hG H' ac.ex) (fun i x H' H'' hi ac y => ?_) (fun H' ac => ?_)
  · obtain ⟨rfl, d, hd, hr⟩ := hy i H' x H'' hi ac.ex y
    have hm : d ∈ ds := List.mem_of_getElem? hd
    have il := ac.in_ hS
    have hlen : (((ds.take i).filter p).map F).length < 100000 := by
      rw [List.length_map]
      have := List.length_filter_le p (ds.take i)
      rw [List.length_take] at this
      omega
    have t := acc_turn (te := te) (d := F d) hS ac hlen (ht d x _ _ hm il (hr _ il.lo)) (fun hp => he d x _ _ hm il (hr _ il.lo) hp)
    rw [fm_turn hd]
    exact ⟨hw x, t⟩
  · rw [List.take_length] at ac
    exact q H' ac
theorem Acc.fin {Dl : Addr} {H' : Hp} (e : Ex H H1) (a : Acc K S H1 Dl ds H') : ∃ xs, H Dl = none ∧ Ex H H' ∧ H' Dl = some (.lst xs) ∧ RpL K (Lo (Dl :: S) H') ds xs := by
  obtain ⟨ys, h1, h2⟩ := a.own.at_
  exact ⟨ys, fresh_back e a.new, e.trans a.ex, h1, h2⟩
/-- [e for x in l if t], l a list -/
theorem n_lcL (p : PyData → Bool) (F : PyData → PyData) (hS : Dom S H) (hl : EvD K S tl σ H (.list ds)) (hz : ds.length ≤ 50000) (hw : ∀ x, wipe ((wipe σ vs).set j (some x)) vs = wipe σ vs)
    (ht : ∀ d v T H1, d ∈ ds → In S T H H1 → Rp K (Lo T H1) d v → EvT tt ((wipe σ vs).set j (some v)) H1 (p d))
    (he : ∀ d v T H1, d ∈ ds → In S T H H1 → Rp K (Lo T H1) d v → p d = true → EvD K T te ((wipe σ vs).set j (some v)) H1 (F d)) :
    EvN K S (tLc (iList K tl) (gName j) tt te vs) σ H ((ds.filter p).map F) := fun H0 e Q q => hl H0 e _ fun v H1 e1 r => by
  obtain ⟨a, xs, rfl, hs, hx⟩ := r
  have i0 := In.of hS (e.trans e1)
  refine ⟨a, rfl, ⟨xs, (Rx.of lo_sub).l hs⟩, fun Dl hD => ?_⟩
  refine lc_data (K := K) (S := S) (hx.length ▸ walk_list (K := K) (a := a) (xs := xs)) p F i0.dom hz hw (fun H' e' => (Rx.of (lo_sub.trans e')).l hs) (fun i H' x H'' lt e' y => ?_) (fun d v T H' m z => ht d v T H' m (i0.trans z)) (fun d v T H' m z => he d v T H' m (i0.trans z)) Dl hD fun H' ac => ?_
  · obtain ⟨d, hd, rd⟩ := hx.getV y.2
    exact ⟨y.1, d, hd, fun T l => rd.rx l⟩
  · obtain ⟨ys, h0, h1, h2, h3⟩ := ac.fin e1
    exact q Dl ys H' h0 h1 h2 h3
/-- l a tuple -/
theorem n_lcT (p : PyData → Bool) (F : PyData → PyData) (hS : Dom S H) (hl : EvD K S tl σ H (.tuple ds)) (hz : ds.length ≤ 50000) (hw : ∀ x, wipe ((wipe σ vs).set j (some x)) vs = wipe σ vs)
    (ht : ∀ d v T H1, d ∈ ds → In S T H H1 → Rp K (Lo T H1) d v → EvT tt ((wipe σ vs).set j (some v)) H1 (p d))
    (he : ∀ d v T H1, d ∈ ds → In S T H H1 → Rp K (Lo T H1) d v → p d = true → EvD K T te ((wipe σ vs).set j (some v)) H1 (F d)) :
    EvN K S (tLc (iTup K tl) (gName j) tt te vs) σ H ((ds.filter p).map F) := fun H0 e Q q => hl H0 e _ fun v H1 e1 r => by
  obtain ⟨a, xs, rfl, hs, hx⟩ := r
  have i0 := In.of hS (e.trans e1)
  refine ⟨a, rfl, ⟨xs, (Rx.of lo_sub).t hs⟩, fun Dl hD => ?_⟩
  refine lc_data (K := K) (S := S) (hx.length ▸ walk_tup (K := K) (a := a) (xs := xs)) p F i0.dom hz hw (fun H' e' => (Rx.of (lo_sub.trans e')).t hs) (fun i H' x H'' lt e' y => ?_) (fun d v T H' m z => ht d v T H' m (i0.trans z)) (fun d v T H' m z => he d v T H' m (i0.trans z)) Dl hD fun H' ac => ?_
  · obtain ⟨d, hd, rd⟩ := hx.getV y.2
    exact ⟨y.1, d, hd, fun T l => rd.rx l⟩
  · obtain ⟨ys, h0, h1, h2, h3⟩ := ac.fin e1
    exact q Dl ys H' h0 h1 h2 h3
/-- over the signs of a text -/
def signs1 (x : Str) : List PyData := x.cps.toList.map fun c => .str ⟨#[c]⟩
theorem n_lcS {x : Str} (p : PyData → Bool) (F : PyData → PyData) (hS : Dom S H) (hl : EvD K S tl σ H (.str x)) (hz : x.cps.size ≤ 50000) (hw : ∀ x, wipe ((wipe σ vs).set j (some x)) vs = wipe σ vs)
    (ht : ∀ d v T H1, d ∈ signs1 x → In S T H H1 → Rp K (Lo T H1) d v → EvT tt ((wipe σ vs).set j (some v)) H1 (p d))
    (he : ∀ d v T H1, d ∈ signs1 x → In S T H H1 → Rp K (Lo T H1) d v → p d = true → EvD K T te ((wipe σ vs).set j (some v)) H1 (F d)) :
    EvN K S (tLc (iStr tl) (gName j) tt te vs) σ H (((signs1 x).filter p).map F) := fun H0 e Q q => hl.str H0 e _ fun H1 e1 => by
  have i0 := In.of hS (e.trans e1)
  have hn : (signs1 x).length = x.cps.size := by
    unfold signs1
    rw [List.length_map, Array.length_toList]
  refine ⟨x, rfl, fun Dl hD => ?_⟩
  refine lc_data (K := K) (S := S) (hn.symm ▸ walk_str (z := x)) p F i0.dom (by rw [hn]; exact hz) hw (fun H' e' => True.intro) (fun i H' v H'' lt e' y => ?_) (fun d v T H' m z => ht d v T H' m (i0.trans z)) (fun d v T H' m z => he d v T H' m (i0.trans z)) Dl hD fun H' ac => ?_
  · obtain ⟨h1, c, h2, h3⟩ := y
    refine ⟨h1, .str ⟨#[c]⟩, ?_, fun T _ => h3⟩
    unfold signs1
    rw [List.getElem?_map, Array.getElem?_toList, h2]
    all_goals rfl
  · obtain ⟨ys, h0, h1, h2, h3⟩ := ac.fin e1
    exact q Dl ys H' h0 h1 h2 h3
/-- over range(n) -/
def nums (n : Nat) : List PyData := (List.range n).map fun i => .int ((i : Nat) : Int)
theorem n_lcR {ta : TA} {n : Nat} (p : PyData → Bool) (F : PyData → PyData) (hS : Dom S H) (hl : EvDs K S ta σ H [.int n]) (hz : n ≤ 50000) (hw : ∀ x, wipe ((wipe σ vs).set j (some x)) vs = wipe σ vs)
    (ht : ∀ d v T H1, d ∈ nums n → In S T H H1 → Rp K (Lo T H1) d v → EvT tt ((wipe σ vs).set j (some v)) H1 (p d))
    (he : ∀ d v T H1, d ∈ nums n → In S T H H1 → Rp K (Lo T H1) d v → p d = true → EvD K T te ((wipe σ vs).set j (some v)) H1 (F d)) :
    EvN K S (tLc (iRng1 ta) (gName j) tt te vs) σ H (((nums n).filter p).map F) := fun H0 e Q q => hl H0 e _ fun us H1 e1 r => by
  obtain ⟨v, r0, rfl, hv, hr⟩ := r
  obtain rfl : v = V.int n := hv
  obtain rfl : r0 = [] := hr
  have i0 := In.of hS (e.trans e1)
  have hn : (nums n).length = n := by
    unfold nums
    rw [List.length_map, List.length_range]
  refine ⟨n, rfl, by omega, by omega, fun Dl hD => ?_⟩
  have hw2 : Walk (Itr 0 (n : Int).toNat) (nums n).length (fun _ => True) (YFn fun i => .int (0 + i)) := by
    rw [hn, Int.toNat_natCast]
    exact walk_range
  refine lc_data (K := K) (S := S) hw2 p F i0.dom (by rw [hn]; exact hz) hw (fun H' e' => True.intro) (fun i H' v H'' lt e' y => ?_) (fun d v T H' m z => ht d v T H' m (i0.trans z)) (fun d v T H' m z => he d v T H' m (i0.trans z)) Dl hD fun H' ac => ?_
  · have y : H'' = H' ∧ v = .int (0 + (i : Nat)) := y
    obtain ⟨h1, rfl⟩ := y
    have hi : i < n := by
      rw [hn] at lt
      exact lt
    refine ⟨h1, .int (i : Nat), ?_, fun T _ => by rw [Int.zero_add]; rfl⟩
    unfold nums
    rw [List.getElem?_map, List.getElem?_range hi]
    all_goals rfl
  · obtain ⟨ys, h0, h1, h2, h3⟩ := ac.fin e1
    exact q Dl ys H' h0 h1 h2 h3
/-- a dict's keys, in order, as data -/
theorem keys_get : ∀ {es : List (PyData × PyData)} {kvs : List (Key × V)} {i : Nat} {kv : Key × V} {H : Hp}, RpD K H es kvs → kvs[i]? = some kv → ∃ d, es[i]? = some (keyD kv.1, d) ∧ Rp K H d kv.2
  | [], _, _, _, _, h, e => by cases (show _ = [] from h); simp at e
  | (a, b) :: ds, _, 0, kv, _, h, e => by
    obtain ⟨k, v, r, rfl, rfl, hv, hl⟩ := h
    cases (show some (k, v) = some kv from e)
    exact ⟨b, rfl, hv⟩
  | (a, b) :: ds, _, i + 1, kv, _, h, e => by
    obtain ⟨k, v, r, rfl, rfl, hv, hl⟩ := h
    exact keys_get (i := i) hl e
theorem rp_kV {k : Key} {H : Hp} : Rp K H (keyD k) (kV k) := by
  cases k <;> rfl
/-- either reading -/
def tAlt (t u : TE) : TE := fun σ H Q => t σ H Q ∨ u σ H Q
theorem pe_alt {X : Cx} {e : Expr} {t u : TE} (h1 : PE X e t) (h2 : PE X e u) : PE X e (tAlt t u) :=
  ⟨fun pins s σ H Q I h => h.elim (h1.run pins s σ H Q I) (h2.run pins s σ H Q I)⟩
/-- a comprehension over a dict: locked here, or locked by a caller already -/
theorem pe_lcKeys {X : Cx} {e : Expr} {t : TE} (h : PE X e t) : PE X e (tAlt (tLockE t) t) := pe_alt (pe_lock h) h
theorem n_lcK {es : List (PyData × PyData)} {i : Nat} {v0 : V} (p : PyData → Bool) (F : PyData → PyData) (hS : Dom S H) (hv : σ[i]? = some (some v0)) (hr : Rp K (Lo S H) (.dict es) v0) (hz : es.length ≤ 50000) (hw : ∀ x, wipe ((wipe σ vs).set j (some x)) vs = wipe σ vs)
    (ht : ∀ d v T H1, d ∈ es.map (·.1) → In S T H H1 → Rp K (Lo T H1) d v → EvT tt ((wipe σ vs).set j (some v)) H1 (p d))
    (he : ∀ d v T H1, d ∈ es.map (·.1) → In S T H H1 → Rp K (Lo T H1) d v → p d = true → EvD K T te ((wipe σ vs).set j (some v)) H1 (F d)) :
    EvN K S (tAlt (tLockE (tLc (iKeys (tVar i)) (gName j) tt te vs)) (tLc (iKeys (tVar i)) (gName j) tt te vs)) σ H (((es.map (·.1)).filter p).map F) := fun H0 e Q q => by
  obtain ⟨a, kvs, rfl, hs, hd⟩ := hr.ex (lo_ex e)
  have h0 : Dom S H0 := hS.ex e
  have hs2 : Rd H0 a (.dK kvs) := ex_rd lo_sub hs
  have ha : ¬ a ∈ S := fun m => by
    rcases hs with z | ⟨o, z⟩ <;> (rw [lo_in m] at z; cases z)
  have hlen : kvs.length = (es.map (·.1)).length := by
    rw [List.length_map, hd.length]
  -- the walk itself, over a heap where the dict is locked
  have core : ∀ (od : Obj) (HL : Hp) (Q' : VK), In S S H0 HL → HL a = some (.frz od (.dK kvs)) → (∀ Dl H', Acc K S HL Dl (((es.map (·.1)).filter p).map F) H' → Q' (.ref Dl) H') → tLc (iKeys (tVar i)) (gName j) tt te vs σ HL Q' := by
    intro od HL Q' i1 hf q'
    refine ⟨.ref a, hv, a, od, rfl, Or.inl ⟨kvs, hf, fun Dl hD => ?_⟩⟩
    have i2 := (In.of hS e).trans i1
    refine lc_data (K := K) (S := S) (hlen ▸ walk_keys (d := a) (o := od) (kvs := kvs)) p F i1.dom (by rw [List.length_map]; exact hz) hw (fun H' e' => e' a _ hf) (fun n H' x H'' lt e' y => ?_) (fun d v T H' m z => ht d v T H' m (i2.trans z)) (fun d v T H' m z => he d v T H' m (i2.trans z)) Dl hD fun H' ac => q' Dl H' ac
    obtain ⟨h1, k, v, h2, rfl⟩ := y
    obtain ⟨d, h3, _⟩ := keys_get hd h2
    refine ⟨h1, keyD k, ?_, fun T _ => rp_kV⟩
    rw [List.getElem?_map, h3]
    all_goals rfl
  rcases hs2 with h | ⟨o, h⟩
  · refine Or.inl ⟨a, .dK kvs, h, True.intro, fun od => ?_⟩
    have hl : Rx H0 (upd H0 a (.frz od (.dK kvs))) := rx_lock h fun _ _ z => nomatch z
    have hl2 : Rx (Lo S H0) (Lo S (upd H0 a (.frz od (.dK kvs)))) := by
      rw [lo_upd_out ha]
      exact rx_lock (by rw [lo_out ha]; exact h) fun _ _ z => nomatch z
    refine core od _ _ ⟨hl, hl2, h0.upd⟩ upd_same fun Dl H' ac => ?_
    have hf : H' a = some (.frz od (.dK kvs)) := ac.ex a _ upd_same
    have hDa : Dl ≠ a := fun z => by
      have := ac.new
      rw [z, upd_same] at this
      cases this
    have hD0 : H0 Dl = none := by
      have := ac.new
      rw [upd_ne hDa] at this
      exact this
    obtain ⟨ys, g1, g2⟩ := ac.own.at_
    refine ⟨hf, q Dl ys _ hD0 (fun b u hb => ?_) (by rw [upd_ne hDa]; exact g1) (g2.rx ?_)⟩
    · by_cases z : b = a
      · subst z
        rw [h] at hb
        rw [upd_same]
        exact hb
      · rw [upd_ne z]
        exact ac.ex b u (by rw [upd_ne z]; exact hb)
    · have na : ¬ a ∈ Dl :: S := fun m => (List.mem_cons.mp m).elim (fun z => hDa z.symm) ha
      rw [lo_upd_out na]
      exact rx_free (o := od) (by rw [lo_out na]; exact hf)
  · refine Or.inr (core o H0 Q (In.self h0) h fun Dl H' ac => ?_)
    obtain ⟨ys, g0, g1, g2, g3⟩ := ac.fin (Ex.refl H0)
    exact q Dl ys H' g0 g1 g2 g3
end
end Lx
namespace Lx
open PySem PySem.Spec PyProof.Rows L2 Evl
section
variable {K : PySem.W.Frag} {S : List Addr} {σ : L2.St} {H H' : Hp} {ta tb te tc : TE} {d : PyData} {es : List (PyData × PyData)}
theorem d_lenK (ha : EvD K S ta σ H (.dict es)) : EvD K S (tCB rLenK (tCons ta tNil)) σ H (.int es.length) := fun H1 e Q q =>
  ha H1 e _ fun v H2 e2 r => by
    obtain ⟨a, kvs, rfl, hs, hl⟩ := r
    refine ⟨a, kvs, rfl, ex_rd lo_sub hs, ?_⟩
    rw [hl.length]
    exact q _ H2 e2 rfl
end
end Lx
namespace Lx
open PySem PySem.Spec PyProof.Rows L2 Evl
def isInt : PyData → Bool
  | .int _ => true
  | .bool _ => true
  | _ => false
theorem kit_isInt : ∀ d : PyData, kitB (tyN d) "int" = some (isInt d)
  | .none => (by decide +kernel : kitB "NoneType" "int" = some false)
  | .bool _ => (by decide +kernel : kitB "bool" "int" = some true)
  | .int _ => (by decide +kernel : kitB "int" "int" = some true)
  | .str _ => (by decide +kernel : kitB "str" "int" = some false)
  | .list _ => (by decide +kernel : kitB "list" "int" = some false)
  | .tuple _ => (by decide +kernel : kitB "tuple" "int" = some false)
  | .dict _ => (by decide +kernel : kitB "dict" "int" = some false)
def isBool : PyData → Bool
  | .bool _ => true
  | _ => false
theorem kit_isBool : ∀ d : PyData, kitB (tyN d) "bool" = some (isBool d)
  | .none => (by decide +kernel : kitB "NoneType" "bool" = some false)
  | .bool _ => (by decide +kernel : kitB "bool" "bool" = some true)
  | .int _ => (by decide +kernel : kitB "int" "bool" = some false)
  | .str _ => (by decide +kernel : kitB "str" "bool" = some false)
  | .list _ => (by decide +kernel : kitB "list" "bool" = some false)
  | .tuple _ => (by decide +kernel : kitB "tuple" "bool" = some false)
  | .dict _ => (by decide +kernel : kitB "dict" "bool" = some false)
def isStr : PyData → Bool
  | .str _ => true
  | _ => false
theorem kit_isStr : ∀ d : PyData, kitB (tyN d) "str" = some (isStr d)
  | .none => (by decide +kernel : kitB "NoneType" "str" = some false)
  | .bool _ => (by decide +kernel : kitB "bool" "str" = some false)
  | .int _ => (by decide +kernel : kitB "int" "str" = some false)
  | .str _ => (by decide +kernel : kitB "str" "str" = some true)
  | .list _ => (by decide +kernel : kitB "list" "str" = some false)
  | .tuple _ => (by decide +kernel : kitB "tuple" "str" = some false)
  | .dict _ => (by decide +kernel : kitB "dict" "str" = some false)
def isLst : PyData → Bool
  | .list _ => true
  | _ => false
theorem kit_isLst : ∀ d : PyData, kitB (tyN d) "list" = some (isLst d)
  | .none => (by decide +kernel : kitB "NoneType" "list" = some false)
  | .bool _ => (by decide +kernel : kitB "bool" "list" = some false)
  | .int _ => (by decide +kernel : kitB "int" "list" = some false)
  | .str _ => (by decide +kernel : kitB "str" "list" = some false)
  | .list _ => (by decide +kernel : kitB "list" "list" = some true)
  | .tuple _ => (by decide +kernel : kitB "tuple" "list" = some false)
  | .dict _ => (by decide +kernel : kitB "dict" "list" = some false)
def isTup : PyData → Bool
  | .tuple _ => true
  | _ => false
theorem kit_isTup : ∀ d : PyData, kitB (tyN d) "tuple" = some (isTup d)
  | .none => (by decide +kernel : kitB "NoneType" "tuple" = some false)
  | .bool _ => (by decide +kernel : kitB "bool" "tuple" = some false)
  | .int _ => (by decide +kernel : kitB "int" "tuple" = some false)
  | .str _ => (by decide +kernel : kitB "str" "tuple" = some false)
  | .list _ => (by decide +kernel : kitB "list" "tuple" = some false)
  | .tuple _ => (by decide +kernel : kitB "tuple" "tuple" = some true)
  | .dict _ => (by decide +kernel : kitB "dict" "tuple" = some false)
def isDct : PyData → Bool
  | .dict _ => true
  | _ => false
theorem kit_isDct : ∀ d : PyData, kitB (tyN d) "dict" = some (isDct d)
  | .none => (by decide +kernel : kitB "NoneType" "dict" = some false)
  | .bool _ => (by decide +kernel : kitB "bool" "dict" = some false)
  | .int _ => (by decide +kernel : kitB "int" "dict" = some false)
  | .str _ => (by decide +kernel : kitB "str" "dict" = some false)
  | .list _ => (by decide +kernel : kitB "list" "dict" = some false)
  | .tuple _ => (by decide +kernel : kitB "tuple" "dict" = some false)
  | .dict _ => (by decide +kernel : kitB "dict" "dict" = some true)
section
variable {K : PySem.W.Frag} {S : List Addr} {σ : L2.St} {H : Hp} {ta : TE} {d : PyData}
theorem d_isInt (h : EvD K S ta σ H d) : EvD K S (tCB (rIsi K) (tCons ta (tCons (tC (.ty "int")) tNil))) σ H (.bool (isInt d)) := d_isi h (kit_isInt d)
theorem d_isBool (h : EvD K S ta σ H d) : EvD K S (tCB (rIsi K) (tCons ta (tCons (tC (.ty "bool")) tNil))) σ H (.bool (isBool d)) := d_isi h (kit_isBool d)
theorem d_isStr (h : EvD K S ta σ H d) : EvD K S (tCB (rIsi K) (tCons ta (tCons (tC (.ty "str")) tNil))) σ H (.bool (isStr d)) := d_isi h (kit_isStr d)
theorem d_isLst (h : EvD K S ta σ H d) : EvD K S (tCB (rIsi K) (tCons ta (tCons (tC (.ty "list")) tNil))) σ H (.bool (isLst d)) := d_isi h (kit_isLst d)
theorem d_isTup (h : EvD K S ta σ H d) : EvD K S (tCB (rIsi K) (tCons ta (tCons (tC (.ty "tuple")) tNil))) σ H (.bool (isTup d)) := d_isi h (kit_isTup d)
theorem d_isDct (h : EvD K S ta σ H d) : EvD K S (tCB (rIsi K) (tCons ta (tCons (tC (.ty "dict")) tNil))) σ H (.bool (isDct d)) := d_isi h (kit_isDct d)
end
end Lx
namespace Lx
open PySem PySem.Spec PyProof.Rows L2 Evl
/-! ### a list of the def's own: popped, lengthened -/
section
variable {K : PySem.W.Frag} {S : List Addr} {σ : L2.St} {H H0 H1 : Hp} {te : TE} {ds es : List PyData} {d : PyData} {p : Addr} {m n : Nat} {D : Ends} {tz : TS}
theorem Acc.up (a : Acc K S H0 p ds H) (e : Ex H H1) : Acc K S H0 p ds H1 := ⟨a.new, a.ex.trans e, a.own.ex e⟩
theorem Acc.put (a : Acc K S H0 p ds H) (e : Ex H H1) {xs : List V} (r : RpL K (Lo (p :: S) H1) es xs) : Acc K S H0 p es (upd H1 p (.lst xs)) :=
  ⟨a.new, Ex.mut (a.ex.trans e) a.new, Own.put (List.mem_cons_self ..) r⟩
theorem acc_mk {xs : List V} (hp : H p = none) (e : Ex H H1) (h : H1 p = some (.lst xs)) (r : RpL K (Lo (p :: S) H1) ds xs) : Acc K S H p ds H1 := ⟨hp, e, own_new h r⟩
theorem acc_truth (hv : σ[m]? = some (some (.ref p))) (a : Acc K S H0 p ds H) : EvT (fun σ H Q => tVar m σ H fun x H' => ∃ k, TruV K x H' k ∧ Q k H') σ H (!ds.isEmpty) := fun H1 e Q q => by
  obtain ⟨xs, h1, h2⟩ := (a.up e).own.at_
  refine ⟨.ref p, hv, !ds.isEmpty, Or.inl ⟨xs, sq_of h1, ?_⟩, q H1 (Ex.refl _)⟩
  have l := h2.length
  cases xs with
  | nil =>
    cases ds with
    | nil => rfl
    | cons _ _ => cases l
  | cons _ _ =>
    cases ds with
    | nil => cases l
    | cons _ _ => rfl
theorem rpL_last : ∀ {ds : List PyData} {xs : List V}, RpL K H (ds ++ [d]) xs → ∃ ys v, xs = ys ++ [v] ∧ RpL K H ds ys ∧ Rp K H d v
  | [], _, h => by
    obtain ⟨v, rfl, hv⟩ := rpL1 h
    exact ⟨[], v, rfl, rfl, hv⟩
  | e :: ds, _, h => by
    obtain ⟨v, vs, rfl, hv, hl⟩ := h
    obtain ⟨ys, u, rfl, hy, hu⟩ := rpL_last hl
    exact ⟨v :: ys, u, rfl, ⟨v, ys, rfl, hv, hy⟩, hu⟩
theorem acc_pop (hv : σ[m]? = some (some (.ref p))) (a : Acc K S H0 p (ds ++ [d]) H) (k : ∀ v H1, Acc K S H0 p ds H1 → Rp K (Lo (p :: S) H1) d v → tz D (σ.set n (some v)) H1) :
    tSeq (tAsg (tBM0 K "list" rPop (tVar m)) (gName n)) tz D σ H := by
  obtain ⟨xs, h1, h2⟩ := a.own.at_
  obtain ⟨ys, v, rfl, hy, hd⟩ := rpL_last h2
  refine ⟨.ref p, hv, Or.inl ⟨rfl, _, sq_of h1⟩, p, ys ++ [v], v, rfl, rfl, h1, ?_, ?_⟩
  · rw [List.length_append, List.length_singleton, Nat.add_sub_cancel, List.getElem?_append_right (Nat.le_refl _), Nat.sub_self]
    all_goals rfl
  · rw [List.dropLast_concat]
    refine k v _ (a.put (Ex.refl _) hy) ?_
    rw [lo_upd_in (List.mem_cons_self ..)]
    exact hd
theorem acc_ext (hv : σ[m]? = some (some (.ref p))) (a : Acc K S H0 p ds H) (h : EvD K (p :: S) te σ H (.tuple es)) (hz : ds.length + es.length ≤ sizeLine) (k : ∀ H1, Acc K S H0 p (ds ++ es) H1 → D.nx σ H1) :
    tDrop (tBM K "list" (rExtT K) (tVar m) (tCons te tNil)) D σ H := by
  obtain ⟨xs, h1, h2⟩ := a.own.at_
  refine ⟨.ref p, hv, Or.inl ⟨rfl, xs, sq_of h1⟩, h H (Ex.refl _) _ fun v H2 e2 r => ?_⟩
  obtain ⟨b, ys, rfl, hs, hl⟩ := r
  refine ⟨p, b, xs, ys, rfl, rfl, e2 p _ h1, (Rx.of lo_sub).t hs, by rw [h2.length, hl.length]; exact hz, ?_⟩
  exact k _ (a.put e2 ((h2.ex (lo_ex e2)).append hl))
theorem acc_app (hv : σ[m]? = some (some (.ref p))) (a : Acc K S H0 p ds H) (h : EvD K (p :: S) te σ H d) (hz : ds.length < 100000) (k : ∀ H1, Acc K S H0 p (ds ++ [d]) H1 → D.nx σ H1) :
    tDrop (tBM K "list" rAppend (tVar m) (tCons te tNil)) D σ H := by
  obtain ⟨xs, h1, h2⟩ := a.own.at_
  refine ⟨.ref p, hv, Or.inl ⟨rfl, xs, sq_of h1⟩, h H (Ex.refl _) _ fun v H2 e2 r => ⟨p, xs, v, rfl, rfl, e2 p _ h1, sz_lt (by rw [h2.length]; exact hz), ?_⟩⟩
  exact k _ (a.put e2 ((h2.ex (lo_ex e2)).append ⟨v, [], rfl, r, rfl⟩))
/-- a list of the def's own is handed back -/
theorem Acc.new_ (a : Acc K S H0 p ds H) : ∃ xs, H0 p = none ∧ Ex H0 H ∧ H p = some (.lst xs) ∧ RpL K (Lo (p :: S) H) ds xs := a.fin (Ex.refl _)
end
/-! ### dicts as data -/
section
variable {K : PySem.W.Frag} {H : Hp}
def getD (es : List (PyData × PyData)) : PyData → PyData
  | .int i => (lookD es (.inl i)).getD .none
  | .str x => (lookD es (.inr x)).getD .none
  | _ => .none
theorem getD_key (es : List (PyData × PyData)) (k : Key) : getD es (keyD k) = (lookD es k).getD .none := by cases k <;> rfl
theorem rpD_key : ∀ {es : List (PyData × PyData)} {kvs : List (Key × V)} {d : PyData}, RpD K H es kvs → d ∈ es.map (·.1) → ∃ k u, d = keyD k ∧ lookD es k = some u
  | [], _, _, _, m => by simp at m
  | (a, b) :: es, _, d, h, m => by
    obtain ⟨k, v, r, rfl, rfl, hv, hl⟩ := h
    have hit : lookD ((keyD k, b) :: es) k = some b := by
      show (if keyB (keyD k) k then some b else lookD es k) = some b
      rw [keyB_keyD, decide_eq_true rfl, if_pos rfl]
    rcases List.mem_cons.mp m with e | m
    · exact ⟨k, b, e, hit⟩
    · obtain ⟨k2, u, rfl, e⟩ := rpD_key hl m
      by_cases c : k = k2
      · subst c
        exact ⟨k, b, rfl, hit⟩
      · refine ⟨k2, u, rfl, ?_⟩
        show (if keyB (keyD k) k2 then some b else lookD es k2) = some u
        rw [keyB_keyD, decide_eq_false c, if_neg Bool.false_ne_true]
        exact e
theorem keyB_of : ∀ {d : PyData} {k : Key}, keyB d k = true → d = keyD k
  | .int i, .inl j, h => by rw [show i = j from of_decide_eq_true h]; rfl
  | .str x, .inr y, h => by rw [show x = y from of_decide_eq_true h]; rfl
  | .none, _, h => by cases h
  | .bool _, _, h => by cases h
  | .list _, _, h => by cases h
  | .tuple _, _, h => by cases h
  | .dict _, _, h => by cases h
  | .int _, .inr _, h => by cases h
  | .str _, .inl _, h => by cases h
theorem lookD_mem : ∀ {es : List (PyData × PyData)} {k : Key} {u : PyData}, lookD es k = some u → keyD k ∈ es.map (·.1)
  | [], _, _, h => by cases h
  | (a, b) :: es, k, u, h => by
    have h2 : (if keyB a k then some b else lookD es k) = some u := h
    by_cases c : keyB a k = true
    · exact List.mem_cons.mpr (Or.inl (keyB_of c).symm)
    · rw [if_neg c] at h2
      exact List.mem_cons_of_mem _ (lookD_mem h2)
end
end Lx
namespace Lx
open PySem PySem.Spec PyProof.Rows L2 Evl
theorem atI_zero {α : Type} {x : α} {xs : List α} : atI (x :: xs) 0 = some x := by
  unfold atI ixN
  rw [if_pos (by omega), if_pos (by rw [List.length_cons]; omega)]
  all_goals rfl
theorem atI_of {α : Type} {xs : List α} {x : α} {j : Nat} {z : Int} (e : z = (j : Int)) (h : xs[j]? = some x) : atI xs z = some x := by
  subst e
  have hj := (List.getElem?_eq_some_iff.mp h).1
  unfold atI ixN
  rw [if_pos (by omega), if_pos (by omega)]
  show xs[((j : Nat) : Int).toNat]? = some x
  rw [Int.toNat_natCast]
  exact h
end Lx
namespace Lx
open PySem PySem.Spec PyProof.Rows L2 Evl
theorem sl_one (ds : List PyData) : (ds.drop (HT.sIx ds.length 0 (some 1))).take (HT.sIx ds.length ds.length none - HT.sIx ds.length 0 (some 1)) = ds.drop 1 := by
  have e1 : HT.sIx ds.length 0 (some 1) = min 1 ds.length := HT.sIx_nat ds.length 0 1
  have e2 : HT.sIx ds.length ds.length none = ds.length := rfl
  rw [e1, e2]
  cases ds with
  | nil => rfl
  | cons d ds =>
    have e3 : min 1 (d :: ds).length = 1 := by rw [List.length_cons]; omega
    rw [e3]
    apply List.take_of_length_le
    rw [List.length_drop]
    all_goals exact Nat.le_refl _
theorem d_tail {K : PySem.W.Frag} {S : List Addr} {σ : L2.St} {H : Hp} {ta : TE} {ds : List PyData} (hS : Dom S H) (ha : EvD K S ta σ H (.tuple ds)) : EvD K S (tSl (rSlA K) ta (tPart (tC (.int 1))) tNoPart) σ H (.tuple (ds.drop 1)) := by
  have h := d_slT (lo := some 1) (hi := none) hS ha (o_some (K := K) (S := S) d_int) o_none
  rw [sl_one] at h
  exact h
end Lx
namespace Lx
open PySem PySem.Spec PyProof.Rows L2 Evl
section
variable {K : PySem.W.Frag} {S : List Addr} {σ : L2.St} {H : Hp} {ta : TE} {d : PyData}
/-- repr of a list or a tuple -/
theorem d_repr (h : EvD K S ta σ H d) (hr : ∀ v, Rp K H d v → ∃ a, v = V.ref a) (nd : noDict d = true) (hs : d.showable = true) (hz : d.shown.length ≤ sizeLine) (hp : d.depth ≤ 60) (hr2 : ∀ H' v, Rp K H' d v → ∃ a, v = V.ref a) :
    EvD K S (tCB (rRepr K) (tCons ta tNil)) σ H (.str d.shown) := fun H1 e Q q => h H1 e _ fun v H2 e2 r => by
  obtain ⟨a, rfl⟩ := hr2 _ v r
  exact ⟨a, d, rfl, r.ex lo_sub, nd, hs, hz, hp, q _ H2 e2 rfl⟩
theorem d_reprL {ds : List PyData} (h : EvD K S ta σ H (.list ds)) (nd : noDict (.list ds) = true) (hs : (PyData.list ds).showable = true) (hz : (PyData.list ds).shown.length ≤ sizeLine) (hp : (PyData.list ds).depth ≤ 60) :
    EvD K S (tCB (rRepr K) (tCons ta tNil)) σ H (.str (PyData.list ds).shown) :=
  d_repr h (fun v r => let ⟨a, _, e, _⟩ := r; ⟨a, e⟩) nd hs hz hp fun H' v r => let ⟨a, _, e, _⟩ := r; ⟨a, e⟩
/-! a written dict -/
def DPs (K : PySem.W.Frag) (S : List Addr) (σ : L2.St) (H : Hp) : List (TE × TE) → List (Key × PyData) → Prop
  | [], [] => True
  | (tk, tv) :: r, (k, d) :: s => EvD K S tk σ H (keyD k) ∧ EvD K S tv σ H d ∧ DPs K S σ H r s
  | _, _ => False
theorem DPs.mono {H' : Hp} (e : Ex H H') : ∀ {trs : List (TE × TE)} {kds : List (Key × PyData)}, DPs K S σ H trs kds → DPs K S σ H' trs kds
  | [], [], _ => True.intro
  | (_, _) :: _, (_, _) :: _, h => ⟨h.1.mono e, h.2.1.mono e, h.2.2.mono e⟩
  | [], _ :: _, h => h.elim
  | _ :: _, [], h => h.elim
def datP (kds : List (Key × PyData)) : List (PyData × PyData) := kds.map fun kd => (keyD kd.1, kd.2)
theorem pairs_run : ∀ {trs : List (TE × TE)} {kds : List (Key × PyData)} {H : Hp} {Q : List (V × V) → Hp → Prop}, DPs K S σ H trs kds →
    (∀ kvs H', Ex H H' → kvs.map (·.1) = kds.map (·.1) → RpD K (Lo S H') (datP kds) kvs → Q (kvs.map fun kv => (kV kv.1, kv.2)) H') → tPairs trs σ H Q
  | [], [], H, Q, _, q => q [] H (Ex.refl H) rfl rfl
  | (tk, tv) :: r, (k, d) :: s, H, Q, h, q => h.1 H (Ex.refl H) _ fun x H1 e1 rx => h.2.1 H1 e1 _ fun y H2 e2 ry => by
    refine pairs_run (h.2.2.mono (e1.trans e2)) fun kvs H3 e3 hk rd => ?_
    have hx := rp_key rx
    subst hx
    refine q ((k, y) :: kvs) H3 ((e1.trans e2).trans e3) ?_ ⟨k, y, kvs, rfl, rfl, ry.ex (lo_ex e3), rd⟩
    rw [List.map_cons, List.map_cons, hk]
  | [], _ :: _, _, _, h, _ => h.elim
  | _ :: _, [], _, _, h, _ => h.elim
theorem merge_nodup : ∀ (kvs acc : List (Key × V)), (acc.map (·.1) ++ kvs.map (·.1)).Nodup → mergeK acc kvs = acc ++ kvs
  | [], acc, _ => (List.append_nil acc).symm
  | kv :: kvs, acc, h => by
    have hn : valV acc kv.1 = none := by
      cases e : valV acc kv.1 with
      | none => rfl
      | some v =>
        have m := valV_in e
        rw [List.map_cons, List.nodup_append] at h
        exact absurd rfl (h.2.2 _ m _ (List.mem_cons_self ..))
    show mergeK (putK acc kv.1 kv.2) kvs = _
    rw [putK_new kv.2 hn, merge_nodup kvs]
    · rw [List.append_assoc]
      all_goals rfl
    · rw [List.map_append, List.append_assoc]
      exact h
theorem d_disp {trs : List (TE × TE)} {kds : List (Key × PyData)} (hS : Dom S H) (hn : (kds.map (·.1)).Nodup) (hl : kds.length ≤ 15) (h : ∀ T H', In S T H H' → DPs K T σ H' trs kds) : EvD K S (tDisp trs) σ H (.dict (datP kds)) := fun H1 e Q q => by
  intro p hp
  have hS1 := hS.ex e
  have i1 : In S (p :: S) H1 (upd H1 p (.dK [])) := by
    refine ⟨Rx.of (Ex.new hp), Rx.of fun b o hb => ?_, (hS1.ex (Ex.new hp)).cons upd_same⟩
    have hb2 := lo_sub b o hb
    have hbp : b ≠ p := ne_of_none hb2 hp
    by_cases hm : b ∈ S
    · rw [lo_in hm] at hb
      cases hb
    · rw [lo_out (fun z => (List.mem_cons.mp z).elim hbp hm), upd_ne hbp]
      exact hb2
  refine pairs_run (h _ _ ((In.of hS e).trans i1)) fun kvs H2 e2 hk rd => ?_
  have h2 : H2 p = some (.dK []) := e2 p _ upd_same
  have hl2 : kvs.length = kds.length := by
    have := congrArg List.length hk
    rw [List.length_map, List.length_map] at this
    exact this
  refine ⟨h2, kvs, rfl, by omega, ?_⟩
  have hm : mergeK [] kvs = kvs := by
    have := merge_nodup kvs [] (by rw [hk]; exact hn)
    exact this
  rw [hm]
  have ho : ¬ p ∈ S := hS1.out hp
  refine q (.ref p) _ (Ex.mut ((Ex.new hp).trans e2) hp) ⟨p, kvs, rfl, Or.inl (by rw [lo_out ho, upd_same]), rd.ex fun b o hb => ?_⟩
  have hbp : b ≠ p := fun z => by
    rw [z, lo_in (List.mem_cons_self ..)] at hb
    cases hb
  rw [lo_upd_out ho, upd_ne hbp]
  exact lo_anti (fun c hc => List.mem_cons_of_mem _ hc) b o hb
end
end Lx
namespace Lx
open PySem PySem.Spec PyProof.Rows L2 Evl
/-! the same rules, the written part told: for what stands within a comprehension -/
section
variable {X : Cx} {K : PySem.W.Frag}
theorem c_len' (h : X.K = K) : CallR X (.builtin "len") (rLenS K) := h ▸ c_len
theorem c_list' (h : X.K = K) : CallR X (.type "list") (rListS K) := h ▸ c_list
theorem c_tuple' (h : X.K = K) : CallR X (.type "tuple") (rTupS K) := h ▸ c_tuple
theorem ix_list' (h : X.K = K) : IxR X (rIxL K) := h ▸ ix_list
theorem ix_tup' (h : X.K = K) : IxR X (rIxT K) := h ▸ ix_tup
theorem sl_list' (h : X.K = K) : SlR X (rSlL K) := h ▸ sl_list
theorem sl_tupA' (h : X.K = K) : SlR X (rSlA K) := h ▸ sl_tupA
theorem op_catA' (h : X.K = K) : OpR X (binaryOp .Add) (rCatA K) := h ▸ op_catA
theorem call_isi' (h : X.K = K) : CallR X (.builtin "isinstance") (rIsi K) := h ▸ call_isi
theorem cr_sum' (hc : X.calm = true) (h : X.K = K) : CallR X (.builtin "sum") (rSum K) := h ▸ cr_sum hc
theorem cr_all' (hc : X.calm = true) (h : X.K = K) : CallR X (.builtin "all") (rAll K) := h ▸ cr_all hc
theorem cr_any' (hc : X.calm = true) (h : X.K = K) : CallR X (.builtin "any") (rAny K) := h ▸ cr_any hc
theorem op_eqD' (hu : X.A.units + 64 < cLine) (h : X.K = K) : OpR X (compareOp .Eq) (rEqD K) := h ▸ op_eqD hu
theorem op_neD' (hu : X.A.units + 64 < cLine) (h : X.K = K) : OpR X (compareOp .NotEq) (rNeD K) := h ▸ op_neD hu
theorem pi_list' {tg e : Expr} {tl : TE} (he : PE X e tl) (h : X.K = K) : PI X tg e (iList K tl) := h ▸ pi_list he
theorem pi_tup' {tg e : Expr} {tl : TE} (he : PE X e tl) (h : X.K = K) : PI X tg e (iTup K tl) := h ▸ pi_tup he
end
end Lx
namespace Lx
open PySem PySem.Spec PyProof.Rows L2 Evl
theorem yes_of {σ : L2.St} {H : Hp} {F G : Hp → Prop} (h : F H) : tYes σ H (fun b H3 => if b = true then F H3 else G H3) := by
  show (if true = true then F H else G H)
  rw [if_pos rfl]
  exact h
end Lx
namespace Lx
open PySem PySem.Spec PyProof.Rows L2 Evl
theorem gname_of {i : Nat} {v : V} {σ : L2.St} {H : Hp} {Q : L2.St → Hp → Prop} (h : Q (σ.set i (some v)) H) : gName i v σ H Q := h
end Lx
/-! the pen that a law draws from -/
namespace Lx
open PySem PySem.Spec PyProof.Rows L2 Evl
/-- a pen at p: its cells (a list q that stays), how many it has used, what is left to draw from -/
def Pen (K : PySem.W.Frag) (H : Hp) (p q : Addr) (ns : List Int) (n : Int) : Prop := ∃ r : Int, H p = some (.lst [.ref q, .int n, .int r]) ∧ SqL K (Lo [p] H) q (ns.map V.int) ∧ 0 ≤ r ∧ 0 ≤ n ∧ ns.length ≤ 60
theorem lo1_upd {H : Hp} {p : Addr} {o : HO} : Lo [p] (upd H p o) = Lo [p] H := lo_upd_in (List.mem_cons_self ..)
theorem Pen.ex {K : PySem.W.Frag} {H H' : Hp} {p q : Addr} {ns : List Int} {n : Int} (h : Pen K H p q ns n) (e : Ex H H') : Pen K H' p q ns n := by
  obtain ⟨r, h1, h2, h3⟩ := h
  exact ⟨r, e p _ h1, (Rx.of (lo_ex e)).l h2, h3⟩
/-- another list is changed -/
theorem Pen.other {K : PySem.W.Frag} {H : Hp} {p q l : Addr} {ns : List Int} {n : Int} {o : HO} (h : Pen K H p q ns n) (hn : p ≠ l) (hc : SqL K (Lo [l, p] H) q (ns.map V.int)) : Pen K (upd H l o) p q ns n := by
  obtain ⟨r, h1, h2, h3⟩ := h
  refine ⟨r, by rw [upd_ne hn]; exact h1, ?_, h3⟩
  rw [← lo_upd_in (o := o) (List.mem_cons_self (a := l) (l := [p]))] at hc
  exact (Rx.of (lo_anti fun b hb => List.mem_cons_of_mem _ hb)).l hc
/-- what stays behind a draw -/
def Stay (p : Addr) (H H' : Hp) : Prop := ∀ b o, b ≠ p → H b = some o → H' b = some o
theorem Stay.of {p : Addr} {H H' : Hp} (e : Ex H H') : Stay p H H' := fun b o _ h => e b o h
theorem Stay.trans {p : Addr} {H H1 H2 : Hp} (a : Stay p H H1) (b : Stay p H1 H2) : Stay p H H2 := fun c o hn h => b c o hn (a c o hn h)
theorem Stay.upd {p : Addr} {H H' : Hp} {o : HO} (a : Stay p H H') : Stay p H (upd H' p o) := fun b u hn h => by
  rw [upd_ne hn]
  exact a b u hn h
theorem Stay.lo {p : Addr} {S : List Addr} {H H' : Hp} (a : Stay p H H') (hp : p ∈ S) : Ex (Lo S H) (Lo S H') := fun b o h => by
  by_cases hm : b ∈ S
  · rw [lo_in hm] at h
    cases h
  · rw [lo_out hm] at h ⊢
    exact a b o (fun z => hm (by rw [z]; exact hp)) h
/-- pen = [list(script[:60]), 0, 0] -/
def spPen (K : PySem.W.Frag) : Sp := fun vs H Q _ => ∃ (a : Addr) (ns : List Int), vs = [.ref a] ∧ SqL K H a (ns.map V.int) ∧ ∀ p q ms H', H p = none → Ex H H' → Pen K H' p q ms 0 → Q (.ref p) H'
def spNext (K : PySem.W.Frag) : Sp := fun vs H Q _ => ∃ (p q : Addr) (ns : List Int) (n : Int), vs = [.ref p] ∧ Pen K H p q ns n ∧ n < 1099511627776 ∧ ∀ x H', 0 ≤ x → Pen K H' p q ns (n + 1) → Stay p H H' → Q (.int x) H'
def spDraw (K : PySem.W.Frag) : Sp := fun vs H Q _ => ∃ (p q : Addr) (ns : List Int) (u n : Int), vs = [.ref p, .int u] ∧ 0 < u ∧ u < 1073741824 ∧ Pen K H p q ns n ∧ n < 1099511627776 ∧
  ∀ x n' H', 0 ≤ x → x < u → n' ≤ n + 1 → Pen K H' p q ns n' → Stay p H H' → Q (.int x) H'
theorem canLay_ints : ∀ ns : List Int, PyData.canLayAll0 (ns.map PyData.int) = true
  | [] => rfl
  | n :: ns => by
    show (true && PyData.canLayAll0 (ns.map PyData.int)) = true
    rw [canLay_ints ns]
    all_goals rfl
theorem depth_ints : ∀ ns : List Int, PyData.depthAll (ns.map PyData.int) = 0
  | [] => rfl
  | n :: ns => by
    show max 0 (PyData.depthAll (ns.map PyData.int)) = 0
    rw [depth_ints ns]
    all_goals rfl
theorem shaped_ints (ns : List Int) : SeqAt.shaped (.list (ns.map PyData.int)) = true := by
  unfold SeqAt.shaped
  rw [Bool.and_eq_true]
  constructor
  · exact canLay_ints ns
  · apply decide_eq_true
    show PyData.depthAll (ns.map PyData.int) + 1 ≤ 64
    rw [depth_ints]
    all_goals decide
theorem eqv_nil_ints (ns : List Int) : PyData.eqv (.list (ns.map PyData.int)) (.list []) = ns.isEmpty := by
  cases ns <;> rfl
theorem dp_ints {K : PySem.W.Frag} {H : Hp} : ∀ ns : List Int, DpAll K H (ns.map V.int) (ns.map PyData.int)
  | [] => .nil
  | n :: ns => .cons (.int n) (dp_ints ns)
section
variable {K : PySem.W.Frag} {H : Hp} {σ : L2.St} {ta tb : TE} {p : Addr}
/-- pen[0] != [] -/
theorem et_neNil {ns : List Int} (ha : Ev ta σ H (.ref p)) (h : SqL K H p (ns.map V.int)) : EvT (tTest (tOp (rNeD K) ta (tLst tNil))) σ H (!ns.isEmpty) := et_test (ev_opL ha (el_lst ea_nil (by decide)) fun q H1 hq e => by
  refine rv_val fun H2 e2 Q k => ?_
  refine ⟨.list (ns.map .int), .list [], .lst (ex_l (e.trans e2) h) (dp_ints ns), .lst (sq_of (e2 q _ hq)) .nil, shaped_ints ns, by decide +kernel, ?_⟩
  rw [eqv_nil_ints]
  exact k)
theorem ev_idx {xs : List V} {i : Int} {j : Nat} {v : V} (ha : Ev ta σ H (.ref p)) (hb : Ev tb σ H (.int i)) (h : SqL K H p xs) (e : i = (j : Int)) (hv : xs[j]? = some v) : Ev (tOp (rIxL K) ta tb) σ H v := ev_op ha hb (rv_ixL h (at_of e hv))
theorem ev_int' {i : Int} (h : Ev ta σ H (.int i)) : Ev (tCB rInt (tCons ta tNil)) σ H (.int i) := fun H1 e Q q => h H1 e _ fun H2 e2 => Or.inl ⟨i, rfl, q H2 e2⟩
end
end Lx
namespace K02
open PySem PySem.Spec PyProof.Rows L2 Evl Lx
section
variable {P : Program} {w : World} {K : PySem.W.Frag} {mg : Str → Option Value} {base : Heap} {A : Ad}
theorem ok_law_next (T : Txt K mg A) : FnOk P w K mg base CX0 1 A.f_law_next A.fd_law_next ["pen"] (spNext K) := by
  refine T.F_law_next.ok sc_law_next (fun vs H Q E h => ?_) (fun cdv Ar outer s H vs Q E hr h => ?_)
  · obtain ⟨p, q, ns, n, rfl, _⟩ := h
    rfl
  obtain ⟨p, q, ns, n, rfl, ⟨r, hp, hq, hr0, hn0, hlen⟩, hn, k⟩ := h
  refine ⟨_, (pss_cons (ps_set (i := 1) sc_law_next.nd rfl (by first | exact Or.inl rfl | exact Or.inr rfl) (pe_ix ix_list (pv 0) pe_int (fun _ _ => rfl)))
  (pss_cons (ps_asg (pe_op op_add (pv 1) pe_int) (pg_sub (pv 0) pe_int set_list))
  (pss_cons (ps_set (i := 2) sc_law_next.nd rfl (by first | exact Or.inl rfl | exact Or.inr rfl) (pe_op op_add (pe_op op_mul (pv 1) pe_int) pe_int))
  (pss_cons (ps_if (pt_cmpR (op_neD hr.units) (pe_ix ix_list (pv 0) pe_int (fun _ _ => rfl)) (pe_lst pa_nil) (nomark _)) (pss_one (ps_set (i := 2) sc_law_next.nd rfl (by first | exact Or.inl rfl | exact Or.inr rfl) (pe_ix ix_list (pe_ix ix_list (pv 0) pe_int (fun _ _ => rfl)) (pe_op op_mod (pe_callTy c_int (by rfl) T.z_int (by decide +kernel) (pa_cons (pv 1) pa_nil)) (pe_callB c_len (by rfl) T.z_len (by decide +kernel) (pa_cons (pe_ix ix_list (pv 0) pe_int (fun _ _ => rfl)) pa_nil))) (fun _ _ => rfl)))) pss_nil)
  (pss_cons (ps_if (PW.pt (pw_and (pt_cmpR op_lt (pv 1) (pe_callB c_len (by rfl) T.z_len (by decide +kernel) (pa_cons (pe_ix ix_list (pv 0) pe_int (fun _ _ => rfl)) pa_nil)) (nomark _)) (pw_and1 (pt_cmpR op_ge (pv 2) (pe_op op_pow pe_int pe_int) (nomark _))))) (pss_one (ps_ret (pv 2))) pss_nil)
  (pss_cons (ps_set (i := 3) sc_law_next.nd rfl (by first | exact Or.inl rfl | exact Or.inr rfl) (pe_op op_mod (pe_callTy c_int (by rfl) T.z_int (by decide +kernel) (pa_cons (pe_op op_add (pe_op op_add (pe_op op_mod (pe_callTy c_int (by rfl) T.z_int (by decide +kernel) (pa_cons (pv 2) pa_nil)) pe_int) (pe_op op_mul (pv 1) pe_int)) pe_int) pa_nil)) pe_int))
  (pss_cons (ps_set (i := 4) sc_law_next.nd rfl (by first | exact Or.inl rfl | exact Or.inr rfl) (pe_op op_mod (pe_callTy c_int (by rfl) T.z_int (by decide +kernel) (pa_cons (pe_op op_add (pe_op op_add (pe_op op_mul (pv 3) (pv 3)) (pe_op op_mul (pv 1) pe_int)) pe_int) pa_nil)) pe_int))
  (pss_cons (ps_set (i := 5) sc_law_next.nd rfl (by first | exact Or.inl rfl | exact Or.inr rfl) (pe_op op_mod (pe_callTy c_int (by rfl) T.z_int (by decide +kernel) (pa_cons (pe_op op_add (pe_op op_add (pe_op op_mul (pv 4) (pv 4)) (pv 3)) (pe_op op_mul (pe_op op_mul (pv 1) (pv 1)) pe_int)) pa_nil)) pe_int))
  (pss_one (ps_ret (pe_op op_add (pe_op op_mul (pe_op op_add (pe_op op_mul (pv 5) pe_int) (pv 4)) pe_int) (pv 3)))))))))))), ?_⟩
  have hN : (Int.pow 2 64 : Int) = 18446744073709551616 := by decide
  refine q_asg (v := .int n) (ev_idx (ev_var rfl) ev_c (sq_of hp) (j := 1) rfl rfl) fun H1 e1 => ?_
  refine q_setL (j := 1) (v := .int (n + 1)) (e1 p _ hp) (ev_op (ev_var rfl) ev_c rv_I0) (ev_var rfl) ev_c (by show 1 < 3; decide) fun H2 e2 => ?_
  generalize hH3 : upd H2 p (HO.lst ([V.ref q, V.int n, V.int r].set 1 (V.int (n + 1)))) = H3
  have hp3 : H3 p = some (.lst [.ref q, .int (n + 1), .int r]) := by
    rw [← hH3, upd_same]
    all_goals rfl
  have lo3 : Lo [p] H3 = Lo [p] H2 := by rw [← hH3, lo1_upd]
  have hq3 : SqL K (Lo [p] H3) q (ns.map V.int) := by
    rw [lo3]
    exact (Rx.of (lo_ex (e1.trans e2))).l hq
  have st3 : Stay p H H3 := by
    rw [← hH3]
    exact (Stay.of (e1.trans e2)).upd
  -- behind it all stays as it is here
  have fin : ∀ x H', 0 ≤ x → Ex H3 H' → Q (.int x) H' := fun x H' hx e => k x H' hx ⟨r, e p _ hp3, (Rx.of (lo_ex e)).l hq3, hr0, by omega, hlen⟩ (st3.trans (Stay.of e))
  clear hH3 lo3
  have qH : ∀ H', Ex H3 H' → SqL K H' q (ns.map V.int) := fun H' e => (Rx.of (lo_sub.trans e)).l hq3
  have pq : ∀ {σ : L2.St} {H' : Hp}, σ[0]? = some (some (.ref p)) → Ex H3 H' → Ev (tOp (rIxL K) (tVar 0) (tC (.int 0))) σ H' (.ref q) := fun hσ e => ev_idx (ev_var hσ) ev_c (sq_of (e p _ hp3)) (j := 0) rfl rfl
  refine q_asg (v := .int (n * 1051 + 53)) (ev_op (ev_op (ev_var rfl) ev_c (rv_I (Or.inr ⟨by decide, by decide⟩))) ev_c rv_I0) fun H4 e4 => ?_
  have hc : ∃ c : Int, (ns.isEmpty = true → c = n * 1051 + 53) ∧ (ns.isEmpty = false → ∃ j : Nat, n % (ns.length : Int) = (j : Int) ∧ ns[j]? = some c) := by
    cases ns with
    | nil => exact ⟨_, fun _ => rfl, fun z => (by cases z)⟩
    | cons m ms =>
      have h0 : 0 ≤ n % ((m :: ms).length : Int) := Int.emod_nonneg _ (by rw [List.length_cons]; omega)
      have h1 : n % ((m :: ms).length : Int) < ((m :: ms).length : Int) := Int.emod_lt_of_pos _ (by rw [List.length_cons]; omega)
      have hj : (n % ((m :: ms).length : Int)).toNat < (m :: ms).length := by omega
      exact ⟨(m :: ms)[(n % ((m :: ms).length : Int)).toNat], fun z => (by cases z), fun _ => ⟨(n % ((m :: ms).length : Int)).toNat, by omega, List.getElem?_eq_getElem hj⟩⟩
  obtain ⟨c, hc1, hc2⟩ := hc
  refine q_ifAsg (v := .int c) (b := !ns.isEmpty) (et_neNil (pq rfl e4) (qH _ e4)) (fun hb => ?_) (fun hb => ?_) fun H5 e5 => ?_
  · rw [Bool.not_eq_true'] at hb
    obtain ⟨j, hj1, hj2⟩ := hc2 hb
    have hl : 0 < ns.length := by
      cases ns with
      | nil => cases hb
      | cons _ _ => exact Nat.succ_pos _
    refine ev_idx (pq rfl e4) (ev_op (ev_int' (ev_var rfl)) (ev_len (pq rfl e4) (qH _ e4)) (rv_I ?_)) (qH _ e4) (j := j) ?_ ?_
    · show 0 < ((ns.map V.int).length : Int)
      rw [List.length_map]
      omega
    · rw [List.length_map]
      exact hj1
    · rw [List.getElem?_map, hj2]
      all_goals rfl
  · rw [Bool.not_eq_false'] at hb
    rw [hc1 hb]
    all_goals rfl
  have e45 := e4.trans e5
  refine q_when (b := decide (n < ((ns.map V.int).length : Int)) && decide ((10 : Int) ^ (18 : Int).toNat ≤ c)) (et_and (et_test (ev_op (ev_var rfl) (ev_len (pq rfl e45) (qH _ e45)) rv_I0)) fun _ => et_test (ev_op (ev_var rfl) (ev_op ev_c ev_c (rv_I ⟨by decide, by decide, by decide⟩)) rv_I0)) (fun hb H6 e6 => ?_) (fun hb H6 e6 => ?_)
  · refine s_ret (v := .int c) (ev_var rfl) fun H7 e7 => fin c H7 ?_ ((e45.trans e6).trans e7)
    have h2 := of_decide_eq_true (Bool.and_eq_true_iff.mp hb).2
    have h3 : (0 : Int) ≤ (10 : Int) ^ (18 : Int).toNat := by decide
    omega
  · have e46 := e45.trans e6
    have pos : ∀ m : Int, 0 < m → ∀ x : Int, 0 ≤ x % m ∧ x % m < m := fun m hm x => ⟨Int.emod_nonneg _ (by omega), Int.emod_lt_of_pos _ hm⟩
    -- some
    generalize hs : ((c % 2147483587 + n * 30103 + 79) % 2147483587 : Int) = sm
    obtain ⟨s0, s1⟩ := pos 2147483587 (by decide) (c % 2147483587 + n * 30103 + 79)
    rw [hs] at s0 s1
    refine q_asg (v := .int sm) ?_ fun H7 e7 => ?_
    · rw [← hs]
      exact ev_op (ev_int' (ev_op (ev_op (ev_op (ev_int' (ev_var rfl)) ev_c (rv_I (by decide))) (ev_op (ev_var rfl) ev_c (rv_I (Or.inr ⟨by decide, by decide⟩))) rv_I0) ev_c rv_I0)) ev_c (rv_I (by decide))
    generalize hm : ((sm * sm + n * 70039 + 61) % 2147483563 : Int) = mr
    obtain ⟨m0, m1⟩ := pos 2147483563 (by decide) (sm * sm + n * 70039 + 61)
    rw [hm] at m0 m1
    refine q_asg (v := .int mr) ?_ fun H8 e8 => ?_
    · rw [← hm]
      exact ev_op (ev_int' (ev_op (ev_op (ev_op (ev_var rfl) (ev_var rfl) (rv_I (Or.inl ⟨by omega, by omega⟩))) (ev_op (ev_var rfl) ev_c (rv_I (Or.inr ⟨by decide, by decide⟩))) rv_I0) ev_c rv_I0)) ev_c (rv_I (by decide))
    generalize hh : ((mr * mr + sm + n * n * 37) % 2147483549 : Int) = hg
    obtain ⟨g0, g1⟩ := pos 2147483549 (by decide) (mr * mr + sm + n * n * 37)
    rw [hh] at g0 g1
    refine q_asg (v := .int hg) ?_ fun H9 e9 => ?_
    · rw [← hh]
      exact ev_op (ev_int' (ev_op (ev_op (ev_op (ev_var rfl) (ev_var rfl) (rv_I (Or.inl ⟨by omega, by omega⟩))) (ev_var rfl) rv_I0) (ev_op (ev_op (ev_var rfl) (ev_var rfl) (rv_I (Or.inl ⟨by omega, by omega⟩))) ev_c (rv_I (Or.inr ⟨by decide, by decide⟩))) rv_I0)) ev_c (rv_I (by decide))
    refine s_ret (v := .int ((hg * 2147483587 + mr) * 2147483563 + sm)) (ev_op (ev_op (ev_op (ev_op (ev_var rfl) ev_c (rv_I (Or.inr ⟨by decide, by decide⟩))) (ev_var rfl) rv_I0) ev_c (rv_I (Or.inr ⟨by decide, by decide⟩))) (ev_var rfl) rv_I0) fun HA eA => ?_
    exact fin _ HA (by omega) ((((e46.trans e7).trans e8).trans e9).trans eA)
end
end K02
namespace K02
open PySem PySem.Spec PyProof.Rows L2 Evl Lx
section
variable {P : Program} {w : World} {K : PySem.W.Frag} {mg : Str → Option Value} {base : Heap} {A : Ad}
theorem ok_law_draw (T : Txt K mg A) : FnOk P w K mg base CX0 2 A.f_law_draw A.fd_law_draw ["pen", "under"] (spDraw K) := by
  have G_law_next : FnOk P w K mg base CX0 1 _ _ ["pen"] (spNext K) := ok_law_next T
  refine T.F_law_draw.ok sc_law_draw (fun vs H Q E h => ?_) (fun cdv Ar outer s H vs Q E hr h => ?_)
  · obtain ⟨p, q, ns, u, n, rfl, _⟩ := h
    rfl
  obtain ⟨p, q, ns, u, n, rfl, hu0, hu1, hpen, hn, k⟩ := h
  refine ⟨_, (Evl.pss_cut (ps_if (pt_cmpR op_lt (pe_ix ix_list (pv 0) pe_int (fun _ _ => rfl)) (pv 1) (nomark _)) (pss_one (ps_asg (pe_call G_law_next (hr.mono (by first | decide | omega)) rfl T.m_law_next T.F_law_next.kp T.b_law_next .nil pass0 (pa_cons (pv 0) pa_nil)) (pg_sub (pv 0) pe_int set_list))) pss_nil)
  (pss_cons (ps_set (i := 2) sc_law_draw.nd rfl (by first | exact Or.inl rfl | exact Or.inr rfl) (pe_op op_mod (pe_callTy c_int (by rfl) T.z_int (by decide +kernel) (pa_cons (pe_ix ix_list (pv 0) pe_int (fun _ _ => rfl)) pa_nil)) (pv 1)))
  (pss_cons (ps_asg (pe_op op_fdiv (pe_ix ix_list (pv 0) pe_int (fun _ _ => rfl)) (pv 1)) (pg_sub (pv 0) pe_int set_list))
  (pss_one (ps_ret (pv 2)))))), ?_⟩
  obtain ⟨r, hp, hq, hr0, hn0, hlen⟩ := id hpen
  refine q_cut (M := fun σ' H' => ∃ n', σ' = start ["pen", "under", "digit"] [.ref p, .int u] ∧ n' ≤ n + 1 ∧ Pen K H' p q ns n' ∧ Stay p H H') ?_ ?_
  · refine s_when (b := decide (r < u)) (et_test (ev_op (ev_idx (ev_var rfl) ev_c (sq_of hp) (j := 2) rfl rfl) (ev_var rfl) rv_I0)) (fun hb H1 e1 => ?_) (fun hb H1 e1 => ⟨n, rfl, by omega, hpen.ex e1, Stay.of e1⟩)
    refine ⟨_, rfl, p, q, ns, n, rfl, hpen.ex e1, hn, fun x H2 hx hpen2 st => ?_⟩
    obtain ⟨r2, hp2, hq2, hr2, hn2, hl2⟩ := hpen2
    refine ⟨_, rfl, p, _, 2, 2, rfl, rfl, hp2, rfl, n + 1, rfl, by omega, ?_, ?_⟩
    · refine ⟨x, ?_, ?_, hx, hn2, hl2⟩
      · rw [upd_same]
        all_goals rfl
      · rw [lo1_upd]
        exact hq2
    · exact ((Stay.of e1).trans st).upd
  · rintro σ' H1 ⟨n', rfl, hn', ⟨r1, hp1, hq1, hr1, hn1, hl1⟩, st1⟩
    refine q_asg (v := .int (r1 % u)) (ev_op (ev_int' (ev_idx (ev_var rfl) ev_c (sq_of hp1) (j := 2) rfl rfl)) (ev_var rfl) (rv_I hu0)) fun H2 e2 => ?_
    refine q_setL (j := 2) (v := .int (r1 / u)) (e2 p _ hp1) (ev_op (ev_idx (ev_var rfl) ev_c (sq_of (e2 p _ hp1)) (j := 2) rfl rfl) (ev_var rfl) (rv_I ⟨hu0, hu1⟩)) (ev_var rfl) ev_c (by show 2 < 3; decide) fun H3 e3 => ?_
    refine s_ret (v := .int (r1 % u)) (ev_var rfl) fun H4 e4 => k (r1 % u) n' H4 (Int.emod_nonneg _ (by omega)) (Int.emod_lt_of_pos _ hu0) hn' ?_ ?_
    · refine Pen.ex ⟨r1 / u, ?_, ?_, Int.ediv_nonneg hr1 (by omega), hn1, hl1⟩ e4
      · rw [upd_same]
        all_goals rfl
      · rw [lo1_upd]
        exact (Rx.of (lo_ex (e2.trans e3))).l hq1
    · exact ((st1.trans (Stay.of (e2.trans e3))).upd).trans (Stay.of e4)
theorem ok_law_pen (T : Txt K mg A) : FnOk P w K mg base CX0 1 A.f_law_pen A.fd_law_pen ["script"] (spPen K) := by
  refine T.F_law_pen.ok sc_law_pen (fun vs H Q E h => ?_) (fun cdv Ar outer s H vs Q E hr h => ?_)
  · obtain ⟨a, ns, rfl, _⟩ := h
    rfl
  obtain ⟨a, ns, rfl, hs, k⟩ := h
  refine ⟨_, (pss_one (ps_ret (pe_lst (pa_cons (pe_callTy c_list (by rfl) T.z_list (by decide +kernel) (pa_cons (pe_slice sl_list (pv 0) po_none (po_some pe_int)) pa_nil)) (pa_cons pe_int (pa_cons pe_int pa_nil)))))), ?_⟩
  have r0 : Rp K (Lo [] H) (.list (ns.map .int)) (.ref a) := ⟨a, _, rfl, by rw [lo_nil]; exact hs, RpL.ints ns⟩
  have e1 : HT.sIx (ns.map PyData.int).length 0 none = 0 := rfl
  have e2 : HT.sIx (ns.map PyData.int).length (ns.map PyData.int).length (some 60) = min 60 (ns.map PyData.int).length := HT.sIx_nat _ _ 60
  have cut : (((ns.map PyData.int).drop (HT.sIx (ns.map PyData.int).length 0 none)).take (HT.sIx (ns.map PyData.int).length (ns.map PyData.int).length (some 60) - HT.sIx (ns.map PyData.int).length 0 none)) = (ns.take (min 60 ns.length)).map PyData.int := by
    rw [e1, e2, List.drop_zero, Nat.sub_zero, List.length_map, List.map_take]
  have d0 : Dom [] H := Dom.nil
  refine sn_ret (S := []) (K := K) (ds := [.list ((ns.take (min 60 ns.length)).map .int), .int 0, .int 0]) (n_lst d0 (a_cons (EvN.dat d0 (n_listL d0 (EvN.dat d0 ?_))) (a_cons d_int (a_cons d_int a_nil))) (by show 3 ≤ 100000; decide)) fun p xs H1 hp e1 hx rl => ?_
  · rw [← cut]
    exact n_slL d0 (d_var rfl r0) o_none (o_some (K := K) (S := []) d_int)
  · obtain ⟨x, y, z, rfl, hx1, hy, hz⟩ := rpL3 rl
    cases (show y = V.int 0 from hy)
    cases (show z = V.int 0 from hz)
    obtain ⟨q, ys, rfl, hq, hl⟩ := hx1
    have hys := ints_rp hl
    subst hys
    exact k p q _ H1 hp e1 ⟨0, hx, hq, Int.le_refl _, Int.le_refl _, by rw [List.length_take]; omega⟩
end
end K02
noncomputable section
namespace K02
open PySem PySem.Spec PyProof.Rows L2 Vz
def D_rest : DS := (dsSeq (dsPar (dCall 2 F_law_trees [] (dCons (dV 3) (dCons (dC (.int 6)) dNil))) (dCal fRepr (dCons (dV 3) dNil)) 4 5)
  (dsSeq (dsFor (diRng2 (dCons (dC (.int 1)) (dCons (dC (.int 7)) dNil))) (dgN 6) (dsFor (diRng1 (dCons (dC (.int 2)) dNil)) (dgN 7) (dsSeq (dsSet (dIf (dTb (dOp (oCmp ltI ltNs) (dCal fLen (dCons (dDGet (dV 4) (dV 6)) dNil)) (dC (.int 300)))) (dCall 2 F_trees_of_size [] (dCons (dV 3) (dCons (dV 6) dNil))) (dCal fList (dCons (dOp oIx (dV 4) (dV 6)) dNil))) 8)
  (dsSeq (dsIf (dTb (dOp oNe (dCal fRepr (dCons (dV 8) dNil)) (dCal fRepr (dCons (dDGet (dV 4) (dV 6)) dNil)))) (dsRet (dC (.bl false))) dsNext)
  (dsDrop (dBM fApp (dV 8) (dCons (dC .non) dNil)))))))
  (dsIf (dTb (dOp oNe (dCal fRepr (dCons (dV 3) dNil)) (dV 5))) (dsRet (dC (.bl false))) dsNext)))
/-- loc 0: the signs, loc 1: the pen -/
def hsOf (kvs : List (W × W)) : Hs := .mk (.n (.dct false kvs false) (.n (.opq 0) .e .e) .e) 2
def rho0 : Vz.Env := [none, some (.loc 1), none, some (.loc 0), none, none, none, none, none]
def kv (l : List (Nat × Int)) : List (W × W) := l.map fun p => (.str [p.1], .int p.2)
def sgs : List (List (Nat × Int)) := [[(97, 0), (102, 2)], [(97, 0), (98, 0), (102, 2)], [(97, 0), (102, 2), (103, 1)], [(102, 2), (98, 0), (103, 1), (97, 0)], [(97, 0), (116, 3), (99, 0)]]
def sg0 : List (Nat × Int) := [(116, 3), (97, 0), (99, 0), (103, 1)]
def isO0 : Option Ob → Bool
  | some (.opq n) => Nat.beq n 0
  | _ => false
def hd1 : Vz.Env → Bool
  | _ :: some (.loc n) :: _ => Nat.beq n 1
  | _ => false
/-- the lap ends well: the pen's slot and the pen as they were -/
def endOk (o : Out Fl) : Bool := Out.rec (fun fl h => Fl.rec (fun ρ => cond (Nat.beq ρ.length 9) (cond (hd1 ρ) (isO0 (h.get 1)) false) false) (fun _ => false) (fun _ => false) (fun _ => false) fl) (fun _ _ => false) false o
def lapOk (l : List (Nat × Int)) : Bool := endOk (D_rest rho0 (hsOf (kv l)))
theorem lap_0 : lapOk sg0 = true := by decide +kernel
theorem lap_1 : lapOk [(97, 0), (102, 2)] = true := by decide +kernel
theorem lap_2 : lapOk [(97, 0), (98, 0), (102, 2)] = true := by decide +kernel
theorem lap_3 : lapOk [(97, 0), (102, 2), (103, 1)] = true := by decide +kernel
theorem lap_4 : lapOk [(102, 2), (98, 0), (103, 1), (97, 0)] = true := by decide +kernel
theorem lap_5 : lapOk [(97, 0), (116, 3), (99, 0)] = true := by decide +kernel
theorem laps {l : List (Nat × Int)} (h : l ∈ sgs) : lapOk l = true := by
  rcases List.mem_cons.mp h with rfl | h
  · exact lap_1
  rcases List.mem_cons.mp h with rfl | h
  · exact lap_2
  rcases List.mem_cons.mp h with rfl | h
  · exact lap_3
  rcases List.mem_cons.mp h with rfl | h
  · exact lap_4
  rcases List.mem_cons.mp h with rfl | h
  · exact lap_5
  · cases h
def D_ret : DS := (dsRet (dCall 0 F_law_typed_right [] dNil))
def D_dict : D := (dDisp [((dC (.str [116])), (dC (.int 3))), ((dC (.str [97])), (dC (.int 0))), ((dC (.str [99])), (dC (.int 0))), ((dC (.str [103])), (dC (.int 1)))])
def rho9 : Vz.Env := [none, none, none, none, none, none, none, none, none]
def isBT : W → Bool
  | .bl true => true
  | _ => false
def isRtT (o : Out Fl) : Bool := Out.rec (fun fl h => Fl.rec (fun _ => false) (fun w => isBT w) (fun _ => false) (fun _ => false) fl) (fun _ _ => false) false o
theorem ret_ok : isRtT (D_ret rho9 hs0) = true := by decide +kernel
end K02
end
noncomputable section
namespace Vz
open PySem PySem.Spec PyProof.Rows L2
/-- no exception leaves it: so under any wish about exceptions -/
theorem fn_cx {P : Program} {w : World} {K : PySem.W.Frag} {mg : Str → Option Value} {base : Heap} {CX : CXT} {k : Nat} {f : Addr} {fd : FuncData} {ps : List Str} {sp : Sp} (F : FnOk P w K mg base CX0 k f fd ps sp) : FnOk P w K mg base CX k f fd ps sp :=
  ⟨F.len, fun A outer s H args us vs Q E hr he hb hv hs => codeAny_mono (F.run A outer s H args us vs Q E hr he hb hv hs) fun r s' h => by
    cases r with
    | error e => exact False.elim h
    | ok fl =>
      cases fl with
      | ret u => exact h
      | next => exact h
      | brk => exact h
      | cont => exact h⟩
theorem _root_.L2.PSs.any {ι : Type} {X : Cx} {b : List Stmt} {t : ι → TS} (h : ∀ i, PSs X b (t i)) : PSs X b (fun D σ H => ∃ i, t i D σ H) := ⟨fun pins s σ H D I ⟨i, q⟩ => (h i).run pins s σ H D I q⟩
theorem RE.length {m : List Addr} {H : Hp} : ∀ {ρ : Vz.Env} {σ : L2.St}, Vz.RE m H ρ σ → σ.length = ρ.length
  | [], _, e => by cases e; rfl
  | none :: ρ, _, e => by
    obtain ⟨x, r, rfl, e⟩ := e
    rw [List.length_cons, List.length_cons, RE.length e]
  | some w :: ρ, _, e => by
    obtain ⟨v, r, rfl, _, e⟩ := e
    rw [List.length_cons, List.length_cons, RE.length e]
theorem len9 {α : Type} : ∀ {l : List α}, l.length = 9 → ∃ a b c d e f g h i, l = [a, b, c, d, e, f, g, h, i]
  | [a, b, c, d, e, f, g, h, i], _ => ⟨a, b, c, d, e, f, g, h, i, rfl⟩
end Vz
namespace K02
open PySem PySem.Spec PyProof.Rows L2 Vz
theorem rd_kv {m m' : List Addr} {H H' : Hp} : ∀ {l : List (Nat × Int)} {ks : List (Key × V)}, RD keyW m H (kv l) ks → RD keyW m' H' (kv l) ks
  | [], _, e => e
  | (c, i) :: l, _, e => by
    obtain ⟨k', v, rs, rfl, h1, h2, h3⟩ := e
    exact ⟨k', v, rs, rfl, h1, h2, rd_kv (l := l) h3⟩
def eqKv : List (W × W) → List (Nat × Int) → Bool
  | [], [] => true
  | (.str [c], .int i) :: r, (d, j) :: s => cond (Nat.beq c d) (cond (eqI i j) (eqKv r s) false) false
  | _, _ => false
theorem eqKv_ok : ∀ {r : List (W × W)} {l : List (Nat × Int)}, eqKv r l = true → r = kv l
  | [], [], _ => rfl
  | (.str [c], .int i) :: r, (d, j) :: s, h => by
    have h : cond (Nat.beq c d) (cond (eqI i j) (eqKv r s) false) false = true := h
    obtain ⟨h1, h2⟩ := cond_t h
    obtain ⟨h2, h3⟩ := cond_t h2
    rw [Nat.eq_of_beq_eq_true h1, show i = j from of_decide_eq_true (by rw [← eqI_eq]; exact h2), eqKv_ok h3]
    rfl
def D_sg1 : DS := (dsSet (dLst (dCons (dDisp [((dC (.str [97])), (dC (.int 0))), ((dC (.str [102])), (dC (.int 2)))]) (dCons (dDisp [((dC (.str [97])), (dC (.int 0))), ((dC (.str [98])), (dC (.int 0))), ((dC (.str [102])), (dC (.int 2)))]) (dCons (dDisp [((dC (.str [97])), (dC (.int 0))), ((dC (.str [102])), (dC (.int 2))), ((dC (.str [103])), (dC (.int 1)))]) (dCons (dDisp [((dC (.str [102])), (dC (.int 2))), ((dC (.str [98])), (dC (.int 0))), ((dC (.str [103])), (dC (.int 1))), ((dC (.str [97])), (dC (.int 0)))]) dNil))))) 1)
def D_sg2 : D := (dOp opAdd (dV 1) (dLst (dCons (dDisp [((dC (.str [97])), (dC (.int 0))), ((dC (.str [116])), (dC (.int 3))), ((dC (.str [99])), (dC (.int 0)))]) dNil)))
def hP : Hs := .mk (.n (.opq 0) .e .e) 1
/-- what stands in the pool: dicts as told -/
def chk (h : Hs) : List W → List (List (Nat × Int)) → Bool
  | [], [] => true
  | .loc n :: r, l :: s => (match h.get n with
    | some (.dct false kvs false) => cond (eqKv kvs l) (cond (Nat.beq n 0) false (chk h r s)) false
    | _ => false)
  | _, _ => false
theorem isO0_ok {o : Option Ob} (h : isO0 o = true) : o = some (.opq 0) := by
  cases o with
  | none => cases h
  | some o =>
    cases o with
    | opq n => rw [Nat.eq_of_beq_eq_true (show Nat.beq n 0 = true from h)]
    | _ => cases h
def hdL (n : Nat) : Vz.Env → Bool
  | some (.loc k) :: _ => Nat.beq k n
  | _ => false
theorem hdL_ok {n : Nat} {ρ : Vz.Env} (h : hdL n ρ = true) : ∃ r, ρ = some (.loc n) :: r := by
  cases ρ with
  | nil => cases h
  | cons x r =>
    cases x with
    | none => cases h
    | some w =>
      cases w with
      | loc k => rw [Nat.eq_of_beq_eq_true (show Nat.beq k n = true from h)]; exact ⟨r, rfl⟩
      | _ => cases h
def chkW (h2 : Hs) : W → Bool
  | .loc k => (match lstAt h2 k with
    | some ws => cond (Nat.beq k 0) false (cond (Nat.beq ws.length 5) (cond (isO0 (h2.get 0)) (chk h2 ws sgs) false) false)
    | none => false)
  | _ => false
theorem chkW_ok {h2 : Hs} {w : W} (h : chkW h2 w = true) : ∃ k ws, w = .loc k ∧ lstAt h2 k = some ws ∧ k ≠ 0 ∧ ws.length = 5 ∧ h2.get 0 = some (.opq 0) ∧ chk h2 ws sgs = true := by
  cases w with
  | loc k =>
    have h : (match lstAt h2 k with
      | some ws => cond (Nat.beq k 0) false (cond (Nat.beq ws.length 5) (cond (isO0 (h2.get 0)) (chk h2 ws sgs) false) false)
      | none => false) = true := h
    cases e : lstAt h2 k with
    | none => rw [e] at h; cases h
    | some ws =>
      rw [e] at h
      have h : cond (Nat.beq k 0) false (cond (Nat.beq ws.length 5) (cond (isO0 (h2.get 0)) (chk h2 ws sgs) false) false) = true := h
      cases hb : Nat.beq k 0 with
      | true => rw [hb] at h; cases h
      | false =>
        rw [hb] at h
        obtain ⟨h1, h2⟩ := cond_t h
        obtain ⟨h3, h4⟩ := cond_t h2
        exact ⟨k, ws, rfl, e, Nat.ne_of_beq_eq_false hb, Nat.eq_of_beq_eq_true h1, isO0_ok h3, h4⟩
  | _ => cases h
def chkO (o : Out W) : Bool := Out.rec (fun w h2 => chkW h2 w) (fun _ _ => false) false o
def chkF (o : Out Fl) : Bool := Out.rec (fun fl h => Fl.rec (fun ρ => cond (hdL 0 ρ) (chkO (D_sg2 ρ h)) false) (fun _ => false) (fun _ => false) (fun _ => false) fl) (fun _ _ => false) false o
theorem pool_ok : chkF (D_sg1 [some (.loc 0), none] hP) = true := by decide +kernel
theorem pool_ex : ∃ ρ2 ρ1 h1 k h2 ws, ρ1 = some (.loc 0) :: ρ2 ∧ D_sg1 [some (.loc 0), none] hP = .ok (.nx ρ1) h1 ∧ D_sg2 ρ1 h1 = .ok (.loc k) h2 ∧ lstAt h2 k = some ws ∧ k ≠ 0 ∧ ws.length = 5 ∧ h2.get 0 = some (.opq 0) ∧ chk h2 ws sgs = true := by
  have hp := pool_ok
  cases e1 : D_sg1 [some (.loc 0), none] hP with
  | exc c h => rw [e1] at hp; cases hp
  | bad => rw [e1] at hp; cases hp
  | ok fl h1 =>
    rw [e1] at hp
    cases fl with
    | rt w => cases hp
    | bk ρ => cases hp
    | ct ρ => cases hp
    | nx ρ1 =>
      have hp : cond (hdL 0 ρ1) (chkO (D_sg2 ρ1 h1)) false = true := hp
      obtain ⟨hh, hp⟩ := cond_t hp
      obtain ⟨ρ2, hρ⟩ := hdL_ok hh
      cases e2 : D_sg2 ρ1 h1 with
      | exc c h => rw [e2] at hp; cases hp
      | bad => rw [e2] at hp; cases hp
      | ok w2 h2 =>
        rw [e2] at hp
        obtain ⟨k, ws, rfl, q1, q2, q3, q4, q5⟩ := chkW_ok (h2 := h2) (w := w2) hp
        exact ⟨ρ2, ρ1, h1, k, h2, ws, hρ, rfl, e2, q1, q2, q3, q4, q5⟩
theorem chk_get {h : Hs} : ∀ {ws : List W} {ls : List (List (Nat × Int))} {j : Nat} {w : W}, chk h ws ls = true → ws[j]? = some w → ∃ n l, w = .loc n ∧ l ∈ ls ∧ n ≠ 0 ∧ h.get n = some (.dct false (kv l) false)
  | [], [], _, _, _, e => by simp at e
  | [], _ :: _, _, _, h, _ => by cases h
  | .loc n :: r, l :: s, j, w, hc, e => by
    have hc : (match h.get n with | some (.dct false kvs false) => cond (eqKv kvs l) (cond (Nat.beq n 0) false (chk h r s)) false | _ => false) = true := hc
    cases e0 : h.get n with
    | none => rw [e0] at hc; cases hc
    | some o =>
      rw [e0] at hc
      cases o with
      | dct t kvs lk =>
        cases t with
        | true => cases hc
        | false =>
          cases lk with
          | true => cases hc
          | false =>
            have hc : cond (eqKv kvs l) (cond (Nat.beq n 0) false (chk h r s)) false = true := hc
            obtain ⟨h1, h2⟩ := cond_t hc
            cases hb : Nat.beq n 0 with
            | true => rw [hb] at h2; cases h2
            | false =>
              rw [hb] at h2
              cases j with
              | zero =>
                simp at e
                subst e
                exact ⟨n, l, rfl, by simp, Nat.ne_of_beq_eq_false hb, by rw [e0, eqKv_ok h1]⟩
              | succ j =>
                obtain ⟨n', l', q1, q2, q3⟩ := chk_get h2 (by simpa using e)
                exact ⟨n', l', q1, List.mem_cons_of_mem _ q2, q3⟩
      | _ => cases hc
def spSigns (K : PySem.W.Frag) : Sp := fun vs H Q _ => ∃ (p q : Addr) (ns : List Int) (n : Int), vs = [.ref p] ∧ Lx.Pen K H p q ns n ∧ n < 1099511627776 ∧
  ∀ (l : List (Nat × Int)) (a : Addr) (ks : List (Key × V)) (n' : Int) (H' : Hp), l ∈ sgs → H' a = some (.dK ks) → RD keyW [] H' (kv l) ks → a ≠ p → n' ≤ n + 1 → Lx.Pen K H' p q ns n' → SqL K (Lx.Lo [a, p] H') q (ns.map V.int) → Q (.ref a) H'
section
variable {P : Program} {w : World} {K : PySem.W.Frag} {mg : Str → Option Value} {base : Heap} {A : Ad} {an : Nat → Str}
theorem rh_pen {C : Cn} {p : Addr} {H : Hp} (hp : H p = some (.lst (C.oq 0))) : C.rh [p] hP H := by
  refine ⟨rfl, by simp, fun i a e => ?_, fun i o e => ?_⟩
  · cases i with
    | zero => cases e; exact ⟨.opq 0, rfl, hp⟩
    | succ i => simp at e
  · cases i with
    | zero => exact Nat.zero_lt_one
    | succ i =>
      have : hP.get (i + 1) = none := by
        show T.get (.n (.opq 0) .e .e) (i + 1) = none
        rw [T.get_s]
        cases Nat.beq (i % 2) 0 <;> rfl
      rw [this] at e
      cases e
theorem step_ex {p : Addr} {m2 : List Addr} {H H2 : Hp} (s : Step [p] H m2 H2) : ∀ b, b ≠ p → ∀ o, H b = some o → H2 b = some o := fun b hb o e => s.fr b o e fun z => hb (List.mem_singleton.mp z)
theorem ok_law_signs (T : Txt K mg A) : FnOk P w K mg base (L2.CX P w) 3 A.f_law_signs A.fd_law_signs ["pen"] (spSigns K) := by
  have G_law_draw : FnOk P w K mg base (L2.CX P w) 2 _ _ ["pen", "under"] (Lx.spDraw K) := fn_cx (ok_law_draw T)
  refine T.F_law_signs.okX sc_law_signs (fun vs H Q E h => ?_) (fun cdv Ar outer s H vs Q E hr h => ?_)
  · obtain ⟨p, q, ns, n, rfl, _⟩ := h
    rfl
  obtain ⟨p, q, ns, n, rfl, pen, hn, k⟩ := h
  obtain ⟨r, hp, hq, hr0, hn0, hlen⟩ := id pen
  let C0 : Cn := ⟨K, A.ca, fun _ => "", fun _ => [.ref q, .int n, .int r]⟩
  refine ⟨_, pss_cons (t := tDS C0 E D_sg1) (ds_set (ps_set (i := 1) sc_law_signs.nd rfl (by first | exact Or.inl rfl | exact Or.inr rfl) (de_lst (da_cons (de_disp (ts := [((dC (.str [97])), (dC (.int 0))), ((dC (.str [102])), (dC (.int 2)))]) (pps_cons (de_str (l := [97]) (by rfl)) de_int (pps_cons (de_str (l := [102]) (by rfl)) de_int pps_nil)) (by rfl) (by rfl) (fun z => by cases z) (by decide)) (da_cons (de_disp (ts := [((dC (.str [97])), (dC (.int 0))), ((dC (.str [98])), (dC (.int 0))), ((dC (.str [102])), (dC (.int 2)))]) (pps_cons (de_str (l := [97]) (by rfl)) de_int (pps_cons (de_str (l := [98]) (by rfl)) de_int (pps_cons (de_str (l := [102]) (by rfl)) de_int pps_nil))) (by rfl) (by rfl) (fun z => by cases z) (by decide)) (da_cons (de_disp (ts := [((dC (.str [97])), (dC (.int 0))), ((dC (.str [102])), (dC (.int 2))), ((dC (.str [103])), (dC (.int 1)))]) (pps_cons (de_str (l := [97]) (by rfl)) de_int (pps_cons (de_str (l := [102]) (by rfl)) de_int (pps_cons (de_str (l := [103]) (by rfl)) de_int pps_nil))) (by rfl) (by rfl) (fun z => by cases z) (by decide)) (da_cons (de_disp (ts := [((dC (.str [102])), (dC (.int 2))), ((dC (.str [98])), (dC (.int 0))), ((dC (.str [103])), (dC (.int 1))), ((dC (.str [97])), (dC (.int 0)))]) (pps_cons (de_str (l := [102]) (by rfl)) de_int (pps_cons (de_str (l := [98]) (by rfl)) de_int (pps_cons (de_str (l := [103]) (by rfl)) de_int (pps_cons (de_str (l := [97]) (by rfl)) de_int pps_nil)))) (by rfl) (by rfl) (fun z => by cases z) (by decide)) da_nil))))))) (pss_one (ps_ret (pe_ix (L2.ix_list) (tb := _) (ta := tD C0 E D_sg2) (de_op (op_addD rfl) od_add (de_v (pv 1)) (de_lst (da_cons (de_disp (ts := [((dC (.str [97])), (dC (.int 0))), ((dC (.str [116])), (dC (.int 3))), ((dC (.str [99])), (dC (.int 0)))]) (pps_cons (de_str (l := [97]) (by rfl)) de_int (pps_cons (de_str (l := [116]) (by rfl)) de_int (pps_cons (de_str (l := [99]) (by rfl)) de_int pps_nil))) (by rfl) (by rfl) (fun z => by cases z) (by decide)) da_nil))) (pe_call G_law_draw (hr.mono (by first | decide | omega)) rfl T.m_law_draw T.F_law_draw.kp T.b_law_draw .nil pass_body (pa_cons (pv 0) (pa_cons pe_int pa_nil))) (fun _ _ => rfl)))), ?_⟩
  obtain ⟨ρ2, ρ1, h1, kk, h2, ws, hρ, e1, e2, e3, hkk, hl5, hg0, hc⟩ := pool_ex
  have rh0 : C0.rh [p] hP H := rh_pen hp
  refine ⟨[p], [some (.loc 0), none], hP, ⟨_, _, rfl, ⟨p, rfl, rfl⟩, _, _, rfl, rfl⟩, rh0, ?_⟩
  rw [e1]
  intro m1 H1 s1 k1 σ1 r1
  refine ⟨m1, ρ1, h1, r1, k1, ?_⟩
  rw [e2]
  intro m2 H2 s2 k2 v rv
  have s12 := s1.trans s2
  have pm : m2[0]? = some p := s12.get rfl
  obtain ⟨a0, xs, rfl, ha0, q0, rs⟩ := lst_of k2 e3 rv
  have hd2 : ∀ {i : Nat} {a : Addr}, m2[i]? = some a → i ≠ 0 → a ≠ p := fun {i a} e hi z => by
    subst z
    obtain ⟨l1, q1⟩ := List.getElem?_eq_some_iff.mp e
    obtain ⟨l2, q2⟩ := List.getElem?_eq_some_iff.mp pm
    exact hi ((List.getElem_inj k2.nd).mp (q1.trans q2.symm))
  have ex2 : Evl.Ex (Lx.Lo [p] H) (Lx.Lo [p] H2) := fun b o e => by
    by_cases hm : b ∈ [p]
    · rw [Lx.lo_in hm] at e
      cases e
    · rw [Lx.lo_out hm] at e ⊢
      exact s12.fr b o e hm
  have hp2 : H2 p = some (.lst [.ref q, .int n, .int r]) := by
    obtain ⟨a, ea, hro⟩ := k2.at hg0
    rw [pm] at ea
    cases ea
    exact hro
  have pen2 : Lx.Pen K H2 p q ns n := ⟨r, hp2, (Lx.Rx.of ex2).l hq, hr0, hn0, hlen⟩
  -- the draw
  subst hρ
  obtain ⟨vp, σr, rfl, rvp, _⟩ := r1
  obtain ⟨ap, eap, rfl⟩ := rvp
  have eap : ap = p := by
    have := s1.get (n := 0) (a := p) rfl
    rw [eap] at this
    exact Option.some.inj this
  subst eap
  refine ⟨.ref ap, rfl, ap, q, ns, 5, n, rfl, by decide, by decide, pen2, hn, fun x n' H3 hx0 hx5 hn' pen3 st3 => ?_⟩
  obtain ⟨j, rfl⟩ : ∃ j : Nat, x = (j : Int) := ⟨x.toNat, by omega⟩
  have hj : j < ws.length := by omega
  obtain ⟨v, hv1, hv2⟩ := rs.get (i := j) (List.getElem?_eq_getElem hj)
  obtain ⟨nn, l, ew, hl, hn0', hget⟩ := chk_get hc (List.getElem?_eq_getElem hj)
  rw [ew] at hv2
  obtain ⟨a, ha, rfl⟩ := hv2
  obtain ⟨a', ha', hro⟩ := k2.at hget
  rw [ha] at ha'
  cases ha'
  obtain ⟨u, hu, ks, rfl, hrd⟩ := hro
  have hap : a ≠ ap := hd2 ha hn0'
  have ha00 : a0 ≠ ap := hd2 ha0 hkk
  have hH : H a = none := s12.new a (List.mem_of_getElem? ha) fun z => hap (List.mem_singleton.mp z)
  refine ⟨a0, xs, (j : Int), .ref a, rfl, rfl, .inl (.inl (st3 a0 _ ha00 q0)), L2.at_of rfl hv1, ?_⟩
  refine k l a ks n' H3 hl (st3 a _ hap hu) (rd_kv hrd) hap hn' pen3 ?_
  refine (Lx.Rx.of (fun b o e => ?_ : Evl.Ex (Lx.Lo [ap] H) (Lx.Lo [a, ap] H3))).l hq
  by_cases hm : b ∈ [ap]
  · rw [Lx.lo_in hm] at e
    cases e
  · rw [Lx.lo_out hm] at e
    have hb : b ≠ ap := fun z => hm (List.mem_singleton.mpr z)
    have hba : b ≠ a := fun z => by rw [z, hH] at e; cases e
    rw [Lx.lo_out (fun z => (List.mem_cons.mp z).elim hba hm)]
    exact st3 b o hb (s12.fr b o e hm)
end
end K02
end
noncomputable section
namespace K02
open PySem PySem.Spec PyProof.Rows L2 Vz
theorem hd1_ok {ρ : Vz.Env} (h : hd1 ρ = true) : ∃ x r, ρ = x :: some (.loc 1) :: r := by
  match ρ, h with
  | x :: some (.loc n) :: r, h => exact ⟨x, r, by rw [Nat.eq_of_beq_eq_true (show Nat.beq n 1 = true from h)]⟩
theorem endOk_ok {o : Out Fl} (h : endOk o = true) : ∃ x r h', o = .ok (.nx (x :: some (.loc 1) :: r)) h' ∧ r.length = 7 ∧ h'.get 1 = some (.opq 0) := by
  cases o with
  | exc c h' => cases h
  | bad => cases h
  | ok fl h' =>
    cases fl with
    | rt w => cases h
    | bk ρ => cases h
    | ct ρ => cases h
    | nx ρ =>
      have h : cond (Nat.beq ρ.length 9) (cond (hd1 ρ) (isO0 (h'.get 1)) false) false = true := h
      obtain ⟨h1, h2⟩ := cond_t h
      obtain ⟨h2, h3⟩ := cond_t h2
      obtain ⟨x, r, rfl⟩ := hd1_ok h2
      have := Nat.eq_of_beq_eq_true h1
      exact ⟨x, r, h', rfl, by simpa using this, isO0_ok h3⟩
theorem isRtT_ok {o : Out Fl} (h : isRtT o = true) : ∃ h', o = .ok (.rt (.bl true)) h' := by
  cases o with
  | exc c h' => cases h
  | bad => cases h
  | ok fl h' =>
    cases fl with
    | nx w => cases h
    | bk ρ => cases h
    | ct ρ => cases h
    | rt w =>
      have h : isBT w = true := h
      cases w with
      | bl b =>
        cases b with
        | true => exact ⟨h', rfl⟩
        | false => cases h
      | _ => cases h
def chkD (o : Out W) : Bool := Out.rec (fun w h => match w with
  | .loc n => (match h.get n with
    | some (.dct false kvs false) => eqKv kvs sg0
    | _ => false)
  | _ => false) (fun _ _ => false) false o
theorem dict_ok : chkD (D_dict rho9 hs0) = true := by decide +kernel
theorem dict_ex : ∃ n h, D_dict rho9 hs0 = .ok (.loc n) h ∧ h.get n = some (.dct false (kv sg0) false) := by
  have hp := dict_ok
  cases e : D_dict rho9 hs0 with
  | exc c h => rw [e] at hp; cases hp
  | bad => rw [e] at hp; cases hp
  | ok w h =>
    rw [e] at hp
    cases w with
    | loc n =>
      have hp : (match h.get n with
        | some (.dct false kvs false) => eqKv kvs sg0
        | _ => false) = true := hp
      cases e0 : h.get n with
      | none => rw [e0] at hp; cases hp
      | some o =>
        rw [e0] at hp
        cases o with
        | dct t kvs lk =>
          cases t with
          | true => cases hp
          | false =>
            cases lk with
            | true => cases hp
            | false => exact ⟨n, h, rfl, by rw [e0, eqKv_ok hp]⟩
        | _ => cases hp
    | _ => cases hp
theorem rh_nil {C : Cn} {H : Hp} : C.rh [] hs0 H := ⟨rfl, by simp, fun i a e => by simp at e, fun i o e => by
  have : hs0.get i = none := rfl
  rw [this] at e
  cases e⟩
theorem rh_two {C : Cn} {a p : Addr} {H : Hp} {l : List (Nat × Int)} {ks : List (Key × V)} (ha : H a = some (.dK ks)) (hr : RD keyW [] H (kv l) ks) (hn : a ≠ p) (hp : H p = some (.lst (C.oq 0))) : C.rh [a, p] (hsOf (kv l)) H := by
  refine ⟨rfl, by simp [hn], fun i b e => ?_, fun i o e => ?_⟩
  · match i, e with
    | 0, e => cases e; exact ⟨.dct false (kv l) false, rfl, _, ha, ks, rfl, rd_kv hr⟩
    | 1, e => cases e; exact ⟨.opq 0, rfl, hp⟩
    | i + 2, e => simp at e
  · match i, e with
    | 0, e => exact Nat.zero_lt_succ _
    | 1, e => exact Nat.succ_lt_succ (Nat.zero_lt_succ _)
    | i + 2, e =>
      exfalso
      have : (hsOf (kv l)).get (i + 2) = none := by
        show T.get (.n _ (.n (.opq 0) .e .e) .e) (i + 1 + 1) = none
        rw [T.get_s]
        cases hb : Nat.beq ((i + 1) % 2) 0 with
        | false => rfl
        | true =>
          show T.get (.n (.opq 0) .e .e) ((i + 1) / 2) = none
          cases hi : (i + 1) / 2 with
          | zero =>
            have := Nat.eq_of_beq_eq_true hb
            omega
          | succ j =>
            rw [T.get_s]
            cases Nat.beq (j % 2) 0 <;> rfl
      rw [this] at e
      cases e
def spLaw (K : PySem.W.Frag) : Sp := fun vs H Q _ => ∃ (a : Addr) (ns : List Int), vs = [.ref a] ∧ SqL K H a (ns.map V.int) ∧ ns.length ≤ 63 ∧ ∀ H', Q (.bl true) H'
section
variable {P : Program} {w : World} {K : PySem.W.Frag} {mg : Str → Option Value} {base : Heap} {A : Ad}
theorem ok_law (T : Txt K mg A) : Lx.FnG P w K mg base (L2.CX P w) 130 A.f_law A.fd_law ["script"] (spLaw K) := by
  have G_law_pen : FnOk P w K mg base (L2.CX P w) 1 _ _ ["script"] (Lx.spPen K) := fn_cx (ok_law_pen T)
  have G_law_signs : FnOk P w K mg base (L2.CX P w) 3 _ _ ["pen"] (spSigns K) := ok_law_signs T
  refine Lx.FnG.mk' T.F_law sc_law (fun vs H Q E h => ?_) (fun cdv Ar outer s H vs Q E gd hr h => ?_)
  · obtain ⟨a, ns, rfl, _⟩ := h
    rfl
  obtain ⟨a, ns, rfl, hsc, h63, q⟩ := h
  refine ⟨_, pss_cons (ps_set (i := 1) sc_law.nd rfl (by first | exact Or.inl rfl | exact Or.inr rfl) (pe_call G_law_pen (hr.mono (by decide)) rfl T.m_law_pen T.F_law_pen.kp T.b_law_pen .nil pass_body (pa_cons (pv 0) pa_nil)))
    (pss_cons (ps_for (passes_of rfl) rfl (pi_range1 (by rfl) T.z_range (pa_cons pe_int pa_nil)) (pg_name (i := 2) sc_law.nd rfl (by first | exact Or.inl rfl | exact Or.inr rfl))
      (pss_cons (ps_set (i := 3) sc_law.nd rfl (by first | exact Or.inl rfl | exact Or.inr rfl) (pe_ifExp (pt_cmpR op_gt (pv 2) pe_int (nomark _)) (pe_call G_law_signs (hr.mono (by decide)) rfl T.m_law_signs T.F_law_signs.kp T.b_law_signs .nil pass_body (pa_cons (pv 1) pa_nil))
          (tb := tD ⟨K, A.ca, fun _ => "", fun _ => []⟩ E D_dict) (de_disp (ts := [((dC (.str [116])), (dC (.int 3))), ((dC (.str [97])), (dC (.int 0))), ((dC (.str [99])), (dC (.int 0))), ((dC (.str [103])), (dC (.int 1)))]) (pps_cons (de_str (l := [116]) (by rfl)) de_int (pps_cons (de_str (l := [97]) (by rfl)) de_int (pps_cons (de_str (l := [99]) (by rfl)) de_int (pps_cons (de_str (l := [103]) (by rfl)) de_int pps_nil)))) (by rfl) (by rfl) (fun z => by cases z) (by decide))))
        (PSs.any (ι := Nat → List V) (t := fun oq => tDS ⟨K, A.ca, fun _ => "", oq⟩ E D_rest) fun oq => (dss_cons (ds_par (ps_par (by rfl) sc_law.nd rfl rfl (by decide) rfl rfl (da_cons (de_call (dws := []) (dvs := []) (ok_law_trees T) (hr.mono (by first | decide | omega)) pass_body (by rfl) T.m_law_trees T.F_law_trees.kp T.b_law_trees .nil (fun _ _ => rfl) (da_cons (de_v (pv 3)) (da_cons de_int da_nil))) (da_cons (de_callB (cr_repr gd hr.units) cd_repr (by rfl) T.z_repr (by decide +kernel) (da_cons (de_v (pv 3)) da_nil)) da_nil)) (by rfl)))
  (dss_cons (ds_for (passes_of rfl) rfl (di_rng2 (by rfl) T.z_range (da_cons de_int (da_cons de_int da_nil))) (dg_name (pg_name (i := 6) sc_law.nd rfl (by first | exact Or.inl rfl | exact Or.inr rfl))) (dss_one (ds_for (passes_of rfl) rfl (di_rng1 (by rfl) T.z_range (da_cons de_int da_nil)) (dg_name (pg_name (i := 7) sc_law.nd rfl (by first | exact Or.inl rfl | exact Or.inr rfl))) (dss_cons (ds_set (ps_set (i := 8) sc_law.nd rfl (by first | exact Or.inl rfl | exact Or.inr rfl) (de_if (dt_cmpR op_ltE od_cmp (de_callB (cr_len rfl) cd_len (by rfl) T.z_len (by decide +kernel) (da_cons (de_dget (hu_of hr) (de_v (pv 4)) (de_v (pv 6)) (fun _ _ => rfl)) da_nil)) de_int (nomark _)) (de_call (dws := []) (dvs := []) (ok_trees_of_size T) (hr.mono (by first | decide | omega)) pass_body (by rfl) T.m_trees_of_size T.F_trees_of_size.kp T.b_trees_of_size .nil (fun _ _ => rfl) (da_cons (de_v (pv 3)) (da_cons (de_v (pv 6)) da_nil))) (de_callTy (cr_list rfl) cd_list (by rfl) T.z_list (by decide +kernel) (da_cons (de_ix (ix_D rfl) od_ix (de_v (pv 4)) (de_v (pv 6)) (fun _ _ => rfl)) da_nil)))))
  (dss_cons (ds_if (dt_cmpR (op_neE hr.units rfl) od_ne (de_callB (cr_repr gd hr.units) cd_repr (by rfl) T.z_repr (by decide +kernel) (da_cons (de_v (pv 8)) da_nil)) (de_callB (cr_repr gd hr.units) cd_repr (by rfl) T.z_repr (by decide +kernel) (da_cons (de_dget (hu_of hr) (de_v (pv 4)) (de_v (pv 6)) (fun _ _ => rfl)) da_nil)) (nomark _)) (dss_one (ds_ret de_bl)) dss_nil)
  (dss_one (ds_expr (de_bm rfl PySem.F.plainAttrs_list PySem.F.slot_list_append PySem.F.type_list_append mt_append bd_app (de_v (pv 8)) (da_cons de_non da_nil)))))))))
  (dss_one (ds_if (dt_cmpR (op_neE hr.units rfl) od_ne (de_callB (cr_repr gd hr.units) cd_repr (by rfl) T.z_repr (by decide +kernel) (da_cons (de_v (pv 3)) da_nil)) (de_v (pv 5)) (nomark _)) (dss_one (ds_ret de_bl)) dss_nil)))))))
    (pss_one (t := tDS ⟨K, A.ca, fun _ => "", fun _ => []⟩ E D_ret) (ds_ret (de_call0 (dws := []) (dvs := []) (ok_law_typed_right T) (hr.mono (by first | decide | omega)) pass_body (by rfl) T.m_law_typed_right T.F_law_typed_right.kp T.b_law_typed_right .nil (fun _ _ => rfl))))), ?_⟩
  refine ⟨_, rfl, a, ns, rfl, hsc, fun p cq cs H1 hp1 e1 pen1 => ?_⟩
  refine Evl.q_forR1 (n := 6) (Evl.ea_cons Evl.ev_c Evl.ea_nil) ⟨by decide, by decide⟩ (fun i σ' H' => ∃ (n : Int) (x0 x2 x3 x4 x5 x6 x7 x8 : Option V), σ' = [x0, some (.ref p), x2, x3, x4, x5, x6, x7, x8] ∧ Lx.Pen K H' p cq cs n ∧ n ≤ (i : Int))
    (fun H2 e2 => ⟨0, _, none, none, none, none, none, none, none, rfl, pen1.ex e2, by decide⟩) ?_ ?_
  · rintro i σ' H2 hi ⟨n, x0, x2, x3, x4, x5, x6, x7, x8, rfl, pen2, hn⟩
    refine (Evl.et_test (Evl.ev_op (Evl.ev_var rfl) Evl.ev_c Evl.rv_I0)) H2 (Evl.Ex.refl _) _ fun H3 e3 => ?_
    have pen3 := pen2.ex e3
    have key : ∀ (D' : Ends), (∀ (n' : Int) (y0 y2 y3 y4 y5 y6 y7 y8 : Option V) (H' : Hp), Lx.Pen K H' p cq cs n' → n' ≤ ((i + 1 : Nat) : Int) → D'.nx [y0, some (.ref p), y2, y3, y4, y5, y6, y7, y8] H') →
        ∀ (l : List (Nat × Int)) (a' : Addr) (ks : List (Key × V)) (n' : Int) (H4 : Hp) (z2 : Option V), lapOk l = true → H4 a' = some (.dK ks) → RD keyW [] H4 (kv l) ks → a' ≠ p → n' ≤ n + 1 → Lx.Pen K H4 p cq cs n' → SqL K (Lx.Lo [a', p] H4) cq (cs.map V.int) →
        ∃ oq, tDS ⟨K, A.ca, fun _ => "", oq⟩ E D_rest D' [x0, some (.ref p), z2, some (.ref a'), x4, x5, x6, x7, x8] H4 := by
      intro D' hD l a' ks n' H4 z2 hl ha hr' hne hn' pen4 hc4
      obtain ⟨r, hp4, _, hr0, hn0, hlen⟩ := pen4
      obtain ⟨y, rr, h', el, hrl, hg⟩ := endOk_ok hl
      refine ⟨fun _ => [.ref cq, .int n', .int r], [a', p], rho0, hsOf (kv l), ⟨_, _, rfl, ⟨_, _, rfl, ⟨p, rfl, rfl⟩, _, _, rfl, _, _, rfl, ⟨a', rfl, rfl⟩, _, _, rfl, _, _, rfl, _, _, rfl, _, _, rfl, _, _, rfl, rfl⟩⟩, rh_two ha hr' hne hp4, ?_⟩
      rw [el]
      intro m' H' s' k' σ' r'
      have hm1 : m'[1]? = some p := s'.get rfl
      have hlen' := r'.length
      have shape : ∃ y0 y2 y3 y4 y5 y6 y7 y8, σ' = [y0, some (.ref p), y2, y3, y4, y5, y6, y7, y8] := by
        obtain ⟨b0, b1, b2, b3, b4, b5, b6, b7, b8, rfl⟩ := len9 (l := σ') (by rw [hlen', List.length_cons, List.length_cons, hrl])
        have hs : RE m' H' (some (.loc 1) :: rr) [b1, b2, b3, b4, b5, b6, b7, b8] := by
          cases y with
          | none =>
            obtain ⟨_, _, e, r'⟩ := r'
            cases e
            exact r'
          | some w0 =>
            obtain ⟨_, _, e, _, r'⟩ := r'
            cases e
            exact r'
        obtain ⟨v, _, e, rv, _⟩ := hs
        cases e
        obtain ⟨pp, hpp, rfl⟩ := rv
        rw [hm1] at hpp
        cases hpp
        exact ⟨_, _, _, _, _, _, _, _, rfl⟩
      obtain ⟨y0, y2, y3, y4, y5, y6, y7, y8, rfl⟩ := shape
      refine hD n' y0 y2 y3 y4 y5 y6 y7 y8 H' ?_ (by omega)
      obtain ⟨pp, hpp, hro⟩ := k'.at hg
      rw [hm1] at hpp
      cases hpp
      refine ⟨r, hro, (Lx.Rx.of (fun b o e => ?_ : Evl.Ex (Lx.Lo [a', p] H4) (Lx.Lo [p] H'))).l hc4, hr0, hn0, hlen⟩
      by_cases hm : b ∈ [a', p]
      · rw [Lx.lo_in hm] at e
        cases e
      · rw [Lx.lo_out hm] at e
        rw [Lx.lo_out (fun z => hm (List.mem_cons_of_mem _ z))]
        exact s'.fr b o e hm
    split
    · refine ⟨_, rfl, p, cq, cs, n, rfl, pen3, by omega, fun l a' ks n' H4 hl ha hr' hne hn' pen4 hc4 => ?_⟩
      refine key _ ?_ l a' ks n' H4 _ (laps hl) ha hr' hne hn' pen4 hc4
      exact fun n' y0 y2 y3 y4 y5 y6 y7 y8 H' hp hle => ⟨n', y0, y2, y3, y4, y5, y6, y7, y8, rfl, hp, hle⟩
    · obtain ⟨nn, h1, ed, hg⟩ := dict_ex
      refine ⟨[], rho9, hs0, ⟨_, _, rfl, _, _, rfl, _, _, rfl, _, _, rfl, _, _, rfl, _, _, rfl, _, _, rfl, _, _, rfl, _, _, rfl, rfl⟩, rh_nil, ?_⟩
      rw [ed]
      intro m' H4 s' k' v rv
      obtain ⟨a', ha', rfl⟩ := rv
      obtain ⟨b, hb, u, hu, ks, rfl, hrd⟩ := k'.at hg
      rw [ha'] at hb
      cases hb
      have hH : H3 a' = none := s'.new a' (List.mem_of_getElem? ha') (by simp)
      have ex4 : Evl.Ex H3 H4 := fun b o e => s'.fr b o e (by simp)
      obtain ⟨r, hp3, hq3, hr0, hn0, hlen⟩ := id pen3
      have hne : a' ≠ p := fun z => by rw [z, hp3] at hH; cases hH
      refine key _ ?_ sg0 a' ks n H4 _ lap_0 hu (rd_kv hrd) hne (by omega) (pen3.ex ex4) ?_
      · exact fun n' y0 y2 y3 y4 y5 y6 y7 y8 H' hp hle => ⟨n', y0, y2, y3, y4, y5, y6, y7, y8, rfl, hp, hle⟩
      refine (Lx.Rx.of (fun b o e => ?_ : Evl.Ex (Lx.Lo [p] H3) (Lx.Lo [a', p] H4))).l hq3
      by_cases hm : b ∈ [p]
      · rw [Lx.lo_in hm] at e
        cases e
      · rw [Lx.lo_out hm] at e
        have hba : b ≠ a' := fun z => by rw [z, hH] at e; cases e
        rw [Lx.lo_out (fun z => (List.mem_cons.mp z).elim hba hm)]
        exact ex4 b o e
  · rintro σ' H2 ⟨n, x0, x2, x3, x4, x5, x6, x7, x8, rfl, _, _⟩
    obtain ⟨h', er⟩ := isRtT_ok ret_ok
    refine ⟨[], rho9, hs0, ⟨_, _, rfl, _, _, rfl, _, _, rfl, _, _, rfl, _, _, rfl, _, _, rfl, _, _, rfl, _, _, rfl, _, _, rfl, rfl⟩, rh_nil, ?_⟩
    rw [er]
    intro m' H' s' k' v rv
    cases rv
    exact q H'
end
end K02
end
namespace K02
open PySem PySem.Spec PyProof.Rows L2
theorem exm_own {K : PySem.W.Frag} {S : Addr} (h1 : PySem.W.subIn K (.ref S) (.type "BaseException") = some true) (h2 : PySem.W.isClsIn K S = true) (h3 : PySem.W.typeIn K (.ref S) = some (.type "type")) (h4 : PySem.W.subIn K (.ref S) (.ref S) = some true) : PySem.W.exmOne K (.ref S) (.ref S) = some true := by
  unfold PySem.W.isClsIn at h2
  unfold PySem.W.exmOne PySem.W.kitCls
  simp only [h1, h2, h3, h4, beq_self_eq_true, Bool.and_self, if_true]
theorem all_mk {l : PySem.W.OpenLaw} {w : World} {K : PySem.W.Frag} {h : Heap} {mg : Str → Option Value} {fa : Addr} (X : K.In h) (G : h.Ns mainGlobals mg) (hfa : mg "law" = some (.ref fa))
    {f_row_counts f_rows_with f_grown f_is_integer f_is_between f_is_name f_is_signs f_check_signs f_trees_of_size f_law_pen f_law_next f_law_draw f_law_spans f_law_trees f_law_signs f_law_is_refused f_law_typed_right f_law : Addr} {od_row_counts an_row_counts od_rows_with an_rows_with od_grown an_grown od_is_integer an_is_integer od_is_between an_is_between od_is_name an_is_name od_is_signs an_is_signs od_check_signs an_check_signs od_trees_of_size an_trees_of_size od_law_pen an_law_pen od_law_next an_law_next od_law_draw an_law_draw od_law_spans an_law_spans od_law_trees an_law_trees od_law_signs an_law_signs od_law_is_refused an_law_is_refused od_law_typed_right an_law_typed_right od_law an_law : Option Addr} {sl_row_counts sl_rows_with sl_grown sl_is_integer sl_is_between sl_is_name sl_is_signs sl_check_signs sl_trees_of_size sl_law_pen sl_law_next sl_law_draw sl_law_spans sl_law_trees sl_law_signs sl_law_is_refused sl_law_typed_right sl_law : Array (Option Value)} {oc_row_counts kV_row_counts dc_row_counts pm_row_counts cd_row_counts ct_row_counts oc_rows_with kV_rows_with dc_rows_with pm_rows_with cd_rows_with ct_rows_with oc_grown kV_grown dc_grown pm_grown cd_grown ct_grown oc_is_integer kV_is_integer dc_is_integer pm_is_integer cd_is_integer ct_is_integer oc_is_between kV_is_between dc_is_between pm_is_between cd_is_between ct_is_between oc_is_name kV_is_name dc_is_name pm_is_name cd_is_name ct_is_name oc_is_signs kV_is_signs dc_is_signs pm_is_signs cd_is_signs ct_is_signs oc_check_signs kV_check_signs dc_check_signs pm_check_signs cd_check_signs ct_check_signs oc_trees_of_size kV_trees_of_size dc_trees_of_size pm_trees_of_size cd_trees_of_size ct_trees_of_size oc_law_pen kV_law_pen dc_law_pen pm_law_pen cd_law_pen ct_law_pen oc_law_next kV_law_next dc_law_next pm_law_next cd_law_next ct_law_next oc_law_draw kV_law_draw dc_law_draw pm_law_draw cd_law_draw ct_law_draw oc_law_spans kV_law_spans dc_law_spans pm_law_spans cd_law_spans ct_law_spans oc_law_trees kV_law_trees dc_law_trees pm_law_trees cd_law_trees ct_law_trees oc_law_signs kV_law_signs dc_law_signs pm_law_signs cd_law_signs ct_law_signs oc_law_is_refused kV_law_is_refused dc_law_is_refused pm_law_is_refused cd_law_is_refused ct_law_is_refused oc_law_typed_right kV_law_typed_right dc_law_typed_right pm_law_typed_right cd_law_typed_right ct_law_typed_right oc_law kV_law dc_law pm_law cd_law ct_law : Value} {t_LONGEST_NAME t_MOST_SIGNS t_MOST_BROTHERS t_MOST_SIZE t_MOST_TREES : Tok}
    (a_row_counts : PySem.W.nsIn K mainGlobals "row_counts" = some (some (.ref f_row_counts))) (l_row_counts : K.lookup f_row_counts = some ⟨oc_row_counts, od_row_counts, .func (PySem.W.fnOf "row_counts" "row_counts" (defArgs s_row_counts) (defBody s_row_counts) (defScope s_row_counts) .none kV_row_counts dc_row_counts pm_row_counts an_row_counts cd_row_counts ct_row_counts), sl_row_counts⟩) (q_row_counts : PySem.W.codeIn K cd_row_counts "row_counts" = true) (k_row_counts : PySem.W.keepIn K (.ref f_row_counts) = true)
    (a_rows_with : PySem.W.nsIn K mainGlobals "rows_with" = some (some (.ref f_rows_with))) (l_rows_with : K.lookup f_rows_with = some ⟨oc_rows_with, od_rows_with, .func (PySem.W.fnOf "rows_with" "rows_with" (defArgs s_rows_with) (defBody s_rows_with) (defScope s_rows_with) .none kV_rows_with dc_rows_with pm_rows_with an_rows_with cd_rows_with ct_rows_with), sl_rows_with⟩) (q_rows_with : PySem.W.codeIn K cd_rows_with "rows_with" = true) (k_rows_with : PySem.W.keepIn K (.ref f_rows_with) = true)
    (a_grown : PySem.W.nsIn K mainGlobals "grown" = some (some (.ref f_grown))) (l_grown : K.lookup f_grown = some ⟨oc_grown, od_grown, .func (PySem.W.fnOf "grown" "grown" (defArgs s_grown) (defBody s_grown) (defScope s_grown) .none kV_grown dc_grown pm_grown an_grown cd_grown ct_grown), sl_grown⟩) (q_grown : PySem.W.codeIn K cd_grown "grown" = true) (k_grown : PySem.W.keepIn K (.ref f_grown) = true)
    (a_is_integer : PySem.W.nsIn K mainGlobals "is_integer" = some (some (.ref f_is_integer))) (l_is_integer : K.lookup f_is_integer = some ⟨oc_is_integer, od_is_integer, .func (PySem.W.fnOf "is_integer" "is_integer" (defArgs s_is_integer) (defBody s_is_integer) (defScope s_is_integer) .none kV_is_integer dc_is_integer pm_is_integer an_is_integer cd_is_integer ct_is_integer), sl_is_integer⟩) (q_is_integer : PySem.W.codeIn K cd_is_integer "is_integer" = true) (k_is_integer : PySem.W.keepIn K (.ref f_is_integer) = true)
    (a_is_between : PySem.W.nsIn K mainGlobals "is_between" = some (some (.ref f_is_between))) (l_is_between : K.lookup f_is_between = some ⟨oc_is_between, od_is_between, .func (PySem.W.fnOf "is_between" "is_between" (defArgs s_is_between) (defBody s_is_between) (defScope s_is_between) .none kV_is_between dc_is_between pm_is_between an_is_between cd_is_between ct_is_between), sl_is_between⟩) (q_is_between : PySem.W.codeIn K cd_is_between "is_between" = true) (k_is_between : PySem.W.keepIn K (.ref f_is_between) = true)
    (a_is_name : PySem.W.nsIn K mainGlobals "is_name" = some (some (.ref f_is_name))) (l_is_name : K.lookup f_is_name = some ⟨oc_is_name, od_is_name, .func (PySem.W.fnOf "is_name" "is_name" (defArgs s_is_name) (defBody s_is_name) (defScope s_is_name) .none kV_is_name dc_is_name pm_is_name an_is_name cd_is_name ct_is_name), sl_is_name⟩) (q_is_name : PySem.W.codeIn K cd_is_name "is_name" = true) (k_is_name : PySem.W.keepIn K (.ref f_is_name) = true)
    (a_is_signs : PySem.W.nsIn K mainGlobals "is_signs" = some (some (.ref f_is_signs))) (l_is_signs : K.lookup f_is_signs = some ⟨oc_is_signs, od_is_signs, .func (PySem.W.fnOf "is_signs" "is_signs" (defArgs s_is_signs) (defBody s_is_signs) (defScope s_is_signs) .none kV_is_signs dc_is_signs pm_is_signs an_is_signs cd_is_signs ct_is_signs), sl_is_signs⟩) (q_is_signs : PySem.W.codeIn K cd_is_signs "is_signs" = true) (k_is_signs : PySem.W.keepIn K (.ref f_is_signs) = true)
    (a_check_signs : PySem.W.nsIn K mainGlobals "check_signs" = some (some (.ref f_check_signs))) (l_check_signs : K.lookup f_check_signs = some ⟨oc_check_signs, od_check_signs, .func (PySem.W.fnOf "check_signs" "check_signs" (defArgs s_check_signs) (defBody s_check_signs) (defScope s_check_signs) .none kV_check_signs dc_check_signs pm_check_signs an_check_signs cd_check_signs ct_check_signs), sl_check_signs⟩) (q_check_signs : PySem.W.codeIn K cd_check_signs "check_signs" = true) (k_check_signs : PySem.W.keepIn K (.ref f_check_signs) = true)
    (a_trees_of_size : PySem.W.nsIn K mainGlobals "trees_of_size" = some (some (.ref f_trees_of_size))) (l_trees_of_size : K.lookup f_trees_of_size = some ⟨oc_trees_of_size, od_trees_of_size, .func (PySem.W.fnOf "trees_of_size" "trees_of_size" (defArgs s_trees_of_size) (defBody s_trees_of_size) (defScope s_trees_of_size) .none kV_trees_of_size dc_trees_of_size pm_trees_of_size an_trees_of_size cd_trees_of_size ct_trees_of_size), sl_trees_of_size⟩) (q_trees_of_size : PySem.W.codeIn K cd_trees_of_size "trees_of_size" = true) (k_trees_of_size : PySem.W.keepIn K (.ref f_trees_of_size) = true)
    (a_law_pen : PySem.W.nsIn K mainGlobals "_law_pen" = some (some (.ref f_law_pen))) (l_law_pen : K.lookup f_law_pen = some ⟨oc_law_pen, od_law_pen, .func (PySem.W.fnOf "_law_pen" "_law_pen" (defArgs s_law_pen) (defBody s_law_pen) (defScope s_law_pen) .none kV_law_pen dc_law_pen pm_law_pen an_law_pen cd_law_pen ct_law_pen), sl_law_pen⟩) (q_law_pen : PySem.W.codeIn K cd_law_pen "_law_pen" = true) (k_law_pen : PySem.W.keepIn K (.ref f_law_pen) = true)
    (a_law_next : PySem.W.nsIn K mainGlobals "_law_next" = some (some (.ref f_law_next))) (l_law_next : K.lookup f_law_next = some ⟨oc_law_next, od_law_next, .func (PySem.W.fnOf "_law_next" "_law_next" (defArgs s_law_next) (defBody s_law_next) (defScope s_law_next) .none kV_law_next dc_law_next pm_law_next an_law_next cd_law_next ct_law_next), sl_law_next⟩) (q_law_next : PySem.W.codeIn K cd_law_next "_law_next" = true) (k_law_next : PySem.W.keepIn K (.ref f_law_next) = true)
    (a_law_draw : PySem.W.nsIn K mainGlobals "_law_draw" = some (some (.ref f_law_draw))) (l_law_draw : K.lookup f_law_draw = some ⟨oc_law_draw, od_law_draw, .func (PySem.W.fnOf "_law_draw" "_law_draw" (defArgs s_law_draw) (defBody s_law_draw) (defScope s_law_draw) .none kV_law_draw dc_law_draw pm_law_draw an_law_draw cd_law_draw ct_law_draw), sl_law_draw⟩) (q_law_draw : PySem.W.codeIn K cd_law_draw "_law_draw" = true) (k_law_draw : PySem.W.keepIn K (.ref f_law_draw) = true)
    (a_law_spans : PySem.W.nsIn K mainGlobals "_law_spans" = some (some (.ref f_law_spans))) (l_law_spans : K.lookup f_law_spans = some ⟨oc_law_spans, od_law_spans, .func (PySem.W.fnOf "_law_spans" "_law_spans" (defArgs s_law_spans) (defBody s_law_spans) (defScope s_law_spans) .none kV_law_spans dc_law_spans pm_law_spans an_law_spans cd_law_spans ct_law_spans), sl_law_spans⟩) (q_law_spans : PySem.W.codeIn K cd_law_spans "_law_spans" = true) (k_law_spans : PySem.W.keepIn K (.ref f_law_spans) = true)
    (a_law_trees : PySem.W.nsIn K mainGlobals "_law_trees" = some (some (.ref f_law_trees))) (l_law_trees : K.lookup f_law_trees = some ⟨oc_law_trees, od_law_trees, .func (PySem.W.fnOf "_law_trees" "_law_trees" (defArgs s_law_trees) (defBody s_law_trees) (defScope s_law_trees) .none kV_law_trees dc_law_trees pm_law_trees an_law_trees cd_law_trees ct_law_trees), sl_law_trees⟩) (q_law_trees : PySem.W.codeIn K cd_law_trees "_law_trees" = true) (k_law_trees : PySem.W.keepIn K (.ref f_law_trees) = true)
    (a_law_signs : PySem.W.nsIn K mainGlobals "_law_signs" = some (some (.ref f_law_signs))) (l_law_signs : K.lookup f_law_signs = some ⟨oc_law_signs, od_law_signs, .func (PySem.W.fnOf "_law_signs" "_law_signs" (defArgs s_law_signs) (defBody s_law_signs) (defScope s_law_signs) .none kV_law_signs dc_law_signs pm_law_signs an_law_signs cd_law_signs ct_law_signs), sl_law_signs⟩) (q_law_signs : PySem.W.codeIn K cd_law_signs "_law_signs" = true) (k_law_signs : PySem.W.keepIn K (.ref f_law_signs) = true)
    (a_law_is_refused : PySem.W.nsIn K mainGlobals "_law_is_refused" = some (some (.ref f_law_is_refused))) (l_law_is_refused : K.lookup f_law_is_refused = some ⟨oc_law_is_refused, od_law_is_refused, .func (PySem.W.fnOf "_law_is_refused" "_law_is_refused" (defArgs s_law_is_refused) (defBody s_law_is_refused) (defScope s_law_is_refused) .none kV_law_is_refused dc_law_is_refused pm_law_is_refused an_law_is_refused cd_law_is_refused ct_law_is_refused), sl_law_is_refused⟩) (q_law_is_refused : PySem.W.codeIn K cd_law_is_refused "_law_is_refused" = true) (k_law_is_refused : PySem.W.keepIn K (.ref f_law_is_refused) = true)
    (a_law_typed_right : PySem.W.nsIn K mainGlobals "_law_typed_right" = some (some (.ref f_law_typed_right))) (l_law_typed_right : K.lookup f_law_typed_right = some ⟨oc_law_typed_right, od_law_typed_right, .func (PySem.W.fnOf "_law_typed_right" "_law_typed_right" (defArgs s_law_typed_right) (defBody s_law_typed_right) (defScope s_law_typed_right) .none kV_law_typed_right dc_law_typed_right pm_law_typed_right an_law_typed_right cd_law_typed_right ct_law_typed_right), sl_law_typed_right⟩) (q_law_typed_right : PySem.W.codeIn K cd_law_typed_right "_law_typed_right" = true) (k_law_typed_right : PySem.W.keepIn K (.ref f_law_typed_right) = true)
    (a_law : PySem.W.nsIn K mainGlobals "law" = some (some (.ref f_law))) (l_law : K.lookup f_law = some ⟨oc_law, od_law, .func (PySem.W.fnOf "law" "law" (defArgs s_law) (defBody s_law) (defScope s_law) .none kV_law dc_law pm_law an_law cd_law ct_law), sl_law⟩) (q_law : PySem.W.codeIn K cd_law "law" = true) (k_law : PySem.W.keepIn K (.ref f_law) = true)
    (z_len : PySem.W.nsIn K mainGlobals "len" = some none)
    (z_isinstance : PySem.W.nsIn K mainGlobals "isinstance" = some none)
    (z_all : PySem.W.nsIn K mainGlobals "all" = some none)
    (z_sum : PySem.W.nsIn K mainGlobals "sum" = some none)
    (z_repr : PySem.W.nsIn K mainGlobals "repr" = some none)
    (z_int : PySem.W.nsIn K mainGlobals "int" = some none)
    (z_list : PySem.W.nsIn K mainGlobals "list" = some none)
    (z_str : PySem.W.nsIn K mainGlobals "str" = some none)
    (z_dict : PySem.W.nsIn K mainGlobals "dict" = some none)
    (z_bool : PySem.W.nsIn K mainGlobals "bool" = some none)
    (z_range : PySem.W.nsIn K mainGlobals "range" = some none)
    (z_sorted : PySem.W.nsIn K mainGlobals "sorted" = some none)
    (c_LONGEST_NAME : PySem.W.nsIn K mainGlobals "LONGEST_NAME" = some (some (.int 8 t_LONGEST_NAME)))
    (c_MOST_SIGNS : PySem.W.nsIn K mainGlobals "MOST_SIGNS" = some (some (.int 8 t_MOST_SIGNS)))
    (c_MOST_BROTHERS : PySem.W.nsIn K mainGlobals "MOST_BROTHERS" = some (some (.int 3 t_MOST_BROTHERS)))
    (c_MOST_SIZE : PySem.W.nsIn K mainGlobals "MOST_SIZE" = some (some (.int 40 t_MOST_SIZE)))
    (c_MOST_TREES : PySem.W.nsIn K mainGlobals "MOST_TREES" = some (some (.int 1000 t_MOST_TREES)))
    {cTM : Addr} (x_a : PySem.W.nsIn K mainGlobals "TooMany" = some (some (.ref cTM))) (x_x : PySem.W.excIn K cTM [.type "ValueError", .type "Exception", .type "BaseException", .type "object"] "ValueError.__new__" = true) (x_k : PySem.W.keepIn K (.ref cTM) = true) (x_b : PySem.W.subIn K (.ref cTM) (.type "BaseException") = some true) (x_t : PySem.W.typeIn K (.ref cTM) = some (.type "type")) (x_i : PySem.W.isClsIn K cTM = true) (x_s : PySem.W.subIn K (.ref cTM) (.ref cTM) = some true)
    : ∃ fd : FuncData, (∀ (s : Shared) (v : Value), BindsTo s fd ⟨[v], []⟩ [("script", v)]) ∧ ∀ base : Heap, K.In base → base.Ns mainGlobals mg → Lx.FnG l.prog w K mg base (L2.CX l.prog w) 130 fa fd ["script"] (spLaw K) := by
  have F_row_counts := fun_mk (st := s_row_counts) l_row_counts q_row_counts k_row_counts
  have b_row_counts := F_row_counts.binds (ps := ["signs", "most"]) fun _ _ _ _ _ _ us hl => match us, hl with | [_, _], _ => rfl
  have F_rows_with := fun_mk (st := s_rows_with) l_rows_with q_rows_with k_rows_with
  have b_rows_with := F_rows_with.binds (ps := ["signs", "counts", "brothers", "places", "known"]) fun _ _ _ _ _ _ us hl => match us, hl with | [_, _, _, _, _], _ => rfl
  have F_grown := fun_mk (st := s_grown) l_grown q_grown k_grown
  have b_grown := F_grown.binds (ps := ["signs", "counts", "size", "known"]) fun _ _ _ _ _ _ us hl => match us, hl with | [_, _, _, _], _ => rfl
  have F_is_integer := fun_mk (st := s_is_integer) l_is_integer q_is_integer k_is_integer
  have b_is_integer := F_is_integer.binds (ps := ["thing"]) fun _ _ _ _ _ _ us hl => match us, hl with | [_], _ => rfl
  have F_is_between := fun_mk (st := s_is_between) l_is_between q_is_between k_is_between
  have b_is_between := F_is_between.binds (ps := ["thing", "least", "most"]) fun _ _ _ _ _ _ us hl => match us, hl with | [_, _, _], _ => rfl
  have F_is_name := fun_mk (st := s_is_name) l_is_name q_is_name k_is_name
  have b_is_name := F_is_name.binds (ps := ["thing"]) fun _ _ _ _ _ _ us hl => match us, hl with | [_], _ => rfl
  have F_is_signs := fun_mk (st := s_is_signs) l_is_signs q_is_signs k_is_signs
  have b_is_signs := F_is_signs.binds (ps := ["thing"]) fun _ _ _ _ _ _ us hl => match us, hl with | [_], _ => rfl
  have F_check_signs := fun_mk (st := s_check_signs) l_check_signs q_check_signs k_check_signs
  have b_check_signs := F_check_signs.binds (ps := ["signs"]) fun _ _ _ _ _ _ us hl => match us, hl with | [_], _ => rfl
  have F_trees_of_size := fun_mk (st := s_trees_of_size) l_trees_of_size q_trees_of_size k_trees_of_size
  have b_trees_of_size := F_trees_of_size.binds (ps := ["signs", "size"]) fun _ _ _ _ _ _ us hl => match us, hl with | [_, _], _ => rfl
  have F_law_pen := fun_mk (st := s_law_pen) l_law_pen q_law_pen k_law_pen
  have b_law_pen := F_law_pen.binds (ps := ["script"]) fun _ _ _ _ _ _ us hl => match us, hl with | [_], _ => rfl
  have F_law_next := fun_mk (st := s_law_next) l_law_next q_law_next k_law_next
  have b_law_next := F_law_next.binds (ps := ["pen"]) fun _ _ _ _ _ _ us hl => match us, hl with | [_], _ => rfl
  have F_law_draw := fun_mk (st := s_law_draw) l_law_draw q_law_draw k_law_draw
  have b_law_draw := F_law_draw.binds (ps := ["pen", "under"]) fun _ _ _ _ _ _ us hl => match us, hl with | [_, _], _ => rfl
  have F_law_spans := fun_mk (st := s_law_spans) l_law_spans q_law_spans k_law_spans
  have b_law_spans := F_law_spans.binds (ps := ["total", "many"]) fun _ _ _ _ _ _ us hl => match us, hl with | [_, _], _ => rfl
  have F_law_trees := fun_mk (st := s_law_trees) l_law_trees q_law_trees k_law_trees
  have b_law_trees := F_law_trees.binds (ps := ["signs", "most"]) fun _ _ _ _ _ _ us hl => match us, hl with | [_, _], _ => rfl
  have F_law_signs := fun_mk (st := s_law_signs) l_law_signs q_law_signs k_law_signs
  have b_law_signs := F_law_signs.binds (ps := ["pen"]) fun _ _ _ _ _ _ us hl => match us, hl with | [_], _ => rfl
  have F_law_is_refused := fun_mk (st := s_law_is_refused) l_law_is_refused q_law_is_refused k_law_is_refused
  have b_law_is_refused := F_law_is_refused.binds (ps := ["signs", "size_here"]) fun _ _ _ _ _ _ us hl => match us, hl with | [_, _], _ => rfl
  have F_law_typed_right := fun_mk (st := s_law_typed_right) l_law_typed_right q_law_typed_right k_law_typed_right
  have b_law_typed_right := F_law_typed_right.binds (ps := []) fun _ _ _ _ _ _ us hl => match us, hl with | [], _ => rfl
  have F_law := fun_mk (st := s_law) l_law q_law k_law
  have b_law := F_law.binds (ps := ["script"]) fun _ _ _ _ _ _ us hl => match us, hl with | [_], _ => rfl
  have e := hfa.symm.trans (PySem.W.mg_of X G a_law)
  cases e
  refine ⟨PySem.W.fnOf "law" "law" (defArgs s_law) (defBody s_law) (defScope s_law) .none kV_law dc_law pm_law an_law cd_law ct_law, fun s v => .of_eq rfl, fun base _ _ => ?_⟩
  have T : Txt K mg ⟨(fun _ => cTM), f_row_counts, _, f_rows_with, _, f_grown, _, f_is_integer, _, f_is_between, _, f_is_name, _, f_is_signs, _, f_check_signs, _, f_trees_of_size, _, f_law_pen, _, f_law_next, _, f_law_draw, _, f_law_spans, _, f_law_trees, _, f_law_signs, _, f_law_is_refused, _, f_law_typed_right, _, fa, _, t_LONGEST_NAME, t_MOST_SIGNS, t_MOST_BROTHERS, t_MOST_SIZE, t_MOST_TREES⟩ := ⟨PySem.W.mg_of X G a_row_counts, F_row_counts, b_row_counts, PySem.W.mg_of X G a_rows_with, F_rows_with, b_rows_with, PySem.W.mg_of X G a_grown, F_grown, b_grown, PySem.W.mg_of X G a_is_integer, F_is_integer, b_is_integer, PySem.W.mg_of X G a_is_between, F_is_between, b_is_between, PySem.W.mg_of X G a_is_name, F_is_name, b_is_name, PySem.W.mg_of X G a_is_signs, F_is_signs, b_is_signs, PySem.W.mg_of X G a_check_signs, F_check_signs, b_check_signs, PySem.W.mg_of X G a_trees_of_size, F_trees_of_size, b_trees_of_size, PySem.W.mg_of X G a_law_pen, F_law_pen, b_law_pen, PySem.W.mg_of X G a_law_next, F_law_next, b_law_next, PySem.W.mg_of X G a_law_draw, F_law_draw, b_law_draw, PySem.W.mg_of X G a_law_spans, F_law_spans, b_law_spans, PySem.W.mg_of X G a_law_trees, F_law_trees, b_law_trees, PySem.W.mg_of X G a_law_signs, F_law_signs, b_law_signs, PySem.W.mg_of X G a_law_is_refused, F_law_is_refused, b_law_is_refused, PySem.W.mg_of X G a_law_typed_right, F_law_typed_right, b_law_typed_right, PySem.W.mg_of X G a_law, F_law, b_law, PySem.W.mg_none_of X G z_len, PySem.W.mg_none_of X G z_isinstance, PySem.W.mg_none_of X G z_all, PySem.W.mg_none_of X G z_sum, PySem.W.mg_none_of X G z_repr, PySem.W.mg_none_of X G z_int, PySem.W.mg_none_of X G z_list, PySem.W.mg_none_of X G z_str, PySem.W.mg_none_of X G z_dict, PySem.W.mg_none_of X G z_bool, PySem.W.mg_none_of X G z_range, PySem.W.mg_none_of X G z_sorted, PySem.W.mg_of X G c_LONGEST_NAME, PySem.W.mg_of X G c_MOST_SIGNS, PySem.W.mg_of X G c_MOST_BROTHERS, PySem.W.mg_of X G c_MOST_SIZE, PySem.W.mg_of X G c_MOST_TREES, ⟨PySem.W.mg_of X G x_a, x_k, x_x, x_b, x_t⟩, exm_own x_b x_i x_t x_s⟩
  exact ok_law T
theorem walk {l : PySem.W.OpenLaw} {q : Program} {loose : List Str} {XP : (Str → Option Value) → Heap → Prop} {YP : World → Heap → Prop} {d : DefRec} {K : Params → PySem.W.Frag} (hn : l.most = some 63) (hdf : d.params.defaults = [])
    (hY : ∀ (w : World) (h : Heap), YP w h → (K w.params).In h)
    (F : ∀ (w : World) (mg : Str → Option Value) (fa : Addr) (h : Heap), (K w.params).In h → h.Ns mainGlobals mg → mg d.name = some (.ref fa) →
      ∃ fd : FuncData, (∀ (s : Shared) (u : Value), BindsTo s fd ⟨[u], []⟩ [("script", u)]) ∧ ∀ base : Heap, (K w.params).In base → base.Ns mainGlobals mg → Lx.FnG l.prog w (K w.params) mg base (L2.CX l.prog w) 130 fa fd ["script"] (spLaw (K w.params))) :
    PySem.W.WalkO q loose XP YP l.row.toRowW d [] (fun f vs => PySem.call f vs) :=
  Lx.walkG (n := 63) (k := 130) (x := "script") (CX := fun w => L2.CX l.prog w) (sp := fun w => spLaw (K w.params)) hn (by decide) hdf ⟨rfl, by decide, by decide⟩ hY F (fun _ _ a ns hl hS => ⟨a, ns, rfl, hS, hl, fun _ => rfl⟩) fun _ _ _ _ _ z => by
    obtain ⟨_, _, _, _, _, _, _, _, _, _, _, _, y⟩ := z
    exact y
end K02
open PySem PySem.W PyProof.Rows
set_option maxRecDepth 100000 in
set_option maxHeartbeats 0 in
theorem PySem.Challenge.cw_likeboughs_k02_trees_of_a_size_holds : PySem.Challenge.rw_likeboughs_k02_trees_of_a_size.Holds := by
  w_on; o_law; k_head; (case hw => w_witness2)
  k_fill
  refine K02.walk (l := PySem.Challenge.rw_likeboughs_k02_trees_of_a_size) rfl rfl (fun w h Y => PySem.W.kIn_of Y) ?F
  case F =>
    intro w mg fa h KX G hmg
    refine' K02.all_mk KX G hmg ?a_row_counts ?l_row_counts ?q_row_counts ?k_row_counts ?a_rows_with ?l_rows_with ?q_rows_with ?k_rows_with ?a_grown ?l_grown ?q_grown ?k_grown ?a_is_integer ?l_is_integer ?q_is_integer ?k_is_integer ?a_is_between ?l_is_between ?q_is_between ?k_is_between ?a_is_name ?l_is_name ?q_is_name ?k_is_name ?a_is_signs ?l_is_signs ?q_is_signs ?k_is_signs ?a_check_signs ?l_check_signs ?q_check_signs ?k_check_signs ?a_trees_of_size ?l_trees_of_size ?q_trees_of_size ?k_trees_of_size ?a_law_pen ?l_law_pen ?q_law_pen ?k_law_pen ?a_law_next ?l_law_next ?q_law_next ?k_law_next ?a_law_draw ?l_law_draw ?q_law_draw ?k_law_draw ?a_law_spans ?l_law_spans ?q_law_spans ?k_law_spans ?a_law_trees ?l_law_trees ?q_law_trees ?k_law_trees ?a_law_signs ?l_law_signs ?q_law_signs ?k_law_signs ?a_law_is_refused ?l_law_is_refused ?q_law_is_refused ?k_law_is_refused ?a_law_typed_right ?l_law_typed_right ?q_law_typed_right ?k_law_typed_right ?a_law ?l_law ?q_law ?k_law ?z_len ?z_isinstance ?z_all ?z_sum ?z_repr ?z_int ?z_list ?z_str ?z_dict ?z_bool ?z_range ?z_sorted ?c_LONGEST_NAME ?c_MOST_SIGNS ?c_MOST_BROTHERS ?c_MOST_SIZE ?c_MOST_TREES ?x_a ?x_x ?x_k ?x_b ?x_t ?x_i ?x_s
    (case a_row_counts => k_is)
    (case l_row_counts => k_is)
    (case q_row_counts => k_is)
    (case k_row_counts => k_is)
    (case a_rows_with => k_is)
    (case l_rows_with => k_is)
    (case q_rows_with => k_is)
    (case k_rows_with => k_is)
    (case a_grown => k_is)
    (case l_grown => k_is)
    (case q_grown => k_is)
    (case k_grown => k_is)
    (case a_is_integer => k_is)
    (case l_is_integer => k_is)
    (case q_is_integer => k_is)
    (case k_is_integer => k_is)
    (case a_is_between => k_is)
    (case l_is_between => k_is)
    (case q_is_between => k_is)
    (case k_is_between => k_is)
    (case a_is_name => k_is)
    (case l_is_name => k_is)
    (case q_is_name => k_is)
    (case k_is_name => k_is)
    (case a_is_signs => k_is)
    (case l_is_signs => k_is)
    (case q_is_signs => k_is)
    (case k_is_signs => k_is)
    (case a_check_signs => k_is)
    (case l_check_signs => k_is)
    (case q_check_signs => k_is)
    (case k_check_signs => k_is)
    (case a_trees_of_size => k_is)
    (case l_trees_of_size => k_is)
    (case q_trees_of_size => k_is)
    (case k_trees_of_size => k_is)
    (case a_law_pen => k_is)
    (case l_law_pen => k_is)
    (case q_law_pen => k_is)
    (case k_law_pen => k_is)
    (case a_law_next => k_is)
    (case l_law_next => k_is)
    (case q_law_next => k_is)
    (case k_law_next => k_is)
    (case a_law_draw => k_is)
    (case l_law_draw => k_is)
    (case q_law_draw => k_is)
    (case k_law_draw => k_is)
    (case a_law_spans => k_is)
    (case l_law_spans => k_is)
    (case q_law_spans => k_is)
    (case k_law_spans => k_is)
    (case a_law_trees => k_is)
    (case l_law_trees => k_is)
    (case q_law_trees => k_is)
    (case k_law_trees => k_is)
    (case a_law_signs => k_is)
    (case l_law_signs => k_is)
    (case q_law_signs => k_is)
    (case k_law_signs => k_is)
    (case a_law_is_refused => k_is)
    (case l_law_is_refused => k_is)
    (case q_law_is_refused => k_is)
    (case k_law_is_refused => k_is)
    (case a_law_typed_right => k_is)
    (case l_law_typed_right => k_is)
    (case q_law_typed_right => k_is)
    (case k_law_typed_right => k_is)
    (case a_law => k_is)
    (case l_law => k_is)
    (case q_law => k_is)
    (case k_law => k_is)
    (case z_len => k_is)
    (case z_isinstance => k_is)
    (case z_all => k_is)
    (case z_sum => k_is)
    (case z_repr => k_is)
    (case z_int => k_is)
    (case z_list => k_is)
    (case z_str => k_is)
    (case z_dict => k_is)
    (case z_bool => k_is)
    (case z_range => k_is)
    (case z_sorted => k_is)
    (case c_LONGEST_NAME => k_is)
    (case c_MOST_SIGNS => k_is)
    (case c_MOST_BROTHERS => k_is)
    (case c_MOST_SIZE => k_is)
    (case c_MOST_TREES => k_is)
    (case x_a => k_is)
    (case x_x => k_exc)
    (case x_k => k_is)
    (case x_b => k_is)
    (case x_t => k_is)
    (case x_i => k_is)
    (case x_s => first | rfl | k_is)

import PyProof.Rows.All
import Wide.All
import OpenK.AllK
import Wide.FinOn
import HandS.ForMost
import HandS.Deep
import HandS.TupAny
import KE.DatumOrd
import HandS.SortKw
import HandS.IsInst
import PySem.Challenge.RW_boundbook_k20_pages
set_option Elab.async false
set_option linter.all false
set_option maxRecDepth 100000
set_option maxHeartbeats 8000000
/-! Mir: pure data (PyData) for what a def handles, an environment by slots with lists that are owned, and what a piece of code does to it. -/
namespace Mir
open PySem PySem.Spec PyProof.Rows L2

/-! ### data in the heap; S: where its lists may stand -/
/-- a list of the written part -/
def KL (K : PySem.W.Frag) (a : Addr) (xs : List V) : Prop := ∃ (o : Obj) (its : Array Value) (n : Nat), K.lookup a = some o ∧ o.cls = .type "list" ∧ o.dict = none ∧ o.data = .seq its n ∧ its.size ≤ sizeLine ∧ Vals xs its.toList
def LsAt (K : PySem.W.Frag) (S : Addr → Prop) (H : Hp) (a : Addr) (xs : List V) : Prop := (S a ∧ Rd H a (.lst xs)) ∨ KL K a xs
theorem LsAt.sq {K : PySem.W.Frag} {S : Addr → Prop} {H : Hp} {a : Addr} {xs : List V} (h : LsAt K S H a xs) : SqL K H a xs := h.imp (fun z => z.2) id
theorem LsAt.of {K : PySem.W.Frag} {S : Addr → Prop} {H : Hp} {a : Addr} {xs : List V} (s : S a) (h : SqL K H a xs) : LsAt K S H a xs := h.imp (fun z => ⟨s, z⟩) id
mutual
def Rp (K : PySem.W.Frag) (S : Addr → Prop) (H : Hp) : PyData → V → Prop
  | .none, v => v = .non
  | .bool b, v => v = .bl b
  | .int i, v => v = .int i
  | .str x, v => v = .str x
  | .list ds, v => ∃ a xs, v = .ref a ∧ LsAt K S H a xs ∧ RpA K S H ds xs
  | .tuple ds, v => ∃ a xs, v = .ref a ∧ SqT K H a xs ∧ RpA K S H ds xs
  | .dict _, _ => False
def RpA (K : PySem.W.Frag) (S : Addr → Prop) (H : Hp) : List PyData → List V → Prop
  | [], vs => vs = []
  | d :: ds, vs => ∃ v r, vs = v :: r ∧ Rp K S H d v ∧ RpA K S H ds r
end
section
variable {K : PySem.W.Frag} {S S' : Addr → Prop} {H H' : Hp}
mutual
theorem Rp.mono (hL : ∀ a xs, S a → Rd H a (.lst xs) → S' a ∧ Rd H' a (.lst xs)) (hT : ∀ a xs, SqT K H a xs → SqT K H' a xs) : ∀ (d : PyData) (v : V), Rp K S H d v → Rp K S' H' d v
  | .none, _, h => by rw [Rp] at h ⊢; exact h
  | .bool _, _, h => by rw [Rp] at h ⊢; exact h
  | .int _, _, h => by rw [Rp] at h ⊢; exact h
  | .str _, _, h => by rw [Rp] at h ⊢; exact h
  | .list ds, _, h => by
    rw [Rp] at h ⊢
    obtain ⟨a, xs, e, q, r⟩ := h
    exact ⟨a, xs, e, q.imp (fun z => hL a xs z.1 z.2) id, RpA.mono hL hT ds xs r⟩
  | .tuple ds, _, h => by
    rw [Rp] at h ⊢
    obtain ⟨a, xs, e, q, r⟩ := h
    exact ⟨a, xs, e, hT a xs q, RpA.mono hL hT ds xs r⟩
  | .dict _, _, h => by rw [Rp] at h; exact h.elim
theorem RpA.mono (hL : ∀ a xs, S a → Rd H a (.lst xs) → S' a ∧ Rd H' a (.lst xs)) (hT : ∀ a xs, SqT K H a xs → SqT K H' a xs) : ∀ (ds : List PyData) (vs : List V), RpA K S H ds vs → RpA K S' H' ds vs
  | [], _, h => by rw [RpA] at h ⊢; exact h
  | d :: ds, _, h => by
    rw [RpA] at h ⊢
    obtain ⟨v, r, e, h1, h2⟩ := h
    exact ⟨v, r, e, Rp.mono hL hT d v h1, RpA.mono hL hT ds r h2⟩
end
theorem same_rd {a : Addr} {u : HO} (e : Same H H') (h : Rd H a u) : Rd H' a u := by
  rcases h with h | ⟨o, h⟩
  · exact .inl (e _ _ h)
  · exact .inr ⟨o, e _ _ h⟩
theorem same_t {a : Addr} {xs : List V} (e : Same H H') (h : SqT K H a xs) : SqT K H' a xs := by
  rcases h with h | h
  · exact .inl (same_rd e h)
  · exact .inr h
theorem Rp.grow (e : Same H H') {d : PyData} {v : V} (h : Rp K S H d v) : Rp K S H' d v := Rp.mono (fun _ _ s q => ⟨s, same_rd e q⟩) (fun _ _ q => same_t e q) d v h
theorem RpA.grow (e : Same H H') {ds : List PyData} {vs : List V} (h : RpA K S H ds vs) : RpA K S H' ds vs := RpA.mono (fun _ _ s q => ⟨s, same_rd e q⟩) (fun _ _ q => same_t e q) ds vs h
theorem Rp.wide (w : ∀ a, S a → S' a) {d : PyData} {v : V} (h : Rp K S H d v) : Rp K S' H d v := Rp.mono (fun _ _ s q => ⟨w _ s, q⟩) (fun _ _ q => q) d v h
theorem RpA.wide (w : ∀ a, S a → S' a) {ds : List PyData} {vs : List V} (h : RpA K S H ds vs) : RpA K S' H ds vs := RpA.mono (fun _ _ s q => ⟨w _ s, q⟩) (fun _ _ q => q) ds vs h
theorem RpA.length : ∀ {ds : List PyData} {vs : List V}, RpA K S H ds vs → vs.length = ds.length
  | [], _, h => by rw [RpA] at h; rw [h]; rfl
  | d :: ds, _, h => by
    rw [RpA] at h
    obtain ⟨v, r, e, _, h2⟩ := h
    rw [e, List.length_cons, List.length_cons, RpA.length h2]
theorem RpA.get : ∀ {ds : List PyData} {vs : List V} {i : Nat} {d : PyData}, RpA K S H ds vs → ds[i]? = some d → ∃ v, vs[i]? = some v ∧ Rp K S H d v
  | [], _, _, _, _, e => by simp at e
  | d :: ds, _, 0, d', h, e => by
    rw [RpA] at h
    obtain ⟨v, r, rfl, h1, _⟩ := h
    simp at e
    subst e
    exact ⟨v, rfl, h1⟩
  | d :: ds, _, i + 1, d', h, e => by
    rw [RpA] at h
    obtain ⟨v, r, rfl, _, h2⟩ := h
    obtain ⟨u, e1, e2⟩ := RpA.get (i := i) (d := d') h2 (by simpa using e)
    exact ⟨u, by simpa using e1, e2⟩
theorem RpA.append : ∀ {ds es : List PyData} {vs us : List V}, RpA K S H ds vs → RpA K S H es us → RpA K S H (ds ++ es) (vs ++ us)
  | [], _, _, _, h, g => by rw [RpA] at h; subst h; exact g
  | d :: ds, _, _, _, h, g => by
    rw [RpA] at h
    obtain ⟨v, r, rfl, h1, h2⟩ := h
    show RpA K S H (d :: (ds ++ _)) (v :: (r ++ _))
    rw [RpA]
    exact ⟨v, _, rfl, h1, RpA.append h2 g⟩
theorem RpA.nil : RpA K S H [] [] := by rw [RpA]
theorem RpA.cons {d : PyData} {v : V} {ds : List PyData} {vs : List V} (h : Rp K S H d v) (g : RpA K S H ds vs) : RpA K S H (d :: ds) (v :: vs) := by
  rw [RpA]
  exact ⟨v, vs, rfl, h, g⟩
theorem RpA.set : ∀ {ds : List PyData} {vs : List V} {i : Nat} {d : PyData} {v : V}, RpA K S H ds vs → Rp K S H d v → RpA K S H (ds.set i d) (vs.set i v)
  | [], _, _, _, _, h, _ => by rw [RpA] at h; subst h; exact RpA.nil
  | e :: ds, _, 0, d', v', h, g => by
    rw [RpA] at h
    obtain ⟨v, r, rfl, h1, h2⟩ := h
    exact RpA.cons g h2
  | e :: ds, _, i + 1, d', v', h, g => by
    rw [RpA] at h
    obtain ⟨v, r, rfl, h1, h2⟩ := h
    exact RpA.cons h1 (RpA.set h2 g)
theorem RpA.take : ∀ {ds : List PyData} {vs : List V} (n : Nat), RpA K S H ds vs → RpA K S H (ds.take n) (vs.take n)
  | _, _, 0, _ => by simpa using RpA.nil
  | [], _, n + 1, h => by rw [RpA] at h; subst h; exact RpA.nil
  | e :: ds, _, n + 1, h => by
    rw [RpA] at h
    obtain ⟨v, r, rfl, h1, h2⟩ := h
    exact RpA.cons h1 (RpA.take n h2)
theorem RpA.drop : ∀ {ds : List PyData} {vs : List V} (n : Nat), RpA K S H ds vs → RpA K S H (ds.drop n) (vs.drop n)
  | _, _, 0, h => by simpa using h
  | [], _, n + 1, h => by rw [RpA] at h; subst h; exact RpA.nil
  | e :: ds, _, n + 1, h => by
    rw [RpA] at h
    obtain ⟨v, r, rfl, h1, h2⟩ := h
    exact RpA.drop n h2
mutual
theorem Rp.dp : ∀ (d : PyData) (v : V), Rp K S H d v → Dp K H v d
  | .none, _, h => by rw [Rp] at h; subst h; exact .non
  | .bool b, _, h => by rw [Rp] at h; subst h; exact .bl b
  | .int i, _, h => by rw [Rp] at h; subst h; exact .int i
  | .str x, _, h => by rw [Rp] at h; subst h; exact .str x
  | .list ds, _, h => by
    rw [Rp] at h
    obtain ⟨a, xs, rfl, q, r⟩ := h
    exact .lst q.sq (RpA.dp ds xs r)
  | .tuple ds, _, h => by
    rw [Rp] at h
    obtain ⟨a, xs, rfl, q, r⟩ := h
    exact .tup q (RpA.dp ds xs r)
  | .dict _, _, h => by rw [Rp] at h; exact h.elim
theorem RpA.dp : ∀ (ds : List PyData) (vs : List V), RpA K S H ds vs → DpAll K H vs ds
  | [], _, h => by rw [RpA] at h; subst h; exact .nil
  | d :: ds, _, h => by
    rw [RpA] at h
    obtain ⟨v, r, rfl, h1, h2⟩ := h
    exact .cons (Rp.dp d v h1) (RpA.dp ds r h2)
end
/-! data without lists -/
mutual
def noL : PyData → Bool
  | .list _ => false
  | .tuple ds => noLA ds
  | .dict _ => false
  | .none => true
  | .bool _ => true
  | .int _ => true
  | .str _ => true
def noLA : List PyData → Bool
  | [] => true
  | d :: ds => noL d && noLA ds
end
mutual
theorem Rp.noL : ∀ (d : PyData) (v : V), noL d = true → Rp K S H d v → Rp K S' H d v
  | .none, _, _, h => by rw [Rp] at h ⊢; exact h
  | .bool _, _, _, h => by rw [Rp] at h ⊢; exact h
  | .int _, _, _, h => by rw [Rp] at h ⊢; exact h
  | .str _, _, _, h => by rw [Rp] at h ⊢; exact h
  | .list ds, _, n, _ => by rw [Mir.noL] at n; cases n
  | .tuple ds, _, n, h => by
    rw [Rp] at h ⊢
    rw [Mir.noL] at n
    obtain ⟨a, xs, e, q, r⟩ := h
    exact ⟨a, xs, e, q, RpA.noL ds xs n r⟩
  | .dict _, _, _, h => by rw [Rp] at h; exact h.elim
theorem RpA.noL : ∀ (ds : List PyData) (vs : List V), noLA ds = true → RpA K S H ds vs → RpA K S' H ds vs
  | [], _, _, h => by rw [RpA] at h ⊢; exact h
  | d :: ds, _, n, h => by
    rw [RpA] at h ⊢
    rw [noLA, Bool.and_eq_true] at n
    obtain ⟨v, r, e, h1, h2⟩ := h
    exact ⟨v, r, e, Rp.noL d v n.1 h1, RpA.noL ds r n.2 h2⟩
end
end

/-! ### the environment -/
inductive Sl where
  | un
  | val (d : PyData)
  | own (ds : List PyData)
abbrev En := List Sl
def Bd (S0 : Addr → Prop) (H0 : Hp) : Addr → Prop := fun a => S0 a ∨ H0 a = none
def Cl (S0 : Addr → Prop) (H0 : Hp) (A : Addr → Prop) : Addr → Prop := fun a => Bd S0 H0 a ∧ ¬ A a
def SC (c : Bool) (S0 : Addr → Prop) (H0 : Hp) (A : Addr → Prop) : Addr → Prop := fun a => c = true → Cl S0 H0 A a
def SlOk (K : PySem.W.Frag) (S A : Addr → Prop) (H : Hp) : Sl → V → Prop
  | .un, _ => True
  | .val d, v => Rp K S H d v
  | .own ds, v => ∃ a xs, v = .ref a ∧ A a ∧ H a = some (.lst xs) ∧ RpA K S H ds xs
structure EnvOk (K : PySem.W.Frag) (S0 : Addr → Prop) (H0 : Hp) (A : Addr → Prop) (H : Hp) (σ : L2.St) (env : En) : Prop where
  len : σ.length = env.length
  sl : ∀ (i : Nat) (s : Sl), env[i]? = some s → s = .un ∨ ∃ v, σ[i]? = some (some v) ∧ SlOk K (Cl S0 H0 A) A H s v
  dis : ∀ (i j : Nat) (ds es : List PyData) (a : Addr), env[i]? = some (.own ds) → env[j]? = some (.own es) → σ[i]? = some (some (.ref a)) → σ[j]? = some (some (.ref a)) → i = j
  tr : ∀ a, A a → ∃ xs, H a = some (.lst xs)
  nw : ∀ a, A a → H0 a = none
  same : Same H0 H
def Fr (A : Addr → Prop) (H H' : Hp) : Prop := ∀ a o, H a = some o → ¬ A a → H' a = some o
def Sb (A : Addr → Prop) (H : Hp) (A' : Addr → Prop) : Prop := ∀ a, A' a → A a ∨ H a = none
section
variable {K : PySem.W.Frag} {S0 S : Addr → Prop} {H0 H H' H'' : Hp} {A A' A'' : Addr → Prop} {σ : L2.St} {env : En}
theorem Fr.of_same (e : Same H H') : Fr A H H' := fun a o h _ => e a o h
theorem Fr.refl : Fr A H H := fun _ _ h _ => h
theorem Sb.refl : Sb A H A := fun _ h => .inl h
theorem Fr.trans (h1 : Fr A H H') (s1 : Sb A H A') (h2 : Fr A' H' H'') : Fr A H H'' := fun a o h n => h2 a o (h1 a o h n) fun z => by
  rcases s1 a z with q | q
  · exact n q
  · rw [h] at q; cases q
theorem Sb.trans (h1 : Fr A H H') (s1 : Sb A H A') (s2 : Sb A' H' A'') : Sb A H A'' := fun a z => by
  rcases s2 a z with q | q
  · exact s1 a q
  · cases e : H a with
    | none => exact .inr rfl
    | some o =>
      by_cases n : A a
      · exact .inl n
      · rw [h1 a o e n] at q; cases q
theorem cl_new (E : EnvOk K S0 H0 A H σ env) {p : Addr} (h : H p = none) : Cl S0 H0 A p := by
  refine ⟨.inr (E.same.free h), fun z => ?_⟩
  obtain ⟨xs, q⟩ := E.tr p z
  rw [h] at q; cases q
theorem sc_new (E : EnvOk K S0 H0 A H σ env) {c : Bool} {p : Addr} (h : H p = none) : SC c S0 H0 A p := fun _ => cl_new E h
theorem SlOk.grow (e : Same H H') {s : Sl} {v : V} (h : SlOk K S A H s v) : SlOk K S A H' s v := by
  cases s with
  | un => trivial
  | val d => exact Rp.grow e h
  | own ds =>
    obtain ⟨a, xs, e1, ha, hh, r⟩ := h
    exact ⟨a, xs, e1, ha, e _ _ hh, RpA.grow e r⟩
theorem EnvOk.grow (E : EnvOk K S0 H0 A H σ env) (e : Same H H') : EnvOk K S0 H0 A H' σ env where
  len := E.len
  sl := fun i s h => (E.sl i s h).imp id fun ⟨v, h1, h2⟩ => ⟨v, h1, h2.grow e⟩
  dis := E.dis
  tr := fun a h => let ⟨xs, q⟩ := E.tr a h; ⟨xs, e _ _ q⟩
  nw := E.nw
  same := E.same.trans e
theorem set_get {α : Type} {l : List α} {i j : Nat} {x y : α} (h : (l.set i x)[j]? = some y) : (i = j ∧ j < l.length ∧ y = x) ∨ (i ≠ j ∧ l[j]? = some y) := by
  rw [List.getElem?_set] at h
  by_cases e : i = j
  · rw [if_pos e] at h
    by_cases q : i < l.length
    · rw [if_pos q] at h
      exact .inl ⟨e, e ▸ q, (Option.some.inj h).symm⟩
    · rw [if_neg q] at h; cases h
  · rw [if_neg e] at h
    exact .inr ⟨e, h⟩
theorem set_self {α : Type} {l : List α} {i : Nat} {x : α} (h : i < l.length) : (l.set i x)[i]? = some x := by simp [h]
theorem set_other {α : Type} {l : List α} {i j : Nat} {x : α} (h : i ≠ j) : (l.set i x)[j]? = l[j]? := by simp [List.getElem?_set, h]
theorem EnvOk.set_val (E : EnvOk K S0 H0 A H σ env) {i : Nat} {d : PyData} {v : V} (h : Rp K (Cl S0 H0 A) H d v) : EnvOk K S0 H0 A H (σ.set i (some v)) (env.set i (.val d)) where
  len := by simp [E.len]
  sl := fun j s q => by
    rcases set_get q with ⟨rfl, l, rfl⟩ | ⟨n, q⟩
    · exact .inr ⟨v, set_self (by rw [E.len]; exact l), h⟩
    · rw [set_other n]
      exact E.sl j s q
  dis := fun j k ds es a q1 q2 q3 q4 => by
    rcases set_get q1 with ⟨_, _, z⟩ | ⟨n1, q1⟩
    · cases z
    rcases set_get q2 with ⟨_, _, z⟩ | ⟨n2, q2⟩
    · cases z
    rw [set_other n1] at q3
    rw [set_other n2] at q4
    exact E.dis j k ds es a q1 q2 q3 q4
  tr := E.tr
  nw := E.nw
  same := E.same
/-- a fresh list is kept by the slot i alone -/
theorem EnvOk.set_own (E : EnvOk K S0 H0 A H σ env) {i : Nat} {ds : List PyData} {xs : List V} {p : Addr} (hs : Same H H') (hn : H p = none) (hp : H' p = some (.lst xs)) (h : RpA K (fun a => Cl S0 H0 A a ∧ a ≠ p) H' ds xs) :
    EnvOk K S0 H0 (fun a => A a ∨ a = p) H' (σ.set i (some (.ref p))) (env.set i (.own ds)) where
  len := by simp [E.len]
  sl := fun j s q => by
    have wd : ∀ a, (Cl S0 H0 A a ∧ a ≠ p) → Cl S0 H0 (fun a => A a ∨ a = p) a := fun a z => ⟨z.1.1, fun y => y.elim z.1.2 z.2⟩
    rcases set_get q with ⟨rfl, l, rfl⟩ | ⟨n, q⟩
    · exact .inr ⟨_, set_self (by rw [E.len]; exact l), p, xs, rfl, .inr rfl, hp, h.wide wd⟩
    · rw [set_other n]
      refine (E.sl j s q).imp id fun ⟨v, h1, h2⟩ => ⟨v, h1, ?_⟩
      have hL : ∀ a ys, Cl S0 H0 A a → Rd H a (.lst ys) → Cl S0 H0 (fun a => A a ∨ a = p) a ∧ Rd H' a (.lst ys) := fun a ys z r => ⟨wd a ⟨z, fun e => by
        subst e
        rcases r with r | ⟨o, r⟩ <;> (rw [hn] at r; cases r)⟩, same_rd hs r⟩
      cases s with
      | un => trivial
      | val d => exact Rp.mono hL (fun _ _ z => same_t hs z) d v h2
      | own es =>
        obtain ⟨a, ys, e1, ha, hh, r⟩ := h2
        exact ⟨a, ys, e1, .inl ha, hs _ _ hh, RpA.mono hL (fun _ _ z => same_t hs z) es ys r⟩
  dis := fun j k es fs a q1 q2 q3 q4 => by
    have no : ∀ (m : Nat) (gs : List PyData), env[m]? = some (.own gs) → σ[m]? ≠ some (some (.ref p)) := fun m gs g1 g2 => by
      rcases E.sl m _ g1 with z | ⟨v, z1, b, ys, z2, _, z4, _⟩
      · cases z
      · rw [g2] at z1
        cases z1
        cases z2
        rw [hn] at z4; cases z4
    rcases set_get q1 with ⟨rfl, l1, z⟩ | ⟨n1, q1⟩
    · rcases set_get q2 with ⟨e2, l2, z2⟩ | ⟨n2, q2⟩
      · exact e2
      · rw [set_self (by rw [E.len]; exact l1)] at q3
        cases q3
        rw [set_other n2] at q4
        exact absurd q4 (no k _ q2)
    · rw [set_other n1] at q3
      rcases set_get q2 with ⟨rfl, l2, z2⟩ | ⟨n2, q2⟩
      · rw [set_self (by rw [E.len]; exact l2)] at q4
        cases q4
        exact absurd q3 (no j _ q1)
      · rw [set_other n2] at q4
        exact E.dis j k es fs a q1 q2 q3 q4
  tr := fun a h => by
    rcases h with h | rfl
    · obtain ⟨ys, q⟩ := E.tr a h
      exact ⟨ys, hs _ _ q⟩
    · exact ⟨xs, hp⟩
  nw := fun a h => by
    rcases h with h | rfl
    · exact E.nw a h
    · exact E.same.free hn
  same := E.same.trans hs
/-- an owned list is changed -/
theorem EnvOk.mut (E : EnvOk K S0 H0 A H σ env) {i : Nat} {ds ds' : List PyData} {xs xs' : List V} {a : Addr} (hi : env[i]? = some (.own ds)) (hv : σ[i]? = some (some (.ref a))) (ha : A a) (hp : H a = some (.lst xs)) (h : RpA K (Cl S0 H0 A) H ds' xs') :
    EnvOk K S0 H0 A (upd H a (.lst xs')) σ (env.set i (.own ds')) := by
  have hL : ∀ b ys, Cl S0 H0 A b → Rd H b (.lst ys) → Cl S0 H0 A b ∧ Rd (upd H a (.lst xs')) b (.lst ys) := fun b ys z r => ⟨z, by
    have n : b ≠ a := fun e => z.2 (e ▸ ha)
    rcases r with r | ⟨o, r⟩
    · exact .inl (by rw [upd_ne n]; exact r)
    · exact .inr ⟨o, by rw [upd_ne n]; exact r⟩⟩
  have hT : ∀ b ys, SqT K H b ys → SqT K (upd H a (.lst xs')) b ys := fun b ys r => by
    rcases r with (r | ⟨o, r⟩) | r
    · have n : b ≠ a := fun e => by subst e; rw [hp] at r; cases r
      exact .inl (.inl (by rw [upd_ne n]; exact r))
    · have n : b ≠ a := fun e => by subst e; rw [hp] at r; cases r
      exact .inl (.inr ⟨o, by rw [upd_ne n]; exact r⟩)
    · exact .inr r
  have hl : i < env.length := by
    obtain ⟨q, _⟩ := List.getElem?_eq_some_iff.mp hi
    exact q
  refine ⟨by simp [E.len], fun j s q => ?_, fun j k es fs b q1 q2 q3 q4 => ?_, fun b hb => ?_, E.nw, fun b o q => ?_⟩
  · rcases set_get q with ⟨rfl, l, rfl⟩ | ⟨n, q⟩
    · exact .inr ⟨_, hv, a, xs', rfl, ha, upd_same, RpA.mono hL hT _ _ h⟩
    · refine (E.sl j s q).imp id fun ⟨v, h1, h2⟩ => ⟨v, h1, ?_⟩
      cases s with
      | un => trivial
      | val d => exact Rp.mono hL hT d v h2
      | own es =>
        obtain ⟨b, ys, e1, hb, hh, r⟩ := h2
        subst e1
        have nb : b ≠ a := fun e => n (E.dis i j ds es a hi q hv (by rw [h1, e]))
        exact ⟨b, ys, rfl, hb, by rw [upd_ne nb]; exact hh, RpA.mono hL hT es ys r⟩
  · have back : ∀ (m : Nat) (gs : List PyData), (env.set i (.own ds'))[m]? = some (.own gs) → ∃ hs, env[m]? = some (.own hs) := fun m gs g => by
      rcases set_get g with ⟨rfl, _, _⟩ | ⟨_, g⟩
      · exact ⟨ds, hi⟩
      · exact ⟨gs, g⟩
    obtain ⟨es', r1⟩ := back j es q1
    obtain ⟨fs', r2⟩ := back k fs q2
    exact E.dis j k es' fs' b r1 r2 q3 q4
  · by_cases e : b = a
    · subst e
      exact ⟨xs', upd_same⟩
    · obtain ⟨ys, q⟩ := E.tr b hb
      exact ⟨ys, by rw [upd_ne e]; exact q⟩
  · have n : b ≠ a := fun e => by
      subst e
      have z := E.nw b ha
      rw [q] at z; cases z
    rw [upd_ne n]
    exact E.same b o q
def frz (i : Nat) (env : En) : En := match env[i]? with
  | some (.own ds) => env.set i (.val (.list ds))
  | _ => env
theorem EnvOk.frz (E : EnvOk K S0 H0 A H σ env) (i : Nat) : ∃ A', EnvOk K S0 H0 A' H σ (Mir.frz i env) ∧ ∀ a, A' a → A a := by
  unfold Mir.frz
  split
  · rename_i ds hi
    rcases E.sl i _ hi with z | ⟨v, h1, a, xs, rfl, ha, hh, r⟩
    · cases z
    have wd : ∀ b, Cl S0 H0 A b → Cl S0 H0 (fun b => A b ∧ b ≠ a) b := fun b z => ⟨z.1, fun y => z.2 y.1⟩
    refine ⟨fun b => A b ∧ b ≠ a, ⟨by simp [E.len], fun j s q => ?_, fun j k es fs b q1 q2 q3 q4 => ?_, fun b hb => E.tr b hb.1, fun b hb => E.nw b hb.1, E.same⟩, fun _ z => z.1⟩
    · rcases set_get q with ⟨rfl, l, rfl⟩ | ⟨n, q⟩
      · refine .inr ⟨_, h1, ?_⟩
        show Rp K _ H (.list ds) _
        rw [Rp]
        exact ⟨a, xs, rfl, .inl ⟨⟨.inr (E.nw a ha), fun y => y.2 rfl⟩, .inl hh⟩, r.wide wd⟩
      · refine (E.sl j s q).imp id fun ⟨v, h2, h3⟩ => ⟨v, h2, ?_⟩
        cases s with
        | un => trivial
        | val d => exact Rp.wide wd h3
        | own es =>
          obtain ⟨b, ys, e1, hb, hh', r'⟩ := h3
          subst e1
          have nb : b ≠ a := fun e => n (E.dis i j ds es a hi q h1 (by rw [h2, e]))
          exact ⟨b, ys, rfl, ⟨hb, nb⟩, hh', r'.wide wd⟩
    · rcases set_get q1 with ⟨_, _, z⟩ | ⟨n1, q1⟩
      · cases z
      rcases set_get q2 with ⟨_, _, z⟩ | ⟨n2, q2⟩
      · cases z
      exact E.dis j k es fs b q1 q2 q3 q4
  · exact ⟨A, E, fun _ z => z⟩
end
end Mir

namespace Mir
open PySem PySem.Spec PyProof.Rows L2

/-! ### readings -/
def tE (K : PySem.W.Frag) (c : Bool) (f : En → Option PyData) : TE := fun σ H Q => ∃ S0 H0 A env d, EnvOk K S0 H0 A H σ env ∧ f env = some d ∧ ∀ v H', Same H H' → Rp K (SC c S0 H0 A) H' d v → Q v H'
/-- a fresh list -/
def tF (K : PySem.W.Frag) (c : Bool) (f : En → Option (List PyData)) : TE := fun σ H Q => ∃ S0 H0 A env ds, EnvOk K S0 H0 A H σ env ∧ f env = some ds ∧ ∀ p xs H', H p = none → Same H H' → H' p = some (.lst xs) → RpA K (fun a => SC c S0 H0 A a ∧ a ≠ p) H' ds xs → Q (.ref p) H'
def tT (K : PySem.W.Frag) (f : En → Option Bool) : TT := fun σ H Q => ∃ S0 H0 A env b, EnvOk K S0 H0 A H σ env ∧ f env = some b ∧ ∀ H', Same H H' → Q b H'
def tA (K : PySem.W.Frag) (c : Bool) (f : En → Option (List PyData)) : TA := fun σ H Q => ∃ S0 H0 A env ds, EnvOk K S0 H0 A H σ env ∧ f env = some ds ∧ ∀ vs H', Same H H' → RpA K (SC c S0 H0 A) H' ds vs → Q vs H'
/-- a target: touches the slots vs alone -/
def tG (K : PySem.W.Frag) (vs : List Nat) (g : PyData → En → Option En) : TG := fun v σ H Q => ∃ S0 H0 A env d env', EnvOk K S0 H0 A H σ env ∧ Rp K (Cl S0 H0 A) H d v ∧ g d env = some env' ∧ ∀ σ', EnvOk K S0 H0 A H σ' env' → wipe σ' vs = wipe σ vs → Q σ' H

inductive Out where
  | nx (e : En)
  | bk (e : En)
  | ct (e : En)
  | rt (d : PyData)
  | bad
def OutOk (K : PySem.W.Frag) (S0 : Addr → Prop) (H0 : Hp) (A : Addr → Prop) (H : Hp) (o : Out) (D : Ends) : Prop := match o with
  | .nx e => ∀ A' H' σ', EnvOk K S0 H0 A' H' σ' e → Fr A H H' → Sb A H A' → D.nx σ' H'
  | .bk e => ∀ A' H' σ', EnvOk K S0 H0 A' H' σ' e → Fr A H H' → Sb A H A' → D.bk σ' H'
  | .ct e => ∀ A' H' σ', EnvOk K S0 H0 A' H' σ' e → Fr A H H' → Sb A H A' → D.ct σ' H'
  | .rt d => ∀ v H', Same H0 H' → Rp K (Bd S0 H0) H' d v → D.rt v H'
  | .bad => False
def tS (K : PySem.W.Frag) (f : En → Out) : TS := fun D σ H => ∃ S0 H0 A env, EnvOk K S0 H0 A H σ env ∧ OutOk K S0 H0 A H (f env) D

section
variable {K : PySem.W.Frag} {S0 S : Addr → Prop} {H0 H H' H'' : Hp} {A A' A'' : Addr → Prop} {σ : L2.St} {env : En} {D : Ends}
theorem OutOk.step {o : Out} (h : OutOk K S0 H0 A H o D) (f : Fr A H H') (s : Sb A H A') : OutOk K S0 H0 A' H' o D := by
  cases o with
  | nx e => exact fun A2 H2 σ2 E f2 s2 => h A2 H2 σ2 E (f.trans s f2) (Sb.trans f s s2)
  | bk e => exact fun A2 H2 σ2 E f2 s2 => h A2 H2 σ2 E (f.trans s f2) (Sb.trans f s s2)
  | ct e => exact fun A2 H2 σ2 E f2 s2 => h A2 H2 σ2 E (f.trans s f2) (Sb.trans f s s2)
  | rt d => exact h
  | bad => exact h
theorem sc_cl {c : Bool} {a : Addr} (h : Cl S0 H0 A a) : SC c S0 H0 A a := fun _ => h
theorem cl_sc {a : Addr} (h : SC true S0 H0 A a) : Cl S0 H0 A a := h rfl
end

section
variable {X : Cx} {a b e : Expr} {es : List Expr} {pos : Pos} {c c1 c2 : Bool} {f g : En → Option PyData} {fa : En → Option (List PyData)} {fb : En → Option Bool}
theorem pe_w {t t' : TE} (h : PE X e t) (w : ∀ σ H Q, t' σ H Q → t σ H Q) : PE X e t' := ⟨fun pins s σ H Q I q => h.run pins s σ H Q I (w σ H Q q)⟩
theorem pt_w {t t' : TT} (h : PT X e t) (w : ∀ σ H Q, t' σ H Q → t σ H Q) : PT X e t' := ⟨fun pins s σ H Q I q => h.run pins s σ H Q I (w σ H Q q)⟩
theorem pw_w {t t' : TT} (h : PW X e t) (w : ∀ σ H Q, t' σ H Q → t σ H Q) : PW X e t' := ⟨fun wh pins s σ H Q I q => h.run wh pins s σ H Q I (w σ H Q q)⟩
theorem pa_w {t t' : TA} (h : PA X es t) (w : ∀ σ H Q, t' σ H Q → t σ H Q) : PA X es t' := ⟨fun pos pins s σ H Q I q => h.run pos pins s σ H Q I (w σ H Q q)⟩
theorem ps_w {st : Stmt} {t t' : TS} (h : PS X st t) (w : ∀ D σ H, t' D σ H → t D σ H) : PS X st t' := ⟨fun pins s σ H D I q => h.run pins s σ H D I (w D σ H q)⟩
theorem pss_w {st : List Stmt} {t t' : TS} (h : PSs X st t) (w : ∀ D σ H, t' D σ H → t D σ H) : PSs X st t' := ⟨fun pins s σ H D I q => h.run pins s σ H D I (w D σ H q)⟩
theorem pg_w {tg : Expr} {t t' : TG} (h : PG X tg t) (w : ∀ v σ H Q, t' v σ H Q → t v σ H Q) : PG X tg t' := ⟨fun pins s σ H v u Q I r q => h.run pins s σ H v u Q I r (w v σ H Q q)⟩

/-- what is clean may be borrowed -/
theorem ce_b (h : PE X e (tE X.K true f)) : PE X e (tE X.K false f) := pe_w h fun σ H Q ⟨S0, H0, A, env, d, E, hf, q⟩ =>
  ⟨S0, H0, A, env, d, E, hf, fun v H' s r => q v H' s (r.wide fun _ _ z => nomatch z)⟩
theorem ca_b (h : PA X es (tA X.K true fa)) : PA X es (tA X.K false fa) := pa_w h fun σ H Q ⟨S0, H0, A, env, d, E, hf, q⟩ =>
  ⟨S0, H0, A, env, d, E, hf, fun v H' s r => q v H' s (r.wide fun _ _ z => nomatch z)⟩
/-- a fresh list as a value -/
def eL (f : En → Option (List PyData)) : En → Option PyData := fun env => (f env).map .list
theorem ce_l (h : PE X e (tF X.K c fa)) : PE X e (tE X.K c (eL fa)) := pe_w h fun σ H Q ⟨S0, H0, A, env, d, E, hf, q⟩ => by
  unfold eL at hf
  cases hd : fa env with
  | none => rw [hd] at hf; cases hf
  | some ds =>
    rw [hd] at hf
    cases hf
    refine ⟨S0, H0, A, env, ds, E, hd, fun p xs H' hn s hp r => q _ H' s ?_⟩
    rw [Rp]
    exact ⟨p, xs, rfl, .inl ⟨sc_new E hn, .inl hp⟩, r.wide fun _ z => z.1⟩
/-- a value without lists is clean -/
def eN (f : En → Option PyData) : En → Option PyData := fun env => (f env).bind fun d => if noL d = true then some d else none
theorem ce_n (h : PE X e (tE X.K false f)) : PE X e (tE X.K c (eN f)) := pe_w h fun σ H Q ⟨S0, H0, A, env, d, E, hf, q⟩ => by
  unfold eN at hf
  cases hd : f env with
  | none => rw [hd] at hf; cases hf
  | some d' =>
    rw [hd] at hf
    by_cases n : noL d' = true
    · have hf' : (if noL d' = true then some d' else none) = some d := hf
      rw [if_pos n] at hf'
      cases hf'
      exact ⟨S0, H0, A, env, d, E, hd, fun v H' s r => q v H' s (Rp.noL d v n r)⟩
    · have hf' : (if noL d' = true then some d' else none) = some d := hf
      rw [if_neg n] at hf'; cases hf'

/-! ### names, constants -/
def eVar (i : Nat) : En → Option PyData := fun env => match env[i]? with
  | some (.val d) => some d
  | _ => none
def eBor (i : Nat) : En → Option PyData := fun env => match env[i]? with
  | some (.own ds) => some (.list ds)
  | _ => none
theorem ce_var {i : Nat} (h : PE X e (tVar i)) : PE X e (tE X.K true (eVar i)) := pe_w h fun σ H Q ⟨S0, H0, A, env, d, E, hf, q⟩ => by
  unfold eVar at hf
  split at hf
  · rename_i d' hi
    cases hf
    rcases E.sl i _ hi with z | ⟨v, h1, h2⟩
    · cases z
    · exact ⟨v, h1, q v H (Same.refl H) (Rp.wide (fun _ z => sc_cl z) h2)⟩
  · cases hf
theorem ce_bor {i : Nat} (h : PE X e (tVar i)) : PE X e (tE X.K false (eBor i)) := pe_w h fun σ H Q ⟨S0, H0, A, env, d, E, hf, q⟩ => by
  unfold eBor at hf
  split at hf
  · rename_i ds hi
    cases hf
    rcases E.sl i _ hi with z | ⟨v, h1, a, xs, rfl, ha, hh, r⟩
    · cases z
    · refine ⟨_, h1, q _ H (Same.refl H) ?_⟩
      rw [Rp]
      exact ⟨a, xs, rfl, .inl ⟨(fun z => nomatch z), .inl hh⟩, r.wide fun _ _ z => nomatch z⟩
  · cases hf
def eC (d : PyData) : En → Option PyData := fun _ => some d
theorem ce_c {v : V} {d : PyData} (h : PE X e (tC v)) (r : ∀ S H, Rp X.K S H d v) : PE X e (tE X.K true (eC d)) := pe_w h fun σ H Q ⟨S0, H0, A, env, d', E, hf, q⟩ => by
  cases hf
  exact q v H (Same.refl H) (r _ _)
theorem ce_int {i : Int} {j : Nat} : PE X (.Constant (.int i) j pos) (tE X.K true (eC (.int i))) := ce_c pe_int fun _ _ => by rw [Rp]
theorem ce_bl {i : Bool} {j : Nat} : PE X (.Constant (.bool i) j pos) (tE X.K true (eC (.bool i))) := ce_c pe_bl fun _ _ => by rw [Rp]
theorem ce_non {j : Nat} : PE X (.Constant .none j pos) (tE X.K true (eC .none)) := ce_c pe_non fun _ _ => by rw [Rp]
theorem ce_str {i : Str} {j : Nat} : PE X (.Constant (.str i) j pos) (tE X.K true (eC (.str i))) := ce_c pe_str fun _ _ => by rw [Rp]

/-! ### operations on two values -/
/-- sc: the value has no lists -/
def R2Ok (K : PySem.W.Frag) (sc : Bool) (r : R2) (h : PyData → PyData → Option PyData) : Prop := ∀ (S S' : Addr → Prop) (H : Hp) (x y : V) (dx dy d : PyData) (Q : VK), (∀ p, H p = none → S p) → (sc = true ∨ S' = S) → Rp K S H dx x → Rp K S H dy y → h dx dy = some d →
  (∀ v H', Same H H' → Rp K S' H' d v → Q v H') → r x y H Q
def e2 (h : PyData → PyData → Option PyData) (f g : En → Option PyData) : En → Option PyData := fun env => match f env with
  | some x => match g env with
    | some y => h x y
    | none => none
  | none => none
theorem e2_some {h : PyData → PyData → Option PyData} {env : En} {d : PyData} (q : e2 h f g env = some d) : ∃ x y, f env = some x ∧ g env = some y ∧ h x y = some d := by
  unfold e2 at q
  split at q
  · split at q
    · exact ⟨_, _, by assumption, by assumption, q⟩
    · cases q
  · cases q
theorem e2_run {K : PySem.W.Frag} {sc : Bool} {r : R2} {h : PyData → PyData → Option PyData} (R : R2Ok K sc r h) (hc : sc = true ∨ c2 = c1) {σ : L2.St} {H : Hp} {Q : VK} (q : tE K c2 (e2 h f g) σ H Q) : tOp r (tE K c1 f) (tE K c1 g) σ H Q := by
  obtain ⟨S0, H0, A, env, d, E, hf, q⟩ := q
  obtain ⟨x, y, h1, h2, h3⟩ := e2_some hf
  refine ⟨S0, H0, A, env, x, E, h1, fun v H1 s1 r1 => ⟨S0, H0, A, env, y, E.grow s1, h2, fun u H2 s2 r2 => ?_⟩⟩
  refine R (SC c1 S0 H0 A) (SC c2 S0 H0 A) H2 v u x y d Q (fun p hp => sc_new (E.grow (s1.trans s2)) hp) (hc.imp id fun z => by rw [z]) (r1.grow s2) r2 h3 fun z H3 s3 r3 => q z H3 ((s1.trans s2).trans s3) r3
theorem ce_op {op : Operator} {r : R2} {h : PyData → PyData → Option PyData} {sc : Bool} (ho : OpR X (binaryOp op) r) (R : R2Ok X.K sc r h) (ha : PE X a (tE X.K c1 f)) (hb : PE X b (tE X.K c1 g)) (hc : sc = true ∨ c2 = c1 := by first | exact .inl rfl | exact .inr rfl) :
    PE X (.BinOp a op b pos) (tE X.K c2 (e2 h f g)) := pe_w (pe_op ho ha hb) fun _ _ _ q => e2_run R hc q
theorem ce_cmp {op : CmpOp} {r : R2} {h : PyData → PyData → Option PyData} (ho : OpR X (compareOp op) r) (R : R2Ok X.K true r h) (ha : PE X a (tE X.K c1 f)) (hb : PE X b (tE X.K c1 g)) (hm : behindInMarks op b = false) :
    PE X (.Compare a [op] [b] pos) (tE X.K true (e2 h f g)) := pe_w (pe_cmpR ho ha hb hm) fun _ _ _ q => e2_run R (.inl rfl) q
/-- a value as a test -/
def t1 (f : En → Option PyData) : En → Option Bool := fun env => match f env with
  | some (.bool b) => some b
  | _ => none
theorem t1_some {env : En} {b : Bool} (q : t1 f env = some b) : f env = some (.bool b) := by
  unfold t1 at q
  split at q
  · rename_i h
    cases q
    exact h
  · cases q
theorem t1_run {K : PySem.W.Frag} {t : TE} {σ : L2.St} {H : Hp} {Q : Bool → Hp → Prop} (ht : ∀ Q, tE K c f σ H Q → t σ H Q) (q : tT K (t1 f) σ H Q) : t σ H fun x H1 => ∃ c, x = .bl c ∧ Q c H1 := by
  obtain ⟨S0, H0, A, env, d, E, hf, q⟩ := q
  refine ht _ ⟨S0, H0, A, env, _, E, t1_some hf, fun v H' s r => ⟨d, ?_, q H' s⟩⟩
  rw [Rp] at r
  exact r
theorem ct_cmp {op : CmpOp} {r : R2} {h : PyData → PyData → Option PyData} (ho : OpR X (compareOp op) r) (R : R2Ok X.K true r h) (ha : PE X a (tE X.K c1 f)) (hb : PE X b (tE X.K c1 g)) (hm : behindInMarks op b = false) :
    PT X (.Compare a [op] [b] pos) (tT X.K (t1 (e2 h f g))) := pt_w (pt_cmpR ho ha hb hm) fun σ H Q q => t1_run (c := true) (fun Q q => e2_run R (.inl rfl) q) q
theorem ct_val (ha : PE X e (tE X.K c f)) (he : ∀ whole, isTrue e X.env whole = (do let v ← whole; standAt e.pos; holding [v] (truthy v)) := by intro _; rfl) : PT X e (tT X.K (t1 f)) := pt_w (pt_val ha he) fun σ H Q q => t1_run (fun Q q => q) q

/-! ### truth -/
def truD : PyData → Option Bool
  | .none => some false
  | .bool b => some b
  | .int i => some (i != 0)
  | .str y => if y.length ≤ 1000000 then some ((y.length : Int) != 0) else none
  | .list ds => some (!ds.isEmpty)
  | .tuple ds => some (!ds.isEmpty)
  | .dict _ => none
theorem sz6 {n : Nat} (h : n ≤ 1000000) : n ≤ sizeLine := Nat.le_trans h (by decide)
theorem rpA_empty {K : PySem.W.Frag} {S : Addr → Prop} {H : Hp} {ds : List PyData} {xs : List V} (r : RpA K S H ds xs) : (!ds.isEmpty) = !xs.isEmpty := by
  cases ds with
  | nil => rw [RpA] at r; subst r; rfl
  | cons d ds =>
    rw [RpA] at r
    obtain ⟨v, r', rfl, _⟩ := r
    rfl
theorem truD_ok {K : PySem.W.Frag} {S : Addr → Prop} {H : Hp} {d : PyData} {v : V} {b : Bool} (r : Rp K S H d v) (h : truD d = some b) : TruV K v H b := by
  cases d with
  | none => rw [Rp] at r; subst r; cases h; rfl
  | bool k => rw [Rp] at r; subst r; cases h; rfl
  | int k => rw [Rp] at r; subst r; cases h; rfl
  | str k =>
    rw [Rp] at r; subst r
    simp only [truD] at h
    by_cases q : k.length ≤ 1000000
    · rw [if_pos q] at h; cases h; exact ⟨sz6 q, rfl⟩
    · rw [if_neg q] at h; cases h
  | list ds =>
    rw [Rp] at r
    obtain ⟨a, xs, rfl, q, r⟩ := r
    cases h
    exact .inl ⟨xs, q.sq, rpA_empty r⟩
  | tuple ds =>
    rw [Rp] at r
    obtain ⟨a, xs, rfl, q, r⟩ := r
    cases h
    exact .inr (.inl ⟨xs, q, rpA_empty r⟩)
  | dict k => cases h
def tTr (f : En → Option PyData) : En → Option Bool := fun env => (f env).bind truD
theorem ct_tru (ha : PE X e (tE X.K c f)) (he : ∀ whole, isTrue e X.env whole = (do let v ← whole; standAt e.pos; holding [v] (truthy v)) := by intro _; rfl) : PT X e (tT X.K (tTr f)) := pt_w (pt_truth ha he) fun σ H Q ⟨S0, H0, A, env, b, E, hf, q⟩ => by
  unfold tTr at hf
  cases hd : f env with
  | none => rw [hd] at hf; cases hf
  | some d =>
    rw [hd] at hf
    exact ⟨S0, H0, A, env, d, E, hd, fun v H' s r => ⟨b, truD_ok r hf, q H' s⟩⟩

/-! ### and, or, not -/
variable {ga gb : En → Option Bool} {rest : List Expr}
def tAnd' (ga gb : En → Option Bool) : En → Option Bool := fun env => match ga env with
  | some true => gb env
  | some false => some false
  | none => none
def tOr' (ga gb : En → Option Bool) : En → Option Bool := fun env => match ga env with
  | some true => some true
  | some false => gb env
  | none => none
def tNot' (ga : En → Option Bool) : En → Option Bool := fun env => (ga env).map (!·)
theorem and_run {K : PySem.W.Frag} {σ : L2.St} {H : Hp} {Q : Bool → Hp → Prop} (q : tT K (tAnd' ga gb) σ H Q) : tAnd (tT K ga) (tT K gb) σ H Q := by
  obtain ⟨S0, H0, A, env, b, E, hf, q⟩ := q
  unfold tAnd' at hf
  split at hf
  · rename_i h
    exact ⟨S0, H0, A, env, true, E, h, fun H' s => iteT <| ⟨S0, H0, A, env, b, E.grow s, hf, fun H2 s2 => q H2 (s.trans s2)⟩⟩
  · rename_i h
    cases hf
    exact ⟨S0, H0, A, env, false, E, h, fun H' s => iteF <| q H' s⟩
  · cases hf
theorem or_run {K : PySem.W.Frag} {σ : L2.St} {H : Hp} {Q : Bool → Hp → Prop} (q : tT K (tOr' ga gb) σ H Q) : tOr (tT K ga) (tT K gb) σ H Q := by
  obtain ⟨S0, H0, A, env, b, E, hf, q⟩ := q
  unfold tOr' at hf
  split at hf
  · rename_i h
    cases hf
    exact ⟨S0, H0, A, env, true, E, h, fun H' s => iteT <| q H' s⟩
  · rename_i h
    exact ⟨S0, H0, A, env, false, E, h, fun H' s => iteF <| ⟨S0, H0, A, env, b, E.grow s, hf, fun H2 s2 => q H2 (s.trans s2)⟩⟩
  · cases hf
theorem cw_and1 (ha : PT X a (tT X.K ga)) : PW X (.BoolOp .And [a] pos) (tT X.K ga) := pw_and1 ha
theorem cw_or1 (ha : PT X a (tT X.K ga)) : PW X (.BoolOp .Or [a] pos) (tT X.K ga) := pw_or1 ha
theorem cw_and (ha : PT X a (tT X.K ga)) (hb : PW X (.BoolOp .And (b :: rest) pos) (tT X.K gb)) : PW X (.BoolOp .And (a :: b :: rest) pos) (tT X.K (tAnd' ga gb)) := pw_w (pw_and ha hb) fun _ _ _ q => and_run q
theorem cw_or (ha : PT X a (tT X.K ga)) (hb : PW X (.BoolOp .Or (b :: rest) pos) (tT X.K gb)) : PW X (.BoolOp .Or (a :: b :: rest) pos) (tT X.K (tOr' ga gb)) := pw_w (pw_or ha hb) fun _ _ _ q => or_run q
theorem ct_not (ha : PT X a (tT X.K ga)) : PT X (.UnaryOp .Not a pos) (tT X.K (tNot' ga)) := pt_w (pt_not ha) fun σ H Q ⟨S0, H0, A, env, b, E, hf, q⟩ => by
  unfold tNot' at hf
  cases hd : ga env with
  | none => rw [hd] at hf; cases hf
  | some d =>
    rw [hd] at hf
    cases hf
    exact ⟨S0, H0, A, env, d, E, hd, q⟩
/-- and, or, not as values -/
def eB (ga : En → Option Bool) : En → Option PyData := fun env => (ga env).map .bool
theorem ce_one {op : BoolOp} (h : PE X a (tE X.K c f)) : PE X (.BoolOp op [a] pos) (tE X.K c f) := pe_one h
def eAnd (f g : En → Option PyData) : En → Option PyData := fun env => match f env with
  | some (.bool true) => g env
  | some (.bool false) => some (.bool false)
  | _ => none
def eOr (f g : En → Option PyData) : En → Option PyData := fun env => match f env with
  | some (.bool true) => some (.bool true)
  | some (.bool false) => g env
  | _ => none
theorem ce_and (ha : PE X a (tE X.K c1 f)) (hb : PE X (.BoolOp .And (b :: rest) pos) (tE X.K c g)) : PE X (.BoolOp .And (a :: b :: rest) pos) (tE X.K c (eAnd f g)) := pe_w (pe_and ha hb) fun σ H Q ⟨S0, H0, A, env, d, E, hf, q⟩ => by
  unfold eAnd at hf
  split at hf
  · rename_i h
    refine ⟨S0, H0, A, env, _, E, h, fun v H' s r => ?_⟩
    rw [Rp] at r
    exact ⟨true, r, iteT <| ⟨S0, H0, A, env, d, E.grow s, hf, fun v2 H2 s2 r2 => q v2 H2 (s.trans s2) r2⟩⟩
  · rename_i h
    cases hf
    refine ⟨S0, H0, A, env, _, E, h, fun v H' s r => ?_⟩
    rw [Rp] at r
    exact ⟨false, r, iteF <| q _ H' s (by rw [Rp])⟩
  · cases hf
theorem ce_or (ha : PE X a (tE X.K c1 f)) (hb : PE X (.BoolOp .Or (b :: rest) pos) (tE X.K c g)) : PE X (.BoolOp .Or (a :: b :: rest) pos) (tE X.K c (eOr f g)) := pe_w (pe_or ha hb) fun σ H Q ⟨S0, H0, A, env, d, E, hf, q⟩ => by
  unfold eOr at hf
  split at hf
  · rename_i h
    cases hf
    refine ⟨S0, H0, A, env, _, E, h, fun v H' s r => ?_⟩
    rw [Rp] at r
    exact ⟨true, r, iteT <| q _ H' s (by rw [Rp])⟩
  · rename_i h
    refine ⟨S0, H0, A, env, _, E, h, fun v H' s r => ?_⟩
    rw [Rp] at r
    exact ⟨false, r, iteF <| ⟨S0, H0, A, env, d, E.grow s, hf, fun v2 H2 s2 r2 => q v2 H2 (s.trans s2) r2⟩⟩
  · cases hf
def eNot (f : En → Option PyData) : En → Option PyData := fun env => match f env with
  | some (.bool b) => some (.bool (!b))
  | _ => none
theorem ce_not (ha : PE X a (tE X.K c1 f)) : PE X (.UnaryOp .Not a pos) (tE X.K true (eNot f)) := pe_w (pe_not ha) fun σ H Q ⟨S0, H0, A, env, d, E, hf, q⟩ => by
  unfold eNot at hf
  split at hf
  · rename_i k h
    cases hf
    refine ⟨S0, H0, A, env, _, E, h, fun v H' s r => ?_⟩
    rw [Rp] at r
    exact ⟨k, r, q _ H' s (by rw [Rp])⟩
  · cases hf
def eIf (ga : En → Option Bool) (f g : En → Option PyData) : En → Option PyData := fun env => match ga env with
  | some true => f env
  | some false => g env
  | none => none
theorem ce_if {t : Expr} (ht : PT X t (tT X.K ga)) (ha : PE X a (tE X.K c f)) (hb : PE X b (tE X.K c g)) : PE X (.IfExp t a b pos) (tE X.K c (eIf ga f g)) := pe_w (pe_ifExp ht ha hb) fun σ H Q ⟨S0, H0, A, env, d, E, hf, q⟩ => by
  unfold eIf at hf
  split at hf
  · rename_i h
    exact ⟨S0, H0, A, env, _, E, h, fun H' s => iteT <| ⟨S0, H0, A, env, d, E.grow s, hf, fun v2 H2 s2 r2 => q v2 H2 (s.trans s2) r2⟩⟩
  · rename_i h
    exact ⟨S0, H0, A, env, _, E, h, fun H' s => iteF <| ⟨S0, H0, A, env, d, E.grow s, hf, fun v2 H2 s2 r2 => q v2 H2 (s.trans s2) r2⟩⟩
  · cases hf

/-! ### argument lists, displays -/
def aNil : En → Option (List PyData) := fun _ => some []
def aCons (f : En → Option PyData) (g : En → Option (List PyData)) : En → Option (List PyData) := fun env => match f env with
  | some d => match g env with
    | some ds => some (d :: ds)
    | none => none
  | none => none
theorem aCons_some {env : En} {es : List PyData} (q : aCons f fa env = some es) : ∃ d ds, f env = some d ∧ fa env = some ds ∧ es = d :: ds := by
  unfold aCons at q
  split at q
  · split at q
    · cases q
      exact ⟨_, _, by assumption, by assumption, rfl⟩
    · cases q
  · cases q
theorem ca_nil : PA X [] (tA X.K c aNil) := pa_w pa_nil fun σ H Q ⟨S0, H0, A, env, d, E, hf, q⟩ => by
  cases hf
  exact q [] H (Same.refl H) RpA.nil
theorem ca_cons (ha : PE X e (tE X.K c f)) (hr : PA X es (tA X.K c fa)) (hs : starEach (e :: es) X.env = (false, eval e X.env) :: starEach es X.env := by rfl) : PA X (e :: es) (tA X.K c (aCons f fa)) := pa_w (pa_cons ha hr hs) fun σ H Q ⟨S0, H0, A, env, d, E, hf, q⟩ => by
  obtain ⟨d1, ds, h1, h2, rfl⟩ := aCons_some hf
  exact ⟨S0, H0, A, env, d1, E, h1, fun v H1 s1 r1 => ⟨S0, H0, A, env, ds, E.grow s1, h2, fun vs H2 s2 r2 => q _ H2 (s1.trans s2) (RpA.cons (r1.grow s2) r2)⟩⟩
def eTup (fa : En → Option (List PyData)) : En → Option PyData := fun env => match fa env with
  | some ds => if ds.length ≤ 1000000 then some (.tuple ds) else none
  | none => none
theorem eTup_some {env : En} {d : PyData} (q : eTup fa env = some d) : ∃ ds, fa env = some ds ∧ ds.length ≤ 1000000 ∧ d = .tuple ds := by
  unfold eTup at q
  split at q
  · split at q
    · cases q; exact ⟨_, by assumption, by assumption, rfl⟩
    · cases q
  · cases q
theorem ce_tup {x1 : Nat} (h : PA X es (tA X.K c fa)) : PE X (.Tuple es x1 pos) (tE X.K c (eTup fa)) := pe_w (pe_tup h) fun σ H Q ⟨S0, H0, A, env, d, E, hf, q⟩ => by
  obtain ⟨ds, h1, h2, rfl⟩ := eTup_some hf
  refine ⟨S0, H0, A, env, ds, E, h1, fun vs H1 s1 r1 => ⟨by rw [r1.length]; exact sz6 h2, fun p hp => q _ _ (s1.trans fun b o z => by rw [upd_ne (ne_of_none z hp)]; exact z) ?_⟩⟩
  rw [Rp]
  exact ⟨p, vs, rfl, .inl (.inl upd_same), r1.grow fun b o z => by rw [upd_ne (ne_of_none z hp)]; exact z⟩
def fLst (fa : En → Option (List PyData)) : En → Option (List PyData) := fun env => match fa env with
  | some ds => if ds.length ≤ 1000000 then some ds else none
  | none => none
theorem fLst_some {env : En} {d : List PyData} (q : fLst fa env = some d) : fa env = some d ∧ d.length ≤ 1000000 := by
  unfold fLst at q
  split at q
  · split at q
    · cases q; exact ⟨by assumption, by assumption⟩
    · cases q
  · cases q
theorem same_new {H : Hp} {p : Addr} {o : HO} (h : H p = none) : Same H (upd H p o) := fun b u e => by
  rw [upd_ne (ne_of_none e h)]
  exact e
/-- items that stood ahead of the new list do not lean on it -/
theorem RpA.apart {K : PySem.W.Frag} {S : Addr → Prop} {H H' : Hp} {p : Addr} {ds : List PyData} {vs : List V} (h : RpA K S H ds vs) (hp : H p = none) (s : Same H H') : RpA K (fun a => S a ∧ a ≠ p) H' ds vs :=
  RpA.mono (fun a xs z r => ⟨⟨z, fun e => by
    subst e
    rcases r with r | ⟨o, r⟩ <;> (rw [hp] at r; cases r)⟩, same_rd s r⟩) (fun _ _ z => same_t s z) ds vs h
theorem Rp.apart {K : PySem.W.Frag} {S : Addr → Prop} {H H' : Hp} {p : Addr} {d : PyData} {v : V} (h : Rp K S H d v) (hp : H p = none) (s : Same H H') : Rp K (fun a => S a ∧ a ≠ p) H' d v :=
  Rp.mono (fun a xs z r => ⟨⟨z, fun e => by
    subst e
    rcases r with r | ⟨o, r⟩ <;> (rw [hp] at r; cases r)⟩, same_rd s r⟩) (fun _ _ z => same_t s z) d v h
theorem cf_lst (h : PA X es (tA X.K c fa)) : PE X (.List es pos) (tF X.K c (fLst fa)) := pe_w (pe_lst h) fun σ H Q ⟨S0, H0, A, env, ds, E, hf, q⟩ => by
  obtain ⟨h1, h2⟩ := fLst_some hf
  refine ⟨S0, H0, A, env, ds, E, h1, fun vs H1 s1 r1 => ⟨by rw [r1.length]; exact sz6 h2, fun p hp => ?_⟩⟩
  exact q p vs _ (s1.free hp) (s1.trans (same_new hp)) upd_same (r1.apart hp (same_new hp))
end

/-! ### statements -/
section
variable {X : Cx} {e : Expr} {pos pos' : Pos} {c : Bool} {f : En → Option PyData} {fa : En → Option (List PyData)} {ga : En → Option Bool} {s t : En → Out} {st : Stmt} {sts : List Stmt}
def sNil : En → Out := fun env => .nx env
def sSeq (s t : En → Out) : En → Out := fun env => match s env with
  | .nx e => t e
  | .bk e => .bk e
  | .ct e => .ct e
  | .rt d => .rt d
  | .bad => .bad
theorem cs_nil : PSs X [] (tS X.K sNil) := pss_w pss_nil fun D σ H ⟨S0, H0, A, env, E, o⟩ => o A H σ E Fr.refl Sb.refl
theorem cs_cons (h1 : PS X st (tS X.K s)) (h2 : PSs X sts (tS X.K t)) : PSs X (st :: sts) (tS X.K (sSeq s t)) := pss_w (pss_cons h1 h2) fun D σ H ⟨S0, H0, A, env, E, o⟩ => by
  refine ⟨S0, H0, A, env, E, ?_⟩
  unfold sSeq at o
  cases hs : s env with
  | nx e =>
    rw [hs] at o
    exact fun A' H' σ' E' f' b' => ⟨S0, H0, A', e, E', OutOk.step o f' b'⟩
  | bk e => rw [hs] at o; exact o
  | ct e => rw [hs] at o; exact o
  | rt d => rw [hs] at o; exact o
  | bad => rw [hs] at o; exact o
theorem cs_one (h1 : PS X st (tS X.K s)) : PSs X [st] (tS X.K s) := pss_one h1
/-- ahead of the statement the list of the slot i is let go -/
theorem cs_frz {i : Nat} (h : PS X st (tS X.K s)) : PS X st (tS X.K fun env => s (frz i env)) := ps_w h fun D σ H ⟨S0, H0, A, env, E, o⟩ => by
  obtain ⟨A', E', w⟩ := E.frz i
  exact ⟨S0, H0, A', _, E', OutOk.step o Fr.refl fun a z => .inl (w a z)⟩
theorem css_frz {i : Nat} (h : PSs X sts (tS X.K s)) : PSs X sts (tS X.K fun env => s (frz i env)) := pss_w h fun D σ H ⟨S0, H0, A, env, E, o⟩ => by
  obtain ⟨A', E', w⟩ := E.frz i
  exact ⟨S0, H0, A', _, E', OutOk.step o Fr.refl fun a z => .inl (w a z)⟩
def sSet (i : Nat) (f : En → Option PyData) : En → Out := fun env => match f env with
  | some d => .nx (env.set i (.val d))
  | none => .bad
def sOwn (i : Nat) (f : En → Option (List PyData)) : En → Out := fun env => match f env with
  | some d => .nx (env.set i (.own d))
  | none => .bad
theorem set_run {K : PySem.W.Frag} {i : Nat} {D : Ends} {σ : L2.St} {H : Hp} (h : tS K (sSet i f) D σ H) : tAsg (tE K true f) (gName i) D σ H := by
  obtain ⟨S0, H0, A, env, E, o⟩ := h
  unfold sSet at o
  cases hd : f env with
  | none => rw [hd] at o; exact o.elim
  | some d =>
    rw [hd] at o
    exact ⟨S0, H0, A, env, d, E, hd, fun v H' s r => o A H' _ ((E.grow s).set_val (r.wide fun _ z => cl_sc z)) (Fr.of_same s) Sb.refl⟩
theorem own_run {K : PySem.W.Frag} {i : Nat} {D : Ends} {σ : L2.St} {H : Hp} (h : tS K (sOwn i fa) D σ H) : tAsg (tF K true fa) (gName i) D σ H := by
  obtain ⟨S0, H0, A, env, E, o⟩ := h
  unfold sOwn at o
  cases hd : fa env with
  | none => rw [hd] at o; exact o.elim
  | some ds =>
    rw [hd] at o
    refine ⟨S0, H0, A, env, ds, E, hd, fun p xs H' hn s hp r => o _ H' _ (E.set_own s hn hp (r.wide fun _ z => ⟨cl_sc z.1, z.2⟩)) (Fr.of_same s) fun a z => z.imp id fun e => by rw [e]; exact hn⟩
theorem cs_set {i : Nat} (h : PS X st (tAsg (tE X.K true f) (gName i))) : PS X st (tS X.K (sSet i f)) := ps_w h fun _ _ _ q => set_run q
theorem cs_own {i : Nat} (h : PS X st (tAsg (tF X.K true fa) (gName i))) : PS X st (tS X.K (sOwn i fa)) := ps_w h fun _ _ _ q => own_run q
/-- x.append(e), x an owned list -/
def sApp (i : Nat) (f : En → Option PyData) : En → Out := fun env => match f env with
  | some d => match env[i]? with
    | some (.own ds) => if ds.length < 1000000 then .nx (env.set i (.own (ds ++ [d]))) else .bad
    | _ => .bad
  | none => .bad
theorem app_run {K : PySem.W.Frag} {i : Nat} {D : Ends} {σ : L2.St} {H : Hp} (h : tS K (sApp i f) D σ H) : tDrop (tBM K "list" rAppend (tVar i) (tCons (tE K true f) tNil)) D σ H := by
  obtain ⟨S0, H0, A, env, E, o⟩ := h
  unfold sApp at o
  cases hd : f env with
  | none => rw [hd] at o; exact o.elim
  | some d =>
    rw [hd] at o
    replace o : OutOk K S0 H0 A H (match env[i]? with
      | some (.own ds) => if ds.length < 1000000 then .nx (env.set i (.own (ds ++ [d]))) else .bad
      | _ => .bad) D := o
    split at o
    · rename_i ds hi
      split at o
      · rename_i hl
        rcases E.sl i _ hi with z | ⟨v, h1, a, xs, rfl, ha, hh, r⟩
        · cases z
        refine ⟨_, h1, .inl ⟨rfl, xs, .inl (.inl hh)⟩, S0, H0, A, env, d, E, hd, fun v H' s r' => ?_⟩
        have E' := E.grow s
        refine ⟨a, xs, v, rfl, rfl, s _ _ hh, ?_, ?_⟩
        · rw [r.length]
          exact Nat.lt_of_lt_of_le hl (by decide)
        · have q := RpA.append (r.grow s) (RpA.cons (r'.wide fun _ z => cl_sc z) RpA.nil)
          refine o A _ σ (E'.mut hi h1 ha (s _ _ hh) q) (fun b u e n => ?_) Sb.refl
          have nb : b ≠ a := fun z => n (z ▸ ha)
          rw [upd_ne nb]
          exact s _ _ e
      · exact o.elim
    · exact o.elim
theorem cs_app {i : Nat} (h : PS X st (tDrop (tBM X.K "list" rAppend (tVar i) (tCons (tE X.K true f) tNil)))) : PS X st (tS X.K (sApp i f)) := ps_w h fun _ _ _ q => app_run q
/-- x[k] = e, x an owned list -/
def ixD (n : Nat) (k : PyData) : Option Nat := match k with
  | .int i => ixN n i
  | _ => none
def sPut (i : Nat) (fk f : En → Option PyData) : En → Out := fun env => match f env with
  | some d => match env[i]? with
    | some (.own ds) => match fk env with
      | some k => match ixD ds.length k with
        | some j => .nx (env.set i (.own (ds.set j d)))
        | none => .bad
      | none => .bad
    | _ => .bad
  | none => .bad
theorem put_run {K : PySem.W.Frag} {i : Nat} {fk : En → Option PyData} {D : Ends} {σ : L2.St} {H : Hp} (h : tS K (sPut i fk f) D σ H) : tAsg (tE K true f) (gSub (tVar i) (tE K c fk) rSetL) D σ H := by
  obtain ⟨S0, H0, A, env, E, o⟩ := h
  unfold sPut at o
  cases hd : f env with
  | none => rw [hd] at o; exact o.elim
  | some d =>
    rw [hd] at o
    refine ⟨S0, H0, A, env, d, E, hd, fun v H1 s1 r1 => ?_⟩
    cases hi : env[i]? with
    | none => rw [hi] at o; exact o.elim
    | some sl =>
      rw [hi] at o
      cases sl with
      | un => exact o.elim
      | val _ => exact o.elim
      | own ds =>
        cases hk : fk env with
        | none => rw [hk] at o; exact o.elim
        | some k =>
          rw [hk] at o
          cases hj : ixD ds.length k with
          | none => simp only [hj] at o; exact o.elim
          | some j =>
            simp only [hj] at o
            rcases E.sl i _ hi with z | ⟨_, h1, a, xs, rfl, ha, hh, r⟩
            · cases z
            refine ⟨_, h1, S0, H0, A, env, k, E.grow s1, hk, fun u H2 s2 r2 => ?_⟩
            cases k with
            | int m =>
              rw [Rp] at r2
              have hh2 := s2 _ _ (s1 _ _ hh)
              refine ⟨a, xs, m, j, rfl, r2, hh2, by rw [r.length]; exact hj, ?_⟩
              have q := (r.grow (s1.trans s2)).set (i := j) ((r1.wide fun _ z => cl_sc z).grow s2)
              refine o A _ σ ((E.grow (s1.trans s2)).mut hi h1 ha hh2 q) (fun b u e n => ?_) Sb.refl
              have nb : b ≠ a := fun z => n (z ▸ ha)
              rw [upd_ne nb]
              exact (s1.trans s2) _ _ e
            | none => cases hj
            | bool _ => cases hj
            | str _ => cases hj
            | list _ => cases hj
            | tuple _ => cases hj
            | dict _ => cases hj
theorem cs_put {i : Nat} {fk : En → Option PyData} (h : PS X st (tAsg (tE X.K true f) (gSub (tVar i) (tE X.K c fk) rSetL))) : PS X st (tS X.K (sPut i fk f)) := ps_w h fun _ _ _ q => put_run q
def sIf (ga : En → Option Bool) (s t : En → Out) : En → Out := fun env => match ga env with
  | some true => s env
  | some false => t env
  | none => .bad
theorem cs_if {a b : List Stmt} (hc : PT X e (tT X.K ga)) (ha : PSs X a (tS X.K s)) (hb : PSs X b (tS X.K t)) : PS X (.If e a b pos) (tS X.K (sIf ga s t)) := ps_w (ps_if hc ha hb) fun D σ H ⟨S0, H0, A, env, E, o⟩ => by
  unfold sIf at o
  cases hd : ga env with
  | none => rw [hd] at o; exact o.elim
  | some k =>
    rw [hd] at o
    refine ⟨S0, H0, A, env, k, E, hd, fun H' sm => ?_⟩
    cases k with
    | true => exact iteT <| ⟨S0, H0, A, env, E.grow sm, OutOk.step o (Fr.of_same sm) Sb.refl⟩
    | false => exact iteF <| ⟨S0, H0, A, env, E.grow sm, OutOk.step o (Fr.of_same sm) Sb.refl⟩
def sRet (f : En → Option PyData) : En → Out := fun env => match f env with
  | some d => .rt d
  | none => .bad
theorem cs_ret (h : PE X e (tE X.K true f)) : PS X (.Return (some e) pos) (tS X.K (sRet f)) := ps_w (ps_ret h) fun D σ H ⟨S0, H0, A, env, E, o⟩ => by
  unfold sRet at o
  cases hd : f env with
  | none => rw [hd] at o; exact o.elim
  | some d =>
    rw [hd] at o
    exact ⟨S0, H0, A, env, d, E, hd, fun v H' sm r => o v H' (E.same.trans sm) (r.wide fun _ z => (cl_sc z).1)⟩
def sRetN : En → Out := fun _ => .rt .none
theorem cs_retN : PS X (.Return none pos) (tS X.K sRetN) := ps_w ps_retN fun D σ H ⟨S0, H0, A, env, E, o⟩ => o _ H E.same (by rw [Rp])
def sBrk : En → Out := fun env => .bk env
def sCnt : En → Out := fun env => .ct env
theorem cs_brk : PS X (.Break pos) (tS X.K sBrk) := ps_w ps_break fun D σ H ⟨S0, H0, A, env, E, o⟩ => o A H σ E Fr.refl Sb.refl
theorem cs_cnt : PS X (.Continue pos) (tS X.K sCnt) := ps_w ps_continue fun D σ H ⟨S0, H0, A, env, E, o⟩ => o A H σ E Fr.refl Sb.refl
theorem cs_pass : PS X (.Pass pos) (tS X.K sNil) := ps_w ps_pass fun D σ H ⟨S0, H0, A, env, E, o⟩ => o A H σ E Fr.refl Sb.refl
/-- an expression for nothing -/
def sDrop (f : En → Option PyData) : En → Out := fun env => match f env with
  | some _ => .nx env
  | none => .bad
theorem cs_drop (h : PS X st (tDrop (tE X.K c f))) : PS X st (tS X.K (sDrop f)) := ps_w h fun D σ H ⟨S0, H0, A, env, E, o⟩ => by
  unfold sDrop at o
  cases hd : f env with
  | none => rw [hd] at o; exact o.elim
  | some d =>
    rw [hd] at o
    exact ⟨S0, H0, A, env, d, E, hd, fun v H' sm r => o A H' σ (E.grow sm) (Fr.of_same sm) Sb.refl⟩
/-- x += e, ints -/
def sAug (i : Nat) (k : Int → Int → Int) (f : En → Option PyData) : En → Out := fun env => match env[i]? with
  | some (.val (.int x)) => match f env with
    | some (.int y) => .nx (env.set i (.val (.int (k x y))))
    | _ => .bad
  | _ => .bad
theorem cs_aug {i : Nat} {k : Int → Int → Int} (h : PS X st (tAug i (tE X.K c f) (ipI k))) : PS X st (tS X.K (sAug i k f)) := ps_w h fun D σ H ⟨S0, H0, A, env, E, o⟩ => by
  unfold sAug at o
  split at o
  · rename_i x hi
    rcases E.sl i _ hi with z | ⟨v, h1, h2⟩
    · cases z
    have h2' : Rp X.K (Cl S0 H0 A) H (.int x) v := h2
    rw [Rp] at h2'
    subst h2'
    split at o
    · rename_i y hd
      refine ⟨_, h1, S0, H0, A, env, _, E, hd, fun u H' sm r => ?_⟩
      rw [Rp] at r
      refine ⟨x, y, rfl, r, o A H' _ ((E.grow sm).set_val (by rw [Rp])) (Fr.of_same sm) Sb.refl⟩
    · exact o.elim
  · exact o.elim
end
end Mir

namespace Mir
open PySem PySem.Spec PyProof.Rows L2

/-! ### targets -/
def gVal (i : Nat) : PyData → En → Option En := fun d env => some (env.set i (.val d))
def gMany : List Nat → List PyData → En → Option En
  | [], [], env => some env
  | i :: is, d :: ds, env => gMany is ds (env.set i (.val d))
  | _, _, _ => none
def gT (is : List Nat) : PyData → En → Option En := fun d env => match d with
  | .tuple ds => gMany is ds env
  | _ => none
def gsOf : List Nat → TGs
  | [] => gNil
  | i :: is => gCons (gName i) (gsOf is)
section
variable {X : Cx} {tg e iter : Expr} {pos : Pos} {K : PySem.W.Frag} {S0 : Addr → Prop} {H0 H H1 : Hp} {A : Addr → Prop} {σ : L2.St} {env : En}
theorem wipe_set {i : Nat} {x : Option V} : ∀ {is : List Nat}, (wipe (σ.set i x) is).set i none = (wipe σ is).set i none
  | [] => by simp [wipe]
  | j :: is => by
    show ((wipe (σ.set i x) is).set j none).set i none = ((wipe σ is).set j none).set i none
    by_cases h : j = i
    · subst h
      rw [List.set_set, List.set_set]
      exact wipe_set
    · rw [List.set_comm _ _ h, List.set_comm _ _ h, wipe_set]
theorem wipe_get (i : Nat) : ∀ (vs : List Nat), (wipe σ vs)[i]? = if i ∈ vs then (σ[i]?).map (fun _ => none) else σ[i]?
  | [] => by simp [wipe]
  | j :: vs => by
    show ((wipe σ vs).set j none)[i]? = _
    rw [List.getElem?_set, wipe_length]
    by_cases h : j = i
    · subst h
      rw [if_pos rfl, if_pos List.mem_cons_self]
      by_cases l : j < σ.length
      · rw [if_pos l, List.getElem?_eq_getElem l]; rfl
      · rw [if_neg l, List.getElem?_eq_none (by omega)]; rfl
    · rw [if_neg h, wipe_get i vs]
      by_cases m : i ∈ vs
      · rw [if_pos m, if_pos (List.mem_cons_of_mem _ m)]
      · rw [if_neg m, if_neg (fun z => by
          rcases List.mem_cons.mp z with z | z
          · exact h z.symm
          · exact m z)]
theorem wipe_wipe (vs : List Nat) : wipe (wipe σ vs) vs = wipe σ vs := by
  apply List.ext_getElem?
  intro i
  rw [wipe_get, wipe_get]
  split
  · cases σ[i]? <;> rfl
  · rfl
theorem cg_name {i : Nat} (h : PG X tg (gName i)) : PG X tg (tG X.K [i] (gVal i)) := pg_w h fun v σ H Q ⟨S0, H0, A, env, d, env', E, r, hg, q⟩ => by
  cases hg
  refine q _ (E.set_val r) ?_
  show (σ.set i (some v)).set i none = σ.set i none
  rw [List.set_set]
theorem many_run : ∀ {is : List Nat} {ds : List PyData} {vs : List V} {σ : L2.St} {env env' : En} {Q : L2.St → Hp → Prop}, EnvOk K S0 H0 A H σ env → RpA K (Cl S0 H0 A) H ds vs → gMany is ds env = some env' →
    (∀ σ', EnvOk K S0 H0 A H σ' env' → wipe σ' is = wipe σ is → Q σ' H) → gsOf is vs σ H Q
  | [], [], _, σ, env, env', Q, E, r, g, q => by
    rw [RpA] at r
    subst r
    cases g
    exact ⟨rfl, q σ E rfl⟩
  | [], _ :: _, _, _, _, _, _, _, _, g, _ => by cases g
  | _ :: _, [], _, _, _, _, _, _, _, g, _ => by cases g
  | i :: is, d :: ds, _, σ, env, env', Q, E, r, g, q => by
    rw [RpA] at r
    obtain ⟨v, r', rfl, h1, h2⟩ := r
    refine ⟨v, r', rfl, ?_⟩
    show gsOf is r' (σ.set i (some v)) H Q
    refine many_run (E.set_val h1) h2 g fun σ' E' w => q σ' E' ?_
    show (wipe σ' is).set i none = (wipe σ is).set i none
    rw [w, wipe_set]
theorem gMany_len : ∀ {is : List Nat} {ds : List PyData} {env env' : En}, gMany is ds env = some env' → ds.length = is.length
  | [], [], _, _, _ => rfl
  | [], _ :: _, _, _, g => by cases g
  | _ :: _, [], _, _, g => by cases g
  | _ :: is, _ :: ds, env, env', g => by
    rw [List.length_cons, List.length_cons, gMany_len (is := is) (ds := ds) g]
theorem cg_tup {is : List Nat} {n : Nat} (h : PG X tg (gTup X.K n (gsOf is))) (hn : n = is.length := by rfl) : PG X tg (tG X.K is (gT is)) := pg_w h fun v σ H Q ⟨S0, H0, A, env, d, env', E, r, hg, q⟩ => by
  cases d with
  | tuple ds =>
    rw [Rp] at r
    obtain ⟨a, xs, rfl, hs, ra⟩ := r
    exact ⟨a, xs, rfl, hs, by rw [ra.length, hn]; exact gMany_len hg, many_run E ra hg q⟩
  | _ => cases hg

/-! ### what is walked -/
structure Wk (K : PySem.W.Frag) (J : It) (G : Hp → Prop) (S : Addr → Prop) (ds : List PyData) : Prop where
  go : ∀ i H, G H → i < ds.length → J.go i H
  yld : ∀ (i : Nat) H d x H', G H → ds[i]? = some d → J.yld i H x H' → Same H H' ∧ Rp K S H' d x
  stop : ∀ i H, G H → ds.length ≤ i → J.stop i H
/-- c: it stands still while the code runs -/
def tI (K : PySem.W.Frag) (c : Bool) (f : En → Option (List PyData)) : TI := fun σ H R => ∃ S0 H0 A env ds, EnvOk K S0 H0 A H σ env ∧ f env = some ds ∧ ∀ J H' G, Same H H' → (∀ H2, Same H' H2 → G H2) → (c = true → ∀ H2, Fr A H' H2 → G H2) →
  Wk K J G (fun b => Cl S0 H0 A b ∧ H' b ≠ none) ds → R J H'
theorem pi_w {t t' : TI} (h : PI X tg iter t) (w : ∀ σ H R, t' σ H R → t σ H R) : PI X tg iter t' := ⟨fun pins s σ H R I q => h.run pins s σ H R I (w σ H R q)⟩
def iAny (K : PySem.W.Frag) (tl : TE) : TI := fun σ H R => tl σ H fun x H1 => ∃ a, x = .ref a ∧ (((∃ xs, SqL K H1 a xs) ∧ R (Itl K a) H1) ∨ ((∃ xs, SqT K H1 a xs) ∧ R (Itt K a) H1))
theorem pi_any {l : Expr} {tl : TE} (hl : PE X l tl) : PI X tg l (iAny X.K tl) := by
  constructor
  intro pins s σ H R I h
  refine thn (hl.run pins s σ H _ I h) ?_
  rintro v t ⟨x, H1, I1, r1, a, rfl, h1⟩
  cases r1
  have nx : ∀ (o : Obj) (b : Addr) (u : Obj), t.heap.get? b = some u → (t.heap.push o).get? b = some u := fun o b u e => Heap.get?_push_of_some _ e
  rcases h1 with ⟨⟨xs, hq⟩, q⟩ | ⟨⟨xs, hq⟩, q⟩
  · obtain ⟨its, rv, pl, hz⟩ := I1.list hq
    refine wpAny_pyIter_list pl.isList ⟨t.heap.objs.size, [t.heap.objs.size], _, _, H1, rfl, I1.kept (t' := t.toks) (nx _), turn_list a _, ⟨_, Heap.get?_push_size _ rfl, rfl, rfl⟩, ?_, q⟩
    intro b hb
    rw [List.mem_singleton.mp hb]
    exact I1.fpOk (Nat.le_refl _) (I1.hok.fresh (Nat.le_refl _))
  · obtain ⟨its, rv, pl, hz⟩ := I1.tuple hq
    refine wpAny_pyIter_tuple (show t.heap.IsTuple a its.toArray from pl) ⟨t.heap.objs.size, [t.heap.objs.size], _, _, H1, rfl, I1.kept (t' := t.toks) (nx _), turn_tuple a _, ⟨_, Heap.get?_push_size _ rfl, rfl, rfl⟩, ?_, q⟩
    intro b hb
    rw [List.mem_singleton.mp hb]
    exact I1.fpOk (Nat.le_refl _) (I1.hok.fresh (Nat.le_refl _))
theorem fr_rd {u : HO} {a : Addr} (f : Fr A H H1) (n : ¬ A a) (h : Rd H a u) : Rd H1 a u := by
  rcases h with h | ⟨o, h⟩
  · exact .inl (f a _ h n)
  · exact .inr ⟨o, f a _ h n⟩
theorem fr_t (E : EnvOk K S0 H0 A H σ env) (f : Fr A H H1) {a : Addr} {xs : List V} (h : SqT K H a xs) : SqT K H1 a xs := by
  rcases h with h | h
  · refine .inl (fr_rd f (fun z => ?_) h)
    obtain ⟨ys, e⟩ := E.tr a z
    rcases h with h | ⟨o, h⟩ <;> (rw [e] at h; cases h)
  · exact .inr h
/-- what is clean stands still -/
theorem RpA.fr (E : EnvOk K S0 H0 A H σ env) (f : Fr A H H1) {S : Addr → Prop} (w : ∀ a, S a → ¬ A a) {ds : List PyData} {vs : List V} (h : RpA K S H ds vs) : RpA K (fun b => S b ∧ H b ≠ none) H1 ds vs :=
  RpA.mono (fun a xs z r => ⟨⟨z, fun e => by rcases r with r | ⟨o, r⟩ <;> (rw [e] at r; cases r)⟩, fr_rd f (w a z) r⟩) (fun _ _ z => fr_t E f z) ds vs h
theorem RpA.sm (s : Same H H1) {S : Addr → Prop} {ds : List PyData} {vs : List V} (h : RpA K S H ds vs) : RpA K (fun b => S b ∧ H b ≠ none) H1 ds vs :=
  RpA.mono (fun a xs z r => ⟨⟨z, fun e => by rcases r with r | ⟨o, r⟩ <;> (rw [e] at r; cases r)⟩, same_rd s r⟩) (fun _ _ z => same_t s z) ds vs h
theorem RpA.at {S : Addr → Prop} {ds : List PyData} {vs : List V} {i : Nat} {d : PyData} {x : V} (h : RpA K S H ds vs) (e : ds[i]? = some d) (g : vs[i]? = some x) : Rp K S H d x := by
  obtain ⟨v, e1, e2⟩ := h.get e
  rw [e1] at g
  cases g
  exact e2
theorem wk_list {a : Addr} {xs : List V} {ds : List PyData} {S : Addr → Prop} : Wk K (Itl K a) (fun H => SqL K H a xs ∧ RpA K S H ds xs) S ds where
  go := fun i H g l => ⟨xs, xs[i]'(by rw [g.2.length]; exact l), g.1, by rw [List.getElem?_eq_getElem]⟩
  yld := fun i H d x H' g e y => by
    obtain ⟨rfl, y⟩ := y
    exact ⟨Same.refl _, g.2.at e (y xs g.1)⟩
  stop := fun i H g l => ⟨xs, g.1, by rw [g.2.length]; exact l⟩
theorem wk_tup {a : Addr} {xs : List V} {ds : List PyData} {S : Addr → Prop} : Wk K (Itt K a) (fun H => SqT K H a xs ∧ RpA K S H ds xs) S ds where
  go := fun i H g l => ⟨xs, xs[i]'(by rw [g.2.length]; exact l), g.1, by rw [List.getElem?_eq_getElem]⟩
  yld := fun i H d x H' g e y => by
    obtain ⟨rfl, y⟩ := y
    exact ⟨Same.refl _, g.2.at e (y xs g.1)⟩
  stop := fun i H g l => ⟨xs, g.1, by rw [g.2.length]; exact l⟩
def iSeq (f : En → Option PyData) : En → Option (List PyData) := fun env => match f env with
  | some (.list ds) => some ds
  | some (.tuple ds) => some ds
  | _ => none
theorem ci_seq {f : En → Option PyData} (h : PE X iter (tE X.K true f)) : PI X tg iter (tI X.K true (iSeq f)) := pi_w (pi_any h) fun σ H R ⟨S0, H0, A, env, ds, E, hf, q⟩ => by
  unfold iSeq at hf
  split at hf
  · rename_i es hd
    cases hf
    refine ⟨S0, H0, A, env, _, E, hd, fun v H1 s r => ?_⟩
    rw [Rp] at r
    obtain ⟨a, xs, rfl, hs, ra⟩ := r
    have ra' : RpA X.K (Cl S0 H0 A) H1 ds xs := ra.wide fun _ z => cl_sc z
    exact ⟨a, rfl, .inl ⟨⟨xs, hs.sq⟩, q _ H1 _ s (fun H2 s2 => ⟨s2.seq hs.sq, ra'.sm s2⟩) (fun _ H2 f2 => ⟨hs.imp (fun z => fr_rd f2 (cl_sc z.1).2 z.2) id, ra'.fr (E.grow s) f2 fun _ z => z.2⟩) wk_list⟩⟩
  · rename_i es hd
    cases hf
    refine ⟨S0, H0, A, env, _, E, hd, fun v H1 s r => ?_⟩
    rw [Rp] at r
    obtain ⟨a, xs, rfl, hs, ra⟩ := r
    have ra' : RpA X.K (Cl S0 H0 A) H1 ds xs := ra.wide fun _ z => cl_sc z
    exact ⟨a, rfl, .inr ⟨⟨xs, hs⟩, q _ H1 _ s (fun H2 s2 => ⟨same_t s2 hs, ra'.sm s2⟩) (fun _ H2 f2 => ⟨fr_t (E.grow s) f2 hs, ra'.fr (E.grow s) f2 fun _ z => z.2⟩) wk_tup⟩⟩
  · cases hf
/-- an owned list, walked by a comprehension -/
def iOwn (i : Nat) : En → Option (List PyData) := fun env => match env[i]? with
  | some (.own ds) => some ds
  | _ => none
theorem ci_own {i : Nat} (h : PE X iter (tVar i)) : PI X tg iter (tI X.K false (iOwn i)) := pi_w (pi_any h) fun σ H R ⟨S0, H0, A, env, ds, E, hf, q⟩ => by
  unfold iOwn at hf
  split at hf
  · rename_i es hi
    cases hf
    rcases E.sl i _ hi with z | ⟨v, h1, a, xs, rfl, ha, hh, r⟩
    · cases z
    exact ⟨_, h1, a, rfl, .inl ⟨⟨xs, .inl (.inl hh)⟩, q _ H _ (Same.refl H) (fun H2 s2 => ⟨.inl (.inl (s2 _ _ hh)), r.sm s2⟩) (fun z => nomatch z) wk_list⟩⟩
  · cases hf
/-! ranges -/
def rngD (lo : Int) (n : Nat) : List PyData := (List.range n).map fun k => .int (lo + (k : Nat))
theorem rng_len (lo : Int) (n : Nat) : (rngD lo n).length = n := by simp [rngD]
theorem rng_get {lo : Int} {n i : Nat} {d : PyData} (h : (rngD lo n)[i]? = some d) : d = .int (lo + (i : Nat)) := by
  unfold rngD at h
  rw [List.getElem?_map] at h
  cases q : (List.range n)[i]? with
  | none => rw [q] at h; cases h
  | some k =>
    rw [q] at h
    rw [List.getElem?_range (by
      obtain ⟨l, _⟩ := List.getElem?_eq_some_iff.mp q
      simpa using l)] at q
    cases q
    exact (Option.some.inj h).symm
theorem wk_rng {lo : Int} {n : Nat} {S : Addr → Prop} : Wk K (Itr lo n) (fun _ => True) S (rngD lo n) where
  go := fun i H _ l => by rw [rng_len] at l; exact l
  yld := fun i H d x H' _ e y => by
    obtain ⟨rfl, rfl⟩ := y
    rw [rng_get e]
    exact ⟨Same.refl _, by rw [Rp]⟩
  stop := fun i H _ l => by rw [rng_len] at l; exact l
def iR1 (fa : En → Option (List PyData)) : En → Option (List PyData) := fun env => match fa env with
  | some [.int j] => if j < 1000000 ∧ -1000000 < j then some (rngD 0 j.toNat) else none
  | _ => none
def iR2 (fa : En → Option (List PyData)) : En → Option (List PyData) := fun env => match fa env with
  | some [.int i, .int j] => if (j < 1000000000 ∧ -1000000000 < j) ∧ i < 1000000000 ∧ -1000000000 < i then some (rngD i (j - i).toNat) else none
  | _ => none
theorem RpA.one {S : Addr → Prop} {d : PyData} {vs : List V} (h : RpA K S H [d] vs) : ∃ v, vs = [v] ∧ Rp K S H d v := by
  rw [RpA] at h
  obtain ⟨v, r, rfl, h1, h2⟩ := h
  rw [RpA] at h2
  subst h2
  exact ⟨v, rfl, h1⟩
theorem RpA.two {S : Addr → Prop} {d e : PyData} {vs : List V} (h : RpA K S H [d, e] vs) : ∃ v u, vs = [v, u] ∧ Rp K S H d v ∧ Rp K S H e u := by
  rw [RpA] at h
  obtain ⟨v, r, rfl, h1, h2⟩ := h
  obtain ⟨u, rfl, h3⟩ := h2.one
  exact ⟨v, u, rfl, h1, h3⟩
theorem ci_r1 {c : Bool} {fa : En → Option (List PyData)} (h : PI X tg iter (iRng1 (tA X.K c fa))) : PI X tg iter (tI X.K true (iR1 fa)) := pi_w h fun σ H R ⟨S0, H0, A, env, ds, E, hf, q⟩ => by
  unfold iR1 at hf
  split at hf
  · rename_i j hd
    split at hf
    · rename_i hj
      cases hf
      refine ⟨S0, H0, A, env, _, E, hd, fun vs H1 s r => ?_⟩
      obtain ⟨v, rfl, r1⟩ := r.one
      rw [Rp] at r1
      subst r1
      exact ⟨j, rfl, by omega, by omega, q _ H1 _ s (fun _ _ => trivial) (fun _ _ _ => trivial) wk_rng⟩
    · cases hf
  · cases hf
theorem ci_r2 {c : Bool} {fa : En → Option (List PyData)} (h : PI X tg iter (iRng2 (tA X.K c fa))) : PI X tg iter (tI X.K true (iR2 fa)) := pi_w h fun σ H R ⟨S0, H0, A, env, ds, E, hf, q⟩ => by
  unfold iR2 at hf
  split at hf
  · rename_i i j hd
    split at hf
    · rename_i hj
      cases hf
      refine ⟨S0, H0, A, env, _, E, hd, fun vs H1 s r => ?_⟩
      obtain ⟨v, u, rfl, r1, r2⟩ := r.two
      rw [Rp] at r1 r2
      subst r1 r2
      exact ⟨i, j, rfl, ⟨by omega, by omega, by omega, by omega⟩, q _ H1 _ s (fun _ _ => trivial) (fun _ _ _ => trivial) wk_rng⟩
    · cases hf
  · cases hf

/-! ### for, while -/
def loopF (g : PyData → En → Option En) (b : En → Out) : List PyData → En → Out
  | [], e => .nx e
  | d :: ds, e => match g d e with
    | none => .bad
    | some e1 => match b e1 with
      | .nx e2 => loopF g b ds e2
      | .ct e2 => loopF g b ds e2
      | .bk e2 => .nx e2
      | .rt v => .rt v
      | .bad => .bad
def sFor (f : En → Option (List PyData)) (g : PyData → En → Option En) (b : En → Out) : En → Out := fun env => match f env with
  | some ds => loopF g b ds env
  | none => .bad
theorem for_run {f : En → Option (List PyData)} {g : PyData → En → Option En} {b : En → Out} {vs : List Nat} {D : Ends} (h : tS K (sFor f g b) D σ H) : tFor (tI K true f) (tG K vs g) (tS K b) D σ H := by
  obtain ⟨S0, H0, A, env, E, o⟩ := h
  unfold sFor at o
  cases hd : f env with
  | none => rw [hd] at o; exact o.elim
  | some ds =>
    rw [hd] at o
    refine ⟨S0, H0, A, env, ds, E, hd, fun J H1 G s _ gF wk => ?_⟩
    refine ⟨fun i m σ' H' => m = ds.length - i ∧ i ≤ ds.length ∧ ∃ A' env', EnvOk K S0 H0 A' H' σ' env' ∧ Fr A H1 H' ∧ Sb A H1 A' ∧ OutOk K S0 H0 A' H' (loopF g b (ds.drop i) env') D,
      ⟨_, rfl, Nat.zero_le _, A, env, E.grow s, Fr.refl, Sb.refl, OutOk.step o (Fr.of_same s) Sb.refl⟩, ?_⟩
    rintro i m σ' H' ⟨rfl, hi, A', env', E', f', b', o'⟩
    by_cases hlt : i < ds.length
    · have hdr : ds.drop i = ds[i] :: ds.drop (i + 1) := List.drop_eq_getElem_cons hlt
      rw [hdr] at o'
      refine .inr ⟨wk.go i H' (gF rfl H' f') hlt, fun σ2 H2 => ∃ A2 e2, EnvOk K S0 H0 A2 H2 σ2 e2 ∧ Fr A H1 H2 ∧ Sb A H1 A2 ∧ OutOk K S0 H0 A2 H2 (loopF g b (ds.drop (i + 1)) e2) D, ?_, fun x Hx y => ?_⟩
      · rintro σ2 H2 ⟨A2, e2, z⟩
        exact ⟨ds.length - (i + 1), by omega, rfl, hlt, A2, e2, z⟩
      · obtain ⟨sx, rx⟩ := wk.yld i H' _ x Hx (gF rfl H' f') (List.getElem?_eq_getElem hlt) y
        have rx' : Rp K (Cl S0 H0 A') Hx ds[i] x := rx.wide fun a z => ⟨z.1.1, fun y => by
          rcases b' a y with k | k
          · exact z.1.2 k
          · exact z.2 k⟩
        simp only [loopF] at o'
        cases hg : g ds[i] env' with
        | none => rw [hg] at o'; exact o'.elim
        | some e1 =>
          rw [hg] at o'
          refine ⟨S0, H0, A', env', _, e1, E'.grow sx, rx', hg, fun σ1 E1 _ => ⟨S0, H0, A', e1, E1, ?_⟩⟩
          have fs : Fr A' H' Hx := Fr.of_same sx
          cases hb : b e1 with
          | nx e2 =>
            simp only [hb] at o'
            exact fun A2 H2 σ2 E2 f2 b2 => ⟨A2, e2, E2, f'.trans b' (fs.trans Sb.refl f2), Sb.trans f' b' (Sb.trans fs Sb.refl b2), OutOk.step o' (fs.trans Sb.refl f2) (Sb.trans fs Sb.refl b2)⟩
          | ct e2 =>
            simp only [hb] at o'
            exact fun A2 H2 σ2 E2 f2 b2 => ⟨A2, e2, E2, f'.trans b' (fs.trans Sb.refl f2), Sb.trans f' b' (Sb.trans fs Sb.refl b2), OutOk.step o' (fs.trans Sb.refl f2) (Sb.trans fs Sb.refl b2)⟩
          | bk e2 =>
            simp only [hb] at o'
            exact fun A2 H2 σ2 E2 f2 b2 => o' A2 H2 σ2 E2 (fs.trans Sb.refl f2) (Sb.trans fs Sb.refl b2)
          | rt v => simp only [hb] at o'; exact o'
          | bad => simp only [hb] at o'; exact o'
    · have hdr : ds.drop i = [] := List.drop_eq_nil_of_le (by omega)
      rw [hdr] at o'
      exact .inl ⟨wk.stop i H' (gF rfl H' f') (by omega), o' A' H' σ' E' Fr.refl Sb.refl⟩
def whlF (c : En → Option Bool) (b : En → Out) : Nat → En → Out
  | 0, _ => .bad
  | n + 1, e => match c e with
    | none => .bad
    | some false => .nx e
    | some true => match b e with
      | .nx e2 => whlF c b n e2
      | .ct e2 => whlF c b n e2
      | .bk e2 => .nx e2
      | .rt v => .rt v
      | .bad => .bad
theorem while_run {c : En → Option Bool} {b : En → Out} {n : Nat} {D : Ends} (h : tS K (whlF c b n) D σ H) : tWhile (tT K c) (tS K b) D σ H := by
  obtain ⟨S0, H0, A, env, E, o⟩ := h
  refine ⟨fun m σ' H' => ∃ A' env', EnvOk K S0 H0 A' H' σ' env' ∧ Fr A H H' ∧ Sb A H A' ∧ OutOk K S0 H0 A' H' (whlF c b m env') D, ⟨n, A, env, E, Fr.refl, Sb.refl, o⟩, ?_⟩
  rintro m σ' H' ⟨A', env', E', f', b', o'⟩
  cases m with
  | zero => exact o'.elim
  | succ m =>
    simp only [whlF] at o'
    cases hc : c env' with
    | none => rw [hc] at o'; exact o'.elim
    | some k =>
      rw [hc] at o'
      refine ⟨S0, H0, A', env', k, E', hc, fun H2 s2 => ?_⟩
      have fs : Fr A' H' H2 := Fr.of_same s2
      cases k with
      | false => exact iteF (o' A' H2 σ' (E'.grow s2) fs Sb.refl)
      | true =>
        refine iteT ⟨fun σ3 H3 => ∃ A3 e3, EnvOk K S0 H0 A3 H3 σ3 e3 ∧ Fr A H H3 ∧ Sb A H A3 ∧ OutOk K S0 H0 A3 H3 (whlF c b m e3) D, ?_, S0, H0, A', env', E'.grow s2, ?_⟩
        · rintro σ3 H3 ⟨A3, e3, z⟩
          exact ⟨m, Nat.lt_succ_self m, A3, e3, z⟩
        · cases hb : b env' with
          | nx e2 =>
            simp only [hb] at o'
            exact fun A2 H3 σ2 E2 f2 b2 => ⟨A2, e2, E2, f'.trans b' (fs.trans Sb.refl f2), Sb.trans f' b' (Sb.trans fs Sb.refl b2), OutOk.step o' (fs.trans Sb.refl f2) (Sb.trans fs Sb.refl b2)⟩
          | ct e2 =>
            simp only [hb] at o'
            exact fun A2 H3 σ2 E2 f2 b2 => ⟨A2, e2, E2, f'.trans b' (fs.trans Sb.refl f2), Sb.trans f' b' (Sb.trans fs Sb.refl b2), OutOk.step o' (fs.trans Sb.refl f2) (Sb.trans fs Sb.refl b2)⟩
          | bk e2 =>
            simp only [hb] at o'
            exact fun A2 H3 σ2 E2 f2 b2 => o' A2 H3 σ2 E2 (fs.trans Sb.refl f2) (Sb.trans fs Sb.refl b2)
          | rt v => simp only [hb] at o'; exact o'
          | bad => simp only [hb] at o'; exact o'
variable {st : Stmt} {f : En → Option (List PyData)} {g : PyData → En → Option En} {b : En → Out} {vs : List Nat}
theorem cs_for {body : List Stmt} (hp : PassesOwn (model X.prog X.w) X.A X.env X.xe) (hc : X.calm = true) (hi : PI X tg iter (tI X.K true f)) (hg : PG X tg (tG X.K vs g)) (hb : PSs X body (tS X.K b)) (hs : ∀ x, foldedSetIterable iter X.env x = pure x := by intro _; rfl) :
    PS X (.For tg iter body [] pos) (tS X.K (sFor f g b)) := ps_w (ps_for hp hc hi hg hb hs) fun _ _ _ q => for_run q
theorem cs_while {body : List Stmt} {c : En → Option Bool} (n : Nat) (hp : PassesOwn (model X.prog X.w) X.A X.env X.xe) (hc : PT X e (tT X.K c)) (hb : PSs X body (tS X.K b)) : PS X (.While e body [] pos) (tS X.K (whlF c b n)) := ps_w (ps_while hp hc hb) fun _ _ _ q => while_run q
/-- a, b, .. = e -/
def sUnp (f : En → Option PyData) (g : PyData → En → Option En) : En → Out := fun env => match f env with
  | some d => match g d env with
    | some e => .nx e
    | none => .bad
  | none => .bad
theorem cs_unp {fe : En → Option PyData} (h : PS X st (tAsg (tE X.K true fe) (tG X.K vs g))) : PS X st (tS X.K (sUnp fe g)) := ps_w h fun D σ H ⟨S0, H0, A, env, E, o⟩ => by
  unfold sUnp at o
  cases hd : fe env with
  | none => rw [hd] at o; exact o.elim
  | some d =>
    simp only [hd] at o
    cases hg : g d env with
    | none => simp only [hg] at o; exact o.elim
    | some e =>
      simp only [hg] at o
      exact ⟨S0, H0, A, env, d, E, hd, fun v H1 s r => ⟨S0, H0, A, env, d, e, E.grow s, r.wide fun _ z => cl_sc z, hg, fun σ' E' _ => o A H1 σ' E' (Fr.of_same s) Sb.refl⟩⟩

/-! ### comprehensions -/
def wipeE : En → List Nat → En
  | env, [] => env
  | env, i :: is => (wipeE env is).set i .un
theorem EnvOk.un (E : EnvOk K S0 H0 A H σ env) (i : Nat) (o : Option V) : EnvOk K S0 H0 A H (σ.set i o) (env.set i .un) where
  len := by simp [E.len]
  sl := fun j s q => by
    rcases set_get q with ⟨rfl, l, rfl⟩ | ⟨n, q⟩
    · exact .inl rfl
    · rw [set_other n]
      exact E.sl j s q
  dis := fun j k ds es a q1 q2 q3 q4 => by
    rcases set_get q1 with ⟨_, _, z⟩ | ⟨n1, q1⟩
    · cases z
    rcases set_get q2 with ⟨_, _, z⟩ | ⟨n2, q2⟩
    · cases z
    rw [set_other n1] at q3
    rw [set_other n2] at q4
    exact E.dis j k ds es a q1 q2 q3 q4
  tr := E.tr
  nw := E.nw
  same := E.same
theorem EnvOk.wipe (E : EnvOk K S0 H0 A H σ env) : ∀ is : List Nat, EnvOk K S0 H0 A H (L2.wipe σ is) (wipeE env is)
  | [] => E
  | i :: is => EnvOk.un (EnvOk.wipe E is) i none
/-- a new list that no slot keeps -/
theorem EnvOk.add (E : EnvOk K S0 H0 A H σ env) {xs : List V} {p : Addr} (hs : Same H H1) (hn : H p = none) (hp : H1 p = some (.lst xs)) : EnvOk K S0 H0 (fun a => A a ∨ a = p) H1 σ env where
  len := E.len
  sl := fun j s q => by
    refine (E.sl j s q).imp id fun ⟨v, h1, h2⟩ => ⟨v, h1, ?_⟩
    have hL : ∀ a ys, Cl S0 H0 A a → Rd H a (.lst ys) → Cl S0 H0 (fun a => A a ∨ a = p) a ∧ Rd H1 a (.lst ys) := fun a ys z r => ⟨⟨z.1, fun y => by
      rcases y with y | y
      · exact z.2 y
      · subst y
        rcases r with r | ⟨o, r⟩ <;> (rw [hn] at r; cases r)⟩, same_rd hs r⟩
    cases s with
    | un => trivial
    | val d => exact Rp.mono hL (fun _ _ z => same_t hs z) d v h2
    | own es =>
      obtain ⟨a, ys, e1, ha, hh, r⟩ := h2
      exact ⟨a, ys, e1, .inl ha, hs _ _ hh, RpA.mono hL (fun _ _ z => same_t hs z) es ys r⟩
  dis := E.dis
  tr := fun a h => by
    rcases h with h | rfl
    · obtain ⟨ys, q⟩ := E.tr a h
      exact ⟨ys, hs _ _ q⟩
    · exact ⟨xs, hp⟩
  nw := fun a h => by
    rcases h with h | rfl
    · exact E.nw a h
    · exact E.same.free hn
  same := E.same.trans hs
def compF (g : PyData → En → Option En) (ga : En → Option Bool) (fe : En → Option PyData) (env : En) : List PyData → Option (List PyData)
  | [] => some []
  | d :: ds => match g d env with
    | none => none
    | some e1 => match ga e1 with
      | none => none
      | some false => compF g ga fe env ds
      | some true => match fe e1 with
        | none => none
        | some v => match compF g ga fe env ds with
          | none => none
          | some vs => some (v :: vs)
def fCmp (is : List Nat) (f : En → Option (List PyData)) (g : PyData → En → Option En) (ga : En → Option Bool) (fe : En → Option PyData) : En → Option (List PyData) := fun env => match f env with
  | none => none
  | some ds => match compF g ga fe (wipeE env is) ds with
    | none => none
    | some vs => if vs.length ≤ 1000000 then some vs else none
def tYes' : En → Option Bool := fun _ => some true
theorem yes_run {Q : Bool → Hp → Prop} (h : tT K tYes' σ H Q) : tYes σ H Q := by
  obtain ⟨S0, H0, A, env, b, E, hb, q⟩ := h
  cases hb
  exact q H (Same.refl H)
theorem RpA.updD {S : Addr → Prop} {p : Addr} {xs ys : List V} {ds : List PyData} {vs : List V} (h : RpA K (fun a => S a ∧ a ≠ p) H ds vs) (hp : H p = some (.lst xs)) : RpA K (fun a => S a ∧ a ≠ p) (upd H p (.lst ys)) ds vs :=
  RpA.mono (fun a zs z r => ⟨z, by
    rcases r with r | ⟨o, r⟩
    · exact .inl (by rw [upd_ne z.2]; exact r)
    · exact .inr ⟨o, by rw [upd_ne z.2]; exact r⟩⟩) (fun a zs r => by
    rcases r with (r | ⟨o, r⟩) | r
    · exact .inl (.inl (by rw [upd_ne (fun e => by subst e; rw [hp] at r; cases r)]; exact r))
    · exact .inl (.inr ⟨o, by rw [upd_ne (fun e => by subst e; rw [hp] at r; cases r)]; exact r⟩)
    · exact .inr r) ds vs h
theorem lc_run {c c2 : Bool} {ga : En → Option Bool} {fe : En → Option PyData} {is : List Nat} {tt : TT} {Q : VK} (ht : ∀ σ H Q, tT K ga σ H Q → tt σ H Q) (h : tF K c2 (fCmp is f g ga fe) σ H Q) : tLc (tI K c f) (tG K is g) tt (tE K true fe) is σ H Q := by
  obtain ⟨S0, H0, A, env, res, E, hf, q⟩ := h
  unfold fCmp at hf
  cases hd : f env with
  | none => rw [hd] at hf; cases hf
  | some ds =>
    simp only [hd] at hf
    cases hc : compF g ga fe (wipeE env is) ds with
    | none => simp only [hc] at hf; cases hf
    | some vs =>
      simp only [hc] at hf
      split at hf
      · rename_i hlen
        cases hf
        refine ⟨S0, H0, A, env, ds, E, hd, fun J H1 G s gS _ wk D hD => ?_⟩
        have E1 := E.grow s
        refine ⟨fun i m H2 => m = ds.length - i ∧ i ≤ ds.length ∧ Same H1 H2 ∧ ∃ acc accD rest, H2 D = some (.lst acc) ∧ RpA K (fun a => Cl S0 H0 A a ∧ a ≠ D) H2 accD acc ∧ compF g ga fe (wipeE env is) (ds.drop i) = some rest ∧ accD ++ rest = res,
          ⟨_, rfl, Nat.zero_le _, same_new hD, [], [], res, upd_same, RpA.nil, hc, rfl⟩, ?_⟩
        rintro i m H2 ⟨rfl, hi, s2, acc, accD, rest, hacc, racc, hrest, hres⟩
        by_cases hlt : i < ds.length
        · have hdr : ds.drop i = ds[i] :: ds.drop (i + 1) := List.drop_eq_getElem_cons hlt
          rw [hdr] at hrest
          refine .inr ⟨wk.go i H2 (gS H2 s2) hlt, fun H3 => Same H1 H3 ∧ ∃ acc accD rest, H3 D = some (.lst acc) ∧ RpA K (fun a => Cl S0 H0 A a ∧ a ≠ D) H3 accD acc ∧ compF g ga fe (wipeE env is) (ds.drop (i + 1)) = some rest ∧ accD ++ rest = res, ?_, fun x Hx y => ?_⟩
          · rintro H3 ⟨s3, z⟩
            exact ⟨ds.length - (i + 1), by omega, rfl, hlt, s3, z⟩
          · obtain ⟨sx, rx⟩ := wk.yld i H2 _ x Hx (gS H2 s2) (List.getElem?_eq_getElem hlt) y
            have E2 : EnvOk K S0 H0 (fun a => A a ∨ a = D) Hx (L2.wipe σ is) (wipeE env is) := (E1.wipe is).add (s2.trans sx) hD (sx _ _ hacc)
            have rx' : Rp K (Cl S0 H0 (fun a => A a ∨ a = D)) Hx ds[i] x := rx.wide fun a z => ⟨z.1.1, fun y => by
              rcases y with k | k
              · exact z.1.2 k
              · exact z.2 (by rw [k]; exact hD)⟩
            simp only [compF] at hrest
            cases hg : g ds[i] (wipeE env is) with
            | none => rw [hg] at hrest; cases hrest
            | some e1 =>
              simp only [hg] at hrest
              refine ⟨S0, H0, _, _, _, e1, E2, rx', hg, fun σ2 E3 w3 => ⟨by rw [w3, wipe_wipe], ht _ _ _ ?_⟩⟩
              cases hga : ga e1 with
              | none => simp only [hga] at hrest; cases hrest
              | some k =>
                refine ⟨S0, H0, _, e1, k, E3, hga, fun H3 s3 => ?_⟩
                cases k with
                | false =>
                  simp only [hga] at hrest
                  exact iteF ⟨(s2.trans sx).trans s3, acc, accD, rest, s3 _ _ (sx _ _ hacc), (racc.grow sx).grow s3, hrest, hres⟩
                | true =>
                  simp only [hga] at hrest
                  cases hfe : fe e1 with
                  | none => simp only [hfe] at hrest; cases hrest
                  | some v =>
                    simp only [hfe] at hrest
                    cases hr2 : compF g ga fe (wipeE env is) (ds.drop (i + 1)) with
                    | none => simp only [hr2] at hrest; cases hrest
                    | some rest2 =>
                      simp only [hr2] at hrest
                      cases hrest
                      refine iteT ⟨S0, H0, _, e1, v, E3.grow s3, hfe, fun y H4 s4 r4 => ?_⟩
                      have h4 := s4 _ _ (s3 _ _ (sx _ _ hacc))
                      have r4' : Rp K (fun a => Cl S0 H0 A a ∧ a ≠ D) H4 v y := r4.wide fun a z => ⟨⟨(cl_sc z).1, fun k => (cl_sc z).2 (.inl k)⟩, fun k => (cl_sc z).2 (.inr k)⟩
                      have al : acc.length < sizeLine := by
                        rw [racc.length]
                        have : accD.length < res.length := by rw [← hres]; simp
                        exact Nat.lt_of_lt_of_le this (sz6 hlen)
                      refine ⟨acc, h4, al, fun b u e => ?_, acc ++ [y], accD ++ [v], rest2, upd_same, ?_, rfl, by rw [← hres]; simp⟩
                      · rw [upd_ne (ne_of_none e hD)]
                        exact s4 _ _ (s3 _ _ (sx _ _ (s2 _ _ e)))
                      · exact RpA.updD ((((racc.grow sx).grow s3).grow s4).append (RpA.cons r4' RpA.nil)) h4
        · have hdr : ds.drop i = [] := List.drop_eq_nil_of_le (by omega)
          rw [hdr] at hrest
          cases hrest
          rw [List.append_nil] at hres
          subst hres
          exact .inl ⟨wk.stop i H2 (gS H2 s2) (by omega), q D acc H2 (s.free hD) (s.trans s2) hacc (racc.wide fun a z => ⟨fun _ => z.1, z.2⟩)⟩
      · cases hf
theorem cf_lc {c c2 : Bool} {ga : En → Option Bool} {fe : En → Option PyData} {is : List Nat} (h : PE X e (tLc (tI X.K c f) (tG X.K is g) (tT X.K ga) (tE X.K true fe) is)) : PE X e (tF X.K c2 (fCmp is f g ga fe)) := pe_w h fun _ _ _ q => lc_run (fun _ _ _ z => z) q
theorem cf_lc1 {c c2 : Bool} {fe : En → Option PyData} {is : List Nat} (h : PE X e (tLc (tI X.K c f) (tG X.K is g) tYes (tE X.K true fe) is)) : PE X e (tF X.K c2 (fCmp is f g tYes' fe)) := pe_w h fun _ _ _ q => lc_run (fun _ _ _ z => yes_run z) q
theorem cs_lcO {i : Nat} {c : Bool} {ga : En → Option Bool} {fe : En → Option PyData} {is : List Nat} (h : PS X st (tAsg (tLc (tI X.K c f) (tG X.K is g) (tT X.K ga) (tE X.K true fe) is) (gName i))) : PS X st (tS X.K (sOwn i (fCmp is f g ga fe))) :=
  ps_w h fun D σ H q => lc_run (c2 := true) (fun _ _ _ z => z) (own_run q)
theorem cs_lcO1 {i : Nat} {c : Bool} {fe : En → Option PyData} {is : List Nat} (h : PS X st (tAsg (tLc (tI X.K c f) (tG X.K is g) tYes (tE X.K true fe) is) (gName i))) : PS X st (tS X.K (sOwn i (fCmp is f g tYes' fe))) :=
  ps_w h fun D σ H q => lc_run (c2 := true) (fun _ _ _ z => yes_run z) (own_run q)
end
end Mir

namespace Mir
open PySem PySem.Spec PyProof.Rows L2

/-! ### a def -/
def spF (K : PySem.W.Frag) (g : List PyData → Option PyData) : Sp := fun vs H Q _ => ∃ S ds d, RpA K S H ds vs ∧ g ds = some d ∧ ∀ v H', Same H H' → Rp K (Bd S H) H' d v → Q v H'
def env0 (nN : Nat) (ds : List PyData) : En := ds.map .val ++ List.replicate (nN - ds.length) .un
def outD : Out → Option PyData
  | .rt d => some d
  | .nx _ => some .none
  | _ => none
def gDef (np nN : Nat) (fB : En → Out) : List PyData → Option PyData := fun ds => if ds.length = np then outD (fB (env0 nN ds)) else none
section
variable {K : PySem.W.Frag}
theorem def_run {N : List Str} {np : Nat} {fB : En → Out} {vs : List V} {H : Hp} {Q : VK} {E : XK} (h : spF K (gDef np N.length fB) vs H Q E) : tS K fB { nx := fun _ H' => Q .non H', rt := Q } (L2.start N vs) H := by
  obtain ⟨S, ds, d, r, hg, q⟩ := h
  unfold gDef at hg
  split at hg
  · refine ⟨S, H, fun _ => False, env0 N.length ds, ⟨?_, fun i s e => ?_, fun i j es fs a e1 => ?_, fun _ z => z.elim, fun _ z => z.elim, Same.refl H⟩, ?_⟩
    · simp [L2.start, env0, r.length]
    · unfold env0 at e
      by_cases hi : i < ds.length
      · rw [List.getElem?_append_left (by simpa using hi), List.getElem?_map, List.getElem?_eq_getElem hi] at e
        cases e
        obtain ⟨v, e1, e2⟩ := r.get (List.getElem?_eq_getElem hi)
        refine .inr ⟨v, ?_, e2.wide fun a z => ⟨.inl z, fun y => y⟩⟩
        unfold L2.start
        rw [List.getElem?_append_left (by simpa [r.length] using hi), List.getElem?_map, e1]
        rfl
      · rw [List.getElem?_append_right (by simpa using Nat.le_of_not_lt hi)] at e
        exact .inl (List.eq_of_mem_replicate (List.mem_of_getElem? e))
    · exfalso
      unfold env0 at e1
      by_cases hi : i < ds.length
      · rw [List.getElem?_append_left (by simpa using hi), List.getElem?_map, List.getElem?_eq_getElem hi] at e1
        cases e1
      · rw [List.getElem?_append_right (by simpa using Nat.le_of_not_lt hi)] at e1
        cases (List.eq_of_mem_replicate (List.mem_of_getElem? e1))
    · cases ho : fB (env0 N.length ds) with
      | rt v =>
        rw [ho] at hg
        cases hg
        exact q
      | nx e =>
        rw [ho] at hg
        cases hg
        exact fun A' H' σ' E' _ _ => q _ H' E'.same (by rw [Rp])
      | bk e => rw [ho] at hg; cases hg
      | ct e => rw [ho] at hg; cases hg
      | bad => rw [ho] at hg; cases hg
  · cases hg
variable {P : Program} {w : World} {mg : Str → Option Value} {base : Heap}
theorem fn_ok {x qual : Str} {st : Stmt} {f : Addr} {fd : FuncData} {N ps : List Str} {k np nN : Nat} {fB : En → Out} {g : List PyData → Option PyData} (F : Fun K x qual st f fd) (S : FnScope N ps (defScope st)) (hp : np = ps.length) (hN : nN = N.length) (hg : g = gDef np nN fB)
    (hb : ∀ (cdv : Value) (A : Around) (outer : List Env) (s : Shared) (H : Hp) (E : XK), Room k (A.deeper (envOfC qual (defScope st) s.heap.objs.size f cdv)) → PSs (cxOf CX0 P w K mg base N qual (defScope st) f cdv A outer s H E).nox (defBody st) (tS K fB)) :
    FnOk P w K mg base CX0 (k + 1) f fd ps (spF K g) := by
  subst hp hN hg
  refine F.ok S (fun vs H Q E h => ?_) fun cdv A outer s H vs Q E hr h => ⟨_, hb cdv A outer s H E hr, def_run h⟩
  obtain ⟨S', ds, d, r, hg, _⟩ := h
  unfold gDef at hg
  split at hg
  · rw [r.length]; assumption
  · cases hg
theorem fn_imp {k : Nat} {f : Addr} {fd : FuncData} {ps : List Str} {g g' : List PyData → Option PyData} (F : FnOk P w K mg base CX0 k f fd ps (spF K g)) (h : ∀ ds d, g' ds = some d → g ds = some d) : FnOk P w K mg base CX0 k f fd ps (spF K g') :=
  F.imp fun vs H Q E ⟨S, ds, d, r, hg, q⟩ => ⟨S, ds, d, r, h ds d hg, q⟩
end

/-! ### calls -/
def eCall (g : List PyData → Option PyData) (fa : En → Option (List PyData)) : En → Option PyData := fun env => match fa env with
  | some ds => g ds
  | none => none
section
variable {X : Cx} {a b e : Expr} {es : List Expr} {pos p : Pos} {x : Str} {c c1 c2 : Bool} {f g : En → Option PyData} {fa : En → Option (List PyData)} {fb : En → Option Bool}
theorem bd_sc {K : PySem.W.Frag} {S0 A : Addr → Prop} {H0 H : Hp} {σ : L2.St} {env : En} (E : EnvOk K S0 H0 A H σ env) {c : Bool} {a : Addr} (h : Bd (Cl S0 H0 A) H a) : SC c S0 H0 A a := fun _ => by
  rcases h with h | h
  · exact h
  · exact cl_new E h
theorem call_run {K : PySem.W.Frag} {σ : L2.St} {H : Hp} {Q : VK} {E : XK} {gd : List PyData → Option PyData} (h : tE K c (eCall gd fa) σ H Q) : tCall (spF K gd) [] E (tA K true fa) σ H Q := by
  obtain ⟨S0, H0, A, env, d, En, hf, q⟩ := h
  unfold eCall at hf
  cases hd : fa env with
  | none => rw [hd] at hf; cases hf
  | some ds =>
    simp only [hd] at hf
    refine ⟨S0, H0, A, env, ds, En, hd, fun vs H1 s r => ?_⟩
    show spF K gd (vs ++ []) H1 Q E
    rw [List.append_nil]
    exact ⟨Cl S0 H0 A, ds, d, r.wide fun _ z => cl_sc z, hf, fun v H2 s2 r2 => q v H2 (s.trans s2) (r2.wide fun _ z => bd_sc (En.grow s) z)⟩
theorem callB_run {K : PySem.W.Frag} {σ : L2.St} {H : Hp} {Q : VK} {E : XK} {gd : List PyData → Option PyData} (h : tE K c (eN (eCall gd fa)) σ H Q) : tCall (spF K gd) [] E (tA K false fa) σ H Q := by
  obtain ⟨S0, H0, A, env, d, En, hf, q⟩ := h
  unfold eN at hf
  cases hc : eCall gd fa env with
  | none => rw [hc] at hf; cases hf
  | some d' =>
    rw [hc] at hf
    have hf' : (if noL d' = true then some d' else none) = some d := hf
    by_cases n : noL d' = true
    · rw [if_pos n] at hf'
      cases hf'
      unfold eCall at hc
      cases hd : fa env with
      | none => rw [hd] at hc; cases hc
      | some ds =>
        simp only [hd] at hc
        refine ⟨S0, H0, A, env, ds, En, hd, fun vs H1 s r => ?_⟩
        show spF K gd (vs ++ []) H1 Q E
        rw [List.append_nil]
        exact ⟨_, ds, d, r, hc, fun v H2 s2 r2 => q v H2 (s.trans s2) (Rp.noL d v n r2)⟩
    · rw [if_neg n] at hf'; cases hf'
variable {E : XK} {gd : List PyData → Option PyData}
theorem ce_call (h : PE X e (tCall (spF X.K gd) [] E (tA X.K true fa))) : PE X e (tE X.K c (eCall gd fa)) := pe_w h fun _ _ _ q => call_run q
theorem ce_callB (h : PE X e (tCall (spF X.K gd) [] E (tA X.K false fa))) : PE X e (tE X.K c (eN (eCall gd fa))) := pe_w h fun _ _ _ q => callB_run q
theorem ce_call0 (h : PE X e (tCall (spF X.K gd) [] E tNil)) : PE X e (tE X.K c (eCall gd aNil)) := pe_w h fun σ H Q q => by
  obtain ⟨S0, H0, A, env, ds, En, hd, q⟩ := call_run (E := E) q
  cases hd
  exact q [] H (Same.refl H) RpA.nil

/-! ### built-ins called -/
def CROk (K : PySem.W.Frag) (sc : Bool) (r : List V → Hp → VK → Prop) (h : List PyData → Option PyData) : Prop := ∀ (S S' : Addr → Prop) (H : Hp) (vs : List V) (ds : List PyData) (d : PyData) (Q : VK), (∀ p, H p = none → S p) → (sc = true ∨ S' = S) → RpA K S H ds vs → h ds = some d →
  (∀ v H', Same H H' → Rp K S' H' d v → Q v H') → r vs H Q
theorem cb_run {K : PySem.W.Frag} {sc : Bool} {r : List V → Hp → VK → Prop} {h : List PyData → Option PyData} (R : CROk K sc r h) (hc : sc = true ∨ c2 = c1) {σ : L2.St} {H : Hp} {Q : VK} (q : tE K c2 (eCall h fa) σ H Q) : tCB r (tA K c1 fa) σ H Q := by
  obtain ⟨S0, H0, A, env, d, E, hf, q⟩ := q
  unfold eCall at hf
  cases hd : fa env with
  | none => rw [hd] at hf; cases hf
  | some ds =>
    simp only [hd] at hf
    exact ⟨S0, H0, A, env, ds, E, hd, fun vs H1 s1 r1 => R (SC c1 S0 H0 A) (SC c2 S0 H0 A) H1 vs ds d Q (fun p hp => sc_new (E.grow s1) hp) (hc.imp id fun z => by rw [z]) r1 hf fun v H2 s2 r2 => q v H2 (s1.trans s2) r2⟩
theorem ce_cb {sc : Bool} {r : List V → Hp → VK → Prop} {h : List PyData → Option PyData} (R : CROk X.K sc r h) (he : PE X e (tCB r (tA X.K c1 fa))) (hc : sc = true ∨ c2 = c1 := by first | exact .inl rfl | exact .inr rfl) : PE X e (tE X.K c2 (eCall h fa)) := pe_w he fun _ _ _ q => cb_run R hc q
theorem rp1 {K : PySem.W.Frag} {S : Addr → Prop} {H : Hp} {i : Int} : Rp K S H (.int i) (.int i) := by rw [Rp]
theorem rpb {K : PySem.W.Frag} {S : Addr → Prop} {H : Hp} {i : Bool} : Rp K S H (.bool i) (.bl i) := by rw [Rp]
theorem rps {K : PySem.W.Frag} {S : Addr → Prop} {H : Hp} {i : Str} : Rp K S H (.str i) (.str i) := by rw [Rp]
def lenA : List PyData → Option PyData
  | [.list ds] => some (.int ds.length)
  | [.tuple ds] => some (.int ds.length)
  | [.str x] => if x.length ≤ 1000000 then some (.int x.length) else none
  | _ => none
theorem cr_len {K : PySem.W.Frag} : CROk K true (fun xs H Q => ∃ x n, xs = [x] ∧ LenV K x H n ∧ Q (.int n) H) lenA := by
  intro S S' H vs ds d Q _ _ r h q
  unfold lenA at h
  split at h
  · cases h
    replace r := r.one
    obtain ⟨v, rfl, r⟩ := r
    rw [Rp] at r
    obtain ⟨a, xs, rfl, hs, ra⟩ := r
    exact ⟨_, _, rfl, .inl ⟨xs, hs.sq, rfl⟩, q _ H (Same.refl H) (by rw [ra.length]; exact rp1)⟩
  · cases h
    replace r := r.one
    obtain ⟨v, rfl, r⟩ := r
    rw [Rp] at r
    obtain ⟨a, xs, rfl, hs, ra⟩ := r
    exact ⟨_, _, rfl, .inr ⟨xs, hs, rfl⟩, q _ H (Same.refl H) (by rw [ra.length]; exact rp1)⟩
  · split at h
    · rename_i hl
      cases h
      replace r := r.one
      obtain ⟨v, rfl, r⟩ := r
      rw [Rp] at r
      subst r
      exact ⟨_, _, rfl, ⟨sz6 hl, rfl⟩, q _ H (Same.refl H) rp1⟩
    · cases h
  · cases h
def intA : List PyData → Option PyData
  | [.int i] => some (.int i)
  | [.bool k] => some (.int (if k then 1 else 0))
  | _ => none
theorem cr_int {K : PySem.W.Frag} : CROk K true (fun xs H Q => (∃ i, xs = [.int i] ∧ Q (.int i) H) ∨ ∃ k, xs = [.bl k] ∧ Q (.int (if k then 1 else 0)) H) intA := by
  intro S S' H vs ds d Q _ _ r h q
  unfold intA at h
  split at h
  · cases h
    replace r := r.one
    obtain ⟨v, rfl, r⟩ := r
    rw [Rp] at r
    subst r
    exact .inl ⟨_, rfl, q _ H (Same.refl H) rp1⟩
  · cases h
    replace r := r.one
    obtain ⟨v, rfl, r⟩ := r
    rw [Rp] at r
    subst r
    exact .inr ⟨_, rfl, q _ H (Same.refl H) rp1⟩
  · cases h
def tupA : List PyData → Option PyData
  | [.list ds] => some (.tuple ds)
  | [.tuple ds] => some (.tuple ds)
  | _ => none
theorem cr_tup {K : PySem.W.Frag} : CROk K false (fun xs H Q => ∃ p ys, xs = [.ref p] ∧ ((SqL K H p ys ∧ ∀ l, H l = none → Q (.ref l) (upd H l (.tup ys))) ∨ (SqT K H p ys ∧ Q (.ref p) H))) tupA := by
  intro S S' H vs ds d Q hn hS r h q
  have hS' : S' = S := hS.elim (fun z => nomatch z) id
  subst hS'
  unfold tupA at h
  split at h
  · cases h
    replace r := r.one
    obtain ⟨v, rfl, r⟩ := r
    rw [Rp] at r
    obtain ⟨a, xs, rfl, hs, ra⟩ := r
    refine ⟨a, xs, rfl, .inl ⟨hs.sq, fun l hl => q _ _ (same_new hl) ?_⟩⟩
    rw [Rp]
    exact ⟨l, xs, rfl, .inl (.inl upd_same), ra.grow (same_new hl)⟩
  · cases h
    replace r := r.one
    obtain ⟨v, rfl, r⟩ := r
    have r' := r
    rw [Rp] at r
    obtain ⟨a, xs, rfl, hs, ra⟩ := r
    exact ⟨a, xs, rfl, .inr ⟨hs, q _ H (Same.refl H) r'⟩⟩
  · cases h
/-- tuple(x), x owned: its items are clean -/
def eTupO (i : Nat) : En → Option PyData := fun env => match env[i]? with
  | some (.own ds) => some (.tuple ds)
  | _ => none
theorem ce_tupO {i : Nat} (h : PE X e (tCB (fun xs H Q => ∃ p ys, xs = [.ref p] ∧ ((SqL X.K H p ys ∧ ∀ l, H l = none → Q (.ref l) (upd H l (.tup ys))) ∨ (SqT X.K H p ys ∧ Q (.ref p) H))) (tCons (tVar i) tNil))) : PE X e (tE X.K true (eTupO i)) := pe_w h fun σ H Q ⟨S0, H0, A, env, d, E, hf, q⟩ => by
  unfold eTupO at hf
  split at hf
  · rename_i ds hi
    cases hf
    rcases E.sl i _ hi with z | ⟨v, h1, a, xs, rfl, ha, hh, r⟩
    · cases z
    refine ⟨_, h1, a, xs, rfl, .inl ⟨.inl (.inl hh), fun l hl => q _ _ (same_new hl) ?_⟩⟩
    rw [Rp]
    exact ⟨l, xs, rfl, .inl (.inl upd_same), (r.wide fun _ z => sc_cl z).grow (same_new hl)⟩
  · cases hf
/-- list(x): a fresh one -/
def fList (f : En → Option PyData) : En → Option (List PyData) := fun env => match f env with
  | some (.list ds) => some ds
  | some (.tuple ds) => some ds
  | _ => none
theorem cf_list (h : PE X e (tCB (fun xs H Q => ∃ p ys, xs = [.ref p] ∧ (SqL X.K H p ys ∨ SqT X.K H p ys) ∧ ∀ l, H l = none → Q (.ref l) (upd H l (.lst ys))) (tCons (tE X.K true f) tNil))) : PE X e (tF X.K c (fList f)) := pe_w h fun σ H Q ⟨S0, H0, A, env, d, E, hf, q⟩ => by
  unfold fList at hf
  split at hf
  · rename_i ds hd
    cases hf
    refine ⟨S0, H0, A, env, _, E, hd, fun v H1 s r => ?_⟩
    rw [Rp] at r
    obtain ⟨a, xs, rfl, hs, ra⟩ := r
    exact ⟨a, xs, rfl, .inl hs.sq, fun l hl => q l xs _ (s.free hl) (s.trans (same_new hl)) upd_same ((ra.wide fun _ z => sc_cl (cl_sc z)).apart hl (same_new hl))⟩
  · rename_i ds hd
    cases hf
    refine ⟨S0, H0, A, env, _, E, hd, fun v H1 s r => ?_⟩
    rw [Rp] at r
    obtain ⟨a, xs, rfl, hs, ra⟩ := r
    exact ⟨a, xs, rfl, .inr hs, fun l hl => q l xs _ (s.free hl) (s.trans (same_new hl)) upd_same ((ra.wide fun _ z => sc_cl (cl_sc z)).apart hl (same_new hl))⟩
  · cases hf
/-! max, min -/
def intsD : List PyData → Option (List Int)
  | [] => some []
  | .int i :: ds => match intsD ds with
    | some ns => some (i :: ns)
    | none => none
  | _ :: _ => none
theorem intsD_rp {K : PySem.W.Frag} {S : Addr → Prop} {H : Hp} : ∀ {ds : List PyData} {ns : List Int} {xs : List V}, intsD ds = some ns → RpA K S H ds xs → xs = ns.map V.int ∧ ds = ns.map PyData.int
  | [], ns, xs, h, r => by
    rw [RpA] at r
    cases h
    exact ⟨r, rfl⟩
  | .int i :: ds, ns, xs, h, r => by
    rw [RpA] at r
    obtain ⟨v, r', rfl, h1, h2⟩ := r
    rw [Rp] at h1
    simp only [intsD] at h
    split at h
    · rename_i ms hm
      cases h
      obtain ⟨e1, e2⟩ := intsD_rp hm h2
      subst h1
      exact ⟨by rw [e1]; rfl, by rw [e2]; rfl⟩
    · cases h
  | .none :: _, _, _, h, _ => by cases h
  | .bool _ :: _, _, _, h, _ => by cases h
  | .str _ :: _, _, _, h, _ => by cases h
  | .list _ :: _, _, _, h, _ => by cases h
  | .tuple _ :: _, _, _, h, _ => by cases h
  | .dict _ :: _, _, _, h, _ => by cases h
def mxI : Int → List Int → Int
  | m, [] => m
  | m, x :: xs => mxI (if x > m then x else m) xs
def mnI : Int → List Int → Int
  | m, [] => m
  | m, x :: xs => mnI (if x < m then x else m) xs
theorem mxI_spec : ∀ (xs : List Int) (m : Int), mxI m xs ∈ m :: xs ∧ ∀ y ∈ m :: xs, y ≤ mxI m xs
  | [], m => ⟨List.mem_cons_self, fun y h => by simp at h; rw [h]; exact Int.le_refl _⟩
  | x :: xs, m => by
    obtain ⟨h1, h2⟩ := mxI_spec xs (if x > m then x else m)
    refine ⟨?_, fun y h => ?_⟩
    · show mxI (if x > m then x else m) xs ∈ _
      rcases List.mem_cons.mp h1 with h | h
      · rw [h]
        split <;> simp
      · exact List.mem_cons_of_mem _ (List.mem_cons_of_mem _ h)
    · show y ≤ mxI (if x > m then x else m) xs
      have h3 := h2 (if x > m then x else m) List.mem_cons_self
      rcases List.mem_cons.mp h with h | h
      · subst h
        split at h3 <;> (split <;> omega)
      · rcases List.mem_cons.mp h with h | h
        · subst h
          split at h3 <;> (split <;> omega)
        · exact h2 y (List.mem_cons_of_mem _ h)
theorem mnI_spec : ∀ (xs : List Int) (m : Int), mnI m xs ∈ m :: xs ∧ ∀ y ∈ m :: xs, mnI m xs ≤ y
  | [], m => ⟨List.mem_cons_self, fun y h => by simp at h; rw [h]; exact Int.le_refl _⟩
  | x :: xs, m => by
    obtain ⟨h1, h2⟩ := mnI_spec xs (if x < m then x else m)
    refine ⟨?_, fun y h => ?_⟩
    · show mnI (if x < m then x else m) xs ∈ _
      rcases List.mem_cons.mp h1 with h | h
      · rw [h]
        split <;> simp
      · exact List.mem_cons_of_mem _ (List.mem_cons_of_mem _ h)
    · show mnI (if x < m then x else m) xs ≤ y
      have h3 := h2 (if x < m then x else m) List.mem_cons_self
      rcases List.mem_cons.mp h with h | h
      · subst h
        split at h3 <;> (split <;> omega)
      · rcases List.mem_cons.mp h with h | h
        · subst h
          split at h3 <;> (split <;> omega)
        · exact h2 y (List.mem_cons_of_mem _ h)
def mx1 (k : Int → List Int → Int) : List PyData → Option PyData
  | [.list ds] => match intsD ds with
    | some (n :: ns) => some (.int (k n ns))
    | _ => none
  | _ => none
theorem cr_mx {K : PySem.W.Frag} : CROk K true (rMax K) (mx1 mxI) := by
  intro S S' H vs ds d Q _ _ r h q
  unfold mx1 at h
  split at h
  · replace r := r.one
    obtain ⟨v, rfl, r⟩ := r
    rw [Rp] at r
    obtain ⟨a, xs, rfl, hs, ra⟩ := r
    split at h
    · rename_i n ns hi
      cases h
      obtain ⟨e1, _⟩ := intsD_rp hi ra
      subst e1
      refine ⟨a, n :: ns, rfl, hs.sq, Nat.zero_lt_succ _, fun m hm hy => ?_⟩
      obtain ⟨k1, k2⟩ := mxI_spec ns n
      have e : m = mxI n ns := Int.le_antisymm (k2 m hm) (hy _ k1)
      rw [e]
      exact q _ H (Same.refl H) rp1
    · cases h
  · cases h
theorem cr_mn {K : PySem.W.Frag} : CROk K true (rMin K) (mx1 mnI) := by
  intro S S' H vs ds d Q _ _ r h q
  unfold mx1 at h
  split at h
  · replace r := r.one
    obtain ⟨v, rfl, r⟩ := r
    rw [Rp] at r
    obtain ⟨a, xs, rfl, hs, ra⟩ := r
    split at h
    · rename_i n ns hi
      cases h
      obtain ⟨e1, _⟩ := intsD_rp hi ra
      subst e1
      refine ⟨a, n :: ns, rfl, hs.sq, Nat.zero_lt_succ _, fun m hm hy => ?_⟩
      obtain ⟨k1, k2⟩ := mnI_spec ns n
      have e : m = mnI n ns := Int.le_antisymm (hy _ k1) (k2 m hm)
      rw [e]
      exact q _ H (Same.refl H) rp1
    · cases h
  · cases h
def mx2 : List PyData → Option PyData
  | [.int i, .int j] => some (.int (if j > i then j else i))
  | _ => none
def mn2 : List PyData → Option PyData
  | [.int i, .int j] => some (.int (if j < i then j else i))
  | _ => none
theorem cr_mx2 {K : PySem.W.Frag} : CROk K true (fun xs H Q => ∃ i j, xs = [.int i, .int j] ∧ Q (.int (if j > i then j else i)) H) mx2 := by
  intro S S' H vs ds d Q _ _ r h q
  unfold mx2 at h
  split at h
  · cases h
    obtain ⟨v, u, rfl, r1, r2⟩ := r.two
    rw [Rp] at r1 r2
    subst r1 r2
    exact ⟨_, _, rfl, q _ H (Same.refl H) rp1⟩
  · cases h
theorem cr_mn2 {K : PySem.W.Frag} : CROk K true (fun xs H Q => ∃ i j, xs = [.int i, .int j] ∧ Q (.int (if j < i then j else i)) H) mn2 := by
  intro S S' H vs ds d Q _ _ r h q
  unfold mn2 at h
  split at h
  · cases h
    obtain ⟨v, u, rfl, r1, r2⟩ := r.two
    rw [Rp] at r1 r2
    subst r1 r2
    exact ⟨_, _, rfl, q _ H (Same.refl H) rp1⟩
  · cases h
/-- max(xs, default=d), min likewise: ints -/
def rMxD (K : PySem.W.Frag) (k : Int → List Int → Int) : List V → List V → Hp → VK → Prop := fun vs zs H Q => ∃ a ns y, vs = [.ref a] ∧ zs = [y] ∧ SqL K H a (ns.map V.int) ∧ (match ns with
  | [] => Q y H
  | n :: ns => Q (.int (k n ns)) H)
theorem readsInts {h : Heap} : ∀ {ns : List Int} {us : List Value}, Vals (ns.map V.int) us → ∃ as, ReadsAll h us (ns.map PyData.int) as
  | [], _, r => by
    cases r
    exact ⟨_, ReadsAll.nil⟩
  | n :: ns, _, r => by
    cases r with
    | cons r1 r2 =>
      obtain ⟨t, rfl⟩ := r1
      obtain ⟨as, h2⟩ := readsInts r2
      exact ⟨_, ReadsAll.cons (Reads.int n t) h2⟩
theorem mxI_max : ∀ (ns : List Int) (n : Int), ns.foldl max n = mxI n ns
  | [], _ => rfl
  | x :: ns, n => by
    show ns.foldl max (max n x) = mxI (if x > n then x else n) ns
    rw [mxI_max ns]
    congr 1
    by_cases h : x > n
    · rw [if_pos h]; omega
    · rw [if_neg h]; omega
theorem mnI_min : ∀ (ns : List Int) (n : Int), ns.foldl min n = mnI n ns
  | [], _ => rfl
  | x :: ns, n => by
    show ns.foldl min (min n x) = mnI (if x < n then x else n) ns
    rw [mnI_min ns]
    congr 1
    by_cases h : x < n
    · rw [if_pos h]; omega
    · rw [if_neg h]; omega
theorem alike_ints (ns : List Int) : PySem.W.AlikeAll (ns.map PyData.int) := PySem.W.alikeAll_datum (α := Int) ns
theorem depth_ints : ∀ (ns : List Int), PyData.depthAll (ns.map PyData.int) = 0
  | [] => by simp [PyData.depthAll]
  | n :: ns => by simp [PyData.depthAll, PyData.depth, depth_ints ns]
theorem reads_int {h : Heap} {u : Value} {i : Int} {as : List Addr} (r : Reads h u (.int i) as) : ∃ t, u = .int i t := by
  cases r
  exact ⟨_, rfl⟩
theorem call_mxD (hc : X.calm = true) (hu : X.A.units + 64 < cLine) : CallRK X (.builtin "max") [Str.ofString "default"] (rMxD X.K mxI) := by
  intro pins s σ H vs zs us ws Q I r rz h
  obtain ⟨a, ns, y, rfl, rfl, hs, q⟩ := h
  obtain ⟨its, rv, hl, _⟩ := I.list hs
  rw [Vals.ref1 r]
  obtain ⟨u, rfl, ru⟩ := vals1 rz
  obtain ⟨as, ra⟩ := readsInts (h := s.heap) rv
  refine PySem.W.max_list_default (I.ok.hd hc) hl.isList (by rw [List.toList_toArray]; exact ra) (alike_ints ns) (by rw [depth_ints]; omega) (fun e h' tk k => ?_) fun z zs i v h' tk bs e hi rr k => ?_
  · cases ns with
    | nil => exact ⟨y, H, I.kept (t' := tk) k, ru, q⟩
    | cons _ _ => cases e
  · cases ns with
    | nil => cases e
    | cons n ns =>
      cases e
      rw [PySem.W.maxD_ints] at rr
      obtain ⟨t, rfl⟩ := reads_int rr
      exact ⟨.int _, H, I.kept (t' := tk) k, ⟨_, rfl⟩, by rw [mxI_max]; exact q⟩
theorem call_mnD (hc : X.calm = true) (hu : X.A.units + 64 < cLine) : CallRK X (.builtin "min") [Str.ofString "default"] (rMxD X.K mnI) := by
  intro pins s σ H vs zs us ws Q I r rz h
  obtain ⟨a, ns, y, rfl, rfl, hs, q⟩ := h
  obtain ⟨its, rv, hl, _⟩ := I.list hs
  rw [Vals.ref1 r]
  obtain ⟨u, rfl, ru⟩ := vals1 rz
  obtain ⟨as, ra⟩ := readsInts (h := s.heap) rv
  refine PySem.W.min_list_default (I.ok.hd hc) hl.isList (by rw [List.toList_toArray]; exact ra) (alike_ints ns) (by rw [depth_ints]; omega) (fun e h' tk k => ?_) fun z zs i v h' tk bs e hi rr k => ?_
  · cases ns with
    | nil => exact ⟨y, H, I.kept (t' := tk) k, ru, q⟩
    | cons _ _ => cases e
  · cases ns with
    | nil => cases e
    | cons n ns =>
      cases e
      rw [PySem.W.minD_ints] at rr
      obtain ⟨t, rfl⟩ := reads_int rr
      exact ⟨.int _, H, I.kept (t' := tk) k, ⟨_, rfl⟩, by rw [mnI_min]; exact q⟩
def eMxD (k : Int → List Int → Int) (f g : En → Option PyData) : En → Option PyData := fun env => match f env with
  | some (.list ds) => match g env with
    | some d => match intsD ds with
      | some [] => some d
      | some (n :: ns) => some (.int (k n ns))
      | none => none
    | none => none
  | _ => none
theorem ce_mxD {k : Int → List Int → Int} (h : PE X e (tCKw (rMxD X.K k) (tCons (tE X.K c1 f) tNil) (tCons (tE X.K c g) tNil))) : PE X e (tE X.K c (eMxD k f g)) := pe_w h fun σ H Q ⟨S0, H0, A, env, d, E, hf, q⟩ => by
  unfold eMxD at hf
  split at hf
  · rename_i ds hd
    split at hf
    · rename_i d2 hd2
      refine ⟨S0, H0, A, env, _, E, hd, fun v H1 s r => ⟨S0, H0, A, env, d2, E.grow s, hd2, fun u H2 s2 r2 => ?_⟩⟩
      rw [Rp] at r
      obtain ⟨a, xs, rfl, hs, ra⟩ := r
      split at hf
      · rename_i hi
        cases hf
        obtain ⟨e1, _⟩ := intsD_rp hi ra
        subst e1
        exact ⟨a, [], u, rfl, rfl, s2.seq hs.sq, q u H2 (s.trans s2) r2⟩
      · rename_i n ns hi
        cases hf
        obtain ⟨e1, _⟩ := intsD_rp hi ra
        subst e1
        exact ⟨a, n :: ns, u, rfl, rfl, s2.seq hs.sq, q _ H2 (s.trans s2) rp1⟩
      · cases hf
    · cases hf
  · cases hf
/-! isinstance(x, T), T a built-in class -/
def tyD : PyData → String
  | .none => "NoneType"
  | .bool _ => "bool"
  | .int _ => "int"
  | .str _ => "str"
  | .list _ => "list"
  | .tuple _ => "tuple"
  | .dict _ => "dict"
theorem tyX_of {K : PySem.W.Frag} {S : Addr → Prop} {H : Hp} {d : PyData} {v : V} (r : Rp K S H d v) : TyX K H v (.type (tyD d)) := by
  cases d with
  | none => rw [Rp] at r; subst r; exact .base .non
  | bool k => rw [Rp] at r; subst r; exact .base (.bl k)
  | int k => rw [Rp] at r; subst r; exact .base (.int k)
  | str k => rw [Rp] at r; subst r; exact .base (.str k)
  | list ds =>
    rw [Rp] at r
    obtain ⟨a, xs, rfl, hs, _⟩ := r
    rcases hs with ⟨_, hs | ⟨o, hs⟩⟩ | ⟨o, its, n, hk, hc, _⟩
    · exact .base (.lst hs)
    · exact .base (.frz hs)
    · exact .kList hk hc
  | tuple ds =>
    rw [Rp] at r
    obtain ⟨a, xs, rfl, hs, _⟩ := r
    rcases hs with (hs | ⟨o, hs⟩) | ⟨o, its, n, hk, hc, _⟩
    · exact .base (.tup hs)
    · exact .fTuple hs
    · exact .kTuple hk hc
  | dict k => rw [Rp] at r; exact r.elim
def isiB (T : String) (t : String) : Option Bool :=
  if T = "list" then (if t = "NoneType" ∨ t = "bool" ∨ t = "int" ∨ t = "str" ∨ t = "tuple" then some false else if t = "list" then some true else none)
  else if T = "tuple" then (if t = "NoneType" ∨ t = "bool" ∨ t = "int" ∨ t = "str" ∨ t = "list" then some false else if t = "tuple" then some true else none)
  else if T = "bool" then (if t = "NoneType" ∨ t = "tuple" ∨ t = "int" ∨ t = "str" ∨ t = "list" then some false else if t = "bool" then some true else none)
  else none
theorem isiB_kit {T t : String} {b : Bool} (h : isiB T t = some b) : kitB t T = some b := by
  unfold isiB at h
  split at h
  · rename_i e
    subst e
    split at h
    · rename_i z
      cases h
      rcases z with z | z | z | z | z <;> (subst z; decide +kernel)
    · split at h
      · rename_i z
        cases h
        subst z
        decide +kernel
      · cases h
  · split at h
    · rename_i e
      subst e
      split at h
      · rename_i z
        cases h
        rcases z with z | z | z | z | z <;> (subst z; decide +kernel)
      · split at h
        · rename_i z
          cases h
          subst z
          decide +kernel
        · cases h
    · split at h
      · rename_i e
        subst e
        split at h
        · rename_i z
          cases h
          rcases z with z | z | z | z | z <;> (subst z; decide +kernel)
        · split at h
          · rename_i z
            cases h
            subst z
            decide +kernel
          · cases h
      · cases h
def eIsi (T : String) (f : En → Option PyData) : En → Option PyData := fun env => match f env with
  | some d => (isiB T (tyD d)).map .bool
  | none => none
theorem ce_isi {T : String} (h : PE X e (tCB (rIsi X.K) (tCons (tE X.K c f) (tCons (tC (.ty T)) tNil)))) : PE X e (tE X.K true (eIsi T f)) := pe_w h fun σ H Q ⟨S0, H0, A, env, d, E, hf, q⟩ => by
  unfold eIsi at hf
  split at hf
  · rename_i d' hd
    cases hb : isiB T (tyD d') with
    | none => rw [hb] at hf; cases hf
    | some b =>
      rw [hb] at hf
      cases hf
      refine ⟨S0, H0, A, env, d', E, hd, fun v H1 s r => ?_⟩
      exact ⟨v, .ty T, _, _, b, rfl, .ty T, tyX_of r, kit_ty (isiB_kit hb), q _ H1 s rpb⟩
  · cases hf
/-! sep.join(xs) -/
def strsD : List PyData → Option (List Str)
  | [] => some []
  | .str i :: ds => match strsD ds with
    | some ns => some (i :: ns)
    | none => none
  | _ :: _ => none
theorem strsD_rp {K : PySem.W.Frag} {S : Addr → Prop} {H : Hp} : ∀ {ds : List PyData} {ns : List Str} {xs : List V}, strsD ds = some ns → RpA K S H ds xs → xs = ns.map V.str
  | [], ns, xs, h, r => by
    rw [RpA] at r
    cases h
    exact r
  | .str i :: ds, ns, xs, h, r => by
    rw [RpA] at r
    obtain ⟨v, r', rfl, h1, h2⟩ := r
    rw [Rp] at h1
    simp only [strsD] at h
    split at h
    · rename_i ms hm
      cases h
      have e1 := strsD_rp hm h2
      subst h1
      rw [e1]; rfl
    · cases h
  | .none :: _, _, _, h, _ => by cases h
  | .bool _ :: _, _, _, h, _ => by cases h
  | .int _ :: _, _, _, h, _ => by cases h
  | .list _ :: _, _, _, h, _ => by cases h
  | .tuple _ :: _, _, _, h, _ => by cases h
  | .dict _ :: _, _, _, h, _ => by cases h
def eJoin (f g : En → Option PyData) : En → Option PyData := e2 (fun s d => match s with
  | .str a => match (match d with | .list ds => strsD ds | .tuple ds => strsD ds | _ => none) with
    | some ys => if (ys.map (·.length)).sum + ys.length * a.length ≤ 1000000 then some (.str (Txt.join a ys)) else none
    | none => none
  | _ => none) f g
theorem ce_join {t : TE} (h : PE X e (tM1 (fun x xs H Q => ∃ a p, ∃ ys : List Str, x = .str a ∧ xs = [.ref p] ∧ (SqL X.K H p (ys.map V.str) ∨ SqT X.K H p (ys.map V.str)) ∧ (ys.map (·.length)).sum + ys.length * a.length ≤ 16777216 ∧ Q (.str (Txt.join a ys)) H) (tE X.K c1 f) (tE X.K c2 g))) :
    PE X e (tE X.K true (eJoin f g)) := pe_w h fun σ H Q ⟨S0, H0, A, env, d, E, hf, q⟩ => by
  obtain ⟨x, y, h1, h2, h3⟩ := e2_some hf
  refine ⟨S0, H0, A, env, x, E, h1, fun v H1 s1 r1 => ?_⟩
  cases x with
  | str a =>
    rw [Rp] at r1
    subst r1
    refine ⟨⟨a, rfl⟩, S0, H0, A, env, y, E.grow s1, h2, fun u H2 s2 r2 => ?_⟩
    dsimp only at h3
    split at h3
    · rename_i ys hy
      split at h3
      · rename_i hl
        cases h3
        cases y with
        | list ds =>
          rw [Rp] at r2
          obtain ⟨p, xs, rfl, hs, ra⟩ := r2
          have e1 := strsD_rp hy ra
          subst e1
          exact ⟨a, p, ys, rfl, rfl, .inl hs.sq, by omega, q _ H2 (s1.trans s2) rps⟩
        | tuple ds =>
          rw [Rp] at r2
          obtain ⟨p, xs, rfl, hs, ra⟩ := r2
          have e1 := strsD_rp hy ra
          subst e1
          exact ⟨a, p, ys, rfl, rfl, .inr hs, by omega, q _ H2 (s1.trans s2) rps⟩
        | _ => cases hy
      · cases h3
    · cases h3
  | _ => cases h3
end
end Mir

namespace Mir
open PySem PySem.Spec PyProof.Rows L2

section
variable {X : Cx} {a b e : Expr} {es : List Expr} {pos p : Pos} {c c1 c2 : Bool} {f g : En → Option PyData} {fa : En → Option (List PyData)} {fb : En → Option Bool} {K : PySem.W.Frag}
/-! ### + -/
theorem cat_lists {prog : Program} {w : World} {A : Around} {E : Value → Shared → Prop} {s : Shared} {l b : Addr} {us ws : Array Value} {Q : Value → Shared → Prop} (hl : s.heap.IsList l us) (hb : s.heap.IsList b ws)
    (h : Q (.ref s.heap.objs.size) { s with heap := s.heap.push { cls := .type "list", data := .seq (us ++ ws) } }) (hz : us.size + ws.size ≤ sizeLine) : wpAny (model prog w) A (binaryOp .Add (.ref l) (.ref b)) Q E s := by
  rcases hl with ⟨⟨k1, d1, x1, t1⟩, g1, rfl, n1, y1⟩
  rcases hb with ⟨⟨k2, d2, x2, t2⟩, g2, rfl, n2, y2⟩
  dsimp only at y1 y2
  subst y1 y2
  exact concat_meets ⟨_, g1, rfl⟩ ⟨_, g2, rfl⟩ noFill_list_add seq_list_add PySem.F.slot_list_add PySem.F.entry_list_add (PySem.F.args_list_add_2 _ _)
    (list_addW l b us ws n1 n2 d1 d2 t1 t2 hz) ⟨g1, g2, h⟩
def rCatR (K : PySem.W.Frag) : R2 := fun x y H Q => ∃ l b xs zs, x = .ref l ∧ y = .ref b ∧ SqL K H l xs ∧ SqL K H b zs ∧ xs.length + zs.length ≤ sizeLine ∧ ∀ p, H p = none → Q (.ref p) (upd H p (.lst (xs ++ zs)))
theorem op_catR : OpR X (binaryOp .Add) (rCatR X.K) := by
  intro pins s σ H x y v u Q I rx ry h
  obtain ⟨l, b, xs, zs, rfl, rfl, h1, h2, hz, q⟩ := h
  cases rx
  cases ry
  obtain ⟨i1, r1, p1, _⟩ := I.list h1
  obtain ⟨i2, r2, p2, _⟩ := I.list h2
  have l1 := r1.length
  have l2 := r2.length
  refine cat_lists p1.isList p2.isList ?_ (by rw [List.size_toArray, List.size_toArray]; omega)
  have ea : i1.toArray ++ i2.toArray = (i1 ++ i2).toArray := by simp
  rw [ea]
  exact ⟨.ref s.heap.objs.size, _, I.lnew (t' := s.toks) (r1.append r2) (by rw [List.length_append]; omega), rfl, q _ I.fresh⟩
def rAddX (K : PySem.W.Frag) : R2 := fun x y H Q => (∃ i j, x = .int i ∧ y = .int j ∧ Q (.int (i + j)) H) ∨ (∃ i j, x = .str i ∧ y = .str j ∧ i.length + j.length ≤ sizeLine ∧ Q (.str (i ++ j)) H) ∨ rCatA K x y H Q ∨ rCatR K x y H Q
theorem op_addX : OpR X (binaryOp .Add) (rAddX X.K) := by
  intro pins s σ H x y v u Q I rx ry h
  rcases h with h | h | h | h
  · exact op_add pins s σ H x y v u Q I rx ry h
  · exact op_add_str pins s σ H x y v u Q I rx ry h
  · exact op_catA pins s σ H x y v u Q I rx ry h
  · exact op_catR pins s σ H x y v u Q I rx ry h
def addD : PyData → PyData → Option PyData
  | .int i, .int j => some (.int (i + j))
  | .str x, .str y => if x.length + y.length ≤ 1000000 then some (.str (x ++ y)) else none
  | .tuple xs, .tuple ys => if xs.length + ys.length ≤ 1000000 then some (.tuple (xs ++ ys)) else none
  | .list xs, .list ys => if xs.length + ys.length ≤ 1000000 then some (.list (xs ++ ys)) else none
  | _, _ => none
theorem r2_add : R2Ok K false (rAddX K) addD := by
  intro S S' H x y dx dy d Q hn hS rx ry h q
  have hS' : S' = S := hS.elim (fun z => nomatch z) id
  subst hS'
  unfold addD at h
  split at h
  · cases h
    rw [Rp] at rx ry
    subst rx ry
    exact .inl ⟨_, _, rfl, rfl, q _ H (Same.refl H) rp1⟩
  · split at h
    · rename_i hl
      cases h
      rw [Rp] at rx ry
      subst rx ry
      exact .inr (.inl ⟨_, _, rfl, rfl, sz6 hl, q _ H (Same.refl H) rps⟩)
    · cases h
  · rename_i xs ys
    split at h
    · rename_i hl
      cases h
      have rx' := rx
      have ry' := ry
      rw [Rp] at rx ry
      obtain ⟨l, us, rfl, h1, r1⟩ := rx
      obtain ⟨m, vs, rfl, h2, r2⟩ := ry
      have l1 := r1.length
      have l2 := r2.length
      refine .inr (.inr (.inl ⟨l, m, us, vs, rfl, rfl, h1, h2, by rw [l1, l2]; exact sz6 hl, fun e => ?_, fun n e => ?_, fun n1 n2 p hp => ?_⟩))
      · have e1 : xs = [] := List.eq_nil_of_length_eq_zero (by rw [← l1, e]; rfl)
        subst e1
        exact q _ H (Same.refl H) ry'
      · have e1 : ys = [] := List.eq_nil_of_length_eq_zero (by rw [← l2, e]; rfl)
        subst e1
        rw [List.append_nil] at q
        exact q _ H (Same.refl H) rx'
      · refine q _ _ (same_new hp) ?_
        rw [Rp]
        exact ⟨p, _, rfl, .inl (.inl upd_same), (r1.append r2).grow (same_new hp)⟩
    · cases h
  · split at h
    · rename_i hl
      cases h
      rw [Rp] at rx ry
      obtain ⟨l, us, rfl, h1, r1⟩ := rx
      obtain ⟨m, vs, rfl, h2, r2⟩ := ry
      refine .inr (.inr (.inr ⟨l, m, us, vs, rfl, rfl, h1.sq, h2.sq, by rw [r1.length, r2.length]; exact sz6 hl, fun p hp => q _ _ (same_new hp) ?_⟩))
      rw [Rp]
      exact ⟨p, _, rfl, .inl ⟨hn p hp, .inl upd_same⟩, (r1.append r2).grow (same_new hp)⟩
    · cases h
  · cases h
theorem ce_add (ha : PE X a (tE X.K c f)) (hb : PE X b (tE X.K c g)) : PE X (.BinOp a .Add b pos) (tE X.K c (e2 addD f g)) := ce_op op_addX r2_add ha hb
/-- list + list, fresh -/
def fCat (f g : En → Option PyData) : En → Option (List PyData) := fun env => match f env with
  | some (.list xs) => match g env with
    | some (.list ys) => if xs.length + ys.length ≤ 1000000 then some (xs ++ ys) else none
    | _ => none
  | _ => none
theorem cf_cat (ha : PE X a (tE X.K true f)) (hb : PE X b (tE X.K true g)) : PE X (.BinOp a .Add b pos) (tF X.K c (fCat f g)) := pe_w (pe_op op_catR ha hb) fun σ H Q ⟨S0, H0, A, env, d, E, hf, q⟩ => by
  unfold fCat at hf
  split at hf
  · rename_i xs h1
    split at hf
    · rename_i ys h2
      split at hf
      · rename_i hl
        cases hf
        refine ⟨S0, H0, A, env, _, E, h1, fun v H1 s1 r1 => ⟨S0, H0, A, env, _, E.grow s1, h2, fun u H2 s2 r2 => ?_⟩⟩
        rw [Rp] at r1 r2
        obtain ⟨l, us, rfl, k1, q1⟩ := r1
        obtain ⟨m, vs, rfl, k2, q2⟩ := r2
        refine ⟨l, m, us, vs, rfl, rfl, s2.seq k1.sq, k2.sq, by rw [q1.length, q2.length]; exact sz6 hl, fun p hp => q p _ _ ((s1.trans s2).free hp) ((s1.trans s2).trans (same_new hp)) upd_same ?_⟩
        exact (((q1.grow s2).append q2).wide fun _ z => sc_cl (cl_sc z)).apart hp (same_new hp)
      · cases hf
    · cases hf
  · cases hf

/-! ### ints -/
def i2 (h : Int → Int → Option PyData) : PyData → PyData → Option PyData
  | .int i, .int j => h i j
  | _, _ => none
theorem r2_I {C : Int → Int → Prop} [DecidableRel C] {k : Int → Int → Int} : R2Ok K true (rI C fun i j => .int (k i j)) (i2 fun i j => if C i j then some (.int (k i j)) else none) := by
  intro S S' H x y dx dy d Q hn hS rx ry h q
  unfold i2 at h
  split at h
  · dsimp only at h
    split at h
    · rename_i hc
      cases h
      rw [Rp] at rx ry
      subst rx ry
      exact ⟨_, _, rfl, rfl, hc, q _ H (Same.refl H) rp1⟩
    · cases h
  · cases h
theorem r2_I0 {k : Int → Int → Int} : R2Ok K true (rI0 fun i j => .int (k i j)) (i2 fun i j => some (.int (k i j))) := by
  intro S S' H x y dx dy d Q hn hS rx ry h q
  unfold i2 at h
  split at h
  · cases h
    rw [Rp] at rx ry
    subst rx ry
    exact ⟨_, _, rfl, rfl, q _ H (Same.refl H) rp1⟩
  · cases h
theorem r2_B0 {k : Int → Int → Bool} : R2Ok K true (rI0 fun i j => .bl (k i j)) (i2 fun i j => some (.bool (k i j))) := by
  intro S S' H x y dx dy d Q hn hS rx ry h q
  unfold i2 at h
  split at h
  · cases h
    rw [Rp] at rx ry
    subst rx ry
    exact ⟨_, _, rfl, rfl, q _ H (Same.refl H) rpb⟩
  · cases h
instance : DecidableRel CMul := fun i j => by unfold CMul; infer_instance
instance : DecidableRel CDiv := fun i j => by unfold CDiv; infer_instance
instance : DecidableRel CPow := fun i j => by unfold CPow; infer_instance
def subD : PyData → PyData → Option PyData := i2 fun i j => some (.int (i - j))
def mulD : PyData → PyData → Option PyData := i2 fun i j => if CMul i j then some (.int (i * j)) else none
def divD : PyData → PyData → Option PyData := i2 fun i j => if CDiv i j then some (.int (i / j)) else none
def modD : PyData → PyData → Option PyData := i2 fun i j => if 0 < j then some (.int (i % j)) else none
def powD : PyData → PyData → Option PyData := i2 fun i j => if CPow i j then some (.int (i ^ j.toNat)) else none
theorem ce_sub (ha : PE X a (tE X.K c f)) (hb : PE X b (tE X.K c g)) : PE X (.BinOp a .Sub b pos) (tE X.K true (e2 subD f g)) := ce_op op_sub r2_I0 ha hb
theorem ce_mul (ha : PE X a (tE X.K c f)) (hb : PE X b (tE X.K c g)) : PE X (.BinOp a .Mult b pos) (tE X.K true (e2 mulD f g)) := ce_op op_mul r2_I ha hb
theorem ce_div (ha : PE X a (tE X.K c f)) (hb : PE X b (tE X.K c g)) : PE X (.BinOp a .FloorDiv b pos) (tE X.K true (e2 divD f g)) := ce_op op_fdiv r2_I ha hb
theorem ce_mod (ha : PE X a (tE X.K c f)) (hb : PE X b (tE X.K c g)) : PE X (.BinOp a .Mod b pos) (tE X.K true (e2 modD f g)) := ce_op op_mod r2_I ha hb
theorem ce_pow (ha : PE X a (tE X.K c f)) (hb : PE X b (tE X.K c g)) : PE X (.BinOp a .Pow b pos) (tE X.K true (e2 powD f g)) := ce_op op_pow r2_I ha hb
def negD : PyData → Option PyData
  | .int i => some (.int (-i))
  | _ => none
def e1 (h : PyData → Option PyData) (f : En → Option PyData) : En → Option PyData := fun env => match f env with
  | some d => h d
  | none => none
theorem ce_neg (ha : PE X a (tE X.K c f)) : PE X (.UnaryOp .USub a pos) (tE X.K true (e1 negD f)) := pe_w (pe_un un_neg ha) fun σ H Q ⟨S0, H0, A, env, d, E, hf, q⟩ => by
  unfold e1 at hf
  split at hf
  · rename_i x hx
    cases x with
    | int i =>
      cases hf
      refine ⟨S0, H0, A, env, _, E, hx, fun v H1 s r => ?_⟩
      rw [Rp] at r
      subst r
      exact ⟨_, rfl, q _ H1 s rp1⟩
    | _ => cases hf
  · cases hf

/-! ### comparisons -/
def ltD : PyData → PyData → Option PyData := i2 fun i j => some (.bool (decide (i < j)))
def leD : PyData → PyData → Option PyData := i2 fun i j => some (.bool (decide (i ≤ j)))
def gtD : PyData → PyData → Option PyData := i2 fun i j => some (.bool (decide (j < i)))
def geD : PyData → PyData → Option PyData := i2 fun i j => some (.bool (decide (j ≤ i)))
theorem ce_lt (ha : PE X a (tE X.K c f)) (hb : PE X b (tE X.K c g)) : PE X (.Compare a [.Lt] [b] pos) (tE X.K true (e2 ltD f g)) := ce_cmp op_lt r2_B0 ha hb (nomark _)
theorem ce_le (ha : PE X a (tE X.K c f)) (hb : PE X b (tE X.K c g)) : PE X (.Compare a [.LtE] [b] pos) (tE X.K true (e2 leD f g)) := ce_cmp op_le r2_B0 ha hb (nomark _)
theorem ce_gt (ha : PE X a (tE X.K c f)) (hb : PE X b (tE X.K c g)) : PE X (.Compare a [.Gt] [b] pos) (tE X.K true (e2 gtD f g)) := ce_cmp op_gt r2_B0 ha hb (nomark _)
theorem ce_ge (ha : PE X a (tE X.K c f)) (hb : PE X b (tE X.K c g)) : PE X (.Compare a [.GtE] [b] pos) (tE X.K true (e2 geD f g)) := ce_cmp op_ge r2_B0 ha hb (nomark _)
def eqD : PyData → PyData → Option PyData := fun x y => if (SeqAt.shaped x && SeqAt.shaped y) = true then some (.bool (PyData.eqv x y)) else none
def neD : PyData → PyData → Option PyData := fun x y => if (SeqAt.shaped x && SeqAt.shaped y) = true then some (.bool (!PyData.eqv x y)) else none
theorem r2_eq : R2Ok K true (rEqD K) eqD := by
  intro S S' H x y dx dy d Q hn hS rx ry h q
  unfold eqD at h
  split at h
  · rename_i hs
    rw [Bool.and_eq_true] at hs
    cases h
    exact ⟨dx, dy, rx.dp, ry.dp, hs.1, hs.2, q _ H (Same.refl H) rpb⟩
  · cases h
theorem r2_ne : R2Ok K true (rNeD K) neD := by
  intro S S' H x y dx dy d Q hn hS rx ry h q
  unfold neD at h
  split at h
  · rename_i hs
    rw [Bool.and_eq_true] at hs
    cases h
    exact ⟨dx, dy, rx.dp, ry.dp, hs.1, hs.2, q _ H (Same.refl H) rpb⟩
  · cases h
theorem ce_eq (hu : X.A.units + 64 < cLine) (ha : PE X a (tE X.K c f)) (hb : PE X b (tE X.K c g)) : PE X (.Compare a [.Eq] [b] pos) (tE X.K true (e2 eqD f g)) := ce_cmp (op_eqD hu) r2_eq ha hb (nomark _)
theorem ce_ne (hu : X.A.units + 64 < cLine) (ha : PE X a (tE X.K c f)) (hb : PE X b (tE X.K c g)) : PE X (.Compare a [.NotEq] [b] pos) (tE X.K true (e2 neD f g)) := ce_cmp (op_neD hu) r2_ne ha hb (nomark _)
def noneB : PyData → Bool
  | .none => true
  | _ => false
def isD : PyData → PyData → Option PyData
  | x, .none => some (.bool (noneB x))
  | _, _ => none
def isntD : PyData → PyData → Option PyData
  | x, .none => some (.bool (!noneB x))
  | _, _ => none
theorem noneB_rp {S : Addr → Prop} {H : Hp} {d : PyData} {v : V} (r : Rp K S H d v) : decide (v = .non) = noneB d := by
  cases d with
  | none => rw [Rp] at r; subst r; rfl
  | bool k => rw [Rp] at r; subst r; rfl
  | int k => rw [Rp] at r; subst r; rfl
  | str k => rw [Rp] at r; subst r; rfl
  | list ds => rw [Rp] at r; obtain ⟨a, xs, rfl, _⟩ := r; rfl
  | tuple ds => rw [Rp] at r; obtain ⟨a, xs, rfl, _⟩ := r; rfl
  | dict k => rw [Rp] at r; exact r.elim
theorem r2_is : R2Ok K true (fun x y H Q => y = .non ∧ Q (.bl (decide (x = .non))) H) isD := by
  intro S S' H x y dx dy d Q hn hS rx ry h q
  unfold isD at h
  split at h
  · cases h
    rw [Rp] at ry
    exact ⟨ry, by rw [noneB_rp rx]; exact q _ H (Same.refl H) rpb⟩
  · cases h
theorem r2_isnt : R2Ok K true (fun x y H Q => y = .non ∧ Q (.bl (!decide (x = .non))) H) isntD := by
  intro S S' H x y dx dy d Q hn hS rx ry h q
  unfold isntD at h
  split at h
  · cases h
    rw [Rp] at ry
    exact ⟨ry, by rw [noneB_rp rx]; exact q _ H (Same.refl H) rpb⟩
  · cases h
theorem ce_is (ha : PE X a (tE X.K c f)) (hb : PE X b (tE X.K c g)) : PE X (.Compare a [.Is] [b] pos) (tE X.K true (e2 isD f g)) := ce_cmp op_isN r2_is ha hb (nomark _)
theorem ce_isnt (ha : PE X a (tE X.K c f)) (hb : PE X b (tE X.K c g)) : PE X (.Compare a [.IsNot] [b] pos) (tE X.K true (e2 isntD f g)) := ce_cmp op_notN r2_isnt ha hb (nomark _)
/-! in: a list of data of any depth -/
def inD : PyData → PyData → Option PyData
  | x, .list ds => if (SeqAt.shaped x && SeqAt.shaped (.list ds)) = true then some (.bool (ds.any fun z => PyData.eqv z x)) else none
  | _, _ => none
def notInD : PyData → PyData → Option PyData
  | x, .list ds => if (SeqAt.shaped x && SeqAt.shaped (.list ds)) = true then some (.bool (!ds.any fun z => PyData.eqv z x)) else none
  | _, _ => none
theorem r2_in : R2Ok K true (rInD K) inD := by
  intro S S' H x y dx dy d Q hn hS rx ry h q
  unfold inD at h
  split at h
  · split at h
    · rename_i hs
      rw [Bool.and_eq_true] at hs
      cases h
      exact ⟨_, _, rx.dp, ry.dp, hs.1, hs.2, q _ H (Same.refl H) rpb⟩
    · cases h
  · cases h
theorem r2_notIn : R2Ok K true (rNotInD K) notInD := by
  intro S S' H x y dx dy d Q hn hS rx ry h q
  unfold notInD at h
  split at h
  · split at h
    · rename_i hs
      rw [Bool.and_eq_true] at hs
      cases h
      exact ⟨_, _, rx.dp, ry.dp, hs.1, hs.2, q _ H (Same.refl H) rpb⟩
    · cases h
  · cases h
theorem ce_in (hu : X.A.units + 65 < cLine) (ha : PE X a (tE X.K c f)) (hb : PE X b (tE X.K c g)) (hm : behindInMarks .In b = false) : PE X (.Compare a [.In] [b] pos) (tE X.K true (e2 inD f g)) := ce_cmp (op_inD hu) r2_in ha hb hm
theorem ce_notIn (hu : X.A.units + 65 < cLine) (ha : PE X a (tE X.K c f)) (hb : PE X b (tE X.K c g)) (hm : behindInMarks .NotIn b = false) : PE X (.Compare a [.NotIn] [b] pos) (tE X.K true (e2 notInD f g)) := ce_cmp (op_notInD hu) r2_notIn ha hb hm
/-! chains of ints: a < b < c -/
def chI (k1 k2 : Int → Int → Bool) (f g h : En → Option PyData) : En → Option PyData := fun env => match f env with
  | some (.int i) => match g env with
    | some (.int j) => if k1 i j = true then (match h env with
      | some (.int m) => some (.bool (k2 j m))
      | _ => none) else some (.bool false)
    | _ => none
  | _ => none
theorem ce_chain {k1 k2 : Int → Int → Bool} {h : En → Option PyData} (he : PE X e (tChain (rI0 fun i j => .bl (k1 i j)) (rI0 fun i j => .bl (k2 i j)) (tE X.K c f) (tE X.K c1 g) (tE X.K c2 h))) : PE X e (tE X.K true (chI k1 k2 f g h)) := pe_w he fun σ H Q ⟨S0, H0, A, env, d, E, hf, q⟩ => by
  unfold chI at hf
  split at hf
  · rename_i i hi
    split at hf
    · rename_i j hj
      refine ⟨S0, H0, A, env, _, E, hi, fun v H1 s1 r1 => ⟨S0, H0, A, env, _, E.grow s1, hj, fun u H2 s2 r2 => ?_⟩⟩
      rw [Rp] at r1 r2
      subst r1 r2
      refine ⟨i, j, rfl, rfl, k1 i j, rfl, ?_⟩
      by_cases hk : k1 i j = true
      · rw [if_pos hk] at hf
        rw [hk, if_pos rfl]
        split at hf
        · rename_i m hm
          cases hf
          refine ⟨S0, H0, A, env, _, (E.grow s1).grow s2, hm, fun w H3 s3 r3 => ?_⟩
          rw [Rp] at r3
          subst r3
          exact ⟨j, m, rfl, rfl, q _ H3 ((s1.trans s2).trans s3) rpb⟩
        · cases hf
      · rw [if_neg hk] at hf
        cases hf
        rw [if_neg hk]
        have e : k1 i j = false := by cases z : k1 i j with
          | true => exact absurd z hk
          | false => rfl
        exact q _ H2 (s1.trans s2) rpb
    · cases hf
  · cases hf

/-! ### items, slices -/
def ixG (x k : PyData) : Option PyData := match k with
  | .int i => match x with
    | .list ds => atI ds i
    | .tuple ds => atI ds i
    | .str z => if z.length ≤ 1000000 then (atI z.cps.toList i).map fun c => .str ⟨#[c]⟩ else none
    | _ => none
  | _ => none
theorem atI_rp {S : Addr → Prop} {H : Hp} {ds : List PyData} {xs : List V} {i : Int} {d : PyData} (r : RpA K S H ds xs) (h : atI ds i = some d) : ∃ v, atI xs i = some v ∧ Rp K S H d v := by
  unfold atI at h ⊢
  rw [r.length]
  cases hj : ixN ds.length i with
  | none => rw [hj] at h; cases h
  | some j =>
    rw [hj] at h
    exact r.get h
theorem r2_ix : R2Ok K false (rIx K) ixG := by
  intro S S' H x y dx dy d Q hn hS rx ry h q
  have hS' : S' = S := hS.elim (fun z => nomatch z) id
  subst hS'
  unfold ixG at h
  split at h
  · rename_i i
    rw [Rp] at ry
    subst ry
    split at h
    · rw [Rp] at rx
      obtain ⟨l, us, rfl, h1, r1⟩ := rx
      obtain ⟨v, e1, e2⟩ := atI_rp r1 h
      exact .inl ⟨l, us, i, v, rfl, rfl, h1.sq, e1, q v H (Same.refl H) e2⟩
    · rw [Rp] at rx
      obtain ⟨l, us, rfl, h1, r1⟩ := rx
      obtain ⟨v, e1, e2⟩ := atI_rp r1 h
      exact .inr (.inl ⟨l, us, i, v, rfl, rfl, h1, e1, q v H (Same.refl H) e2⟩)
    · rename_i z
      split at h
      · rename_i hl
        rw [Rp] at rx
        subst rx
        cases hc : atI z.cps.toList i with
        | none => rw [hc] at h; cases h
        | some k =>
          rw [hc] at h
          cases h
          exact .inr (.inr ⟨z, i, k, rfl, rfl, sz6 hl, hc, q _ H (Same.refl H) rps⟩)
      · cases h
    · cases h
  · cases h
theorem ce_ix (ha : PE X a (tE X.K c f)) (hb : PE X b (tE X.K c g)) (hs : PlainIx b) : PE X (.Subscript a b pos) (tE X.K c (e2 ixG f g)) := pe_w (pe_ix ix_seq ha hb hs) fun _ _ _ q => e2_run r2_ix (.inr rfl) q
/-- x[k], x owned: a clean item -/
def eIxO (i : Nat) (g : En → Option PyData) : En → Option PyData := fun env => match env[i]? with
  | some (.own ds) => match g env with
    | some (.int k) => atI ds k
    | _ => none
  | _ => none
theorem ce_ixO {i : Nat} (ha : PE X a (tVar i)) (hb : PE X b (tE X.K c g)) (hs : PlainIx b) : PE X (.Subscript a b pos) (tE X.K true (eIxO i g)) := pe_w (pe_ix ix_seq ha hb hs) fun σ H Q ⟨S0, H0, A, env, d, E, hf, q⟩ => by
  unfold eIxO at hf
  split at hf
  · rename_i ds hi
    split at hf
    · rename_i k hk
      rcases E.sl i _ hi with z | ⟨v, h1, l, us, rfl, ha, hh, r⟩
      · cases z
      refine ⟨_, h1, S0, H0, A, env, _, E, hk, fun u H1 s1 r1 => ?_⟩
      rw [Rp] at r1
      subst r1
      obtain ⟨v, e1, e2⟩ := atI_rp (r.grow s1) hf
      exact .inl ⟨l, us, k, v, rfl, rfl, .inl (.inl (s1 _ _ hh)), e1, q v H1 s1 (Rp.wide (fun _ z => sc_cl z) e2)⟩
    · cases hf
  · cases hf
def tOp' (K : PySem.W.Frag) (f : En → Option (Option Int)) : TO := fun σ H Q => ∃ S0 H0 A env o, EnvOk K S0 H0 A H σ env ∧ f env = some o ∧ ∀ H', Same H H' → Q o H'
def oNone : En → Option (Option Int) := fun _ => some none
def oSome (f : En → Option PyData) : En → Option (Option Int) := fun env => match f env with
  | some (.int i) => some (some i)
  | _ => none
theorem co_none : PO X none (tOp' X.K oNone) := ⟨fun pins s σ H Q I ⟨S0, H0, A, env, o, E, hf, q⟩ => (po_none).run pins s σ H Q I (by cases hf; exact q H (Same.refl H))⟩
theorem co_some (h : PE X e (tE X.K c f)) : PO X (some e) (tOp' X.K (oSome f)) := ⟨fun pins s σ H Q I ⟨S0, H0, A, env, o, E, hf, q⟩ => (po_some h).run pins s σ H Q I (by
  unfold oSome at hf
  split at hf
  · rename_i i hi
    cases hf
    refine ⟨S0, H0, A, env, _, E, hi, fun v H1 s r => ?_⟩
    rw [Rp] at r
    exact ⟨i, r, q H1 s⟩
  · cases hf)⟩
def cutL {α : Type} (xs : List α) (lo hi : Option Int) : List α := (xs.drop (HT.sIx xs.length 0 lo)).take (HT.sIx xs.length xs.length hi - HT.sIx xs.length 0 lo)
def rSlX (K : PySem.W.Frag) : V → Option Int → Option Int → Hp → VK → Prop := fun x lo hi H Q => (∃ a xs, x = .ref a ∧ SqL K H a xs ∧ ∀ p, H p = none → Q (.ref p) (upd H p (.lst (cutV xs lo hi)))) ∨ rSlA K x lo hi H Q ∨ rSlS x lo hi H Q
theorem sl_X : SlR X (rSlX X.K) := by
  intro pins s σ H x v vl vu lo hi sl Q I rx hs pl pu h
  rcases h with h | h | h
  · exact sl_list pins s σ H x v vl vu lo hi sl Q I rx hs pl pu h
  · exact sl_tupA pins s σ H x v vl vu lo hi sl Q I rx hs pl pu h
  · exact sl_str pins s σ H x v vl vu lo hi sl Q I rx hs pl pu h
def slG (x : PyData) (lo hi : Option Int) : Option PyData := match x with
  | .list ds => some (.list (cutL ds lo hi))
  | .tuple ds => some (.tuple (cutL ds lo hi))
  | .str z => if z.length ≤ 1000000 then some (.str (cutS z lo hi)) else none
  | _ => none
theorem cut_rp {S : Addr → Prop} {H : Hp} {ds : List PyData} {xs : List V} (r : RpA K S H ds xs) (lo hi : Option Int) : RpA K S H (cutL ds lo hi) (cutV xs lo hi) := by
  unfold cutL cutV
  rw [r.length]
  exact (r.drop _).take _
theorem cut_whole {ds : List PyData} {lo hi : Option Int} (h : HT.sIx ds.length 0 lo = 0 ∧ HT.sIx ds.length ds.length hi = ds.length) : cutL ds lo hi = ds := by
  unfold cutL
  rw [h.1, h.2]
  simp
def eSl (f : En → Option PyData) (l h : En → Option (Option Int)) : En → Option PyData := fun env => match f env with
  | some x => match l env with
    | some lo => match h env with
      | some hi => slG x lo hi
      | none => none
    | none => none
  | none => none
theorem ce_sl {lo hi : Option Expr} {p2 : Pos} {l h : En → Option (Option Int)} (ha : PE X a (tE X.K c f)) (hl : PO X lo (tOp' X.K l)) (hh : PO X hi (tOp' X.K h)) : PE X (.Subscript a (.Slice lo hi none p2) pos) (tE X.K c (eSl f l h)) := pe_w (pe_slice sl_X ha hl hh) fun σ H Q ⟨S0, H0, A, env, d, E, hf, q⟩ => by
  unfold eSl at hf
  split at hf
  · rename_i x hx
    split at hf
    · rename_i lo' hlo
      split at hf
      · rename_i hi' hhi
        refine ⟨S0, H0, A, env, x, E, hx, fun v H1 s1 r1 => ⟨S0, H0, A, env, lo', E.grow s1, hlo, fun H2 s2 => ⟨S0, H0, A, env, hi', (E.grow s1).grow s2, hhi, fun H3 s3 => ?_⟩⟩⟩
        have sm := (s1.trans s2).trans s3
        have r3 := (r1.grow s2).grow s3
        unfold slG at hf
        split at hf
        · cases hf
          rw [Rp] at r3
          obtain ⟨m, us, rfl, k, r⟩ := r3
          refine .inl ⟨m, us, rfl, k.sq, fun p hp => q _ _ (sm.trans (same_new hp)) ?_⟩
          rw [Rp]
          exact ⟨p, _, rfl, .inl ⟨sc_new (E.grow sm) hp, .inl upd_same⟩, (cut_rp r _ _).grow (same_new hp)⟩
        · cases hf
          have r3' := r3
          rw [Rp] at r3
          obtain ⟨m, us, rfl, k, r⟩ := r3
          refine .inr (.inl ⟨m, us, rfl, k, fun w => ?_, fun _ p hp => q _ _ (sm.trans (same_new hp)) ?_⟩)
          · rw [r.length] at w
            rw [cut_whole w] at q
            exact q _ H3 sm r3'
          · rw [Rp]
            exact ⟨p, _, rfl, .inl (.inl upd_same), (cut_rp r _ _).grow (same_new hp)⟩
        · split at hf
          · rename_i z hz
            cases hf
            rw [Rp] at r3
            subst r3
            exact .inr (.inr ⟨z, rfl, sz6 hz, q _ H3 sm rps⟩)
          · cases hf
        · cases hf
      · cases hf
    · cases hf
  · cases hf
end
end Mir

namespace Mir
open PySem PySem.Spec PyProof.Rows L2
theorem hu65 {k : Nat} {A : Around} (r : Room k A) : A.units + 65 < cLine := by
  have := r.un
  omega
abbrev tNilE : TE := tC .non
section
variable {X : Cx} {a b e : Expr} {es : List Expr} {pos p : Pos} {st : Stmt} {c c1 c2 : Bool} {f g : En → Option PyData} {fa : En → Option (List PyData)} {fb : En → Option Bool} {K : PySem.W.Frag}
theorem ct_chain {k1 k2 : Int → Int → Bool} {h : En → Option PyData} (he : PT X e (tTest (tChain (rI0 fun i j => .bl (k1 i j)) (rI0 fun i j => .bl (k2 i j)) (tE X.K c f) (tE X.K c1 g) (tE X.K c2 h)))) : PT X e (tT X.K (t1 (chI k1 k2 f g h))) := pt_w he fun σ H Q ⟨S0, H0, A, env, d, E, hf, q⟩ => by
  have hf := t1_some hf
  unfold chI at hf
  split at hf
  · rename_i i hi
    split at hf
    · rename_i j hj
      refine ⟨S0, H0, A, env, _, E, hi, fun v H1 s1 r1 => ⟨S0, H0, A, env, _, E.grow s1, hj, fun u H2 s2 r2 => ?_⟩⟩
      rw [Rp] at r1 r2
      subst r1 r2
      refine ⟨i, j, rfl, rfl, k1 i j, rfl, ?_⟩
      by_cases hk : k1 i j = true
      · rw [if_pos hk] at hf
        rw [hk, if_pos rfl]
        split at hf
        · rename_i m hm
          cases hf
          refine ⟨S0, H0, A, env, _, (E.grow s1).grow s2, hm, fun w H3 s3 r3 => ?_⟩
          rw [Rp] at r3
          subst r3
          exact ⟨j, m, rfl, rfl, _, rfl, q H3 ((s1.trans s2).trans s3)⟩
        · cases hf
      · rw [if_neg hk] at hf
        cases hf
        rw [if_neg hk]
        exact ⟨_, rfl, q H2 (s1.trans s2)⟩
    · cases hf
  · cases hf
theorem ce_l' {t : TE} (h : ∀ σ H Q, tF K c fa σ H Q → t σ H Q) {σ : L2.St} {H : Hp} {Q : VK} (q : tE K c (eL fa) σ H Q) : t σ H Q := by
  obtain ⟨S0, H0, A, env, d, E, hf, q⟩ := q
  unfold eL at hf
  cases hd : fa env with
  | none => rw [hd] at hf; cases hf
  | some ds =>
    rw [hd] at hf
    cases hf
    refine h _ _ _ ⟨S0, H0, A, env, ds, E, hd, fun p xs H' hn s hp r => q _ H' s ?_⟩
    rw [Rp]
    exact ⟨p, xs, rfl, .inl ⟨sc_new E hn, .inl hp⟩, r.wide fun _ z => z.1⟩
theorem cs_lcV {i : Nat} {c : Bool} {f : En → Option (List PyData)} {g : PyData → En → Option En} {ga : En → Option Bool} {fe : En → Option PyData} {is : List Nat} (h : PS X st (tAsg (tLc (tI X.K c f) (tG X.K is g) (tT X.K ga) (tE X.K true fe) is) (gName i))) : PS X st (tS X.K (sSet i (eL (fCmp is f g ga fe)))) :=
  ps_w h fun D σ H q => ce_l' (c := true) (fun _ _ _ z => lc_run (fun _ _ _ z => z) z) (set_run q)
theorem cs_lcV1 {i : Nat} {c : Bool} {f : En → Option (List PyData)} {g : PyData → En → Option En} {fe : En → Option PyData} {is : List Nat} (h : PS X st (tAsg (tLc (tI X.K c f) (tG X.K is g) tYes (tE X.K true fe) is) (gName i))) : PS X st (tS X.K (sSet i (eL (fCmp is f g tYes' fe)))) :=
  ps_w h fun D σ H q => ce_l' (c := true) (fun _ _ _ z => lc_run (fun _ _ _ z => yes_run z) z) (set_run q)
end
/-! any, all, sum -/
def boolsD : List PyData → Option (List Bool)
  | [] => some []
  | .bool i :: ds => match boolsD ds with
    | some ns => some (i :: ns)
    | none => none
  | _ :: _ => none
theorem boolsD_rp {K : PySem.W.Frag} {S : Addr → Prop} {H : Hp} : ∀ {ds : List PyData} {ns : List Bool} {xs : List V}, boolsD ds = some ns → RpA K S H ds xs → xs = ns.map V.bl
  | [], ns, xs, h, r => by
    rw [RpA] at r
    cases h
    exact r
  | .bool i :: ds, ns, xs, h, r => by
    rw [RpA] at r
    obtain ⟨v, r', rfl, h1, h2⟩ := r
    rw [Rp] at h1
    simp only [boolsD] at h
    split at h
    · rename_i ms hm
      cases h
      have e1 := boolsD_rp hm h2
      subst h1
      rw [e1]; rfl
    · cases h
  | .none :: _, _, _, h, _ => by cases h
  | .str _ :: _, _, _, h, _ => by cases h
  | .int _ :: _, _, _, h, _ => by cases h
  | .list _ :: _, _, _, h, _ => by cases h
  | .tuple _ :: _, _, _, h, _ => by cases h
  | .dict _ :: _, _, _, h, _ => by cases h
theorem boolsD_map : ∀ ns : List Bool, boolsD (ns.map PyData.bool) = some ns
  | [] => rfl
  | n :: ns => by
    show (match boolsD (ns.map PyData.bool) with | some ns => some (n :: ns) | none => none) = _
    rw [boolsD_map ns]
def anyA : List PyData → Option PyData
  | [.list ds] => (boolsD ds).map fun bs => .bool (bs.any id)
  | _ => none
def allA : List PyData → Option PyData
  | [.list ds] => (boolsD ds).map fun bs => .bool (bs.all id)
  | _ => none
def sumA : List PyData → Option PyData
  | [.list ds] => (intsD ds).map fun ns => .int ns.sum
  | _ => none
theorem cr_any' {K : PySem.W.Frag} : CROk K true (rAny K) anyA := by
  intro S S' H vs ds d Q _ _ r h q
  unfold anyA at h
  split at h
  · obtain ⟨v, rfl, r1⟩ := r.one
    rw [Rp] at r1
    obtain ⟨a, xs, rfl, hs, ra⟩ := r1
    rename_i es
    cases hb : boolsD es with
    | none => rw [hb] at h; cases h
    | some bs =>
      rw [hb] at h
      cases h
      have e1 := boolsD_rp hb ra
      subst e1
      exact ⟨a, bs, rfl, hs.sq, q _ H (Same.refl H) rpb⟩
  · cases h
theorem cr_all' {K : PySem.W.Frag} : CROk K true (rAll K) allA := by
  intro S S' H vs ds d Q _ _ r h q
  unfold allA at h
  split at h
  · obtain ⟨v, rfl, r1⟩ := r.one
    rw [Rp] at r1
    obtain ⟨a, xs, rfl, hs, ra⟩ := r1
    rename_i es
    cases hb : boolsD es with
    | none => rw [hb] at h; cases h
    | some bs =>
      rw [hb] at h
      cases h
      have e1 := boolsD_rp hb ra
      subst e1
      exact ⟨a, bs, rfl, hs.sq, q _ H (Same.refl H) rpb⟩
  · cases h
theorem cr_sum' {K : PySem.W.Frag} : CROk K true (rSum K) sumA := by
  intro S S' H vs ds d Q _ _ r h q
  unfold sumA at h
  split at h
  · obtain ⟨v, rfl, r1⟩ := r.one
    rw [Rp] at r1
    obtain ⟨a, xs, rfl, hs, ra⟩ := r1
    rename_i es
    cases hb : intsD es with
    | none => rw [hb] at h; cases h
    | some ns =>
      rw [hb] at h
      cases h
      obtain ⟨e1, _⟩ := intsD_rp hb ra
      subst e1
      exact ⟨a, ns, rfl, hs.sq, q _ H (Same.refl H) rp1⟩
  · cases h
/-- the law's own end -/
theorem ints_rp {K : PySem.W.Frag} {S : Addr → Prop} {H : Hp} : ∀ ns : List Int, RpA K S H (ns.map PyData.int) (ns.map V.int)
  | [] => RpA.nil
  | n :: ns => RpA.cons rp1 (ints_rp ns)
theorem law_end {K : PySem.W.Frag} {H : Hp} {a : Addr} {ns : List Int} {g : List PyData → Option PyData} {E : XK} (h : SqL K H a (ns.map V.int)) (e : g [.list (ns.map .int)] = some (.bool true)) : spF K g [.ref a] H (fun v _ => v = .bl true) E := by
  refine ⟨fun _ => True, _, _, RpA.cons ?_ RpA.nil, e, fun v H' _ r => by rw [Rp] at r; exact r⟩
  rw [Rp]
  exact ⟨a, _, rfl, LsAt.of trivial h, ints_rp ns⟩
end Mir

namespace Mir
open PySem PySem.Spec PyProof.Rows L2
/-! ### data of ints, of texts -/
theorem intsD_map : ∀ ns : List Int, intsD (ns.map PyData.int) = some ns
  | [] => rfl
  | n :: ns => by
    show (match intsD (ns.map PyData.int) with | some ns => some (n :: ns) | none => none) = _
    rw [intsD_map ns]
theorem strsD_map : ∀ ns : List Str, strsD (ns.map PyData.str) = some ns
  | [] => rfl
  | n :: ns => by
    show (match strsD (ns.map PyData.str) with | some ns => some (n :: ns) | none => none) = _
    rw [strsD_map ns]
/-- a comprehension whose element is k of each item, kept where p -/
theorem compF_filter {g : PyData → En → Option En} {ga : En → Option Bool} {fe : En → Option PyData} {env : En} {p : PyData → Bool} {k : PyData → PyData} : ∀ {ds : List PyData},
    (∀ d ∈ ds, ∃ e1, g d env = some e1 ∧ ga e1 = some (p d) ∧ (p d = true → fe e1 = some (k d))) → compF g ga fe env ds = some ((ds.filter p).map k)
  | [], _ => rfl
  | d :: ds, h => by
    obtain ⟨e1, h1, h2, h3⟩ := h d List.mem_cons_self
    have ih := compF_filter (ds := ds) fun x hx => h x (List.mem_cons_of_mem _ hx)
    simp only [compF, h1, h2]
    cases hp : p d with
    | true =>
      rw [hp] at h3
      simp only [h3 rfl, ih, List.filter_cons, hp, if_true, List.map_cons]
    | false =>
      simp only [ih, List.filter_cons, hp, Bool.false_eq_true, if_false]
theorem compF_map {g : PyData → En → Option En} {fe : En → Option PyData} {env : En} {k : PyData → PyData} {ds : List PyData} (h : ∀ d ∈ ds, ∃ e1, g d env = some e1 ∧ fe e1 = some (k d)) : compF g tYes' fe env ds = some (ds.map k) := by
  have q := compF_filter (g := g) (ga := tYes') (fe := fe) (env := env) (p := fun _ => true) (k := k) (ds := ds) fun d hd => by
    obtain ⟨e1, h1, h2⟩ := h d hd
    exact ⟨e1, h1, rfl, fun _ => h2⟩
  rw [q, List.filter_eq_self.mpr (fun _ _ => rfl)]
theorem compF_mapS {α : Type} {g : PyData → En → Option En} {fe : En → Option PyData} {env : En} {c : α → PyData} {k : α → PyData} : ∀ {xs : List α}, (∀ x ∈ xs, ∃ e1, g (c x) env = some e1 ∧ fe e1 = some (k x)) → compF g tYes' fe env (xs.map c) = some (xs.map k)
  | [], _ => rfl
  | x :: xs, h => by
    obtain ⟨e1, h1, h2⟩ := h x List.mem_cons_self
    have ih := compF_mapS (xs := xs) fun y hy => h y (List.mem_cons_of_mem _ hy)
    show compF g tYes' fe env (c x :: xs.map c) = _
    simp only [compF, h1, tYes', h2]
    rw [ih]
    rfl
/-! ### joined texts -/
def jl (ws : List Str) : Nat := (Txt.join (" " : Str) ws).length
theorem spc_len : ((" " : Str)).length = 1 := by decide +kernel
theorem len_app (x y : Str) : (x ++ y).length = x.length + y.length := by
  show (x.cps ++ y.cps).size = x.cps.size + y.cps.size
  simp
theorem jl_nil : jl [] = 0 := by
  unfold jl
  rw [TL.join_eq]
  rfl
theorem jl_one (w : Str) : jl [w] = w.length := by
  unfold jl
  rw [TL.join_eq]
  rfl
theorem jl_cons (w y : Str) (r : List Str) : jl (w :: y :: r) = w.length + 1 + jl (y :: r) := by
  unfold jl
  rw [TL.join_eq, TL.join_eq]
  show (w ++ (" " : Str) ++ Str.join (" " : Str) (y :: r)).length = _
  rw [len_app, len_app, spc_len]
theorem jl_snoc : ∀ (l : List Str) (w : Str), l ≠ [] → jl (l ++ [w]) = jl l + 1 + w.length
  | [], _, h => absurd rfl h
  | [x], w, _ => by
    show jl (x :: w :: []) = _
    rw [jl_cons, jl_one, jl_one]
  | x :: y :: r, w, _ => by
    show jl (x :: y :: (r ++ [w])) = _
    have ih := jl_snoc (y :: r) w (by simp)
    rw [jl_cons, jl_cons]
    rw [show jl (y :: (r ++ [w])) = jl (y :: r) + 1 + w.length from ih]
    omega
theorem jl_le : ∀ (l : List Str), (∀ w ∈ l, w.length ≤ 8) → jl l ≤ 9 * l.length
  | [], _ => by rw [jl_nil]; exact Nat.zero_le _
  | [x], h => by
    rw [jl_one]
    have := h x List.mem_cons_self
    simp
    omega
  | x :: y :: r, h => by
    rw [jl_cons]
    have h1 := h x List.mem_cons_self
    have h2 := jl_le (y :: r) fun w hw => h w (List.mem_cons_of_mem _ hw)
    rw [List.length_cons]
    omega
theorem word_le_jl : ∀ (l : List Str) (w : Str), w ∈ l → w.length ≤ jl l
  | [], _, h => by cases h
  | [x], w, h => by
    rw [jl_one]
    rw [List.mem_singleton.mp h]
    exact Nat.le_refl _
  | x :: y :: r, w, h => by
    rw [jl_cons]
    rcases List.mem_cons.mp h with h | h
    · subst h; omega
    · have := word_le_jl (y :: r) w h
      omega
/-! ### texts in tuples compared -/
theorem eqv_strs : ∀ xs ys : List Str, PyData.eqvAll (xs.map PyData.str) (ys.map PyData.str) = decide (xs = ys)
  | [], [] => by simp [PyData.eqvAll]
  | [], y :: ys => by simp [PyData.eqvAll]
  | x :: xs, [] => by simp [PyData.eqvAll]
  | x :: xs, y :: ys => by
    simp only [List.map_cons, PyData.eqvAll, PyData.eqv, eqv_strs xs ys]
    by_cases h : x = y
    · subst h
      simp
    · simp [h]
theorem lay_strs : ∀ xs : List Str, (∀ x ∈ xs, PyData.strOk x = true) → PyData.canLayAll0 (xs.map PyData.str) = true
  | [], _ => by simp [PyData.canLayAll0]
  | x :: xs, h => by
    simp only [List.map_cons, PyData.canLayAll0, PyData.canLay0, h x List.mem_cons_self, lay_strs xs (fun y hy => h y (List.mem_cons_of_mem _ hy)), Bool.and_self]
theorem depth_strs : ∀ xs : List Str, PyData.depthAll (xs.map PyData.str) = 0
  | [] => by simp [PyData.depthAll]
  | x :: xs => by simp [PyData.depthAll, PyData.depth, depth_strs xs]
theorem shaped_strs (xs : List Str) (h : ∀ x ∈ xs, PyData.strOk x = true) : SeqAt.shaped (.tuple (xs.map PyData.str)) = true := by
  unfold SeqAt.shaped
  simp [PyData.canLay0, lay_strs xs h, PyData.depth, depth_strs]
theorem shaped_int (i : Int) : SeqAt.shaped (.int i) = true := by
  unfold SeqAt.shaped
  simp [PyData.canLay0, PyData.depth]
theorem shaped_none : SeqAt.shaped .none = true := by
  unfold SeqAt.shaped
  simp [PyData.canLay0, PyData.depth]
theorem shaped_bool (i : Bool) : SeqAt.shaped (.bool i) = true := by
  unfold SeqAt.shaped
  simp [PyData.canLay0, PyData.depth]
theorem eqD_int (i j : Int) : eqD (.int i) (.int j) = some (.bool (decide (i = j))) := by
  unfold eqD
  rw [shaped_int, shaped_int]
  simp only [Bool.and_self, if_true, PyData.eqv]
  congr 2
theorem neD_int (i j : Int) : neD (.int i) (.int j) = some (.bool (!decide (i = j))) := by
  unfold neD
  rw [shaped_int, shaped_int]
  simp only [Bool.and_self, if_true, PyData.eqv]
  congr 3
theorem eqD_strs (xs ys : List Str) (h : ∀ x ∈ xs, PyData.strOk x = true) (h' : ∀ x ∈ ys, PyData.strOk x = true) : eqD (.tuple (xs.map PyData.str)) (.tuple (ys.map PyData.str)) = some (.bool (decide (xs = ys))) := by
  unfold eqD
  rw [shaped_strs xs h, shaped_strs ys h']
  simp only [Bool.and_self, if_true, PyData.eqv, eqv_strs]
theorem addD_tup {xs ys : List PyData} (h : xs.length + ys.length ≤ 1000000) : addD (.tuple xs) (.tuple ys) = some (.tuple (xs ++ ys)) := by
  simp only [addD, h, if_true]
theorem addD_list {xs ys : List PyData} (h : xs.length + ys.length ≤ 1000000) : addD (.list xs) (.list ys) = some (.list (xs ++ ys)) := by
  simp only [addD, h, if_true]
theorem addD_str {x y : Str} (h : x.length + y.length ≤ 1000000) : addD (.str x) (.str y) = some (.str (x ++ y)) := by
  simp only [addD, h, if_true]
/-! ### loops by a word -/
theorem loop_ix {g : PyData → En → Option En} {b : En → Out} (P : Nat → En → Prop) : ∀ (ds : List PyData) (k : Nat) (e : En), (∀ (j : Nat) d e, ds[j]? = some d → P (k + j) e → ∃ e1, g d e = some e1 ∧ ∃ e2, (b e1 = .nx e2 ∨ b e1 = .ct e2) ∧ P (k + j + 1) e2) → P k e → ∃ e', loopF g b ds e = .nx e' ∧ P (k + ds.length) e'
  | [], k, e, _, h => ⟨e, rfl, h⟩
  | d :: ds, k, e, st, h => by
    obtain ⟨e1, h1, e2, h2, h3⟩ := st 0 d e rfl h
    obtain ⟨e', h4, h5⟩ := loop_ix P ds (k + 1) e2 (fun j d' e' hj hp => by
      have hp' : P (k + (j + 1)) e' := by rw [show k + (j + 1) = k + 1 + j by omega]; exact hp
      have := st (j + 1) d' e' (by simpa using hj) hp'
      rw [show k + (j + 1) + 1 = k + 1 + j + 1 by omega] at this
      exact this) h3
    refine ⟨e', ?_, by rw [List.length_cons, show k + (ds.length + 1) = k + 1 + ds.length by omega]; exact h5⟩
    rcases h2 with h2 | h2 <;> (simp only [loopF, h1, h2]; exact h4)
theorem loop_rng {g : PyData → En → Option En} {b : En → Out} (P : Nat → En → Prop) {lo : Int} {n : Nat} {e : En} (st : ∀ (j : Nat) e, j < n → P j e → ∃ e1, g (.int (lo + (j : Nat))) e = some e1 ∧ ∃ e2, (b e1 = .nx e2 ∨ b e1 = .ct e2) ∧ P (j + 1) e2) (h : P 0 e) : ∃ e', loopF g b (rngD lo n) e = .nx e' ∧ P n e' := by
  obtain ⟨e', h1, h2⟩ := loop_ix P (rngD lo n) 0 e (fun j d e hj hp => by
    have hd := rng_get hj
    obtain ⟨l, _⟩ := List.getElem?_eq_some_iff.mp hj
    rw [rng_len] at l
    subst hd
    rw [Nat.zero_add] at hp ⊢
    exact st j e l hp) h
  rw [rng_len, Nat.zero_add] at h2
  exact ⟨e', h1, h2⟩
theorem atI_map {α : Type} (f : α → PyData) (xs : List α) (j : Nat) (x : α) (h : xs[j]? = some x) : atI (xs.map f) (j : Int) = some (f x) := atI_nat (by rw [List.getElem?_map, h]; rfl)
theorem noL_ints : ∀ ns : List Int, noLA (ns.map PyData.int) = true
  | [] => rfl
  | n :: ns => by
    show (noL (.int n) && noLA (ns.map PyData.int)) = true
    rw [noL_ints ns]; rfl
theorem sSeq_nx {s t : En → Out} {env e : En} (h : s env = .nx e) : sSeq s t env = t e := by
  unfold sSeq
  rw [h]
theorem sSeq_rt {s t : En → Out} {env : En} {d : PyData} (h : s env = .rt d) : sSeq s t env = .rt d := by
  unfold sSeq
  rw [h]
theorem addD_int (i j : Int) : addD (.int i) (.int j) = some (.int (i + j)) := rfl
theorem subD_int (i j : Int) : subD (.int i) (.int j) = some (.int (i - j)) := rfl
theorem mulD_int {i j : Int} (h : CMul i j) : mulD (.int i) (.int j) = some (.int (i * j)) := if_pos h
theorem modD_int {i j : Int} (h : 0 < j) : modD (.int i) (.int j) = some (.int (i % j)) := if_pos h
theorem divD_int {i j : Int} (h : CDiv i j) : divD (.int i) (.int j) = some (.int (i / j)) := if_pos h
theorem powD_int {i j : Int} (h : CPow i j) : powD (.int i) (.int j) = some (.int (i ^ j.toNat)) := if_pos h
theorem ltD_int (i j : Int) : ltD (.int i) (.int j) = some (.bool (decide (i < j))) := rfl
theorem leD_int (i j : Int) : leD (.int i) (.int j) = some (.bool (decide (i ≤ j))) := rfl
theorem gtD_int (i j : Int) : gtD (.int i) (.int j) = some (.bool (decide (j < i))) := rfl
theorem geD_int (i j : Int) : geD (.int i) (.int j) = some (.bool (decide (j ≤ i))) := rfl
/-! a draw, its numbers kept as letters -/
theorem draw_s1 (a b M : Int) (c' m k : Int) (n : Nat) (ds : List Int) (w y : Sl) (k1 : CMul c' a) (k2 : CMul k b) (k3 : 0 < M) (hm : (c' * a + k * b) % M = m) :
    (sSet 5 (e2 modD (eCall intA (aCons (e2 addD (e2 mulD (eVar 0) (eC (.int a))) (e2 mulD (eVar 4) (eC (.int b)))) aNil)) (eC (.int M)))) [.val (.int c'), .val (.int n), .own (ds.map .int), w, .val (.int k), y] = .nx [.val (.int c'), .val (.int n), .own (ds.map .int), w, .val (.int k), .val (.int m)] := by
  have k1 := mulD_int k1
  have k2 := mulD_int k2
  have k5 := modD_int (i := c' * a + k * b) k3
  rw [hm] at k5
  simp only [sSet, e2, eCall, aCons, aNil, intA, eC, eVar, List.getElem?_cons_zero, List.getElem?_cons_succ, List.set_cons_zero, List.set_cons_succ, addD_int, k1, k2, k5]
theorem draw_s2 (a M L : Int) (c' m k : Int) (n : Nat) (ds : List Int) (w : Sl) (hl : ds.length < 1000000) (k3 : CMul c' a) (k4 : CMul m m) (k6 : 0 < M) :
    (sApp 2 (e2 modD (eCall intA (aCons (e2 addD (e2 addD (e2 mulD (eVar 5) (eVar 5)) (e2 mulD (eVar 0) (eC (.int a)))) (eVar 4)) aNil)) (eC (.int M)))) [.val (.int c'), .val (.int n), .own (ds.map .int), w, .val (.int k), .val (.int m)] = .nx [.val (.int c'), .val (.int n), .own ((ds ++ [(m * m + c' * a + k) % M]).map .int), w, .val (.int k), .val (.int m)] := by
  have k3 := mulD_int k3
  have k4 := mulD_int k4
  have k6 := modD_int (i := m * m + c' * a + k) k6
  simp only [sApp, e2, eCall, aCons, aNil, intA, eC, eVar, List.getElem?_cons_zero, List.getElem?_cons_succ, addD_int, k3, k4, k6, List.length_map, hl, if_true, List.set_cons_zero, List.set_cons_succ, List.map_append, List.map_cons, List.map_nil]
theorem draw_s1' (a b M : Int) (c' m k : Int) (n : Nat) (ds : List Int) (w y : Sl) (k1 : CMul c' a) (k2 : CMul k b) (k3 : 0 < M) (hm : (c' * a + k * b) % M = m) :
    (sSet 5 (e2 modD (e2 addD (e2 mulD (eVar 0) (eC (.int a))) (e2 mulD (eVar 4) (eC (.int b)))) (eC (.int M)))) [.val (.int c'), .val (.int n), .own (ds.map .int), w, .val (.int k), y] = .nx [.val (.int c'), .val (.int n), .own (ds.map .int), w, .val (.int k), .val (.int m)] := by
  have k1 := mulD_int k1
  have k2 := mulD_int k2
  have k5 := modD_int (i := c' * a + k * b) k3
  rw [hm] at k5
  simp only [sSet, e2, eC, eVar, List.getElem?_cons_zero, List.getElem?_cons_succ, List.set_cons_zero, List.set_cons_succ, addD_int, k1, k2, k5]
theorem draw_s2' (a M L : Int) (c' m k : Int) (n : Nat) (ds : List Int) (w : Sl) (hl : ds.length < 1000000) (k3 : CMul c' a) (k4 : CMul m m) (k6 : 0 < M) :
    (sApp 2 (e2 modD (e2 addD (e2 addD (e2 mulD (eVar 5) (eVar 5)) (e2 mulD (eVar 0) (eC (.int a)))) (eVar 4)) (eC (.int M)))) [.val (.int c'), .val (.int n), .own (ds.map .int), w, .val (.int k), .val (.int m)] = .nx [.val (.int c'), .val (.int n), .own ((ds ++ [(m * m + c' * a + k) % M]).map .int), w, .val (.int k), .val (.int m)] := by
  have k3 := mulD_int k3
  have k4 := mulD_int k4
  have k6 := modD_int (i := m * m + c' * a + k) k6
  simp only [sApp, e2, eC, eVar, List.getElem?_cons_zero, List.getElem?_cons_succ, addD_int, k3, k4, k6, List.length_map, hl, if_true, List.set_cons_zero, List.set_cons_succ, List.map_append, List.map_cons, List.map_nil]
theorem draw_t (M : Int) (c' : Int) (n : Nat) (ds : List Int) (w x y : Sl) (hl : ds.length < 1000000) (k1 : 0 < M) (k2 : M < 1073741824) :
    sSeq (sApp 2 (e2 modD (eCall intA (aCons (eVar 0) aNil)) (eC (.int M)))) (sSet 0 (e2 divD (eVar 0) (eC (.int M)))) [.val (.int c'), .val (.int n), .own (ds.map .int), w, x, y] = .nx [.val (.int (c' / M)), .val (.int n), .own ((ds ++ [c' % M]).map .int), w, x, y] := by
  have h1 := modD_int (i := c') k1
  have h2 := divD_int (i := c') (j := M) ⟨k1, k2⟩
  simp only [sSeq, sApp, sSet, e2, eCall, aCons, aNil, intA, eC, eVar, List.getElem?_cons_zero, List.getElem?_cons_succ, List.set_cons_zero, List.set_cons_succ, h1, h2, hl, if_true, List.length_map, List.map_append, List.map_cons, List.map_nil]
theorem draw_t' (M : Int) (c' : Int) (n : Nat) (ds : List Int) (w x y : Sl) (hl : ds.length < 1000000) (k1 : 0 < M) (k2 : M < 1073741824) :
    sSeq (sApp 2 (e2 modD (eVar 0) (eC (.int M)))) (sSet 0 (e2 divD (eVar 0) (eC (.int M)))) [.val (.int c'), .val (.int n), .own (ds.map .int), w, x, y] = .nx [.val (.int (c' / M)), .val (.int n), .own ((ds ++ [c' % M]).map .int), w, x, y] := by
  have h1 := modD_int (i := c') k1
  have h2 := divD_int (i := c') (j := M) ⟨k1, k2⟩
  simp only [sSeq, sApp, sSet, e2, eC, eVar, List.getElem?_cons_zero, List.getElem?_cons_succ, List.set_cons_zero, List.set_cons_succ, h1, h2, hl, if_true, List.length_map, List.map_append, List.map_cons, List.map_nil]
theorem sIf_t {ga : En → Option Bool} {s t : En → Out} {env : En} (h : ga env = some true) : sIf ga s t env = s env := by
  unfold sIf
  rw [h]
theorem sIf_f {ga : En → Option Bool} {s t : En → Out} {env : En} (h : ga env = some false) : sIf ga s t env = t env := by
  unfold sIf
  rw [h]
theorem iR1_ev {fa : En → Option (List PyData)} {env : En} {N : Int} (h : fa env = some [.int N]) (h1 : N < 1000000) (h2 : -1000000 < N) : iR1 fa env = some (rngD 0 N.toNat) := by
  unfold iR1
  rw [h]
  exact if_pos ⟨h1, h2⟩
theorem iR2_ev {fa : En → Option (List PyData)} {env : En} {M N : Int} (h : fa env = some [.int M, .int N]) (h1 : N < 1000000000) (h2 : -1000000000 < N) (h3 : M < 1000000000) (h4 : -1000000000 < M) : iR2 fa env = some (rngD M (N - M).toNat) := by
  unfold iR2
  rw [h]
  exact if_pos ⟨⟨h1, h2⟩, h3, h4⟩
/-- a loop that may be left by a return -/
theorem loop_any {g : PyData → En → Option En} {b : En → Out} (P : Nat → En → Prop) (Q : PyData → Prop) : ∀ (ds : List PyData) (k : Nat) (e : En), (∀ (j : Nat) d e, ds[j]? = some d → P (k + j) e → ∃ e1, g d e = some e1 ∧ ((∃ e2, (b e1 = .nx e2 ∨ b e1 = .ct e2) ∧ P (k + j + 1) e2) ∨ ∃ v, b e1 = .rt v ∧ Q v)) → P k e →
    (∃ e', loopF g b ds e = .nx e' ∧ P (k + ds.length) e') ∨ ∃ v, loopF g b ds e = .rt v ∧ Q v
  | [], k, e, _, h => .inl ⟨e, rfl, h⟩
  | d :: ds, k, e, st, h => by
    obtain ⟨e1, h1, h2⟩ := st 0 d e rfl h
    rcases h2 with ⟨e2, h2, h3⟩ | ⟨v, h2, h3⟩
    · have ih := loop_any P Q ds (k + 1) e2 (fun j d' e' hj hp => by
        have hp' : P (k + (j + 1)) e' := by rw [show k + (j + 1) = k + 1 + j by omega]; exact hp
        have := st (j + 1) d' e' (by simpa using hj) hp'
        rw [show k + (j + 1) + 1 = k + 1 + j + 1 by omega] at this
        exact this) h3
      have e0 : loopF g b (d :: ds) e = loopF g b ds e2 := by
        rcases h2 with h2 | h2 <;> simp only [loopF, h1, h2]
      rw [e0, List.length_cons, show k + (ds.length + 1) = k + 1 + ds.length by omega]
      exact ih
    · exact .inr ⟨v, by simp only [loopF, h1, h2], h3⟩
theorem loop_rngA {g : PyData → En → Option En} {b : En → Out} (P : Nat → En → Prop) (Q : PyData → Prop) {lo : Int} {n : Nat} {e : En} (st : ∀ (j : Nat) e, j < n → P j e → ∃ e1, g (.int (lo + (j : Nat))) e = some e1 ∧ ((∃ e2, (b e1 = .nx e2 ∨ b e1 = .ct e2) ∧ P (j + 1) e2) ∨ ∃ v, b e1 = .rt v ∧ Q v)) (h : P 0 e) :
    (∃ e', loopF g b (rngD lo n) e = .nx e' ∧ P n e') ∨ ∃ v, loopF g b (rngD lo n) e = .rt v ∧ Q v := by
  have := loop_any P Q (rngD lo n) 0 e (fun j d e hj hp => by
    have hd := rng_get hj
    obtain ⟨l, _⟩ := List.getElem?_eq_some_iff.mp hj
    rw [rng_len] at l
    subst hd
    rw [Nat.zero_add] at hp ⊢
    exact st j e l hp) h
  rw [rng_len, Nat.zero_add] at this
  exact this
/-! evaluation, step by step -/
section
variable {env env' : En} {f g h : En → Option PyData} {fa : En → Option (List PyData)} {x y d : PyData} {ds : List PyData}
theorem e2_ev {k : PyData → PyData → Option PyData} (h1 : f env = some x) (h2 : g env = some y) (h3 : k x y = some d) : e2 k f g env = some d := by
  unfold e2
  rw [h1, h2]
  exact h3
theorem aCons_ev (h1 : f env = some x) (h2 : fa env = some ds) : aCons f fa env = some (x :: ds) := by
  unfold aCons
  rw [h1, h2]
theorem aNil_ev : aNil env = some [] := rfl
theorem eCall_ev {k : List PyData → Option PyData} (h1 : fa env = some ds) (h2 : k ds = some d) : eCall k fa env = some d := by
  unfold eCall
  rw [h1]
  exact h2
theorem sSet_ev {i : Nat} (h1 : f env = some d) : sSet i f env = .nx (env.set i (.val d)) := by
  unfold sSet
  rw [h1]
theorem sOwn_ev {i : Nat} (h1 : fa env = some ds) : sOwn i fa env = .nx (env.set i (.own ds)) := by
  unfold sOwn
  rw [h1]
theorem sRet_ev (h1 : f env = some d) : sRet f env = .rt d := by
  unfold sRet
  rw [h1]
theorem sApp_ev {i : Nat} (h1 : f env = some d) (h2 : env[i]? = some (.own ds)) (h3 : ds.length < 1000000) : sApp i f env = .nx (env.set i (.own (ds ++ [d]))) := by
  unfold sApp
  rw [h1, h2]
  exact if_pos h3
theorem sFor_ev {k : PyData → En → Option En} {b : En → Out} {o : Out} (h1 : fa env = some ds) (h2 : loopF k b ds env = o) : sFor fa k b env = o := by
  unfold sFor
  rw [h1]
  exact h2
theorem eL_ev (h1 : fa env = some ds) : eL fa env = some (.list ds) := by
  unfold eL
  rw [h1]
  rfl
theorem t1_ev {b : Bool} (h1 : f env = some (.bool b)) : t1 f env = some b := by
  unfold t1
  rw [h1]
theorem and_t {ga gb : En → Option Bool} {b : Bool} (h1 : ga env = some true) (h2 : gb env = some b) : tAnd' ga gb env = some b := by
  unfold tAnd'
  rw [h1]
  exact h2
theorem and_f {ga gb : En → Option Bool} (h1 : ga env = some false) : tAnd' ga gb env = some false := by
  unfold tAnd'
  rw [h1]
theorem or_t {ga gb : En → Option Bool} (h1 : ga env = some true) : tOr' ga gb env = some true := by
  unfold tOr'
  rw [h1]
theorem or_f {ga gb : En → Option Bool} {b : Bool} (h1 : ga env = some false) (h2 : gb env = some b) : tOr' ga gb env = some b := by
  unfold tOr'
  rw [h1]
  exact h2
theorem not_ev {ga : En → Option Bool} {b : Bool} (h1 : ga env = some b) : tNot' ga env = some (!b) := by
  unfold tNot'
  rw [h1]
  rfl
theorem eIf_t {ga : En → Option Bool} (h1 : ga env = some true) (h2 : f env = some d) : eIf ga f g env = some d := by
  unfold eIf
  rw [h1]
  exact h2
theorem eIf_f {ga : En → Option Bool} (h1 : ga env = some false) (h2 : g env = some d) : eIf ga f g env = some d := by
  unfold eIf
  rw [h1]
  exact h2
theorem eTup_ev (h1 : fa env = some ds) (h2 : ds.length ≤ 1000000) : eTup fa env = some (.tuple ds) := by
  unfold eTup
  rw [h1]
  exact if_pos h2
theorem fLst_ev (h1 : fa env = some ds) (h2 : ds.length ≤ 1000000) : fLst fa env = some ds := by
  unfold fLst
  rw [h1]
  exact if_pos h2
theorem fCmp_ev {is : List Nat} {k : PyData → En → Option En} {ga : En → Option Bool} {fe : En → Option PyData} {vs : List PyData} (h1 : fa env = some ds) (h2 : compF k ga fe (wipeE env is) ds = some vs) (h3 : vs.length ≤ 1000000) : fCmp is fa k ga fe env = some vs := by
  unfold fCmp
  simp only [h1, h2]
  exact if_pos h3
theorem eIsi_ev {T : String} {b : Bool} (h1 : f env = some d) (h2 : isiB T (tyD d) = some b) : eIsi T f env = some (.bool b) := by
  unfold eIsi
  rw [h1]
  simp only [h2]
  rfl
theorem tTr_ev {b : Bool} (h1 : f env = some d) (h2 : truD d = some b) : tTr f env = some b := by
  unfold tTr
  rw [h1]
  exact h2
theorem outD_rt {o : Out} (h : o = .rt d) : outD o = some d := by rw [h]; rfl
end
theorem gDef_ev {np nN : Nat} {fB : En → Out} {ds : List PyData} {d : PyData} (h1 : ds.length = np) (h2 : fB (env0 nN ds) = .rt d) : gDef np nN fB ds = some d := by
  unfold gDef
  rw [if_pos h1, h2]
  rfl
/-! draws read; pairs of ints -/
theorem dr_at {ds : List Int} {env : En} {i j : Nat} {k : Int} (h : eVar i env = some (.list (ds.map .int))) (hj : j < ds.length) (hk : k = (j : Nat)) : e2 ixG (eVar i) (eC (.int k)) env = some (.int (ds.getD j 0)) := by
  refine e2_ev h rfl ?_
  subst hk
  refine (atI_map PyData.int ds j (ds.getD j 0) ?_)
  simp [List.getD, hj]
theorem dr_int {ds : List Int} {env : En} {i j : Nat} {k : Int} (h : eVar i env = some (.list (ds.map .int))) (hj : j < ds.length) (hk : k = (j : Nat)) : eCall intA (aCons (e2 ixG (eVar i) (eC (.int k))) aNil) env = some (.int (ds.getD j 0)) :=
  eCall_ev (aCons_ev (dr_at h hj hk) aNil_ev) rfl
theorem dr_mod {ds : List Int} {env : En} {i j : Nat} {k m : Int} (h : eVar i env = some (.list (ds.map .int))) (hj : j < ds.length) (hk : k = (j : Nat)) (hm : 0 < m) : e2 modD (eCall intA (aCons (e2 ixG (eVar i) (eC (.int k))) aNil)) (eC (.int m)) env = some (.int (ds.getD j 0 % m)) :=
  e2_ev (dr_int h hj hk) rfl (modD_int hm)
theorem dr_mod' {ds : List Int} {env : En} {i j : Nat} {k m : Int} (h : eVar i env = some (.list (ds.map .int))) (hj : j < ds.length) (hk : k = (j : Nat)) (hm : 0 < m) : e2 modD (e2 ixG (eVar i) (eC (.int k))) (eC (.int m)) env = some (.int (ds.getD j 0 % m)) :=
  e2_ev (dr_at h hj hk) rfl (modD_int hm)
theorem mod_lt (x m : Int) (h : 0 < m) : 0 ≤ x % m ∧ x % m < m := ⟨Int.emod_nonneg _ (by omega), Int.emod_lt_of_pos _ h⟩
abbrev pr (p : Int × Int) : PyData := .tuple [.int p.1, .int p.2]
theorem shaped_pr (p : Int × Int) : SeqAt.shaped (pr p) = true := by
  unfold SeqAt.shaped
  simp [pr, PyData.canLay0, PyData.canLayAll0, PyData.depth, PyData.depthAll]
theorem lay_prs : ∀ ps : List (Int × Int), PyData.canLayAll0 (ps.map pr) = true ∧ PyData.depthAll (ps.map pr) ≤ 1
  | [] => by simp [PyData.canLayAll0, PyData.depthAll]
  | p :: ps => by
    obtain ⟨h1, h2⟩ := lay_prs ps
    simp only [List.map_cons, PyData.canLayAll0, PyData.depthAll, h1]
    simp [pr, PyData.canLay0, PyData.canLayAll0, PyData.depth, PyData.depthAll]
    omega
theorem shaped_prs (ps : List (Int × Int)) : SeqAt.shaped (.list (ps.map pr)) = true := by
  unfold SeqAt.shaped
  obtain ⟨h1, h2⟩ := lay_prs ps
  simp [PyData.canLay0, h1, PyData.depth]
  omega
theorem eqv_pr (p q : Int × Int) : PyData.eqv (pr p) (pr q) = decide (p = q) := by
  obtain ⟨a, b⟩ := p
  obtain ⟨c, d⟩ := q
  simp only [pr, PyData.eqv, PyData.eqvAll]
  by_cases h1 : a = c
  · by_cases h2 : b = d
    · simp [h1, h2]
    · simp [h1, h2]
  · simp [h1]
theorem any_pr (p : Int × Int) : ∀ ps : List (Int × Int), ((ps.map pr).any fun z => PyData.eqv z (pr p)) = decide (p ∈ ps)
  | [] => by simp
  | q :: ps => by
    rw [List.map_cons, List.any_cons, any_pr p ps, eqv_pr]
    by_cases h : q = p
    · simp [h]
    · have : ¬ p = q := fun e => h e.symm
      simp [h, this]
theorem inD_pr (p : Int × Int) (ps : List (Int × Int)) : inD (pr p) (.list (ps.map pr)) = some (.bool (decide (p ∈ ps))) := by
  unfold inD
  simp only [shaped_pr, shaped_prs, any_pr, Bool.and_self, if_true]
theorem notInD_pr (p : Int × Int) (ps : List (Int × Int)) : notInD (pr p) (.list (ps.map pr)) = some (.bool (!decide (p ∈ ps))) := by
  unfold notInD
  simp only [shaped_pr, shaped_prs, any_pr, Bool.and_self, if_true]
theorem eNot_ev {f : En → Option PyData} {env : En} {b : Bool} (h : f env = some (.bool b)) : eNot f env = some (.bool (!b)) := by
  unfold eNot
  rw [h]
theorem eN_ev {f : En → Option PyData} {env : En} {d : PyData} (h : f env = some d) (hn : noL d = true) : eN f env = some d := by
  unfold eN
  rw [h]
  exact if_pos hn
theorem eTupO_ev {i : Nat} {env : En} {ds : List PyData} (h : env[i]? = some (.own ds)) : eTupO i env = some (.tuple ds) := by
  unfold eTupO
  rw [h]
theorem eIxO_ev {i : Nat} {env : En} {ds : List PyData} {g : En → Option PyData} {k : Int} {d : PyData} (h : env[i]? = some (.own ds)) (h1 : g env = some (.int k)) (h2 : atI ds k = some d) : eIxO i g env = some d := by
  unfold eIxO
  rw [h]
  simp only [h1]
  exact h2
end Mir

namespace K20
open PySem PySem.Spec PyProof.Rows L2 Mir
def topS (i : Nat) : Stmt := PySem.Challenge.pw_boundbook_k20_pages.main.body.getD i (.Pass ⟨0, 0, 0, 0⟩)
abbrev s_covers_both : Stmt := topS 1
abbrev N_covers_both : List Str := ["cell", "row"]
theorem sc_covers_both : FnScope N_covers_both ["cell", "row"] (defScope s_covers_both) := ⟨rfl, rfl, rfl, by decide +kernel, rfl, by decide +kernel, by decide +kernel⟩
abbrev s_head_count : Stmt := topS 2
abbrev N_head_count : List Str := ["table", "row"]
theorem sc_head_count : FnScope N_head_count ["table"] (defScope s_head_count) := ⟨rfl, rfl, rfl, by decide +kernel, rfl, by decide +kernel, by decide +kernel⟩
abbrev s_breakable_rows : Stmt := topS 3
abbrev N_breakable_rows : List Str := ["table", "rows", "cells", "found", "row", "keeps", "cell"]
theorem sc_breakable_rows : FnScope N_breakable_rows ["table"] (defScope s_breakable_rows) := ⟨rfl, rfl, rfl, by decide +kernel, rfl, by decide +kernel, by decide +kernel⟩
abbrev s_height_of_page : Stmt := topS 5
abbrev N_height_of_page : List Str := ["row_lines", "head", "first", "behind"]
theorem sc_height_of_page : FnScope N_height_of_page ["row_lines", "head", "first", "behind"] (defScope s_height_of_page) := ⟨rfl, rfl, rfl, by decide +kernel, rfl, by decide +kernel, by decide +kernel⟩
abbrev s_paginate : Stmt := topS 6
abbrev N_paginate : List Str := ["table", "row_lines", "page_height", "head", "count", "fits", "ends", "pages", "first", "fitting", "behind"]
theorem sc_paginate : FnScope N_paginate ["table", "row_lines", "page_height"] (defScope s_paginate) := ⟨rfl, rfl, rfl, by decide +kernel, rfl, by decide +kernel, by decide +kernel⟩
abbrev s_Lcell : Stmt := topS 8
abbrev N_Lcell : List Str := ["script", "k"]
theorem sc_Lcell : FnScope N_Lcell ["script", "k"] (defScope s_Lcell) := ⟨rfl, rfl, rfl, by decide +kernel, rfl, by decide +kernel, by decide +kernel⟩
abbrev s_Ldraws : Stmt := topS 9
abbrev N_Ldraws : List Str := ["cell", "count", "found", "is_wide", "k", "mixed"]
theorem sc_Ldraws : FnScope N_Ldraws ["cell", "count"] (defScope s_Ldraws) := ⟨rfl, rfl, rfl, by decide +kernel, rfl, by decide +kernel, by decide +kernel⟩
abbrev s_Lwords : Stmt := topS 10
abbrev N_Lwords : List Str := ["cell", "draws", "pool", "k"]
theorem sc_Lwords : FnScope N_Lwords ["cell"] (defScope s_Lwords) := ⟨rfl, rfl, rfl, by decide +kernel, rfl, by decide +kernel, by decide +kernel⟩
abbrev s_Lcolumn : Stmt := topS 11
abbrev N_Lcolumn : List Str := ["cell", "draws", "least", "most", "percent"]
theorem sc_Lcolumn : FnScope N_Lcolumn ["cell"] (defScope s_Lcolumn) := ⟨rfl, rfl, rfl, by decide +kernel, rfl, by decide +kernel, by decide +kernel⟩
abbrev s_Lis_free : Stmt := topS 12
abbrev N_Lis_free : List Str := ["taken", "row", "column", "height", "width", "k"]
theorem sc_Lis_free : FnScope N_Lis_free ["taken", "row", "column", "height", "width"] (defScope s_Lis_free) := ⟨rfl, rfl, rfl, by decide +kernel, rfl, by decide +kernel, by decide +kernel⟩
abbrev s_Lcells : Stmt := topS 13
abbrev N_Lcells : List Str := ["script", "start", "rows", "columns", "heads", "taken", "cells", "place", "row", "column", "draws", "height", "width", "k"]
theorem sc_Lcells : FnScope N_Lcells ["script", "start", "rows", "columns", "heads"] (defScope s_Lcells) := ⟨rfl, rfl, rfl, by decide +kernel, rfl, by decide +kernel, by decide +kernel⟩
abbrev s_Ltable : Stmt := topS 14
abbrev N_Ltable : List Str := ["script", "start", "draws", "columns", "rows", "heads", "made", "row", "more", "settings", "k"]
theorem sc_Ltable : FnScope N_Ltable ["script", "start"] (defScope s_Ltable) := ⟨rfl, rfl, rfl, by decide +kernel, rfl, by decide +kernel, by decide +kernel⟩
abbrev s_Lmay_end : Stmt := topS 15
abbrev N_Lmay_end : List Str := ["table", "heads", "behind", "cell"]
theorem sc_Lmay_end : FnScope N_Lmay_end ["table", "heads", "behind"] (defScope s_Lmay_end) := ⟨rfl, rfl, rfl, by decide +kernel, rfl, by decide +kernel, by decide +kernel⟩
abbrev s_Ldivisions : Stmt := topS 16
abbrev N_Ldivisions : List Str := ["table", "lines", "most", "heads", "first", "found", "behind", "height", "rest"]
theorem sc_Ldivisions : FnScope N_Ldivisions ["table", "lines", "most", "heads", "first"] (defScope s_Ldivisions) := ⟨rfl, rfl, rfl, by decide +kernel, rfl, by decide +kernel, by decide +kernel⟩
abbrev s_law : Stmt := topS 17
abbrev N_law : List Str := ["script", "table", "lines", "k", "most", "heads", "told", "divisions", "other", "row"]
theorem sc_law : FnScope N_law ["script"] (defScope s_law) := ⟨rfl, rfl, rfl, by decide +kernel, rfl, by decide +kernel, by decide +kernel⟩
/-! ### what each def does to data -/
def f_covers_both : En → Out := (sRet (chI (fun i j => decide (i < j)) (fun i j => decide (i < j)) (e2 ixG (eVar 0) (eC (.int 0))) (eVar 1) (e2 addD (e2 ixG (eVar 0) (eC (.int 0))) (e2 ixG (eVar 0) (eC (.int 2))))))
def g_covers_both : List PyData → Option PyData := gDef 2 2 f_covers_both
def c_head_count_1 : En → Option PyData := (eVar 1)
def t_head_count_1 : En → Option Bool := (tTr (e2 ixG (eVar 1) (eC (.int 1))))
def f_head_count : En → Out := (sRet (eCall lenA (aCons (eL (fCmp [1] (iSeq (e2 ixG (eVar 0) (eC (.int 1)))) (gVal 1) t_head_count_1 c_head_count_1)) aNil)))
def g_head_count : List PyData → Option PyData := gDef 1 2 f_head_count
def c_breakable_rows_1 : En → Option PyData := (eCall g_covers_both (aCons (eVar 6) (aCons (eVar 4) aNil)))
def b_breakable_rows_1 : En → Out := (sSeq (sSet 5 (e2 ixG (e2 ixG (eVar 1) (e2 subD (eVar 4) (eC (.int 1)))) (eC (.int 2)))) (sIf (tAnd' (tNot' (tTr (eVar 5))) (tNot' (t1 (eCall anyA (aCons (eL (fCmp [6] (iSeq (eVar 2)) (gVal 6) tYes' c_breakable_rows_1)) aNil))))) (sApp 3 (eVar 4)) sNil))
def f_breakable_rows : En → Out := (sSeq (sUnp (eSl (eVar 0) (oSome (eC (.int 1))) oNone) (gT [1, 2])) (sSeq (sOwn 3 (fLst aNil)) (sSeq (sFor (iR2 (aCons (e2 addD (eCall g_head_count (aCons (eVar 0) aNil)) (eC (.int 1))) (aCons (eCall lenA (aCons (eVar 1) aNil)) aNil))) (gVal 4) b_breakable_rows_1) (fun env => (sRet (eVar 3)) (frz 3 env)))))
def g_breakable_rows : List PyData → Option PyData := gDef 1 7 f_breakable_rows
def f_height_of_page : En → Out := (sRet (e2 addD (e2 subD (e2 addD (e2 ixG (eVar 0) (eVar 1)) (e2 ixG (eVar 0) (eVar 3))) (e2 ixG (eVar 0) (eVar 2))) (eC (.int 1))))
def g_height_of_page : List PyData → Option PyData := gDef 4 4 f_height_of_page
def c_paginate_1 : En → Option PyData := (eVar 10)
def t_paginate_1 : En → Option Bool := (tAnd' (t1 (e2 gtD (eVar 10) (eVar 8))) (t1 (e2 leD (eCall g_height_of_page (aCons (eVar 1) (aCons (eVar 3) (aCons (eVar 8) (aCons (eVar 10) aNil))))) (eVar 2))))
def b_paginate_1 : En → Out := (sSeq (sSet 9 (eL (fCmp [10] (iSeq (eVar 6)) (gVal 10) t_paginate_1 c_paginate_1))) (sSeq (sIf (tNot' (tTr (eVar 9))) (sRet (eC .none)) sNil) (sSeq (sApp 7 (eTup (aCons (eVar 8) (aCons (e2 ixG (eVar 9) (e1 negD (eC (.int 1)))) aNil)))) (sSet 8 (e2 ixG (eVar 9) (e1 negD (eC (.int 1))))))))
def w_paginate_1 : En → Option Bool := (t1 (e2 ltD (eVar 8) (eVar 4)))
def f_paginate : En → Out := (sSeq (sSet 3 (eCall g_head_count (aCons (eVar 0) aNil))) (sSeq (sSet 4 (eCall lenA (aCons (e2 ixG (eVar 0) (eC (.int 1))) aNil))) (sSeq (sIf (t1 (e2 eqD (eVar 3) (eVar 4))) (sSeq (sSet 5 (e2 leD (eCall g_height_of_page (aCons (eVar 1) (aCons (eVar 3) (aCons (eVar 3) (aCons (eVar 3) aNil))))) (eVar 2))) (sRet (eIf (tTr (eVar 5)) (eL (fLst (aCons (eTup (aCons (eVar 3) (aCons (eVar 3) aNil))) aNil))) (eC .none)))) sNil) (sSeq (sSet 6 (eL (fCat (eCall g_breakable_rows (aCons (eVar 0) aNil)) (eL (fLst (aCons (eVar 4) aNil)))))) (sSeq (sOwn 7 (fLst aNil)) (sSeq (sSet 8 (eVar 3)) (sSeq (whlF w_paginate_1 b_paginate_1 100) (fun env => (sRet (eVar 7)) (frz 7 env)))))))))
def g_paginate : List PyData → Option PyData := gDef 3 11 f_paginate
def f_Lcell : En → Out := (sSeq (sIf (t1 (e2 ltD (eVar 1) (eCall lenA (aCons (eVar 0) aNil)))) (sRet (e2 ixG (eVar 0) (eVar 1))) sNil) (sRet (eC (.int 0))))
def g_Lcell : List PyData → Option PyData := gDef 2 2 f_Lcell
def b_Ldraws_1 : En → Out := (sIf (tTr (eVar 3)) (sSeq (sApp 2 (e2 modD (eCall intA (aCons (eVar 0) aNil)) (eC (.int 1009)))) (sSet 0 (e2 divD (eVar 0) (eC (.int 1009))))) (sSeq (sSet 5 (e2 modD (eCall intA (aCons (e2 addD (e2 mulD (eVar 0) (eC (.int 48271))) (e2 mulD (eVar 4) (eC (.int 69621)))) aNil)) (eC (.int 2147483647)))) (sApp 2 (e2 modD (eCall intA (aCons (e2 addD (e2 addD (e2 mulD (eVar 5) (eVar 5)) (e2 mulD (eVar 0) (eC (.int 31)))) (eVar 4)) aNil)) (eC (.int 1000003))))))
def f_Ldraws : En → Out := (sSeq (sOwn 2 (fLst aNil)) (sSeq (sSet 3 (e2 geD (eVar 0) (e2 powD (eC (.int 10)) (eC (.int 18))))) (sSeq (sFor (iR1 (aCons (eVar 1) aNil)) (gVal 4) b_Ldraws_1) (fun env => (sRet (eVar 2)) (frz 2 env)))))
def g_Ldraws : List PyData → Option PyData := gDef 2 6 f_Ldraws
def c_Lwords_1 : En → Option PyData := (e2 ixG (eVar 2) (e2 modD (eCall intA (aCons (e2 ixG (eVar 1) (e2 addD (eC (.int 1)) (eVar 3))) aNil)) (eC (.int 8))))
def f_Lwords : En → Out := (sSeq (sSet 1 (eCall g_Ldraws (aCons (eVar 0) (aCons (eC (.int 5)) aNil)))) (sSeq (sSet 2 (eL (fLst (aCons (eC (.str "a")) (aCons (eC (.str "bb")) (aCons (eC (.str "ccc")) (aCons (eC (.str "dddd")) (aCons (eC (.str "x.")) (aCons (eC (.str "(y)")) (aCons (eC (.str "Z9")) (aCons (eC (.str "eeeeeeee")) aNil))))))))))) (sRet (eCall tupA (aCons (eL (fCmp [3] (iR1 (aCons (e2 modD (eCall intA (aCons (e2 ixG (eVar 1) (eC (.int 0))) aNil)) (eC (.int 5))) aNil)) (gVal 3) tYes' c_Lwords_1)) aNil)))))
def g_Lwords : List PyData → Option PyData := gDef 1 4 f_Lwords
def f_Lcolumn : En → Out := (sSeq (sSet 1 (eCall g_Ldraws (aCons (eVar 0) (aCons (eC (.int 6)) aNil)))) (sSeq (sSet 2 (e2 addD (eC (.int 1)) (e2 modD (eCall intA (aCons (e2 ixG (eVar 1) (eC (.int 0))) aNil)) (eC (.int 4))))) (sSeq (sSet 3 (eIf (t1 (e2 gtD (e2 modD (eCall intA (aCons (e2 ixG (eVar 1) (eC (.int 1))) aNil)) (eC (.int 4))) (eC (.int 0)))) (eC .none) (e2 addD (eVar 2) (e2 modD (eCall intA (aCons (e2 ixG (eVar 1) (eC (.int 2))) aNil)) (eC (.int 12)))))) (sSeq (sSet 4 (eIf (t1 (e2 gtD (e2 modD (eCall intA (aCons (e2 ixG (eVar 1) (eC (.int 3))) aNil)) (eC (.int 4))) (eC (.int 0)))) (eC .none) (e2 addD (eC (.int 1)) (e2 modD (eCall intA (aCons (e2 ixG (eVar 1) (eC (.int 4))) aNil)) (eC (.int 60)))))) (sRet (eTup (aCons (eVar 2) (aCons (eVar 3) (aCons (eVar 4) (aCons (e2 ixG (eL (fLst (aCons (eC (.str "left")) (aCons (eC (.str "right")) (aCons (eC (.str "center")) aNil))))) (e2 modD (eCall intA (aCons (e2 ixG (eVar 1) (eC (.int 5))) aNil)) (eC (.int 3)))) aNil))))))))))
def g_Lcolumn : List PyData → Option PyData := gDef 1 5 f_Lcolumn
def b_Lis_free_1 : En → Out := (sIf (t1 (e2 inD (eTup (aCons (e2 addD (eVar 1) (e2 divD (eVar 5) (eVar 4))) (aCons (e2 addD (eVar 2) (e2 modD (eVar 5) (eVar 4))) aNil))) (eVar 0))) (sRet (eC (.bool false))) sNil)
def f_Lis_free : En → Out := (sSeq (sFor (iR1 (aCons (e2 mulD (eVar 3) (eVar 4)) aNil)) (gVal 5) b_Lis_free_1) (sRet (eC (.bool true))))
def g_Lis_free : List PyData → Option PyData := gDef 5 6 f_Lis_free
def b_Lcells_1 : En → Out := (sSet 12 (e2 subD (eVar 12) (eC (.int 1))))
def w_Lcells_1 : En → Option Bool := (tNot' (tTr (eN (eCall g_Lis_free (aCons (eBor 5) (aCons (eVar 8) (aCons (eVar 9) (aCons (eVar 11) (aCons (eVar 12) aNil)))))))))
def b_Lcells_2 : En → Out := (sApp 5 (eTup (aCons (e2 addD (eVar 8) (e2 divD (eVar 13) (eVar 12))) (aCons (e2 addD (eVar 9) (e2 modD (eVar 13) (eVar 12))) aNil))))
def b_Lcells_3 : En → Out := (sSeq (sSet 8 (e2 divD (eVar 7) (eVar 3))) (sSeq (sSet 9 (e2 modD (eVar 7) (eVar 3))) (sIf (t1 (e2 notInD (eTup (aCons (eVar 8) (aCons (eVar 9) aNil))) (eBor 5))) (sSeq (sSet 10 (eCall g_Ldraws (aCons (eCall g_Lcell (aCons (eVar 0) (aCons (e2 addD (eVar 1) (eCall lenA (aCons (eBor 6) aNil))) aNil))) (aCons (eC (.int 4)) aNil)))) (sSeq (sSet 11 (eCall mn2 (aCons (e2 addD (eC (.int 1)) (e2 modD (eCall intA (aCons (e2 ixG (eVar 10) (eC (.int 0))) aNil)) (eC (.int 2)))) (aCons (e2 subD (eIf (t1 (e2 geD (eVar 8) (eVar 4))) (eVar 2) (eVar 4)) (eVar 8)) aNil)))) (sSeq (sSet 12 (eCall mn2 (aCons (e2 addD (e2 addD (eC (.int 1)) (e2 divD (e2 modD (eCall intA (aCons (e2 ixG (eVar 10) (eC (.int 1))) aNil)) (eC (.int 3))) (eC (.int 2)))) (e2 modD (eCall intA (aCons (e2 ixG (eVar 10) (eC (.int 2))) aNil)) (eC (.int 2)))) (aCons (e2 subD (eVar 3) (eVar 9)) aNil)))) (sSeq (whlF w_Lcells_1 b_Lcells_1 5) (sSeq (sFor (iR1 (aCons (e2 mulD (eVar 11) (eVar 12)) aNil)) (gVal 13) b_Lcells_2) (sApp 6 (eTup (aCons (eVar 8) (aCons (eVar 9) (aCons (eVar 11) (aCons (eVar 12) (aCons (eCall g_Lwords (aCons (e2 addD (eCall g_Lcell (aCons (eVar 0) (aCons (e2 addD (eVar 1) (eCall lenA (aCons (eBor 6) aNil))) aNil))) (eCall intA (aCons (e2 ixG (eVar 10) (eC (.int 3))) aNil))) aNil)) aNil)))))))))))) sNil)))
def f_Lcells : En → Out := (sSeq (sOwn 5 (fLst aNil)) (sSeq (sOwn 6 (fLst aNil)) (sSeq (sFor (iR1 (aCons (e2 mulD (eVar 2) (eVar 3)) aNil)) (gVal 7) b_Lcells_3) (sRet (eTupO 6)))))
def g_Lcells : List PyData → Option PyData := gDef 5 14 f_Lcells
def b_Ltable_1 : En → Out := (sSeq (sSet 8 (eCall g_Ldraws (aCons (eCall g_Lcell (aCons (eVar 0) (aCons (e2 addD (e2 addD (eVar 1) (eC (.int 4))) (eVar 7)) aNil))) (aCons (eC (.int 2)) aNil)))) (sApp 6 (eTup (aCons (e2 addD (eC (.int 1)) (e2 modD (eCall intA (aCons (e2 ixG (eVar 8) (eC (.int 0))) aNil)) (eC (.int 3)))) (aCons (e2 ltD (eVar 7) (eVar 5)) (aCons (e2 eqD (e2 modD (eCall intA (aCons (e2 ixG (eVar 8) (eC (.int 1))) aNil)) (eC (.int 4))) (eC (.int 0))) aNil))))))
def c_Ltable_1 : En → Option PyData := (eCall g_Lcolumn (aCons (eCall g_Lcell (aCons (eVar 0) (aCons (e2 addD (e2 addD (eVar 1) (eC (.int 1))) (eVar 10)) aNil))) aNil))
def f_Ltable : En → Out := (sSeq (sSet 2 (eCall g_Ldraws (aCons (eCall g_Lcell (aCons (eVar 0) (aCons (eVar 1) aNil))) (aCons (eC (.int 4)) aNil)))) (sSeq (sSet 3 (e2 addD (eC (.int 1)) (e2 modD (eCall intA (aCons (e2 ixG (eVar 2) (eC (.int 0))) aNil)) (eC (.int 3))))) (sSeq (sSet 4 (e2 addD (eC (.int 1)) (e2 modD (eCall intA (aCons (e2 ixG (eVar 2) (eC (.int 1))) aNil)) (eC (.int 4))))) (sSeq (sSet 5 (eCall mn2 (aCons (eVar 4) (aCons (e2 modD (eCall intA (aCons (e2 ixG (eVar 2) (eC (.int 2))) aNil)) (eC (.int 3))) aNil)))) (sSeq (sOwn 6 (fLst aNil)) (sSeq (sFor (iR1 (aCons (eVar 4) aNil)) (gVal 7) b_Ltable_1) (sSeq (sSet 9 (eL (fCmp [10] (iR1 (aCons (eVar 3) aNil)) (gVal 10) tYes' c_Ltable_1))) (sRet (eTup (aCons (eCall tupA (aCons (eVar 9) aNil)) (aCons (eTupO 6) (aCons (eCall g_Lcells (aCons (eVar 0) (aCons (e2 addD (eVar 1) (eC (.int 8))) (aCons (eVar 4) (aCons (eVar 3) (aCons (eVar 5) aNil)))))) aNil))))))))))))
def g_Ltable : List PyData → Option PyData := gDef 2 11 f_Ltable
def b_Lmay_end_1 : En → Out := (sIf (t1 (chI (fun i j => decide (i < j)) (fun i j => decide (i < j)) (e2 ixG (eVar 3) (eC (.int 0))) (eVar 2) (e2 addD (e2 ixG (eVar 3) (eC (.int 0))) (e2 ixG (eVar 3) (eC (.int 2)))))) (sRet (eC (.bool false))) sNil)
def f_Lmay_end : En → Out := (sSeq (sIf (t1 (e2 eqD (eVar 2) (eCall lenA (aCons (e2 ixG (eVar 0) (eC (.int 1))) aNil)))) (sRet (eC (.bool true))) sNil) (sSeq (sIf (tOr' (t1 (e2 leD (eVar 2) (eVar 1))) (tTr (e2 ixG (e2 ixG (e2 ixG (eVar 0) (eC (.int 1))) (e2 subD (eVar 2) (eC (.int 1)))) (eC (.int 2))))) (sRet (eC (.bool false))) sNil) (sSeq (sFor (iSeq (e2 ixG (eVar 0) (eC (.int 2)))) (gVal 3) b_Lmay_end_1) (sRet (eC (.bool true))))))
def g_Lmay_end : List PyData → Option PyData := gDef 3 4 f_Lmay_end
def b_Ldivisions_1 (rc : List PyData → Option PyData) : En → Out := (sApp 5 (eL (fCat (eL (fLst (aCons (eTup (aCons (eVar 4) (aCons (eVar 6) aNil))) aNil))) (eVar 8))))
def b_Ldivisions_2 (rc : List PyData → Option PyData) : En → Out := (sSeq (sSet 7 (e2 addD (e2 subD (e2 addD (e2 ixG (eVar 1) (eVar 3)) (e2 ixG (eVar 1) (eVar 6))) (e2 ixG (eVar 1) (eVar 4))) (eC (.int 1)))) (sIf (tAnd' (t1 (e2 leD (eVar 7) (eVar 2))) (tTr (eCall g_Lmay_end (aCons (eVar 0) (aCons (eVar 3) (aCons (eVar 6) aNil)))))) (sFor (iSeq (eCall rc (aCons (eVar 0) (aCons (eVar 1) (aCons (eVar 2) (aCons (eVar 3) (aCons (eVar 6) aNil))))))) (gVal 8) (b_Ldivisions_1 rc)) sNil))
def f_Ldivisions (rc : List PyData → Option PyData) : En → Out := (sSeq (sIf (t1 (e2 eqD (eVar 4) (eCall lenA (aCons (e2 ixG (eVar 0) (eC (.int 1))) aNil)))) (sRet (eL (fLst (aCons (eL (fLst aNil)) aNil)))) sNil) (sSeq (sOwn 5 (fLst aNil)) (sSeq (sFor (iR2 (aCons (e2 addD (eVar 4) (eC (.int 1))) (aCons (e2 addD (eCall lenA (aCons (e2 ixG (eVar 0) (eC (.int 1))) aNil)) (eC (.int 1))) aNil))) (gVal 6) (b_Ldivisions_2 rc)) (fun env => (sRet (eVar 5)) (frz 5 env)))))
def gN_Ldivisions : Nat → List PyData → Option PyData
  | 0 => fun _ => none
  | n + 1 => gDef 5 9 (f_Ldivisions (gN_Ldivisions n))
def g_Ldivisions : List PyData → Option PyData := gN_Ldivisions 6
def b_law_1 : En → Out := (sApp 2 (e2 addD (e2 addD (eIxO 2 (e1 negD (eC (.int 1)))) (eC (.int 2))) (e2 modD (eCall g_Lcell (aCons (eVar 0) (aCons (e2 addD (eC (.int 40)) (eVar 3)) aNil))) (eC (.int 5)))))
def c_law_1 : En → Option PyData := (eC (.int 1))
def t_law_1 : En → Option Bool := (tTr (e2 ixG (eVar 9) (eC (.int 1))))
def b_law_2 : En → Out := (sIf (t1 (e2 gtD (e2 ixG (e2 ixG (eVar 8) (eVar 3)) (eC (.int 1))) (e2 ixG (e2 ixG (eVar 6) (eVar 3)) (eC (.int 1))))) (sRet (eC (.bool false))) sNil)
def b_law_3 : En → Out := (sSeq (sIf (t1 (e2 ltD (eCall lenA (aCons (eVar 8) aNil)) (eCall lenA (aCons (eVar 6) aNil)))) (sRet (eC (.bool false))) sNil) (sFor (iR1 (aCons (eCall lenA (aCons (eVar 6) aNil)) aNil)) (gVal 3) b_law_2))
def f_law : En → Out := (sSeq (sSet 1 (eCall g_Ltable (aCons (eVar 0) (aCons (eC (.int 0)) aNil)))) (sSeq (sOwn 2 (fLst (aCons (eC (.int 0)) aNil))) (sSeq (sFor (iR1 (aCons (eCall lenA (aCons (e2 ixG (eVar 1) (eC (.int 1))) aNil)) aNil)) (gVal 3) b_law_1) (sSeq (sSet 4 (e2 addD (eC (.int 3)) (e2 modD (eCall g_Lcell (aCons (eVar 0) (aCons (eC (.int 50)) aNil))) (eC (.int 22))))) (sSeq (sSet 5 (eCall lenA (aCons (eL (fCmp [9] (iSeq (e2 ixG (eVar 1) (eC (.int 1)))) (gVal 9) t_law_1 c_law_1)) aNil))) (sSeq (sSet 6 (eCall g_paginate (aCons (eVar 1) (aCons (eTupO 2) (aCons (eVar 4) aNil))))) (sSeq (sIf (t1 (e2 eqD (eVar 5) (eCall lenA (aCons (e2 ixG (eVar 1) (eC (.int 1))) aNil)))) (sRet (e2 eqD (eVar 6) (eIf (t1 (e2 leD (e2 addD (eIxO 2 (e1 negD (eC (.int 1)))) (eC (.int 1))) (eVar 4))) (eL (fLst (aCons (eTup (aCons (eVar 5) (aCons (eVar 5) aNil))) aNil))) (eC .none)))) sNil) (sSeq (fun env => (sSet 7 (eCall g_Ldivisions (aCons (eVar 1) (aCons (eVar 2) (aCons (eVar 4) (aCons (eVar 5) (aCons (eVar 5) aNil))))))) (frz 2 env)) (sSeq (sIf (t1 (e2 eqD (eCall lenA (aCons (eVar 7) aNil)) (eC (.int 0)))) (sRet (e2 isD (eVar 6) (eC .none))) sNil) (sSeq (sIf (tOr' (tNot' (t1 (eIsi "list" (eVar 6)))) (t1 (e2 notInD (eVar 6) (eVar 7)))) (sRet (eC (.bool false))) sNil) (sSeq (sFor (iSeq (eVar 7)) (gVal 8) b_law_3) (sRet (eC (.bool true))))))))))))))
def g_law : List PyData → Option PyData := gDef 1 10 f_law
/-! ### the text does so -/
section
variable {P : Program} {w : World} {K : PySem.W.Frag} {mg : Str → Option Value} {base : Heap}
theorem ok_covers_both {f : Addr} {fd : FuncData} (F : Fun K "covers_both" "covers_both" s_covers_both f fd)  : FnOk P w K mg base CX0 1 f fd ["cell", "row"] (spF K g_covers_both) := by
  refine fn_ok (fB := f_covers_both) (np := 2) (nN := 2) F sc_covers_both rfl rfl rfl fun cdv A outer s H E hr => ?_
  have nd : N_covers_both.Nodup := sc_covers_both.nd
  exact ((cs_one (cs_ret (ce_chain (pe_chain op_lt op_lt (ce_ix (ce_var (i := 0) (pv 0)) ce_int (fun _ _ => rfl)) (ce_var (i := 1) (pv 1)) (ce_add (ce_ix (ce_var (i := 0) (pv 0)) ce_int (fun _ _ => rfl)) (ce_ix (ce_var (i := 0) (pv 0)) ce_int (fun _ _ => rfl))))))))
theorem ok_head_count {f : Addr} {fd : FuncData} (F : Fun K "head_count" "head_count" s_head_count f fd) (m_len : mg "len" = none) : FnOk P w K mg base CX0 1 f fd ["table"] (spF K g_head_count) := by
  refine fn_ok (fB := f_head_count) (np := 1) (nN := 2) F sc_head_count rfl rfl rfl fun cdv A outer s H E hr => ?_
  have nd : N_head_count.Nodup := sc_head_count.nd
  exact ((cs_one (cs_ret (ce_cb (c2 := true) cr_len (pe_callB call_len (by rfl) m_len boot_len (ca_cons (ce_l (c := true) (cf_lc (c2 := true) (pe_lc (own := [("row", 1)]) (by rfl) nd (ci_seq (ce_ix (ce_var (i := 0) (pv 0)) ce_int (fun _ _ => rfl))) (blkOk_by (own := [("row", 1)]) (N := N_head_count) (sc := defScope s_head_count) (by decide +kernel)) (fun _ _ _ _ _ => (cg_name (pg_name (i := 1) nd rfl (by first | exact Or.inl rfl | exact Or.inr rfl)))) (fun _ _ _ _ _ => (pts_one (ct_tru (ce_ix (ce_var (i := 1) (pv 1)) ce_int (fun _ _ => rfl)) (by intro _; rfl)))) (fun _ _ _ _ _ => (ce_var (i := 1) (pv 1)))))) ca_nil))))))
theorem ok_breakable_rows {f : Addr} {fd : FuncData} (F : Fun K "breakable_rows" "breakable_rows" s_breakable_rows f fd) {a_head_count : Addr} {d_head_count : FuncData} (G_head_count : FnOk P w K mg base CX0 1 a_head_count d_head_count ["table"] (spF K g_head_count)) (M_head_count : mg "head_count" = some (.ref a_head_count)) (k_head_count : PySem.W.keepIn K (.ref a_head_count) = true) (b_head_count : Binds K d_head_count ["table"] []) {a_covers_both : Addr} {d_covers_both : FuncData} (G_covers_both : FnOk P w K mg base CX0 1 a_covers_both d_covers_both ["cell", "row"] (spF K g_covers_both)) (M_covers_both : mg "covers_both" = some (.ref a_covers_both)) (k_covers_both : PySem.W.keepIn K (.ref a_covers_both) = true) (b_covers_both : Binds K d_covers_both ["cell", "row"] []) (m_len : mg "len" = none) (m_range : mg "range" = none) (m_any : mg "any" = none) : FnOk P w K mg base CX0 2 f fd ["table"] (spF K g_breakable_rows) := by
  refine fn_ok (fB := f_breakable_rows) (np := 1) (nN := 7) F sc_breakable_rows rfl rfl rfl fun cdv A outer s H E hr => ?_
  have nd : N_breakable_rows.Nodup := sc_breakable_rows.nd
  exact ((cs_cons (cs_unp (ps_asg (ce_sl (ce_var (i := 0) (pv 0)) (co_some ce_int) co_none) (cg_tup (is := [1, 2]) (pg_tup rfl (pgs_cons (pg_name (i := 1) nd rfl (by first | exact Or.inl rfl | exact Or.inr rfl)) (pgs_cons (pg_name (i := 2) nd rfl (by first | exact Or.inl rfl | exact Or.inr rfl)) pgs_nil))))))
    (cs_cons (cs_own (ps_set (i := 3) nd rfl (by first | exact Or.inl rfl | exact Or.inr rfl) (cf_lst (c := true) ca_nil)))
    (cs_cons (cs_for PassesOwn.never rfl (ci_r2 (pi_range2 (by rfl) m_range (ca_cons (ce_add (ce_call (c := true) (pe_call G_head_count (hr.mono (by decide)) (by rfl) M_head_count k_head_count b_head_count .nil pass0 (ca_cons (ce_var (i := 0) (pv 0)) ca_nil))) ce_int) (ca_cons (ce_cb (c2 := true) cr_len (pe_callB call_len (by rfl) m_len boot_len (ca_cons (ce_var (i := 1) (pv 1)) ca_nil))) ca_nil)))) (cg_name (pg_name (i := 4) nd rfl (by first | exact Or.inl rfl | exact Or.inr rfl)))
    (cs_cons (cs_set (ps_set (i := 5) nd rfl (by first | exact Or.inl rfl | exact Or.inr rfl) (ce_ix (ce_ix (ce_var (i := 1) (pv 1)) (ce_sub (ce_var (i := 4) (pv 4)) ce_int) (fun _ _ => rfl)) ce_int (fun _ _ => rfl))))
    (cs_one (cs_if (PW.pt (cw_and (ct_not (ct_tru (ce_var (i := 5) (pv 5)) (by intro _; rfl))) (cw_and1 (ct_not (ct_val (ce_cb (c2 := true) cr_any' (pe_callB (cr_any rfl) (by rfl) m_any (by decide +kernel) (ca_cons (ce_l (c := true) (cf_lc1 (c2 := true) (pe_lc (own := [("cell", 6)]) (by rfl) nd (ci_seq (ce_var (i := 2) (pv 2))) (blkOk_by (own := [("cell", 6)]) (N := N_breakable_rows) (sc := defScope s_breakable_rows) (by decide +kernel)) (fun _ _ _ _ _ => (cg_name (pg_name (i := 6) nd rfl (by first | exact Or.inl rfl | exact Or.inr rfl)))) (fun _ _ _ _ _ => pts_nil) (fun _ _ _ _ _ => (ce_call (c := true) (pe_call G_covers_both (hr.mono (by decide)) (by rfl) M_covers_both k_covers_both b_covers_both .nil pass0 (ca_cons (ce_var (i := 6) (pv 6)) (ca_cons (ce_var (i := 4) (pv 4)) ca_nil)))))))) ca_nil))))))))
    (cs_one (cs_app (ps_expr (pe_bm PySem.F.plainAttrs_list PySem.F.slot_list_append PySem.F.type_list_append mt_append (pv 3) (pa_cons (ce_var (i := 4) (pv 4)) pa_nil)))))
    cs_nil))))
    (cs_one (cs_frz (i := 3) (cs_ret (ce_var (i := 3) (pv 3)))))))))
theorem ok_height_of_page {f : Addr} {fd : FuncData} (F : Fun K "height_of_page" "height_of_page" s_height_of_page f fd)  : FnOk P w K mg base CX0 1 f fd ["row_lines", "head", "first", "behind"] (spF K g_height_of_page) := by
  refine fn_ok (fB := f_height_of_page) (np := 4) (nN := 4) F sc_height_of_page rfl rfl rfl fun cdv A outer s H E hr => ?_
  have nd : N_height_of_page.Nodup := sc_height_of_page.nd
  exact ((cs_one (cs_ret (ce_add (ce_sub (ce_add (ce_ix (ce_var (i := 0) (pv 0)) (ce_var (i := 1) (pv 1)) (fun _ _ => rfl)) (ce_ix (ce_var (i := 0) (pv 0)) (ce_var (i := 3) (pv 3)) (fun _ _ => rfl))) (ce_ix (ce_var (i := 0) (pv 0)) (ce_var (i := 2) (pv 2)) (fun _ _ => rfl))) ce_int))))
theorem ok_paginate {f : Addr} {fd : FuncData} (F : Fun K "paginate" "paginate" s_paginate f fd) {a_head_count : Addr} {d_head_count : FuncData} (G_head_count : FnOk P w K mg base CX0 1 a_head_count d_head_count ["table"] (spF K g_head_count)) (M_head_count : mg "head_count" = some (.ref a_head_count)) (k_head_count : PySem.W.keepIn K (.ref a_head_count) = true) (b_head_count : Binds K d_head_count ["table"] []) {a_height_of_page : Addr} {d_height_of_page : FuncData} (G_height_of_page : FnOk P w K mg base CX0 1 a_height_of_page d_height_of_page ["row_lines", "head", "first", "behind"] (spF K g_height_of_page)) (M_height_of_page : mg "height_of_page" = some (.ref a_height_of_page)) (k_height_of_page : PySem.W.keepIn K (.ref a_height_of_page) = true) (b_height_of_page : Binds K d_height_of_page ["row_lines", "head", "first", "behind"] []) {a_breakable_rows : Addr} {d_breakable_rows : FuncData} (G_breakable_rows : FnOk P w K mg base CX0 2 a_breakable_rows d_breakable_rows ["table"] (spF K g_breakable_rows)) (M_breakable_rows : mg "breakable_rows" = some (.ref a_breakable_rows)) (k_breakable_rows : PySem.W.keepIn K (.ref a_breakable_rows) = true) (b_breakable_rows : Binds K d_breakable_rows ["table"] []) (m_len : mg "len" = none) : FnOk P w K mg base CX0 3 f fd ["table", "row_lines", "page_height"] (spF K g_paginate) := by
  refine fn_ok (fB := f_paginate) (np := 3) (nN := 11) F sc_paginate rfl rfl rfl fun cdv A outer s H E hr => ?_
  have nd : N_paginate.Nodup := sc_paginate.nd
  exact ((cs_cons (cs_set (ps_set (i := 3) nd rfl (by first | exact Or.inl rfl | exact Or.inr rfl) (ce_call (c := true) (pe_call G_head_count (hr.mono (by decide)) (by rfl) M_head_count k_head_count b_head_count .nil pass0 (ca_cons (ce_var (i := 0) (pv 0)) ca_nil)))))
    (cs_cons (cs_set (ps_set (i := 4) nd rfl (by first | exact Or.inl rfl | exact Or.inr rfl) (ce_cb (c2 := true) cr_len (pe_callB call_len (by rfl) m_len boot_len (ca_cons (ce_ix (ce_var (i := 0) (pv 0)) ce_int (fun _ _ => rfl)) ca_nil)))))
    (cs_cons (cs_if (ct_cmp (op_eqD hr.units) r2_eq (ce_var (i := 3) (pv 3)) (ce_var (i := 4) (pv 4)) (nomark _))
    (cs_cons (cs_set (ps_set (i := 5) nd rfl (by first | exact Or.inl rfl | exact Or.inr rfl) (ce_cmp op_le r2_B0 (ce_call (c := true) (pe_call G_height_of_page (hr.mono (by decide)) (by rfl) M_height_of_page k_height_of_page b_height_of_page .nil pass0 (ca_cons (ce_var (i := 1) (pv 1)) (ca_cons (ce_var (i := 3) (pv 3)) (ca_cons (ce_var (i := 3) (pv 3)) (ca_cons (ce_var (i := 3) (pv 3)) ca_nil)))))) (ce_var (i := 2) (pv 2)) (nomark _))))
    (cs_one (cs_ret (ce_if (ct_tru (ce_var (i := 5) (pv 5)) (by intro _; rfl)) (ce_l (c := true) (cf_lst (c := true) (ca_cons (ce_tup (ca_cons (ce_var (i := 3) (pv 3)) (ca_cons (ce_var (i := 3) (pv 3)) ca_nil))) ca_nil))) ce_non))))
    cs_nil)
    (cs_cons (cs_set (ps_set (i := 6) nd rfl (by first | exact Or.inl rfl | exact Or.inr rfl) (ce_l (c := true) (cf_cat (c := true) (ce_call (c := true) (pe_call G_breakable_rows (hr.mono (by decide)) (by rfl) M_breakable_rows k_breakable_rows b_breakable_rows .nil pass0 (ca_cons (ce_var (i := 0) (pv 0)) ca_nil))) (ce_l (c := true) (cf_lst (c := true) (ca_cons (ce_var (i := 4) (pv 4)) ca_nil)))))))
    (cs_cons (cs_own (ps_set (i := 7) nd rfl (by first | exact Or.inl rfl | exact Or.inr rfl) (cf_lst (c := true) ca_nil)))
    (cs_cons (cs_set (ps_set (i := 8) nd rfl (by first | exact Or.inl rfl | exact Or.inr rfl) (ce_var (i := 3) (pv 3))))
    (cs_cons (cs_while 100 PassesOwn.never (ct_cmp op_lt r2_B0 (ce_var (i := 8) (pv 8)) (ce_var (i := 4) (pv 4)) (nomark _))
    (cs_cons (cs_lcV (ps_setLc (i := 9) (own := [("behind", 10)]) rfl nd rfl rfl (sw_true rfl rfl rfl (by decide +kernel)) (ci_seq (ce_var (i := 6) (pv 6))) (blkOk_by (own := [("behind", 10)]) (N := N_paginate) (sc := defScope s_paginate) (by decide +kernel)) (fun _ _ _ _ _ => (cg_name (pg_name (i := 10) nd rfl (by first | exact Or.inl rfl | exact Or.inr rfl)))) (fun _ _ _ _ _ => (pts_one (PW.pt (cw_and (ct_cmp op_gt r2_B0 (ce_var (i := 10) (pv 10)) (ce_var (i := 8) (pv 8)) (nomark _)) (cw_and1 (ct_cmp op_le r2_B0 (ce_call (c := true) (pe_call G_height_of_page (hr.mono (by decide)) (by rfl) M_height_of_page k_height_of_page b_height_of_page .nil pass0 (ca_cons (ce_var (i := 1) (pv 1)) (ca_cons (ce_var (i := 3) (pv 3)) (ca_cons (ce_var (i := 8) (pv 8)) (ca_cons (ce_var (i := 10) (pv 10)) ca_nil)))))) (ce_var (i := 2) (pv 2)) (nomark _))))))) (fun _ _ _ _ _ => (ce_var (i := 10) (pv 10)))))
    (cs_cons (cs_if (ct_not (ct_tru (ce_var (i := 9) (pv 9)) (by intro _; rfl)))
    (cs_one (cs_ret ce_non))
    cs_nil)
    (cs_cons (cs_app (ps_expr (pe_bm PySem.F.plainAttrs_list PySem.F.slot_list_append PySem.F.type_list_append mt_append (pv 7) (pa_cons (ce_tup (ca_cons (ce_var (i := 8) (pv 8)) (ca_cons (ce_ix (ce_var (i := 9) (pv 9)) (ce_neg ce_int) (fun _ _ => rfl)) ca_nil))) pa_nil))))
    (cs_one (cs_set (ps_set (i := 8) nd rfl (by first | exact Or.inl rfl | exact Or.inr rfl) (ce_ix (ce_var (i := 9) (pv 9)) (ce_neg ce_int) (fun _ _ => rfl)))))))))
    (cs_one (cs_frz (i := 7) (cs_ret (ce_var (i := 7) (pv 7)))))))))))))
theorem ok_Lcell {f : Addr} {fd : FuncData} (F : Fun K "_law_cell" "_law_cell" s_Lcell f fd) (m_len : mg "len" = none) : FnOk P w K mg base CX0 1 f fd ["script", "k"] (spF K g_Lcell) := by
  refine fn_ok (fB := f_Lcell) (np := 2) (nN := 2) F sc_Lcell rfl rfl rfl fun cdv A outer s H E hr => ?_
  have nd : N_Lcell.Nodup := sc_Lcell.nd
  exact ((cs_cons (cs_if (ct_cmp op_lt r2_B0 (ce_var (i := 1) (pv 1)) (ce_cb (c2 := true) cr_len (pe_callB call_len (by rfl) m_len boot_len (ca_cons (ce_var (i := 0) (pv 0)) ca_nil))) (nomark _))
    (cs_one (cs_ret (ce_ix (ce_var (i := 0) (pv 0)) (ce_var (i := 1) (pv 1)) (fun _ _ => rfl))))
    cs_nil)
    (cs_one (cs_ret ce_int))))
theorem ok_Ldraws {f : Addr} {fd : FuncData} (F : Fun K "_law_draws" "_law_draws" s_Ldraws f fd) (m_range : mg "range" = none) (m_int : mg "int" = none) : FnOk P w K mg base CX0 1 f fd ["cell", "count"] (spF K g_Ldraws) := by
  refine fn_ok (fB := f_Ldraws) (np := 2) (nN := 6) F sc_Ldraws rfl rfl rfl fun cdv A outer s H E hr => ?_
  have nd : N_Ldraws.Nodup := sc_Ldraws.nd
  exact ((cs_cons (cs_own (ps_set (i := 2) nd rfl (by first | exact Or.inl rfl | exact Or.inr rfl) (cf_lst (c := true) ca_nil)))
    (cs_cons (cs_set (ps_set (i := 3) nd rfl (by first | exact Or.inl rfl | exact Or.inr rfl) (ce_cmp op_ge r2_B0 (ce_var (i := 0) (pv 0)) (ce_pow ce_int ce_int) (nomark _))))
    (cs_cons (cs_for PassesOwn.never rfl (ci_r1 (pi_range1 (by rfl) m_range (ca_cons (ce_var (i := 1) (pv 1)) ca_nil))) (cg_name (pg_name (i := 4) nd rfl (by first | exact Or.inl rfl | exact Or.inr rfl)))
    (cs_one (cs_if (ct_tru (ce_var (i := 3) (pv 3)) (by intro _; rfl))
    (cs_cons (cs_app (ps_expr (pe_bm PySem.F.plainAttrs_list PySem.F.slot_list_append PySem.F.type_list_append mt_append (pv 2) (pa_cons (ce_mod (ce_cb (c2 := true) cr_int (pe_callTy call_int1 (by rfl) m_int (by decide +kernel) (ca_cons (ce_var (i := 0) (pv 0)) ca_nil))) ce_int) pa_nil))))
    (cs_one (cs_set (ps_set (i := 0) nd rfl (by first | exact Or.inl rfl | exact Or.inr rfl) (ce_div (ce_var (i := 0) (pv 0)) ce_int)))))
    (cs_cons (cs_set (ps_set (i := 5) nd rfl (by first | exact Or.inl rfl | exact Or.inr rfl) (ce_mod (ce_cb (c2 := true) cr_int (pe_callTy call_int1 (by rfl) m_int (by decide +kernel) (ca_cons (ce_add (ce_mul (ce_var (i := 0) (pv 0)) ce_int) (ce_mul (ce_var (i := 4) (pv 4)) ce_int)) ca_nil))) ce_int)))
    (cs_one (cs_app (ps_expr (pe_bm PySem.F.plainAttrs_list PySem.F.slot_list_append PySem.F.type_list_append mt_append (pv 2) (pa_cons (ce_mod (ce_cb (c2 := true) cr_int (pe_callTy call_int1 (by rfl) m_int (by decide +kernel) (ca_cons (ce_add (ce_add (ce_mul (ce_var (i := 5) (pv 5)) (ce_var (i := 5) (pv 5))) (ce_mul (ce_var (i := 0) (pv 0)) ce_int)) (ce_var (i := 4) (pv 4))) ca_nil))) ce_int) pa_nil)))))))))
    (cs_one (cs_frz (i := 2) (cs_ret (ce_var (i := 2) (pv 2)))))))))
theorem ok_Lwords {f : Addr} {fd : FuncData} (F : Fun K "_law_words" "_law_words" s_Lwords f fd) {a_Ldraws : Addr} {d_Ldraws : FuncData} (G_Ldraws : FnOk P w K mg base CX0 1 a_Ldraws d_Ldraws ["cell", "count"] (spF K g_Ldraws)) (M_Ldraws : mg "_law_draws" = some (.ref a_Ldraws)) (k_Ldraws : PySem.W.keepIn K (.ref a_Ldraws) = true) (b_Ldraws : Binds K d_Ldraws ["cell", "count"] []) (m_int : mg "int" = none) (m_range : mg "range" = none) (m_tuple : mg "tuple" = none) : FnOk P w K mg base CX0 2 f fd ["cell"] (spF K g_Lwords) := by
  refine fn_ok (fB := f_Lwords) (np := 1) (nN := 4) F sc_Lwords rfl rfl rfl fun cdv A outer s H E hr => ?_
  have nd : N_Lwords.Nodup := sc_Lwords.nd
  exact ((cs_cons (cs_set (ps_set (i := 1) nd rfl (by first | exact Or.inl rfl | exact Or.inr rfl) (ce_call (c := true) (pe_call G_Ldraws (hr.mono (by decide)) (by rfl) M_Ldraws k_Ldraws b_Ldraws .nil pass0 (ca_cons (ce_var (i := 0) (pv 0)) (ca_cons ce_int ca_nil))))))
    (cs_cons (cs_set (ps_set (i := 2) nd rfl (by first | exact Or.inl rfl | exact Or.inr rfl) (ce_l (c := true) (cf_lst (c := true) (ca_cons ce_str (ca_cons ce_str (ca_cons ce_str (ca_cons ce_str (ca_cons ce_str (ca_cons ce_str (ca_cons ce_str (ca_cons ce_str ca_nil))))))))))))
    (cs_one (cs_ret (ce_cb (c2 := true) cr_tup (pe_callTy call_tuple_of (by rfl) m_tuple (by decide +kernel) (ca_cons (ce_l (c := true) (cf_lc1 (c2 := true) (pe_lc (own := [("k", 3)]) (by rfl) nd (ci_r1 (pi_range1 (by rfl) m_range (ca_cons (ce_mod (ce_cb (c2 := true) cr_int (pe_callTy call_int1 (by rfl) m_int (by decide +kernel) (ca_cons (ce_ix (ce_var (i := 1) (pv 1)) ce_int (fun _ _ => rfl)) ca_nil))) ce_int) ca_nil))) (blkOk_by (own := [("k", 3)]) (N := N_Lwords) (sc := defScope s_Lwords) (by decide +kernel)) (fun _ _ _ _ _ => (cg_name (pg_name (i := 3) nd rfl (by first | exact Or.inl rfl | exact Or.inr rfl)))) (fun _ _ _ _ _ => pts_nil) (fun _ _ _ _ _ => (ce_ix (ce_var (i := 2) (pv 2)) (ce_mod (ce_cb (c2 := true) cr_int (pe_callTy call_int1 (by rfl) m_int (by decide +kernel) (ca_cons (ce_ix (ce_var (i := 1) (pv 1)) (ce_add ce_int (ce_var (i := 3) (pv 3))) (fun _ _ => rfl)) ca_nil))) ce_int) (fun _ _ => rfl)))))) ca_nil))))))))
theorem ok_Lcolumn {f : Addr} {fd : FuncData} (F : Fun K "_law_column" "_law_column" s_Lcolumn f fd) {a_Ldraws : Addr} {d_Ldraws : FuncData} (G_Ldraws : FnOk P w K mg base CX0 1 a_Ldraws d_Ldraws ["cell", "count"] (spF K g_Ldraws)) (M_Ldraws : mg "_law_draws" = some (.ref a_Ldraws)) (k_Ldraws : PySem.W.keepIn K (.ref a_Ldraws) = true) (b_Ldraws : Binds K d_Ldraws ["cell", "count"] []) (m_int : mg "int" = none) : FnOk P w K mg base CX0 2 f fd ["cell"] (spF K g_Lcolumn) := by
  refine fn_ok (fB := f_Lcolumn) (np := 1) (nN := 5) F sc_Lcolumn rfl rfl rfl fun cdv A outer s H E hr => ?_
  have nd : N_Lcolumn.Nodup := sc_Lcolumn.nd
  exact ((cs_cons (cs_set (ps_set (i := 1) nd rfl (by first | exact Or.inl rfl | exact Or.inr rfl) (ce_call (c := true) (pe_call G_Ldraws (hr.mono (by decide)) (by rfl) M_Ldraws k_Ldraws b_Ldraws .nil pass0 (ca_cons (ce_var (i := 0) (pv 0)) (ca_cons ce_int ca_nil))))))
    (cs_cons (cs_set (ps_set (i := 2) nd rfl (by first | exact Or.inl rfl | exact Or.inr rfl) (ce_add ce_int (ce_mod (ce_cb (c2 := true) cr_int (pe_callTy call_int1 (by rfl) m_int (by decide +kernel) (ca_cons (ce_ix (ce_var (i := 1) (pv 1)) ce_int (fun _ _ => rfl)) ca_nil))) ce_int))))
    (cs_cons (cs_set (ps_set (i := 3) nd rfl (by first | exact Or.inl rfl | exact Or.inr rfl) (ce_if (ct_cmp op_gt r2_B0 (ce_mod (ce_cb (c2 := true) cr_int (pe_callTy call_int1 (by rfl) m_int (by decide +kernel) (ca_cons (ce_ix (ce_var (i := 1) (pv 1)) ce_int (fun _ _ => rfl)) ca_nil))) ce_int) ce_int (nomark _)) ce_non (ce_add (ce_var (i := 2) (pv 2)) (ce_mod (ce_cb (c2 := true) cr_int (pe_callTy call_int1 (by rfl) m_int (by decide +kernel) (ca_cons (ce_ix (ce_var (i := 1) (pv 1)) ce_int (fun _ _ => rfl)) ca_nil))) ce_int)))))
    (cs_cons (cs_set (ps_set (i := 4) nd rfl (by first | exact Or.inl rfl | exact Or.inr rfl) (ce_if (ct_cmp op_gt r2_B0 (ce_mod (ce_cb (c2 := true) cr_int (pe_callTy call_int1 (by rfl) m_int (by decide +kernel) (ca_cons (ce_ix (ce_var (i := 1) (pv 1)) ce_int (fun _ _ => rfl)) ca_nil))) ce_int) ce_int (nomark _)) ce_non (ce_add ce_int (ce_mod (ce_cb (c2 := true) cr_int (pe_callTy call_int1 (by rfl) m_int (by decide +kernel) (ca_cons (ce_ix (ce_var (i := 1) (pv 1)) ce_int (fun _ _ => rfl)) ca_nil))) ce_int)))))
    (cs_one (cs_ret (ce_tup (ca_cons (ce_var (i := 2) (pv 2)) (ca_cons (ce_var (i := 3) (pv 3)) (ca_cons (ce_var (i := 4) (pv 4)) (ca_cons (ce_ix (ce_l (c := true) (cf_lst (c := true) (ca_cons ce_str (ca_cons ce_str (ca_cons ce_str ca_nil))))) (ce_mod (ce_cb (c2 := true) cr_int (pe_callTy call_int1 (by rfl) m_int (by decide +kernel) (ca_cons (ce_ix (ce_var (i := 1) (pv 1)) ce_int (fun _ _ => rfl)) ca_nil))) ce_int) (fun _ _ => rfl)) ca_nil))))))))))))
theorem ok_Lis_free {f : Addr} {fd : FuncData} (F : Fun K "_law_is_free" "_law_is_free" s_Lis_free f fd) (m_range : mg "range" = none) : FnOk P w K mg base CX0 1 f fd ["taken", "row", "column", "height", "width"] (spF K g_Lis_free) := by
  refine fn_ok (fB := f_Lis_free) (np := 5) (nN := 6) F sc_Lis_free rfl rfl rfl fun cdv A outer s H E hr => ?_
  have nd : N_Lis_free.Nodup := sc_Lis_free.nd
  exact ((cs_cons (cs_for PassesOwn.never rfl (ci_r1 (pi_range1 (by rfl) m_range (ca_cons (ce_mul (ce_var (i := 3) (pv 3)) (ce_var (i := 4) (pv 4))) ca_nil))) (cg_name (pg_name (i := 5) nd rfl (by first | exact Or.inl rfl | exact Or.inr rfl)))
    (cs_one (cs_if (ct_cmp (op_inD (hu65 hr)) r2_in (ce_tup (ca_cons (ce_add (ce_var (i := 1) (pv 1)) (ce_div (ce_var (i := 5) (pv 5)) (ce_var (i := 4) (pv 4)))) (ca_cons (ce_add (ce_var (i := 2) (pv 2)) (ce_mod (ce_var (i := 5) (pv 5)) (ce_var (i := 4) (pv 4)))) ca_nil))) (ce_var (i := 0) (pv 0)) (by rfl))
    (cs_one (cs_ret ce_bl))
    cs_nil)))
    (cs_one (cs_ret ce_bl))))
theorem ok_Lcells {f : Addr} {fd : FuncData} (F : Fun K "_law_cells" "_law_cells" s_Lcells f fd) {a_Ldraws : Addr} {d_Ldraws : FuncData} (G_Ldraws : FnOk P w K mg base CX0 1 a_Ldraws d_Ldraws ["cell", "count"] (spF K g_Ldraws)) (M_Ldraws : mg "_law_draws" = some (.ref a_Ldraws)) (k_Ldraws : PySem.W.keepIn K (.ref a_Ldraws) = true) (b_Ldraws : Binds K d_Ldraws ["cell", "count"] []) {a_Lcell : Addr} {d_Lcell : FuncData} (G_Lcell : FnOk P w K mg base CX0 1 a_Lcell d_Lcell ["script", "k"] (spF K g_Lcell)) (M_Lcell : mg "_law_cell" = some (.ref a_Lcell)) (k_Lcell : PySem.W.keepIn K (.ref a_Lcell) = true) (b_Lcell : Binds K d_Lcell ["script", "k"] []) {a_Lis_free : Addr} {d_Lis_free : FuncData} (G_Lis_free : FnOk P w K mg base CX0 1 a_Lis_free d_Lis_free ["taken", "row", "column", "height", "width"] (spF K g_Lis_free)) (M_Lis_free : mg "_law_is_free" = some (.ref a_Lis_free)) (k_Lis_free : PySem.W.keepIn K (.ref a_Lis_free) = true) (b_Lis_free : Binds K d_Lis_free ["taken", "row", "column", "height", "width"] []) {a_Lwords : Addr} {d_Lwords : FuncData} (G_Lwords : FnOk P w K mg base CX0 2 a_Lwords d_Lwords ["cell"] (spF K g_Lwords)) (M_Lwords : mg "_law_words" = some (.ref a_Lwords)) (k_Lwords : PySem.W.keepIn K (.ref a_Lwords) = true) (b_Lwords : Binds K d_Lwords ["cell"] []) (m_range : mg "range" = none) (m_len : mg "len" = none) (m_int : mg "int" = none) (m_min : mg "min" = none) (m_tuple : mg "tuple" = none) : FnOk P w K mg base CX0 3 f fd ["script", "start", "rows", "columns", "heads"] (spF K g_Lcells) := by
  refine fn_ok (fB := f_Lcells) (np := 5) (nN := 14) F sc_Lcells rfl rfl rfl fun cdv A outer s H E hr => ?_
  have nd : N_Lcells.Nodup := sc_Lcells.nd
  exact ((cs_cons (cs_own (ps_set (i := 5) nd rfl (by first | exact Or.inl rfl | exact Or.inr rfl) (cf_lst (c := true) ca_nil)))
    (cs_cons (cs_own (ps_set (i := 6) nd rfl (by first | exact Or.inl rfl | exact Or.inr rfl) (cf_lst (c := true) ca_nil)))
    (cs_cons (cs_for PassesOwn.never rfl (ci_r1 (pi_range1 (by rfl) m_range (ca_cons (ce_mul (ce_var (i := 2) (pv 2)) (ce_var (i := 3) (pv 3))) ca_nil))) (cg_name (pg_name (i := 7) nd rfl (by first | exact Or.inl rfl | exact Or.inr rfl)))
    (cs_cons (cs_set (ps_set (i := 8) nd rfl (by first | exact Or.inl rfl | exact Or.inr rfl) (ce_div (ce_var (i := 7) (pv 7)) (ce_var (i := 3) (pv 3)))))
    (cs_cons (cs_set (ps_set (i := 9) nd rfl (by first | exact Or.inl rfl | exact Or.inr rfl) (ce_mod (ce_var (i := 7) (pv 7)) (ce_var (i := 3) (pv 3)))))
    (cs_one (cs_if (ct_cmp (op_notInD (hu65 hr)) r2_notIn (ce_b (ce_tup (ca_cons (ce_var (i := 8) (pv 8)) (ca_cons (ce_var (i := 9) (pv 9)) ca_nil)))) (ce_bor (i := 5) (pv 5)) (by rfl))
    (cs_cons (cs_set (ps_set (i := 10) nd rfl (by first | exact Or.inl rfl | exact Or.inr rfl) (ce_call (c := true) (pe_call G_Ldraws (hr.mono (by decide)) (by rfl) M_Ldraws k_Ldraws b_Ldraws .nil pass0 (ca_cons (ce_call (c := true) (pe_call G_Lcell (hr.mono (by decide)) (by rfl) M_Lcell k_Lcell b_Lcell .nil pass0 (ca_cons (ce_var (i := 0) (pv 0)) (ca_cons (ce_add (ce_var (i := 1) (pv 1)) (ce_cb (c2 := true) cr_len (pe_callB call_len (by rfl) m_len boot_len (ca_cons (ce_bor (i := 6) (pv 6)) ca_nil)))) ca_nil)))) (ca_cons ce_int ca_nil))))))
    (cs_cons (cs_set (ps_set (i := 11) nd rfl (by first | exact Or.inl rfl | exact Or.inr rfl) (ce_cb (c2 := true) cr_mn2 (pe_callB (call_min2 rfl) (by rfl) m_min (by decide +kernel) (ca_cons (ce_add ce_int (ce_mod (ce_cb (c2 := true) cr_int (pe_callTy call_int1 (by rfl) m_int (by decide +kernel) (ca_cons (ce_ix (ce_var (i := 10) (pv 10)) ce_int (fun _ _ => rfl)) ca_nil))) ce_int)) (ca_cons (ce_sub (ce_if (ct_cmp op_ge r2_B0 (ce_var (i := 8) (pv 8)) (ce_var (i := 4) (pv 4)) (nomark _)) (ce_var (i := 2) (pv 2)) (ce_var (i := 4) (pv 4))) (ce_var (i := 8) (pv 8))) ca_nil))))))
    (cs_cons (cs_set (ps_set (i := 12) nd rfl (by first | exact Or.inl rfl | exact Or.inr rfl) (ce_cb (c2 := true) cr_mn2 (pe_callB (call_min2 rfl) (by rfl) m_min (by decide +kernel) (ca_cons (ce_add (ce_add ce_int (ce_div (ce_mod (ce_cb (c2 := true) cr_int (pe_callTy call_int1 (by rfl) m_int (by decide +kernel) (ca_cons (ce_ix (ce_var (i := 10) (pv 10)) ce_int (fun _ _ => rfl)) ca_nil))) ce_int) ce_int)) (ce_mod (ce_cb (c2 := true) cr_int (pe_callTy call_int1 (by rfl) m_int (by decide +kernel) (ca_cons (ce_ix (ce_var (i := 10) (pv 10)) ce_int (fun _ _ => rfl)) ca_nil))) ce_int)) (ca_cons (ce_sub (ce_var (i := 3) (pv 3)) (ce_var (i := 9) (pv 9))) ca_nil))))))
    (cs_cons (cs_while 5 PassesOwn.never (ct_not (ct_tru (ce_callB (c := true) (pe_call G_Lis_free (hr.mono (by decide)) (by rfl) M_Lis_free k_Lis_free b_Lis_free .nil pass0 (ca_cons (ce_bor (i := 5) (pv 5)) (ca_cons (ce_b (ce_var (i := 8) (pv 8))) (ca_cons (ce_b (ce_var (i := 9) (pv 9))) (ca_cons (ce_b (ce_var (i := 11) (pv 11))) (ca_cons (ce_b (ce_var (i := 12) (pv 12))) ca_nil))))))) (by intro _; rfl)))
    (cs_one (cs_set (ps_set (i := 12) nd rfl (by first | exact Or.inl rfl | exact Or.inr rfl) (ce_sub (ce_var (i := 12) (pv 12)) ce_int)))))
    (cs_cons (cs_for PassesOwn.never rfl (ci_r1 (pi_range1 (by rfl) m_range (ca_cons (ce_mul (ce_var (i := 11) (pv 11)) (ce_var (i := 12) (pv 12))) ca_nil))) (cg_name (pg_name (i := 13) nd rfl (by first | exact Or.inl rfl | exact Or.inr rfl)))
    (cs_one (cs_app (ps_expr (pe_bm PySem.F.plainAttrs_list PySem.F.slot_list_append PySem.F.type_list_append mt_append (pv 5) (pa_cons (ce_tup (ca_cons (ce_add (ce_var (i := 8) (pv 8)) (ce_div (ce_var (i := 13) (pv 13)) (ce_var (i := 12) (pv 12)))) (ca_cons (ce_add (ce_var (i := 9) (pv 9)) (ce_mod (ce_var (i := 13) (pv 13)) (ce_var (i := 12) (pv 12)))) ca_nil))) pa_nil))))))
    (cs_one (cs_app (ps_expr (pe_bm PySem.F.plainAttrs_list PySem.F.slot_list_append PySem.F.type_list_append mt_append (pv 6) (pa_cons (ce_tup (ca_cons (ce_var (i := 8) (pv 8)) (ca_cons (ce_var (i := 9) (pv 9)) (ca_cons (ce_var (i := 11) (pv 11)) (ca_cons (ce_var (i := 12) (pv 12)) (ca_cons (ce_call (c := true) (pe_call G_Lwords (hr.mono (by decide)) (by rfl) M_Lwords k_Lwords b_Lwords .nil pass0 (ca_cons (ce_add (ce_call (c := true) (pe_call G_Lcell (hr.mono (by decide)) (by rfl) M_Lcell k_Lcell b_Lcell .nil pass0 (ca_cons (ce_var (i := 0) (pv 0)) (ca_cons (ce_add (ce_var (i := 1) (pv 1)) (ce_cb (c2 := true) cr_len (pe_callB call_len (by rfl) m_len boot_len (ca_cons (ce_bor (i := 6) (pv 6)) ca_nil)))) ca_nil)))) (ce_cb (c2 := true) cr_int (pe_callTy call_int1 (by rfl) m_int (by decide +kernel) (ca_cons (ce_ix (ce_var (i := 10) (pv 10)) ce_int (fun _ _ => rfl)) ca_nil)))) ca_nil))) ca_nil)))))) pa_nil))))))))))
    cs_nil)))))
    (cs_one (cs_ret (ce_tupO (i := 6) (pe_callTy call_tuple_of (by rfl) m_tuple (by decide +kernel) (pa_cons (pv 6) pa_nil)))))))))
theorem ok_Ltable {f : Addr} {fd : FuncData} (F : Fun K "_law_table" "_law_table" s_Ltable f fd) {a_Ldraws : Addr} {d_Ldraws : FuncData} (G_Ldraws : FnOk P w K mg base CX0 1 a_Ldraws d_Ldraws ["cell", "count"] (spF K g_Ldraws)) (M_Ldraws : mg "_law_draws" = some (.ref a_Ldraws)) (k_Ldraws : PySem.W.keepIn K (.ref a_Ldraws) = true) (b_Ldraws : Binds K d_Ldraws ["cell", "count"] []) {a_Lcell : Addr} {d_Lcell : FuncData} (G_Lcell : FnOk P w K mg base CX0 1 a_Lcell d_Lcell ["script", "k"] (spF K g_Lcell)) (M_Lcell : mg "_law_cell" = some (.ref a_Lcell)) (k_Lcell : PySem.W.keepIn K (.ref a_Lcell) = true) (b_Lcell : Binds K d_Lcell ["script", "k"] []) {a_Lcolumn : Addr} {d_Lcolumn : FuncData} (G_Lcolumn : FnOk P w K mg base CX0 2 a_Lcolumn d_Lcolumn ["cell"] (spF K g_Lcolumn)) (M_Lcolumn : mg "_law_column" = some (.ref a_Lcolumn)) (k_Lcolumn : PySem.W.keepIn K (.ref a_Lcolumn) = true) (b_Lcolumn : Binds K d_Lcolumn ["cell"] []) {a_Lcells : Addr} {d_Lcells : FuncData} (G_Lcells : FnOk P w K mg base CX0 3 a_Lcells d_Lcells ["script", "start", "rows", "columns", "heads"] (spF K g_Lcells)) (M_Lcells : mg "_law_cells" = some (.ref a_Lcells)) (k_Lcells : PySem.W.keepIn K (.ref a_Lcells) = true) (b_Lcells : Binds K d_Lcells ["script", "start", "rows", "columns", "heads"] []) (m_int : mg "int" = none) (m_min : mg "min" = none) (m_range : mg "range" = none) (m_tuple : mg "tuple" = none) : FnOk P w K mg base CX0 4 f fd ["script", "start"] (spF K g_Ltable) := by
  refine fn_ok (fB := f_Ltable) (np := 2) (nN := 11) F sc_Ltable rfl rfl rfl fun cdv A outer s H E hr => ?_
  have nd : N_Ltable.Nodup := sc_Ltable.nd
  exact ((cs_cons (cs_set (ps_set (i := 2) nd rfl (by first | exact Or.inl rfl | exact Or.inr rfl) (ce_call (c := true) (pe_call G_Ldraws (hr.mono (by decide)) (by rfl) M_Ldraws k_Ldraws b_Ldraws .nil pass0 (ca_cons (ce_call (c := true) (pe_call G_Lcell (hr.mono (by decide)) (by rfl) M_Lcell k_Lcell b_Lcell .nil pass0 (ca_cons (ce_var (i := 0) (pv 0)) (ca_cons (ce_var (i := 1) (pv 1)) ca_nil)))) (ca_cons ce_int ca_nil))))))
    (cs_cons (cs_set (ps_set (i := 3) nd rfl (by first | exact Or.inl rfl | exact Or.inr rfl) (ce_add ce_int (ce_mod (ce_cb (c2 := true) cr_int (pe_callTy call_int1 (by rfl) m_int (by decide +kernel) (ca_cons (ce_ix (ce_var (i := 2) (pv 2)) ce_int (fun _ _ => rfl)) ca_nil))) ce_int))))
    (cs_cons (cs_set (ps_set (i := 4) nd rfl (by first | exact Or.inl rfl | exact Or.inr rfl) (ce_add ce_int (ce_mod (ce_cb (c2 := true) cr_int (pe_callTy call_int1 (by rfl) m_int (by decide +kernel) (ca_cons (ce_ix (ce_var (i := 2) (pv 2)) ce_int (fun _ _ => rfl)) ca_nil))) ce_int))))
    (cs_cons (cs_set (ps_set (i := 5) nd rfl (by first | exact Or.inl rfl | exact Or.inr rfl) (ce_cb (c2 := true) cr_mn2 (pe_callB (call_min2 rfl) (by rfl) m_min (by decide +kernel) (ca_cons (ce_var (i := 4) (pv 4)) (ca_cons (ce_mod (ce_cb (c2 := true) cr_int (pe_callTy call_int1 (by rfl) m_int (by decide +kernel) (ca_cons (ce_ix (ce_var (i := 2) (pv 2)) ce_int (fun _ _ => rfl)) ca_nil))) ce_int) ca_nil))))))
    (cs_cons (cs_own (ps_set (i := 6) nd rfl (by first | exact Or.inl rfl | exact Or.inr rfl) (cf_lst (c := true) ca_nil)))
    (cs_cons (cs_for PassesOwn.never rfl (ci_r1 (pi_range1 (by rfl) m_range (ca_cons (ce_var (i := 4) (pv 4)) ca_nil))) (cg_name (pg_name (i := 7) nd rfl (by first | exact Or.inl rfl | exact Or.inr rfl)))
    (cs_cons (cs_set (ps_set (i := 8) nd rfl (by first | exact Or.inl rfl | exact Or.inr rfl) (ce_call (c := true) (pe_call G_Ldraws (hr.mono (by decide)) (by rfl) M_Ldraws k_Ldraws b_Ldraws .nil pass0 (ca_cons (ce_call (c := true) (pe_call G_Lcell (hr.mono (by decide)) (by rfl) M_Lcell k_Lcell b_Lcell .nil pass0 (ca_cons (ce_var (i := 0) (pv 0)) (ca_cons (ce_add (ce_add (ce_var (i := 1) (pv 1)) ce_int) (ce_var (i := 7) (pv 7))) ca_nil)))) (ca_cons ce_int ca_nil))))))
    (cs_one (cs_app (ps_expr (pe_bm PySem.F.plainAttrs_list PySem.F.slot_list_append PySem.F.type_list_append mt_append (pv 6) (pa_cons (ce_tup (ca_cons (ce_add ce_int (ce_mod (ce_cb (c2 := true) cr_int (pe_callTy call_int1 (by rfl) m_int (by decide +kernel) (ca_cons (ce_ix (ce_var (i := 8) (pv 8)) ce_int (fun _ _ => rfl)) ca_nil))) ce_int)) (ca_cons (ce_cmp op_lt r2_B0 (ce_var (i := 7) (pv 7)) (ce_var (i := 5) (pv 5)) (nomark _)) (ca_cons (ce_cmp (op_eqD hr.units) r2_eq (ce_mod (ce_cb (c2 := true) cr_int (pe_callTy call_int1 (by rfl) m_int (by decide +kernel) (ca_cons (ce_ix (ce_var (i := 8) (pv 8)) ce_int (fun _ _ => rfl)) ca_nil))) ce_int) ce_int (nomark _)) ca_nil)))) pa_nil)))))))
    (cs_cons (cs_lcV1 (ps_setLc (i := 9) (own := [("k", 10)]) rfl nd rfl rfl (sw_true rfl rfl rfl (by decide +kernel)) (ci_r1 (pi_range1 (by rfl) m_range (ca_cons (ce_var (i := 3) (pv 3)) ca_nil))) (blkOk_by (own := [("k", 10)]) (N := N_Ltable) (sc := defScope s_Ltable) (by decide +kernel)) (fun _ _ _ _ _ => (cg_name (pg_name (i := 10) nd rfl (by first | exact Or.inl rfl | exact Or.inr rfl)))) (fun _ _ _ _ _ => pts_nil) (fun _ _ _ _ _ => (ce_call (c := true) (pe_call G_Lcolumn (hr.mono (by decide)) (by rfl) M_Lcolumn k_Lcolumn b_Lcolumn .nil pass0 (ca_cons (ce_call (c := true) (pe_call G_Lcell (hr.mono (by decide)) (by rfl) M_Lcell k_Lcell b_Lcell .nil pass0 (ca_cons (ce_var (i := 0) (pv 0)) (ca_cons (ce_add (ce_add (ce_var (i := 1) (pv 1)) ce_int) (ce_var (i := 10) (pv 10))) ca_nil)))) ca_nil))))))
    (cs_one (cs_ret (ce_tup (ca_cons (ce_cb (c2 := true) cr_tup (pe_callTy call_tuple_of (by rfl) m_tuple (by decide +kernel) (ca_cons (ce_var (i := 9) (pv 9)) ca_nil))) (ca_cons (ce_tupO (i := 6) (pe_callTy call_tuple_of (by rfl) m_tuple (by decide +kernel) (pa_cons (pv 6) pa_nil))) (ca_cons (ce_call (c := true) (pe_call G_Lcells (hr.mono (by decide)) (by rfl) M_Lcells k_Lcells b_Lcells .nil pass0 (ca_cons (ce_var (i := 0) (pv 0)) (ca_cons (ce_add (ce_var (i := 1) (pv 1)) ce_int) (ca_cons (ce_var (i := 4) (pv 4)) (ca_cons (ce_var (i := 3) (pv 3)) (ca_cons (ce_var (i := 5) (pv 5)) ca_nil))))))) ca_nil))))))))))))))
theorem ok_Lmay_end {f : Addr} {fd : FuncData} (F : Fun K "_law_may_end" "_law_may_end" s_Lmay_end f fd) (m_len : mg "len" = none) : FnOk P w K mg base CX0 1 f fd ["table", "heads", "behind"] (spF K g_Lmay_end) := by
  refine fn_ok (fB := f_Lmay_end) (np := 3) (nN := 4) F sc_Lmay_end rfl rfl rfl fun cdv A outer s H E hr => ?_
  have nd : N_Lmay_end.Nodup := sc_Lmay_end.nd
  exact ((cs_cons (cs_if (ct_cmp (op_eqD hr.units) r2_eq (ce_var (i := 2) (pv 2)) (ce_cb (c2 := true) cr_len (pe_callB call_len (by rfl) m_len boot_len (ca_cons (ce_ix (ce_var (i := 0) (pv 0)) ce_int (fun _ _ => rfl)) ca_nil))) (nomark _))
    (cs_one (cs_ret ce_bl))
    cs_nil)
    (cs_cons (cs_if (PW.pt (cw_or (ct_cmp op_le r2_B0 (ce_var (i := 2) (pv 2)) (ce_var (i := 1) (pv 1)) (nomark _)) (cw_or1 (ct_tru (ce_ix (ce_ix (ce_ix (ce_var (i := 0) (pv 0)) ce_int (fun _ _ => rfl)) (ce_sub (ce_var (i := 2) (pv 2)) ce_int) (fun _ _ => rfl)) ce_int (fun _ _ => rfl)) (by intro _; rfl)))))
    (cs_one (cs_ret ce_bl))
    cs_nil)
    (cs_cons (cs_for PassesOwn.never rfl (ci_seq (ce_ix (ce_var (i := 0) (pv 0)) ce_int (fun _ _ => rfl))) (cg_name (pg_name (i := 3) nd rfl (by first | exact Or.inl rfl | exact Or.inr rfl)))
    (cs_one (cs_if (ct_chain (pt_chain op_lt op_lt (ce_ix (ce_var (i := 3) (pv 3)) ce_int (fun _ _ => rfl)) (ce_var (i := 2) (pv 2)) (ce_add (ce_ix (ce_var (i := 3) (pv 3)) ce_int (fun _ _ => rfl)) (ce_ix (ce_var (i := 3) (pv 3)) ce_int (fun _ _ => rfl)))))
    (cs_one (cs_ret ce_bl))
    cs_nil)))
    (cs_one (cs_ret ce_bl))))))
theorem okN_Ldivisions {f : Addr} {fd : FuncData} (F : Fun K "_law_divisions" "_law_divisions" s_Ldivisions f fd) {a_Lmay_end : Addr} {d_Lmay_end : FuncData} (G_Lmay_end : FnOk P w K mg base CX0 1 a_Lmay_end d_Lmay_end ["table", "heads", "behind"] (spF K g_Lmay_end)) (M_Lmay_end : mg "_law_may_end" = some (.ref a_Lmay_end)) (k_Lmay_end : PySem.W.keepIn K (.ref a_Lmay_end) = true) (b_Lmay_end : Binds K d_Lmay_end ["table", "heads", "behind"] []) (M_Ldivisions : mg "_law_divisions" = some (.ref f)) (k_Ldivisions : PySem.W.keepIn K (.ref f) = true) (b_Ldivisions : Binds K fd ["table", "lines", "most", "heads", "first"] []) (m_len : mg "len" = none) (m_range : mg "range" = none) : ∀ n : Nat, FnOk P w K mg base CX0 (2 + n) f fd ["table", "lines", "most", "heads", "first"] (spF K (gN_Ldivisions n))
  | 0 => fn_imp (g := gDef 5 9 fun _ => .bad) (fn_ok (k := 1) (fB := fun _ => .bad) (np := 5) (nN := 9) F sc_Ldivisions rfl rfl rfl fun cdv A outer s H E hr => ⟨fun pins s σ H D I h => by obtain ⟨S0, H0, A, env, E, o⟩ := h; exact o.elim⟩) fun _ _ h => nomatch h
  | n + 1 => by
    have G_Ldivisions := okN_Ldivisions F G_Lmay_end M_Lmay_end k_Lmay_end b_Lmay_end M_Ldivisions k_Ldivisions b_Ldivisions m_len m_range  n
    obtain ⟨rc, hrc⟩ : ∃ rc, rc = gN_Ldivisions n := ⟨_, rfl⟩
    rw [← hrc] at G_Ldivisions
    refine fn_ok (k := 2 + n) (fB := f_Ldivisions rc) (np := 5) (nN := 9) F sc_Ldivisions rfl rfl (by rw [hrc]; rfl) fun cdv A outer s H E hr => ?_
    have nd : N_Ldivisions.Nodup := sc_Ldivisions.nd
    exact ((cs_cons (cs_if (ct_cmp (op_eqD hr.units) r2_eq (ce_var (i := 4) (pv 4)) (ce_cb (c2 := true) cr_len (pe_callB call_len (by rfl) m_len boot_len (ca_cons (ce_ix (ce_var (i := 0) (pv 0)) ce_int (fun _ _ => rfl)) ca_nil))) (nomark _))
    (cs_one (cs_ret (ce_l (c := true) (cf_lst (c := true) (ca_cons (ce_l (c := true) (cf_lst (c := true) ca_nil)) ca_nil)))))
    cs_nil)
    (cs_cons (cs_own (ps_set (i := 5) nd rfl (by first | exact Or.inl rfl | exact Or.inr rfl) (cf_lst (c := true) ca_nil)))
    (cs_cons (cs_for PassesOwn.never rfl (ci_r2 (pi_range2 (by rfl) m_range (ca_cons (ce_add (ce_var (i := 4) (pv 4)) ce_int) (ca_cons (ce_add (ce_cb (c2 := true) cr_len (pe_callB call_len (by rfl) m_len boot_len (ca_cons (ce_ix (ce_var (i := 0) (pv 0)) ce_int (fun _ _ => rfl)) ca_nil))) ce_int) ca_nil)))) (cg_name (pg_name (i := 6) nd rfl (by first | exact Or.inl rfl | exact Or.inr rfl)))
    (cs_cons (cs_set (ps_set (i := 7) nd rfl (by first | exact Or.inl rfl | exact Or.inr rfl) (ce_add (ce_sub (ce_add (ce_ix (ce_var (i := 1) (pv 1)) (ce_var (i := 3) (pv 3)) (fun _ _ => rfl)) (ce_ix (ce_var (i := 1) (pv 1)) (ce_var (i := 6) (pv 6)) (fun _ _ => rfl))) (ce_ix (ce_var (i := 1) (pv 1)) (ce_var (i := 4) (pv 4)) (fun _ _ => rfl))) ce_int)))
    (cs_one (cs_if (PW.pt (cw_and (ct_cmp op_le r2_B0 (ce_var (i := 7) (pv 7)) (ce_var (i := 2) (pv 2)) (nomark _)) (cw_and1 (ct_tru (ce_call (c := true) (pe_call G_Lmay_end (hr.mono (by omega)) (by rfl) M_Lmay_end k_Lmay_end b_Lmay_end .nil pass0 (ca_cons (ce_var (i := 0) (pv 0)) (ca_cons (ce_var (i := 3) (pv 3)) (ca_cons (ce_var (i := 6) (pv 6)) ca_nil))))) (by intro _; rfl)))))
    (cs_one (cs_for PassesOwn.never rfl (ci_seq (ce_call (c := true) (pe_call G_Ldivisions (hr.mono (by omega)) (by rfl) M_Ldivisions k_Ldivisions b_Ldivisions .nil pass0 (ca_cons (ce_var (i := 0) (pv 0)) (ca_cons (ce_var (i := 1) (pv 1)) (ca_cons (ce_var (i := 2) (pv 2)) (ca_cons (ce_var (i := 3) (pv 3)) (ca_cons (ce_var (i := 6) (pv 6)) ca_nil)))))))) (cg_name (pg_name (i := 8) nd rfl (by first | exact Or.inl rfl | exact Or.inr rfl)))
    (cs_one (cs_app (ps_expr (pe_bm PySem.F.plainAttrs_list PySem.F.slot_list_append PySem.F.type_list_append mt_append (pv 5) (pa_cons (ce_l (c := true) (cf_cat (c := true) (ce_l (c := true) (cf_lst (c := true) (ca_cons (ce_tup (ca_cons (ce_var (i := 4) (pv 4)) (ca_cons (ce_var (i := 6) (pv 6)) ca_nil))) ca_nil))) (ce_var (i := 8) (pv 8)))) pa_nil)))))))
    cs_nil))))
    (cs_one (cs_frz (i := 5) (cs_ret (ce_var (i := 5) (pv 5)))))))))
theorem ok_Ldivisions {f : Addr} {fd : FuncData} (F : Fun K "_law_divisions" "_law_divisions" s_Ldivisions f fd) {a_Lmay_end : Addr} {d_Lmay_end : FuncData} (G_Lmay_end : FnOk P w K mg base CX0 1 a_Lmay_end d_Lmay_end ["table", "heads", "behind"] (spF K g_Lmay_end)) (M_Lmay_end : mg "_law_may_end" = some (.ref a_Lmay_end)) (k_Lmay_end : PySem.W.keepIn K (.ref a_Lmay_end) = true) (b_Lmay_end : Binds K d_Lmay_end ["table", "heads", "behind"] []) (M_Ldivisions : mg "_law_divisions" = some (.ref f)) (k_Ldivisions : PySem.W.keepIn K (.ref f) = true) (b_Ldivisions : Binds K fd ["table", "lines", "most", "heads", "first"] []) (m_len : mg "len" = none) (m_range : mg "range" = none) : FnOk P w K mg base CX0 8 f fd ["table", "lines", "most", "heads", "first"] (spF K g_Ldivisions) := okN_Ldivisions F G_Lmay_end M_Lmay_end k_Lmay_end b_Lmay_end M_Ldivisions k_Ldivisions b_Ldivisions m_len m_range  6
theorem ok_law {f : Addr} {fd : FuncData} (F : Fun K "law" "law" s_law f fd) {a_Ltable : Addr} {d_Ltable : FuncData} (G_Ltable : FnOk P w K mg base CX0 4 a_Ltable d_Ltable ["script", "start"] (spF K g_Ltable)) (M_Ltable : mg "_law_table" = some (.ref a_Ltable)) (k_Ltable : PySem.W.keepIn K (.ref a_Ltable) = true) (b_Ltable : Binds K d_Ltable ["script", "start"] []) {a_Lcell : Addr} {d_Lcell : FuncData} (G_Lcell : FnOk P w K mg base CX0 1 a_Lcell d_Lcell ["script", "k"] (spF K g_Lcell)) (M_Lcell : mg "_law_cell" = some (.ref a_Lcell)) (k_Lcell : PySem.W.keepIn K (.ref a_Lcell) = true) (b_Lcell : Binds K d_Lcell ["script", "k"] []) {a_paginate : Addr} {d_paginate : FuncData} (G_paginate : FnOk P w K mg base CX0 3 a_paginate d_paginate ["table", "row_lines", "page_height"] (spF K g_paginate)) (M_paginate : mg "paginate" = some (.ref a_paginate)) (k_paginate : PySem.W.keepIn K (.ref a_paginate) = true) (b_paginate : Binds K d_paginate ["table", "row_lines", "page_height"] []) {a_Ldivisions : Addr} {d_Ldivisions : FuncData} (G_Ldivisions : FnOk P w K mg base CX0 8 a_Ldivisions d_Ldivisions ["table", "lines", "most", "heads", "first"] (spF K g_Ldivisions)) (M_Ldivisions : mg "_law_divisions" = some (.ref a_Ldivisions)) (k_Ldivisions : PySem.W.keepIn K (.ref a_Ldivisions) = true) (b_Ldivisions : Binds K d_Ldivisions ["table", "lines", "most", "heads", "first"] []) (m_len : mg "len" = none) (m_range : mg "range" = none) (m_tuple : mg "tuple" = none) (m_isinstance : mg "isinstance" = none) (m_list : mg "list" = none) : FnOk P w K mg base CX0 9 f fd ["script"] (spF K g_law) := by
  refine fn_ok (fB := f_law) (np := 1) (nN := 10) F sc_law rfl rfl rfl fun cdv A outer s H E hr => ?_
  have nd : N_law.Nodup := sc_law.nd
  exact ((cs_cons (cs_set (ps_set (i := 1) nd rfl (by first | exact Or.inl rfl | exact Or.inr rfl) (ce_call (c := true) (pe_call G_Ltable (hr.mono (by decide)) (by rfl) M_Ltable k_Ltable b_Ltable .nil pass0 (ca_cons (ce_var (i := 0) (pv 0)) (ca_cons ce_int ca_nil))))))
    (cs_cons (cs_own (ps_set (i := 2) nd rfl (by first | exact Or.inl rfl | exact Or.inr rfl) (cf_lst (c := true) (ca_cons ce_int ca_nil))))
    (cs_cons (cs_for PassesOwn.never rfl (ci_r1 (pi_range1 (by rfl) m_range (ca_cons (ce_cb (c2 := true) cr_len (pe_callB call_len (by rfl) m_len boot_len (ca_cons (ce_ix (ce_var (i := 1) (pv 1)) ce_int (fun _ _ => rfl)) ca_nil))) ca_nil))) (cg_name (pg_name (i := 3) nd rfl (by first | exact Or.inl rfl | exact Or.inr rfl)))
    (cs_one (cs_app (ps_expr (pe_bm PySem.F.plainAttrs_list PySem.F.slot_list_append PySem.F.type_list_append mt_append (pv 2) (pa_cons (ce_add (ce_add (ce_ixO (i := 2) (pv 2) (ce_neg ce_int) (fun _ _ => rfl)) ce_int) (ce_mod (ce_call (c := true) (pe_call G_Lcell (hr.mono (by decide)) (by rfl) M_Lcell k_Lcell b_Lcell .nil pass0 (ca_cons (ce_var (i := 0) (pv 0)) (ca_cons (ce_add ce_int (ce_var (i := 3) (pv 3))) ca_nil)))) ce_int)) pa_nil))))))
    (cs_cons (cs_set (ps_set (i := 4) nd rfl (by first | exact Or.inl rfl | exact Or.inr rfl) (ce_add ce_int (ce_mod (ce_call (c := true) (pe_call G_Lcell (hr.mono (by decide)) (by rfl) M_Lcell k_Lcell b_Lcell .nil pass0 (ca_cons (ce_var (i := 0) (pv 0)) (ca_cons ce_int ca_nil)))) ce_int))))
    (cs_cons (cs_set (ps_set (i := 5) nd rfl (by first | exact Or.inl rfl | exact Or.inr rfl) (ce_cb (c2 := true) cr_len (pe_callB call_len (by rfl) m_len boot_len (ca_cons (ce_l (c := true) (cf_lc (c2 := true) (pe_lc (own := [("row", 9)]) (by rfl) nd (ci_seq (ce_ix (ce_var (i := 1) (pv 1)) ce_int (fun _ _ => rfl))) (blkOk_by (own := [("row", 9)]) (N := N_law) (sc := defScope s_law) (by decide +kernel)) (fun _ _ _ _ _ => (cg_name (pg_name (i := 9) nd rfl (by first | exact Or.inl rfl | exact Or.inr rfl)))) (fun _ _ _ _ _ => (pts_one (ct_tru (ce_ix (ce_var (i := 9) (pv 9)) ce_int (fun _ _ => rfl)) (by intro _; rfl)))) (fun _ _ _ _ _ => ce_int)))) ca_nil)))))
    (cs_cons (cs_set (ps_set (i := 6) nd rfl (by first | exact Or.inl rfl | exact Or.inr rfl) (ce_call (c := true) (pe_call G_paginate (hr.mono (by decide)) (by rfl) M_paginate k_paginate b_paginate .nil pass0 (ca_cons (ce_var (i := 1) (pv 1)) (ca_cons (ce_tupO (i := 2) (pe_callTy call_tuple_of (by rfl) m_tuple (by decide +kernel) (pa_cons (pv 2) pa_nil))) (ca_cons (ce_var (i := 4) (pv 4)) ca_nil)))))))
    (cs_cons (cs_if (ct_cmp (op_eqD hr.units) r2_eq (ce_var (i := 5) (pv 5)) (ce_cb (c2 := true) cr_len (pe_callB call_len (by rfl) m_len boot_len (ca_cons (ce_ix (ce_var (i := 1) (pv 1)) ce_int (fun _ _ => rfl)) ca_nil))) (nomark _))
    (cs_one (cs_ret (ce_cmp (op_eqD hr.units) r2_eq (ce_var (i := 6) (pv 6)) (ce_if (ct_cmp op_le r2_B0 (ce_add (ce_ixO (i := 2) (pv 2) (ce_neg ce_int) (fun _ _ => rfl)) ce_int) (ce_var (i := 4) (pv 4)) (nomark _)) (ce_l (c := true) (cf_lst (c := true) (ca_cons (ce_tup (ca_cons (ce_var (i := 5) (pv 5)) (ca_cons (ce_var (i := 5) (pv 5)) ca_nil))) ca_nil))) ce_non) (nomark _))))
    cs_nil)
    (cs_cons (cs_frz (i := 2) (cs_set (ps_set (i := 7) nd rfl (by first | exact Or.inl rfl | exact Or.inr rfl) (ce_call (c := true) (pe_call G_Ldivisions (hr.mono (by decide)) (by rfl) M_Ldivisions k_Ldivisions b_Ldivisions .nil pass0 (ca_cons (ce_var (i := 1) (pv 1)) (ca_cons (ce_var (i := 2) (pv 2)) (ca_cons (ce_var (i := 4) (pv 4)) (ca_cons (ce_var (i := 5) (pv 5)) (ca_cons (ce_var (i := 5) (pv 5)) ca_nil))))))))))
    (cs_cons (cs_if (ct_cmp (op_eqD hr.units) r2_eq (ce_cb (c2 := true) cr_len (pe_callB call_len (by rfl) m_len boot_len (ca_cons (ce_var (i := 7) (pv 7)) ca_nil))) ce_int (nomark _))
    (cs_one (cs_ret (ce_cmp op_isN r2_is (ce_var (i := 6) (pv 6)) ce_non (nomark _))))
    cs_nil)
    (cs_cons (cs_if (PW.pt (cw_or (ct_not (ct_val (ce_isi (T := "list") (pe_callB call_isi (by rfl) m_isinstance (by decide +kernel) (pa_cons (ce_var (i := 6) (pv 6)) (pa_cons (pe_bltn (v := .ty "list") (by rfl) m_list (by decide +kernel) rfl) pa_nil)))))) (cw_or1 (ct_cmp (op_notInD (hu65 hr)) r2_notIn (ce_var (i := 6) (pv 6)) (ce_var (i := 7) (pv 7)) (by rfl)))))
    (cs_one (cs_ret ce_bl))
    cs_nil)
    (cs_cons (cs_for PassesOwn.never rfl (ci_seq (ce_var (i := 7) (pv 7))) (cg_name (pg_name (i := 8) nd rfl (by first | exact Or.inl rfl | exact Or.inr rfl)))
    (cs_cons (cs_if (ct_cmp op_lt r2_B0 (ce_cb (c2 := true) cr_len (pe_callB call_len (by rfl) m_len boot_len (ca_cons (ce_var (i := 8) (pv 8)) ca_nil))) (ce_cb (c2 := true) cr_len (pe_callB call_len (by rfl) m_len boot_len (ca_cons (ce_var (i := 6) (pv 6)) ca_nil))) (nomark _))
    (cs_one (cs_ret ce_bl))
    cs_nil)
    (cs_one (cs_for PassesOwn.never rfl (ci_r1 (pi_range1 (by rfl) m_range (ca_cons (ce_cb (c2 := true) cr_len (pe_callB call_len (by rfl) m_len boot_len (ca_cons (ce_var (i := 6) (pv 6)) ca_nil))) ca_nil))) (cg_name (pg_name (i := 3) nd rfl (by first | exact Or.inl rfl | exact Or.inr rfl)))
    (cs_one (cs_if (ct_cmp op_gt r2_B0 (ce_ix (ce_ix (ce_var (i := 8) (pv 8)) (ce_var (i := 3) (pv 3)) (fun _ _ => rfl)) ce_int (fun _ _ => rfl)) (ce_ix (ce_ix (ce_var (i := 6) (pv 6)) (ce_var (i := 3) (pv 3)) (fun _ _ => rfl)) ce_int (fun _ _ => rfl)) (nomark _))
    (cs_one (cs_ret ce_bl))
    cs_nil))))))
    (cs_one (cs_ret ce_bl))))))))))))))
end
/-! ### the end -/
theorem all_mk {l : PySem.W.OpenLaw} {w : World} {K : PySem.W.Frag} {h : Heap} {mg : Str → Option Value} {fa : Addr} (X : K.In h) (G : h.Ns mainGlobals mg) (hfa : mg "law" = some (.ref fa))
    {f_covers_both : Addr} {od_covers_both an_covers_both : Option Addr} {sl_covers_both : Array (Option Value)} {oc_covers_both kV_covers_both dc_covers_both pm_covers_both cd_covers_both ct_covers_both : Value}
    (a_covers_both : PySem.W.nsIn K mainGlobals "covers_both" = some (some (.ref f_covers_both))) (l_covers_both : K.lookup f_covers_both = some ⟨oc_covers_both, od_covers_both, .func (PySem.W.fnOf "covers_both" "covers_both" (defArgs s_covers_both) (defBody s_covers_both) (defScope s_covers_both) .none kV_covers_both dc_covers_both pm_covers_both an_covers_both cd_covers_both ct_covers_both), sl_covers_both⟩) (c_covers_both : PySem.W.codeIn K cd_covers_both "covers_both" = true) (k_covers_both : PySem.W.keepIn K (.ref f_covers_both) = true)
    {f_head_count : Addr} {od_head_count an_head_count : Option Addr} {sl_head_count : Array (Option Value)} {oc_head_count kV_head_count dc_head_count pm_head_count cd_head_count ct_head_count : Value}
    (a_head_count : PySem.W.nsIn K mainGlobals "head_count" = some (some (.ref f_head_count))) (l_head_count : K.lookup f_head_count = some ⟨oc_head_count, od_head_count, .func (PySem.W.fnOf "head_count" "head_count" (defArgs s_head_count) (defBody s_head_count) (defScope s_head_count) .none kV_head_count dc_head_count pm_head_count an_head_count cd_head_count ct_head_count), sl_head_count⟩) (c_head_count : PySem.W.codeIn K cd_head_count "head_count" = true) (k_head_count : PySem.W.keepIn K (.ref f_head_count) = true)
    {f_breakable_rows : Addr} {od_breakable_rows an_breakable_rows : Option Addr} {sl_breakable_rows : Array (Option Value)} {oc_breakable_rows kV_breakable_rows dc_breakable_rows pm_breakable_rows cd_breakable_rows ct_breakable_rows : Value}
    (a_breakable_rows : PySem.W.nsIn K mainGlobals "breakable_rows" = some (some (.ref f_breakable_rows))) (l_breakable_rows : K.lookup f_breakable_rows = some ⟨oc_breakable_rows, od_breakable_rows, .func (PySem.W.fnOf "breakable_rows" "breakable_rows" (defArgs s_breakable_rows) (defBody s_breakable_rows) (defScope s_breakable_rows) .none kV_breakable_rows dc_breakable_rows pm_breakable_rows an_breakable_rows cd_breakable_rows ct_breakable_rows), sl_breakable_rows⟩) (c_breakable_rows : PySem.W.codeIn K cd_breakable_rows "breakable_rows" = true) (k_breakable_rows : PySem.W.keepIn K (.ref f_breakable_rows) = true)
    {f_height_of_page : Addr} {od_height_of_page an_height_of_page : Option Addr} {sl_height_of_page : Array (Option Value)} {oc_height_of_page kV_height_of_page dc_height_of_page pm_height_of_page cd_height_of_page ct_height_of_page : Value}
    (a_height_of_page : PySem.W.nsIn K mainGlobals "height_of_page" = some (some (.ref f_height_of_page))) (l_height_of_page : K.lookup f_height_of_page = some ⟨oc_height_of_page, od_height_of_page, .func (PySem.W.fnOf "height_of_page" "height_of_page" (defArgs s_height_of_page) (defBody s_height_of_page) (defScope s_height_of_page) .none kV_height_of_page dc_height_of_page pm_height_of_page an_height_of_page cd_height_of_page ct_height_of_page), sl_height_of_page⟩) (c_height_of_page : PySem.W.codeIn K cd_height_of_page "height_of_page" = true) (k_height_of_page : PySem.W.keepIn K (.ref f_height_of_page) = true)
    {f_paginate : Addr} {od_paginate an_paginate : Option Addr} {sl_paginate : Array (Option Value)} {oc_paginate kV_paginate dc_paginate pm_paginate cd_paginate ct_paginate : Value}
    (a_paginate : PySem.W.nsIn K mainGlobals "paginate" = some (some (.ref f_paginate))) (l_paginate : K.lookup f_paginate = some ⟨oc_paginate, od_paginate, .func (PySem.W.fnOf "paginate" "paginate" (defArgs s_paginate) (defBody s_paginate) (defScope s_paginate) .none kV_paginate dc_paginate pm_paginate an_paginate cd_paginate ct_paginate), sl_paginate⟩) (c_paginate : PySem.W.codeIn K cd_paginate "paginate" = true) (k_paginate : PySem.W.keepIn K (.ref f_paginate) = true)
    {f_Lcell : Addr} {od_Lcell an_Lcell : Option Addr} {sl_Lcell : Array (Option Value)} {oc_Lcell kV_Lcell dc_Lcell pm_Lcell cd_Lcell ct_Lcell : Value}
    (a_Lcell : PySem.W.nsIn K mainGlobals "_law_cell" = some (some (.ref f_Lcell))) (l_Lcell : K.lookup f_Lcell = some ⟨oc_Lcell, od_Lcell, .func (PySem.W.fnOf "_law_cell" "_law_cell" (defArgs s_Lcell) (defBody s_Lcell) (defScope s_Lcell) .none kV_Lcell dc_Lcell pm_Lcell an_Lcell cd_Lcell ct_Lcell), sl_Lcell⟩) (c_Lcell : PySem.W.codeIn K cd_Lcell "_law_cell" = true) (k_Lcell : PySem.W.keepIn K (.ref f_Lcell) = true)
    {f_Ldraws : Addr} {od_Ldraws an_Ldraws : Option Addr} {sl_Ldraws : Array (Option Value)} {oc_Ldraws kV_Ldraws dc_Ldraws pm_Ldraws cd_Ldraws ct_Ldraws : Value}
    (a_Ldraws : PySem.W.nsIn K mainGlobals "_law_draws" = some (some (.ref f_Ldraws))) (l_Ldraws : K.lookup f_Ldraws = some ⟨oc_Ldraws, od_Ldraws, .func (PySem.W.fnOf "_law_draws" "_law_draws" (defArgs s_Ldraws) (defBody s_Ldraws) (defScope s_Ldraws) .none kV_Ldraws dc_Ldraws pm_Ldraws an_Ldraws cd_Ldraws ct_Ldraws), sl_Ldraws⟩) (c_Ldraws : PySem.W.codeIn K cd_Ldraws "_law_draws" = true) (k_Ldraws : PySem.W.keepIn K (.ref f_Ldraws) = true)
    {f_Lwords : Addr} {od_Lwords an_Lwords : Option Addr} {sl_Lwords : Array (Option Value)} {oc_Lwords kV_Lwords dc_Lwords pm_Lwords cd_Lwords ct_Lwords : Value}
    (a_Lwords : PySem.W.nsIn K mainGlobals "_law_words" = some (some (.ref f_Lwords))) (l_Lwords : K.lookup f_Lwords = some ⟨oc_Lwords, od_Lwords, .func (PySem.W.fnOf "_law_words" "_law_words" (defArgs s_Lwords) (defBody s_Lwords) (defScope s_Lwords) .none kV_Lwords dc_Lwords pm_Lwords an_Lwords cd_Lwords ct_Lwords), sl_Lwords⟩) (c_Lwords : PySem.W.codeIn K cd_Lwords "_law_words" = true) (k_Lwords : PySem.W.keepIn K (.ref f_Lwords) = true)
    {f_Lcolumn : Addr} {od_Lcolumn an_Lcolumn : Option Addr} {sl_Lcolumn : Array (Option Value)} {oc_Lcolumn kV_Lcolumn dc_Lcolumn pm_Lcolumn cd_Lcolumn ct_Lcolumn : Value}
    (a_Lcolumn : PySem.W.nsIn K mainGlobals "_law_column" = some (some (.ref f_Lcolumn))) (l_Lcolumn : K.lookup f_Lcolumn = some ⟨oc_Lcolumn, od_Lcolumn, .func (PySem.W.fnOf "_law_column" "_law_column" (defArgs s_Lcolumn) (defBody s_Lcolumn) (defScope s_Lcolumn) .none kV_Lcolumn dc_Lcolumn pm_Lcolumn an_Lcolumn cd_Lcolumn ct_Lcolumn), sl_Lcolumn⟩) (c_Lcolumn : PySem.W.codeIn K cd_Lcolumn "_law_column" = true) (k_Lcolumn : PySem.W.keepIn K (.ref f_Lcolumn) = true)
    {f_Lis_free : Addr} {od_Lis_free an_Lis_free : Option Addr} {sl_Lis_free : Array (Option Value)} {oc_Lis_free kV_Lis_free dc_Lis_free pm_Lis_free cd_Lis_free ct_Lis_free : Value}
    (a_Lis_free : PySem.W.nsIn K mainGlobals "_law_is_free" = some (some (.ref f_Lis_free))) (l_Lis_free : K.lookup f_Lis_free = some ⟨oc_Lis_free, od_Lis_free, .func (PySem.W.fnOf "_law_is_free" "_law_is_free" (defArgs s_Lis_free) (defBody s_Lis_free) (defScope s_Lis_free) .none kV_Lis_free dc_Lis_free pm_Lis_free an_Lis_free cd_Lis_free ct_Lis_free), sl_Lis_free⟩) (c_Lis_free : PySem.W.codeIn K cd_Lis_free "_law_is_free" = true) (k_Lis_free : PySem.W.keepIn K (.ref f_Lis_free) = true)
    {f_Lcells : Addr} {od_Lcells an_Lcells : Option Addr} {sl_Lcells : Array (Option Value)} {oc_Lcells kV_Lcells dc_Lcells pm_Lcells cd_Lcells ct_Lcells : Value}
    (a_Lcells : PySem.W.nsIn K mainGlobals "_law_cells" = some (some (.ref f_Lcells))) (l_Lcells : K.lookup f_Lcells = some ⟨oc_Lcells, od_Lcells, .func (PySem.W.fnOf "_law_cells" "_law_cells" (defArgs s_Lcells) (defBody s_Lcells) (defScope s_Lcells) .none kV_Lcells dc_Lcells pm_Lcells an_Lcells cd_Lcells ct_Lcells), sl_Lcells⟩) (c_Lcells : PySem.W.codeIn K cd_Lcells "_law_cells" = true) (k_Lcells : PySem.W.keepIn K (.ref f_Lcells) = true)
    {f_Ltable : Addr} {od_Ltable an_Ltable : Option Addr} {sl_Ltable : Array (Option Value)} {oc_Ltable kV_Ltable dc_Ltable pm_Ltable cd_Ltable ct_Ltable : Value}
    (a_Ltable : PySem.W.nsIn K mainGlobals "_law_table" = some (some (.ref f_Ltable))) (l_Ltable : K.lookup f_Ltable = some ⟨oc_Ltable, od_Ltable, .func (PySem.W.fnOf "_law_table" "_law_table" (defArgs s_Ltable) (defBody s_Ltable) (defScope s_Ltable) .none kV_Ltable dc_Ltable pm_Ltable an_Ltable cd_Ltable ct_Ltable), sl_Ltable⟩) (c_Ltable : PySem.W.codeIn K cd_Ltable "_law_table" = true) (k_Ltable : PySem.W.keepIn K (.ref f_Ltable) = true)
    {f_Lmay_end : Addr} {od_Lmay_end an_Lmay_end : Option Addr} {sl_Lmay_end : Array (Option Value)} {oc_Lmay_end kV_Lmay_end dc_Lmay_end pm_Lmay_end cd_Lmay_end ct_Lmay_end : Value}
    (a_Lmay_end : PySem.W.nsIn K mainGlobals "_law_may_end" = some (some (.ref f_Lmay_end))) (l_Lmay_end : K.lookup f_Lmay_end = some ⟨oc_Lmay_end, od_Lmay_end, .func (PySem.W.fnOf "_law_may_end" "_law_may_end" (defArgs s_Lmay_end) (defBody s_Lmay_end) (defScope s_Lmay_end) .none kV_Lmay_end dc_Lmay_end pm_Lmay_end an_Lmay_end cd_Lmay_end ct_Lmay_end), sl_Lmay_end⟩) (c_Lmay_end : PySem.W.codeIn K cd_Lmay_end "_law_may_end" = true) (k_Lmay_end : PySem.W.keepIn K (.ref f_Lmay_end) = true)
    {f_Ldivisions : Addr} {od_Ldivisions an_Ldivisions : Option Addr} {sl_Ldivisions : Array (Option Value)} {oc_Ldivisions kV_Ldivisions dc_Ldivisions pm_Ldivisions cd_Ldivisions ct_Ldivisions : Value}
    (a_Ldivisions : PySem.W.nsIn K mainGlobals "_law_divisions" = some (some (.ref f_Ldivisions))) (l_Ldivisions : K.lookup f_Ldivisions = some ⟨oc_Ldivisions, od_Ldivisions, .func (PySem.W.fnOf "_law_divisions" "_law_divisions" (defArgs s_Ldivisions) (defBody s_Ldivisions) (defScope s_Ldivisions) .none kV_Ldivisions dc_Ldivisions pm_Ldivisions an_Ldivisions cd_Ldivisions ct_Ldivisions), sl_Ldivisions⟩) (c_Ldivisions : PySem.W.codeIn K cd_Ldivisions "_law_divisions" = true) (k_Ldivisions : PySem.W.keepIn K (.ref f_Ldivisions) = true)
    {f_law : Addr} {od_law an_law : Option Addr} {sl_law : Array (Option Value)} {oc_law kV_law dc_law pm_law cd_law ct_law : Value}
    (a_law : PySem.W.nsIn K mainGlobals "law" = some (some (.ref f_law))) (l_law : K.lookup f_law = some ⟨oc_law, od_law, .func (PySem.W.fnOf "law" "law" (defArgs s_law) (defBody s_law) (defScope s_law) .none kV_law dc_law pm_law an_law cd_law ct_law), sl_law⟩) (c_law : PySem.W.codeIn K cd_law "law" = true) (k_law : PySem.W.keepIn K (.ref f_law) = true)
    (z_len : PySem.W.nsIn K mainGlobals "len" = some none)
    (z_range : PySem.W.nsIn K mainGlobals "range" = some none)
    (z_any : PySem.W.nsIn K mainGlobals "any" = some none)
    (z_int : PySem.W.nsIn K mainGlobals "int" = some none)
    (z_tuple : PySem.W.nsIn K mainGlobals "tuple" = some none)
    (z_min : PySem.W.nsIn K mainGlobals "min" = some none)
    (z_isinstance : PySem.W.nsIn K mainGlobals "isinstance" = some none)
    (z_list : PySem.W.nsIn K mainGlobals "list" = some none)
    : ∃ fd : FuncData, (∀ (s : Shared) (v : Value), BindsTo s fd ⟨[v], []⟩ [("script", v)]) ∧ ∀ base : Heap, K.In base → base.Ns mainGlobals mg → FnOk l.prog w K mg base CX0 9 fa fd ["script"] (spF K g_law) := by
  have e := hfa.symm.trans (PySem.W.mg_of X G a_law)
  cases e
  have F_covers_both := fun_mk (st := s_covers_both) l_covers_both c_covers_both k_covers_both
  have b_covers_both := F_covers_both.binds (ps := ["cell", "row"]) fun _ _ _ _ _ _ us hl => match us, hl with | [_, _], _ => rfl
  have F_head_count := fun_mk (st := s_head_count) l_head_count c_head_count k_head_count
  have b_head_count := F_head_count.binds (ps := ["table"]) fun _ _ _ _ _ _ us hl => match us, hl with | [_], _ => rfl
  have F_breakable_rows := fun_mk (st := s_breakable_rows) l_breakable_rows c_breakable_rows k_breakable_rows
  have b_breakable_rows := F_breakable_rows.binds (ps := ["table"]) fun _ _ _ _ _ _ us hl => match us, hl with | [_], _ => rfl
  have F_height_of_page := fun_mk (st := s_height_of_page) l_height_of_page c_height_of_page k_height_of_page
  have b_height_of_page := F_height_of_page.binds (ps := ["row_lines", "head", "first", "behind"]) fun _ _ _ _ _ _ us hl => match us, hl with | [_, _, _, _], _ => rfl
  have F_paginate := fun_mk (st := s_paginate) l_paginate c_paginate k_paginate
  have b_paginate := F_paginate.binds (ps := ["table", "row_lines", "page_height"]) fun _ _ _ _ _ _ us hl => match us, hl with | [_, _, _], _ => rfl
  have F_Lcell := fun_mk (st := s_Lcell) l_Lcell c_Lcell k_Lcell
  have b_Lcell := F_Lcell.binds (ps := ["script", "k"]) fun _ _ _ _ _ _ us hl => match us, hl with | [_, _], _ => rfl
  have F_Ldraws := fun_mk (st := s_Ldraws) l_Ldraws c_Ldraws k_Ldraws
  have b_Ldraws := F_Ldraws.binds (ps := ["cell", "count"]) fun _ _ _ _ _ _ us hl => match us, hl with | [_, _], _ => rfl
  have F_Lwords := fun_mk (st := s_Lwords) l_Lwords c_Lwords k_Lwords
  have b_Lwords := F_Lwords.binds (ps := ["cell"]) fun _ _ _ _ _ _ us hl => match us, hl with | [_], _ => rfl
  have F_Lcolumn := fun_mk (st := s_Lcolumn) l_Lcolumn c_Lcolumn k_Lcolumn
  have b_Lcolumn := F_Lcolumn.binds (ps := ["cell"]) fun _ _ _ _ _ _ us hl => match us, hl with | [_], _ => rfl
  have F_Lis_free := fun_mk (st := s_Lis_free) l_Lis_free c_Lis_free k_Lis_free
  have b_Lis_free := F_Lis_free.binds (ps := ["taken", "row", "column", "height", "width"]) fun _ _ _ _ _ _ us hl => match us, hl with | [_, _, _, _, _], _ => rfl
  have F_Lcells := fun_mk (st := s_Lcells) l_Lcells c_Lcells k_Lcells
  have b_Lcells := F_Lcells.binds (ps := ["script", "start", "rows", "columns", "heads"]) fun _ _ _ _ _ _ us hl => match us, hl with | [_, _, _, _, _], _ => rfl
  have F_Ltable := fun_mk (st := s_Ltable) l_Ltable c_Ltable k_Ltable
  have b_Ltable := F_Ltable.binds (ps := ["script", "start"]) fun _ _ _ _ _ _ us hl => match us, hl with | [_, _], _ => rfl
  have F_Lmay_end := fun_mk (st := s_Lmay_end) l_Lmay_end c_Lmay_end k_Lmay_end
  have b_Lmay_end := F_Lmay_end.binds (ps := ["table", "heads", "behind"]) fun _ _ _ _ _ _ us hl => match us, hl with | [_, _, _], _ => rfl
  have F_Ldivisions := fun_mk (st := s_Ldivisions) l_Ldivisions c_Ldivisions k_Ldivisions
  have b_Ldivisions := F_Ldivisions.binds (ps := ["table", "lines", "most", "heads", "first"]) fun _ _ _ _ _ _ us hl => match us, hl with | [_, _, _, _, _], _ => rfl
  have F_law := fun_mk (st := s_law) l_law c_law k_law
  have b_law := F_law.binds (ps := ["script"]) fun _ _ _ _ _ _ us hl => match us, hl with | [_], _ => rfl
  refine ⟨PySem.W.fnOf "law" "law" (defArgs s_law) (defBody s_law) (defScope s_law) .none kV_law dc_law pm_law an_law cd_law ct_law, fun s v => .of_eq rfl, fun base _ _ => ?_⟩
  have H_covers_both := ok_covers_both (P := l.prog) (w := w) (mg := mg) (base := base) F_covers_both
  have H_head_count := ok_head_count (P := l.prog) (w := w) (mg := mg) (base := base) F_head_count (PySem.W.mg_none_of X G z_len)
  have H_breakable_rows := ok_breakable_rows (P := l.prog) (w := w) (mg := mg) (base := base) F_breakable_rows H_head_count (PySem.W.mg_of X G a_head_count) k_head_count b_head_count H_covers_both (PySem.W.mg_of X G a_covers_both) k_covers_both b_covers_both (PySem.W.mg_none_of X G z_len) (PySem.W.mg_none_of X G z_range) (PySem.W.mg_none_of X G z_any)
  have H_height_of_page := ok_height_of_page (P := l.prog) (w := w) (mg := mg) (base := base) F_height_of_page
  have H_paginate := ok_paginate (P := l.prog) (w := w) (mg := mg) (base := base) F_paginate H_head_count (PySem.W.mg_of X G a_head_count) k_head_count b_head_count H_height_of_page (PySem.W.mg_of X G a_height_of_page) k_height_of_page b_height_of_page H_breakable_rows (PySem.W.mg_of X G a_breakable_rows) k_breakable_rows b_breakable_rows (PySem.W.mg_none_of X G z_len)
  have H_Lcell := ok_Lcell (P := l.prog) (w := w) (mg := mg) (base := base) F_Lcell (PySem.W.mg_none_of X G z_len)
  have H_Ldraws := ok_Ldraws (P := l.prog) (w := w) (mg := mg) (base := base) F_Ldraws (PySem.W.mg_none_of X G z_range) (PySem.W.mg_none_of X G z_int)
  have H_Lwords := ok_Lwords (P := l.prog) (w := w) (mg := mg) (base := base) F_Lwords H_Ldraws (PySem.W.mg_of X G a_Ldraws) k_Ldraws b_Ldraws (PySem.W.mg_none_of X G z_int) (PySem.W.mg_none_of X G z_range) (PySem.W.mg_none_of X G z_tuple)
  have H_Lcolumn := ok_Lcolumn (P := l.prog) (w := w) (mg := mg) (base := base) F_Lcolumn H_Ldraws (PySem.W.mg_of X G a_Ldraws) k_Ldraws b_Ldraws (PySem.W.mg_none_of X G z_int)
  have H_Lis_free := ok_Lis_free (P := l.prog) (w := w) (mg := mg) (base := base) F_Lis_free (PySem.W.mg_none_of X G z_range)
  have H_Lcells := ok_Lcells (P := l.prog) (w := w) (mg := mg) (base := base) F_Lcells H_Ldraws (PySem.W.mg_of X G a_Ldraws) k_Ldraws b_Ldraws H_Lcell (PySem.W.mg_of X G a_Lcell) k_Lcell b_Lcell H_Lis_free (PySem.W.mg_of X G a_Lis_free) k_Lis_free b_Lis_free H_Lwords (PySem.W.mg_of X G a_Lwords) k_Lwords b_Lwords (PySem.W.mg_none_of X G z_range) (PySem.W.mg_none_of X G z_len) (PySem.W.mg_none_of X G z_int) (PySem.W.mg_none_of X G z_min) (PySem.W.mg_none_of X G z_tuple)
  have H_Ltable := ok_Ltable (P := l.prog) (w := w) (mg := mg) (base := base) F_Ltable H_Ldraws (PySem.W.mg_of X G a_Ldraws) k_Ldraws b_Ldraws H_Lcell (PySem.W.mg_of X G a_Lcell) k_Lcell b_Lcell H_Lcolumn (PySem.W.mg_of X G a_Lcolumn) k_Lcolumn b_Lcolumn H_Lcells (PySem.W.mg_of X G a_Lcells) k_Lcells b_Lcells (PySem.W.mg_none_of X G z_int) (PySem.W.mg_none_of X G z_min) (PySem.W.mg_none_of X G z_range) (PySem.W.mg_none_of X G z_tuple)
  have H_Lmay_end := ok_Lmay_end (P := l.prog) (w := w) (mg := mg) (base := base) F_Lmay_end (PySem.W.mg_none_of X G z_len)
  have H_Ldivisions := ok_Ldivisions (P := l.prog) (w := w) (mg := mg) (base := base) F_Ldivisions H_Lmay_end (PySem.W.mg_of X G a_Lmay_end) k_Lmay_end b_Lmay_end (PySem.W.mg_of X G a_Ldivisions) k_Ldivisions b_Ldivisions (PySem.W.mg_none_of X G z_len) (PySem.W.mg_none_of X G z_range)
  have H_law := ok_law (P := l.prog) (w := w) (mg := mg) (base := base) F_law H_Ltable (PySem.W.mg_of X G a_Ltable) k_Ltable b_Ltable H_Lcell (PySem.W.mg_of X G a_Lcell) k_Lcell b_Lcell H_paginate (PySem.W.mg_of X G a_paginate) k_paginate b_paginate H_Ldivisions (PySem.W.mg_of X G a_Ldivisions) k_Ldivisions b_Ldivisions (PySem.W.mg_none_of X G z_len) (PySem.W.mg_none_of X G z_range) (PySem.W.mg_none_of X G z_tuple) (PySem.W.mg_none_of X G z_isinstance) (PySem.W.mg_none_of X G z_list)
  exact H_law
end K20

namespace K20
open PySem PySem.Spec PyProof.Rows L2 Mir
/-! the law's draws -/
theorem cell_ev (ns : List Int) (k : Nat) : g_Lcell [.list (ns.map .int), .int k] = some (.int (ns.getD k 0)) := by
  show outD (f_Lcell [.val (.list (ns.map .int)), .val (.int k)]) = _
  by_cases h : k < ns.length
  · have e1 : atI (ns.map PyData.int) (k : Int) = some (.int (ns.getD k 0)) := atI_map _ _ _ _ (by simp [List.getD, h])
    simp [f_Lcell, sSeq, sIf, t1, e2, eVar, eCall, aCons, aNil, lenA, ltD, i2, h, sRet, ixG, e1, outD]
  · have e1 : ns.getD k 0 = 0 := by simp [List.getD, List.getElem?_eq_none (Nat.le_of_not_lt h)]
    simp [f_Lcell, sSeq, sIf, t1, e2, eVar, eCall, aCons, aNil, lenA, ltD, i2, h, sRet, ixG, e1, outD, sNil, eC]
theorem pow18 : ∃ z : Int, powD (.int 10) (.int 18) = some (.int z) := by
  refine ⟨10 ^ (18 : Int).toNat, ?_⟩
  show (if CPow 10 18 then some (PyData.int (10 ^ (18 : Int).toNat)) else none) = _
  rw [if_pos ⟨by decide, by decide, by decide⟩]
theorem z1 (c z : Int) (n : Nat) (hp : powD (.int 10) (.int 18) = some (.int z)) : sSet 3 (e2 geD (eVar 0) (e2 powD (eC (.int 10)) (eC (.int 18)))) [.val (.int c), .val (.int n), .own [], .un, .un, .un] = .nx [.val (.int c), .val (.int n), .own [], .val (.bool (decide (z ≤ c))), .un, .un] := sSet_ev (e2_ev rfl (e2_ev rfl rfl hp) (geD_int c z))
theorem z2 (c z : Int) (n : Nat) (hn : n ≤ 1000) : iR1 (aCons (eVar 1) aNil) [.val (.int c), .val (.int n), .own [], .val (.bool (decide (z ≤ c))), .un, .un] = some (rngD 0 n) := by
    have := iR1_ev (fa := aCons (eVar 1) aNil) (env := [.val (.int c), .val (.int n), .own [], .val (.bool (decide (z ≤ c))), .un, .un]) (N := n) rfl (by omega) (by omega)
    rw [Int.toNat_natCast] at this
    exact this
theorem z3 (c z c' : Int) (n : Nat) (hn : n ≤ 1000) (ds : List Int) (x y : Sl) (h1 : loopF (gVal 4) b_Ldraws_1 (rngD 0 n) [.val (.int c), .val (.int n), .own [], .val (.bool (decide (z ≤ c))), .un, .un] = .nx [.val (.int c'), .val (.int n), .own (ds.map PyData.int), .val (.bool (decide (z ≤ c))), x, y])
 (hp : powD (.int 10) (.int 18) = some (.int z)) : f_Ldraws [.val (.int c), .val (.int n), .un, .un, .un, .un] = .rt (.list (ds.map PyData.int)) := by
    have k1 : sOwn 2 (fLst aNil) [.val (.int c), .val (.int n), .un, .un, .un, .un] = .nx [.val (.int c), .val (.int n), .own [], .un, .un, .un] := rfl
    unfold f_Ldraws
    rw [sSeq_nx k1, sSeq_nx (z1 c z n hp), sSeq_nx (sFor_ev (z2 c z n hn) h1)]
    rfl
theorem z4 (c : Int) (n : Nat) (ds : List Int) (this : f_Ldraws [.val (.int c), .val (.int n), .un, .un, .un, .un] = .rt (.list (ds.map PyData.int))) : g_Ldraws [.int c, .int n] = some (.list (ds.map PyData.int)) := gDef_ev (fB := f_Ldraws) rfl this
theorem draws_key (c : Int) (n : Nat) (hn : n ≤ 1000) (wide : Bool) : ∃ (c' : Int) (ds : List Int) (x y : Sl), loopF (gVal 4) b_Ldraws_1 (rngD 0 n) [.val (.int c), .val (.int n), .own [], .val (.bool wide), .un, .un] = .nx [.val (.int c'), .val (.int n), .own (ds.map .int), .val (.bool wide), x, y] ∧ ds.length = n ∧ ∀ d ∈ ds, 0 ≤ d ∧ d < 1000003 := by
  have key : ∃ e', loopF (gVal 4) b_Ldraws_1 (rngD 0 n) [.val (.int c), .val (.int n), .own [], .val (.bool wide), .un, .un] = .nx e' ∧
      (∃ (c' : Int) (ds : List Int) (x y : Sl), e' = [.val (.int c'), .val (.int n), .own (ds.map .int), .val (.bool wide), x, y] ∧ ds.length = n ∧ ∀ d ∈ ds, 0 ≤ d ∧ d < 1000003) := by
    refine loop_rng (fun j e => ∃ (c' : Int) (ds : List Int) (x y : Sl), e = [.val (.int c'), .val (.int n), .own (ds.map .int), .val (.bool wide), x, y] ∧ ds.length = j ∧ ∀ d ∈ ds, 0 ≤ d ∧ d < 1000003) ?_ ⟨c, [], .un, .un, rfl, rfl, fun d h => by cases h⟩
    rintro j e hj ⟨c', ds, x, y, rfl, hd, hb⟩
    obtain ⟨k, hk⟩ : ∃ k : Int, k = 0 + (j : Nat) := ⟨_, rfl⟩
    have hk1 : 0 ≤ k ∧ k < 1000 := by omega
    rw [← hk]
    refine ⟨[.val (.int c'), .val (.int n), .own (ds.map .int), .val (.bool wide), .val (.int k), y], rfl, ?_⟩
    have hl : ds.length < 1000000 := by omega
    cases wide with
    | true =>
      refine ⟨_, .inl (show b_Ldraws_1 _ = .nx [.val (.int (c' / 1009)), .val (.int n), .own ((ds ++ [c' % 1009]).map .int), .val (.bool true), .val (.int k), y] from ?_), c' / 1009, ds ++ [c' % 1009], .val (.int k), y, rfl, by simp [hd], ?_⟩
      · unfold b_Ldraws_1
        rw [sIf_t (by rfl)]
        exact draw_t 1009 c' n ds _ _ y hl (by decide) (by decide)
      · intro d h
        rcases List.mem_append.mp h with h | h
        · exact hb d h
        · rw [List.mem_singleton.mp h]
          have h1 := Int.emod_nonneg c' (show (1009 : Int) ≠ 0 by decide)
          have h2 := Int.emod_lt_of_pos c' (show (0 : Int) < 1009 by decide)
          omega
    | false =>
      obtain ⟨m, hm⟩ : ∃ m : Int, (c' * 48271 + k * 69621) % 2147483647 = m := ⟨_, rfl⟩
      have hm1 : 0 ≤ m := by rw [← hm]; exact Int.emod_nonneg _ (by decide)
      have hm2 : m < 2147483647 := by rw [← hm]; exact Int.emod_lt_of_pos _ (by decide)
      obtain ⟨v, hv⟩ : ∃ v : Int, (m * m + c' * 31 + k) % 1000003 = v := ⟨_, rfl⟩
      have hv1 : 0 ≤ v := by rw [← hv]; exact Int.emod_nonneg _ (by decide)
      have hv2 : v < 1000003 := by rw [← hv]; exact Int.emod_lt_of_pos _ (by decide)
      refine ⟨_, .inl (show b_Ldraws_1 _ = .nx [.val (.int c'), .val (.int n), .own ((ds ++ [v]).map .int), .val (.bool false), .val (.int k), .val (.int m)] from ?_), c', ds ++ [v], .val (.int k), .val (.int m), rfl, by simp [hd], ?_⟩
      · unfold b_Ldraws_1
        rw [sIf_f (by rfl)]
        rw [sSeq_nx (draw_s1 48271 69621 2147483647 c' m k n ds _ y (.inr (by omega)) (.inr (by omega)) (by decide) hm)]
        rw [← hv]
        exact draw_s2 31 1000003 0 c' m k n ds _ hl (.inr (by omega)) (.inl (by omega)) (by decide)
      · intro d h
        rcases List.mem_append.mp h with h | h
        · exact hb d h
        · rw [List.mem_singleton.mp h]
          exact ⟨hv1, hv2⟩
  obtain ⟨e', h1, c', ds, x, y, rfl, h2, h3⟩ := key
  exact ⟨c', ds, x, y, h1, h2, h3⟩
theorem draws_ev (c : Int) (n : Nat) (hn : n ≤ 1000) : ∃ ds : List Int, g_Ldraws [.int c, .int n] = some (.list (ds.map .int)) ∧ ds.length = n ∧ ∀ d ∈ ds, 0 ≤ d ∧ d < 1000003 := by
  obtain ⟨z, hp⟩ := pow18
  obtain ⟨c', ds, x, y, h1, h2, h3⟩ := draws_key c n hn (decide (z ≤ c))
  exact ⟨ds, z4 c n ds (z3 c z c' n hn ds x y h1 hp), h2, h3⟩
/-! the law's words -/
def pool : List Str := ["a", "bb", "ccc", "dddd", "x.", "(y)", "Z9", "eeeeeeee"]
theorem pool_ok : ∀ w ∈ pool, 1 ≤ w.length ∧ w.length ≤ 8 ∧ PyData.strOk w = true := by decide +kernel
theorem pool_at (i : Int) : ∃ w ∈ pool, atI (pool.map PyData.str) (i % 8) = some (.str w) := by
  have h1 := Int.emod_nonneg i (show (8 : Int) ≠ 0 by decide)
  have h2 := Int.emod_lt_of_pos i (show (0 : Int) < 8 by decide)
  have h3 : (i % 8).toNat < pool.length := by
    show (i % 8).toNat < 8
    omega
  refine ⟨pool[(i % 8).toNat], List.getElem_mem h3, ?_⟩
  have := atI_map PyData.str pool (i % 8).toNat _ (List.getElem?_eq_getElem h3)
  rw [Int.toNat_of_nonneg h1] at this
  exact this
theorem compF_pick {g : PyData → En → Option En} {fe : En → Option PyData} {env : En} {lo : Int} {n : Nat} {Q : Str → Prop} (h : ∀ j : Nat, j < n → ∃ e1 w, g (.int (lo + (j : Nat))) env = some e1 ∧ fe e1 = some (.str w) ∧ Q w) :
    ∃ ws : List Str, compF g tYes' fe env (rngD lo n) = some (ws.map .str) ∧ ws.length = n ∧ ∀ w ∈ ws, Q w := by
  have aux : ∀ (ks : List Nat), (∀ j ∈ ks, j < n) → ∃ ws : List Str, compF g tYes' fe env (ks.map fun k => .int (lo + (k : Nat))) = some (ws.map .str) ∧ ws.length = ks.length ∧ ∀ w ∈ ws, Q w := by
    intro ks
    induction ks with
    | nil => exact fun _ => ⟨[], rfl, rfl, fun w h => by cases h⟩
    | cons k ks ih =>
      intro hk
      obtain ⟨ws, h1, h2, h3⟩ := ih fun j hj => hk j (List.mem_cons_of_mem _ hj)
      obtain ⟨e1, w, q1, q2, q3⟩ := h k (hk k List.mem_cons_self)
      refine ⟨w :: ws, ?_, by simp [h2], fun v hv => ?_⟩
      · simp only [List.map_cons, compF, q1, tYes', q2]
        rw [h1]
      · rcases List.mem_cons.mp hv with e | hv
        · rw [e]; exact q3
        · exact h3 v hv
  obtain ⟨ws, h1, h2, h3⟩ := aux (List.range n) fun j hj => List.mem_range.mp hj
  exact ⟨ws, h1, by rw [h2, List.length_range], h3⟩
theorem words_ev (c : Int) : ∃ ws : List Str, g_Lwords [.int c] = some (.tuple (ws.map .str)) ∧ ws.length ≤ 4 ∧ ∀ w ∈ ws, w ∈ pool := by
  obtain ⟨ds, hd, hl, hb⟩ := draws_ev c 5 (by decide)
  have h0 : ∃ d0, ds[0]? = some d0 := ⟨ds[0], List.getElem?_eq_getElem (by omega)⟩
  obtain ⟨d0, hd0⟩ := h0
  have a0 : atI (ds.map PyData.int) 0 = some (.int d0) := atI_map _ _ 0 _ hd0
  have m1 := Int.emod_nonneg d0 (show (5 : Int) ≠ 0 by decide)
  have m2 := Int.emod_lt_of_pos d0 (show (0 : Int) < 5 by decide)
  obtain ⟨ws, h1, h2, h3⟩ := compF_pick (g := gVal 3) (fe := c_Lwords_1) (env := [.val (.int c), .val (.list (ds.map .int)), .val (.list (pool.map .str)), .un]) (lo := 0) (n := (d0 % 5).toNat) (Q := fun w => w ∈ pool) fun j hj => by
    have hj1 : 1 + j < ds.length := by omega
    have aj : atI (ds.map PyData.int) (1 + (0 + (j : Nat))) = some (.int ds[1 + j]) := by
      have := atI_map PyData.int ds (1 + j) _ (List.getElem?_eq_getElem hj1)
      rw [show ((1 + j : Nat) : Int) = 1 + (0 + (j : Nat)) by omega] at this
      exact this
    obtain ⟨w, hw, hp⟩ := pool_at ds[1 + j]
    refine ⟨[.val (.int c), .val (.list (ds.map .int)), .val (.list (pool.map .str)), .val (.int (0 + (j : Nat)))], w, rfl, ?_, hw⟩
    simp only [c_Lwords_1, e2, eVar, eCall, aCons, aNil, eC, addD, ixG, intA, modD, i2, List.getElem?_cons_zero, List.getElem?_cons_succ, aj, if_true, hp, show (0 : Int) < 8 from by decide]
  refine ⟨ws, ?_, by rw [h2]; omega, h3⟩
  have hp : fLst (aCons (eC (.str "a")) (aCons (eC (.str "bb")) (aCons (eC (.str "ccc")) (aCons (eC (.str "dddd")) (aCons (eC (.str "x.")) (aCons (eC (.str "(y)")) (aCons (eC (.str "Z9")) (aCons (eC (.str "eeeeeeee")) aNil)))))))) [.val (.int c), .val (.list (ds.map .int)), .un, .un] = some (pool.map .str) := rfl
  have hr : iR1 (aCons (e2 modD (eCall intA (aCons (e2 ixG (eVar 1) (eC (.int 0))) aNil)) (eC (.int 5))) aNil) [.val (.int c), .val (.list (ds.map .int)), .val (.list (pool.map .str)), .un] = some (rngD 0 (d0 % 5).toNat) := by
    simp only [iR1, aCons, aNil, e2, eCall, eVar, eC, ixG, List.getElem?_cons_zero, List.getElem?_cons_succ, a0, intA, modD, i2, show (0 : Int) < 5 from by decide, if_true]
    rw [if_pos (by omega)]
  have hc : eCall g_Ldraws (aCons (eVar 0) (aCons (eC (.int 5)) aNil)) [.val (.int c), .un, .un, .un] = some (.list (ds.map .int)) := hd
  have : f_Lwords [.val (.int c), .un, .un, .un] = .rt (.tuple (ws.map .str)) := by
    unfold f_Lwords
    rw [sSeq_nx (e := [.val (.int c), .val (.list (ds.map .int)), .un, .un]) (by unfold sSet; rw [hc]; rfl)]
    rw [sSeq_nx (e := [.val (.int c), .val (.list (ds.map .int)), .val (.list (pool.map .str)), .un]) (by unfold sSet eL; rw [hp]; rfl)]
    have hz : fCmp [3] (iR1 (aCons (e2 modD (eCall intA (aCons (e2 ixG (eVar 1) (eC (.int 0))) aNil)) (eC (.int 5))) aNil)) (gVal 3) tYes' c_Lwords_1 [.val (.int c), .val (.list (ds.map .int)), .val (.list (pool.map .str)), .un] = some (ws.map .str) := by
      unfold fCmp
      rw [hr]
      show (match compF (gVal 3) tYes' c_Lwords_1 [.val (.int c), .val (.list (ds.map .int)), .val (.list (pool.map .str)), .un] (rngD 0 (d0 % 5).toNat) with | none => none | some vs => if vs.length ≤ 1000000 then some vs else none) = _
      rw [h1]
      show (if (ws.map PyData.str).length ≤ 1000000 then some (ws.map PyData.str) else none) = _
      rw [if_pos (by rw [List.length_map]; omega)]
    have hy : eCall tupA (aCons (eL (fCmp [3] (iR1 (aCons (e2 modD (eCall intA (aCons (e2 ixG (eVar 1) (eC (.int 0))) aNil)) (eC (.int 5))) aNil)) (gVal 3) tYes' c_Lwords_1)) aNil) [.val (.int c), .val (.list (ds.map .int)), .val (.list (pool.map .str)), .un] = some (.tuple (ws.map .str)) := by
      simp only [eCall, aCons, aNil, eL] at hz ⊢
      rw [hz]
      rfl
    unfold sRet
    rw [hy]
  exact gDef_ev (fB := f_Lwords) rfl this
/-! the law's table -/
theorem column_ev (c : Int) : ∃ (a : Int) (m p : PyData) (s : Str), g_Lcolumn [.int c] = some (.tuple [.int a, m, p, .str s]) ∧ (1 ≤ a ∧ a ≤ 4) ∧ (m = .none ∨ ∃ b : Int, m = .int b ∧ a ≤ b ∧ b ≤ a + 11) ∧ (p = .none ∨ ∃ q : Int, p = .int q ∧ 1 ≤ q ∧ q ≤ 60) ∧ s ∈ (["left", "right", "center"] : List Str) := by
  obtain ⟨ds, hd, hl, hb⟩ := draws_ev c 6 (by decide)
  have m0 := mod_lt (ds.getD 0 0) 4 (by decide)
  have m2 := mod_lt (ds.getD 2 0) 12 (by decide)
  have m4 := mod_lt (ds.getD 4 0) 60 (by decide)
  have m5 := mod_lt (ds.getD 5 0) 3 (by decide)
  obtain ⟨a, ha⟩ : ∃ a : Int, a = 1 + ds.getD 0 0 % 4 := ⟨_, rfl⟩
  obtain ⟨m, hm, hm1⟩ : ∃ m : PyData, (m = .none ∨ ∃ b : Int, m = .int b ∧ a ≤ b ∧ b ≤ a + 11) ∧ eIf (t1 (e2 gtD (e2 modD (eCall intA (aCons (e2 ixG (eVar 1) (eC (.int 1))) aNil)) (eC (.int 4))) (eC (.int 0)))) (eC .none) (e2 addD (eVar 2) (e2 modD (eCall intA (aCons (e2 ixG (eVar 1) (eC (.int 2))) aNil)) (eC (.int 12)))) [.val (.int c), .val (.list (ds.map .int)), .val (.int a), .un, .un] = some m := by
    by_cases q : 0 < ds.getD 1 0 % 4
    · exact ⟨.none, .inl rfl, eIf_t (t1_ev (e2_ev (dr_mod (ds := ds) rfl (j := 1) (by omega) rfl (by decide)) rfl ((gtD_int _ _).trans (by rw [decide_eq_true q])))) rfl⟩
    · exact ⟨.int (a + ds.getD 2 0 % 12), .inr ⟨_, rfl, by omega, by omega⟩, eIf_f (t1_ev (e2_ev (dr_mod (ds := ds) rfl (j := 1) (by omega) rfl (by decide)) rfl ((gtD_int _ _).trans (by rw [decide_eq_false q])))) (e2_ev rfl (dr_mod (ds := ds) rfl (j := 2) (by omega) rfl (by decide)) (addD_int _ _))⟩
  obtain ⟨p, hp, hp1⟩ : ∃ p : PyData, (p = .none ∨ ∃ q : Int, p = .int q ∧ 1 ≤ q ∧ q ≤ 60) ∧ eIf (t1 (e2 gtD (e2 modD (eCall intA (aCons (e2 ixG (eVar 1) (eC (.int 3))) aNil)) (eC (.int 4))) (eC (.int 0)))) (eC .none) (e2 addD (eC (.int 1)) (e2 modD (eCall intA (aCons (e2 ixG (eVar 1) (eC (.int 4))) aNil)) (eC (.int 60)))) [.val (.int c), .val (.list (ds.map .int)), .val (.int a), .val m, .un] = some p := by
    by_cases q : 0 < ds.getD 3 0 % 4
    · exact ⟨.none, .inl rfl, eIf_t (t1_ev (e2_ev (dr_mod (ds := ds) rfl (j := 3) (by omega) rfl (by decide)) rfl ((gtD_int _ _).trans (by rw [decide_eq_true q])))) rfl⟩
    · exact ⟨.int (1 + ds.getD 4 0 % 60), .inr ⟨_, rfl, by omega, by omega⟩, eIf_f (t1_ev (e2_ev (dr_mod (ds := ds) rfl (j := 3) (by omega) rfl (by decide)) rfl ((gtD_int _ _).trans (by rw [decide_eq_false q])))) (e2_ev rfl (dr_mod (ds := ds) rfl (j := 4) (by omega) rfl (by decide)) (addD_int _ _))⟩
  obtain ⟨s, hs, hs1⟩ : ∃ s : Str, s ∈ (["left", "right", "center"] : List Str) ∧ e2 ixG (eL (fLst (aCons (eC (.str "left")) (aCons (eC (.str "right")) (aCons (eC (.str "center")) aNil))))) (e2 modD (eCall intA (aCons (e2 ixG (eVar 1) (eC (.int 5))) aNil)) (eC (.int 3))) [.val (.int c), .val (.list (ds.map .int)), .val (.int a), .val m, .val p] = some (.str s) := by
    have h3 : (ds.getD 5 0 % 3).toNat < (["left", "right", "center"] : List Str).length := by
      show (ds.getD 5 0 % 3).toNat < 3
      omega
    refine ⟨(["left", "right", "center"] : List Str)[(ds.getD 5 0 % 3).toNat], List.getElem_mem h3, e2_ev (x := .list ((["left", "right", "center"] : List Str).map .str)) rfl (dr_mod (ds := ds) rfl (j := 5) (by omega) rfl (by decide)) ?_⟩
    have := atI_map PyData.str (["left", "right", "center"] : List Str) (ds.getD 5 0 % 3).toNat _ (List.getElem?_eq_getElem h3)
    rw [Int.toNat_of_nonneg m5.1] at this
    exact this
  refine ⟨a, m, p, s, ?_, by omega, hm, hp, hs⟩
  refine gDef_ev (fB := f_Lcolumn) rfl (show f_Lcolumn [.val (.int c), .un, .un, .un, .un] = _ from ?_)
  unfold f_Lcolumn
  refine (sSeq_nx (e := [.val (.int c), .val (.list (ds.map .int)), .un, .un, .un]) (sSet_ev (eCall_ev (aCons_ev rfl (aCons_ev rfl aNil_ev)) hd))).trans ?_
  refine (sSeq_nx (e := [.val (.int c), .val (.list (ds.map .int)), .val (.int a), .un, .un]) (by rw [ha]; exact sSet_ev (e2_ev rfl (dr_mod (ds := ds) rfl (j := 0) (by omega) rfl (by decide)) (addD_int _ _)))).trans ?_
  refine (sSeq_nx (e := [.val (.int c), .val (.list (ds.map .int)), .val (.int a), .val m, .un]) (sSet_ev hm1)).trans ?_
  refine (sSeq_nx (e := [.val (.int c), .val (.list (ds.map .int)), .val (.int a), .val m, .val p]) (sSet_ev hp1)).trans ?_
  exact sRet_ev (eTup_ev (aCons_ev rfl (aCons_ev rfl (aCons_ev rfl (aCons_ev hs1 aNil_ev)))) (by simp))
theorem free_ev (ps : List (Int × Int)) (r c h w : Int) (h0 : 0 ≤ h ∧ h ≤ 4) (w0 : 0 ≤ w ∧ w ≤ 4) : ∃ b : Bool, g_Lis_free [.list (ps.map pr), .int r, .int c, .int h, .int w] = some (.bool b) ∧ (w = 0 → b = true) := by
  have hm : 0 ≤ h * w ∧ h * w ≤ 16 := by
    constructor
    · exact Int.mul_nonneg h0.1 w0.1
    · calc h * w ≤ 4 * w := Int.mul_le_mul_of_nonneg_right h0.2 w0.1
        _ ≤ 16 := by omega
  obtain ⟨N, hN⟩ : ∃ N : Int, N = h * w := ⟨_, rfl⟩
  rw [← hN] at hm
  have hr := iR1_ev (fa := aCons (e2 mulD (eVar 3) (eVar 4)) aNil) (env := [.val (.list (ps.map pr)), .val (.int r), .val (.int c), .val (.int h), .val (.int w), .un]) (N := N) (aCons_ev (by rw [hN]; exact e2_ev rfl rfl (mulD_int (.inl (by omega)))) aNil_ev) (by omega) (by omega)
  have hlp := loop_rngA (g := gVal 5) (b := b_Lis_free_1) (lo := 0) (n := N.toNat) (e := [.val (.list (ps.map pr)), .val (.int r), .val (.int c), .val (.int h), .val (.int w), .un])
    (fun j e => ∃ x, e = [.val (.list (ps.map pr)), .val (.int r), .val (.int c), .val (.int h), .val (.int w), x]) (fun v => v = .bool false) (fun j e hj he => by
      obtain ⟨x, rfl⟩ := he
      obtain ⟨k, hk⟩ : ∃ k : Int, k = 0 + (j : Nat) := ⟨_, rfl⟩
      rw [← hk]
      have hw : 0 < w := by
        by_cases q : w = 0
        · subst q
          rw [Int.mul_zero] at hN
          omega
        · omega
      refine ⟨[.val (.list (ps.map pr)), .val (.int r), .val (.int c), .val (.int h), .val (.int w), .val (.int k)], rfl, ?_⟩
      have ht : t1 (e2 inD (eTup (aCons (e2 addD (eVar 1) (e2 divD (eVar 5) (eVar 4))) (aCons (e2 addD (eVar 2) (e2 modD (eVar 5) (eVar 4))) aNil))) (eVar 0)) [.val (.list (ps.map pr)), .val (.int r), .val (.int c), .val (.int h), .val (.int w), .val (.int k)] = some (decide ((r + k / w, c + k % w) ∈ ps)) :=
        t1_ev (e2_ev (eTup_ev (aCons_ev (e2_ev rfl (e2_ev rfl rfl (divD_int ⟨hw, by omega⟩)) (addD_int _ _)) (aCons_ev (e2_ev rfl (e2_ev rfl rfl (modD_int hw)) (addD_int _ _)) aNil_ev)) (by simp)) rfl (inD_pr (r + k / w, c + k % w) ps))
      unfold b_Lis_free_1
      by_cases q : (r + k / w, c + k % w) ∈ ps
      · rw [decide_eq_true q] at ht
        exact .inr ⟨_, (sIf_t ht).trans rfl, rfl⟩
      · rw [decide_eq_false q] at ht
        exact .inl ⟨_, .inl ((sIf_f ht).trans rfl), _, rfl⟩) ⟨_, rfl⟩
  rcases hlp with ⟨e', h1, x, rfl⟩ | ⟨v, h1, rfl⟩
  · refine ⟨true, ?_, fun _ => rfl⟩
    refine gDef_ev (fB := f_Lis_free) rfl (show f_Lis_free [.val (.list (ps.map pr)), .val (.int r), .val (.int c), .val (.int h), .val (.int w), .un] = _ from ?_)
    unfold f_Lis_free
    exact (sSeq_nx (sFor_ev hr h1)).trans rfl
  · refine ⟨false, ?_, fun q => ?_⟩
    · refine gDef_ev (fB := f_Lis_free) rfl (show f_Lis_free [.val (.list (ps.map pr)), .val (.int r), .val (.int c), .val (.int h), .val (.int w), .un] = _ from ?_)
      unfold f_Lis_free
      exact sSeq_rt (sFor_ev hr h1)
    · exfalso
      subst q
      rw [Int.mul_zero] at hN
      subst hN
      cases h1
/-- a cell: row, column, height, width, words -/
structure LCell where
  r : Int
  c : Int
  h : Int
  w : Int
  ws : List Str
abbrev cellD (x : LCell) : PyData := .tuple [.int x.r, .int x.c, .int x.h, .int x.w, .tuple (x.ws.map .str)]
def CellOk (x : LCell) : Prop := (0 ≤ x.r ∧ x.r ≤ 3) ∧ (0 ≤ x.c ∧ x.c ≤ 2) ∧ (1 ≤ x.h ∧ x.h ≤ 2) ∧ (0 ≤ x.w ∧ x.w ≤ 3) ∧ x.ws.length ≤ 4 ∧ ∀ w ∈ x.ws, w ∈ pool
theorem width_loop (a0 a1 a2 a3 a4 a6 a7 a10 x13 : Sl) (ps : List (Int × Int)) (r c h : Int) (h0 : 0 ≤ h ∧ h ≤ 4) : ∀ (n : Nat) (w : Int), 0 ≤ w → w < n → w ≤ 4 →
    ∃ w', 0 ≤ w' ∧ w' ≤ w ∧ whlF w_Lcells_1 b_Lcells_1 n [a0, a1, a2, a3, a4, .own (ps.map pr), a6, a7, .val (.int r), .val (.int c), a10, .val (.int h), .val (.int w), x13] = .nx [a0, a1, a2, a3, a4, .own (ps.map pr), a6, a7, .val (.int r), .val (.int c), a10, .val (.int h), .val (.int w'), x13]
  | 0, w, h1, h2, _ => by omega
  | n + 1, w, h1, h2, h3 => by
    obtain ⟨b, hb, hz⟩ := free_ev ps r c h w h0 ⟨h1, h3⟩
    have ht : w_Lcells_1 [a0, a1, a2, a3, a4, .own (ps.map pr), a6, a7, .val (.int r), .val (.int c), a10, .val (.int h), .val (.int w), x13] = some (!b) :=
      not_ev (tTr_ev (eN_ev (eCall_ev (aCons_ev rfl (aCons_ev rfl (aCons_ev rfl (aCons_ev rfl (aCons_ev rfl aNil_ev))))) hb) rfl) rfl)
    cases b with
    | true =>
      refine ⟨w, h1, Int.le_refl _, ?_⟩
      simp only [whlF, ht, Bool.not_true]
    | false =>
      have hw : 1 ≤ w := by
        by_cases q : w = 0
        · cases hz q
        · omega
      obtain ⟨w', q1, q2, q3⟩ := width_loop a0 a1 a2 a3 a4 a6 a7 a10 x13 ps r c h h0 n (w - 1) (by omega) (by omega) (by omega)
      refine ⟨w', q1, by omega, ?_⟩
      simp only [whlF, ht, Bool.not_false]
      exact q3
theorem taken_loop (a0 a1 a2 a3 a4 a6 a7 a10 x13 : Sl) (ps : List (Int × Int)) (r c h w : Int) (h0 : 0 ≤ h ∧ h ≤ 4) (w0 : 0 ≤ w ∧ w ≤ 4) (hl : ps.length ≤ 1000) :
    ∃ (qs : List (Int × Int)) (y13 : Sl), qs.length ≤ ps.length + 16 ∧ sFor (iR1 (aCons (e2 mulD (eVar 11) (eVar 12)) aNil)) (gVal 13) b_Lcells_2 [a0, a1, a2, a3, a4, .own (ps.map pr), a6, a7, .val (.int r), .val (.int c), a10, .val (.int h), .val (.int w), x13] = .nx [a0, a1, a2, a3, a4, .own (qs.map pr), a6, a7, .val (.int r), .val (.int c), a10, .val (.int h), .val (.int w), y13] := by
  have hm : 0 ≤ h * w ∧ h * w ≤ 16 := by
    constructor
    · exact Int.mul_nonneg h0.1 w0.1
    · calc h * w ≤ 4 * w := Int.mul_le_mul_of_nonneg_right h0.2 w0.1
        _ ≤ 16 := by omega
  obtain ⟨N, hN⟩ : ∃ N : Int, N = h * w := ⟨_, rfl⟩
  rw [← hN] at hm
  have hr := iR1_ev (fa := aCons (e2 mulD (eVar 11) (eVar 12)) aNil) (env := [a0, a1, a2, a3, a4, .own (ps.map pr), a6, a7, .val (.int r), .val (.int c), a10, .val (.int h), .val (.int w), x13]) (N := N) (aCons_ev (by rw [hN]; exact e2_ev rfl rfl (mulD_int (.inl (by omega)))) aNil_ev) (by omega) (by omega)
  have hlp := loop_rng (g := gVal 13) (b := b_Lcells_2) (lo := 0) (n := N.toNat) (e := [a0, a1, a2, a3, a4, .own (ps.map pr), a6, a7, .val (.int r), .val (.int c), a10, .val (.int h), .val (.int w), x13])
    (fun j e => ∃ (qs : List (Int × Int)) (y : Sl), qs.length = ps.length + j ∧ e = [a0, a1, a2, a3, a4, .own (qs.map pr), a6, a7, .val (.int r), .val (.int c), a10, .val (.int h), .val (.int w), y]) (fun j e hj he => by
      obtain ⟨qs, y, hq, rfl⟩ := he
      obtain ⟨k, hk⟩ : ∃ k : Int, k = 0 + (j : Nat) := ⟨_, rfl⟩
      rw [← hk]
      have hw : 0 < w := by
        by_cases q : w = 0
        · subst q
          rw [Int.mul_zero] at hN
          omega
        · omega
      refine ⟨[a0, a1, a2, a3, a4, .own (qs.map pr), a6, a7, .val (.int r), .val (.int c), a10, .val (.int h), .val (.int w), .val (.int k)], rfl, [a0, a1, a2, a3, a4, .own ((qs ++ [(r + k / w, c + k % w)]).map pr), a6, a7, .val (.int r), .val (.int c), a10, .val (.int h), .val (.int w), .val (.int k)], .inl ?_, qs ++ [(r + k / w, c + k % w)], _, by simp [hq]; omega, rfl⟩
      unfold b_Lcells_2
      rw [List.map_append]
      exact sApp_ev (i := 5) (eTup_ev (aCons_ev (e2_ev rfl (e2_ev rfl rfl (divD_int ⟨hw, by omega⟩)) (addD_int _ _)) (aCons_ev (e2_ev rfl (e2_ev rfl rfl (modD_int hw)) (addD_int _ _)) aNil_ev)) (by simp)) rfl (by rw [List.length_map]; omega)) ⟨ps, x13, rfl, rfl⟩
  obtain ⟨e', h1, qs, y, h2, rfl⟩ := hlp
  exact ⟨qs, y, by omega, sFor_ev hr h1⟩

theorem cells_ev (ns : List Int) (st : Nat) (R C H : Int) (hR : 1 ≤ R ∧ R ≤ 4) (hC : 1 ≤ C ∧ C ≤ 3) (hH : 0 ≤ H ∧ H ≤ R) :
    ∃ cs : List LCell, g_Lcells [.list (ns.map .int), .int (st : Nat), .int R, .int C, .int H] = some (.tuple (cs.map cellD)) ∧ cs.length ≤ 12 ∧ ∀ x ∈ cs, CellOk x := by
  obtain ⟨S, hS⟩ : ∃ S : PyData, S = .list (ns.map .int) := ⟨_, rfl⟩
  have hcell : ∀ k : Nat, g_Lcell [S, .int (k : Nat)] = some (.int (ns.getD k 0)) := fun k => by rw [hS]; exact cell_ev ns k
  rw [← hS]
  obtain ⟨t, ht⟩ : ∃ t : Int, t = (st : Nat) := ⟨_, rfl⟩
  rw [← ht]
  have hm : 1 ≤ R * C ∧ R * C ≤ 12 := by
    constructor
    · have := Int.mul_pos (show 0 < R by omega) (show 0 < C by omega)
      omega
    · calc R * C ≤ 4 * C := Int.mul_le_mul_of_nonneg_right hR.2 (by omega)
        _ ≤ 12 := by omega
  obtain ⟨N, hN⟩ : ∃ N : Int, N = R * C := ⟨_, rfl⟩
  rw [← hN] at hm
  have hr := iR1_ev (fa := aCons (e2 mulD (eVar 2) (eVar 3)) aNil) (env := [.val S, .val (.int t), .val (.int R), .val (.int C), .val (.int H), .own [], .own [], .un, .un, .un, .un, .un, .un, .un]) (N := N) (aCons_ev (by rw [hN]; exact e2_ev rfl rfl (mulD_int (.inl (by omega)))) aNil_ev) (by omega) (by omega)
  have hlp := loop_rng (g := gVal 7) (b := b_Lcells_3) (lo := 0) (n := N.toNat) (e := [.val S, .val (.int t), .val (.int R), .val (.int C), .val (.int H), .own [], .own [], .un, .un, .un, .un, .un, .un, .un])
    (fun j e => ∃ (ps : List (Int × Int)) (cs : List LCell) (y7 y8 y9 y10 y11 y12 y13 : Sl), ps.length ≤ 16 * j ∧ cs.length ≤ j ∧ (∀ x ∈ cs, CellOk x) ∧ e = [.val S, .val (.int t), .val (.int R), .val (.int C), .val (.int H), .own (ps.map pr), .own (cs.map cellD), y7, y8, y9, y10, y11, y12, y13]) (fun j e hj he => by
      obtain ⟨ps, cs, y7, y8, y9, y10, y11, y12, y13, hp, hc, hok, rfl⟩ := he
      obtain ⟨k, hk⟩ : ∃ k : Int, k = 0 + (j : Nat) := ⟨_, rfl⟩
      rw [← hk]
      have hj12 : j < 12 := by omega
      have hk0 : 0 ≤ k ∧ k < N := by omega
      obtain ⟨r, hr'⟩ : ∃ r : Int, r = k / C := ⟨_, rfl⟩
      obtain ⟨c, hc'⟩ : ∃ c : Int, c = k % C := ⟨_, rfl⟩
      have hc0 := mod_lt k C (by omega)
      rw [← hc'] at hc0
      have hr0 : 0 ≤ r ∧ r < R := by
        constructor
        · rw [hr']; exact Int.ediv_nonneg hk0.1 (by omega)
        · rw [hr']; exact Int.ediv_lt_of_lt_mul (by omega) (by rw [← hN]; exact hk0.2)
      refine ⟨[.val S, .val (.int t), .val (.int R), .val (.int C), .val (.int H), .own (ps.map pr), .own (cs.map cellD), .val (.int k), y8, y9, y10, y11, y12, y13], rfl, ?_⟩
      have g1 : sSet 8 (e2 divD (eVar 7) (eVar 3)) [.val S, .val (.int t), .val (.int R), .val (.int C), .val (.int H), .own (ps.map pr), .own (cs.map cellD), .val (.int k), y8, y9, y10, y11, y12, y13] = .nx [.val S, .val (.int t), .val (.int R), .val (.int C), .val (.int H), .own (ps.map pr), .own (cs.map cellD), .val (.int k), .val (.int r), y9, y10, y11, y12, y13] := by
        rw [hr']; exact sSet_ev (e2_ev rfl rfl (divD_int ⟨by omega, by omega⟩))
      have g2 : sSet 9 (e2 modD (eVar 7) (eVar 3)) [.val S, .val (.int t), .val (.int R), .val (.int C), .val (.int H), .own (ps.map pr), .own (cs.map cellD), .val (.int k), .val (.int r), y9, y10, y11, y12, y13] = .nx [.val S, .val (.int t), .val (.int R), .val (.int C), .val (.int H), .own (ps.map pr), .own (cs.map cellD), .val (.int k), .val (.int r), .val (.int c), y10, y11, y12, y13] := by
        rw [hc']; exact sSet_ev (e2_ev rfl rfl (modD_int (by omega)))
      have ht : t1 (e2 notInD (eTup (aCons (eVar 8) (aCons (eVar 9) aNil))) (eBor 5)) [.val S, .val (.int t), .val (.int R), .val (.int C), .val (.int H), .own (ps.map pr), .own (cs.map cellD), .val (.int k), .val (.int r), .val (.int c), y10, y11, y12, y13] = some (!decide ((r, c) ∈ ps)) :=
        t1_ev (e2_ev (eTup_ev (aCons_ev rfl (aCons_ev rfl aNil_ev)) (by simp)) rfl (notInD_pr (r, c) ps))
      by_cases q : (r, c) ∈ ps
      · rw [decide_eq_true q] at ht
        refine ⟨[.val S, .val (.int t), .val (.int R), .val (.int C), .val (.int H), .own (ps.map pr), .own (cs.map cellD), .val (.int k), .val (.int r), .val (.int c), y10, y11, y12, y13], .inl ?_, ps, cs, _, _, _, _, _, _, _, by omega, by omega, hok, rfl⟩
        unfold b_Lcells_3
        rw [sSeq_nx g1, sSeq_nx g2]
        exact (sIf_f ht).trans rfl
      · rw [decide_eq_false q] at ht
        have hst : t + (cs.map cellD).length = ((st + cs.length : Nat) : Int) := by rw [List.length_map]; omega
        have hx : eCall g_Lcell (aCons (eVar 0) (aCons (e2 addD (eVar 1) (eCall lenA (aCons (eBor 6) aNil))) aNil)) = eCall g_Lcell (aCons (eVar 0) (aCons (e2 addD (eVar 1) (eCall lenA (aCons (eBor 6) aNil))) aNil)) := rfl
        obtain ⟨v, hv⟩ : ∃ v : Int, v = ns.getD (st + cs.length) 0 := ⟨_, rfl⟩
        have hcl : ∀ (z7 z8 z9 z10 z11 z12 z13 : Sl) (qs : List (Int × Int)), eCall g_Lcell (aCons (eVar 0) (aCons (e2 addD (eVar 1) (eCall lenA (aCons (eBor 6) aNil))) aNil)) [.val S, .val (.int t), .val (.int R), .val (.int C), .val (.int H), .own (qs.map pr), .own (cs.map cellD), z7, z8, z9, z10, z11, z12, z13] = some (.int v) := fun z7 z8 z9 z10 z11 z12 z13 qs => by
          refine eCall_ev (aCons_ev rfl (aCons_ev (e2_ev rfl (eCall_ev (aCons_ev rfl aNil_ev) rfl) (addD_int _ _)) aNil_ev)) ?_
          rw [hst, hcell, hv]
        obtain ⟨ds, hd, hl, hb⟩ := draws_ev v 4 (by decide)
        have m0 := mod_lt (ds.getD 0 0) 2 (by decide)
        have m1 := mod_lt (ds.getD 1 0) 3 (by decide)
        have m2 := mod_lt (ds.getD 2 0) 2 (by decide)
        obtain ⟨h, hh⟩ : ∃ h : Int, h = (if (if H ≤ r then R else H) - r < 1 + ds.getD 0 0 % 2 then (if H ≤ r then R else H) - r else 1 + ds.getD 0 0 % 2) := ⟨_, rfl⟩
        have hh1 : 1 ≤ h ∧ h ≤ 2 := by
          rw [hh]
          split <;> split <;> omega
        obtain ⟨w, hw⟩ : ∃ w : Int, w = (if C - c < 1 + ds.getD 1 0 % 3 / 2 + ds.getD 2 0 % 2 then C - c else 1 + ds.getD 1 0 % 3 / 2 + ds.getD 2 0 % 2) := ⟨_, rfl⟩
        have hw1 : 1 ≤ w ∧ w ≤ 3 := by
          rw [hw]
          split <;> omega
        obtain ⟨w', w1, w2, w3⟩ := width_loop (.val S) (.val (.int t)) (.val (.int R)) (.val (.int C)) (.val (.int H)) (.own (cs.map cellD)) (.val (.int k)) (.val (.list (ds.map .int))) y13 ps r c h (by omega) 5 w (by omega) (by omega) (by omega)
        obtain ⟨qs, y13', hq, htk⟩ := taken_loop (.val S) (.val (.int t)) (.val (.int R)) (.val (.int C)) (.val (.int H)) (.own (cs.map cellD)) (.val (.int k)) (.val (.list (ds.map .int))) y13 ps r c h w' (by omega) (by omega) (by omega)
        obtain ⟨ws, hws, hwl, hwp⟩ := words_ev (v + ds.getD 3 0)
        refine ⟨[.val S, .val (.int t), .val (.int R), .val (.int C), .val (.int H), .own (qs.map pr), .own ((cs ++ [(⟨r, c, h, w', ws⟩ : LCell)]).map cellD), .val (.int k), .val (.int r), .val (.int c), .val (.list (ds.map .int)), .val (.int h), .val (.int w'), y13'], .inl ?_, qs, cs ++ [⟨r, c, h, w', ws⟩], _, _, _, _, _, _, _, by omega, by simp; omega, ?_, rfl⟩
        · unfold b_Lcells_3
          rw [sSeq_nx g1, sSeq_nx g2]
          refine (sIf_t ht).trans ?_
          refine (sSeq_nx (e := [.val S, .val (.int t), .val (.int R), .val (.int C), .val (.int H), .own (ps.map pr), .own (cs.map cellD), .val (.int k), .val (.int r), .val (.int c), .val (.list (ds.map .int)), y11, y12, y13]) (sSet_ev (eCall_ev (aCons_ev (hcl _ _ _ _ _ _ _ _) (aCons_ev rfl aNil_ev)) hd))).trans ?_
          refine (sSeq_nx (e := [.val S, .val (.int t), .val (.int R), .val (.int C), .val (.int H), .own (ps.map pr), .own (cs.map cellD), .val (.int k), .val (.int r), .val (.int c), .val (.list (ds.map .int)), .val (.int h), y12, y13]) ?_).trans ?_
          · have hif : eIf (t1 (e2 geD (eVar 8) (eVar 4))) (eVar 2) (eVar 4) [.val S, .val (.int t), .val (.int R), .val (.int C), .val (.int H), .own (ps.map pr), .own (cs.map cellD), .val (.int k), .val (.int r), .val (.int c), .val (.list (ds.map .int)), y11, y12, y13] = some (.int (if H ≤ r then R else H)) := by
              by_cases z : H ≤ r
              · rw [if_pos z]
                exact eIf_t (t1_ev (e2_ev rfl rfl ((geD_int _ _).trans (by rw [decide_eq_true z])))) rfl
              · rw [if_neg z]
                exact eIf_f (t1_ev (e2_ev rfl rfl ((geD_int _ _).trans (by rw [decide_eq_false z])))) rfl
            rw [hh]
            exact sSet_ev (eCall_ev (aCons_ev (e2_ev rfl (dr_mod (ds := ds) rfl (j := 0) (by omega) rfl (by decide)) (addD_int _ _)) (aCons_ev (e2_ev hif rfl (subD_int _ _)) aNil_ev)) rfl)
          refine (sSeq_nx (e := [.val S, .val (.int t), .val (.int R), .val (.int C), .val (.int H), .own (ps.map pr), .own (cs.map cellD), .val (.int k), .val (.int r), .val (.int c), .val (.list (ds.map .int)), .val (.int h), .val (.int w), y13]) ?_).trans ?_
          · rw [hw]
            exact sSet_ev (eCall_ev (aCons_ev (e2_ev (e2_ev rfl (e2_ev (dr_mod (ds := ds) rfl (j := 1) (by omega) rfl (by decide)) rfl (divD_int ⟨by decide, by decide⟩)) (addD_int _ _)) (dr_mod (ds := ds) rfl (j := 2) (by omega) rfl (by decide)) (addD_int _ _)) (aCons_ev (e2_ev rfl rfl (subD_int _ _)) aNil_ev)) rfl)
          rw [sSeq_nx w3, sSeq_nx htk, List.map_append]
          refine sApp_ev (i := 6) (eTup_ev (aCons_ev rfl (aCons_ev rfl (aCons_ev rfl (aCons_ev rfl (aCons_ev (eCall_ev (aCons_ev (e2_ev (hcl _ _ _ _ _ _ _ _) (dr_int (ds := ds) rfl (j := 3) (by omega) rfl) (addD_int _ _)) aNil_ev) hws) aNil_ev))))) (by simp)) rfl (by rw [List.length_map]; omega)
        · intro x hx
          rcases List.mem_append.mp hx with hx | hx
          · exact hok x hx
          · rw [List.mem_singleton.mp hx]
            exact ⟨⟨hr0.1, by show r ≤ 3; omega⟩, ⟨hc0.1, by show c ≤ 2; omega⟩, hh1, ⟨w1, by show w' ≤ 3; omega⟩, hwl, hwp⟩) ⟨[], [], .un, .un, .un, .un, .un, .un, .un, by simp, by simp, (fun x hx => by cases hx), rfl⟩
  obtain ⟨e', h1, ps, cs, y7, y8, y9, y10, y11, y12, y13, hp, hc, hok, rfl⟩ := hlp
  refine ⟨cs, ?_, by omega, hok⟩
  refine gDef_ev (fB := f_Lcells) rfl (show f_Lcells [.val S, .val (.int t), .val (.int R), .val (.int C), .val (.int H), .un, .un, .un, .un, .un, .un, .un, .un, .un] = _ from ?_)
  unfold f_Lcells
  refine (sSeq_nx (e := [.val S, .val (.int t), .val (.int R), .val (.int C), .val (.int H), .own [], .un, .un, .un, .un, .un, .un, .un, .un]) (by rfl)).trans ?_
  refine (sSeq_nx (e := [.val S, .val (.int t), .val (.int R), .val (.int C), .val (.int H), .own [], .own [], .un, .un, .un, .un, .un, .un, .un]) (by rfl)).trans ?_
  refine (sSeq_nx (sFor_ev hr h1)).trans ?_
  exact sRet_ev (eTupO_ev rfl)
/-- a row: least, is_head, keeps -/
abbrev LRow := Int × Bool × Bool
abbrev rowD (x : LRow) : PyData := .tuple [.int x.1, .bool x.2.1, .bool x.2.2]
structure LTab where
  cols : List PyData
  rows : List LRow
  cells : List LCell
  heads : Nat
abbrev tabD (t : LTab) : PyData := .tuple [.tuple t.cols, .tuple (t.rows.map rowD), .tuple (t.cells.map cellD)]
structure TabOk (t : LTab) : Prop where
  nr : 1 ≤ t.rows.length ∧ t.rows.length ≤ 4
  nh : t.heads ≤ t.rows.length ∧ t.heads ≤ 2
  rw_ : ∀ (j : Nat) (x : LRow), t.rows[j]? = some x → (1 ≤ x.1 ∧ x.1 ≤ 3) ∧ x.2.1 = decide (j < t.heads)
  cl : ∀ x ∈ t.cells, CellOk x
  nc : t.cells.length ≤ 12
theorem eqD_int' (i j : Int) : eqD (.int i) (.int j) = some (.bool (decide (i = j))) := eqD_int i j
theorem table_ev (ns : List Int) (st : Nat) : ∃ t : LTab, g_Ltable [.list (ns.map .int), .int (st : Nat)] = some (tabD t) ∧ TabOk t := by
  obtain ⟨S, hS⟩ : ∃ S : PyData, S = .list (ns.map .int) := ⟨_, rfl⟩
  have hcell : ∀ k : Nat, g_Lcell [S, .int (k : Nat)] = some (.int (ns.getD k 0)) := fun k => by rw [hS]; exact cell_ev ns k
  have hcells := cells_ev ns (st + 8)
  rw [← hS] at hcells ⊢
  obtain ⟨t, ht⟩ : ∃ t : Int, t = (st : Nat) := ⟨_, rfl⟩
  have hc2 : ∀ (k : Nat) (z : Int), z = t + (k : Nat) → g_Lcell [S, .int z] = some (.int (ns.getD (st + k) 0)) := fun k z hz => by
    have := hcell (st + k)
    rw [show ((st + k : Nat) : Int) = z by omega] at this
    exact this
  rw [show ((st + 8 : Nat) : Int) = t + 8 by omega] at hcells
  rw [← ht]
  obtain ⟨ds, hd, hl, hb⟩ := draws_ev (ns.getD (st + 0) 0) 4 (by decide)
  have m0 := mod_lt (ds.getD 0 0) 3 (by decide)
  have m1 := mod_lt (ds.getD 1 0) 4 (by decide)
  have m2 := mod_lt (ds.getD 2 0) 3 (by decide)
  obtain ⟨C, hC⟩ : ∃ C : Int, C = 1 + ds.getD 0 0 % 3 := ⟨_, rfl⟩
  obtain ⟨R, hR⟩ : ∃ R : Int, R = 1 + ds.getD 1 0 % 4 := ⟨_, rfl⟩
  obtain ⟨H, hH⟩ : ∃ H : Int, H = (if ds.getD 2 0 % 3 < R then ds.getD 2 0 % 3 else R) := ⟨_, rfl⟩
  have hH1 : 0 ≤ H ∧ H ≤ R ∧ H ≤ 2 := by rw [hH]; split <;> omega
  obtain ⟨Dd, hDd⟩ : ∃ Dd : PyData, Dd = .list (ds.map .int) := ⟨_, rfl⟩
  obtain ⟨cs, hcs, hcl, hco⟩ := hcells R C H (by omega) (by omega) (by omega)
  have hlp := loop_rng (g := gVal 7) (b := b_Ltable_1) (lo := 0) (n := R.toNat) (e := [.val S, .val (.int t), .val Dd, .val (.int C), .val (.int R), .val (.int H), .own [], .un, .un, .un, .un])
    (fun j e => ∃ (rs : List LRow) (y7 y8 : Sl), rs.length = j ∧ (∀ (i : Nat) (x : LRow), rs[i]? = some x → (1 ≤ x.1 ∧ x.1 ≤ 3) ∧ x.2.1 = decide ((i : Int) < H)) ∧ e = [.val S, .val (.int t), .val Dd, .val (.int C), .val (.int R), .val (.int H), .own (rs.map rowD), y7, y8, .un, .un]) (fun j e hj he => by
      obtain ⟨rs, y7, y8, hrl, hrs, rfl⟩ := he
      obtain ⟨k, hk⟩ : ∃ k : Int, k = 0 + (j : Nat) := ⟨_, rfl⟩
      rw [← hk]
      obtain ⟨es, he, hel, heb⟩ := draws_ev (ns.getD (st + (4 + j)) 0) 2 (by decide)
      have n0 := mod_lt (es.getD 0 0) 3 (by decide)
      refine ⟨[.val S, .val (.int t), .val Dd, .val (.int C), .val (.int R), .val (.int H), .own (rs.map rowD), .val (.int k), y8, .un, .un], rfl,
        [.val S, .val (.int t), .val Dd, .val (.int C), .val (.int R), .val (.int H), .own ((rs ++ [((1 + es.getD 0 0 % 3, decide (k < H), decide (es.getD 1 0 % 4 = 0)) : LRow)]).map rowD), .val (.int k), .val (.list (es.map .int)), .un, .un], .inl ?_, rs ++ [(1 + es.getD 0 0 % 3, decide (k < H), decide (es.getD 1 0 % 4 = 0))], _, _, by simp [hrl], ?_, rfl⟩
      · unfold b_Ltable_1
        refine (sSeq_nx (e := [.val S, .val (.int t), .val Dd, .val (.int C), .val (.int R), .val (.int H), .own (rs.map rowD), .val (.int k), .val (.list (es.map .int)), .un, .un]) (sSet_ev (eCall_ev (aCons_ev (eCall_ev (aCons_ev rfl (aCons_ev (e2_ev (e2_ev rfl rfl (addD_int _ _)) rfl (addD_int _ _)) aNil_ev)) (hc2 (4 + j) _ (by omega))) (aCons_ev rfl aNil_ev)) he))).trans ?_
        rw [List.map_append]
        exact sApp_ev (i := 6) (eTup_ev (aCons_ev (e2_ev rfl (dr_mod (ds := es) rfl (j := 0) (by omega) rfl (by decide)) (addD_int _ _)) (aCons_ev (e2_ev rfl rfl (ltD_int _ _)) (aCons_ev (e2_ev (dr_mod (ds := es) rfl (j := 1) (by omega) rfl (by decide)) rfl (eqD_int _ _)) aNil_ev))) (by simp)) rfl (by rw [List.length_map]; omega)
      · intro i x hx
        by_cases q : i < rs.length
        · rw [List.getElem?_append_left q] at hx
          exact hrs i x hx
        · rw [List.getElem?_append_right (by omega)] at hx
          have e0 : i - rs.length = 0 := by
            by_cases z : i - rs.length = 0
            · exact z
            · rw [List.getElem?_eq_none (by simp; omega)] at hx; cases hx
          rw [e0] at hx
          cases hx
          refine ⟨⟨by show 1 ≤ 1 + es.getD 0 0 % 3; omega, by show 1 + es.getD 0 0 % 3 ≤ 3; omega⟩, ?_⟩
          show decide (k < H) = decide ((i : Int) < H)
          rw [show (i : Int) = k by omega]) ⟨[], .un, .un, rfl, (fun i x hx => by simp at hx), rfl⟩
  obtain ⟨e', h1, rs, y7, y8, hrl, hrs, rfl⟩ := hlp
  have hcols : ∃ cols : List PyData, cols.length ≤ 1000 ∧ compF (gVal 10) tYes' c_Ltable_1 [.val S, .val (.int t), .val Dd, .val (.int C), .val (.int R), .val (.int H), .own (rs.map rowD), y7, y8, .un, .un] (rngD 0 C.toNat) = some cols := by
    have aux : ∀ ks : List Nat, ∃ cols : List PyData, cols.length = ks.length ∧ compF (gVal 10) tYes' c_Ltable_1 [.val S, .val (.int t), .val Dd, .val (.int C), .val (.int R), .val (.int H), .own (rs.map rowD), y7, y8, .un, .un] (ks.map fun k => .int (0 + (k : Nat))) = some cols := by
      intro ks
      induction ks with
      | nil => exact ⟨[], rfl, rfl⟩
      | cons j ks ih =>
        obtain ⟨cols, q0, q1⟩ := ih
        obtain ⟨a, m, p, s, hcol, _⟩ := column_ev (ns.getD (st + (1 + j)) 0)
        refine ⟨.tuple [.int a, m, p, .str s] :: cols, by simp [q0], ?_⟩
        obtain ⟨k, hk⟩ : ∃ k : Int, k = 0 + (j : Nat) := ⟨_, rfl⟩
        have q2 : c_Ltable_1 [.val S, .val (.int t), .val Dd, .val (.int C), .val (.int R), .val (.int H), .own (rs.map rowD), y7, y8, .un, .val (.int k)] = some (.tuple [.int a, m, p, .str s]) :=
          eCall_ev (aCons_ev (eCall_ev (aCons_ev rfl (aCons_ev (e2_ev (e2_ev rfl rfl (addD_int _ _)) rfl (addD_int _ _)) aNil_ev)) (hc2 (1 + j) _ (by omega))) aNil_ev) hcol
        rw [List.map_cons, ← hk]
        simp only [compF, gVal, List.set_cons_succ, List.set_cons_zero, tYes', q2]
        rw [q1]
    obtain ⟨cols, q0, q1⟩ := aux (List.range C.toNat)
    exact ⟨cols, by rw [q0, List.length_range]; omega, q1⟩
  obtain ⟨cols, hcol0, hcol⟩ := hcols
  have hRc : ((R.toNat : Nat) : Int) = R := Int.toNat_of_nonneg (by omega)
  have hHc : ((H.toNat : Nat) : Int) = H := Int.toNat_of_nonneg (by omega)
  refine ⟨⟨cols, rs, cs, H.toNat⟩, ?_, ⟨by show 1 ≤ rs.length ∧ rs.length ≤ 4; omega, by show H.toNat ≤ rs.length ∧ H.toNat ≤ 2; omega, fun j x hx => ?_, hco, hcl⟩⟩
  · refine gDef_ev (fB := f_Ltable) rfl (show f_Ltable [.val S, .val (.int t), .un, .un, .un, .un, .un, .un, .un, .un, .un] = _ from ?_)
    unfold f_Ltable
    refine (sSeq_nx (e := [.val S, .val (.int t), .val (.list (ds.map .int)), .un, .un, .un, .un, .un, .un, .un, .un]) (sSet_ev (eCall_ev (aCons_ev (eCall_ev (aCons_ev rfl (aCons_ev rfl aNil_ev)) (hc2 0 t (by omega))) (aCons_ev rfl aNil_ev)) hd))).trans ?_
    refine (sSeq_nx (e := [.val S, .val (.int t), .val (.list (ds.map .int)), .val (.int C), .un, .un, .un, .un, .un, .un, .un]) (by rw [hC]; exact sSet_ev (e2_ev rfl (dr_mod (ds := ds) rfl (j := 0) (by omega) rfl (by decide)) (addD_int _ _)))).trans ?_
    refine (sSeq_nx (e := [.val S, .val (.int t), .val (.list (ds.map .int)), .val (.int C), .val (.int R), .un, .un, .un, .un, .un, .un]) (by rw [hR]; exact sSet_ev (e2_ev rfl (dr_mod (ds := ds) rfl (j := 1) (by omega) rfl (by decide)) (addD_int _ _)))).trans ?_
    refine (sSeq_nx (e := [.val S, .val (.int t), .val (.list (ds.map .int)), .val (.int C), .val (.int R), .val (.int H), .un, .un, .un, .un, .un]) (by rw [hH]; exact sSet_ev (eCall_ev (aCons_ev rfl (aCons_ev (dr_mod (ds := ds) rfl (j := 2) (by omega) rfl (by decide)) aNil_ev)) rfl))).trans ?_
    rw [← hDd]
    refine (sSeq_nx (e := [.val S, .val (.int t), .val Dd, .val (.int C), .val (.int R), .val (.int H), .own [], .un, .un, .un, .un]) (by rfl)).trans ?_
    refine (sSeq_nx (sFor_ev (iR1_ev (N := R) (aCons_ev rfl aNil_ev) (by omega) (by omega)) h1)).trans ?_
    refine (sSeq_nx (e := [.val S, .val (.int t), .val Dd, .val (.int C), .val (.int R), .val (.int H), .own (rs.map rowD), y7, y8, .val (.list cols), .un]) (sSet_ev (eL_ev (fCmp_ev (iR1_ev (N := C) (aCons_ev rfl aNil_ev) (by omega) (by omega)) hcol (by omega))))).trans ?_
    exact sRet_ev (eTup_ev (aCons_ev (eCall_ev (aCons_ev rfl aNil_ev) rfl) (aCons_ev (eTupO_ev rfl) (aCons_ev (eCall_ev (aCons_ev rfl (aCons_ev (e2_ev rfl rfl (addD_int _ _)) (aCons_ev rfl (aCons_ev rfl (aCons_ev rfl aNil_ev))))) hcs) aNil_ev))) (by simp))
  · obtain ⟨q1, q2⟩ := hrs j x hx
    refine ⟨q1, ?_⟩
    rw [q2]
    show decide ((j : Int) < H) = decide (j < H.toNat)
    by_cases z : (j : Int) < H
    · rw [decide_eq_true z, decide_eq_true (by omega)]
    · rw [decide_eq_false z, decide_eq_false (by omega)]
/-! boundbook.tables, boundbook.pages: head_count, breakable_rows, paginate -/
theorem gDef_ev' {np nN : Nat} {fB : En → Out} {ds : List PyData} {d : PyData} (env : En) (h1 : ds.length = np) (h0 : env0 nN ds = env) (h2 : fB env = .rt d) : gDef np nN fB ds = some d := gDef_ev h1 (by rw [h0]; exact h2)
theorem atI_last {α : Type} (f : α → PyData) (xs : List α) (x : α) (h : xs.getLast? = some x) : atI (xs.map f) (-1) = some (f x) := by
  have hl : xs ≠ [] := by intro e; subst e; cases h
  have hn : 0 < xs.length := List.length_pos_iff.mpr hl
  unfold atI ixN
  rw [List.getLast?_eq_getElem?] at h
  simp only [List.length_map]
  rw [if_neg (by omega), if_pos (by omega)]
  show (xs.map f)[((-1 : Int) + (xs.length : Int)).toNat]? = _
  rw [List.getElem?_map, show ((-1 : Int) + (xs.length : Int)).toNat = xs.length - 1 by omega, h]
  rfl
theorem cnt_pre {α : Type} {p : α → Bool} (h : Nat) : ∀ (xs : List α) (k : Nat), (∀ (j : Nat) (x : α), xs[j]? = some x → p x = decide (k + j < h)) → h ≤ k + xs.length → (xs.filter p).length = h - k
  | [], k, _, hb => by
    simp at hb ⊢
    omega
  | x :: xs, k, hx, hb => by
    have h0 := hx 0 x rfl
    have ih := cnt_pre (p := p) h xs (k + 1) (fun j y hy => by
      rw [hx (j + 1) y (by simpa using hy)]
      congr 1
      rw [show k + (j + 1) = k + 1 + j by omega]) (by rw [List.length_cons] at hb; omega)
    rw [List.filter_cons, h0]
    by_cases q : k < h
    · rw [show decide (k + 0 < h) = true from decide_eq_true (by omega), if_pos rfl, List.length_cons, ih]
      omega
    · rw [show decide (k + 0 < h) = false from decide_eq_false (by omega)]
      simp only [Bool.false_eq_true, if_false, ih]
      omega
theorem heads_ev (t : LTab) (ht : TabOk t) : g_head_count [tabD t] = some (.int (t.heads : Nat)) := by
  have hc : compF (gVal 1) t_head_count_1 c_head_count_1 [.val (tabD t), .un] (t.rows.map rowD) = some (((t.rows.map rowD).filter fun d => match d with | .tuple [_, .bool b, _] => b | _ => false).map id) := by
    refine compF_filter fun d hd => ?_
    obtain ⟨x, hx, rfl⟩ := List.mem_map.mp hd
    exact ⟨[.val (tabD t), .val (rowD x)], rfl, rfl, fun _ => rfl⟩
  have hn : (((t.rows.map rowD).filter fun d => match d with | .tuple [_, .bool b, _] => b | _ => false).map id).length = t.heads := by
    rw [List.map_id, List.filter_map, List.length_map]
    have := cnt_pre (p := fun x : LRow => x.2.1) t.heads t.rows 0 (fun j x hx => by rw [(ht.rw_ j x hx).2, Nat.zero_add]) (by have := ht.nh.1; omega)
    exact this
  refine gDef_ev' (fB := f_head_count) [.val (tabD t), .un] rfl rfl ?_
  unfold f_head_count
  refine sRet_ev (eCall_ev (aCons_ev (eL_ev (fCmp_ev (ds := t.rows.map rowD) (by rfl) hc (by rw [hn]; have := ht.nh; omega))) aNil_ev) ?_)
  show some (PyData.int (List.length _ : Nat)) = _
  rw [hn]
abbrev ndD (n : Nat) : PyData := .int (n : Nat)
def covB (x : LCell) (k : Int) : Bool := decide (x.r < k) && decide (k < x.r + x.h)
def keepsB (t : LTab) (b : Nat) : Bool := match t.rows[b - 1]? with
  | some x => x.2.2
  | none => false
def mayB (t : LTab) (b : Nat) : Bool := !keepsB t b && !t.cells.any fun x => covB x b
theorem chI_cov (x : LCell) (k : Int) {f g h : En → Option PyData} {env : En} (h1 : f env = some (.int x.r)) (h2 : g env = some (.int k)) (h3 : h env = some (.int (x.r + x.h))) : chI (fun i j => decide (i < j)) (fun i j => decide (i < j)) f g h env = some (.bool (covB x k)) := by
  unfold chI covB
  rw [h1, h2]
  by_cases q : x.r < k
  · simp only [decide_eq_true q, if_true, h3, Bool.true_and]
  · simp only [decide_eq_false q, Bool.false_eq_true, if_false, Bool.false_and]
theorem covers_ev (x : LCell) (k : Int) : g_covers_both [cellD x, .int k] = some (.bool (covB x k)) := by
  refine gDef_ev' (fB := f_covers_both) [.val (cellD x), .val (.int k)] rfl rfl ?_
  unfold f_covers_both
  exact sRet_ev (chI_cov x k rfl rfl rfl)
theorem any_ev (t : LTab) (ht : TabOk t) (k : Int) (a0 a1 a3 a5 a6 : Sl) : eCall anyA (aCons (eL (fCmp [6] (iSeq (eVar 2)) (gVal 6) tYes' c_breakable_rows_1)) aNil) [a0, a1, .val (.tuple (t.cells.map cellD)), a3, .val (.int k), a5, a6] = some (.bool (t.cells.any fun x => covB x k)) := by
  have h1 := compF_mapS (g := gVal 6) (fe := c_breakable_rows_1) (env := [a0, a1, .val (.tuple (t.cells.map cellD)), a3, .val (.int k), a5, .un]) (c := cellD) (k := fun x => .bool (covB x k)) (xs := t.cells) fun x hx =>
    ⟨[a0, a1, .val (.tuple (t.cells.map cellD)), a3, .val (.int k), a5, .val (cellD x)], rfl, eCall_ev (aCons_ev rfl (aCons_ev rfl aNil_ev)) (covers_ev x k)⟩
  refine eCall_ev (aCons_ev (eL_ev (fCmp_ev (ds := t.cells.map cellD) (by rfl) h1 (by rw [List.length_map]; have := ht.nc; omega))) aNil_ev) ?_
  show (boolsD (t.cells.map fun x => .bool (covB x k))).map _ = _
  rw [show (t.cells.map fun x => PyData.bool (covB x k)) = (t.cells.map fun x => covB x k).map .bool by rw [List.map_map]; rfl, boolsD_map]
  simp [List.any_map]
theorem breaks_ev (t : LTab) (ht : TabOk t) : ∃ E : List Nat, g_breakable_rows [tabD t] = some (.list (E.map ndD)) ∧ E.Pairwise (· < ·) ∧ (∀ x, x ∈ E ↔ (t.heads < x ∧ x < t.rows.length) ∧ mayB t x = true) ∧ E.length ≤ 10 := by
  have hr := iR2_ev (fa := aCons (e2 addD (eCall g_head_count (aCons (eVar 0) aNil)) (eC (.int 1))) (aCons (eCall lenA (aCons (eVar 1) aNil)) aNil)) (env := [.val (tabD t), .val (.tuple (t.rows.map rowD)), .val (.tuple (t.cells.map cellD)), .own [], .un, .un, .un]) (M := (t.heads : Int) + 1) (N := (t.rows.length : Nat))
    (aCons_ev (e2_ev (eCall_ev (aCons_ev rfl aNil_ev) (heads_ev t ht)) rfl (addD_int _ _)) (aCons_ev (eCall_ev (aCons_ev rfl aNil_ev) (by show some (PyData.int (List.length _ : Nat)) = _; rw [List.length_map])) aNil_ev)) (by have := ht.nr; omega) (by omega) (by have := ht.nh; omega) (by omega)
  have hlp := loop_rng (g := gVal 4) (b := b_breakable_rows_1) (lo := (t.heads : Int) + 1) (n := ((t.rows.length : Int) - ((t.heads : Int) + 1)).toNat) (e := [.val (tabD t), .val (.tuple (t.rows.map rowD)), .val (.tuple (t.cells.map cellD)), .own [], .un, .un, .un])
    (fun j e => ∃ (E : List Nat) (y4 y5 : Sl), E.Pairwise (· < ·) ∧ (∀ x, x ∈ E ↔ (t.heads < x ∧ x < t.heads + 1 + j) ∧ mayB t x = true) ∧ E.length ≤ j ∧ e = [.val (tabD t), .val (.tuple (t.rows.map rowD)), .val (.tuple (t.cells.map cellD)), .own (E.map ndD), y4, y5, .un]) (fun j e hj he => by
      obtain ⟨E, y4, y5, h1, h2, h3, rfl⟩ := he
      obtain ⟨k, hk⟩ : ∃ k : Int, k = (t.heads : Int) + 1 + (j : Nat) := ⟨_, rfl⟩
      have hj2 : t.heads + j < t.rows.length := by omega
      have hj4 := ht.nr
      rw [← hk]
      refine ⟨[.val (tabD t), .val (.tuple (t.rows.map rowD)), .val (.tuple (t.cells.map cellD)), .own (E.map ndD), .val (.int k), y5, .un], rfl, ?_⟩
      obtain ⟨x, hx⟩ : ∃ x, t.rows[t.heads + j]? = some x := ⟨_, List.getElem?_eq_getElem hj2⟩
      have hat : atI (t.rows.map rowD) (k - 1) = some (rowD x) := by
        rw [show k - 1 = ((t.heads + j : Nat) : Int) by omega]
        exact atI_map rowD t.rows _ _ hx
      have e1 : sSet 5 (e2 ixG (e2 ixG (eVar 1) (e2 subD (eVar 4) (eC (.int 1)))) (eC (.int 2))) [.val (tabD t), .val (.tuple (t.rows.map rowD)), .val (.tuple (t.cells.map cellD)), .own (E.map ndD), .val (.int k), y5, .un] = .nx [.val (tabD t), .val (.tuple (t.rows.map rowD)), .val (.tuple (t.cells.map cellD)), .own (E.map ndD), .val (.int k), .val (.bool x.2.2), .un] :=
        sSet_ev (e2_ev (e2_ev rfl (e2_ev rfl rfl (subD_int _ _)) hat) rfl rfl)
      have hb := any_ev t ht k (.val (tabD t)) (.val (.tuple (t.rows.map rowD))) (.own (E.map ndD)) (.val (.bool x.2.2)) .un
      have hkb : k = ((t.heads + 1 + j : Nat) : Int) := by omega
      obtain ⟨c, hcm⟩ : ∃ c, c = mayB t (t.heads + 1 + j) := ⟨_, rfl⟩
      have hc : tAnd' (tNot' (tTr (eVar 5))) (tNot' (t1 (eCall anyA (aCons (eL (fCmp [6] (iSeq (eVar 2)) (gVal 6) tYes' c_breakable_rows_1)) aNil)))) [.val (tabD t), .val (.tuple (t.rows.map rowD)), .val (.tuple (t.cells.map cellD)), .own (E.map ndD), .val (.int k), .val (.bool x.2.2), .un] = some c := by
        have k0 : tNot' (tTr (eVar 5)) [.val (tabD t), .val (.tuple (t.rows.map rowD)), .val (.tuple (t.cells.map cellD)), .own (E.map ndD), .val (.int k), .val (.bool x.2.2), .un] = some (!x.2.2) := not_ev (tTr_ev rfl rfl)
        have k1 : keepsB t (t.heads + 1 + j) = x.2.2 := by
          unfold keepsB
          rw [show t.heads + 1 + j - 1 = t.heads + j by omega, hx]
        rw [hcm]
        unfold mayB
        rw [k1, ← hkb]
        cases hz : x.2.2 with
        | true => rw [hz] at k0; exact and_f k0
        | false => rw [hz] at k0 hb; exact and_t k0 (not_ev (t1_ev hb))
      cases c with
      | true =>
        refine ⟨[.val (tabD t), .val (.tuple (t.rows.map rowD)), .val (.tuple (t.cells.map cellD)), .own ((E ++ [t.heads + 1 + j]).map ndD), .val (.int k), .val (.bool x.2.2), .un], .inl ?_, E ++ [t.heads + 1 + j], _, _, ?_, ?_, by simp; omega, rfl⟩
        · unfold b_breakable_rows_1
          refine (sSeq_nx e1).trans ((sIf_t hc).trans ?_)
          rw [List.map_append]
          refine sApp_ev (i := 3) ?_ rfl (by rw [List.length_map]; omega)
          show some (PyData.int k) = some (ndD (t.heads + 1 + j))
          rw [show k = ((t.heads + 1 + j : Nat) : Int) by omega]
        · rw [List.pairwise_append]
          refine ⟨h1, List.pairwise_singleton _ _, fun a ha b hb => ?_⟩
          rw [List.mem_singleton.mp hb]
          exact ((h2 a).mp ha).1.2
        · intro a
          rw [List.mem_append, h2 a, List.mem_singleton]
          constructor
          · rintro (⟨p1, p2⟩ | p)
            · exact ⟨by omega, p2⟩
            · rw [p]; exact ⟨by omega, hcm.symm⟩
          · rintro ⟨p1, p2⟩
            by_cases q : a = t.heads + 1 + j
            · exact .inr q
            · exact .inl ⟨by omega, p2⟩
      | false =>
        refine ⟨[.val (tabD t), .val (.tuple (t.rows.map rowD)), .val (.tuple (t.cells.map cellD)), .own (E.map ndD), .val (.int k), .val (.bool x.2.2), .un], .inl ?_, E, _, _, h1, fun a => ?_, by omega, rfl⟩
        · unfold b_breakable_rows_1
          exact (sSeq_nx e1).trans ((sIf_f hc).trans rfl)
        · rw [h2 a]
          constructor
          · rintro ⟨p1, p2⟩
            exact ⟨by omega, p2⟩
          · rintro ⟨p1, p2⟩
            by_cases q : a = t.heads + 1 + j
            · rw [q, ← hcm] at p2; cases p2
            · exact ⟨by omega, p2⟩) ⟨[], .un, .un, List.Pairwise.nil, (fun x => by simp; omega), Nat.le_refl _, rfl⟩
  obtain ⟨e', h1, E, y4, y5, q1, q2, q3, rfl⟩ := hlp
  have hj4 := ht.nr
  refine ⟨E, ?_, q1, fun x => ?_, by omega⟩
  · refine gDef_ev' (fB := f_breakable_rows) [.val (tabD t), .un, .un, .un, .un, .un, .un] rfl rfl ?_
    unfold f_breakable_rows
    refine (sSeq_nx (e := [.val (tabD t), .val (.tuple (t.rows.map rowD)), .val (.tuple (t.cells.map cellD)), .un, .un, .un, .un]) (by rfl)).trans ?_
    refine (sSeq_nx (e := [.val (tabD t), .val (.tuple (t.rows.map rowD)), .val (.tuple (t.cells.map cellD)), .own [], .un, .un, .un]) (by rfl)).trans ?_
    exact (sSeq_nx (sFor_ev hr h1)).trans rfl
  · rw [q2 x]
    constructor
    · rintro ⟨p1, p2⟩
      exact ⟨by omega, p2⟩
    · rintro ⟨p1, p2⟩
      exact ⟨by omega, p2⟩
/-- the greedy pages -/
def gr (fit : Nat → Nat → Bool) (E : List Nat) (c : Nat) : Nat → Nat → Option (List (Nat × Nat))
  | 0, _ => some []
  | n + 1, f => if f < c then (match (E.filter fun b => decide (f < b) && fit f b).getLast? with
    | none => none
    | some b => (gr fit E c n b).map ((f, b) :: ·)) else some []
abbrev prN (p : Nat × Nat) : PyData := .tuple [.int (p.1 : Nat), .int (p.2 : Nat)]
def fitL (L : List Int) (h : Nat) (H : Int) (f b : Nat) : Bool := decide (L.getD h 0 + L.getD b 0 - L.getD f 0 + 1 ≤ H)
theorem getL (L : List Int) (j : Nat) (h : j < L.length) : atI (L.map PyData.int) (j : Nat) = some (.int (L.getD j 0)) := atI_map _ _ _ _ (by simp [List.getD, h])
theorem hop_ev (L : List Int) (h f b : Nat) (h1 : h < L.length) (h2 : f < L.length) (h3 : b < L.length) : g_height_of_page [.tuple (L.map .int), .int (h : Nat), .int (f : Nat), .int (b : Nat)] = some (.int (L.getD h 0 + L.getD b 0 - L.getD f 0 + 1)) := by
  refine gDef_ev' (fB := f_height_of_page) [.val (.tuple (L.map .int)), .val (.int (h : Nat)), .val (.int (f : Nat)), .val (.int (b : Nat))] rfl rfl ?_
  unfold f_height_of_page
  exact sRet_ev (e2_ev (e2_ev (e2_ev (e2_ev rfl rfl (getL L h h1)) (e2_ev rfl rfl (getL L b h3)) (addD_int _ _)) (e2_ev rfl rfl (getL L f h2)) (subD_int _ _)) rfl (addD_int _ _))
theorem pag_loop (T : PyData) (L : List Int) (H : Int) (h c : Nat) (a5 : Sl) (E : List Nat) (hE : ∀ b ∈ E, b ≤ c) (hL : c < L.length) (hh : h < L.length) (hc : c ≤ 1000) (hEl : E.length ≤ 1000) : ∀ (n f : Nat) (P : List (Nat × Nat)) (y9 : Sl), f ≤ c → c < f + n → P.length + n ≤ 1000 →
    (match gr (fitL L h H) E c n f with
    | none => whlF w_paginate_1 b_paginate_1 n [.val T, .val (.tuple (L.map .int)), .val (.int H), .val (.int (h : Nat)), .val (.int (c : Nat)), a5, .val (.list (E.map ndD)), .own (P.map prN), .val (.int (f : Nat)), y9, .un] = .rt .none
    | some Q => ∃ z8 z9 : Sl, whlF w_paginate_1 b_paginate_1 n [.val T, .val (.tuple (L.map .int)), .val (.int H), .val (.int (h : Nat)), .val (.int (c : Nat)), a5, .val (.list (E.map ndD)), .own (P.map prN), .val (.int (f : Nat)), y9, .un] = .nx [.val T, .val (.tuple (L.map .int)), .val (.int H), .val (.int (h : Nat)), .val (.int (c : Nat)), a5, .val (.list (E.map ndD)), .own ((P ++ Q).map prN), z8, z9, .un])
  | 0, f, P, y9, h1, h2, h3 => by omega
  | n + 1, f, P, y9, h1, h2, h3 => by
    have hw : w_paginate_1 [.val T, .val (.tuple (L.map .int)), .val (.int H), .val (.int (h : Nat)), .val (.int (c : Nat)), a5, .val (.list (E.map ndD)), .own (P.map prN), .val (.int (f : Nat)), y9, .un] = some (decide (f < c)) := by
      refine t1_ev (e2_ev rfl rfl ((ltD_int _ _).trans ?_))
      congr 2
      exact decide_eq_decide.mpr (by omega)
    by_cases q : f < c
    · rw [decide_eq_true q] at hw
      obtain ⟨F, hF⟩ : ∃ F : List Nat, F = E.filter fun b => decide (f < b) && fitL L h H f b := ⟨_, rfl⟩
      have hcmp : fCmp [10] (iSeq (eVar 6)) (gVal 10) t_paginate_1 c_paginate_1 [.val T, .val (.tuple (L.map .int)), .val (.int H), .val (.int (h : Nat)), .val (.int (c : Nat)), a5, .val (.list (E.map ndD)), .own (P.map prN), .val (.int (f : Nat)), y9, .un] = some (F.map ndD) := by
        refine fCmp_ev (ds := E.map ndD) (by rfl) ?_ (by rw [List.length_map, hF]; exact Nat.le_trans (List.length_filter_le _ _) (by omega))
        have aux : ∀ G : List Nat, (∀ b ∈ G, b ≤ c) → compF (gVal 10) t_paginate_1 c_paginate_1 (wipeE [.val T, .val (.tuple (L.map .int)), .val (.int H), .val (.int (h : Nat)), .val (.int (c : Nat)), a5, .val (.list (E.map ndD)), .own (P.map prN), .val (.int (f : Nat)), y9, .un] [10]) (G.map ndD) = some ((G.filter fun b => decide (f < b) && fitL L h H f b).map ndD) := by
          intro G
          induction G with
          | nil => intro _; rfl
          | cons b G ih =>
            intro hG
            have ih := ih fun x hx => hG x (List.mem_cons_of_mem _ hx)
            have hb := hG b List.mem_cons_self
            have ht : t_paginate_1 [.val T, .val (.tuple (L.map .int)), .val (.int H), .val (.int (h : Nat)), .val (.int (c : Nat)), a5, .val (.list (E.map ndD)), .own (P.map prN), .val (.int (f : Nat)), y9, .val (ndD b)] = some (decide (f < b) && fitL L h H f b) := by
              have g1 : t1 (e2 gtD (eVar 10) (eVar 8)) [.val T, .val (.tuple (L.map .int)), .val (.int H), .val (.int (h : Nat)), .val (.int (c : Nat)), a5, .val (.list (E.map ndD)), .own (P.map prN), .val (.int (f : Nat)), y9, .val (ndD b)] = some (decide (f < b)) := by
                refine t1_ev (e2_ev rfl rfl ((gtD_int _ _).trans ?_))
                congr 2
                exact decide_eq_decide.mpr (by omega)
              unfold t_paginate_1
              by_cases z : f < b
              · rw [decide_eq_true z] at g1 ⊢
                exact and_t g1 (t1_ev (e2_ev (eCall_ev (aCons_ev rfl (aCons_ev rfl (aCons_ev rfl (aCons_ev rfl aNil_ev)))) (hop_ev L h f b hh (by omega) (by omega))) rfl (leD_int _ _)))
              · rw [decide_eq_false z] at g1 ⊢
                exact and_f g1
            show compF _ _ _ [.val T, .val (.tuple (L.map .int)), .val (.int H), .val (.int (h : Nat)), .val (.int (c : Nat)), a5, .val (.list (E.map ndD)), .own (P.map prN), .val (.int (f : Nat)), y9, .un] (ndD b :: G.map ndD) = _
            simp only [compF, gVal, List.set_cons_succ, List.set_cons_zero, ht]
            rw [List.filter_cons]
            cases hz : (decide (f < b) && fitL L h H f b) with
            | true =>
              simp only [c_paginate_1, eVar, List.getElem?_cons_succ, List.getElem?_cons_zero, if_true]
              rw [show compF (gVal 10) t_paginate_1 (eVar 10) [.val T, .val (.tuple (L.map .int)), .val (.int H), .val (.int (h : Nat)), .val (.int (c : Nat)), a5, .val (.list (E.map ndD)), .own (P.map prN), .val (.int (f : Nat)), y9, .un] (G.map ndD) = _ from ih]
              rfl
            | false => exact ih
        rw [hF]
        exact aux E hE
      have s1 : sSet 9 (eL (fCmp [10] (iSeq (eVar 6)) (gVal 10) t_paginate_1 c_paginate_1)) [.val T, .val (.tuple (L.map .int)), .val (.int H), .val (.int (h : Nat)), .val (.int (c : Nat)), a5, .val (.list (E.map ndD)), .own (P.map prN), .val (.int (f : Nat)), y9, .un] = .nx [.val T, .val (.tuple (L.map .int)), .val (.int H), .val (.int (h : Nat)), .val (.int (c : Nat)), a5, .val (.list (E.map ndD)), .own (P.map prN), .val (.int (f : Nat)), .val (.list (F.map ndD)), .un] := sSet_ev (eL_ev hcmp)
      unfold gr
      rw [if_pos q, ← hF]
      cases hl : F.getLast? with
      | none =>
        have hF0 : F = [] := List.getLast?_eq_none_iff.mp hl
        have hb : b_paginate_1 [.val T, .val (.tuple (L.map .int)), .val (.int H), .val (.int (h : Nat)), .val (.int (c : Nat)), a5, .val (.list (E.map ndD)), .own (P.map prN), .val (.int (f : Nat)), y9, .un] = .rt .none := by
          unfold b_paginate_1
          rw [sSeq_nx s1, hF0]
          refine sSeq_rt ((sIf_t (by rfl)).trans rfl)
        simp only [whlF, hw, hb]
      | some b =>
        have hbF : b ∈ F := List.mem_of_getLast? hl
        have hb1 : b ∈ E ∧ f < b := by
          rw [hF] at hbF
          have := List.mem_filter.mp hbF
          simp at this
          exact ⟨this.1, this.2.1⟩
        have hbc := hE b hb1.1
        have hat : ∀ y7 y8 : Sl, e2 ixG (eVar 9) (e1 negD (eC (.int 1))) [.val T, .val (.tuple (L.map .int)), .val (.int H), .val (.int (h : Nat)), .val (.int (c : Nat)), a5, .val (.list (E.map ndD)), y7, y8, .val (.list (F.map ndD)), .un] = some (.int (b : Nat)) := fun y7 y8 => e2_ev rfl rfl (atI_last ndD F b hl)
        have hb : b_paginate_1 [.val T, .val (.tuple (L.map .int)), .val (.int H), .val (.int (h : Nat)), .val (.int (c : Nat)), a5, .val (.list (E.map ndD)), .own (P.map prN), .val (.int (f : Nat)), y9, .un] = .nx [.val T, .val (.tuple (L.map .int)), .val (.int H), .val (.int (h : Nat)), .val (.int (c : Nat)), a5, .val (.list (E.map ndD)), .own ((P ++ [(f, b)]).map prN), .val (.int (b : Nat)), .val (.list (F.map ndD)), .un] := by
          unfold b_paginate_1
          rw [sSeq_nx s1]
          have hcond : tNot' (tTr (eVar 9)) [.val T, .val (.tuple (L.map .int)), .val (.int H), .val (.int (h : Nat)), .val (.int (c : Nat)), a5, .val (.list (E.map ndD)), .own (P.map prN), .val (.int (f : Nat)), .val (.list (F.map ndD)), .un] = some false := by
            cases hz : F with
            | nil => rw [hz] at hl; cases hl
            | cons x F' => exact not_ev (b := true) (tTr_ev rfl rfl)
          refine (sSeq_nx ((sIf_f hcond).trans rfl)).trans ?_
          refine (sSeq_nx (e := [.val T, .val (.tuple (L.map .int)), .val (.int H), .val (.int (h : Nat)), .val (.int (c : Nat)), a5, .val (.list (E.map ndD)), .own ((P ++ [(f, b)]).map prN), .val (.int (f : Nat)), .val (.list (F.map ndD)), .un]) ?_).trans ?_
          · rw [List.map_append]
            exact sApp_ev (i := 7) (eTup_ev (aCons_ev rfl (aCons_ev (hat _ _) aNil_ev)) (by simp)) rfl (by rw [List.length_map]; omega)
          · exact sSet_ev (hat _ _)
        have ih := pag_loop T L H h c a5 E hE hL hh hc hEl n b (P ++ [(f, b)]) (.val (.list (F.map ndD))) hbc (by omega) (by simp; omega)
        cases hg : gr (fitL L h H) E c n b with
        | none =>
          rw [hg] at ih
          simp only [whlF, hw, hb, hg, Option.map_none]
          exact ih
        | some Q =>
          rw [hg] at ih
          obtain ⟨z8, z9, ih⟩ := ih
          simp only [whlF, hw, hb, hg, Option.map_some]
          refine ⟨z8, z9, ?_⟩
          rw [ih, List.append_assoc]
          rfl
    · rw [decide_eq_false q] at hw
      unfold gr
      rw [if_neg q]
      refine ⟨.val (.int (f : Nat)), y9, ?_⟩
      · simp only [whlF, hw]
        rw [List.append_nil]
theorem paginate_ev (t : LTab) (ht : TabOk t) (L : List Int) (H : Int) (hL : L.length = t.rows.length + 1) (E : List Nat) (hE : g_breakable_rows [tabD t] = some (.list (E.map ndD))) (hE2 : ∀ x ∈ E, t.heads < x ∧ x < t.rows.length) (hE3 : E.length ≤ 10) :
    g_paginate [tabD t, .tuple (L.map .int), .int H] = some (match (if t.heads = t.rows.length then (if fitL L t.heads H t.heads t.heads = true then some [(t.heads, t.heads)] else none) else gr (fitL L t.heads H) (E ++ [t.rows.length]) t.rows.length 100 t.heads) with
      | none => .none
      | some P => .list (P.map prN)) := by
  have hr := ht.nr
  have hh := ht.nh
  obtain ⟨h, e_h⟩ : ∃ h : Nat, h = t.heads := ⟨_, rfl⟩
  obtain ⟨c, e_c⟩ : ∃ c : Nat, c = t.rows.length := ⟨_, rfl⟩
  have hhe := heads_ev t ht
  obtain ⟨T, hT⟩ : ∃ T : PyData, T = tabD t := ⟨_, rfl⟩
  have hlen : eCall lenA (aCons (e2 ixG (eVar 0) (eC (.int 1))) aNil) [.val T, .val (.tuple (L.map .int)), .val (.int H), .val (.int (h : Nat)), .un, .un, .un, .un, .un, .un, .un] = some (.int (c : Nat)) := by
    rw [hT]
    refine eCall_ev (aCons_ev rfl aNil_ev) ?_
    show some (PyData.int (List.length _ : Nat)) = _
    rw [List.length_map, e_c]
  rw [← e_h] at hhe hE2 hh ⊢
  rw [← e_c] at hE2 hh hr hL ⊢
  rw [← hT] at hhe hE ⊢
  refine gDef_ev' (fB := f_paginate) [.val T, .val (.tuple (L.map .int)), .val (.int H), .un, .un, .un, .un, .un, .un, .un, .un] rfl rfl ?_
  unfold f_paginate
  refine (sSeq_nx (e := [.val T, .val (.tuple (L.map .int)), .val (.int H), .val (.int (h : Nat)), .un, .un, .un, .un, .un, .un, .un]) (sSet_ev (eCall_ev (aCons_ev rfl aNil_ev) hhe))).trans ?_
  refine (sSeq_nx (e := [.val T, .val (.tuple (L.map .int)), .val (.int H), .val (.int (h : Nat)), .val (.int (c : Nat)), .un, .un, .un, .un, .un, .un]) (sSet_ev hlen)).trans ?_
  have hcond : t1 (e2 eqD (eVar 3) (eVar 4)) [.val T, .val (.tuple (L.map .int)), .val (.int H), .val (.int (h : Nat)), .val (.int (c : Nat)), .un, .un, .un, .un, .un, .un] = some (decide (h = c)) := by
    refine t1_ev (e2_ev rfl rfl ((eqD_int _ _).trans ?_))
    congr 2
    exact decide_eq_decide.mpr (by omega)
  by_cases q : h = c
  · rw [decide_eq_true q] at hcond
    rw [if_pos q]
    refine sSeq_rt ((sIf_t hcond).trans ?_)
    refine (sSeq_nx (e := [.val T, .val (.tuple (L.map .int)), .val (.int H), .val (.int (h : Nat)), .val (.int (c : Nat)), .val (.bool (fitL L h H h h)), .un, .un, .un, .un, .un]) (sSet_ev (e2_ev (eCall_ev (aCons_ev rfl (aCons_ev rfl (aCons_ev rfl (aCons_ev rfl aNil_ev)))) (hop_ev L h h h (by omega) (by omega) (by omega))) rfl (leD_int _ _)))).trans ?_
    cases hz : fitL L h H h h with
    | true => exact sRet_ev (eIf_t (by rfl) (by rfl))
    | false => exact sRet_ev (eIf_f (by rfl) (by rfl))
  · rw [decide_eq_false q] at hcond
    rw [if_neg q]
    refine (sSeq_nx ((sIf_f hcond).trans rfl)).trans ?_
    have hEm : (E ++ [c]).map ndD = E.map ndD ++ [.int (c : Nat)] := by rw [List.map_append]; rfl
    refine (sSeq_nx (e := [.val T, .val (.tuple (L.map .int)), .val (.int H), .val (.int (h : Nat)), .val (.int (c : Nat)), .un, .val (.list ((E ++ [c]).map ndD)), .un, .un, .un, .un]) (sSet_ev (eL_ev ?_))).trans ?_
    · unfold fCat
      rw [eCall_ev (aCons_ev rfl aNil_ev) hE]
      rw [hEm]
      show (if (E.map ndD).length + 1 ≤ 1000000 then _ else _) = _
      rw [if_pos (by rw [List.length_map]; omega)]
    refine (sSeq_nx (e := [.val T, .val (.tuple (L.map .int)), .val (.int H), .val (.int (h : Nat)), .val (.int (c : Nat)), .un, .val (.list ((E ++ [c]).map ndD)), .own [], .un, .un, .un]) (by rfl)).trans ?_
    refine (sSeq_nx (e := [.val T, .val (.tuple (L.map .int)), .val (.int H), .val (.int (h : Nat)), .val (.int (c : Nat)), .un, .val (.list ((E ++ [c]).map ndD)), .own [], .val (.int (h : Nat)), .un, .un]) (by rfl)).trans ?_
    have hlp := pag_loop T L H h c .un (E ++ [c]) (fun b hb => by
      rcases List.mem_append.mp hb with hb | hb
      · have := hE2 b hb; omega
      · rw [List.mem_singleton.mp hb]; exact Nat.le_refl _) (by omega) (by omega) (by omega) (by simp; omega) 100 h [] .un (by omega) (by omega) (by simp)
    cases hg : gr (fitL L h H) (E ++ [c]) c 100 h with
    | none =>
      rw [hg] at hlp
      exact sSeq_rt hlp
    | some Q =>
      rw [hg] at hlp
      obtain ⟨z8, z9, hlp⟩ := hlp
      exact (sSeq_nx hlp).trans rfl
/-! all divisions -/
def Div (fit : Nat → Nat → Bool) (may : Nat → Bool) (c : Nat) : Nat → List (Nat × Nat) → Prop
  | f, [] => f = c
  | f, p :: D => p.1 = f ∧ f < p.2 ∧ p.2 ≤ c ∧ fit f p.2 = true ∧ may p.2 = true ∧ Div fit may c p.2 D
theorem Div.le {fit : Nat → Nat → Bool} {may : Nat → Bool} {c : Nat} : ∀ {D : List (Nat × Nat)} {f : Nat}, Div fit may c f D → f ≤ c ∧ D.length ≤ c - f
  | [], f, h => by
    have h : f = c := h
    simp
    omega
  | p :: D, f, h => by
    obtain ⟨h1, h2, h3, h4, h5, h6⟩ := h
    have := h6.le
    rw [List.length_cons]
    omega
theorem gr_div {fit : Nat → Nat → Bool} {may : Nat → Bool} {E : List Nat} {c : Nat} (hE : ∀ b ∈ E, b ≤ c ∧ may b = true) : ∀ (n f : Nat) (P : List (Nat × Nat)), f ≤ c → c < f + n → gr fit E c n f = some P → Div fit may c f P
  | 0, f, P, h1, h2, h => by omega
  | n + 1, f, P, h1, h2, h => by
    unfold gr at h
    by_cases q : f < c
    · rw [if_pos q] at h
      cases hl : (E.filter fun b => decide (f < b) && fit f b).getLast? with
      | none => rw [hl] at h; cases h
      | some b =>
        rw [hl] at h
        have hb := List.mem_filter.mp (List.mem_of_getLast? hl)
        simp at hb
        obtain ⟨m1, m2, m3⟩ := hb
        obtain ⟨m4, m5⟩ := hE b m1
        dsimp only at h
        cases hg : gr fit E c n b with
        | none => rw [hg] at h; cases h
        | some P' =>
          rw [hg] at h
          cases h
          exact ⟨rfl, m2, m4, m3, m5, gr_div hE n b P' m4 (by omega) hg⟩
    · rw [if_neg q] at h
      cases h
      show f = c
      omega
theorem div_next {fit : Nat → Nat → Bool} {may : Nat → Bool} {E : List Nat} {c : Nat} (hE : ∀ b, b ≤ c → may b = true → ∀ f1 f2, f1 ≤ f2 → f2 < b → fit f1 b = true → fit f2 b = true) : ∀ (D : List (Nat × Nat)) (f1 f2 : Nat), Div fit may c f1 D → f1 ≤ f2 → f2 < c → ∃ b, f2 < b ∧ b ≤ c ∧ may b = true ∧ fit f2 b = true
  | [], f1, f2, h, h1, h2 => by
    have h : f1 = c := h
    omega
  | p :: D, f1, f2, h, h1, h2 => by
    obtain ⟨q1, q2, q3, q4, q5, q6⟩ := h
    by_cases z : f2 < p.2
    · exact ⟨p.2, z, q3, q5, hE p.2 q3 q5 f1 f2 h1 z q4⟩
    · exact div_next (E := E) hE D p.2 f2 q6 (by omega) h2
theorem last_ge : ∀ (l : List Nat), l.Pairwise (· < ·) → ∀ x ∈ l, ∃ y, l.getLast? = some y ∧ x ≤ y
  | [], _, x, h => by cases h
  | [a], _, x, h => ⟨a, rfl, by rw [List.mem_singleton.mp h]; exact Nat.le_refl _⟩
  | a :: b :: l, hp, x, h => by
    obtain ⟨h1, h2⟩ := List.pairwise_cons.mp hp
    rw [List.getLast?_cons_cons]
    rcases List.mem_cons.mp h with e | h
    · obtain ⟨y, q1, q2⟩ := last_ge (b :: l) h2 b List.mem_cons_self
      refine ⟨y, q1, ?_⟩
      have := h1 b List.mem_cons_self
      omega
    · exact last_ge (b :: l) h2 x h
theorem gr_dom {fit : Nat → Nat → Bool} {may : Nat → Bool} {E : List Nat} {c h : Nat} (hp : E.Pairwise (· < ·)) (hE : ∀ b, b ∈ E ↔ h < b ∧ b ≤ c ∧ may b = true)
    (hf : ∀ b, b ≤ c → may b = true → ∀ f1 f2, f1 ≤ f2 → f2 < b → fit f1 b = true → fit f2 b = true) : ∀ (n f1 f2 : Nat) (D : List (Nat × Nat)), h ≤ f1 → f1 ≤ f2 → f2 ≤ c → c < f2 + n → Div fit may c f1 D →
      ∃ P, gr fit E c n f2 = some P ∧ P.length ≤ D.length ∧ ∀ (k : Nat) (x y : Nat × Nat), D[k]? = some x → P[k]? = some y → x.2 ≤ y.2
  | 0, f1, f2, D, h0, h1, h2, h3, hD => by omega
  | n + 1, f1, f2, D, h0, h1, h2, h3, hD => by
    by_cases q : f2 < c
    · obtain ⟨b0, n1, n2, n3, n4⟩ := div_next (E := E) hf D f1 f2 hD h1 q
      have hm0 : b0 ∈ E.filter fun b => decide (f2 < b) && fit f2 b := List.mem_filter.mpr ⟨(hE b0).mpr ⟨by omega, n2, n3⟩, by rw [decide_eq_true n1, n4]; rfl⟩
      obtain ⟨b2, s1, s2⟩ := last_ge _ (hp.filter _) b0 hm0
      have s3 := List.mem_filter.mp (List.mem_of_getLast? s1)
      simp at s3
      obtain ⟨t1, t2, t3⟩ := s3
      have t4 := (hE b2).mp t1
      cases D with
      | nil =>
        have hD : f1 = c := hD
        omega
      | cons p D =>
        obtain ⟨q1, q2, q3, q4, q5, q6⟩ := hD
        have hle : p.2 ≤ b2 := by
          by_cases z : f2 < p.2
          · have hm : p.2 ∈ E.filter fun b => decide (f2 < b) && fit f2 b := List.mem_filter.mpr ⟨(hE p.2).mpr ⟨by omega, q3, q5⟩, by rw [decide_eq_true z, hf p.2 q3 q5 f1 f2 h1 z q4]; rfl⟩
            obtain ⟨b3, u1, u2⟩ := last_ge _ (hp.filter _) p.2 hm
            rw [s1] at u1
            cases u1
            exact u2
          · omega
        obtain ⟨P, r1, r2, r3⟩ := gr_dom hp hE hf n p.2 b2 D (by omega) hle t4.2.1 (by omega) q6
        refine ⟨(f2, b2) :: P, ?_, by simp [r2], fun k x y hx hy => ?_⟩
        · unfold gr
          rw [if_pos q, s1]
          dsimp only
          rw [r1]
          rfl
        · cases k with
          | zero =>
            cases hx
            cases hy
            exact hle
          | succ k => exact r3 k x y (by simpa using hx) (by simpa using hy)
    · refine ⟨[], ?_, Nat.zero_le _, fun k x y hx hy => by simp at hy⟩
      unfold gr
      rw [if_neg q]
/-! the law's own divisions -/
def mayE (t : LTab) (b : Nat) : Bool := if b = t.rows.length then true else mayB t b
theorem may_ev (t : LTab) (ht : TabOk t) (b : Nat) (h1 : t.heads < b) (h2 : b ≤ t.rows.length) : g_Lmay_end [tabD t, .int (t.heads : Nat), .int (b : Nat)] = some (.bool (mayE t b)) := by
  refine gDef_ev' (fB := f_Lmay_end) [.val (tabD t), .val (.int (t.heads : Nat)), .val (.int (b : Nat)), .un] rfl rfl ?_
  unfold f_Lmay_end
  have hlen : eCall lenA (aCons (e2 ixG (eVar 0) (eC (.int 1))) aNil) [.val (tabD t), .val (.int (t.heads : Nat)), .val (.int (b : Nat)), .un] = some (.int (t.rows.length : Nat)) := by
    refine eCall_ev (aCons_ev rfl aNil_ev) ?_
    show some (PyData.int (List.length _ : Nat)) = _
    rw [List.length_map]
  have hc : t1 (e2 eqD (eVar 2) (eCall lenA (aCons (e2 ixG (eVar 0) (eC (.int 1))) aNil))) [.val (tabD t), .val (.int (t.heads : Nat)), .val (.int (b : Nat)), .un] = some (decide (b = t.rows.length)) := by
    refine t1_ev (e2_ev rfl hlen ((eqD_int _ _).trans ?_))
    congr 2
    exact decide_eq_decide.mpr (by omega)
  unfold mayE
  by_cases q : b = t.rows.length
  · rw [if_pos q]
    rw [decide_eq_true q] at hc
    exact sSeq_rt ((sIf_t hc).trans rfl)
  · rw [if_neg q]
    rw [decide_eq_false q] at hc
    refine (sSeq_nx ((sIf_f hc).trans rfl)).trans ?_
    have hb : b - 1 < t.rows.length := by omega
    obtain ⟨x, hx⟩ : ∃ x, t.rows[b - 1]? = some x := ⟨_, List.getElem?_eq_getElem hb⟩
    have hk : keepsB t b = x.2.2 := by unfold keepsB; rw [hx]
    have hat : atI (t.rows.map rowD) ((b : Nat) - 1) = some (rowD x) := by
      rw [show ((b : Nat) : Int) - 1 = ((b - 1 : Nat) : Int) by omega]
      exact atI_map rowD t.rows _ _ hx
    have hle : t1 (e2 leD (eVar 2) (eVar 1)) [.val (tabD t), .val (.int (t.heads : Nat)), .val (.int (b : Nat)), .un] = some false := by
      refine t1_ev (e2_ev rfl rfl ((leD_int _ _).trans ?_))
      rw [decide_eq_false (by omega)]
    have hor : tOr' (t1 (e2 leD (eVar 2) (eVar 1))) (tTr (e2 ixG (e2 ixG (e2 ixG (eVar 0) (eC (.int 1))) (e2 subD (eVar 2) (eC (.int 1)))) (eC (.int 2)))) [.val (tabD t), .val (.int (t.heads : Nat)), .val (.int (b : Nat)), .un] = some x.2.2 :=
      or_f hle (tTr_ev (e2_ev (e2_ev (e2_ev rfl rfl rfl) (e2_ev rfl rfl (subD_int _ _)) hat) rfl rfl) rfl)
    unfold mayB
    rw [hk]
    cases hz : x.2.2 with
    | true =>
      rw [hz] at hor
      exact sSeq_rt ((sIf_t hor).trans rfl)
    | false =>
      rw [hz] at hor
      refine (sSeq_nx ((sIf_f hor).trans rfl)).trans ?_
      rw [Bool.not_false, Bool.true_and]
      obtain ⟨z, hzb⟩ : ∃ z : Int, z = (b : Nat) := ⟨_, rfl⟩
      rw [← hzb]
      have key : ∀ (cs : List LCell) (y : Sl), (if (cs.any fun x => covB x z) = true then loopF (gVal 3) b_Lmay_end_1 (cs.map cellD) [.val (tabD t), .val (.int (t.heads : Nat)), .val (.int z), y] = .rt (.bool false) else ∃ y', loopF (gVal 3) b_Lmay_end_1 (cs.map cellD) [.val (tabD t), .val (.int (t.heads : Nat)), .val (.int z), y] = .nx [.val (tabD t), .val (.int (t.heads : Nat)), .val (.int z), y']) := by
        intro cs
        induction cs with
        | nil => exact fun y => ⟨y, rfl⟩
        | cons x cs ih =>
          intro y
          have hcv := t1_ev (chI_cov x z (f := e2 ixG (eVar 3) (eC (.int 0))) (g := eVar 2) (h := e2 addD (e2 ixG (eVar 3) (eC (.int 0))) (e2 ixG (eVar 3) (eC (.int 2)))) (env := [.val (tabD t), .val (.int (t.heads : Nat)), .val (.int z), .val (cellD x)]) rfl rfl rfl)
          cases hz : covB x z with
          | true =>
            rw [hz] at hcv
            have hb : b_Lmay_end_1 [.val (tabD t), .val (.int (t.heads : Nat)), .val (.int z), .val (cellD x)] = .rt (.bool false) := by
              unfold b_Lmay_end_1
              exact (sIf_t hcv).trans rfl
            rw [List.any_cons, hz, Bool.true_or, if_pos rfl, List.map_cons]
            simp only [loopF, gVal, List.set_cons_succ, List.set_cons_zero, hb]
          | false =>
            rw [hz] at hcv
            have hb : b_Lmay_end_1 [.val (tabD t), .val (.int (t.heads : Nat)), .val (.int z), .val (cellD x)] = .nx [.val (tabD t), .val (.int (t.heads : Nat)), .val (.int z), .val (cellD x)] := by
              unfold b_Lmay_end_1
              exact (sIf_f hcv).trans rfl
            have := ih (.val (cellD x))
            rw [List.any_cons, hz, Bool.false_or, List.map_cons]
            simp only [loopF, gVal, List.set_cons_succ, List.set_cons_zero, hb]
            exact this
      have key := key t.cells .un
      cases hz2 : (t.cells.any fun x => covB x z) with
      | true =>
        rw [hz2, if_pos rfl] at key
        exact sSeq_rt (sFor_ev (ds := t.cells.map cellD) (by rfl) key)
      | false =>
        rw [hz2] at key
        obtain ⟨y', key⟩ := key
        exact (sSeq_nx (sFor_ev (ds := t.cells.map cellD) (by rfl) key)).trans rfl
abbrev prsD (D : List (Nat × Nat)) : PyData := .list (D.map prN)
theorem div_ev (t : LTab) (ht : TabOk t) (L : List Int) (H : Int) (hL : L.length = t.rows.length + 1) : ∀ (n f : Nat), n ≤ 6 → t.heads ≤ f → f ≤ t.rows.length → t.rows.length < f + n →
    ∃ Ds : List (List (Nat × Nat)), gN_Ldivisions n [tabD t, .list (L.map .int), .int H, .int (t.heads : Nat), .int (f : Nat)] = some (.list (Ds.map prsD)) ∧ Ds.length ≤ 5 ^ n ∧ ∀ D, D ∈ Ds ↔ Div (fitL L t.heads H) (mayE t) t.rows.length f D
  | 0, f, h0, h1, h2, h3 => by omega
  | n + 1, f, h0, h1, h2, h3 => by
    have hr := ht.nr
    have hh := ht.nh
    obtain ⟨rc, hrc⟩ : ∃ rc, rc = gN_Ldivisions n := ⟨_, rfl⟩
    obtain ⟨h, e_h⟩ : ∃ h : Nat, h = t.heads := ⟨_, rfl⟩
    obtain ⟨c, e_c⟩ : ∃ c : Nat, c = t.rows.length := ⟨_, rfl⟩
    obtain ⟨T, hT⟩ : ∃ T : PyData, T = tabD t := ⟨_, rfl⟩
    obtain ⟨Ld, hLd⟩ : ∃ Ld : PyData, Ld = .list (L.map .int) := ⟨_, rfl⟩
    have hlen : ∀ a5 a6 a7 a8 : Sl, eCall lenA (aCons (e2 ixG (eVar 0) (eC (.int 1))) aNil) [.val T, .val Ld, .val (.int H), .val (.int (h : Nat)), .val (.int (f : Nat)), a5, a6, a7, a8] = some (.int (c : Nat)) := fun a5 a6 a7 a8 => by
      rw [hT]
      refine eCall_ev (aCons_ev rfl aNil_ev) ?_
      show some (PyData.int (List.length _ : Nat)) = _
      rw [List.length_map, e_c]
    have ih := fun f => div_ev t ht L H hL n f
    have hmay := may_ev t ht
    rw [← hrc] at ih
    rw [← e_h] at ih hmay h1 hh ⊢
    rw [← e_c] at ih hmay h2 h3 hL hr hh ⊢
    rw [← hT] at ih hmay ⊢
    rw [← hLd] at ih ⊢
    obtain ⟨M, hM⟩ : ∃ M : Nat, M = 5 ^ n := ⟨_, rfl⟩
    have hM0 : M ≤ 3125 := by
      rw [hM]
      calc 5 ^ n ≤ 5 ^ 5 := Nat.pow_le_pow_right (by decide) (by omega)
        _ = 3125 := rfl
    have hM1 : 1 ≤ M := by rw [hM]; exact Nat.pos_of_ne_zero (by simp)
    rw [← hM] at ih
    have hpw : 5 ^ (n + 1) = 5 * M := by rw [hM, Nat.pow_succ, Nat.mul_comm]
    have hgo : ∃ Ds : List (List (Nat × Nat)), f_Ldivisions rc [.val T, .val Ld, .val (.int H), .val (.int (h : Nat)), .val (.int (f : Nat)), .un, .un, .un, .un] = .rt (.list (Ds.map prsD)) ∧ Ds.length ≤ 5 ^ (n + 1) ∧ ∀ D, D ∈ Ds ↔ Div (fitL L h H) (mayE t) c f D := by
      unfold f_Ldivisions
      have hc : t1 (e2 eqD (eVar 4) (eCall lenA (aCons (e2 ixG (eVar 0) (eC (.int 1))) aNil))) [.val T, .val Ld, .val (.int H), .val (.int (h : Nat)), .val (.int (f : Nat)), .un, .un, .un, .un] = some (decide (f = c)) := by
        refine t1_ev (e2_ev rfl (hlen _ _ _ _) ((eqD_int _ _).trans ?_))
        congr 2
        exact decide_eq_decide.mpr (by omega)
      by_cases q : f = c
      · rw [decide_eq_true q] at hc
        refine ⟨[[]], sSeq_rt ((sIf_t hc).trans rfl), by rw [hpw]; simp; omega, fun D => ?_⟩
        constructor
        · intro hD
          rw [List.mem_singleton.mp hD]
          exact q
        · intro hD
          have := hD.le
          have h4 : D.length = 0 := by omega
          rw [List.length_eq_zero_iff.mp h4]
          exact List.mem_singleton.mpr rfl
      · rw [decide_eq_false q] at hc
        have hrg := iR2_ev (fa := aCons (e2 addD (eVar 4) (eC (.int 1))) (aCons (e2 addD (eCall lenA (aCons (e2 ixG (eVar 0) (eC (.int 1))) aNil)) (eC (.int 1))) aNil)) (env := [.val T, .val Ld, .val (.int H), .val (.int (h : Nat)), .val (.int (f : Nat)), .own [], .un, .un, .un]) (M := (f : Int) + 1) (N := (c : Int) + 1)
          (aCons_ev (e2_ev rfl rfl (addD_int _ _)) (aCons_ev (e2_ev (hlen _ _ _ _) rfl (addD_int _ _)) aNil_ev)) (by omega) (by omega) (by omega) (by omega)
        have hlp := loop_rng (g := gVal 6) (b := b_Ldivisions_2 rc) (lo := (f : Int) + 1) (n := ((c : Int) + 1 - ((f : Int) + 1)).toNat) (e := [.val T, .val Ld, .val (.int H), .val (.int (h : Nat)), .val (.int (f : Nat)), .own [], .un, .un, .un])
          (fun j e => ∃ (Ds : List (List (Nat × Nat))) (y6 y7 y8 : Sl), Ds.length ≤ j * M ∧ (∀ D, D ∈ Ds ↔ ∃ (p : Nat × Nat) (D' : List (Nat × Nat)), D = p :: D' ∧ p.2 < f + 1 + j ∧ Div (fitL L h H) (mayE t) c f D) ∧ e = [.val T, .val Ld, .val (.int H), .val (.int (h : Nat)), .val (.int (f : Nat)), .own (Ds.map prsD), y6, y7, y8]) (fun j e hj he => by
            obtain ⟨Ds, y6, y7, y8, k1, k2, rfl⟩ := he
            obtain ⟨b, hb⟩ : ∃ b : Nat, b = f + 1 + j := ⟨_, rfl⟩
            have hbz : (f : Int) + 1 + (j : Nat) = (b : Nat) := by omega
            rw [hbz]
            have hbc : b ≤ c := by omega
            have hj4 : j ≤ 3 := by omega
            have hjM : j * M ≤ 3 * M := Nat.mul_le_mul_right _ hj4
            have hsm : (j + 1) * M = j * M + M := by rw [Nat.add_mul, Nat.one_mul]
            refine ⟨[.val T, .val Ld, .val (.int H), .val (.int (h : Nat)), .val (.int (f : Nat)), .own (Ds.map prsD), .val (.int (b : Nat)), y7, y8], rfl, ?_⟩
            obtain ⟨ht7, h7⟩ : ∃ z : Int, z = L.getD h 0 + L.getD b 0 - L.getD f 0 + 1 := ⟨_, rfl⟩
            have s1 : sSet 7 (e2 addD (e2 subD (e2 addD (e2 ixG (eVar 1) (eVar 3)) (e2 ixG (eVar 1) (eVar 6))) (e2 ixG (eVar 1) (eVar 4))) (eC (.int 1))) [.val T, .val Ld, .val (.int H), .val (.int (h : Nat)), .val (.int (f : Nat)), .own (Ds.map prsD), .val (.int (b : Nat)), y7, y8] = .nx [.val T, .val Ld, .val (.int H), .val (.int (h : Nat)), .val (.int (f : Nat)), .own (Ds.map prsD), .val (.int (b : Nat)), .val (.int ht7), y8] := by
              rw [h7, hLd]
              exact sSet_ev (e2_ev (e2_ev (e2_ev (e2_ev rfl rfl (getL L h (by omega))) (e2_ev rfl rfl (getL L b (by omega))) (addD_int _ _)) (e2_ev rfl rfl (getL L f (by omega))) (subD_int _ _)) rfl (addD_int _ _))
            have g1 : t1 (e2 leD (eVar 7) (eVar 2)) [.val T, .val Ld, .val (.int H), .val (.int (h : Nat)), .val (.int (f : Nat)), .own (Ds.map prsD), .val (.int (b : Nat)), .val (.int ht7), y8] = some (fitL L h H f b) := by
              unfold fitL
              rw [← h7]
              exact t1_ev (e2_ev rfl rfl (leD_int _ _))
            have g2 : tAnd' (t1 (e2 leD (eVar 7) (eVar 2))) (tTr (eCall g_Lmay_end (aCons (eVar 0) (aCons (eVar 3) (aCons (eVar 6) aNil))))) [.val T, .val Ld, .val (.int H), .val (.int (h : Nat)), .val (.int (f : Nat)), .own (Ds.map prsD), .val (.int (b : Nat)), .val (.int ht7), y8] = some (fitL L h H f b && mayE t b) := by
              cases hz : fitL L h H f b with
              | true =>
                rw [hz] at g1
                exact and_t g1 (tTr_ev (eCall_ev (aCons_ev rfl (aCons_ev rfl (aCons_ev rfl aNil_ev))) (hmay b (by omega) hbc)) rfl)
              | false => rw [hz] at g1; exact and_f g1
            cases hz : (fitL L h H f b && mayE t b) with
            | false =>
              rw [hz] at g2
              refine ⟨_, .inl (show b_Ldivisions_2 rc _ = .nx [.val T, .val Ld, .val (.int H), .val (.int (h : Nat)), .val (.int (f : Nat)), .own (Ds.map prsD), .val (.int (b : Nat)), .val (.int ht7), y8] from ?_), Ds, _, _, _, by omega, fun D => ?_, rfl⟩
              · unfold b_Ldivisions_2
                exact (sSeq_nx s1).trans ((sIf_f g2).trans rfl)
              · rw [k2 D]
                constructor
                · rintro ⟨p, D', rfl, z1, z2⟩
                  exact ⟨p, D', rfl, by omega, z2⟩
                · rintro ⟨p, D', rfl, z1, z2⟩
                  refine ⟨p, D', rfl, ?_, z2⟩
                  by_cases w : p.2 = b
                  · obtain ⟨_, _, _, w4, w5, _⟩ := z2
                    rw [w] at w4 w5
                    rw [w4, w5] at hz
                    cases hz
                  · omega
            | true =>
              rw [hz] at g2
              have hz2 := (Bool.and_eq_true _ _).mp hz
              obtain ⟨Bs, b1, b2, b3⟩ := ih b (by omega) (by omega) hbc (by omega)
              have hin : ∀ (Bs' : List (List (Nat × Nat))) (Ds' : List (List (Nat × Nat))) (y : Sl), (∀ D ∈ Bs', D.length ≤ 10) → Ds'.length + Bs'.length ≤ 100000 → ∃ y', loopF (gVal 8) (b_Ldivisions_1 rc) (Bs'.map prsD) [.val T, .val Ld, .val (.int H), .val (.int (h : Nat)), .val (.int (f : Nat)), .own (Ds'.map prsD), .val (.int (b : Nat)), .val (.int ht7), y] = .nx [.val T, .val Ld, .val (.int H), .val (.int (h : Nat)), .val (.int (f : Nat)), .own ((Ds' ++ Bs'.map ((f, b) :: ·)).map prsD), .val (.int (b : Nat)), .val (.int ht7), y'] := by
                intro Bs'
                induction Bs' with
                | nil => exact fun Ds' y _ _ => ⟨y, by simp [loopF]⟩
                | cons B Bs' ihB =>
                  intro Ds' y w1 w2
                  rw [List.length_cons] at w2
                  obtain ⟨y', w3⟩ := ihB (Ds' ++ [(f, b) :: B]) (.val (prsD B)) (fun D hD => w1 D (List.mem_cons_of_mem _ hD)) (by simp; omega)
                  refine ⟨y', ?_⟩
                  have hBl := w1 B List.mem_cons_self
                  have hb1 : b_Ldivisions_1 rc [.val T, .val Ld, .val (.int H), .val (.int (h : Nat)), .val (.int (f : Nat)), .own (Ds'.map prsD), .val (.int (b : Nat)), .val (.int ht7), .val (prsD B)] = .nx [.val T, .val Ld, .val (.int H), .val (.int (h : Nat)), .val (.int (f : Nat)), .own ((Ds' ++ [(f, b) :: B]).map prsD), .val (.int (b : Nat)), .val (.int ht7), .val (prsD B)] := by
                    unfold b_Ldivisions_1
                    rw [List.map_append]
                    refine sApp_ev (i := 5) (eL_ev ?_) rfl (by rw [List.length_map]; omega)
                    unfold fCat
                    rw [show eL (fLst (aCons (eTup (aCons (eVar 4) (aCons (eVar 6) aNil))) aNil)) [.val T, .val Ld, .val (.int H), .val (.int (h : Nat)), .val (.int (f : Nat)), .own (Ds'.map prsD), .val (.int (b : Nat)), .val (.int ht7), .val (prsD B)] = some (.list [prN (f, b)]) from rfl]
                    show (if 1 + (B.map prN).length ≤ 1000000 then _ else _) = _
                    rw [if_pos (by rw [List.length_map]; omega)]
                    rfl
                  rw [List.map_cons]
                  simp only [loopF, gVal, List.set_cons_succ, List.set_cons_zero, hb1]
                  rw [w3, List.map_cons, List.append_assoc]
                  rfl
              obtain ⟨y', hin⟩ := hin Bs Ds y8 (fun D hD => by have := ((b3 D).mp hD).le; omega) (by omega)
              refine ⟨_, .inl (show b_Ldivisions_2 rc _ = .nx [.val T, .val Ld, .val (.int H), .val (.int (h : Nat)), .val (.int (f : Nat)), .own ((Ds ++ Bs.map ((f, b) :: ·)).map prsD), .val (.int (b : Nat)), .val (.int ht7), y'] from ?_), Ds ++ Bs.map ((f, b) :: ·), _, _, _, by simp; omega, fun D => ?_, rfl⟩
              · unfold b_Ldivisions_2
                refine (sSeq_nx s1).trans ((sIf_t g2).trans ?_)
                exact sFor_ev (ds := Bs.map prsD) (show iSeq _ _ = _ by unfold iSeq; rw [eCall_ev (aCons_ev rfl (aCons_ev rfl (aCons_ev rfl (aCons_ev rfl (aCons_ev rfl aNil_ev))))) b1]) hin
              · rw [List.mem_append, k2 D, List.mem_map]
                constructor
                · rintro (⟨p, D', rfl, z1, z2⟩ | ⟨B, hB, rfl⟩)
                  · exact ⟨p, D', rfl, by omega, z2⟩
                  · exact ⟨(f, b), B, rfl, by show b < _; omega, rfl, by show f < b; omega, hbc, hz2.1, hz2.2, (b3 B).mp hB⟩
                · rintro ⟨p, D', rfl, z1, z2⟩
                  by_cases w : p.2 = b
                  · obtain ⟨w1, w2, w3, w4, w5, w6⟩ := z2
                    obtain ⟨p1, p2⟩ := p
                    have w1 : p1 = f := w1
                    have w : p2 = b := w
                    subst w1
                    subst w
                    exact .inr ⟨D', (b3 D').mpr w6, rfl⟩
                  · exact .inl ⟨p, D', rfl, by omega, z2⟩) ⟨[], .un, .un, .un, by simp, (fun D => by
              constructor
              · intro h; cases h
              · rintro ⟨p, D', rfl, z1, z2⟩
                have := z2.2.1
                omega), rfl⟩
        obtain ⟨e', l1, Ds, y6, y7, y8, k1, k2, rfl⟩ := hlp
        refine ⟨Ds, ?_, ?_, fun D => ?_⟩
        · refine (sSeq_nx ((sIf_f hc).trans rfl)).trans ?_
          refine (sSeq_nx (e := [.val T, .val Ld, .val (.int H), .val (.int (h : Nat)), .val (.int (f : Nat)), .own [], .un, .un, .un]) (by rfl)).trans ?_
          exact (sSeq_nx (sFor_ev hrg l1)).trans rfl
        · rw [hpw]
          have : ((c : Int) + 1 - ((f : Int) + 1)).toNat * M ≤ 5 * M := Nat.mul_le_mul_right _ (by omega)
          omega
        · rw [k2 D]
          constructor
          · rintro ⟨p, D', rfl, z1, z2⟩
            exact z2
          · intro z
            cases D with
            | nil => exact absurd z q
            | cons p D' =>
              refine ⟨p, D', rfl, ?_, z⟩
              have := z.2.2.1
              omega
    obtain ⟨Ds, a1, a2, a3⟩ := hgo
    refine ⟨Ds, ?_, a2, a3⟩
    show gDef 5 9 (f_Ldivisions (gN_Ldivisions n)) _ = _
    rw [← hrc]
    exact gDef_ev' [.val T, .val Ld, .val (.int H), .val (.int (h : Nat)), .val (.int (f : Nat)), .un, .un, .un, .un] rfl rfl a1
/-! lists of pages compared -/
theorem eqv_prN : ∀ D : List (Nat × Nat), PyData.eqvAll (D.map prN) (D.map prN) = true
  | [] => by simp [PyData.eqvAll]
  | p :: D => by simp [prN, PyData.eqvAll, PyData.eqv, eqv_prN D]
theorem lay_prN : ∀ D : List (Nat × Nat), PyData.canLayAll0 (D.map prN) = true ∧ PyData.depthAll (D.map prN) ≤ 1
  | [] => by simp [PyData.canLayAll0, PyData.depthAll]
  | p :: D => by
    obtain ⟨h1, h2⟩ := lay_prN D
    simp only [List.map_cons, PyData.canLayAll0, PyData.depthAll, h1]
    simp [prN, PyData.canLay0, PyData.canLayAll0, PyData.depth, PyData.depthAll]
    omega
theorem lay_prs2 : ∀ Ds : List (List (Nat × Nat)), PyData.canLayAll0 (Ds.map prsD) = true ∧ PyData.depthAll (Ds.map prsD) ≤ 2
  | [] => by simp [PyData.canLayAll0, PyData.depthAll]
  | D :: Ds => by
    obtain ⟨h1, h2⟩ := lay_prs2 Ds
    obtain ⟨h3, h4⟩ := lay_prN D
    simp only [List.map_cons, PyData.canLayAll0, PyData.depthAll, h1]
    simp [prsD, PyData.canLay0, h3, PyData.depth]
    omega
theorem shaped_prsD (D : List (Nat × Nat)) : SeqAt.shaped (prsD D) = true := by
  obtain ⟨h3, h4⟩ := lay_prN D
  unfold SeqAt.shaped
  simp [prsD, PyData.canLay0, h3, PyData.depth]
  omega
theorem shaped_prsD2 (Ds : List (List (Nat × Nat))) : SeqAt.shaped (.list (Ds.map prsD)) = true := by
  obtain ⟨h3, h4⟩ := lay_prs2 Ds
  unfold SeqAt.shaped
  simp [PyData.canLay0, h3, PyData.depth]
  omega
theorem eqv_prsD (D : List (Nat × Nat)) : PyData.eqv (prsD D) (prsD D) = true := by
  simp [prsD, PyData.eqv, eqv_prN D]
theorem eqD_prsD (D : List (Nat × Nat)) : eqD (prsD D) (prsD D) = some (.bool true) := by
  unfold eqD
  simp only [shaped_prsD, eqv_prsD, Bool.and_self, if_true]
theorem notInD_prsD (D : List (Nat × Nat)) (Ds : List (List (Nat × Nat))) (h : D ∈ Ds) : notInD (prsD D) (.list (Ds.map prsD)) = some (.bool false) := by
  unfold notInD
  have : ((Ds.map prsD).any fun z => PyData.eqv z (prsD D)) = true := List.any_eq_true.mpr ⟨prsD D, List.mem_map.mpr ⟨D, h, rfl⟩, eqv_prsD D⟩
  simp only [shaped_prsD, shaped_prsD2, Bool.and_self, if_true, this, Bool.not_true]
/-! the law's last loop -/
theorem tail_ev (a0 a1 a2 a4 a5 a7 a9 : Sl) (P : List (Nat × Nat)) (hP : P.length ≤ 1000) : ∀ (Ds : List (List (Nat × Nat))) (y3 y8 : Sl), (∀ D ∈ Ds, P.length ≤ D.length ∧ ∀ (k : Nat) (x y : Nat × Nat), D[k]? = some x → P[k]? = some y → x.2 ≤ y.2) →
    ∃ z3 z8, loopF (gVal 8) b_law_3 (Ds.map prsD) [a0, a1, a2, y3, a4, a5, .val (prsD P), a7, y8, a9] = .nx [a0, a1, a2, z3, a4, a5, .val (prsD P), a7, z8, a9]
  | [], y3, y8, _ => ⟨y3, y8, rfl⟩
  | D :: Ds, y3, y8, h => by
    obtain ⟨h1, h2⟩ := h D List.mem_cons_self
    have hb : ∃ z3, b_law_3 [a0, a1, a2, y3, a4, a5, .val (prsD P), a7, .val (prsD D), a9] = .nx [a0, a1, a2, z3, a4, a5, .val (prsD P), a7, .val (prsD D), a9] := by
      have hlt : t1 (e2 ltD (eCall lenA (aCons (eVar 8) aNil)) (eCall lenA (aCons (eVar 6) aNil))) [a0, a1, a2, y3, a4, a5, .val (prsD P), a7, .val (prsD D), a9] = some false := by
        refine t1_ev (e2_ev (x := .int ((D.map prN).length : Nat)) (y := .int ((P.map prN).length : Nat)) rfl rfl ((ltD_int _ _).trans ?_))
        rw [List.length_map, List.length_map, decide_eq_false (by omega)]
      have hrg := iR1_ev (fa := aCons (eCall lenA (aCons (eVar 6) aNil)) aNil) (env := [a0, a1, a2, y3, a4, a5, .val (prsD P), a7, .val (prsD D), a9]) (N := ((P.map prN).length : Nat)) rfl (by rw [List.length_map]; omega) (by omega)
      rw [Int.toNat_natCast, List.length_map] at hrg
      have hlp := loop_rng (g := gVal 3) (b := b_law_2) (lo := 0) (n := P.length) (e := [a0, a1, a2, y3, a4, a5, .val (prsD P), a7, .val (prsD D), a9])
        (fun j e => ∃ z3, e = [a0, a1, a2, z3, a4, a5, .val (prsD P), a7, .val (prsD D), a9]) (fun j e hj he => by
          obtain ⟨z3, rfl⟩ := he
          obtain ⟨k, hk⟩ : ∃ k : Int, k = 0 + (j : Nat) := ⟨_, rfl⟩
          rw [← hk]
          refine ⟨[a0, a1, a2, .val (.int k), a4, a5, .val (prsD P), a7, .val (prsD D), a9], rfl, [a0, a1, a2, .val (.int k), a4, a5, .val (prsD P), a7, .val (prsD D), a9], .inl ?_, _, rfl⟩
          have hkj : k = (j : Nat) := by omega
          have u1 := List.getElem?_eq_getElem (l := P) hj
          have u2 := List.getElem?_eq_getElem (l := D) (i := j) (by omega)
          have a1' := atI_map prN P j _ u1
          have a2' := atI_map prN D j _ u2
          rw [← hkj] at a1' a2'
          have hle := h2 j _ _ u2 u1
          unfold b_law_2
          refine (sIf_f (t1_ev (e2_ev (e2_ev (e2_ev rfl rfl a2') rfl rfl) (e2_ev (e2_ev rfl rfl a1') rfl rfl) ((gtD_int _ _).trans ?_)))).trans rfl
          rw [decide_eq_false (by omega)]) ⟨y3, rfl⟩
      obtain ⟨e', l1, z3, rfl⟩ := hlp
      refine ⟨z3, ?_⟩
      unfold b_law_3
      exact (sSeq_nx ((sIf_f hlt).trans rfl)).trans (sFor_ev hrg l1)
    obtain ⟨z3, hb⟩ := hb
    obtain ⟨w3, w8, ih⟩ := tail_ev a0 a1 a2 a4 a5 a7 a9 P hP Ds z3 (.val (prsD D)) (fun D' hD' => h D' (List.mem_cons_of_mem _ hD'))
    refine ⟨w3, w8, ?_⟩
    rw [List.map_cons]
    simp only [loopF, gVal, List.set_cons_succ, List.set_cons_zero, hb]
    exact ih
theorem getD_app1 (L : List Int) (x : Int) (j : Nat) (h : j < L.length) : (L ++ [x]).getD j 0 = L.getD j 0 := by
  rw [List.getD_eq_getElem?_getD, List.getD_eq_getElem?_getD, List.getElem?_append_left h]
theorem getD_app2 (L : List Int) (x : Int) : (L ++ [x]).getD L.length 0 = x := by
  rw [List.getD_eq_getElem?_getD, List.getElem?_append_right (Nat.le_refl _)]
  simp
theorem last_ix (L : List Int) (h : 0 < L.length) : atI (L.map PyData.int) (-1) = some (.int (L.getD (L.length - 1) 0)) := atI_last _ _ _ (by
  rw [List.getLast?_eq_getElem?, List.getD_eq_getElem?_getD, List.getElem?_eq_getElem (by omega)]
  rfl)
theorem mono_of (L : List Int) (h : ∀ j, j + 1 < L.length → L.getD j 0 ≤ L.getD (j + 1) 0) : ∀ (d i : Nat), i + d < L.length → L.getD i 0 ≤ L.getD (i + d) 0
  | 0, i, _ => Int.le_refl _
  | d + 1, i, hl => Int.le_trans (mono_of L h d i (by omega)) (by rw [show i + (d + 1) = i + d + 1 by omega]; exact h _ (by omega))
theorem law_true (ns : List Int) (hn : ns.length ≤ 63) : g_law [.list (ns.map .int)] = some (.bool true) := by
  obtain ⟨t, htab, ht⟩ := table_ev ns 0
  obtain ⟨S, hS⟩ : ∃ S : PyData, S = .list (ns.map .int) := ⟨_, rfl⟩
  have hcell : ∀ k : Nat, g_Lcell [S, .int (k : Nat)] = some (.int (ns.getD k 0)) := fun k => by rw [hS]; exact cell_ev ns k
  rw [← hS] at htab ⊢
  have hr := ht.nr
  have hh := ht.nh
  obtain ⟨T, hT⟩ : ∃ T : PyData, T = tabD t := ⟨_, rfl⟩
  have hlen : ∀ a2 a3 a4 a5 a6 a7 a8 a9, eCall lenA (aCons (e2 ixG (eVar 1) (eC (.int 1))) aNil) [.val S, .val T, a2, a3, a4, a5, a6, a7, a8, a9] = some (.int (t.rows.length : Nat)) := fun a2 a3 a4 a5 a6 a7 a8 a9 => by
    rw [hT]
    refine eCall_ev (aCons_ev rfl aNil_ev) ?_
    show some (PyData.int (List.length _ : Nat)) = _
    rw [List.length_map]
  have hrg := iR1_ev (fa := aCons (eCall lenA (aCons (e2 ixG (eVar 1) (eC (.int 1))) aNil)) aNil) (env := [.val S, .val T, .own [.int 0], .un, .un, .un, .un, .un, .un, .un]) (N := (t.rows.length : Nat)) (aCons_ev (hlen _ _ _ _ _ _ _ _) aNil_ev) (by omega) (by omega)
  rw [Int.toNat_natCast] at hrg
  have hlp := loop_rng (g := gVal 3) (b := b_law_1) (lo := 0) (n := t.rows.length) (e := [.val S, .val T, .own [.int 0], .un, .un, .un, .un, .un, .un, .un])
    (fun j e => ∃ (L : List Int) (y3 : Sl), (∀ j, j + 1 < L.length → L.getD j 0 ≤ L.getD (j + 1) 0) ∧ L.length = j + 1 ∧ e = [.val S, .val T, .own (L.map .int), y3, .un, .un, .un, .un, .un, .un]) (fun j e hj he => by
      obtain ⟨L, y3, h2, hl, rfl⟩ := he
      obtain ⟨k, hk⟩ : ∃ k : Int, k = 0 + (j : Nat) := ⟨_, rfl⟩
      rw [← hk]
      have m0 := mod_lt (ns.getD (40 + j) 0) 5 (by decide)
      obtain ⟨z, hz⟩ : ∃ z : Int, z = 2 + ns.getD (40 + j) 0 % 5 := ⟨_, rfl⟩
      refine ⟨[.val S, .val T, .own (L.map .int), .val (.int k), .un, .un, .un, .un, .un, .un], rfl, [.val S, .val T, .own ((L ++ [L.getD (L.length - 1) 0 + z]).map .int), .val (.int k), .un, .un, .un, .un, .un, .un], .inl ?_, L ++ [L.getD (L.length - 1) 0 + z], _, fun i hi => ?_, by simp [hl], rfl⟩
      · unfold b_law_1
        rw [List.map_append, hz, ← Int.add_assoc]
        exact sApp_ev (i := 2) (e2_ev (e2_ev (eIxO_ev rfl rfl (last_ix L (by omega))) rfl (addD_int _ _)) (e2_ev (eCall_ev (aCons_ev rfl (aCons_ev (e2_ev rfl rfl (addD_int _ _)) aNil_ev)) (by
          have := hcell (40 + j)
          rw [show ((40 + j : Nat) : Int) = 40 + k by omega] at this
          exact this)) rfl (modD_int (by decide))) (addD_int _ _)) rfl (by rw [List.length_map]; omega)
      · rw [List.length_append, List.length_singleton] at hi
        by_cases q : i + 1 < L.length
        · rw [getD_app1 _ _ _ q, getD_app1 L _ i (by omega)]
          exact h2 i q
        · have e1 : i + 1 = L.length := by omega
          have e3 : L.length - 1 = i := by omega
          rw [e3, getD_app1 L _ i (by omega)]
          have b1 := getD_app2 L (L.getD i 0 + z)
          rw [← e1] at b1
          rw [b1]
          omega) ⟨[0], .un, (fun j hj => by simp at hj), rfl, rfl⟩
  obtain ⟨e', h1, L, y3, h2, hl, rfl⟩ := hlp
  have n0 := mod_lt (ns.getD 50 0) 22 (by decide)
  obtain ⟨H, hH⟩ : ∃ H : Int, H = 3 + ns.getD 50 0 % 22 := ⟨_, rfl⟩
  obtain ⟨E, hE, hEp, hEb0, hEl⟩ := breaks_ev t ht
  have hEb : ∀ x ∈ E, t.heads < x ∧ x < t.rows.length := fun x hx => ((hEb0 x).mp hx).1
  have p1 := paginate_ev t ht L H (by omega) E hE hEb hEl
  have hhc : ∀ y3 a5 a6 a7 a8 a9, eCall lenA (aCons (eL (fCmp [9] (iSeq (e2 ixG (eVar 1) (eC (.int 1)))) (gVal 9) t_law_1 c_law_1)) aNil) [.val S, .val T, .own (L.map .int), y3, .val (.int H), a5, a6, a7, a8, a9] = some (.int (t.heads : Nat)) := fun y3 a5 a6 a7 a8 a9 => by
    have hc : compF (gVal 9) t_law_1 c_law_1 [.val S, .val T, .own (L.map .int), y3, .val (.int H), a5, a6, a7, a8, .un] (t.rows.map rowD) = some (((t.rows.map rowD).filter fun d => match d with | .tuple [_, .bool b, _] => b | _ => false).map fun _ => .int 1) := by
      refine compF_filter fun d hd => ?_
      obtain ⟨x, hx, rfl⟩ := List.mem_map.mp hd
      exact ⟨[.val S, .val T, .own (L.map .int), y3, .val (.int H), a5, a6, a7, a8, .val (rowD x)], rfl, rfl, fun _ => rfl⟩
    have hn : (((t.rows.map rowD).filter fun d => match d with | .tuple [_, .bool b, _] => b | _ => false).map fun _ => PyData.int 1).length = t.heads := by
      rw [List.length_map, List.filter_map, List.length_map]
      have := cnt_pre (p := fun x : LRow => x.2.1) t.heads t.rows 0 (fun j x hx => by rw [(ht.rw_ j x hx).2, Nat.zero_add]) (by have := ht.nh.1; omega)
      exact this
    refine eCall_ev (aCons_ev (eL_ev (fCmp_ev (ds := t.rows.map rowD) (by rw [hT]; rfl) hc (by rw [hn]; omega))) aNil_ev) ?_
    show some (PyData.int (List.length _ : Nat)) = _
    rw [hn]
  refine gDef_ev' (fB := f_law) [.val S, .un, .un, .un, .un, .un, .un, .un, .un, .un] rfl rfl ?_
  unfold f_law
  have hdv := fun n f a b c d => div_ev t ht L H hl n f a b c d
  rw [← hT] at htab p1 hdv
  refine (sSeq_nx (e := [.val S, .val T, .un, .un, .un, .un, .un, .un, .un, .un]) (sSet_ev (eCall_ev (aCons_ev rfl (aCons_ev rfl aNil_ev)) htab))).trans ?_
  refine (sSeq_nx (e := [.val S, .val T, .own [.int 0], .un, .un, .un, .un, .un, .un, .un]) (by rfl)).trans ?_
  refine (sSeq_nx (sFor_ev hrg h1)).trans ?_
  refine (sSeq_nx (e := [.val S, .val T, .own (L.map .int), y3, .val (.int H), .un, .un, .un, .un, .un]) (by
    rw [hH]
    exact sSet_ev (e2_ev rfl (e2_ev (eCall_ev (aCons_ev rfl (aCons_ev rfl aNil_ev)) (hcell 50)) rfl (modD_int (by decide))) (addD_int _ _)))).trans ?_
  refine (sSeq_nx (e := [.val S, .val T, .own (L.map .int), y3, .val (.int H), .val (.int (t.heads : Nat)), .un, .un, .un, .un]) (sSet_ev (hhc _ _ _ _ _ _))).trans ?_
  obtain ⟨h, e_h⟩ : ∃ h : Nat, h = t.heads := ⟨_, rfl⟩
  obtain ⟨c, e_c⟩ : ∃ c : Nat, c = t.rows.length := ⟨_, rfl⟩
  rw [← e_h] at p1 hdv hh hEb0 hEb ⊢
  rw [← e_c] at p1 hdv hh hEb0 hEb hl hr hlen
  obtain ⟨o, ho⟩ : ∃ o, o = (if h = c then (if fitL L h H h h = true then some [(h, h)] else none) else gr (fitL L h H) (E ++ [c]) c 100 h) := ⟨_, rfl⟩
  rw [← ho] at p1
  obtain ⟨pd, hpd⟩ : ∃ pd, pd = (match o with | none => PyData.none | some P => .list (P.map prN)) := ⟨_, rfl⟩
  rw [← hpd] at p1
  refine (sSeq_nx (e := [.val S, .val T, .own (L.map .int), y3, .val (.int H), .val (.int (h : Nat)), .val pd, .un, .un, .un]) (sSet_ev (eCall_ev (aCons_ev rfl (aCons_ev (eTupO_ev rfl) (aCons_ev rfl aNil_ev))) p1))).trans ?_
  have hcond : t1 (e2 eqD (eVar 5) (eCall lenA (aCons (e2 ixG (eVar 1) (eC (.int 1))) aNil))) [.val S, .val T, .own (L.map .int), y3, .val (.int H), .val (.int (h : Nat)), .val pd, .un, .un, .un] = some (decide (h = c)) := by
    refine t1_ev (e2_ev rfl (hlen _ _ _ _ _ _ _ _) ((eqD_int _ _).trans ?_))
    congr 2
    exact decide_eq_decide.mpr (by omega)
  by_cases q : h = c
  · rw [decide_eq_true q] at hcond
    rw [if_pos q] at ho
    refine sSeq_rt ((sIf_t hcond).trans (sRet_ev ?_))
    have hfit : fitL L h H h h = decide (L.getD (L.length - 1) 0 + 1 ≤ H) := by
      unfold fitL
      rw [show L.length - 1 = h by omega]
      exact decide_eq_decide.mpr (by omega)
    have hle : t1 (e2 leD (e2 addD (eIxO 2 (e1 negD (eC (.int 1)))) (eC (.int 1))) (eVar 4)) [.val S, .val T, .own (L.map .int), y3, .val (.int H), .val (.int (h : Nat)), .val pd, .un, .un, .un] = some (fitL L h H h h) := by
      rw [hfit]
      exact t1_ev (e2_ev (e2_ev (eIxO_ev rfl rfl (last_ix L (by omega))) rfl (addD_int _ _)) rfl (leD_int _ _))
    cases hz : fitL L h H h h with
    | true =>
      rw [hz] at hle ho
      rw [if_pos rfl] at ho
      subst ho
      subst hpd
      exact e2_ev (x := prsD [(h, h)]) (y := prsD [(h, h)]) rfl (eIf_t hle rfl) (eqD_prsD _)
    | false =>
      rw [hz] at hle ho
      simp only [Bool.false_eq_true, if_false] at ho
      subst ho
      subst hpd
      refine e2_ev (x := .none) (y := .none) rfl (eIf_f hle rfl) ?_
      unfold eqD
      rw [shaped_none]
      simp [PyData.eqv]
  · rw [decide_eq_false q] at hcond
    rw [if_neg q] at ho
    refine (sSeq_nx ((sIf_f hcond).trans rfl)).trans ?_
    have hmono := mono_of L h2
    have hfm : ∀ b, b ≤ c → mayE t b = true → ∀ f1 f2, f1 ≤ f2 → f2 < b → fitL L h H f1 b = true → fitL L h H f2 b = true := by
      intro b hb _ f1 f2 z1 z2 z3
      unfold fitL at z3 ⊢
      have z3 := of_decide_eq_true z3
      refine decide_eq_true ?_
      have := hmono (f2 - f1) f1 (by omega)
      rw [show f1 + (f2 - f1) = f2 by omega] at this
      omega
    have hEc : ∀ b, b ∈ E ++ [c] ↔ h < b ∧ b ≤ c ∧ mayE t b = true := by
      intro b
      rw [List.mem_append, List.mem_singleton, hEb0 b]
      unfold mayE
      rw [← e_c]
      constructor
      · rintro (⟨z1, z2⟩ | z)
        · refine ⟨z1.1, by omega, ?_⟩
          rw [if_neg (by omega)]
          exact z2
        · rw [if_pos z]
          exact ⟨by omega, by omega, rfl⟩
      · rintro ⟨z1, z2, z3⟩
        by_cases z : b = c
        · exact .inr z
        · rw [if_neg z] at z3
          exact .inl ⟨by omega, z3⟩
    have hEcp : (E ++ [c]).Pairwise (· < ·) := by
      rw [List.pairwise_append]
      refine ⟨hEp, List.pairwise_singleton _ _, fun a ha b hb => ?_⟩
      rw [List.mem_singleton.mp hb]
      exact (hEb a ha).2
    obtain ⟨Ds, d1, d2, d3⟩ := hdv 6 h (by omega) (Nat.le_refl _) (by omega) (by omega)
    refine (sSeq_nx (e := [.val S, .val T, .val (.list (L.map .int)), y3, .val (.int H), .val (.int (h : Nat)), .val pd, .val (.list (Ds.map prsD)), .un, .un]) ?_).trans ?_
    · show sSet 7 _ (frz 2 [.val S, .val T, .own (L.map .int), y3, .val (.int H), .val (.int (h : Nat)), .val pd, .un, .un, .un]) = _
      exact sSet_ev (env := [.val S, .val T, .val (.list (L.map .int)), y3, .val (.int H), .val (.int (h : Nat)), .val pd, .un, .un, .un]) (eCall_ev (aCons_ev rfl (aCons_ev rfl (aCons_ev rfl (aCons_ev rfl (aCons_ev rfl aNil_ev))))) d1)
    have hcond2 : t1 (e2 eqD (eCall lenA (aCons (eVar 7) aNil)) (eC (.int 0))) [.val S, .val T, .val (.list (L.map .int)), y3, .val (.int H), .val (.int (h : Nat)), .val pd, .val (.list (Ds.map prsD)), .un, .un] = some (decide (Ds = [])) := by
      refine t1_ev (e2_ev (x := .int ((Ds.map prsD).length : Nat)) rfl rfl ((eqD_int _ _).trans ?_))
      rw [List.length_map]
      congr 2
      refine decide_eq_decide.mpr ⟨fun z => ?_, fun z => by rw [z]; rfl⟩
      exact List.length_eq_zero_iff.mp (by omega)
    by_cases w : Ds = []
    · rw [decide_eq_true w] at hcond2
      refine sSeq_rt ((sIf_t hcond2).trans ?_)
      cases hz : o with
      | none =>
        rw [hz] at hpd
        subst hpd
        rfl
      | some P =>
        exfalso
        rw [hz] at ho
        have := gr_div (may := mayE t) (fun b hb => ((hEc b).mp hb).2) 100 h P (by omega) (by omega) ho.symm
        have := (d3 P).mpr this
        rw [w] at this
        cases this
    · rw [decide_eq_false w] at hcond2
      refine (sSeq_nx ((sIf_f hcond2).trans rfl)).trans ?_
      have hall : ∀ D ∈ Ds, ∃ P, o = some P ∧ P.length ≤ D.length ∧ ∀ (k : Nat) (x y : Nat × Nat), D[k]? = some x → P[k]? = some y → x.2 ≤ y.2 := fun D hD => by
        rw [ho]
        exact gr_dom hEcp hEc hfm 100 h h D (Nat.le_refl _) (Nat.le_refl _) (by omega) (by omega) ((d3 D).mp hD)
      obtain ⟨D0, hD0⟩ := List.exists_mem_of_ne_nil Ds w
      obtain ⟨P, hP, _⟩ := hall D0 hD0
      rw [hP] at ho hpd
      have hPd := gr_div (may := mayE t) (fun b hb => ((hEc b).mp hb).2) 100 h P (by omega) (by omega) ho.symm
      have hPm := (d3 P).mpr hPd
      have hPl := hPd.le
      subst hpd
      have hcond3 : tOr' (tNot' (t1 (eIsi "list" (eVar 6)))) (t1 (e2 notInD (eVar 6) (eVar 7))) [.val S, .val T, .val (.list (L.map .int)), y3, .val (.int H), .val (.int (h : Nat)), .val (.list (P.map prN)), .val (.list (Ds.map prsD)), .un, .un] = some false :=
        or_f (not_ev (b := true) (t1_ev (eIsi_ev rfl (show isiB "list" "list" = some true by decide +kernel)))) (t1_ev (e2_ev rfl rfl (notInD_prsD P Ds hPm)))
      refine (sSeq_nx ((sIf_f hcond3).trans rfl)).trans ?_
      obtain ⟨z3, z8, hl3⟩ := tail_ev (.val S) (.val T) (.val (.list (L.map .int))) (.val (.int H)) (.val (.int (h : Nat))) (.val (.list (Ds.map prsD))) .un P (by omega) Ds y3 .un (fun D hD => by
        obtain ⟨P', w1, w2⟩ := hall D hD
        rw [hP] at w1
        cases w1
        exact w2)
      exact (sSeq_nx (sFor_ev (ds := Ds.map prsD) (by rfl) hl3)).trans rfl
end K20

open PySem PySem.W PyProof.Rows
set_option maxHeartbeats 0 in
theorem PySem.Challenge.cw_boundbook_k20_pages_holds : PySem.Challenge.rw_boundbook_k20_pages.Holds := by
  w_on; o_law; k_head; (case hw => w_witness2)
  k_fill
  refine L2.walk_of (l := PySem.Challenge.rw_boundbook_k20_pages) (n := 63) (k := 9) (x := "script") (CX := fun _ => L2.CX0) (sp := fun w => Mir.spF _ K20.g_law) rfl (by decide) rfl ⟨rfl, by decide, by decide⟩ (fun w h Y => PySem.W.kIn_of Y) ?F (fun w H a ns hl hO hS => Mir.law_end hS (K20.law_true ns hl)) (fun _ _ _ _ _ h => h)
  case F =>
    intro w mg fa h KX G hmg
    refine' K20.all_mk KX G hmg ?a_covers_both ?l_covers_both ?c_covers_both ?k_covers_both ?a_head_count ?l_head_count ?c_head_count ?k_head_count ?a_breakable_rows ?l_breakable_rows ?c_breakable_rows ?k_breakable_rows ?a_height_of_page ?l_height_of_page ?c_height_of_page ?k_height_of_page ?a_paginate ?l_paginate ?c_paginate ?k_paginate ?a_Lcell ?l_Lcell ?c_Lcell ?k_Lcell ?a_Ldraws ?l_Ldraws ?c_Ldraws ?k_Ldraws ?a_Lwords ?l_Lwords ?c_Lwords ?k_Lwords ?a_Lcolumn ?l_Lcolumn ?c_Lcolumn ?k_Lcolumn ?a_Lis_free ?l_Lis_free ?c_Lis_free ?k_Lis_free ?a_Lcells ?l_Lcells ?c_Lcells ?k_Lcells ?a_Ltable ?l_Ltable ?c_Ltable ?k_Ltable ?a_Lmay_end ?l_Lmay_end ?c_Lmay_end ?k_Lmay_end ?a_Ldivisions ?l_Ldivisions ?c_Ldivisions ?k_Ldivisions ?a_law ?l_law ?c_law ?k_law ?z_len ?z_range ?z_any ?z_int ?z_tuple ?z_min ?z_isinstance ?z_list
    (case a_covers_both => k_is)
    (case l_covers_both => k_is)
    (case c_covers_both => k_is)
    (case k_covers_both => k_is)
    (case a_head_count => k_is)
    (case l_head_count => k_is)
    (case c_head_count => k_is)
    (case k_head_count => k_is)
    (case a_breakable_rows => k_is)
    (case l_breakable_rows => k_is)
    (case c_breakable_rows => k_is)
    (case k_breakable_rows => k_is)
    (case a_height_of_page => k_is)
    (case l_height_of_page => k_is)
    (case c_height_of_page => k_is)
    (case k_height_of_page => k_is)
    (case a_paginate => k_is)
    (case l_paginate => k_is)
    (case c_paginate => k_is)
    (case k_paginate => k_is)
    (case a_Lcell => k_is)
    (case l_Lcell => k_is)
    (case c_Lcell => k_is)
    (case k_Lcell => k_is)
    (case a_Ldraws => k_is)
    (case l_Ldraws => k_is)
    (case c_Ldraws => k_is)
    (case k_Ldraws => k_is)
    (case a_Lwords => k_is)
    (case l_Lwords => k_is)
    (case c_Lwords => k_is)
    (case k_Lwords => k_is)
    (case a_Lcolumn => k_is)
    (case l_Lcolumn => k_is)
    (case c_Lcolumn => k_is)
    (case k_Lcolumn => k_is)
    (case a_Lis_free => k_is)
    (case l_Lis_free => k_is)
    (case c_Lis_free => k_is)
    (case k_Lis_free => k_is)
    (case a_Lcells => k_is)
    (case l_Lcells => k_is)
    (case c_Lcells => k_is)
    (case k_Lcells => k_is)
    (case a_Ltable => k_is)
    (case l_Ltable => k_is)
    (case c_Ltable => k_is)
    (case k_Ltable => k_is)
    (case a_Lmay_end => k_is)
    (case l_Lmay_end => k_is)
    (case c_Lmay_end => k_is)
    (case k_Lmay_end => k_is)
    (case a_Ldivisions => k_is)
    (case l_Ldivisions => k_is)
    (case c_Ldivisions => k_is)
    (case k_Ldivisions => k_is)
    (case a_law => k_is)
    (case l_law => k_is)
    (case c_law => k_is)
    (case k_law => k_is)
    (case z_len => k_is)
    (case z_range => k_is)
    (case z_any => k_is)
    (case z_int => k_is)
    (case z_tuple => k_is)
    (case z_min => k_is)
    (case z_isinstance => k_is)
    (case z_list => k_is)


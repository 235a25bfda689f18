import PyProof.Rows.All
import Wide.All
import OpenK.AllK
import Wide.FinOn
import HandS.ForMost
import HandS.Deep
import HandS.TupAny
import KE.DatumOrd
import HandS.SortKw
import HandS.IsInst
import PySem.Challenge.RW_boundbook_k01_narrowest_widths
set_option Elab.async false
set_option linter.all false
set_option maxRecDepth 100000
set_option maxHeartbeats 8000000
/-! Mir: pure data (PyData) for what a def handles, an environment by slots with lists that are owned, and what a piece of code does to it. -/
namespace Mir
open PySem PySem.Spec PyProof.Rows L2

/-! ### data in the heap; S: where its lists may stand -/
/-- a list of the written part -/
def KL (K : PySem.W.Frag) (a : Addr) (xs : List V) : Prop := ∃ (o : Obj) (its : Array Value) (n : Nat), K.lookup a = some o ∧ o.cls = .type "list" ∧ o.dict = none ∧ o.data = .seq its n ∧ its.size ≤ sizeLine ∧ Vals xs its.toList
def LsAt (K : PySem.W.Frag) (S : Addr → Prop) (H : Hp) (a : Addr) (xs : List V) : Prop := (S a ∧ Rd H a (.lst xs)) ∨ KL K a xs
theorem LsAt.sq {K : PySem.W.Frag} {S : Addr → Prop} {H : Hp} {a : Addr} {xs : List V} (h : LsAt K S H a xs) : SqL K H a xs := h.imp (fun z => z.2) id
theorem LsAt.of {K : PySem.W.Frag} {S : Addr → Prop} {H : Hp} {a : Addr} {xs : List V} (s : S a) (h : SqL K H a xs) : LsAt K S H a xs := h.imp (fun z => ⟨s, z⟩) id
mutual
def Rp (K : PySem.W.Frag) (S : Addr → Prop) (H : Hp) : PyData → V → Prop
  | .none, v => v = .non
  | .bool b, v => v = .bl b
  | .int i, v => v = .int i
  | .str x, v => v = .str x
  | .list ds, v => ∃ a xs, v = .ref a ∧ LsAt K S H a xs ∧ RpA K S H ds xs
  | .tuple ds, v => ∃ a xs, v = .ref a ∧ SqT K H a xs ∧ RpA K S H ds xs
  | .dict _, _ => False
def RpA (K : PySem.W.Frag) (S : Addr → Prop) (H : Hp) : List PyData → List V → Prop
  | [], vs => vs = []
  | d :: ds, vs => ∃ v r, vs = v :: r ∧ Rp K S H d v ∧ RpA K S H ds r
end
section
variable {K : PySem.W.Frag} {S S' : Addr → Prop} {H H' : Hp}
mutual
theorem Rp.mono (hL : ∀ a xs, S a → Rd H a (.lst xs) → S' a ∧ Rd H' a (.lst xs)) (hT : ∀ a xs, SqT K H a xs → SqT K H' a xs) : ∀ (d : PyData) (v : V), Rp K S H d v → Rp K S' H' d v
  | .none, _, h => by rw [Rp] at h ⊢; exact h
  | .bool _, _, h => by rw [Rp] at h ⊢; exact h
  | .int _, _, h => by rw [Rp] at h ⊢; exact h
  | .str _, _, h => by rw [Rp] at h ⊢; exact h
  | .list ds, _, h => by
    rw [Rp] at h ⊢
    obtain ⟨a, xs, e, q, r⟩ := h
    exact ⟨a, xs, e, q.imp (fun z => hL a xs z.1 z.2) id, RpA.mono hL hT ds xs r⟩
  | .tuple ds, _, h => by
    rw [Rp] at h ⊢
    obtain ⟨a, xs, e, q, r⟩ := h
    exact ⟨a, xs, e, hT a xs q, RpA.mono hL hT ds xs r⟩
  | .dict _, _, h => by rw [Rp] at h; exact h.elim
theorem RpA.mono (hL : ∀ a xs, S a → Rd H a (.lst xs) → S' a ∧ Rd H' a (.lst xs)) (hT : ∀ a xs, SqT K H a xs → SqT K H' a xs) : ∀ (ds : List PyData) (vs : List V), RpA K S H ds vs → RpA K S' H' ds vs
  | [], _, h => by rw [RpA] at h ⊢; exact h
  | d :: ds, _, h => by
    rw [RpA] at h ⊢
    obtain ⟨v, r, e, h1, h2⟩ := h
    exact ⟨v, r, e, Rp.mono hL hT d v h1, RpA.mono hL hT ds r h2⟩
end
theorem same_rd {a : Addr} {u : HO} (e : Same H H') (h : Rd H a u) : Rd H' a u := by
  rcases h with h | ⟨o, h⟩
  · exact .inl (e _ _ h)
  · exact .inr ⟨o, e _ _ h⟩
theorem same_t {a : Addr} {xs : List V} (e : Same H H') (h : SqT K H a xs) : SqT K H' a xs := by
  rcases h with h | h
  · exact .inl (same_rd e h)
  · exact .inr h
theorem Rp.grow (e : Same H H') {d : PyData} {v : V} (h : Rp K S H d v) : Rp K S H' d v := Rp.mono (fun _ _ s q => ⟨s, same_rd e q⟩) (fun _ _ q => same_t e q) d v h
theorem RpA.grow (e : Same H H') {ds : List PyData} {vs : List V} (h : RpA K S H ds vs) : RpA K S H' ds vs := RpA.mono (fun _ _ s q => ⟨s, same_rd e q⟩) (fun _ _ q => same_t e q) ds vs h
theorem Rp.wide (w : ∀ a, S a → S' a) {d : PyData} {v : V} (h : Rp K S H d v) : Rp K S' H d v := Rp.mono (fun _ _ s q => ⟨w _ s, q⟩) (fun _ _ q => q) d v h
theorem RpA.wide (w : ∀ a, S a → S' a) {ds : List PyData} {vs : List V} (h : RpA K S H ds vs) : RpA K S' H ds vs := RpA.mono (fun _ _ s q => ⟨w _ s, q⟩) (fun _ _ q => q) ds vs h
theorem RpA.length : ∀ {ds : List PyData} {vs : List V}, RpA K S H ds vs → vs.length = ds.length
  | [], _, h => by rw [RpA] at h; rw [h]; rfl
  | d :: ds, _, h => by
    rw [RpA] at h
    obtain ⟨v, r, e, _, h2⟩ := h
    rw [e, List.length_cons, List.length_cons, RpA.length h2]
theorem RpA.get : ∀ {ds : List PyData} {vs : List V} {i : Nat} {d : PyData}, RpA K S H ds vs → ds[i]? = some d → ∃ v, vs[i]? = some v ∧ Rp K S H d v
  | [], _, _, _, _, e => by simp at e
  | d :: ds, _, 0, d', h, e => by
    rw [RpA] at h
    obtain ⟨v, r, rfl, h1, _⟩ := h
    simp at e
    subst e
    exact ⟨v, rfl, h1⟩
  | d :: ds, _, i + 1, d', h, e => by
    rw [RpA] at h
    obtain ⟨v, r, rfl, _, h2⟩ := h
    obtain ⟨u, e1, e2⟩ := RpA.get (i := i) (d := d') h2 (by simpa using e)
    exact ⟨u, by simpa using e1, e2⟩
theorem RpA.append : ∀ {ds es : List PyData} {vs us : List V}, RpA K S H ds vs → RpA K S H es us → RpA K S H (ds ++ es) (vs ++ us)
  | [], _, _, _, h, g => by rw [RpA] at h; subst h; exact g
  | d :: ds, _, _, _, h, g => by
    rw [RpA] at h
    obtain ⟨v, r, rfl, h1, h2⟩ := h
    show RpA K S H (d :: (ds ++ _)) (v :: (r ++ _))
    rw [RpA]
    exact ⟨v, _, rfl, h1, RpA.append h2 g⟩
theorem RpA.nil : RpA K S H [] [] := by rw [RpA]
theorem RpA.cons {d : PyData} {v : V} {ds : List PyData} {vs : List V} (h : Rp K S H d v) (g : RpA K S H ds vs) : RpA K S H (d :: ds) (v :: vs) := by
  rw [RpA]
  exact ⟨v, vs, rfl, h, g⟩
theorem RpA.set : ∀ {ds : List PyData} {vs : List V} {i : Nat} {d : PyData} {v : V}, RpA K S H ds vs → Rp K S H d v → RpA K S H (ds.set i d) (vs.set i v)
  | [], _, _, _, _, h, _ => by rw [RpA] at h; subst h; exact RpA.nil
  | e :: ds, _, 0, d', v', h, g => by
    rw [RpA] at h
    obtain ⟨v, r, rfl, h1, h2⟩ := h
    exact RpA.cons g h2
  | e :: ds, _, i + 1, d', v', h, g => by
    rw [RpA] at h
    obtain ⟨v, r, rfl, h1, h2⟩ := h
    exact RpA.cons h1 (RpA.set h2 g)
theorem RpA.take : ∀ {ds : List PyData} {vs : List V} (n : Nat), RpA K S H ds vs → RpA K S H (ds.take n) (vs.take n)
  | _, _, 0, _ => by simpa using RpA.nil
  | [], _, n + 1, h => by rw [RpA] at h; subst h; exact RpA.nil
  | e :: ds, _, n + 1, h => by
    rw [RpA] at h
    obtain ⟨v, r, rfl, h1, h2⟩ := h
    exact RpA.cons h1 (RpA.take n h2)
theorem RpA.drop : ∀ {ds : List PyData} {vs : List V} (n : Nat), RpA K S H ds vs → RpA K S H (ds.drop n) (vs.drop n)
  | _, _, 0, h => by simpa using h
  | [], _, n + 1, h => by rw [RpA] at h; subst h; exact RpA.nil
  | e :: ds, _, n + 1, h => by
    rw [RpA] at h
    obtain ⟨v, r, rfl, h1, h2⟩ := h
    exact RpA.drop n h2
mutual
theorem Rp.dp : ∀ (d : PyData) (v : V), Rp K S H d v → Dp K H v d
  | .none, _, h => by rw [Rp] at h; subst h; exact .non
  | .bool b, _, h => by rw [Rp] at h; subst h; exact .bl b
  | .int i, _, h => by rw [Rp] at h; subst h; exact .int i
  | .str x, _, h => by rw [Rp] at h; subst h; exact .str x
  | .list ds, _, h => by
    rw [Rp] at h
    obtain ⟨a, xs, rfl, q, r⟩ := h
    exact .lst q.sq (RpA.dp ds xs r)
  | .tuple ds, _, h => by
    rw [Rp] at h
    obtain ⟨a, xs, rfl, q, r⟩ := h
    exact .tup q (RpA.dp ds xs r)
  | .dict _, _, h => by rw [Rp] at h; exact h.elim
theorem RpA.dp : ∀ (ds : List PyData) (vs : List V), RpA K S H ds vs → DpAll K H vs ds
  | [], _, h => by rw [RpA] at h; subst h; exact .nil
  | d :: ds, _, h => by
    rw [RpA] at h
    obtain ⟨v, r, rfl, h1, h2⟩ := h
    exact .cons (Rp.dp d v h1) (RpA.dp ds r h2)
end
/-! data without lists -/
mutual
def noL : PyData → Bool
  | .list _ => false
  | .tuple ds => noLA ds
  | .dict _ => false
  | .none => true
  | .bool _ => true
  | .int _ => true
  | .str _ => true
def noLA : List PyData → Bool
  | [] => true
  | d :: ds => noL d && noLA ds
end
mutual
theorem Rp.noL : ∀ (d : PyData) (v : V), noL d = true → Rp K S H d v → Rp K S' H d v
  | .none, _, _, h => by rw [Rp] at h ⊢; exact h
  | .bool _, _, _, h => by rw [Rp] at h ⊢; exact h
  | .int _, _, _, h => by rw [Rp] at h ⊢; exact h
  | .str _, _, _, h => by rw [Rp] at h ⊢; exact h
  | .list ds, _, n, _ => by rw [Mir.noL] at n; cases n
  | .tuple ds, _, n, h => by
    rw [Rp] at h ⊢
    rw [Mir.noL] at n
    obtain ⟨a, xs, e, q, r⟩ := h
    exact ⟨a, xs, e, q, RpA.noL ds xs n r⟩
  | .dict _, _, _, h => by rw [Rp] at h; exact h.elim
theorem RpA.noL : ∀ (ds : List PyData) (vs : List V), noLA ds = true → RpA K S H ds vs → RpA K S' H ds vs
  | [], _, _, h => by rw [RpA] at h ⊢; exact h
  | d :: ds, _, n, h => by
    rw [RpA] at h ⊢
    rw [noLA, Bool.and_eq_true] at n
    obtain ⟨v, r, e, h1, h2⟩ := h
    exact ⟨v, r, e, Rp.noL d v n.1 h1, RpA.noL ds r n.2 h2⟩
end
end

/-! ### the environment -/
inductive Sl where
  | un
  | val (d : PyData)
  | own (ds : List PyData)
abbrev En := List Sl
def Bd (S0 : Addr → Prop) (H0 : Hp) : Addr → Prop := fun a => S0 a ∨ H0 a = none
def Cl (S0 : Addr → Prop) (H0 : Hp) (A : Addr → Prop) : Addr → Prop := fun a => Bd S0 H0 a ∧ ¬ A a
def SC (c : Bool) (S0 : Addr → Prop) (H0 : Hp) (A : Addr → Prop) : Addr → Prop := fun a => c = true → Cl S0 H0 A a
def SlOk (K : PySem.W.Frag) (S A : Addr → Prop) (H : Hp) : Sl → V → Prop
  | .un, _ => True
  | .val d, v => Rp K S H d v
  | .own ds, v => ∃ a xs, v = .ref a ∧ A a ∧ H a = some (.lst xs) ∧ RpA K S H ds xs
structure EnvOk (K : PySem.W.Frag) (S0 : Addr → Prop) (H0 : Hp) (A : Addr → Prop) (H : Hp) (σ : L2.St) (env : En) : Prop where
  len : σ.length = env.length
  sl : ∀ (i : Nat) (s : Sl), env[i]? = some s → s = .un ∨ ∃ v, σ[i]? = some (some v) ∧ SlOk K (Cl S0 H0 A) A H s v
  dis : ∀ (i j : Nat) (ds es : List PyData) (a : Addr), env[i]? = some (.own ds) → env[j]? = some (.own es) → σ[i]? = some (some (.ref a)) → σ[j]? = some (some (.ref a)) → i = j
  tr : ∀ a, A a → ∃ xs, H a = some (.lst xs)
  nw : ∀ a, A a → H0 a = none
  same : Same H0 H
def Fr (A : Addr → Prop) (H H' : Hp) : Prop := ∀ a o, H a = some o → ¬ A a → H' a = some o
def Sb (A : Addr → Prop) (H : Hp) (A' : Addr → Prop) : Prop := ∀ a, A' a → A a ∨ H a = none
section
variable {K : PySem.W.Frag} {S0 S : Addr → Prop} {H0 H H' H'' : Hp} {A A' A'' : Addr → Prop} {σ : L2.St} {env : En}
theorem Fr.of_same (e : Same H H') : Fr A H H' := fun a o h _ => e a o h
theorem Fr.refl : Fr A H H := fun _ _ h _ => h
theorem Sb.refl : Sb A H A := fun _ h => .inl h
theorem Fr.trans (h1 : Fr A H H') (s1 : Sb A H A') (h2 : Fr A' H' H'') : Fr A H H'' := fun a o h n => h2 a o (h1 a o h n) fun z => by
  rcases s1 a z with q | q
  · exact n q
  · rw [h] at q; cases q
theorem Sb.trans (h1 : Fr A H H') (s1 : Sb A H A') (s2 : Sb A' H' A'') : Sb A H A'' := fun a z => by
  rcases s2 a z with q | q
  · exact s1 a q
  · cases e : H a with
    | none => exact .inr rfl
    | some o =>
      by_cases n : A a
      · exact .inl n
      · rw [h1 a o e n] at q; cases q
theorem cl_new (E : EnvOk K S0 H0 A H σ env) {p : Addr} (h : H p = none) : Cl S0 H0 A p := by
  refine ⟨.inr (E.same.free h), fun z => ?_⟩
  obtain ⟨xs, q⟩ := E.tr p z
  rw [h] at q; cases q
theorem sc_new (E : EnvOk K S0 H0 A H σ env) {c : Bool} {p : Addr} (h : H p = none) : SC c S0 H0 A p := fun _ => cl_new E h
theorem SlOk.grow (e : Same H H') {s : Sl} {v : V} (h : SlOk K S A H s v) : SlOk K S A H' s v := by
  cases s with
  | un => trivial
  | val d => exact Rp.grow e h
  | own ds =>
    obtain ⟨a, xs, e1, ha, hh, r⟩ := h
    exact ⟨a, xs, e1, ha, e _ _ hh, RpA.grow e r⟩
theorem EnvOk.grow (E : EnvOk K S0 H0 A H σ env) (e : Same H H') : EnvOk K S0 H0 A H' σ env where
  len := E.len
  sl := fun i s h => (E.sl i s h).imp id fun ⟨v, h1, h2⟩ => ⟨v, h1, h2.grow e⟩
  dis := E.dis
  tr := fun a h => let ⟨xs, q⟩ := E.tr a h; ⟨xs, e _ _ q⟩
  nw := E.nw
  same := E.same.trans e
theorem set_get {α : Type} {l : List α} {i j : Nat} {x y : α} (h : (l.set i x)[j]? = some y) : (i = j ∧ j < l.length ∧ y = x) ∨ (i ≠ j ∧ l[j]? = some y) := by
  rw [List.getElem?_set] at h
  by_cases e : i = j
  · rw [if_pos e] at h
    by_cases q : i < l.length
    · rw [if_pos q] at h
      exact .inl ⟨e, e ▸ q, (Option.some.inj h).symm⟩
    · rw [if_neg q] at h; cases h
  · rw [if_neg e] at h
    exact .inr ⟨e, h⟩
theorem set_self {α : Type} {l : List α} {i : Nat} {x : α} (h : i < l.length) : (l.set i x)[i]? = some x := by simp [h]
theorem set_other {α : Type} {l : List α} {i j : Nat} {x : α} (h : i ≠ j) : (l.set i x)[j]? = l[j]? := by simp [List.getElem?_set, h]
theorem EnvOk.set_val (E : EnvOk K S0 H0 A H σ env) {i : Nat} {d : PyData} {v : V} (h : Rp K (Cl S0 H0 A) H d v) : EnvOk K S0 H0 A H (σ.set i (some v)) (env.set i (.val d)) where
  len := by simp [E.len]
  sl := fun j s q => by
    rcases set_get q with ⟨rfl, l, rfl⟩ | ⟨n, q⟩
    · exact .inr ⟨v, set_self (by rw [E.len]; exact l), h⟩
    · rw [set_other n]
      exact E.sl j s q
  dis := fun j k ds es a q1 q2 q3 q4 => by
    rcases set_get q1 with ⟨_, _, z⟩ | ⟨n1, q1⟩
    · cases z
    rcases set_get q2 with ⟨_, _, z⟩ | ⟨n2, q2⟩
    · cases z
    rw [set_other n1] at q3
    rw [set_other n2] at q4
    exact E.dis j k ds es a q1 q2 q3 q4
  tr := E.tr
  nw := E.nw
  same := E.same
/-- a fresh list is kept by the slot i alone -/
theorem EnvOk.set_own (E : EnvOk K S0 H0 A H σ env) {i : Nat} {ds : List PyData} {xs : List V} {p : Addr} (hs : Same H H') (hn : H p = none) (hp : H' p = some (.lst xs)) (h : RpA K (fun a => Cl S0 H0 A a ∧ a ≠ p) H' ds xs) :
    EnvOk K S0 H0 (fun a => A a ∨ a = p) H' (σ.set i (some (.ref p))) (env.set i (.own ds)) where
  len := by simp [E.len]
  sl := fun j s q => by
    have wd : ∀ a, (Cl S0 H0 A a ∧ a ≠ p) → Cl S0 H0 (fun a => A a ∨ a = p) a := fun a z => ⟨z.1.1, fun y => y.elim z.1.2 z.2⟩
    rcases set_get q with ⟨rfl, l, rfl⟩ | ⟨n, q⟩
    · exact .inr ⟨_, set_self (by rw [E.len]; exact l), p, xs, rfl, .inr rfl, hp, h.wide wd⟩
    · rw [set_other n]
      refine (E.sl j s q).imp id fun ⟨v, h1, h2⟩ => ⟨v, h1, ?_⟩
      have hL : ∀ a ys, Cl S0 H0 A a → Rd H a (.lst ys) → Cl S0 H0 (fun a => A a ∨ a = p) a ∧ Rd H' a (.lst ys) := fun a ys z r => ⟨wd a ⟨z, fun e => by
        subst e
        rcases r with r | ⟨o, r⟩ <;> (rw [hn] at r; cases r)⟩, same_rd hs r⟩
      cases s with
      | un => trivial
      | val d => exact Rp.mono hL (fun _ _ z => same_t hs z) d v h2
      | own es =>
        obtain ⟨a, ys, e1, ha, hh, r⟩ := h2
        exact ⟨a, ys, e1, .inl ha, hs _ _ hh, RpA.mono hL (fun _ _ z => same_t hs z) es ys r⟩
  dis := fun j k es fs a q1 q2 q3 q4 => by
    have no : ∀ (m : Nat) (gs : List PyData), env[m]? = some (.own gs) → σ[m]? ≠ some (some (.ref p)) := fun m gs g1 g2 => by
      rcases E.sl m _ g1 with z | ⟨v, z1, b, ys, z2, _, z4, _⟩
      · cases z
      · rw [g2] at z1
        cases z1
        cases z2
        rw [hn] at z4; cases z4
    rcases set_get q1 with ⟨rfl, l1, z⟩ | ⟨n1, q1⟩
    · rcases set_get q2 with ⟨e2, l2, z2⟩ | ⟨n2, q2⟩
      · exact e2
      · rw [set_self (by rw [E.len]; exact l1)] at q3
        cases q3
        rw [set_other n2] at q4
        exact absurd q4 (no k _ q2)
    · rw [set_other n1] at q3
      rcases set_get q2 with ⟨rfl, l2, z2⟩ | ⟨n2, q2⟩
      · rw [set_self (by rw [E.len]; exact l2)] at q4
        cases q4
        exact absurd q3 (no j _ q1)
      · rw [set_other n2] at q4
        exact E.dis j k es fs a q1 q2 q3 q4
  tr := fun a h => by
    rcases h with h | rfl
    · obtain ⟨ys, q⟩ := E.tr a h
      exact ⟨ys, hs _ _ q⟩
    · exact ⟨xs, hp⟩
  nw := fun a h => by
    rcases h with h | rfl
    · exact E.nw a h
    · exact E.same.free hn
  same := E.same.trans hs
/-- an owned list is changed -/
theorem EnvOk.mut (E : EnvOk K S0 H0 A H σ env) {i : Nat} {ds ds' : List PyData} {xs xs' : List V} {a : Addr} (hi : env[i]? = some (.own ds)) (hv : σ[i]? = some (some (.ref a))) (ha : A a) (hp : H a = some (.lst xs)) (h : RpA K (Cl S0 H0 A) H ds' xs') :
    EnvOk K S0 H0 A (upd H a (.lst xs')) σ (env.set i (.own ds')) := by
  have hL : ∀ b ys, Cl S0 H0 A b → Rd H b (.lst ys) → Cl S0 H0 A b ∧ Rd (upd H a (.lst xs')) b (.lst ys) := fun b ys z r => ⟨z, by
    have n : b ≠ a := fun e => z.2 (e ▸ ha)
    rcases r with r | ⟨o, r⟩
    · exact .inl (by rw [upd_ne n]; exact r)
    · exact .inr ⟨o, by rw [upd_ne n]; exact r⟩⟩
  have hT : ∀ b ys, SqT K H b ys → SqT K (upd H a (.lst xs')) b ys := fun b ys r => by
    rcases r with (r | ⟨o, r⟩) | r
    · have n : b ≠ a := fun e => by subst e; rw [hp] at r; cases r
      exact .inl (.inl (by rw [upd_ne n]; exact r))
    · have n : b ≠ a := fun e => by subst e; rw [hp] at r; cases r
      exact .inl (.inr ⟨o, by rw [upd_ne n]; exact r⟩)
    · exact .inr r
  have hl : i < env.length := by
    obtain ⟨q, _⟩ := List.getElem?_eq_some_iff.mp hi
    exact q
  refine ⟨by simp [E.len], fun j s q => ?_, fun j k es fs b q1 q2 q3 q4 => ?_, fun b hb => ?_, E.nw, fun b o q => ?_⟩
  · rcases set_get q with ⟨rfl, l, rfl⟩ | ⟨n, q⟩
    · exact .inr ⟨_, hv, a, xs', rfl, ha, upd_same, RpA.mono hL hT _ _ h⟩
    · refine (E.sl j s q).imp id fun ⟨v, h1, h2⟩ => ⟨v, h1, ?_⟩
      cases s with
      | un => trivial
      | val d => exact Rp.mono hL hT d v h2
      | own es =>
        obtain ⟨b, ys, e1, hb, hh, r⟩ := h2
        subst e1
        have nb : b ≠ a := fun e => n (E.dis i j ds es a hi q hv (by rw [h1, e]))
        exact ⟨b, ys, rfl, hb, by rw [upd_ne nb]; exact hh, RpA.mono hL hT es ys r⟩
  · have back : ∀ (m : Nat) (gs : List PyData), (env.set i (.own ds'))[m]? = some (.own gs) → ∃ hs, env[m]? = some (.own hs) := fun m gs g => by
      rcases set_get g with ⟨rfl, _, _⟩ | ⟨_, g⟩
      · exact ⟨ds, hi⟩
      · exact ⟨gs, g⟩
    obtain ⟨es', r1⟩ := back j es q1
    obtain ⟨fs', r2⟩ := back k fs q2
    exact E.dis j k es' fs' b r1 r2 q3 q4
  · by_cases e : b = a
    · subst e
      exact ⟨xs', upd_same⟩
    · obtain ⟨ys, q⟩ := E.tr b hb
      exact ⟨ys, by rw [upd_ne e]; exact q⟩
  · have n : b ≠ a := fun e => by
      subst e
      have z := E.nw b ha
      rw [q] at z; cases z
    rw [upd_ne n]
    exact E.same b o q
def frz (i : Nat) (env : En) : En := match env[i]? with
  | some (.own ds) => env.set i (.val (.list ds))
  | _ => env
theorem EnvOk.frz (E : EnvOk K S0 H0 A H σ env) (i : Nat) : ∃ A', EnvOk K S0 H0 A' H σ (Mir.frz i env) ∧ ∀ a, A' a → A a := by
  unfold Mir.frz
  split
  · rename_i ds hi
    rcases E.sl i _ hi with z | ⟨v, h1, a, xs, rfl, ha, hh, r⟩
    · cases z
    have wd : ∀ b, Cl S0 H0 A b → Cl S0 H0 (fun b => A b ∧ b ≠ a) b := fun b z => ⟨z.1, fun y => z.2 y.1⟩
    refine ⟨fun b => A b ∧ b ≠ a, ⟨by simp [E.len], fun j s q => ?_, fun j k es fs b q1 q2 q3 q4 => ?_, fun b hb => E.tr b hb.1, fun b hb => E.nw b hb.1, E.same⟩, fun _ z => z.1⟩
    · rcases set_get q with ⟨rfl, l, rfl⟩ | ⟨n, q⟩
      · refine .inr ⟨_, h1, ?_⟩
        show Rp K _ H (.list ds) _
        rw [Rp]
        exact ⟨a, xs, rfl, .inl ⟨⟨.inr (E.nw a ha), fun y => y.2 rfl⟩, .inl hh⟩, r.wide wd⟩
      · refine (E.sl j s q).imp id fun ⟨v, h2, h3⟩ => ⟨v, h2, ?_⟩
        cases s with
        | un => trivial
        | val d => exact Rp.wide wd h3
        | own es =>
          obtain ⟨b, ys, e1, hb, hh', r'⟩ := h3
          subst e1
          have nb : b ≠ a := fun e => n (E.dis i j ds es a hi q h1 (by rw [h2, e]))
          exact ⟨b, ys, rfl, ⟨hb, nb⟩, hh', r'.wide wd⟩
    · rcases set_get q1 with ⟨_, _, z⟩ | ⟨n1, q1⟩
      · cases z
      rcases set_get q2 with ⟨_, _, z⟩ | ⟨n2, q2⟩
      · cases z
      exact E.dis j k es fs b q1 q2 q3 q4
  · exact ⟨A, E, fun _ z => z⟩
end
end Mir

namespace Mir
open PySem PySem.Spec PyProof.Rows L2

/-! ### readings -/
def tE (K : PySem.W.Frag) (c : Bool) (f : En → Option PyData) : TE := fun σ H Q => ∃ S0 H0 A env d, EnvOk K S0 H0 A H σ env ∧ f env = some d ∧ ∀ v H', Same H H' → Rp K (SC c S0 H0 A) H' d v → Q v H'
/-- a fresh list -/
def tF (K : PySem.W.Frag) (c : Bool) (f : En → Option (List PyData)) : TE := fun σ H Q => ∃ S0 H0 A env ds, EnvOk K S0 H0 A H σ env ∧ f env = some ds ∧ ∀ p xs H', H p = none → Same H H' → H' p = some (.lst xs) → RpA K (fun a => SC c S0 H0 A a ∧ a ≠ p) H' ds xs → Q (.ref p) H'
def tT (K : PySem.W.Frag) (f : En → Option Bool) : TT := fun σ H Q => ∃ S0 H0 A env b, EnvOk K S0 H0 A H σ env ∧ f env = some b ∧ ∀ H', Same H H' → Q b H'
def tA (K : PySem.W.Frag) (c : Bool) (f : En → Option (List PyData)) : TA := fun σ H Q => ∃ S0 H0 A env ds, EnvOk K S0 H0 A H σ env ∧ f env = some ds ∧ ∀ vs H', Same H H' → RpA K (SC c S0 H0 A) H' ds vs → Q vs H'
/-- a target: touches the slots vs alone -/
def tG (K : PySem.W.Frag) (vs : List Nat) (g : PyData → En → Option En) : TG := fun v σ H Q => ∃ S0 H0 A env d env', EnvOk K S0 H0 A H σ env ∧ Rp K (Cl S0 H0 A) H d v ∧ g d env = some env' ∧ ∀ σ', EnvOk K S0 H0 A H σ' env' → wipe σ' vs = wipe σ vs → Q σ' H

inductive Out where
  | nx (e : En)
  | bk (e : En)
  | ct (e : En)
  | rt (d : PyData)
  | bad
def OutOk (K : PySem.W.Frag) (S0 : Addr → Prop) (H0 : Hp) (A : Addr → Prop) (H : Hp) (o : Out) (D : Ends) : Prop := match o with
  | .nx e => ∀ A' H' σ', EnvOk K S0 H0 A' H' σ' e → Fr A H H' → Sb A H A' → D.nx σ' H'
  | .bk e => ∀ A' H' σ', EnvOk K S0 H0 A' H' σ' e → Fr A H H' → Sb A H A' → D.bk σ' H'
  | .ct e => ∀ A' H' σ', EnvOk K S0 H0 A' H' σ' e → Fr A H H' → Sb A H A' → D.ct σ' H'
  | .rt d => ∀ v H', Same H0 H' → Rp K (Bd S0 H0) H' d v → D.rt v H'
  | .bad => False
def tS (K : PySem.W.Frag) (f : En → Out) : TS := fun D σ H => ∃ S0 H0 A env, EnvOk K S0 H0 A H σ env ∧ OutOk K S0 H0 A H (f env) D

section
variable {K : PySem.W.Frag} {S0 S : Addr → Prop} {H0 H H' H'' : Hp} {A A' A'' : Addr → Prop} {σ : L2.St} {env : En} {D : Ends}
theorem OutOk.step {o : Out} (h : OutOk K S0 H0 A H o D) (f : Fr A H H') (s : Sb A H A') : OutOk K S0 H0 A' H' o D := by
  cases o with
  | nx e => exact fun A2 H2 σ2 E f2 s2 => h A2 H2 σ2 E (f.trans s f2) (Sb.trans f s s2)
  | bk e => exact fun A2 H2 σ2 E f2 s2 => h A2 H2 σ2 E (f.trans s f2) (Sb.trans f s s2)
  | ct e => exact fun A2 H2 σ2 E f2 s2 => h A2 H2 σ2 E (f.trans s f2) (Sb.trans f s s2)
  | rt d => exact h
  | bad => exact h
theorem sc_cl {c : Bool} {a : Addr} (h : Cl S0 H0 A a) : SC c S0 H0 A a := fun _ => h
theorem cl_sc {a : Addr} (h : SC true S0 H0 A a) : Cl S0 H0 A a := h rfl
end

section
variable {X : Cx} {a b e : Expr} {es : List Expr} {pos : Pos} {c c1 c2 : Bool} {f g : En → Option PyData} {fa : En → Option (List PyData)} {fb : En → Option Bool}
theorem pe_w {t t' : TE} (h : PE X e t) (w : ∀ σ H Q, t' σ H Q → t σ H Q) : PE X e t' := ⟨fun pins s σ H Q I q => h.run pins s σ H Q I (w σ H Q q)⟩
theorem pt_w {t t' : TT} (h : PT X e t) (w : ∀ σ H Q, t' σ H Q → t σ H Q) : PT X e t' := ⟨fun pins s σ H Q I q => h.run pins s σ H Q I (w σ H Q q)⟩
theorem pw_w {t t' : TT} (h : PW X e t) (w : ∀ σ H Q, t' σ H Q → t σ H Q) : PW X e t' := ⟨fun wh pins s σ H Q I q => h.run wh pins s σ H Q I (w σ H Q q)⟩
theorem pa_w {t t' : TA} (h : PA X es t) (w : ∀ σ H Q, t' σ H Q → t σ H Q) : PA X es t' := ⟨fun pos pins s σ H Q I q => h.run pos pins s σ H Q I (w σ H Q q)⟩
theorem ps_w {st : Stmt} {t t' : TS} (h : PS X st t) (w : ∀ D σ H, t' D σ H → t D σ H) : PS X st t' := ⟨fun pins s σ H D I q => h.run pins s σ H D I (w D σ H q)⟩
theorem pss_w {st : List Stmt} {t t' : TS} (h : PSs X st t) (w : ∀ D σ H, t' D σ H → t D σ H) : PSs X st t' := ⟨fun pins s σ H D I q => h.run pins s σ H D I (w D σ H q)⟩
theorem pg_w {tg : Expr} {t t' : TG} (h : PG X tg t) (w : ∀ v σ H Q, t' v σ H Q → t v σ H Q) : PG X tg t' := ⟨fun pins s σ H v u Q I r q => h.run pins s σ H v u Q I r (w v σ H Q q)⟩

/-- what is clean may be borrowed -/
theorem ce_b (h : PE X e (tE X.K true f)) : PE X e (tE X.K false f) := pe_w h fun σ H Q ⟨S0, H0, A, env, d, E, hf, q⟩ =>
  ⟨S0, H0, A, env, d, E, hf, fun v H' s r => q v H' s (r.wide fun _ _ z => nomatch z)⟩
theorem ca_b (h : PA X es (tA X.K true fa)) : PA X es (tA X.K false fa) := pa_w h fun σ H Q ⟨S0, H0, A, env, d, E, hf, q⟩ =>
  ⟨S0, H0, A, env, d, E, hf, fun v H' s r => q v H' s (r.wide fun _ _ z => nomatch z)⟩
/-- a fresh list as a value -/
def eL (f : En → Option (List PyData)) : En → Option PyData := fun env => (f env).map .list
theorem ce_l (h : PE X e (tF X.K c fa)) : PE X e (tE X.K c (eL fa)) := pe_w h fun σ H Q ⟨S0, H0, A, env, d, E, hf, q⟩ => by
  unfold eL at hf
  cases hd : fa env with
  | none => rw [hd] at hf; cases hf
  | some ds =>
    rw [hd] at hf
    cases hf
    refine ⟨S0, H0, A, env, ds, E, hd, fun p xs H' hn s hp r => q _ H' s ?_⟩
    rw [Rp]
    exact ⟨p, xs, rfl, .inl ⟨sc_new E hn, .inl hp⟩, r.wide fun _ z => z.1⟩
/-- a value without lists is clean -/
def eN (f : En → Option PyData) : En → Option PyData := fun env => (f env).bind fun d => if noL d = true then some d else none
theorem ce_n (h : PE X e (tE X.K false f)) : PE X e (tE X.K c (eN f)) := pe_w h fun σ H Q ⟨S0, H0, A, env, d, E, hf, q⟩ => by
  unfold eN at hf
  cases hd : f env with
  | none => rw [hd] at hf; cases hf
  | some d' =>
    rw [hd] at hf
    by_cases n : noL d' = true
    · have hf' : (if noL d' = true then some d' else none) = some d := hf
      rw [if_pos n] at hf'
      cases hf'
      exact ⟨S0, H0, A, env, d, E, hd, fun v H' s r => q v H' s (Rp.noL d v n r)⟩
    · have hf' : (if noL d' = true then some d' else none) = some d := hf
      rw [if_neg n] at hf'; cases hf'

/-! ### names, constants -/
def eVar (i : Nat) : En → Option PyData := fun env => match env[i]? with
  | some (.val d) => some d
  | _ => none
def eBor (i : Nat) : En → Option PyData := fun env => match env[i]? with
  | some (.own ds) => some (.list ds)
  | _ => none
theorem ce_var {i : Nat} (h : PE X e (tVar i)) : PE X e (tE X.K true (eVar i)) := pe_w h fun σ H Q ⟨S0, H0, A, env, d, E, hf, q⟩ => by
  unfold eVar at hf
  split at hf
  · rename_i d' hi
    cases hf
    rcases E.sl i _ hi with z | ⟨v, h1, h2⟩
    · cases z
    · exact ⟨v, h1, q v H (Same.refl H) (Rp.wide (fun _ z => sc_cl z) h2)⟩
  · cases hf
theorem ce_bor {i : Nat} (h : PE X e (tVar i)) : PE X e (tE X.K false (eBor i)) := pe_w h fun σ H Q ⟨S0, H0, A, env, d, E, hf, q⟩ => by
  unfold eBor at hf
  split at hf
  · rename_i ds hi
    cases hf
    rcases E.sl i _ hi with z | ⟨v, h1, a, xs, rfl, ha, hh, r⟩
    · cases z
    · refine ⟨_, h1, q _ H (Same.refl H) ?_⟩
      rw [Rp]
      exact ⟨a, xs, rfl, .inl ⟨(fun z => nomatch z), .inl hh⟩, r.wide fun _ _ z => nomatch z⟩
  · cases hf
def eC (d : PyData) : En → Option PyData := fun _ => some d
theorem ce_c {v : V} {d : PyData} (h : PE X e (tC v)) (r : ∀ S H, Rp X.K S H d v) : PE X e (tE X.K true (eC d)) := pe_w h fun σ H Q ⟨S0, H0, A, env, d', E, hf, q⟩ => by
  cases hf
  exact q v H (Same.refl H) (r _ _)
theorem ce_int {i : Int} {j : Nat} : PE X (.Constant (.int i) j pos) (tE X.K true (eC (.int i))) := ce_c pe_int fun _ _ => by rw [Rp]
theorem ce_bl {i : Bool} {j : Nat} : PE X (.Constant (.bool i) j pos) (tE X.K true (eC (.bool i))) := ce_c pe_bl fun _ _ => by rw [Rp]
theorem ce_non {j : Nat} : PE X (.Constant .none j pos) (tE X.K true (eC .none)) := ce_c pe_non fun _ _ => by rw [Rp]
theorem ce_str {i : Str} {j : Nat} : PE X (.Constant (.str i) j pos) (tE X.K true (eC (.str i))) := ce_c pe_str fun _ _ => by rw [Rp]

/-! ### operations on two values -/
/-- sc: the value has no lists -/
def R2Ok (K : PySem.W.Frag) (sc : Bool) (r : R2) (h : PyData → PyData → Option PyData) : Prop := ∀ (S S' : Addr → Prop) (H : Hp) (x y : V) (dx dy d : PyData) (Q : VK), (∀ p, H p = none → S p) → (sc = true ∨ S' = S) → Rp K S H dx x → Rp K S H dy y → h dx dy = some d →
  (∀ v H', Same H H' → Rp K S' H' d v → Q v H') → r x y H Q
def e2 (h : PyData → PyData → Option PyData) (f g : En → Option PyData) : En → Option PyData := fun env => match f env with
  | some x => match g env with
    | some y => h x y
    | none => none
  | none => none
theorem e2_some {h : PyData → PyData → Option PyData} {env : En} {d : PyData} (q : e2 h f g env = some d) : ∃ x y, f env = some x ∧ g env = some y ∧ h x y = some d := by
  unfold e2 at q
  split at q
  · split at q
    · exact ⟨_, _, by assumption, by assumption, q⟩
    · cases q
  · cases q
theorem e2_run {K : PySem.W.Frag} {sc : Bool} {r : R2} {h : PyData → PyData → Option PyData} (R : R2Ok K sc r h) (hc : sc = true ∨ c2 = c1) {σ : L2.St} {H : Hp} {Q : VK} (q : tE K c2 (e2 h f g) σ H Q) : tOp r (tE K c1 f) (tE K c1 g) σ H Q := by
  obtain ⟨S0, H0, A, env, d, E, hf, q⟩ := q
  obtain ⟨x, y, h1, h2, h3⟩ := e2_some hf
  refine ⟨S0, H0, A, env, x, E, h1, fun v H1 s1 r1 => ⟨S0, H0, A, env, y, E.grow s1, h2, fun u H2 s2 r2 => ?_⟩⟩
  refine R (SC c1 S0 H0 A) (SC c2 S0 H0 A) H2 v u x y d Q (fun p hp => sc_new (E.grow (s1.trans s2)) hp) (hc.imp id fun z => by rw [z]) (r1.grow s2) r2 h3 fun z H3 s3 r3 => q z H3 ((s1.trans s2).trans s3) r3
theorem ce_op {op : Operator} {r : R2} {h : PyData → PyData → Option PyData} {sc : Bool} (ho : OpR X (binaryOp op) r) (R : R2Ok X.K sc r h) (ha : PE X a (tE X.K c1 f)) (hb : PE X b (tE X.K c1 g)) (hc : sc = true ∨ c2 = c1 := by first | exact .inl rfl | exact .inr rfl) :
    PE X (.BinOp a op b pos) (tE X.K c2 (e2 h f g)) := pe_w (pe_op ho ha hb) fun _ _ _ q => e2_run R hc q
theorem ce_cmp {op : CmpOp} {r : R2} {h : PyData → PyData → Option PyData} (ho : OpR X (compareOp op) r) (R : R2Ok X.K true r h) (ha : PE X a (tE X.K c1 f)) (hb : PE X b (tE X.K c1 g)) (hm : behindInMarks op b = false) :
    PE X (.Compare a [op] [b] pos) (tE X.K true (e2 h f g)) := pe_w (pe_cmpR ho ha hb hm) fun _ _ _ q => e2_run R (.inl rfl) q
/-- a value as a test -/
def t1 (f : En → Option PyData) : En → Option Bool := fun env => match f env with
  | some (.bool b) => some b
  | _ => none
theorem t1_some {env : En} {b : Bool} (q : t1 f env = some b) : f env = some (.bool b) := by
  unfold t1 at q
  split at q
  · rename_i h
    cases q
    exact h
  · cases q
theorem t1_run {K : PySem.W.Frag} {t : TE} {σ : L2.St} {H : Hp} {Q : Bool → Hp → Prop} (ht : ∀ Q, tE K c f σ H Q → t σ H Q) (q : tT K (t1 f) σ H Q) : t σ H fun x H1 => ∃ c, x = .bl c ∧ Q c H1 := by
  obtain ⟨S0, H0, A, env, d, E, hf, q⟩ := q
  refine ht _ ⟨S0, H0, A, env, _, E, t1_some hf, fun v H' s r => ⟨d, ?_, q H' s⟩⟩
  rw [Rp] at r
  exact r
theorem ct_cmp {op : CmpOp} {r : R2} {h : PyData → PyData → Option PyData} (ho : OpR X (compareOp op) r) (R : R2Ok X.K true r h) (ha : PE X a (tE X.K c1 f)) (hb : PE X b (tE X.K c1 g)) (hm : behindInMarks op b = false) :
    PT X (.Compare a [op] [b] pos) (tT X.K (t1 (e2 h f g))) := pt_w (pt_cmpR ho ha hb hm) fun σ H Q q => t1_run (c := true) (fun Q q => e2_run R (.inl rfl) q) q
theorem ct_val (ha : PE X e (tE X.K c f)) (he : ∀ whole, isTrue e X.env whole = (do let v ← whole; standAt e.pos; holding [v] (truthy v)) := by intro _; rfl) : PT X e (tT X.K (t1 f)) := pt_w (pt_val ha he) fun σ H Q q => t1_run (fun Q q => q) q

/-! ### truth -/
def truD : PyData → Option Bool
  | .none => some false
  | .bool b => some b
  | .int i => some (i != 0)
  | .str y => if y.length ≤ 1000000 then some ((y.length : Int) != 0) else none
  | .list ds => some (!ds.isEmpty)
  | .tuple ds => some (!ds.isEmpty)
  | .dict _ => none
theorem sz6 {n : Nat} (h : n ≤ 1000000) : n ≤ sizeLine := Nat.le_trans h (by decide)
theorem rpA_empty {K : PySem.W.Frag} {S : Addr → Prop} {H : Hp} {ds : List PyData} {xs : List V} (r : RpA K S H ds xs) : (!ds.isEmpty) = !xs.isEmpty := by
  cases ds with
  | nil => rw [RpA] at r; subst r; rfl
  | cons d ds =>
    rw [RpA] at r
    obtain ⟨v, r', rfl, _⟩ := r
    rfl
theorem truD_ok {K : PySem.W.Frag} {S : Addr → Prop} {H : Hp} {d : PyData} {v : V} {b : Bool} (r : Rp K S H d v) (h : truD d = some b) : TruV K v H b := by
  cases d with
  | none => rw [Rp] at r; subst r; cases h; rfl
  | bool k => rw [Rp] at r; subst r; cases h; rfl
  | int k => rw [Rp] at r; subst r; cases h; rfl
  | str k =>
    rw [Rp] at r; subst r
    simp only [truD] at h
    by_cases q : k.length ≤ 1000000
    · rw [if_pos q] at h; cases h; exact ⟨sz6 q, rfl⟩
    · rw [if_neg q] at h; cases h
  | list ds =>
    rw [Rp] at r
    obtain ⟨a, xs, rfl, q, r⟩ := r
    cases h
    exact .inl ⟨xs, q.sq, rpA_empty r⟩
  | tuple ds =>
    rw [Rp] at r
    obtain ⟨a, xs, rfl, q, r⟩ := r
    cases h
    exact .inr (.inl ⟨xs, q, rpA_empty r⟩)
  | dict k => cases h
def tTr (f : En → Option PyData) : En → Option Bool := fun env => (f env).bind truD
theorem ct_tru (ha : PE X e (tE X.K c f)) (he : ∀ whole, isTrue e X.env whole = (do let v ← whole; standAt e.pos; holding [v] (truthy v)) := by intro _; rfl) : PT X e (tT X.K (tTr f)) := pt_w (pt_truth ha he) fun σ H Q ⟨S0, H0, A, env, b, E, hf, q⟩ => by
  unfold tTr at hf
  cases hd : f env with
  | none => rw [hd] at hf; cases hf
  | some d =>
    rw [hd] at hf
    exact ⟨S0, H0, A, env, d, E, hd, fun v H' s r => ⟨b, truD_ok r hf, q H' s⟩⟩

/-! ### and, or, not -/
variable {ga gb : En → Option Bool} {rest : List Expr}
def tAnd' (ga gb : En → Option Bool) : En → Option Bool := fun env => match ga env with
  | some true => gb env
  | some false => some false
  | none => none
def tOr' (ga gb : En → Option Bool) : En → Option Bool := fun env => match ga env with
  | some true => some true
  | some false => gb env
  | none => none
def tNot' (ga : En → Option Bool) : En → Option Bool := fun env => (ga env).map (!·)
theorem and_run {K : PySem.W.Frag} {σ : L2.St} {H : Hp} {Q : Bool → Hp → Prop} (q : tT K (tAnd' ga gb) σ H Q) : tAnd (tT K ga) (tT K gb) σ H Q := by
  obtain ⟨S0, H0, A, env, b, E, hf, q⟩ := q
  unfold tAnd' at hf
  split at hf
  · rename_i h
    exact ⟨S0, H0, A, env, true, E, h, fun H' s => iteT <| ⟨S0, H0, A, env, b, E.grow s, hf, fun H2 s2 => q H2 (s.trans s2)⟩⟩
  · rename_i h
    cases hf
    exact ⟨S0, H0, A, env, false, E, h, fun H' s => iteF <| q H' s⟩
  · cases hf
theorem or_run {K : PySem.W.Frag} {σ : L2.St} {H : Hp} {Q : Bool → Hp → Prop} (q : tT K (tOr' ga gb) σ H Q) : tOr (tT K ga) (tT K gb) σ H Q := by
  obtain ⟨S0, H0, A, env, b, E, hf, q⟩ := q
  unfold tOr' at hf
  split at hf
  · rename_i h
    cases hf
    exact ⟨S0, H0, A, env, true, E, h, fun H' s => iteT <| q H' s⟩
  · rename_i h
    exact ⟨S0, H0, A, env, false, E, h, fun H' s => iteF <| ⟨S0, H0, A, env, b, E.grow s, hf, fun H2 s2 => q H2 (s.trans s2)⟩⟩
  · cases hf
theorem cw_and1 (ha : PT X a (tT X.K ga)) : PW X (.BoolOp .And [a] pos) (tT X.K ga) := pw_and1 ha
theorem cw_or1 (ha : PT X a (tT X.K ga)) : PW X (.BoolOp .Or [a] pos) (tT X.K ga) := pw_or1 ha
theorem cw_and (ha : PT X a (tT X.K ga)) (hb : PW X (.BoolOp .And (b :: rest) pos) (tT X.K gb)) : PW X (.BoolOp .And (a :: b :: rest) pos) (tT X.K (tAnd' ga gb)) := pw_w (pw_and ha hb) fun _ _ _ q => and_run q
theorem cw_or (ha : PT X a (tT X.K ga)) (hb : PW X (.BoolOp .Or (b :: rest) pos) (tT X.K gb)) : PW X (.BoolOp .Or (a :: b :: rest) pos) (tT X.K (tOr' ga gb)) := pw_w (pw_or ha hb) fun _ _ _ q => or_run q
theorem ct_not (ha : PT X a (tT X.K ga)) : PT X (.UnaryOp .Not a pos) (tT X.K (tNot' ga)) := pt_w (pt_not ha) fun σ H Q ⟨S0, H0, A, env, b, E, hf, q⟩ => by
  unfold tNot' at hf
  cases hd : ga env with
  | none => rw [hd] at hf; cases hf
  | some d =>
    rw [hd] at hf
    cases hf
    exact ⟨S0, H0, A, env, d, E, hd, q⟩
/-- and, or, not as values -/
def eB (ga : En → Option Bool) : En → Option PyData := fun env => (ga env).map .bool
theorem ce_one {op : BoolOp} (h : PE X a (tE X.K c f)) : PE X (.BoolOp op [a] pos) (tE X.K c f) := pe_one h
def eAnd (f g : En → Option PyData) : En → Option PyData := fun env => match f env with
  | some (.bool true) => g env
  | some (.bool false) => some (.bool false)
  | _ => none
def eOr (f g : En → Option PyData) : En → Option PyData := fun env => match f env with
  | some (.bool true) => some (.bool true)
  | some (.bool false) => g env
  | _ => none
theorem ce_and (ha : PE X a (tE X.K c1 f)) (hb : PE X (.BoolOp .And (b :: rest) pos) (tE X.K c g)) : PE X (.BoolOp .And (a :: b :: rest) pos) (tE X.K c (eAnd f g)) := pe_w (pe_and ha hb) fun σ H Q ⟨S0, H0, A, env, d, E, hf, q⟩ => by
  unfold eAnd at hf
  split at hf
  · rename_i h
    refine ⟨S0, H0, A, env, _, E, h, fun v H' s r => ?_⟩
    rw [Rp] at r
    exact ⟨true, r, iteT <| ⟨S0, H0, A, env, d, E.grow s, hf, fun v2 H2 s2 r2 => q v2 H2 (s.trans s2) r2⟩⟩
  · rename_i h
    cases hf
    refine ⟨S0, H0, A, env, _, E, h, fun v H' s r => ?_⟩
    rw [Rp] at r
    exact ⟨false, r, iteF <| q _ H' s (by rw [Rp])⟩
  · cases hf
theorem ce_or (ha : PE X a (tE X.K c1 f)) (hb : PE X (.BoolOp .Or (b :: rest) pos) (tE X.K c g)) : PE X (.BoolOp .Or (a :: b :: rest) pos) (tE X.K c (eOr f g)) := pe_w (pe_or ha hb) fun σ H Q ⟨S0, H0, A, env, d, E, hf, q⟩ => by
  unfold eOr at hf
  split at hf
  · rename_i h
    cases hf
    refine ⟨S0, H0, A, env, _, E, h, fun v H' s r => ?_⟩
    rw [Rp] at r
    exact ⟨true, r, iteT <| q _ H' s (by rw [Rp])⟩
  · rename_i h
    refine ⟨S0, H0, A, env, _, E, h, fun v H' s r => ?_⟩
    rw [Rp] at r
    exact ⟨false, r, iteF <| ⟨S0, H0, A, env, d, E.grow s, hf, fun v2 H2 s2 r2 => q v2 H2 (s.trans s2) r2⟩⟩
  · cases hf
def eNot (f : En → Option PyData) : En → Option PyData := fun env => match f env with
  | some (.bool b) => some (.bool (!b))
  | _ => none
theorem ce_not (ha : PE X a (tE X.K c1 f)) : PE X (.UnaryOp .Not a pos) (tE X.K true (eNot f)) := pe_w (pe_not ha) fun σ H Q ⟨S0, H0, A, env, d, E, hf, q⟩ => by
  unfold eNot at hf
  split at hf
  · rename_i k h
    cases hf
    refine ⟨S0, H0, A, env, _, E, h, fun v H' s r => ?_⟩
    rw [Rp] at r
    exact ⟨k, r, q _ H' s (by rw [Rp])⟩
  · cases hf
def eIf (ga : En → Option Bool) (f g : En → Option PyData) : En → Option PyData := fun env => match ga env with
  | some true => f env
  | some false => g env
  | none => none
theorem ce_if {t : Expr} (ht : PT X t (tT X.K ga)) (ha : PE X a (tE X.K c f)) (hb : PE X b (tE X.K c g)) : PE X (.IfExp t a b pos) (tE X.K c (eIf ga f g)) := pe_w (pe_ifExp ht ha hb) fun σ H Q ⟨S0, H0, A, env, d, E, hf, q⟩ => by
  unfold eIf at hf
  split at hf
  · rename_i h
    exact ⟨S0, H0, A, env, _, E, h, fun H' s => iteT <| ⟨S0, H0, A, env, d, E.grow s, hf, fun v2 H2 s2 r2 => q v2 H2 (s.trans s2) r2⟩⟩
  · rename_i h
    exact ⟨S0, H0, A, env, _, E, h, fun H' s => iteF <| ⟨S0, H0, A, env, d, E.grow s, hf, fun v2 H2 s2 r2 => q v2 H2 (s.trans s2) r2⟩⟩
  · cases hf

/-! ### argument lists, displays -/
def aNil : En → Option (List PyData) := fun _ => some []
def aCons (f : En → Option PyData) (g : En → Option (List PyData)) : En → Option (List PyData) := fun env => match f env with
  | some d => match g env with
    | some ds => some (d :: ds)
    | none => none
  | none => none
theorem aCons_some {env : En} {es : List PyData} (q : aCons f fa env = some es) : ∃ d ds, f env = some d ∧ fa env = some ds ∧ es = d :: ds := by
  unfold aCons at q
  split at q
  · split at q
    · cases q
      exact ⟨_, _, by assumption, by assumption, rfl⟩
    · cases q
  · cases q
theorem ca_nil : PA X [] (tA X.K c aNil) := pa_w pa_nil fun σ H Q ⟨S0, H0, A, env, d, E, hf, q⟩ => by
  cases hf
  exact q [] H (Same.refl H) RpA.nil
theorem ca_cons (ha : PE X e (tE X.K c f)) (hr : PA X es (tA X.K c fa)) (hs : starEach (e :: es) X.env = (false, eval e X.env) :: starEach es X.env := by rfl) : PA X (e :: es) (tA X.K c (aCons f fa)) := pa_w (pa_cons ha hr hs) fun σ H Q ⟨S0, H0, A, env, d, E, hf, q⟩ => by
  obtain ⟨d1, ds, h1, h2, rfl⟩ := aCons_some hf
  exact ⟨S0, H0, A, env, d1, E, h1, fun v H1 s1 r1 => ⟨S0, H0, A, env, ds, E.grow s1, h2, fun vs H2 s2 r2 => q _ H2 (s1.trans s2) (RpA.cons (r1.grow s2) r2)⟩⟩
def eTup (fa : En → Option (List PyData)) : En → Option PyData := fun env => match fa env with
  | some ds => if ds.length ≤ 1000000 then some (.tuple ds) else none
  | none => none
theorem eTup_some {env : En} {d : PyData} (q : eTup fa env = some d) : ∃ ds, fa env = some ds ∧ ds.length ≤ 1000000 ∧ d = .tuple ds := by
  unfold eTup at q
  split at q
  · split at q
    · cases q; exact ⟨_, by assumption, by assumption, rfl⟩
    · cases q
  · cases q
theorem ce_tup {x1 : Nat} (h : PA X es (tA X.K c fa)) : PE X (.Tuple es x1 pos) (tE X.K c (eTup fa)) := pe_w (pe_tup h) fun σ H Q ⟨S0, H0, A, env, d, E, hf, q⟩ => by
  obtain ⟨ds, h1, h2, rfl⟩ := eTup_some hf
  refine ⟨S0, H0, A, env, ds, E, h1, fun vs H1 s1 r1 => ⟨by rw [r1.length]; exact sz6 h2, fun p hp => q _ _ (s1.trans fun b o z => by rw [upd_ne (ne_of_none z hp)]; exact z) ?_⟩⟩
  rw [Rp]
  exact ⟨p, vs, rfl, .inl (.inl upd_same), r1.grow fun b o z => by rw [upd_ne (ne_of_none z hp)]; exact z⟩
def fLst (fa : En → Option (List PyData)) : En → Option (List PyData) := fun env => match fa env with
  | some ds => if ds.length ≤ 1000000 then some ds else none
  | none => none
theorem fLst_some {env : En} {d : List PyData} (q : fLst fa env = some d) : fa env = some d ∧ d.length ≤ 1000000 := by
  unfold fLst at q
  split at q
  · split at q
    · cases q; exact ⟨by assumption, by assumption⟩
    · cases q
  · cases q
theorem same_new {H : Hp} {p : Addr} {o : HO} (h : H p = none) : Same H (upd H p o) := fun b u e => by
  rw [upd_ne (ne_of_none e h)]
  exact e
/-- items that stood ahead of the new list do not lean on it -/
theorem RpA.apart {K : PySem.W.Frag} {S : Addr → Prop} {H H' : Hp} {p : Addr} {ds : List PyData} {vs : List V} (h : RpA K S H ds vs) (hp : H p = none) (s : Same H H') : RpA K (fun a => S a ∧ a ≠ p) H' ds vs :=
  RpA.mono (fun a xs z r => ⟨⟨z, fun e => by
    subst e
    rcases r with r | ⟨o, r⟩ <;> (rw [hp] at r; cases r)⟩, same_rd s r⟩) (fun _ _ z => same_t s z) ds vs h
theorem Rp.apart {K : PySem.W.Frag} {S : Addr → Prop} {H H' : Hp} {p : Addr} {d : PyData} {v : V} (h : Rp K S H d v) (hp : H p = none) (s : Same H H') : Rp K (fun a => S a ∧ a ≠ p) H' d v :=
  Rp.mono (fun a xs z r => ⟨⟨z, fun e => by
    subst e
    rcases r with r | ⟨o, r⟩ <;> (rw [hp] at r; cases r)⟩, same_rd s r⟩) (fun _ _ z => same_t s z) d v h
theorem cf_lst (h : PA X es (tA X.K c fa)) : PE X (.List es pos) (tF X.K c (fLst fa)) := pe_w (pe_lst h) fun σ H Q ⟨S0, H0, A, env, ds, E, hf, q⟩ => by
  obtain ⟨h1, h2⟩ := fLst_some hf
  refine ⟨S0, H0, A, env, ds, E, h1, fun vs H1 s1 r1 => ⟨by rw [r1.length]; exact sz6 h2, fun p hp => ?_⟩⟩
  exact q p vs _ (s1.free hp) (s1.trans (same_new hp)) upd_same (r1.apart hp (same_new hp))
end

/-! ### statements -/
section
variable {X : Cx} {e : Expr} {pos pos' : Pos} {c : Bool} {f : En → Option PyData} {fa : En → Option (List PyData)} {ga : En → Option Bool} {s t : En → Out} {st : Stmt} {sts : List Stmt}
def sNil : En → Out := fun env => .nx env
def sSeq (s t : En → Out) : En → Out := fun env => match s env with
  | .nx e => t e
  | .bk e => .bk e
  | .ct e => .ct e
  | .rt d => .rt d
  | .bad => .bad
theorem cs_nil : PSs X [] (tS X.K sNil) := pss_w pss_nil fun D σ H ⟨S0, H0, A, env, E, o⟩ => o A H σ E Fr.refl Sb.refl
theorem cs_cons (h1 : PS X st (tS X.K s)) (h2 : PSs X sts (tS X.K t)) : PSs X (st :: sts) (tS X.K (sSeq s t)) := pss_w (pss_cons h1 h2) fun D σ H ⟨S0, H0, A, env, E, o⟩ => by
  refine ⟨S0, H0, A, env, E, ?_⟩
  unfold sSeq at o
  cases hs : s env with
  | nx e =>
    rw [hs] at o
    exact fun A' H' σ' E' f' b' => ⟨S0, H0, A', e, E', OutOk.step o f' b'⟩
  | bk e => rw [hs] at o; exact o
  | ct e => rw [hs] at o; exact o
  | rt d => rw [hs] at o; exact o
  | bad => rw [hs] at o; exact o
theorem cs_one (h1 : PS X st (tS X.K s)) : PSs X [st] (tS X.K s) := pss_one h1
/-- ahead of the statement the list of the slot i is let go -/
theorem cs_frz {i : Nat} (h : PS X st (tS X.K s)) : PS X st (tS X.K fun env => s (frz i env)) := ps_w h fun D σ H ⟨S0, H0, A, env, E, o⟩ => by
  obtain ⟨A', E', w⟩ := E.frz i
  exact ⟨S0, H0, A', _, E', OutOk.step o Fr.refl fun a z => .inl (w a z)⟩
theorem css_frz {i : Nat} (h : PSs X sts (tS X.K s)) : PSs X sts (tS X.K fun env => s (frz i env)) := pss_w h fun D σ H ⟨S0, H0, A, env, E, o⟩ => by
  obtain ⟨A', E', w⟩ := E.frz i
  exact ⟨S0, H0, A', _, E', OutOk.step o Fr.refl fun a z => .inl (w a z)⟩
def sSet (i : Nat) (f : En → Option PyData) : En → Out := fun env => match f env with
  | some d => .nx (env.set i (.val d))
  | none => .bad
def sOwn (i : Nat) (f : En → Option (List PyData)) : En → Out := fun env => match f env with
  | some d => .nx (env.set i (.own d))
  | none => .bad
theorem set_run {K : PySem.W.Frag} {i : Nat} {D : Ends} {σ : L2.St} {H : Hp} (h : tS K (sSet i f) D σ H) : tAsg (tE K true f) (gName i) D σ H := by
  obtain ⟨S0, H0, A, env, E, o⟩ := h
  unfold sSet at o
  cases hd : f env with
  | none => rw [hd] at o; exact o.elim
  | some d =>
    rw [hd] at o
    exact ⟨S0, H0, A, env, d, E, hd, fun v H' s r => o A H' _ ((E.grow s).set_val (r.wide fun _ z => cl_sc z)) (Fr.of_same s) Sb.refl⟩
theorem own_run {K : PySem.W.Frag} {i : Nat} {D : Ends} {σ : L2.St} {H : Hp} (h : tS K (sOwn i fa) D σ H) : tAsg (tF K true fa) (gName i) D σ H := by
  obtain ⟨S0, H0, A, env, E, o⟩ := h
  unfold sOwn at o
  cases hd : fa env with
  | none => rw [hd] at o; exact o.elim
  | some ds =>
    rw [hd] at o
    refine ⟨S0, H0, A, env, ds, E, hd, fun p xs H' hn s hp r => o _ H' _ (E.set_own s hn hp (r.wide fun _ z => ⟨cl_sc z.1, z.2⟩)) (Fr.of_same s) fun a z => z.imp id fun e => by rw [e]; exact hn⟩
theorem cs_set {i : Nat} (h : PS X st (tAsg (tE X.K true f) (gName i))) : PS X st (tS X.K (sSet i f)) := ps_w h fun _ _ _ q => set_run q
theorem cs_own {i : Nat} (h : PS X st (tAsg (tF X.K true fa) (gName i))) : PS X st (tS X.K (sOwn i fa)) := ps_w h fun _ _ _ q => own_run q
/-- x.append(e), x an owned list -/
def sApp (i : Nat) (f : En → Option PyData) : En → Out := fun env => match f env with
  | some d => match env[i]? with
    | some (.own ds) => if ds.length < 1000000 then .nx (env.set i (.own (ds ++ [d]))) else .bad
    | _ => .bad
  | none => .bad
theorem app_run {K : PySem.W.Frag} {i : Nat} {D : Ends} {σ : L2.St} {H : Hp} (h : tS K (sApp i f) D σ H) : tDrop (tBM K "list" rAppend (tVar i) (tCons (tE K true f) tNil)) D σ H := by
  obtain ⟨S0, H0, A, env, E, o⟩ := h
  unfold sApp at o
  cases hd : f env with
  | none => rw [hd] at o; exact o.elim
  | some d =>
    rw [hd] at o
    replace o : OutOk K S0 H0 A H (match env[i]? with
      | some (.own ds) => if ds.length < 1000000 then .nx (env.set i (.own (ds ++ [d]))) else .bad
      | _ => .bad) D := o
    split at o
    · rename_i ds hi
      split at o
      · rename_i hl
        rcases E.sl i _ hi with z | ⟨v, h1, a, xs, rfl, ha, hh, r⟩
        · cases z
        refine ⟨_, h1, .inl ⟨rfl, xs, .inl (.inl hh)⟩, S0, H0, A, env, d, E, hd, fun v H' s r' => ?_⟩
        have E' := E.grow s
        refine ⟨a, xs, v, rfl, rfl, s _ _ hh, ?_, ?_⟩
        · rw [r.length]
          exact Nat.lt_of_lt_of_le hl (by decide)
        · have q := RpA.append (r.grow s) (RpA.cons (r'.wide fun _ z => cl_sc z) RpA.nil)
          refine o A _ σ (E'.mut hi h1 ha (s _ _ hh) q) (fun b u e n => ?_) Sb.refl
          have nb : b ≠ a := fun z => n (z ▸ ha)
          rw [upd_ne nb]
          exact s _ _ e
      · exact o.elim
    · exact o.elim
theorem cs_app {i : Nat} (h : PS X st (tDrop (tBM X.K "list" rAppend (tVar i) (tCons (tE X.K true f) tNil)))) : PS X st (tS X.K (sApp i f)) := ps_w h fun _ _ _ q => app_run q
/-- x[k] = e, x an owned list -/
def ixD (n : Nat) (k : PyData) : Option Nat := match k with
  | .int i => ixN n i
  | _ => none
def sPut (i : Nat) (fk f : En → Option PyData) : En → Out := fun env => match f env with
  | some d => match env[i]? with
    | some (.own ds) => match fk env with
      | some k => match ixD ds.length k with
        | some j => .nx (env.set i (.own (ds.set j d)))
        | none => .bad
      | none => .bad
    | _ => .bad
  | none => .bad
theorem put_run {K : PySem.W.Frag} {i : Nat} {fk : En → Option PyData} {D : Ends} {σ : L2.St} {H : Hp} (h : tS K (sPut i fk f) D σ H) : tAsg (tE K true f) (gSub (tVar i) (tE K c fk) rSetL) D σ H := by
  obtain ⟨S0, H0, A, env, E, o⟩ := h
  unfold sPut at o
  cases hd : f env with
  | none => rw [hd] at o; exact o.elim
  | some d =>
    rw [hd] at o
    refine ⟨S0, H0, A, env, d, E, hd, fun v H1 s1 r1 => ?_⟩
    cases hi : env[i]? with
    | none => rw [hi] at o; exact o.elim
    | some sl =>
      rw [hi] at o
      cases sl with
      | un => exact o.elim
      | val _ => exact o.elim
      | own ds =>
        cases hk : fk env with
        | none => rw [hk] at o; exact o.elim
        | some k =>
          rw [hk] at o
          cases hj : ixD ds.length k with
          | none => simp only [hj] at o; exact o.elim
          | some j =>
            simp only [hj] at o
            rcases E.sl i _ hi with z | ⟨_, h1, a, xs, rfl, ha, hh, r⟩
            · cases z
            refine ⟨_, h1, S0, H0, A, env, k, E.grow s1, hk, fun u H2 s2 r2 => ?_⟩
            cases k with
            | int m =>
              rw [Rp] at r2
              have hh2 := s2 _ _ (s1 _ _ hh)
              refine ⟨a, xs, m, j, rfl, r2, hh2, by rw [r.length]; exact hj, ?_⟩
              have q := (r.grow (s1.trans s2)).set (i := j) ((r1.wide fun _ z => cl_sc z).grow s2)
              refine o A _ σ ((E.grow (s1.trans s2)).mut hi h1 ha hh2 q) (fun b u e n => ?_) Sb.refl
              have nb : b ≠ a := fun z => n (z ▸ ha)
              rw [upd_ne nb]
              exact (s1.trans s2) _ _ e
            | none => cases hj
            | bool _ => cases hj
            | str _ => cases hj
            | list _ => cases hj
            | tuple _ => cases hj
            | dict _ => cases hj
theorem cs_put {i : Nat} {fk : En → Option PyData} (h : PS X st (tAsg (tE X.K true f) (gSub (tVar i) (tE X.K c fk) rSetL))) : PS X st (tS X.K (sPut i fk f)) := ps_w h fun _ _ _ q => put_run q
def sIf (ga : En → Option Bool) (s t : En → Out) : En → Out := fun env => match ga env with
  | some true => s env
  | some false => t env
  | none => .bad
theorem cs_if {a b : List Stmt} (hc : PT X e (tT X.K ga)) (ha : PSs X a (tS X.K s)) (hb : PSs X b (tS X.K t)) : PS X (.If e a b pos) (tS X.K (sIf ga s t)) := ps_w (ps_if hc ha hb) fun D σ H ⟨S0, H0, A, env, E, o⟩ => by
  unfold sIf at o
  cases hd : ga env with
  | none => rw [hd] at o; exact o.elim
  | some k =>
    rw [hd] at o
    refine ⟨S0, H0, A, env, k, E, hd, fun H' sm => ?_⟩
    cases k with
    | true => exact iteT <| ⟨S0, H0, A, env, E.grow sm, OutOk.step o (Fr.of_same sm) Sb.refl⟩
    | false => exact iteF <| ⟨S0, H0, A, env, E.grow sm, OutOk.step o (Fr.of_same sm) Sb.refl⟩
def sRet (f : En → Option PyData) : En → Out := fun env => match f env with
  | some d => .rt d
  | none => .bad
theorem cs_ret (h : PE X e (tE X.K true f)) : PS X (.Return (some e) pos) (tS X.K (sRet f)) := ps_w (ps_ret h) fun D σ H ⟨S0, H0, A, env, E, o⟩ => by
  unfold sRet at o
  cases hd : f env with
  | none => rw [hd] at o; exact o.elim
  | some d =>
    rw [hd] at o
    exact ⟨S0, H0, A, env, d, E, hd, fun v H' sm r => o v H' (E.same.trans sm) (r.wide fun _ z => (cl_sc z).1)⟩
def sRetN : En → Out := fun _ => .rt .none
theorem cs_retN : PS X (.Return none pos) (tS X.K sRetN) := ps_w ps_retN fun D σ H ⟨S0, H0, A, env, E, o⟩ => o _ H E.same (by rw [Rp])
def sBrk : En → Out := fun env => .bk env
def sCnt : En → Out := fun env => .ct env
theorem cs_brk : PS X (.Break pos) (tS X.K sBrk) := ps_w ps_break fun D σ H ⟨S0, H0, A, env, E, o⟩ => o A H σ E Fr.refl Sb.refl
theorem cs_cnt : PS X (.Continue pos) (tS X.K sCnt) := ps_w ps_continue fun D σ H ⟨S0, H0, A, env, E, o⟩ => o A H σ E Fr.refl Sb.refl
theorem cs_pass : PS X (.Pass pos) (tS X.K sNil) := ps_w ps_pass fun D σ H ⟨S0, H0, A, env, E, o⟩ => o A H σ E Fr.refl Sb.refl
/-- an expression for nothing -/
def sDrop (f : En → Option PyData) : En → Out := fun env => match f env with
  | some _ => .nx env
  | none => .bad
theorem cs_drop (h : PS X st (tDrop (tE X.K c f))) : PS X st (tS X.K (sDrop f)) := ps_w h fun D σ H ⟨S0, H0, A, env, E, o⟩ => by
  unfold sDrop at o
  cases hd : f env with
  | none => rw [hd] at o; exact o.elim
  | some d =>
    rw [hd] at o
    exact ⟨S0, H0, A, env, d, E, hd, fun v H' sm r => o A H' σ (E.grow sm) (Fr.of_same sm) Sb.refl⟩
/-- x += e, ints -/
def sAug (i : Nat) (k : Int → Int → Int) (f : En → Option PyData) : En → Out := fun env => match env[i]? with
  | some (.val (.int x)) => match f env with
    | some (.int y) => .nx (env.set i (.val (.int (k x y))))
    | _ => .bad
  | _ => .bad
theorem cs_aug {i : Nat} {k : Int → Int → Int} (h : PS X st (tAug i (tE X.K c f) (ipI k))) : PS X st (tS X.K (sAug i k f)) := ps_w h fun D σ H ⟨S0, H0, A, env, E, o⟩ => by
  unfold sAug at o
  split at o
  · rename_i x hi
    rcases E.sl i _ hi with z | ⟨v, h1, h2⟩
    · cases z
    have h2' : Rp X.K (Cl S0 H0 A) H (.int x) v := h2
    rw [Rp] at h2'
    subst h2'
    split at o
    · rename_i y hd
      refine ⟨_, h1, S0, H0, A, env, _, E, hd, fun u H' sm r => ?_⟩
      rw [Rp] at r
      refine ⟨x, y, rfl, r, o A H' _ ((E.grow sm).set_val (by rw [Rp])) (Fr.of_same sm) Sb.refl⟩
    · exact o.elim
  · exact o.elim
end
end Mir

namespace Mir
open PySem PySem.Spec PyProof.Rows L2

/-! ### targets -/
def gVal (i : Nat) : PyData → En → Option En := fun d env => some (env.set i (.val d))
def gMany : List Nat → List PyData → En → Option En
  | [], [], env => some env
  | i :: is, d :: ds, env => gMany is ds (env.set i (.val d))
  | _, _, _ => none
def gT (is : List Nat) : PyData → En → Option En := fun d env => match d with
  | .tuple ds => gMany is ds env
  | _ => none
def gsOf : List Nat → TGs
  | [] => gNil
  | i :: is => gCons (gName i) (gsOf is)
section
variable {X : Cx} {tg e iter : Expr} {pos : Pos} {K : PySem.W.Frag} {S0 : Addr → Prop} {H0 H H1 : Hp} {A : Addr → Prop} {σ : L2.St} {env : En}
theorem wipe_set {i : Nat} {x : Option V} : ∀ {is : List Nat}, (wipe (σ.set i x) is).set i none = (wipe σ is).set i none
  | [] => by simp [wipe]
  | j :: is => by
    show ((wipe (σ.set i x) is).set j none).set i none = ((wipe σ is).set j none).set i none
    by_cases h : j = i
    · subst h
      rw [List.set_set, List.set_set]
      exact wipe_set
    · rw [List.set_comm _ _ h, List.set_comm _ _ h, wipe_set]
theorem wipe_get (i : Nat) : ∀ (vs : List Nat), (wipe σ vs)[i]? = if i ∈ vs then (σ[i]?).map (fun _ => none) else σ[i]?
  | [] => by simp [wipe]
  | j :: vs => by
    show ((wipe σ vs).set j none)[i]? = _
    rw [List.getElem?_set, wipe_length]
    by_cases h : j = i
    · subst h
      rw [if_pos rfl, if_pos List.mem_cons_self]
      by_cases l : j < σ.length
      · rw [if_pos l, List.getElem?_eq_getElem l]; rfl
      · rw [if_neg l, List.getElem?_eq_none (by omega)]; rfl
    · rw [if_neg h, wipe_get i vs]
      by_cases m : i ∈ vs
      · rw [if_pos m, if_pos (List.mem_cons_of_mem _ m)]
      · rw [if_neg m, if_neg (fun z => by
          rcases List.mem_cons.mp z with z | z
          · exact h z.symm
          · exact m z)]
theorem wipe_wipe (vs : List Nat) : wipe (wipe σ vs) vs = wipe σ vs := by
  apply List.ext_getElem?
  intro i
  rw [wipe_get, wipe_get]
  split
  · cases σ[i]? <;> rfl
  · rfl
theorem cg_name {i : Nat} (h : PG X tg (gName i)) : PG X tg (tG X.K [i] (gVal i)) := pg_w h fun v σ H Q ⟨S0, H0, A, env, d, env', E, r, hg, q⟩ => by
  cases hg
  refine q _ (E.set_val r) ?_
  show (σ.set i (some v)).set i none = σ.set i none
  rw [List.set_set]
theorem many_run : ∀ {is : List Nat} {ds : List PyData} {vs : List V} {σ : L2.St} {env env' : En} {Q : L2.St → Hp → Prop}, EnvOk K S0 H0 A H σ env → RpA K (Cl S0 H0 A) H ds vs → gMany is ds env = some env' →
    (∀ σ', EnvOk K S0 H0 A H σ' env' → wipe σ' is = wipe σ is → Q σ' H) → gsOf is vs σ H Q
  | [], [], _, σ, env, env', Q, E, r, g, q => by
    rw [RpA] at r
    subst r
    cases g
    exact ⟨rfl, q σ E rfl⟩
  | [], _ :: _, _, _, _, _, _, _, _, g, _ => by cases g
  | _ :: _, [], _, _, _, _, _, _, _, g, _ => by cases g
  | i :: is, d :: ds, _, σ, env, env', Q, E, r, g, q => by
    rw [RpA] at r
    obtain ⟨v, r', rfl, h1, h2⟩ := r
    refine ⟨v, r', rfl, ?_⟩
    show gsOf is r' (σ.set i (some v)) H Q
    refine many_run (E.set_val h1) h2 g fun σ' E' w => q σ' E' ?_
    show (wipe σ' is).set i none = (wipe σ is).set i none
    rw [w, wipe_set]
theorem gMany_len : ∀ {is : List Nat} {ds : List PyData} {env env' : En}, gMany is ds env = some env' → ds.length = is.length
  | [], [], _, _, _ => rfl
  | [], _ :: _, _, _, g => by cases g
  | _ :: _, [], _, _, g => by cases g
  | _ :: is, _ :: ds, env, env', g => by
    rw [List.length_cons, List.length_cons, gMany_len (is := is) (ds := ds) g]
theorem cg_tup {is : List Nat} {n : Nat} (h : PG X tg (gTup X.K n (gsOf is))) (hn : n = is.length := by rfl) : PG X tg (tG X.K is (gT is)) := pg_w h fun v σ H Q ⟨S0, H0, A, env, d, env', E, r, hg, q⟩ => by
  cases d with
  | tuple ds =>
    rw [Rp] at r
    obtain ⟨a, xs, rfl, hs, ra⟩ := r
    exact ⟨a, xs, rfl, hs, by rw [ra.length, hn]; exact gMany_len hg, many_run E ra hg q⟩
  | _ => cases hg

/-! ### what is walked -/
structure Wk (K : PySem.W.Frag) (J : It) (G : Hp → Prop) (S : Addr → Prop) (ds : List PyData) : Prop where
  go : ∀ i H, G H → i < ds.length → J.go i H
  yld : ∀ (i : Nat) H d x H', G H → ds[i]? = some d → J.yld i H x H' → Same H H' ∧ Rp K S H' d x
  stop : ∀ i H, G H → ds.length ≤ i → J.stop i H
/-- c: it stands still while the code runs -/
def tI (K : PySem.W.Frag) (c : Bool) (f : En → Option (List PyData)) : TI := fun σ H R => ∃ S0 H0 A env ds, EnvOk K S0 H0 A H σ env ∧ f env = some ds ∧ ∀ J H' G, Same H H' → (∀ H2, Same H' H2 → G H2) → (c = true → ∀ H2, Fr A H' H2 → G H2) →
  Wk K J G (fun b => Cl S0 H0 A b ∧ H' b ≠ none) ds → R J H'
theorem pi_w {t t' : TI} (h : PI X tg iter t) (w : ∀ σ H R, t' σ H R → t σ H R) : PI X tg iter t' := ⟨fun pins s σ H R I q => h.run pins s σ H R I (w σ H R q)⟩
def iAny (K : PySem.W.Frag) (tl : TE) : TI := fun σ H R => tl σ H fun x H1 => ∃ a, x = .ref a ∧ (((∃ xs, SqL K H1 a xs) ∧ R (Itl K a) H1) ∨ ((∃ xs, SqT K H1 a xs) ∧ R (Itt K a) H1))
theorem pi_any {l : Expr} {tl : TE} (hl : PE X l tl) : PI X tg l (iAny X.K tl) := by
  constructor
  intro pins s σ H R I h
  refine thn (hl.run pins s σ H _ I h) ?_
  rintro v t ⟨x, H1, I1, r1, a, rfl, h1⟩
  cases r1
  have nx : ∀ (o : Obj) (b : Addr) (u : Obj), t.heap.get? b = some u → (t.heap.push o).get? b = some u := fun o b u e => Heap.get?_push_of_some _ e
  rcases h1 with ⟨⟨xs, hq⟩, q⟩ | ⟨⟨xs, hq⟩, q⟩
  · obtain ⟨its, rv, pl, hz⟩ := I1.list hq
    refine wpAny_pyIter_list pl.isList ⟨t.heap.objs.size, [t.heap.objs.size], _, _, H1, rfl, I1.kept (t' := t.toks) (nx _), turn_list a _, ⟨_, Heap.get?_push_size _ rfl, rfl, rfl⟩, ?_, q⟩
    intro b hb
    rw [List.mem_singleton.mp hb]
    exact I1.fpOk (Nat.le_refl _) (I1.hok.fresh (Nat.le_refl _))
  · obtain ⟨its, rv, pl, hz⟩ := I1.tuple hq
    refine wpAny_pyIter_tuple (show t.heap.IsTuple a its.toArray from pl) ⟨t.heap.objs.size, [t.heap.objs.size], _, _, H1, rfl, I1.kept (t' := t.toks) (nx _), turn_tuple a _, ⟨_, Heap.get?_push_size _ rfl, rfl, rfl⟩, ?_, q⟩
    intro b hb
    rw [List.mem_singleton.mp hb]
    exact I1.fpOk (Nat.le_refl _) (I1.hok.fresh (Nat.le_refl _))
theorem fr_rd {u : HO} {a : Addr} (f : Fr A H H1) (n : ¬ A a) (h : Rd H a u) : Rd H1 a u := by
  rcases h with h | ⟨o, h⟩
  · exact .inl (f a _ h n)
  · exact .inr ⟨o, f a _ h n⟩
theorem fr_t (E : EnvOk K S0 H0 A H σ env) (f : Fr A H H1) {a : Addr} {xs : List V} (h : SqT K H a xs) : SqT K H1 a xs := by
  rcases h with h | h
  · refine .inl (fr_rd f (fun z => ?_) h)
    obtain ⟨ys, e⟩ := E.tr a z
    rcases h with h | ⟨o, h⟩ <;> (rw [e] at h; cases h)
  · exact .inr h
/-- what is clean stands still -/
theorem RpA.fr (E : EnvOk K S0 H0 A H σ env) (f : Fr A H H1) {S : Addr → Prop} (w : ∀ a, S a → ¬ A a) {ds : List PyData} {vs : List V} (h : RpA K S H ds vs) : RpA K (fun b => S b ∧ H b ≠ none) H1 ds vs :=
  RpA.mono (fun a xs z r => ⟨⟨z, fun e => by rcases r with r | ⟨o, r⟩ <;> (rw [e] at r; cases r)⟩, fr_rd f (w a z) r⟩) (fun _ _ z => fr_t E f z) ds vs h
theorem RpA.sm (s : Same H H1) {S : Addr → Prop} {ds : List PyData} {vs : List V} (h : RpA K S H ds vs) : RpA K (fun b => S b ∧ H b ≠ none) H1 ds vs :=
  RpA.mono (fun a xs z r => ⟨⟨z, fun e => by rcases r with r | ⟨o, r⟩ <;> (rw [e] at r; cases r)⟩, same_rd s r⟩) (fun _ _ z => same_t s z) ds vs h
theorem RpA.at {S : Addr → Prop} {ds : List PyData} {vs : List V} {i : Nat} {d : PyData} {x : V} (h : RpA K S H ds vs) (e : ds[i]? = some d) (g : vs[i]? = some x) : Rp K S H d x := by
  obtain ⟨v, e1, e2⟩ := h.get e
  rw [e1] at g
  cases g
  exact e2
theorem wk_list {a : Addr} {xs : List V} {ds : List PyData} {S : Addr → Prop} : Wk K (Itl K a) (fun H => SqL K H a xs ∧ RpA K S H ds xs) S ds where
  go := fun i H g l => ⟨xs, xs[i]'(by rw [g.2.length]; exact l), g.1, by rw [List.getElem?_eq_getElem]⟩
  yld := fun i H d x H' g e y => by
    obtain ⟨rfl, y⟩ := y
    exact ⟨Same.refl _, g.2.at e (y xs g.1)⟩
  stop := fun i H g l => ⟨xs, g.1, by rw [g.2.length]; exact l⟩
theorem wk_tup {a : Addr} {xs : List V} {ds : List PyData} {S : Addr → Prop} : Wk K (Itt K a) (fun H => SqT K H a xs ∧ RpA K S H ds xs) S ds where
  go := fun i H g l => ⟨xs, xs[i]'(by rw [g.2.length]; exact l), g.1, by rw [List.getElem?_eq_getElem]⟩
  yld := fun i H d x H' g e y => by
    obtain ⟨rfl, y⟩ := y
    exact ⟨Same.refl _, g.2.at e (y xs g.1)⟩
  stop := fun i H g l => ⟨xs, g.1, by rw [g.2.length]; exact l⟩
def iSeq (f : En → Option PyData) : En → Option (List PyData) := fun env => match f env with
  | some (.list ds) => some ds
  | some (.tuple ds) => some ds
  | _ => none
theorem ci_seq {f : En → Option PyData} (h : PE X iter (tE X.K true f)) : PI X tg iter (tI X.K true (iSeq f)) := pi_w (pi_any h) fun σ H R ⟨S0, H0, A, env, ds, E, hf, q⟩ => by
  unfold iSeq at hf
  split at hf
  · rename_i es hd
    cases hf
    refine ⟨S0, H0, A, env, _, E, hd, fun v H1 s r => ?_⟩
    rw [Rp] at r
    obtain ⟨a, xs, rfl, hs, ra⟩ := r
    have ra' : RpA X.K (Cl S0 H0 A) H1 ds xs := ra.wide fun _ z => cl_sc z
    exact ⟨a, rfl, .inl ⟨⟨xs, hs.sq⟩, q _ H1 _ s (fun H2 s2 => ⟨s2.seq hs.sq, ra'.sm s2⟩) (fun _ H2 f2 => ⟨hs.imp (fun z => fr_rd f2 (cl_sc z.1).2 z.2) id, ra'.fr (E.grow s) f2 fun _ z => z.2⟩) wk_list⟩⟩
  · rename_i es hd
    cases hf
    refine ⟨S0, H0, A, env, _, E, hd, fun v H1 s r => ?_⟩
    rw [Rp] at r
    obtain ⟨a, xs, rfl, hs, ra⟩ := r
    have ra' : RpA X.K (Cl S0 H0 A) H1 ds xs := ra.wide fun _ z => cl_sc z
    exact ⟨a, rfl, .inr ⟨⟨xs, hs⟩, q _ H1 _ s (fun H2 s2 => ⟨same_t s2 hs, ra'.sm s2⟩) (fun _ H2 f2 => ⟨fr_t (E.grow s) f2 hs, ra'.fr (E.grow s) f2 fun _ z => z.2⟩) wk_tup⟩⟩
  · cases hf
/-- an owned list, walked by a comprehension -/
def iOwn (i : Nat) : En → Option (List PyData) := fun env => match env[i]? with
  | some (.own ds) => some ds
  | _ => none
theorem ci_own {i : Nat} (h : PE X iter (tVar i)) : PI X tg iter (tI X.K false (iOwn i)) := pi_w (pi_any h) fun σ H R ⟨S0, H0, A, env, ds, E, hf, q⟩ => by
  unfold iOwn at hf
  split at hf
  · rename_i es hi
    cases hf
    rcases E.sl i _ hi with z | ⟨v, h1, a, xs, rfl, ha, hh, r⟩
    · cases z
    exact ⟨_, h1, a, rfl, .inl ⟨⟨xs, .inl (.inl hh)⟩, q _ H _ (Same.refl H) (fun H2 s2 => ⟨.inl (.inl (s2 _ _ hh)), r.sm s2⟩) (fun z => nomatch z) wk_list⟩⟩
  · cases hf
/-! ranges -/
def rngD (lo : Int) (n : Nat) : List PyData := (List.range n).map fun k => .int (lo + (k : Nat))
theorem rng_len (lo : Int) (n : Nat) : (rngD lo n).length = n := by simp [rngD]
theorem rng_get {lo : Int} {n i : Nat} {d : PyData} (h : (rngD lo n)[i]? = some d) : d = .int (lo + (i : Nat)) := by
  unfold rngD at h
  rw [List.getElem?_map] at h
  cases q : (List.range n)[i]? with
  | none => rw [q] at h; cases h
  | some k =>
    rw [q] at h
    rw [List.getElem?_range (by
      obtain ⟨l, _⟩ := List.getElem?_eq_some_iff.mp q
      simpa using l)] at q
    cases q
    exact (Option.some.inj h).symm
theorem wk_rng {lo : Int} {n : Nat} {S : Addr → Prop} : Wk K (Itr lo n) (fun _ => True) S (rngD lo n) where
  go := fun i H _ l => by rw [rng_len] at l; exact l
  yld := fun i H d x H' _ e y => by
    obtain ⟨rfl, rfl⟩ := y
    rw [rng_get e]
    exact ⟨Same.refl _, by rw [Rp]⟩
  stop := fun i H _ l => by rw [rng_len] at l; exact l
def iR1 (fa : En → Option (List PyData)) : En → Option (List PyData) := fun env => match fa env with
  | some [.int j] => if j < 1000000 ∧ -1000000 < j then some (rngD 0 j.toNat) else none
  | _ => none
def iR2 (fa : En → Option (List PyData)) : En → Option (List PyData) := fun env => match fa env with
  | some [.int i, .int j] => if (j < 1000000000 ∧ -1000000000 < j) ∧ i < 1000000000 ∧ -1000000000 < i then some (rngD i (j - i).toNat) else none
  | _ => none
theorem RpA.one {S : Addr → Prop} {d : PyData} {vs : List V} (h : RpA K S H [d] vs) : ∃ v, vs = [v] ∧ Rp K S H d v := by
  rw [RpA] at h
  obtain ⟨v, r, rfl, h1, h2⟩ := h
  rw [RpA] at h2
  subst h2
  exact ⟨v, rfl, h1⟩
theorem RpA.two {S : Addr → Prop} {d e : PyData} {vs : List V} (h : RpA K S H [d, e] vs) : ∃ v u, vs = [v, u] ∧ Rp K S H d v ∧ Rp K S H e u := by
  rw [RpA] at h
  obtain ⟨v, r, rfl, h1, h2⟩ := h
  obtain ⟨u, rfl, h3⟩ := h2.one
  exact ⟨v, u, rfl, h1, h3⟩
theorem ci_r1 {c : Bool} {fa : En → Option (List PyData)} (h : PI X tg iter (iRng1 (tA X.K c fa))) : PI X tg iter (tI X.K true (iR1 fa)) := pi_w h fun σ H R ⟨S0, H0, A, env, ds, E, hf, q⟩ => by
  unfold iR1 at hf
  split at hf
  · rename_i j hd
    split at hf
    · rename_i hj
      cases hf
      refine ⟨S0, H0, A, env, _, E, hd, fun vs H1 s r => ?_⟩
      obtain ⟨v, rfl, r1⟩ := r.one
      rw [Rp] at r1
      subst r1
      exact ⟨j, rfl, by omega, by omega, q _ H1 _ s (fun _ _ => trivial) (fun _ _ _ => trivial) wk_rng⟩
    · cases hf
  · cases hf
theorem ci_r2 {c : Bool} {fa : En → Option (List PyData)} (h : PI X tg iter (iRng2 (tA X.K c fa))) : PI X tg iter (tI X.K true (iR2 fa)) := pi_w h fun σ H R ⟨S0, H0, A, env, ds, E, hf, q⟩ => by
  unfold iR2 at hf
  split at hf
  · rename_i i j hd
    split at hf
    · rename_i hj
      cases hf
      refine ⟨S0, H0, A, env, _, E, hd, fun vs H1 s r => ?_⟩
      obtain ⟨v, u, rfl, r1, r2⟩ := r.two
      rw [Rp] at r1 r2
      subst r1 r2
      exact ⟨i, j, rfl, ⟨by omega, by omega, by omega, by omega⟩, q _ H1 _ s (fun _ _ => trivial) (fun _ _ _ => trivial) wk_rng⟩
    · cases hf
  · cases hf

/-! ### for, while -/
def loopF (g : PyData → En → Option En) (b : En → Out) : List PyData → En → Out
  | [], e => .nx e
  | d :: ds, e => match g d e with
    | none => .bad
    | some e1 => match b e1 with
      | .nx e2 => loopF g b ds e2
      | .ct e2 => loopF g b ds e2
      | .bk e2 => .nx e2
      | .rt v => .rt v
      | .bad => .bad
def sFor (f : En → Option (List PyData)) (g : PyData → En → Option En) (b : En → Out) : En → Out := fun env => match f env with
  | some ds => loopF g b ds env
  | none => .bad
theorem for_run {f : En → Option (List PyData)} {g : PyData → En → Option En} {b : En → Out} {vs : List Nat} {D : Ends} (h : tS K (sFor f g b) D σ H) : tFor (tI K true f) (tG K vs g) (tS K b) D σ H := by
  obtain ⟨S0, H0, A, env, E, o⟩ := h
  unfold sFor at o
  cases hd : f env with
  | none => rw [hd] at o; exact o.elim
  | some ds =>
    rw [hd] at o
    refine ⟨S0, H0, A, env, ds, E, hd, fun J H1 G s _ gF wk => ?_⟩
    refine ⟨fun i m σ' H' => m = ds.length - i ∧ i ≤ ds.length ∧ ∃ A' env', EnvOk K S0 H0 A' H' σ' env' ∧ Fr A H1 H' ∧ Sb A H1 A' ∧ OutOk K S0 H0 A' H' (loopF g b (ds.drop i) env') D,
      ⟨_, rfl, Nat.zero_le _, A, env, E.grow s, Fr.refl, Sb.refl, OutOk.step o (Fr.of_same s) Sb.refl⟩, ?_⟩
    rintro i m σ' H' ⟨rfl, hi, A', env', E', f', b', o'⟩
    by_cases hlt : i < ds.length
    · have hdr : ds.drop i = ds[i] :: ds.drop (i + 1) := List.drop_eq_getElem_cons hlt
      rw [hdr] at o'
      refine .inr ⟨wk.go i H' (gF rfl H' f') hlt, fun σ2 H2 => ∃ A2 e2, EnvOk K S0 H0 A2 H2 σ2 e2 ∧ Fr A H1 H2 ∧ Sb A H1 A2 ∧ OutOk K S0 H0 A2 H2 (loopF g b (ds.drop (i + 1)) e2) D, ?_, fun x Hx y => ?_⟩
      · rintro σ2 H2 ⟨A2, e2, z⟩
        exact ⟨ds.length - (i + 1), by omega, rfl, hlt, A2, e2, z⟩
      · obtain ⟨sx, rx⟩ := wk.yld i H' _ x Hx (gF rfl H' f') (List.getElem?_eq_getElem hlt) y
        have rx' : Rp K (Cl S0 H0 A') Hx ds[i] x := rx.wide fun a z => ⟨z.1.1, fun y => by
          rcases b' a y with k | k
          · exact z.1.2 k
          · exact z.2 k⟩
        simp only [loopF] at o'
        cases hg : g ds[i] env' with
        | none => rw [hg] at o'; exact o'.elim
        | some e1 =>
          rw [hg] at o'
          refine ⟨S0, H0, A', env', _, e1, E'.grow sx, rx', hg, fun σ1 E1 _ => ⟨S0, H0, A', e1, E1, ?_⟩⟩
          have fs : Fr A' H' Hx := Fr.of_same sx
          cases hb : b e1 with
          | nx e2 =>
            simp only [hb] at o'
            exact fun A2 H2 σ2 E2 f2 b2 => ⟨A2, e2, E2, f'.trans b' (fs.trans Sb.refl f2), Sb.trans f' b' (Sb.trans fs Sb.refl b2), OutOk.step o' (fs.trans Sb.refl f2) (Sb.trans fs Sb.refl b2)⟩
          | ct e2 =>
            simp only [hb] at o'
            exact fun A2 H2 σ2 E2 f2 b2 => ⟨A2, e2, E2, f'.trans b' (fs.trans Sb.refl f2), Sb.trans f' b' (Sb.trans fs Sb.refl b2), OutOk.step o' (fs.trans Sb.refl f2) (Sb.trans fs Sb.refl b2)⟩
          | bk e2 =>
            simp only [hb] at o'
            exact fun A2 H2 σ2 E2 f2 b2 => o' A2 H2 σ2 E2 (fs.trans Sb.refl f2) (Sb.trans fs Sb.refl b2)
          | rt v => simp only [hb] at o'; exact o'
          | bad => simp only [hb] at o'; exact o'
    · have hdr : ds.drop i = [] := List.drop_eq_nil_of_le (by omega)
      rw [hdr] at o'
      exact .inl ⟨wk.stop i H' (gF rfl H' f') (by omega), o' A' H' σ' E' Fr.refl Sb.refl⟩
def whlF (c : En → Option Bool) (b : En → Out) : Nat → En → Out
  | 0, _ => .bad
  | n + 1, e => match c e with
    | none => .bad
    | some false => .nx e
    | some true => match b e with
      | .nx e2 => whlF c b n e2
      | .ct e2 => whlF c b n e2
      | .bk e2 => .nx e2
      | .rt v => .rt v
      | .bad => .bad
theorem while_run {c : En → Option Bool} {b : En → Out} {n : Nat} {D : Ends} (h : tS K (whlF c b n) D σ H) : tWhile (tT K c) (tS K b) D σ H := by
  obtain ⟨S0, H0, A, env, E, o⟩ := h
  refine ⟨fun m σ' H' => ∃ A' env', EnvOk K S0 H0 A' H' σ' env' ∧ Fr A H H' ∧ Sb A H A' ∧ OutOk K S0 H0 A' H' (whlF c b m env') D, ⟨n, A, env, E, Fr.refl, Sb.refl, o⟩, ?_⟩
  rintro m σ' H' ⟨A', env', E', f', b', o'⟩
  cases m with
  | zero => exact o'.elim
  | succ m =>
    simp only [whlF] at o'
    cases hc : c env' with
    | none => rw [hc] at o'; exact o'.elim
    | some k =>
      rw [hc] at o'
      refine ⟨S0, H0, A', env', k, E', hc, fun H2 s2 => ?_⟩
      have fs : Fr A' H' H2 := Fr.of_same s2
      cases k with
      | false => exact iteF (o' A' H2 σ' (E'.grow s2) fs Sb.refl)
      | true =>
        refine iteT ⟨fun σ3 H3 => ∃ A3 e3, EnvOk K S0 H0 A3 H3 σ3 e3 ∧ Fr A H H3 ∧ Sb A H A3 ∧ OutOk K S0 H0 A3 H3 (whlF c b m e3) D, ?_, S0, H0, A', env', E'.grow s2, ?_⟩
        · rintro σ3 H3 ⟨A3, e3, z⟩
          exact ⟨m, Nat.lt_succ_self m, A3, e3, z⟩
        · cases hb : b env' with
          | nx e2 =>
            simp only [hb] at o'
            exact fun A2 H3 σ2 E2 f2 b2 => ⟨A2, e2, E2, f'.trans b' (fs.trans Sb.refl f2), Sb.trans f' b' (Sb.trans fs Sb.refl b2), OutOk.step o' (fs.trans Sb.refl f2) (Sb.trans fs Sb.refl b2)⟩
          | ct e2 =>
            simp only [hb] at o'
            exact fun A2 H3 σ2 E2 f2 b2 => ⟨A2, e2, E2, f'.trans b' (fs.trans Sb.refl f2), Sb.trans f' b' (Sb.trans fs Sb.refl b2), OutOk.step o' (fs.trans Sb.refl f2) (Sb.trans fs Sb.refl b2)⟩
          | bk e2 =>
            simp only [hb] at o'
            exact fun A2 H3 σ2 E2 f2 b2 => o' A2 H3 σ2 E2 (fs.trans Sb.refl f2) (Sb.trans fs Sb.refl b2)
          | rt v => simp only [hb] at o'; exact o'
          | bad => simp only [hb] at o'; exact o'
variable {st : Stmt} {f : En → Option (List PyData)} {g : PyData → En → Option En} {b : En → Out} {vs : List Nat}
theorem cs_for {body : List Stmt} (hp : PassesOwn (model X.prog X.w) X.A X.env X.xe) (hc : X.calm = true) (hi : PI X tg iter (tI X.K true f)) (hg : PG X tg (tG X.K vs g)) (hb : PSs X body (tS X.K b)) (hs : ∀ x, foldedSetIterable iter X.env x = pure x := by intro _; rfl) :
    PS X (.For tg iter body [] pos) (tS X.K (sFor f g b)) := ps_w (ps_for hp hc hi hg hb hs) fun _ _ _ q => for_run q
theorem cs_while {body : List Stmt} {c : En → Option Bool} (n : Nat) (hp : PassesOwn (model X.prog X.w) X.A X.env X.xe) (hc : PT X e (tT X.K c)) (hb : PSs X body (tS X.K b)) : PS X (.While e body [] pos) (tS X.K (whlF c b n)) := ps_w (ps_while hp hc hb) fun _ _ _ q => while_run q
/-- a, b, .. = e -/
def sUnp (f : En → Option PyData) (g : PyData → En → Option En) : En → Out := fun env => match f env with
  | some d => match g d env with
    | some e => .nx e
    | none => .bad
  | none => .bad
theorem cs_unp {fe : En → Option PyData} (h : PS X st (tAsg (tE X.K true fe) (tG X.K vs g))) : PS X st (tS X.K (sUnp fe g)) := ps_w h fun D σ H ⟨S0, H0, A, env, E, o⟩ => by
  unfold sUnp at o
  cases hd : fe env with
  | none => rw [hd] at o; exact o.elim
  | some d =>
    simp only [hd] at o
    cases hg : g d env with
    | none => simp only [hg] at o; exact o.elim
    | some e =>
      simp only [hg] at o
      exact ⟨S0, H0, A, env, d, E, hd, fun v H1 s r => ⟨S0, H0, A, env, d, e, E.grow s, r.wide fun _ z => cl_sc z, hg, fun σ' E' _ => o A H1 σ' E' (Fr.of_same s) Sb.refl⟩⟩

/-! ### comprehensions -/
def wipeE : En → List Nat → En
  | env, [] => env
  | env, i :: is => (wipeE env is).set i .un
theorem EnvOk.un (E : EnvOk K S0 H0 A H σ env) (i : Nat) (o : Option V) : EnvOk K S0 H0 A H (σ.set i o) (env.set i .un) where
  len := by simp [E.len]
  sl := fun j s q => by
    rcases set_get q with ⟨rfl, l, rfl⟩ | ⟨n, q⟩
    · exact .inl rfl
    · rw [set_other n]
      exact E.sl j s q
  dis := fun j k ds es a q1 q2 q3 q4 => by
    rcases set_get q1 with ⟨_, _, z⟩ | ⟨n1, q1⟩
    · cases z
    rcases set_get q2 with ⟨_, _, z⟩ | ⟨n2, q2⟩
    · cases z
    rw [set_other n1] at q3
    rw [set_other n2] at q4
    exact E.dis j k ds es a q1 q2 q3 q4
  tr := E.tr
  nw := E.nw
  same := E.same
theorem EnvOk.wipe (E : EnvOk K S0 H0 A H σ env) : ∀ is : List Nat, EnvOk K S0 H0 A H (L2.wipe σ is) (wipeE env is)
  | [] => E
  | i :: is => EnvOk.un (EnvOk.wipe E is) i none
/-- a new list that no slot keeps -/
theorem EnvOk.add (E : EnvOk K S0 H0 A H σ env) {xs : List V} {p : Addr} (hs : Same H H1) (hn : H p = none) (hp : H1 p = some (.lst xs)) : EnvOk K S0 H0 (fun a => A a ∨ a = p) H1 σ env where
  len := E.len
  sl := fun j s q => by
    refine (E.sl j s q).imp id fun ⟨v, h1, h2⟩ => ⟨v, h1, ?_⟩
    have hL : ∀ a ys, Cl S0 H0 A a → Rd H a (.lst ys) → Cl S0 H0 (fun a => A a ∨ a = p) a ∧ Rd H1 a (.lst ys) := fun a ys z r => ⟨⟨z.1, fun y => by
      rcases y with y | y
      · exact z.2 y
      · subst y
        rcases r with r | ⟨o, r⟩ <;> (rw [hn] at r; cases r)⟩, same_rd hs r⟩
    cases s with
    | un => trivial
    | val d => exact Rp.mono hL (fun _ _ z => same_t hs z) d v h2
    | own es =>
      obtain ⟨a, ys, e1, ha, hh, r⟩ := h2
      exact ⟨a, ys, e1, .inl ha, hs _ _ hh, RpA.mono hL (fun _ _ z => same_t hs z) es ys r⟩
  dis := E.dis
  tr := fun a h => by
    rcases h with h | rfl
    · obtain ⟨ys, q⟩ := E.tr a h
      exact ⟨ys, hs _ _ q⟩
    · exact ⟨xs, hp⟩
  nw := fun a h => by
    rcases h with h | rfl
    · exact E.nw a h
    · exact E.same.free hn
  same := E.same.trans hs
def compF (g : PyData → En → Option En) (ga : En → Option Bool) (fe : En → Option PyData) (env : En) : List PyData → Option (List PyData)
  | [] => some []
  | d :: ds => match g d env with
    | none => none
    | some e1 => match ga e1 with
      | none => none
      | some false => compF g ga fe env ds
      | some true => match fe e1 with
        | none => none
        | some v => match compF g ga fe env ds with
          | none => none
          | some vs => some (v :: vs)
def fCmp (is : List Nat) (f : En → Option (List PyData)) (g : PyData → En → Option En) (ga : En → Option Bool) (fe : En → Option PyData) : En → Option (List PyData) := fun env => match f env with
  | none => none
  | some ds => match compF g ga fe (wipeE env is) ds with
    | none => none
    | some vs => if vs.length ≤ 1000000 then some vs else none
def tYes' : En → Option Bool := fun _ => some true
theorem yes_run {Q : Bool → Hp → Prop} (h : tT K tYes' σ H Q) : tYes σ H Q := by
  obtain ⟨S0, H0, A, env, b, E, hb, q⟩ := h
  cases hb
  exact q H (Same.refl H)
theorem RpA.updD {S : Addr → Prop} {p : Addr} {xs ys : List V} {ds : List PyData} {vs : List V} (h : RpA K (fun a => S a ∧ a ≠ p) H ds vs) (hp : H p = some (.lst xs)) : RpA K (fun a => S a ∧ a ≠ p) (upd H p (.lst ys)) ds vs :=
  RpA.mono (fun a zs z r => ⟨z, by
    rcases r with r | ⟨o, r⟩
    · exact .inl (by rw [upd_ne z.2]; exact r)
    · exact .inr ⟨o, by rw [upd_ne z.2]; exact r⟩⟩) (fun a zs r => by
    rcases r with (r | ⟨o, r⟩) | r
    · exact .inl (.inl (by rw [upd_ne (fun e => by subst e; rw [hp] at r; cases r)]; exact r))
    · exact .inl (.inr ⟨o, by rw [upd_ne (fun e => by subst e; rw [hp] at r; cases r)]; exact r⟩)
    · exact .inr r) ds vs h
theorem lc_run {c c2 : Bool} {ga : En → Option Bool} {fe : En → Option PyData} {is : List Nat} {tt : TT} {Q : VK} (ht : ∀ σ H Q, tT K ga σ H Q → tt σ H Q) (h : tF K c2 (fCmp is f g ga fe) σ H Q) : tLc (tI K c f) (tG K is g) tt (tE K true fe) is σ H Q := by
  obtain ⟨S0, H0, A, env, res, E, hf, q⟩ := h
  unfold fCmp at hf
  cases hd : f env with
  | none => rw [hd] at hf; cases hf
  | some ds =>
    simp only [hd] at hf
    cases hc : compF g ga fe (wipeE env is) ds with
    | none => simp only [hc] at hf; cases hf
    | some vs =>
      simp only [hc] at hf
      split at hf
      · rename_i hlen
        cases hf
        refine ⟨S0, H0, A, env, ds, E, hd, fun J H1 G s gS _ wk D hD => ?_⟩
        have E1 := E.grow s
        refine ⟨fun i m H2 => m = ds.length - i ∧ i ≤ ds.length ∧ Same H1 H2 ∧ ∃ acc accD rest, H2 D = some (.lst acc) ∧ RpA K (fun a => Cl S0 H0 A a ∧ a ≠ D) H2 accD acc ∧ compF g ga fe (wipeE env is) (ds.drop i) = some rest ∧ accD ++ rest = res,
          ⟨_, rfl, Nat.zero_le _, same_new hD, [], [], res, upd_same, RpA.nil, hc, rfl⟩, ?_⟩
        rintro i m H2 ⟨rfl, hi, s2, acc, accD, rest, hacc, racc, hrest, hres⟩
        by_cases hlt : i < ds.length
        · have hdr : ds.drop i = ds[i] :: ds.drop (i + 1) := List.drop_eq_getElem_cons hlt
          rw [hdr] at hrest
          refine .inr ⟨wk.go i H2 (gS H2 s2) hlt, fun H3 => Same H1 H3 ∧ ∃ acc accD rest, H3 D = some (.lst acc) ∧ RpA K (fun a => Cl S0 H0 A a ∧ a ≠ D) H3 accD acc ∧ compF g ga fe (wipeE env is) (ds.drop (i + 1)) = some rest ∧ accD ++ rest = res, ?_, fun x Hx y => ?_⟩
          · rintro H3 ⟨s3, z⟩
            exact ⟨ds.length - (i + 1), by omega, rfl, hlt, s3, z⟩
          · obtain ⟨sx, rx⟩ := wk.yld i H2 _ x Hx (gS H2 s2) (List.getElem?_eq_getElem hlt) y
            have E2 : EnvOk K S0 H0 (fun a => A a ∨ a = D) Hx (L2.wipe σ is) (wipeE env is) := (E1.wipe is).add (s2.trans sx) hD (sx _ _ hacc)
            have rx' : Rp K (Cl S0 H0 (fun a => A a ∨ a = D)) Hx ds[i] x := rx.wide fun a z => ⟨z.1.1, fun y => by
              rcases y with k | k
              · exact z.1.2 k
              · exact z.2 (by rw [k]; exact hD)⟩
            simp only [compF] at hrest
            cases hg : g ds[i] (wipeE env is) with
            | none => rw [hg] at hrest; cases hrest
            | some e1 =>
              simp only [hg] at hrest
              refine ⟨S0, H0, _, _, _, e1, E2, rx', hg, fun σ2 E3 w3 => ⟨by rw [w3, wipe_wipe], ht _ _ _ ?_⟩⟩
              cases hga : ga e1 with
              | none => simp only [hga] at hrest; cases hrest
              | some k =>
                refine ⟨S0, H0, _, e1, k, E3, hga, fun H3 s3 => ?_⟩
                cases k with
                | false =>
                  simp only [hga] at hrest
                  exact iteF ⟨(s2.trans sx).trans s3, acc, accD, rest, s3 _ _ (sx _ _ hacc), (racc.grow sx).grow s3, hrest, hres⟩
                | true =>
                  simp only [hga] at hrest
                  cases hfe : fe e1 with
                  | none => simp only [hfe] at hrest; cases hrest
                  | some v =>
                    simp only [hfe] at hrest
                    cases hr2 : compF g ga fe (wipeE env is) (ds.drop (i + 1)) with
                    | none => simp only [hr2] at hrest; cases hrest
                    | some rest2 =>
                      simp only [hr2] at hrest
                      cases hrest
                      refine iteT ⟨S0, H0, _, e1, v, E3.grow s3, hfe, fun y H4 s4 r4 => ?_⟩
                      have h4 := s4 _ _ (s3 _ _ (sx _ _ hacc))
                      have r4' : Rp K (fun a => Cl S0 H0 A a ∧ a ≠ D) H4 v y := r4.wide fun a z => ⟨⟨(cl_sc z).1, fun k => (cl_sc z).2 (.inl k)⟩, fun k => (cl_sc z).2 (.inr k)⟩
                      have al : acc.length < sizeLine := by
                        rw [racc.length]
                        have : accD.length < res.length := by rw [← hres]; simp
                        exact Nat.lt_of_lt_of_le this (sz6 hlen)
                      refine ⟨acc, h4, al, fun b u e => ?_, acc ++ [y], accD ++ [v], rest2, upd_same, ?_, rfl, by rw [← hres]; simp⟩
                      · rw [upd_ne (ne_of_none e hD)]
                        exact s4 _ _ (s3 _ _ (sx _ _ (s2 _ _ e)))
                      · exact RpA.updD ((((racc.grow sx).grow s3).grow s4).append (RpA.cons r4' RpA.nil)) h4
        · have hdr : ds.drop i = [] := List.drop_eq_nil_of_le (by omega)
          rw [hdr] at hrest
          cases hrest
          rw [List.append_nil] at hres
          subst hres
          exact .inl ⟨wk.stop i H2 (gS H2 s2) (by omega), q D acc H2 (s.free hD) (s.trans s2) hacc (racc.wide fun a z => ⟨fun _ => z.1, z.2⟩)⟩
      · cases hf
theorem cf_lc {c c2 : Bool} {ga : En → Option Bool} {fe : En → Option PyData} {is : List Nat} (h : PE X e (tLc (tI X.K c f) (tG X.K is g) (tT X.K ga) (tE X.K true fe) is)) : PE X e (tF X.K c2 (fCmp is f g ga fe)) := pe_w h fun _ _ _ q => lc_run (fun _ _ _ z => z) q
theorem cf_lc1 {c c2 : Bool} {fe : En → Option PyData} {is : List Nat} (h : PE X e (tLc (tI X.K c f) (tG X.K is g) tYes (tE X.K true fe) is)) : PE X e (tF X.K c2 (fCmp is f g tYes' fe)) := pe_w h fun _ _ _ q => lc_run (fun _ _ _ z => yes_run z) q
theorem cs_lcO {i : Nat} {c : Bool} {ga : En → Option Bool} {fe : En → Option PyData} {is : List Nat} (h : PS X st (tAsg (tLc (tI X.K c f) (tG X.K is g) (tT X.K ga) (tE X.K true fe) is) (gName i))) : PS X st (tS X.K (sOwn i (fCmp is f g ga fe))) :=
  ps_w h fun D σ H q => lc_run (c2 := true) (fun _ _ _ z => z) (own_run q)
theorem cs_lcO1 {i : Nat} {c : Bool} {fe : En → Option PyData} {is : List Nat} (h : PS X st (tAsg (tLc (tI X.K c f) (tG X.K is g) tYes (tE X.K true fe) is) (gName i))) : PS X st (tS X.K (sOwn i (fCmp is f g tYes' fe))) :=
  ps_w h fun D σ H q => lc_run (c2 := true) (fun _ _ _ z => yes_run z) (own_run q)
end
end Mir

namespace Mir
open PySem PySem.Spec PyProof.Rows L2

/-! ### a def -/
def spF (K : PySem.W.Frag) (g : List PyData → Option PyData) : Sp := fun vs H Q _ => ∃ S ds d, RpA K S H ds vs ∧ g ds = some d ∧ ∀ v H', Same H H' → Rp K (Bd S H) H' d v → Q v H'
def env0 (nN : Nat) (ds : List PyData) : En := ds.map .val ++ List.replicate (nN - ds.length) .un
def outD : Out → Option PyData
  | .rt d => some d
  | .nx _ => some .none
  | _ => none
def gDef (np nN : Nat) (fB : En → Out) : List PyData → Option PyData := fun ds => if ds.length = np then outD (fB (env0 nN ds)) else none
section
variable {K : PySem.W.Frag}
theorem def_run {N : List Str} {np : Nat} {fB : En → Out} {vs : List V} {H : Hp} {Q : VK} {E : XK} (h : spF K (gDef np N.length fB) vs H Q E) : tS K fB { nx := fun _ H' => Q .non H', rt := Q } (L2.start N vs) H := by
  obtain ⟨S, ds, d, r, hg, q⟩ := h
  unfold gDef at hg
  split at hg
  · refine ⟨S, H, fun _ => False, env0 N.length ds, ⟨?_, fun i s e => ?_, fun i j es fs a e1 => ?_, fun _ z => z.elim, fun _ z => z.elim, Same.refl H⟩, ?_⟩
    · simp [L2.start, env0, r.length]
    · unfold env0 at e
      by_cases hi : i < ds.length
      · rw [List.getElem?_append_left (by simpa using hi), List.getElem?_map, List.getElem?_eq_getElem hi] at e
        cases e
        obtain ⟨v, e1, e2⟩ := r.get (List.getElem?_eq_getElem hi)
        refine .inr ⟨v, ?_, e2.wide fun a z => ⟨.inl z, fun y => y⟩⟩
        unfold L2.start
        rw [List.getElem?_append_left (by simpa [r.length] using hi), List.getElem?_map, e1]
        rfl
      · rw [List.getElem?_append_right (by simpa using Nat.le_of_not_lt hi)] at e
        exact .inl (List.eq_of_mem_replicate (List.mem_of_getElem? e))
    · exfalso
      unfold env0 at e1
      by_cases hi : i < ds.length
      · rw [List.getElem?_append_left (by simpa using hi), List.getElem?_map, List.getElem?_eq_getElem hi] at e1
        cases e1
      · rw [List.getElem?_append_right (by simpa using Nat.le_of_not_lt hi)] at e1
        cases (List.eq_of_mem_replicate (List.mem_of_getElem? e1))
    · cases ho : fB (env0 N.length ds) with
      | rt v =>
        rw [ho] at hg
        cases hg
        exact q
      | nx e =>
        rw [ho] at hg
        cases hg
        exact fun A' H' σ' E' _ _ => q _ H' E'.same (by rw [Rp])
      | bk e => rw [ho] at hg; cases hg
      | ct e => rw [ho] at hg; cases hg
      | bad => rw [ho] at hg; cases hg
  · cases hg
variable {P : Program} {w : World} {mg : Str → Option Value} {base : Heap}
theorem fn_ok {x qual : Str} {st : Stmt} {f : Addr} {fd : FuncData} {N ps : List Str} {k np nN : Nat} {fB : En → Out} {g : List PyData → Option PyData} (F : Fun K x qual st f fd) (S : FnScope N ps (defScope st)) (hp : np = ps.length) (hN : nN = N.length) (hg : g = gDef np nN fB)
    (hb : ∀ (cdv : Value) (A : Around) (outer : List Env) (s : Shared) (H : Hp) (E : XK), Room k (A.deeper (envOfC qual (defScope st) s.heap.objs.size f cdv)) → PSs (cxOf CX0 P w K mg base N qual (defScope st) f cdv A outer s H E).nox (defBody st) (tS K fB)) :
    FnOk P w K mg base CX0 (k + 1) f fd ps (spF K g) := by
  subst hp hN hg
  refine F.ok S (fun vs H Q E h => ?_) fun cdv A outer s H vs Q E hr h => ⟨_, hb cdv A outer s H E hr, def_run h⟩
  obtain ⟨S', ds, d, r, hg, _⟩ := h
  unfold gDef at hg
  split at hg
  · rw [r.length]; assumption
  · cases hg
theorem fn_imp {k : Nat} {f : Addr} {fd : FuncData} {ps : List Str} {g g' : List PyData → Option PyData} (F : FnOk P w K mg base CX0 k f fd ps (spF K g)) (h : ∀ ds d, g' ds = some d → g ds = some d) : FnOk P w K mg base CX0 k f fd ps (spF K g') :=
  F.imp fun vs H Q E ⟨S, ds, d, r, hg, q⟩ => ⟨S, ds, d, r, h ds d hg, q⟩
end

/-! ### calls -/
def eCall (g : List PyData → Option PyData) (fa : En → Option (List PyData)) : En → Option PyData := fun env => match fa env with
  | some ds => g ds
  | none => none
section
variable {X : Cx} {a b e : Expr} {es : List Expr} {pos p : Pos} {x : Str} {c c1 c2 : Bool} {f g : En → Option PyData} {fa : En → Option (List PyData)} {fb : En → Option Bool}
theorem bd_sc {K : PySem.W.Frag} {S0 A : Addr → Prop} {H0 H : Hp} {σ : L2.St} {env : En} (E : EnvOk K S0 H0 A H σ env) {c : Bool} {a : Addr} (h : Bd (Cl S0 H0 A) H a) : SC c S0 H0 A a := fun _ => by
  rcases h with h | h
  · exact h
  · exact cl_new E h
theorem call_run {K : PySem.W.Frag} {σ : L2.St} {H : Hp} {Q : VK} {E : XK} {gd : List PyData → Option PyData} (h : tE K c (eCall gd fa) σ H Q) : tCall (spF K gd) [] E (tA K true fa) σ H Q := by
  obtain ⟨S0, H0, A, env, d, En, hf, q⟩ := h
  unfold eCall at hf
  cases hd : fa env with
  | none => rw [hd] at hf; cases hf
  | some ds =>
    simp only [hd] at hf
    refine ⟨S0, H0, A, env, ds, En, hd, fun vs H1 s r => ?_⟩
    show spF K gd (vs ++ []) H1 Q E
    rw [List.append_nil]
    exact ⟨Cl S0 H0 A, ds, d, r.wide fun _ z => cl_sc z, hf, fun v H2 s2 r2 => q v H2 (s.trans s2) (r2.wide fun _ z => bd_sc (En.grow s) z)⟩
theorem callB_run {K : PySem.W.Frag} {σ : L2.St} {H : Hp} {Q : VK} {E : XK} {gd : List PyData → Option PyData} (h : tE K c (eN (eCall gd fa)) σ H Q) : tCall (spF K gd) [] E (tA K false fa) σ H Q := by
  obtain ⟨S0, H0, A, env, d, En, hf, q⟩ := h
  unfold eN at hf
  cases hc : eCall gd fa env with
  | none => rw [hc] at hf; cases hf
  | some d' =>
    rw [hc] at hf
    have hf' : (if noL d' = true then some d' else none) = some d := hf
    by_cases n : noL d' = true
    · rw [if_pos n] at hf'
      cases hf'
      unfold eCall at hc
      cases hd : fa env with
      | none => rw [hd] at hc; cases hc
      | some ds =>
        simp only [hd] at hc
        refine ⟨S0, H0, A, env, ds, En, hd, fun vs H1 s r => ?_⟩
        show spF K gd (vs ++ []) H1 Q E
        rw [List.append_nil]
        exact ⟨_, ds, d, r, hc, fun v H2 s2 r2 => q v H2 (s.trans s2) (Rp.noL d v n r2)⟩
    · rw [if_neg n] at hf'; cases hf'
variable {E : XK} {gd : List PyData → Option PyData}
theorem ce_call (h : PE X e (tCall (spF X.K gd) [] E (tA X.K true fa))) : PE X e (tE X.K c (eCall gd fa)) := pe_w h fun _ _ _ q => call_run q
theorem ce_callB (h : PE X e (tCall (spF X.K gd) [] E (tA X.K false fa))) : PE X e (tE X.K c (eN (eCall gd fa))) := pe_w h fun _ _ _ q => callB_run q
theorem ce_call0 (h : PE X e (tCall (spF X.K gd) [] E tNil)) : PE X e (tE X.K c (eCall gd aNil)) := pe_w h fun σ H Q q => by
  obtain ⟨S0, H0, A, env, ds, En, hd, q⟩ := call_run (E := E) q
  cases hd
  exact q [] H (Same.refl H) RpA.nil

/-! ### built-ins called -/
def CROk (K : PySem.W.Frag) (sc : Bool) (r : List V → Hp → VK → Prop) (h : List PyData → Option PyData) : Prop := ∀ (S S' : Addr → Prop) (H : Hp) (vs : List V) (ds : List PyData) (d : PyData) (Q : VK), (∀ p, H p = none → S p) → (sc = true ∨ S' = S) → RpA K S H ds vs → h ds = some d →
  (∀ v H', Same H H' → Rp K S' H' d v → Q v H') → r vs H Q
theorem cb_run {K : PySem.W.Frag} {sc : Bool} {r : List V → Hp → VK → Prop} {h : List PyData → Option PyData} (R : CROk K sc r h) (hc : sc = true ∨ c2 = c1) {σ : L2.St} {H : Hp} {Q : VK} (q : tE K c2 (eCall h fa) σ H Q) : tCB r (tA K c1 fa) σ H Q := by
  obtain ⟨S0, H0, A, env, d, E, hf, q⟩ := q
  unfold eCall at hf
  cases hd : fa env with
  | none => rw [hd] at hf; cases hf
  | some ds =>
    simp only [hd] at hf
    exact ⟨S0, H0, A, env, ds, E, hd, fun vs H1 s1 r1 => R (SC c1 S0 H0 A) (SC c2 S0 H0 A) H1 vs ds d Q (fun p hp => sc_new (E.grow s1) hp) (hc.imp id fun z => by rw [z]) r1 hf fun v H2 s2 r2 => q v H2 (s1.trans s2) r2⟩
theorem ce_cb {sc : Bool} {r : List V → Hp → VK → Prop} {h : List PyData → Option PyData} (R : CROk X.K sc r h) (he : PE X e (tCB r (tA X.K c1 fa))) (hc : sc = true ∨ c2 = c1 := by first | exact .inl rfl | exact .inr rfl) : PE X e (tE X.K c2 (eCall h fa)) := pe_w he fun _ _ _ q => cb_run R hc q
theorem rp1 {K : PySem.W.Frag} {S : Addr → Prop} {H : Hp} {i : Int} : Rp K S H (.int i) (.int i) := by rw [Rp]
theorem rpb {K : PySem.W.Frag} {S : Addr → Prop} {H : Hp} {i : Bool} : Rp K S H (.bool i) (.bl i) := by rw [Rp]
theorem rps {K : PySem.W.Frag} {S : Addr → Prop} {H : Hp} {i : Str} : Rp K S H (.str i) (.str i) := by rw [Rp]
def lenA : List PyData → Option PyData
  | [.list ds] => some (.int ds.length)
  | [.tuple ds] => some (.int ds.length)
  | [.str x] => if x.length ≤ 1000000 then some (.int x.length) else none
  | _ => none
theorem cr_len {K : PySem.W.Frag} : CROk K true (fun xs H Q => ∃ x n, xs = [x] ∧ LenV K x H n ∧ Q (.int n) H) lenA := by
  intro S S' H vs ds d Q _ _ r h q
  unfold lenA at h
  split at h
  · cases h
    replace r := r.one
    obtain ⟨v, rfl, r⟩ := r
    rw [Rp] at r
    obtain ⟨a, xs, rfl, hs, ra⟩ := r
    exact ⟨_, _, rfl, .inl ⟨xs, hs.sq, rfl⟩, q _ H (Same.refl H) (by rw [ra.length]; exact rp1)⟩
  · cases h
    replace r := r.one
    obtain ⟨v, rfl, r⟩ := r
    rw [Rp] at r
    obtain ⟨a, xs, rfl, hs, ra⟩ := r
    exact ⟨_, _, rfl, .inr ⟨xs, hs, rfl⟩, q _ H (Same.refl H) (by rw [ra.length]; exact rp1)⟩
  · split at h
    · rename_i hl
      cases h
      replace r := r.one
      obtain ⟨v, rfl, r⟩ := r
      rw [Rp] at r
      subst r
      exact ⟨_, _, rfl, ⟨sz6 hl, rfl⟩, q _ H (Same.refl H) rp1⟩
    · cases h
  · cases h
def intA : List PyData → Option PyData
  | [.int i] => some (.int i)
  | [.bool k] => some (.int (if k then 1 else 0))
  | _ => none
theorem cr_int {K : PySem.W.Frag} : CROk K true (fun xs H Q => (∃ i, xs = [.int i] ∧ Q (.int i) H) ∨ ∃ k, xs = [.bl k] ∧ Q (.int (if k then 1 else 0)) H) intA := by
  intro S S' H vs ds d Q _ _ r h q
  unfold intA at h
  split at h
  · cases h
    replace r := r.one
    obtain ⟨v, rfl, r⟩ := r
    rw [Rp] at r
    subst r
    exact .inl ⟨_, rfl, q _ H (Same.refl H) rp1⟩
  · cases h
    replace r := r.one
    obtain ⟨v, rfl, r⟩ := r
    rw [Rp] at r
    subst r
    exact .inr ⟨_, rfl, q _ H (Same.refl H) rp1⟩
  · cases h
def tupA : List PyData → Option PyData
  | [.list ds] => some (.tuple ds)
  | [.tuple ds] => some (.tuple ds)
  | _ => none
theorem cr_tup {K : PySem.W.Frag} : CROk K false (fun xs H Q => ∃ p ys, xs = [.ref p] ∧ ((SqL K H p ys ∧ ∀ l, H l = none → Q (.ref l) (upd H l (.tup ys))) ∨ (SqT K H p ys ∧ Q (.ref p) H))) tupA := by
  intro S S' H vs ds d Q hn hS r h q
  have hS' : S' = S := hS.elim (fun z => nomatch z) id
  subst hS'
  unfold tupA at h
  split at h
  · cases h
    replace r := r.one
    obtain ⟨v, rfl, r⟩ := r
    rw [Rp] at r
    obtain ⟨a, xs, rfl, hs, ra⟩ := r
    refine ⟨a, xs, rfl, .inl ⟨hs.sq, fun l hl => q _ _ (same_new hl) ?_⟩⟩
    rw [Rp]
    exact ⟨l, xs, rfl, .inl (.inl upd_same), ra.grow (same_new hl)⟩
  · cases h
    replace r := r.one
    obtain ⟨v, rfl, r⟩ := r
    have r' := r
    rw [Rp] at r
    obtain ⟨a, xs, rfl, hs, ra⟩ := r
    exact ⟨a, xs, rfl, .inr ⟨hs, q _ H (Same.refl H) r'⟩⟩
  · cases h
/-- tuple(x), x owned: its items are clean -/
def eTupO (i : Nat) : En → Option PyData := fun env => match env[i]? with
  | some (.own ds) => some (.tuple ds)
  | _ => none
theorem ce_tupO {i : Nat} (h : PE X e (tCB (fun xs H Q => ∃ p ys, xs = [.ref p] ∧ ((SqL X.K H p ys ∧ ∀ l, H l = none → Q (.ref l) (upd H l (.tup ys))) ∨ (SqT X.K H p ys ∧ Q (.ref p) H))) (tCons (tVar i) tNil))) : PE X e (tE X.K true (eTupO i)) := pe_w h fun σ H Q ⟨S0, H0, A, env, d, E, hf, q⟩ => by
  unfold eTupO at hf
  split at hf
  · rename_i ds hi
    cases hf
    rcases E.sl i _ hi with z | ⟨v, h1, a, xs, rfl, ha, hh, r⟩
    · cases z
    refine ⟨_, h1, a, xs, rfl, .inl ⟨.inl (.inl hh), fun l hl => q _ _ (same_new hl) ?_⟩⟩
    rw [Rp]
    exact ⟨l, xs, rfl, .inl (.inl upd_same), (r.wide fun _ z => sc_cl z).grow (same_new hl)⟩
  · cases hf
/-- list(x): a fresh one -/
def fList (f : En → Option PyData) : En → Option (List PyData) := fun env => match f env with
  | some (.list ds) => some ds
  | some (.tuple ds) => some ds
  | _ => none
theorem cf_list (h : PE X e (tCB (fun xs H Q => ∃ p ys, xs = [.ref p] ∧ (SqL X.K H p ys ∨ SqT X.K H p ys) ∧ ∀ l, H l = none → Q (.ref l) (upd H l (.lst ys))) (tCons (tE X.K true f) tNil))) : PE X e (tF X.K c (fList f)) := pe_w h fun σ H Q ⟨S0, H0, A, env, d, E, hf, q⟩ => by
  unfold fList at hf
  split at hf
  · rename_i ds hd
    cases hf
    refine ⟨S0, H0, A, env, _, E, hd, fun v H1 s r => ?_⟩
    rw [Rp] at r
    obtain ⟨a, xs, rfl, hs, ra⟩ := r
    exact ⟨a, xs, rfl, .inl hs.sq, fun l hl => q l xs _ (s.free hl) (s.trans (same_new hl)) upd_same ((ra.wide fun _ z => sc_cl (cl_sc z)).apart hl (same_new hl))⟩
  · rename_i ds hd
    cases hf
    refine ⟨S0, H0, A, env, _, E, hd, fun v H1 s r => ?_⟩
    rw [Rp] at r
    obtain ⟨a, xs, rfl, hs, ra⟩ := r
    exact ⟨a, xs, rfl, .inr hs, fun l hl => q l xs _ (s.free hl) (s.trans (same_new hl)) upd_same ((ra.wide fun _ z => sc_cl (cl_sc z)).apart hl (same_new hl))⟩
  · cases hf
/-! max, min -/
def intsD : List PyData → Option (List Int)
  | [] => some []
  | .int i :: ds => match intsD ds with
    | some ns => some (i :: ns)
    | none => none
  | _ :: _ => none
theorem intsD_rp {K : PySem.W.Frag} {S : Addr → Prop} {H : Hp} : ∀ {ds : List PyData} {ns : List Int} {xs : List V}, intsD ds = some ns → RpA K S H ds xs → xs = ns.map V.int ∧ ds = ns.map PyData.int
  | [], ns, xs, h, r => by
    rw [RpA] at r
    cases h
    exact ⟨r, rfl⟩
  | .int i :: ds, ns, xs, h, r => by
    rw [RpA] at r
    obtain ⟨v, r', rfl, h1, h2⟩ := r
    rw [Rp] at h1
    simp only [intsD] at h
    split at h
    · rename_i ms hm
      cases h
      obtain ⟨e1, e2⟩ := intsD_rp hm h2
      subst h1
      exact ⟨by rw [e1]; rfl, by rw [e2]; rfl⟩
    · cases h
  | .none :: _, _, _, h, _ => by cases h
  | .bool _ :: _, _, _, h, _ => by cases h
  | .str _ :: _, _, _, h, _ => by cases h
  | .list _ :: _, _, _, h, _ => by cases h
  | .tuple _ :: _, _, _, h, _ => by cases h
  | .dict _ :: _, _, _, h, _ => by cases h
def mxI : Int → List Int → Int
  | m, [] => m
  | m, x :: xs => mxI (if x > m then x else m) xs
def mnI : Int → List Int → Int
  | m, [] => m
  | m, x :: xs => mnI (if x < m then x else m) xs
theorem mxI_spec : ∀ (xs : List Int) (m : Int), mxI m xs ∈ m :: xs ∧ ∀ y ∈ m :: xs, y ≤ mxI m xs
  | [], m => ⟨List.mem_cons_self, fun y h => by simp at h; rw [h]; exact Int.le_refl _⟩
  | x :: xs, m => by
    obtain ⟨h1, h2⟩ := mxI_spec xs (if x > m then x else m)
    refine ⟨?_, fun y h => ?_⟩
    · show mxI (if x > m then x else m) xs ∈ _
      rcases List.mem_cons.mp h1 with h | h
      · rw [h]
        split <;> simp
      · exact List.mem_cons_of_mem _ (List.mem_cons_of_mem _ h)
    · show y ≤ mxI (if x > m then x else m) xs
      have h3 := h2 (if x > m then x else m) List.mem_cons_self
      rcases List.mem_cons.mp h with h | h
      · subst h
        split at h3 <;> (split <;> omega)
      · rcases List.mem_cons.mp h with h | h
        · subst h
          split at h3 <;> (split <;> omega)
        · exact h2 y (List.mem_cons_of_mem _ h)
theorem mnI_spec : ∀ (xs : List Int) (m : Int), mnI m xs ∈ m :: xs ∧ ∀ y ∈ m :: xs, mnI m xs ≤ y
  | [], m => ⟨List.mem_cons_self, fun y h => by simp at h; rw [h]; exact Int.le_refl _⟩
  | x :: xs, m => by
    obtain ⟨h1, h2⟩ := mnI_spec xs (if x < m then x else m)
    refine ⟨?_, fun y h => ?_⟩
    · show mnI (if x < m then x else m) xs ∈ _
      rcases List.mem_cons.mp h1 with h | h
      · rw [h]
        split <;> simp
      · exact List.mem_cons_of_mem _ (List.mem_cons_of_mem _ h)
    · show mnI (if x < m then x else m) xs ≤ y
      have h3 := h2 (if x < m then x else m) List.mem_cons_self
      rcases List.mem_cons.mp h with h | h
      · subst h
        split at h3 <;> (split <;> omega)
      · rcases List.mem_cons.mp h with h | h
        · subst h
          split at h3 <;> (split <;> omega)
        · exact h2 y (List.mem_cons_of_mem _ h)
def mx1 (k : Int → List Int → Int) : List PyData → Option PyData
  | [.list ds] => match intsD ds with
    | some (n :: ns) => some (.int (k n ns))
    | _ => none
  | _ => none
theorem cr_mx {K : PySem.W.Frag} : CROk K true (rMax K) (mx1 mxI) := by
  intro S S' H vs ds d Q _ _ r h q
  unfold mx1 at h
  split at h
  · replace r := r.one
    obtain ⟨v, rfl, r⟩ := r
    rw [Rp] at r
    obtain ⟨a, xs, rfl, hs, ra⟩ := r
    split at h
    · rename_i n ns hi
      cases h
      obtain ⟨e1, _⟩ := intsD_rp hi ra
      subst e1
      refine ⟨a, n :: ns, rfl, hs.sq, Nat.zero_lt_succ _, fun m hm hy => ?_⟩
      obtain ⟨k1, k2⟩ := mxI_spec ns n
      have e : m = mxI n ns := Int.le_antisymm (k2 m hm) (hy _ k1)
      rw [e]
      exact q _ H (Same.refl H) rp1
    · cases h
  · cases h
theorem cr_mn {K : PySem.W.Frag} : CROk K true (rMin K) (mx1 mnI) := by
  intro S S' H vs ds d Q _ _ r h q
  unfold mx1 at h
  split at h
  · replace r := r.one
    obtain ⟨v, rfl, r⟩ := r
    rw [Rp] at r
    obtain ⟨a, xs, rfl, hs, ra⟩ := r
    split at h
    · rename_i n ns hi
      cases h
      obtain ⟨e1, _⟩ := intsD_rp hi ra
      subst e1
      refine ⟨a, n :: ns, rfl, hs.sq, Nat.zero_lt_succ _, fun m hm hy => ?_⟩
      obtain ⟨k1, k2⟩ := mnI_spec ns n
      have e : m = mnI n ns := Int.le_antisymm (hy _ k1) (k2 m hm)
      rw [e]
      exact q _ H (Same.refl H) rp1
    · cases h
  · cases h
def mx2 : List PyData → Option PyData
  | [.int i, .int j] => some (.int (if j > i then j else i))
  | _ => none
def mn2 : List PyData → Option PyData
  | [.int i, .int j] => some (.int (if j < i then j else i))
  | _ => none
theorem cr_mx2 {K : PySem.W.Frag} : CROk K true (fun xs H Q => ∃ i j, xs = [.int i, .int j] ∧ Q (.int (if j > i then j else i)) H) mx2 := by
  intro S S' H vs ds d Q _ _ r h q
  unfold mx2 at h
  split at h
  · cases h
    obtain ⟨v, u, rfl, r1, r2⟩ := r.two
    rw [Rp] at r1 r2
    subst r1 r2
    exact ⟨_, _, rfl, q _ H (Same.refl H) rp1⟩
  · cases h
theorem cr_mn2 {K : PySem.W.Frag} : CROk K true (fun xs H Q => ∃ i j, xs = [.int i, .int j] ∧ Q (.int (if j < i then j else i)) H) mn2 := by
  intro S S' H vs ds d Q _ _ r h q
  unfold mn2 at h
  split at h
  · cases h
    obtain ⟨v, u, rfl, r1, r2⟩ := r.two
    rw [Rp] at r1 r2
    subst r1 r2
    exact ⟨_, _, rfl, q _ H (Same.refl H) rp1⟩
  · cases h
/-- max(xs, default=d), min likewise: ints -/
def rMxD (K : PySem.W.Frag) (k : Int → List Int → Int) : List V → List V → Hp → VK → Prop := fun vs zs H Q => ∃ a ns y, vs = [.ref a] ∧ zs = [y] ∧ SqL K H a (ns.map V.int) ∧ (match ns with
  | [] => Q y H
  | n :: ns => Q (.int (k n ns)) H)
theorem readsInts {h : Heap} : ∀ {ns : List Int} {us : List Value}, Vals (ns.map V.int) us → ∃ as, ReadsAll h us (ns.map PyData.int) as
  | [], _, r => by
    cases r
    exact ⟨_, ReadsAll.nil⟩
  | n :: ns, _, r => by
    cases r with
    | cons r1 r2 =>
      obtain ⟨t, rfl⟩ := r1
      obtain ⟨as, h2⟩ := readsInts r2
      exact ⟨_, ReadsAll.cons (Reads.int n t) h2⟩
theorem mxI_max : ∀ (ns : List Int) (n : Int), ns.foldl max n = mxI n ns
  | [], _ => rfl
  | x :: ns, n => by
    show ns.foldl max (max n x) = mxI (if x > n then x else n) ns
    rw [mxI_max ns]
    congr 1
    by_cases h : x > n
    · rw [if_pos h]; omega
    · rw [if_neg h]; omega
theorem mnI_min : ∀ (ns : List Int) (n : Int), ns.foldl min n = mnI n ns
  | [], _ => rfl
  | x :: ns, n => by
    show ns.foldl min (min n x) = mnI (if x < n then x else n) ns
    rw [mnI_min ns]
    congr 1
    by_cases h : x < n
    · rw [if_pos h]; omega
    · rw [if_neg h]; omega
theorem alike_ints (ns : List Int) : PySem.W.AlikeAll (ns.map PyData.int) := PySem.W.alikeAll_datum (α := Int) ns
theorem depth_ints : ∀ (ns : List Int), PyData.depthAll (ns.map PyData.int) = 0
  | [] => by simp [PyData.depthAll]
  | n :: ns => by simp [PyData.depthAll, PyData.depth, depth_ints ns]
theorem reads_int {h : Heap} {u : Value} {i : Int} {as : List Addr} (r : Reads h u (.int i) as) : ∃ t, u = .int i t := by
  cases r
  exact ⟨_, rfl⟩
theorem call_mxD (hc : X.calm = true) (hu : X.A.units + 64 < cLine) : CallRK X (.builtin "max") [Str.ofString "default"] (rMxD X.K mxI) := by
  intro pins s σ H vs zs us ws Q I r rz h
  obtain ⟨a, ns, y, rfl, rfl, hs, q⟩ := h
  obtain ⟨its, rv, hl, _⟩ := I.list hs
  rw [Vals.ref1 r]
  obtain ⟨u, rfl, ru⟩ := vals1 rz
  obtain ⟨as, ra⟩ := readsInts (h := s.heap) rv
  refine PySem.W.max_list_default (I.ok.hd hc) hl.isList (by rw [List.toList_toArray]; exact ra) (alike_ints ns) (by rw [depth_ints]; omega) (fun e h' tk k => ?_) fun z zs i v h' tk bs e hi rr k => ?_
  · cases ns with
    | nil => exact ⟨y, H, I.kept (t' := tk) k, ru, q⟩
    | cons _ _ => cases e
  · cases ns with
    | nil => cases e
    | cons n ns =>
      cases e
      rw [PySem.W.maxD_ints] at rr
      obtain ⟨t, rfl⟩ := reads_int rr
      exact ⟨.int _, H, I.kept (t' := tk) k, ⟨_, rfl⟩, by rw [mxI_max]; exact q⟩
theorem call_mnD (hc : X.calm = true) (hu : X.A.units + 64 < cLine) : CallRK X (.builtin "min") [Str.ofString "default"] (rMxD X.K mnI) := by
  intro pins s σ H vs zs us ws Q I r rz h
  obtain ⟨a, ns, y, rfl, rfl, hs, q⟩ := h
  obtain ⟨its, rv, hl, _⟩ := I.list hs
  rw [Vals.ref1 r]
  obtain ⟨u, rfl, ru⟩ := vals1 rz
  obtain ⟨as, ra⟩ := readsInts (h := s.heap) rv
  refine PySem.W.min_list_default (I.ok.hd hc) hl.isList (by rw [List.toList_toArray]; exact ra) (alike_ints ns) (by rw [depth_ints]; omega) (fun e h' tk k => ?_) fun z zs i v h' tk bs e hi rr k => ?_
  · cases ns with
    | nil => exact ⟨y, H, I.kept (t' := tk) k, ru, q⟩
    | cons _ _ => cases e
  · cases ns with
    | nil => cases e
    | cons n ns =>
      cases e
      rw [PySem.W.minD_ints] at rr
      obtain ⟨t, rfl⟩ := reads_int rr
      exact ⟨.int _, H, I.kept (t' := tk) k, ⟨_, rfl⟩, by rw [mnI_min]; exact q⟩
def eMxD (k : Int → List Int → Int) (f g : En → Option PyData) : En → Option PyData := fun env => match f env with
  | some (.list ds) => match g env with
    | some d => match intsD ds with
      | some [] => some d
      | some (n :: ns) => some (.int (k n ns))
      | none => none
    | none => none
  | _ => none
theorem ce_mxD {k : Int → List Int → Int} (h : PE X e (tCKw (rMxD X.K k) (tCons (tE X.K c1 f) tNil) (tCons (tE X.K c g) tNil))) : PE X e (tE X.K c (eMxD k f g)) := pe_w h fun σ H Q ⟨S0, H0, A, env, d, E, hf, q⟩ => by
  unfold eMxD at hf
  split at hf
  · rename_i ds hd
    split at hf
    · rename_i d2 hd2
      refine ⟨S0, H0, A, env, _, E, hd, fun v H1 s r => ⟨S0, H0, A, env, d2, E.grow s, hd2, fun u H2 s2 r2 => ?_⟩⟩
      rw [Rp] at r
      obtain ⟨a, xs, rfl, hs, ra⟩ := r
      split at hf
      · rename_i hi
        cases hf
        obtain ⟨e1, _⟩ := intsD_rp hi ra
        subst e1
        exact ⟨a, [], u, rfl, rfl, s2.seq hs.sq, q u H2 (s.trans s2) r2⟩
      · rename_i n ns hi
        cases hf
        obtain ⟨e1, _⟩ := intsD_rp hi ra
        subst e1
        exact ⟨a, n :: ns, u, rfl, rfl, s2.seq hs.sq, q _ H2 (s.trans s2) rp1⟩
      · cases hf
    · cases hf
  · cases hf
/-! isinstance(x, T), T a built-in class -/
def tyD : PyData → String
  | .none => "NoneType"
  | .bool _ => "bool"
  | .int _ => "int"
  | .str _ => "str"
  | .list _ => "list"
  | .tuple _ => "tuple"
  | .dict _ => "dict"
theorem tyX_of {K : PySem.W.Frag} {S : Addr → Prop} {H : Hp} {d : PyData} {v : V} (r : Rp K S H d v) : TyX K H v (.type (tyD d)) := by
  cases d with
  | none => rw [Rp] at r; subst r; exact .base .non
  | bool k => rw [Rp] at r; subst r; exact .base (.bl k)
  | int k => rw [Rp] at r; subst r; exact .base (.int k)
  | str k => rw [Rp] at r; subst r; exact .base (.str k)
  | list ds =>
    rw [Rp] at r
    obtain ⟨a, xs, rfl, hs, _⟩ := r
    rcases hs with ⟨_, hs | ⟨o, hs⟩⟩ | ⟨o, its, n, hk, hc, _⟩
    · exact .base (.lst hs)
    · exact .base (.frz hs)
    · exact .kList hk hc
  | tuple ds =>
    rw [Rp] at r
    obtain ⟨a, xs, rfl, hs, _⟩ := r
    rcases hs with (hs | ⟨o, hs⟩) | ⟨o, its, n, hk, hc, _⟩
    · exact .base (.tup hs)
    · exact .fTuple hs
    · exact .kTuple hk hc
  | dict k => rw [Rp] at r; exact r.elim
def isiB (T : String) (t : String) : Option Bool :=
  if T = "list" then (if t = "NoneType" ∨ t = "bool" ∨ t = "int" ∨ t = "str" ∨ t = "tuple" then some false else if t = "list" then some true else none)
  else if T = "tuple" then (if t = "NoneType" ∨ t = "bool" ∨ t = "int" ∨ t = "str" ∨ t = "list" then some false else if t = "tuple" then some true else none)
  else if T = "bool" then (if t = "NoneType" ∨ t = "tuple" ∨ t = "int" ∨ t = "str" ∨ t = "list" then some false else if t = "bool" then some true else none)
  else none
theorem isiB_kit {T t : String} {b : Bool} (h : isiB T t = some b) : kitB t T = some b := by
  unfold isiB at h
  split at h
  · rename_i e
    subst e
    split at h
    · rename_i z
      cases h
      rcases z with z | z | z | z | z <;> (subst z; decide +kernel)
    · split at h
      · rename_i z
        cases h
        subst z
        decide +kernel
      · cases h
  · split at h
    · rename_i e
      subst e
      split at h
      · rename_i z
        cases h
        rcases z with z | z | z | z | z <;> (subst z; decide +kernel)
      · split at h
        · rename_i z
          cases h
          subst z
          decide +kernel
        · cases h
    · split at h
      · rename_i e
        subst e
        split at h
        · rename_i z
          cases h
          rcases z with z | z | z | z | z <;> (subst z; decide +kernel)
        · split at h
          · rename_i z
            cases h
            subst z
            decide +kernel
          · cases h
      · cases h
def eIsi (T : String) (f : En → Option PyData) : En → Option PyData := fun env => match f env with
  | some d => (isiB T (tyD d)).map .bool
  | none => none
theorem ce_isi {T : String} (h : PE X e (tCB (rIsi X.K) (tCons (tE X.K c f) (tCons (tC (.ty T)) tNil)))) : PE X e (tE X.K true (eIsi T f)) := pe_w h fun σ H Q ⟨S0, H0, A, env, d, E, hf, q⟩ => by
  unfold eIsi at hf
  split at hf
  · rename_i d' hd
    cases hb : isiB T (tyD d') with
    | none => rw [hb] at hf; cases hf
    | some b =>
      rw [hb] at hf
      cases hf
      refine ⟨S0, H0, A, env, d', E, hd, fun v H1 s r => ?_⟩
      exact ⟨v, .ty T, _, _, b, rfl, .ty T, tyX_of r, kit_ty (isiB_kit hb), q _ H1 s rpb⟩
  · cases hf
/-! sep.join(xs) -/
def strsD : List PyData → Option (List Str)
  | [] => some []
  | .str i :: ds => match strsD ds with
    | some ns => some (i :: ns)
    | none => none
  | _ :: _ => none
theorem strsD_rp {K : PySem.W.Frag} {S : Addr → Prop} {H : Hp} : ∀ {ds : List PyData} {ns : List Str} {xs : List V}, strsD ds = some ns → RpA K S H ds xs → xs = ns.map V.str
  | [], ns, xs, h, r => by
    rw [RpA] at r
    cases h
    exact r
  | .str i :: ds, ns, xs, h, r => by
    rw [RpA] at r
    obtain ⟨v, r', rfl, h1, h2⟩ := r
    rw [Rp] at h1
    simp only [strsD] at h
    split at h
    · rename_i ms hm
      cases h
      have e1 := strsD_rp hm h2
      subst h1
      rw [e1]; rfl
    · cases h
  | .none :: _, _, _, h, _ => by cases h
  | .bool _ :: _, _, _, h, _ => by cases h
  | .int _ :: _, _, _, h, _ => by cases h
  | .list _ :: _, _, _, h, _ => by cases h
  | .tuple _ :: _, _, _, h, _ => by cases h
  | .dict _ :: _, _, _, h, _ => by cases h
def eJoin (f g : En → Option PyData) : En → Option PyData := e2 (fun s d => match s with
  | .str a => match (match d with | .list ds => strsD ds | .tuple ds => strsD ds | _ => none) with
    | some ys => if (ys.map (·.length)).sum + ys.length * a.length ≤ 1000000 then some (.str (Txt.join a ys)) else none
    | none => none
  | _ => none) f g
theorem ce_join {t : TE} (h : PE X e (tM1 (fun x xs H Q => ∃ a p, ∃ ys : List Str, x = .str a ∧ xs = [.ref p] ∧ (SqL X.K H p (ys.map V.str) ∨ SqT X.K H p (ys.map V.str)) ∧ (ys.map (·.length)).sum + ys.length * a.length ≤ 16777216 ∧ Q (.str (Txt.join a ys)) H) (tE X.K c1 f) (tE X.K c2 g))) :
    PE X e (tE X.K true (eJoin f g)) := pe_w h fun σ H Q ⟨S0, H0, A, env, d, E, hf, q⟩ => by
  obtain ⟨x, y, h1, h2, h3⟩ := e2_some hf
  refine ⟨S0, H0, A, env, x, E, h1, fun v H1 s1 r1 => ?_⟩
  cases x with
  | str a =>
    rw [Rp] at r1
    subst r1
    refine ⟨⟨a, rfl⟩, S0, H0, A, env, y, E.grow s1, h2, fun u H2 s2 r2 => ?_⟩
    dsimp only at h3
    split at h3
    · rename_i ys hy
      split at h3
      · rename_i hl
        cases h3
        cases y with
        | list ds =>
          rw [Rp] at r2
          obtain ⟨p, xs, rfl, hs, ra⟩ := r2
          have e1 := strsD_rp hy ra
          subst e1
          exact ⟨a, p, ys, rfl, rfl, .inl hs.sq, by omega, q _ H2 (s1.trans s2) rps⟩
        | tuple ds =>
          rw [Rp] at r2
          obtain ⟨p, xs, rfl, hs, ra⟩ := r2
          have e1 := strsD_rp hy ra
          subst e1
          exact ⟨a, p, ys, rfl, rfl, .inr hs, by omega, q _ H2 (s1.trans s2) rps⟩
        | _ => cases hy
      · cases h3
    · cases h3
  | _ => cases h3
end
end Mir

namespace Mir
open PySem PySem.Spec PyProof.Rows L2

section
variable {X : Cx} {a b e : Expr} {es : List Expr} {pos p : Pos} {c c1 c2 : Bool} {f g : En → Option PyData} {fa : En → Option (List PyData)} {fb : En → Option Bool} {K : PySem.W.Frag}
/-! ### + -/
theorem cat_lists {prog : Program} {w : World} {A : Around} {E : Value → Shared → Prop} {s : Shared} {l b : Addr} {us ws : Array Value} {Q : Value → Shared → Prop} (hl : s.heap.IsList l us) (hb : s.heap.IsList b ws)
    (h : Q (.ref s.heap.objs.size) { s with heap := s.heap.push { cls := .type "list", data := .seq (us ++ ws) } }) (hz : us.size + ws.size ≤ sizeLine) : wpAny (model prog w) A (binaryOp .Add (.ref l) (.ref b)) Q E s := by
  rcases hl with ⟨⟨k1, d1, x1, t1⟩, g1, rfl, n1, y1⟩
  rcases hb with ⟨⟨k2, d2, x2, t2⟩, g2, rfl, n2, y2⟩
  dsimp only at y1 y2
  subst y1 y2
  exact concat_meets ⟨_, g1, rfl⟩ ⟨_, g2, rfl⟩ noFill_list_add seq_list_add PySem.F.slot_list_add PySem.F.entry_list_add (PySem.F.args_list_add_2 _ _)
    (list_addW l b us ws n1 n2 d1 d2 t1 t2 hz) ⟨g1, g2, h⟩
def rCatR (K : PySem.W.Frag) : R2 := fun x y H Q => ∃ l b xs zs, x = .ref l ∧ y = .ref b ∧ SqL K H l xs ∧ SqL K H b zs ∧ xs.length + zs.length ≤ sizeLine ∧ ∀ p, H p = none → Q (.ref p) (upd H p (.lst (xs ++ zs)))
theorem op_catR : OpR X (binaryOp .Add) (rCatR X.K) := by
  intro pins s σ H x y v u Q I rx ry h
  obtain ⟨l, b, xs, zs, rfl, rfl, h1, h2, hz, q⟩ := h
  cases rx
  cases ry
  obtain ⟨i1, r1, p1, _⟩ := I.list h1
  obtain ⟨i2, r2, p2, _⟩ := I.list h2
  have l1 := r1.length
  have l2 := r2.length
  refine cat_lists p1.isList p2.isList ?_ (by rw [List.size_toArray, List.size_toArray]; omega)
  have ea : i1.toArray ++ i2.toArray = (i1 ++ i2).toArray := by simp
  rw [ea]
  exact ⟨.ref s.heap.objs.size, _, I.lnew (t' := s.toks) (r1.append r2) (by rw [List.length_append]; omega), rfl, q _ I.fresh⟩
def rAddX (K : PySem.W.Frag) : R2 := fun x y H Q => (∃ i j, x = .int i ∧ y = .int j ∧ Q (.int (i + j)) H) ∨ (∃ i j, x = .str i ∧ y = .str j ∧ i.length + j.length ≤ sizeLine ∧ Q (.str (i ++ j)) H) ∨ rCatA K x y H Q ∨ rCatR K x y H Q
theorem op_addX : OpR X (binaryOp .Add) (rAddX X.K) := by
  intro pins s σ H x y v u Q I rx ry h
  rcases h with h | h | h | h
  · exact op_add pins s σ H x y v u Q I rx ry h
  · exact op_add_str pins s σ H x y v u Q I rx ry h
  · exact op_catA pins s σ H x y v u Q I rx ry h
  · exact op_catR pins s σ H x y v u Q I rx ry h
def addD : PyData → PyData → Option PyData
  | .int i, .int j => some (.int (i + j))
  | .str x, .str y => if x.length + y.length ≤ 1000000 then some (.str (x ++ y)) else none
  | .tuple xs, .tuple ys => if xs.length + ys.length ≤ 1000000 then some (.tuple (xs ++ ys)) else none
  | .list xs, .list ys => if xs.length + ys.length ≤ 1000000 then some (.list (xs ++ ys)) else none
  | _, _ => none
theorem r2_add : R2Ok K false (rAddX K) addD := by
  intro S S' H x y dx dy d Q hn hS rx ry h q
  have hS' : S' = S := hS.elim (fun z => nomatch z) id
  subst hS'
  unfold addD at h
  split at h
  · cases h
    rw [Rp] at rx ry
    subst rx ry
    exact .inl ⟨_, _, rfl, rfl, q _ H (Same.refl H) rp1⟩
  · split at h
    · rename_i hl
      cases h
      rw [Rp] at rx ry
      subst rx ry
      exact .inr (.inl ⟨_, _, rfl, rfl, sz6 hl, q _ H (Same.refl H) rps⟩)
    · cases h
  · rename_i xs ys
    split at h
    · rename_i hl
      cases h
      have rx' := rx
      have ry' := ry
      rw [Rp] at rx ry
      obtain ⟨l, us, rfl, h1, r1⟩ := rx
      obtain ⟨m, vs, rfl, h2, r2⟩ := ry
      have l1 := r1.length
      have l2 := r2.length
      refine .inr (.inr (.inl ⟨l, m, us, vs, rfl, rfl, h1, h2, by rw [l1, l2]; exact sz6 hl, fun e => ?_, fun n e => ?_, fun n1 n2 p hp => ?_⟩))
      · have e1 : xs = [] := List.eq_nil_of_length_eq_zero (by rw [← l1, e]; rfl)
        subst e1
        exact q _ H (Same.refl H) ry'
      · have e1 : ys = [] := List.eq_nil_of_length_eq_zero (by rw [← l2, e]; rfl)
        subst e1
        rw [List.append_nil] at q
        exact q _ H (Same.refl H) rx'
      · refine q _ _ (same_new hp) ?_
        rw [Rp]
        exact ⟨p, _, rfl, .inl (.inl upd_same), (r1.append r2).grow (same_new hp)⟩
    · cases h
  · split at h
    · rename_i hl
      cases h
      rw [Rp] at rx ry
      obtain ⟨l, us, rfl, h1, r1⟩ := rx
      obtain ⟨m, vs, rfl, h2, r2⟩ := ry
      refine .inr (.inr (.inr ⟨l, m, us, vs, rfl, rfl, h1.sq, h2.sq, by rw [r1.length, r2.length]; exact sz6 hl, fun p hp => q _ _ (same_new hp) ?_⟩))
      rw [Rp]
      exact ⟨p, _, rfl, .inl ⟨hn p hp, .inl upd_same⟩, (r1.append r2).grow (same_new hp)⟩
    · cases h
  · cases h
theorem ce_add (ha : PE X a (tE X.K c f)) (hb : PE X b (tE X.K c g)) : PE X (.BinOp a .Add b pos) (tE X.K c (e2 addD f g)) := ce_op op_addX r2_add ha hb
/-- list + list, fresh -/
def fCat (f g : En → Option PyData) : En → Option (List PyData) := fun env => match f env with
  | some (.list xs) => match g env with
    | some (.list ys) => if xs.length + ys.length ≤ 1000000 then some (xs ++ ys) else none
    | _ => none
  | _ => none
theorem cf_cat (ha : PE X a (tE X.K true f)) (hb : PE X b (tE X.K true g)) : PE X (.BinOp a .Add b pos) (tF X.K c (fCat f g)) := pe_w (pe_op op_catR ha hb) fun σ H Q ⟨S0, H0, A, env, d, E, hf, q⟩ => by
  unfold fCat at hf
  split at hf
  · rename_i xs h1
    split at hf
    · rename_i ys h2
      split at hf
      · rename_i hl
        cases hf
        refine ⟨S0, H0, A, env, _, E, h1, fun v H1 s1 r1 => ⟨S0, H0, A, env, _, E.grow s1, h2, fun u H2 s2 r2 => ?_⟩⟩
        rw [Rp] at r1 r2
        obtain ⟨l, us, rfl, k1, q1⟩ := r1
        obtain ⟨m, vs, rfl, k2, q2⟩ := r2
        refine ⟨l, m, us, vs, rfl, rfl, s2.seq k1.sq, k2.sq, by rw [q1.length, q2.length]; exact sz6 hl, fun p hp => q p _ _ ((s1.trans s2).free hp) ((s1.trans s2).trans (same_new hp)) upd_same ?_⟩
        exact (((q1.grow s2).append q2).wide fun _ z => sc_cl (cl_sc z)).apart hp (same_new hp)
      · cases hf
    · cases hf
  · cases hf

/-! ### ints -/
def i2 (h : Int → Int → Option PyData) : PyData → PyData → Option PyData
  | .int i, .int j => h i j
  | _, _ => none
theorem r2_I {C : Int → Int → Prop} [DecidableRel C] {k : Int → Int → Int} : R2Ok K true (rI C fun i j => .int (k i j)) (i2 fun i j => if C i j then some (.int (k i j)) else none) := by
  intro S S' H x y dx dy d Q hn hS rx ry h q
  unfold i2 at h
  split at h
  · dsimp only at h
    split at h
    · rename_i hc
      cases h
      rw [Rp] at rx ry
      subst rx ry
      exact ⟨_, _, rfl, rfl, hc, q _ H (Same.refl H) rp1⟩
    · cases h
  · cases h
theorem r2_I0 {k : Int → Int → Int} : R2Ok K true (rI0 fun i j => .int (k i j)) (i2 fun i j => some (.int (k i j))) := by
  intro S S' H x y dx dy d Q hn hS rx ry h q
  unfold i2 at h
  split at h
  · cases h
    rw [Rp] at rx ry
    subst rx ry
    exact ⟨_, _, rfl, rfl, q _ H (Same.refl H) rp1⟩
  · cases h
theorem r2_B0 {k : Int → Int → Bool} : R2Ok K true (rI0 fun i j => .bl (k i j)) (i2 fun i j => some (.bool (k i j))) := by
  intro S S' H x y dx dy d Q hn hS rx ry h q
  unfold i2 at h
  split at h
  · cases h
    rw [Rp] at rx ry
    subst rx ry
    exact ⟨_, _, rfl, rfl, q _ H (Same.refl H) rpb⟩
  · cases h
instance : DecidableRel CMul := fun i j => by unfold CMul; infer_instance
instance : DecidableRel CDiv := fun i j => by unfold CDiv; infer_instance
instance : DecidableRel CPow := fun i j => by unfold CPow; infer_instance
def subD : PyData → PyData → Option PyData := i2 fun i j => some (.int (i - j))
def mulD : PyData → PyData → Option PyData := i2 fun i j => if CMul i j then some (.int (i * j)) else none
def divD : PyData → PyData → Option PyData := i2 fun i j => if CDiv i j then some (.int (i / j)) else none
def modD : PyData → PyData → Option PyData := i2 fun i j => if 0 < j then some (.int (i % j)) else none
def powD : PyData → PyData → Option PyData := i2 fun i j => if CPow i j then some (.int (i ^ j.toNat)) else none
theorem ce_sub (ha : PE X a (tE X.K c f)) (hb : PE X b (tE X.K c g)) : PE X (.BinOp a .Sub b pos) (tE X.K true (e2 subD f g)) := ce_op op_sub r2_I0 ha hb
theorem ce_mul (ha : PE X a (tE X.K c f)) (hb : PE X b (tE X.K c g)) : PE X (.BinOp a .Mult b pos) (tE X.K true (e2 mulD f g)) := ce_op op_mul r2_I ha hb
theorem ce_div (ha : PE X a (tE X.K c f)) (hb : PE X b (tE X.K c g)) : PE X (.BinOp a .FloorDiv b pos) (tE X.K true (e2 divD f g)) := ce_op op_fdiv r2_I ha hb
theorem ce_mod (ha : PE X a (tE X.K c f)) (hb : PE X b (tE X.K c g)) : PE X (.BinOp a .Mod b pos) (tE X.K true (e2 modD f g)) := ce_op op_mod r2_I ha hb
theorem ce_pow (ha : PE X a (tE X.K c f)) (hb : PE X b (tE X.K c g)) : PE X (.BinOp a .Pow b pos) (tE X.K true (e2 powD f g)) := ce_op op_pow r2_I ha hb
def negD : PyData → Option PyData
  | .int i => some (.int (-i))
  | _ => none
def e1 (h : PyData → Option PyData) (f : En → Option PyData) : En → Option PyData := fun env => match f env with
  | some d => h d
  | none => none
theorem ce_neg (ha : PE X a (tE X.K c f)) : PE X (.UnaryOp .USub a pos) (tE X.K true (e1 negD f)) := pe_w (pe_un un_neg ha) fun σ H Q ⟨S0, H0, A, env, d, E, hf, q⟩ => by
  unfold e1 at hf
  split at hf
  · rename_i x hx
    cases x with
    | int i =>
      cases hf
      refine ⟨S0, H0, A, env, _, E, hx, fun v H1 s r => ?_⟩
      rw [Rp] at r
      subst r
      exact ⟨_, rfl, q _ H1 s rp1⟩
    | _ => cases hf
  · cases hf

/-! ### comparisons -/
def ltD : PyData → PyData → Option PyData := i2 fun i j => some (.bool (decide (i < j)))
def leD : PyData → PyData → Option PyData := i2 fun i j => some (.bool (decide (i ≤ j)))
def gtD : PyData → PyData → Option PyData := i2 fun i j => some (.bool (decide (j < i)))
def geD : PyData → PyData → Option PyData := i2 fun i j => some (.bool (decide (j ≤ i)))
theorem ce_lt (ha : PE X a (tE X.K c f)) (hb : PE X b (tE X.K c g)) : PE X (.Compare a [.Lt] [b] pos) (tE X.K true (e2 ltD f g)) := ce_cmp op_lt r2_B0 ha hb (nomark _)
theorem ce_le (ha : PE X a (tE X.K c f)) (hb : PE X b (tE X.K c g)) : PE X (.Compare a [.LtE] [b] pos) (tE X.K true (e2 leD f g)) := ce_cmp op_le r2_B0 ha hb (nomark _)
theorem ce_gt (ha : PE X a (tE X.K c f)) (hb : PE X b (tE X.K c g)) : PE X (.Compare a [.Gt] [b] pos) (tE X.K true (e2 gtD f g)) := ce_cmp op_gt r2_B0 ha hb (nomark _)
theorem ce_ge (ha : PE X a (tE X.K c f)) (hb : PE X b (tE X.K c g)) : PE X (.Compare a [.GtE] [b] pos) (tE X.K true (e2 geD f g)) := ce_cmp op_ge r2_B0 ha hb (nomark _)
def eqD : PyData → PyData → Option PyData := fun x y => if (SeqAt.shaped x && SeqAt.shaped y) = true then some (.bool (PyData.eqv x y)) else none
def neD : PyData → PyData → Option PyData := fun x y => if (SeqAt.shaped x && SeqAt.shaped y) = true then some (.bool (!PyData.eqv x y)) else none
theorem r2_eq : R2Ok K true (rEqD K) eqD := by
  intro S S' H x y dx dy d Q hn hS rx ry h q
  unfold eqD at h
  split at h
  · rename_i hs
    rw [Bool.and_eq_true] at hs
    cases h
    exact ⟨dx, dy, rx.dp, ry.dp, hs.1, hs.2, q _ H (Same.refl H) rpb⟩
  · cases h
theorem r2_ne : R2Ok K true (rNeD K) neD := by
  intro S S' H x y dx dy d Q hn hS rx ry h q
  unfold neD at h
  split at h
  · rename_i hs
    rw [Bool.and_eq_true] at hs
    cases h
    exact ⟨dx, dy, rx.dp, ry.dp, hs.1, hs.2, q _ H (Same.refl H) rpb⟩
  · cases h
theorem ce_eq (hu : X.A.units + 64 < cLine) (ha : PE X a (tE X.K c f)) (hb : PE X b (tE X.K c g)) : PE X (.Compare a [.Eq] [b] pos) (tE X.K true (e2 eqD f g)) := ce_cmp (op_eqD hu) r2_eq ha hb (nomark _)
theorem ce_ne (hu : X.A.units + 64 < cLine) (ha : PE X a (tE X.K c f)) (hb : PE X b (tE X.K c g)) : PE X (.Compare a [.NotEq] [b] pos) (tE X.K true (e2 neD f g)) := ce_cmp (op_neD hu) r2_ne ha hb (nomark _)
def noneB : PyData → Bool
  | .none => true
  | _ => false
def isD : PyData → PyData → Option PyData
  | x, .none => some (.bool (noneB x))
  | _, _ => none
def isntD : PyData → PyData → Option PyData
  | x, .none => some (.bool (!noneB x))
  | _, _ => none
theorem noneB_rp {S : Addr → Prop} {H : Hp} {d : PyData} {v : V} (r : Rp K S H d v) : decide (v = .non) = noneB d := by
  cases d with
  | none => rw [Rp] at r; subst r; rfl
  | bool k => rw [Rp] at r; subst r; rfl
  | int k => rw [Rp] at r; subst r; rfl
  | str k => rw [Rp] at r; subst r; rfl
  | list ds => rw [Rp] at r; obtain ⟨a, xs, rfl, _⟩ := r; rfl
  | tuple ds => rw [Rp] at r; obtain ⟨a, xs, rfl, _⟩ := r; rfl
  | dict k => rw [Rp] at r; exact r.elim
theorem r2_is : R2Ok K true (fun x y H Q => y = .non ∧ Q (.bl (decide (x = .non))) H) isD := by
  intro S S' H x y dx dy d Q hn hS rx ry h q
  unfold isD at h
  split at h
  · cases h
    rw [Rp] at ry
    exact ⟨ry, by rw [noneB_rp rx]; exact q _ H (Same.refl H) rpb⟩
  · cases h
theorem r2_isnt : R2Ok K true (fun x y H Q => y = .non ∧ Q (.bl (!decide (x = .non))) H) isntD := by
  intro S S' H x y dx dy d Q hn hS rx ry h q
  unfold isntD at h
  split at h
  · cases h
    rw [Rp] at ry
    exact ⟨ry, by rw [noneB_rp rx]; exact q _ H (Same.refl H) rpb⟩
  · cases h
theorem ce_is (ha : PE X a (tE X.K c f)) (hb : PE X b (tE X.K c g)) : PE X (.Compare a [.Is] [b] pos) (tE X.K true (e2 isD f g)) := ce_cmp op_isN r2_is ha hb (nomark _)
theorem ce_isnt (ha : PE X a (tE X.K c f)) (hb : PE X b (tE X.K c g)) : PE X (.Compare a [.IsNot] [b] pos) (tE X.K true (e2 isntD f g)) := ce_cmp op_notN r2_isnt ha hb (nomark _)
/-! in: a list of data of any depth -/
def inD : PyData → PyData → Option PyData
  | x, .list ds => if (SeqAt.shaped x && SeqAt.shaped (.list ds)) = true then some (.bool (ds.any fun z => PyData.eqv z x)) else none
  | _, _ => none
def notInD : PyData → PyData → Option PyData
  | x, .list ds => if (SeqAt.shaped x && SeqAt.shaped (.list ds)) = true then some (.bool (!ds.any fun z => PyData.eqv z x)) else none
  | _, _ => none
theorem r2_in : R2Ok K true (rInD K) inD := by
  intro S S' H x y dx dy d Q hn hS rx ry h q
  unfold inD at h
  split at h
  · split at h
    · rename_i hs
      rw [Bool.and_eq_true] at hs
      cases h
      exact ⟨_, _, rx.dp, ry.dp, hs.1, hs.2, q _ H (Same.refl H) rpb⟩
    · cases h
  · cases h
theorem r2_notIn : R2Ok K true (rNotInD K) notInD := by
  intro S S' H x y dx dy d Q hn hS rx ry h q
  unfold notInD at h
  split at h
  · split at h
    · rename_i hs
      rw [Bool.and_eq_true] at hs
      cases h
      exact ⟨_, _, rx.dp, ry.dp, hs.1, hs.2, q _ H (Same.refl H) rpb⟩
    · cases h
  · cases h
theorem ce_in (hu : X.A.units + 65 < cLine) (ha : PE X a (tE X.K c f)) (hb : PE X b (tE X.K c g)) (hm : behindInMarks .In b = false) : PE X (.Compare a [.In] [b] pos) (tE X.K true (e2 inD f g)) := ce_cmp (op_inD hu) r2_in ha hb hm
theorem ce_notIn (hu : X.A.units + 65 < cLine) (ha : PE X a (tE X.K c f)) (hb : PE X b (tE X.K c g)) (hm : behindInMarks .NotIn b = false) : PE X (.Compare a [.NotIn] [b] pos) (tE X.K true (e2 notInD f g)) := ce_cmp (op_notInD hu) r2_notIn ha hb hm
/-! chains of ints: a < b < c -/
def chI (k1 k2 : Int → Int → Bool) (f g h : En → Option PyData) : En → Option PyData := fun env => match f env with
  | some (.int i) => match g env with
    | some (.int j) => if k1 i j = true then (match h env with
      | some (.int m) => some (.bool (k2 j m))
      | _ => none) else some (.bool false)
    | _ => none
  | _ => none
theorem ce_chain {cc : Expr} {k1 k2 : Int → Int → Bool} {h : En → Option PyData} (he : PE X e (tChain (rI0 fun i j => .bl (k1 i j)) (rI0 fun i j => .bl (k2 i j)) (tE X.K c f) (tE X.K c1 g) (tE X.K c2 h))) : PE X e (tE X.K true (chI k1 k2 f g h)) := pe_w he fun σ H Q ⟨S0, H0, A, env, d, E, hf, q⟩ => by
  unfold chI at hf
  split at hf
  · rename_i i hi
    split at hf
    · rename_i j hj
      refine ⟨S0, H0, A, env, _, E, hi, fun v H1 s1 r1 => ⟨S0, H0, A, env, _, E.grow s1, hj, fun u H2 s2 r2 => ?_⟩⟩
      rw [Rp] at r1 r2
      subst r1 r2
      refine ⟨i, j, rfl, rfl, k1 i j, rfl, ?_⟩
      by_cases hk : k1 i j = true
      · rw [if_pos hk] at hf
        rw [hk, if_pos rfl]
        split at hf
        · rename_i m hm
          cases hf
          refine ⟨S0, H0, A, env, _, (E.grow s1).grow s2, hm, fun w H3 s3 r3 => ?_⟩
          rw [Rp] at r3
          subst r3
          exact ⟨j, m, rfl, rfl, q _ H3 ((s1.trans s2).trans s3) rpb⟩
        · cases hf
      · rw [if_neg hk] at hf
        cases hf
        rw [if_neg hk]
        have e : k1 i j = false := by cases z : k1 i j with
          | true => exact absurd z hk
          | false => rfl
        exact q _ H2 (s1.trans s2) rpb
    · cases hf
  · cases hf

/-! ### items, slices -/
def ixG (x k : PyData) : Option PyData := match k with
  | .int i => match x with
    | .list ds => atI ds i
    | .tuple ds => atI ds i
    | .str z => if z.length ≤ 1000000 then (atI z.cps.toList i).map fun c => .str ⟨#[c]⟩ else none
    | _ => none
  | _ => none
theorem atI_rp {S : Addr → Prop} {H : Hp} {ds : List PyData} {xs : List V} {i : Int} {d : PyData} (r : RpA K S H ds xs) (h : atI ds i = some d) : ∃ v, atI xs i = some v ∧ Rp K S H d v := by
  unfold atI at h ⊢
  rw [r.length]
  cases hj : ixN ds.length i with
  | none => rw [hj] at h; cases h
  | some j =>
    rw [hj] at h
    exact r.get h
theorem r2_ix : R2Ok K false (rIx K) ixG := by
  intro S S' H x y dx dy d Q hn hS rx ry h q
  have hS' : S' = S := hS.elim (fun z => nomatch z) id
  subst hS'
  unfold ixG at h
  split at h
  · rename_i i
    rw [Rp] at ry
    subst ry
    split at h
    · rw [Rp] at rx
      obtain ⟨l, us, rfl, h1, r1⟩ := rx
      obtain ⟨v, e1, e2⟩ := atI_rp r1 h
      exact .inl ⟨l, us, i, v, rfl, rfl, h1.sq, e1, q v H (Same.refl H) e2⟩
    · rw [Rp] at rx
      obtain ⟨l, us, rfl, h1, r1⟩ := rx
      obtain ⟨v, e1, e2⟩ := atI_rp r1 h
      exact .inr (.inl ⟨l, us, i, v, rfl, rfl, h1, e1, q v H (Same.refl H) e2⟩)
    · rename_i z
      split at h
      · rename_i hl
        rw [Rp] at rx
        subst rx
        cases hc : atI z.cps.toList i with
        | none => rw [hc] at h; cases h
        | some k =>
          rw [hc] at h
          cases h
          exact .inr (.inr ⟨z, i, k, rfl, rfl, sz6 hl, hc, q _ H (Same.refl H) rps⟩)
      · cases h
    · cases h
  · cases h
theorem ce_ix (ha : PE X a (tE X.K c f)) (hb : PE X b (tE X.K c g)) (hs : PlainIx b) : PE X (.Subscript a b pos) (tE X.K c (e2 ixG f g)) := pe_w (pe_ix ix_seq ha hb hs) fun _ _ _ q => e2_run r2_ix (.inr rfl) q
/-- x[k], x owned: a clean item -/
def eIxO (i : Nat) (g : En → Option PyData) : En → Option PyData := fun env => match env[i]? with
  | some (.own ds) => match g env with
    | some (.int k) => atI ds k
    | _ => none
  | _ => none
theorem ce_ixO {i : Nat} (ha : PE X a (tVar i)) (hb : PE X b (tE X.K c g)) (hs : PlainIx b) : PE X (.Subscript a b pos) (tE X.K true (eIxO i g)) := pe_w (pe_ix ix_seq ha hb hs) fun σ H Q ⟨S0, H0, A, env, d, E, hf, q⟩ => by
  unfold eIxO at hf
  split at hf
  · rename_i ds hi
    split at hf
    · rename_i k hk
      rcases E.sl i _ hi with z | ⟨v, h1, l, us, rfl, ha, hh, r⟩
      · cases z
      refine ⟨_, h1, S0, H0, A, env, _, E, hk, fun u H1 s1 r1 => ?_⟩
      rw [Rp] at r1
      subst r1
      obtain ⟨v, e1, e2⟩ := atI_rp (r.grow s1) hf
      exact .inl ⟨l, us, k, v, rfl, rfl, .inl (.inl (s1 _ _ hh)), e1, q v H1 s1 (Rp.wide (fun _ z => sc_cl z) e2)⟩
    · cases hf
  · cases hf
def tOp' (K : PySem.W.Frag) (f : En → Option (Option Int)) : TO := fun σ H Q => ∃ S0 H0 A env o, EnvOk K S0 H0 A H σ env ∧ f env = some o ∧ ∀ H', Same H H' → Q o H'
def oNone : En → Option (Option Int) := fun _ => some none
def oSome (f : En → Option PyData) : En → Option (Option Int) := fun env => match f env with
  | some (.int i) => some (some i)
  | _ => none
theorem co_none : PO X none (tOp' X.K oNone) := ⟨fun pins s σ H Q I ⟨S0, H0, A, env, o, E, hf, q⟩ => (po_none).run pins s σ H Q I (by cases hf; exact q H (Same.refl H))⟩
theorem co_some (h : PE X e (tE X.K c f)) : PO X (some e) (tOp' X.K (oSome f)) := ⟨fun pins s σ H Q I ⟨S0, H0, A, env, o, E, hf, q⟩ => (po_some h).run pins s σ H Q I (by
  unfold oSome at hf
  split at hf
  · rename_i i hi
    cases hf
    refine ⟨S0, H0, A, env, _, E, hi, fun v H1 s r => ?_⟩
    rw [Rp] at r
    exact ⟨i, r, q H1 s⟩
  · cases hf)⟩
def cutL {α : Type} (xs : List α) (lo hi : Option Int) : List α := (xs.drop (HT.sIx xs.length 0 lo)).take (HT.sIx xs.length xs.length hi - HT.sIx xs.length 0 lo)
def rSlX (K : PySem.W.Frag) : V → Option Int → Option Int → Hp → VK → Prop := fun x lo hi H Q => (∃ a xs, x = .ref a ∧ SqL K H a xs ∧ ∀ p, H p = none → Q (.ref p) (upd H p (.lst (cutV xs lo hi)))) ∨ rSlA K x lo hi H Q ∨ rSlS x lo hi H Q
theorem sl_X : SlR X (rSlX X.K) := by
  intro pins s σ H x v vl vu lo hi sl Q I rx hs pl pu h
  rcases h with h | h | h
  · exact sl_list pins s σ H x v vl vu lo hi sl Q I rx hs pl pu h
  · exact sl_tupA pins s σ H x v vl vu lo hi sl Q I rx hs pl pu h
  · exact sl_str pins s σ H x v vl vu lo hi sl Q I rx hs pl pu h
def slG (x : PyData) (lo hi : Option Int) : Option PyData := match x with
  | .list ds => some (.list (cutL ds lo hi))
  | .tuple ds => some (.tuple (cutL ds lo hi))
  | .str z => if z.length ≤ 1000000 then some (.str (cutS z lo hi)) else none
  | _ => none
theorem cut_rp {S : Addr → Prop} {H : Hp} {ds : List PyData} {xs : List V} (r : RpA K S H ds xs) (lo hi : Option Int) : RpA K S H (cutL ds lo hi) (cutV xs lo hi) := by
  unfold cutL cutV
  rw [r.length]
  exact (r.drop _).take _
theorem cut_whole {ds : List PyData} {lo hi : Option Int} (h : HT.sIx ds.length 0 lo = 0 ∧ HT.sIx ds.length ds.length hi = ds.length) : cutL ds lo hi = ds := by
  unfold cutL
  rw [h.1, h.2]
  simp
def eSl (f : En → Option PyData) (l h : En → Option (Option Int)) : En → Option PyData := fun env => match f env with
  | some x => match l env with
    | some lo => match h env with
      | some hi => slG x lo hi
      | none => none
    | none => none
  | none => none
theorem ce_sl {lo hi : Option Expr} {p2 : Pos} {l h : En → Option (Option Int)} (ha : PE X a (tE X.K c f)) (hl : PO X lo (tOp' X.K l)) (hh : PO X hi (tOp' X.K h)) : PE X (.Subscript a (.Slice lo hi none p2) pos) (tE X.K c (eSl f l h)) := pe_w (pe_slice sl_X ha hl hh) fun σ H Q ⟨S0, H0, A, env, d, E, hf, q⟩ => by
  unfold eSl at hf
  split at hf
  · rename_i x hx
    split at hf
    · rename_i lo' hlo
      split at hf
      · rename_i hi' hhi
        refine ⟨S0, H0, A, env, x, E, hx, fun v H1 s1 r1 => ⟨S0, H0, A, env, lo', E.grow s1, hlo, fun H2 s2 => ⟨S0, H0, A, env, hi', (E.grow s1).grow s2, hhi, fun H3 s3 => ?_⟩⟩⟩
        have sm := (s1.trans s2).trans s3
        have r3 := (r1.grow s2).grow s3
        unfold slG at hf
        split at hf
        · cases hf
          rw [Rp] at r3
          obtain ⟨m, us, rfl, k, r⟩ := r3
          refine .inl ⟨m, us, rfl, k.sq, fun p hp => q _ _ (sm.trans (same_new hp)) ?_⟩
          rw [Rp]
          exact ⟨p, _, rfl, .inl ⟨sc_new (E.grow sm) hp, .inl upd_same⟩, (cut_rp r _ _).grow (same_new hp)⟩
        · cases hf
          have r3' := r3
          rw [Rp] at r3
          obtain ⟨m, us, rfl, k, r⟩ := r3
          refine .inr (.inl ⟨m, us, rfl, k, fun w => ?_, fun _ p hp => q _ _ (sm.trans (same_new hp)) ?_⟩)
          · rw [r.length] at w
            rw [cut_whole w] at q
            exact q _ H3 sm r3'
          · rw [Rp]
            exact ⟨p, _, rfl, .inl (.inl upd_same), (cut_rp r _ _).grow (same_new hp)⟩
        · split at hf
          · rename_i z hz
            cases hf
            rw [Rp] at r3
            subst r3
            exact .inr (.inr ⟨z, rfl, sz6 hz, q _ H3 sm rps⟩)
          · cases hf
        · cases hf
      · cases hf
    · cases hf
  · cases hf
end
end Mir

namespace Mir
open PySem PySem.Spec PyProof.Rows L2
theorem hu65 {k : Nat} {A : Around} (r : Room k A) : A.units + 65 < cLine := by
  have := r.un
  omega
abbrev tNilE : TE := tC .non
section
variable {X : Cx} {a b e : Expr} {es : List Expr} {pos p : Pos} {st : Stmt} {c c1 c2 : Bool} {f g : En → Option PyData} {fa : En → Option (List PyData)} {fb : En → Option Bool} {K : PySem.W.Frag}
theorem ct_chain {k1 k2 : Int → Int → Bool} {h : En → Option PyData} (he : PT X e (tTest (tChain (rI0 fun i j => .bl (k1 i j)) (rI0 fun i j => .bl (k2 i j)) (tE X.K c f) (tE X.K c1 g) (tE X.K c2 h)))) : PT X e (tT X.K (t1 (chI k1 k2 f g h))) := pt_w he fun σ H Q ⟨S0, H0, A, env, d, E, hf, q⟩ => by
  have hf := t1_some hf
  unfold chI at hf
  split at hf
  · rename_i i hi
    split at hf
    · rename_i j hj
      refine ⟨S0, H0, A, env, _, E, hi, fun v H1 s1 r1 => ⟨S0, H0, A, env, _, E.grow s1, hj, fun u H2 s2 r2 => ?_⟩⟩
      rw [Rp] at r1 r2
      subst r1 r2
      refine ⟨i, j, rfl, rfl, k1 i j, rfl, ?_⟩
      by_cases hk : k1 i j = true
      · rw [if_pos hk] at hf
        rw [hk, if_pos rfl]
        split at hf
        · rename_i m hm
          cases hf
          refine ⟨S0, H0, A, env, _, (E.grow s1).grow s2, hm, fun w H3 s3 r3 => ?_⟩
          rw [Rp] at r3
          subst r3
          exact ⟨j, m, rfl, rfl, _, rfl, q H3 ((s1.trans s2).trans s3)⟩
        · cases hf
      · rw [if_neg hk] at hf
        cases hf
        rw [if_neg hk]
        exact ⟨_, rfl, q H2 (s1.trans s2)⟩
    · cases hf
  · cases hf
theorem ce_l' {t : TE} (h : ∀ σ H Q, tF K c fa σ H Q → t σ H Q) {σ : L2.St} {H : Hp} {Q : VK} (q : tE K c (eL fa) σ H Q) : t σ H Q := by
  obtain ⟨S0, H0, A, env, d, E, hf, q⟩ := q
  unfold eL at hf
  cases hd : fa env with
  | none => rw [hd] at hf; cases hf
  | some ds =>
    rw [hd] at hf
    cases hf
    refine h _ _ _ ⟨S0, H0, A, env, ds, E, hd, fun p xs H' hn s hp r => q _ H' s ?_⟩
    rw [Rp]
    exact ⟨p, xs, rfl, .inl ⟨sc_new E hn, .inl hp⟩, r.wide fun _ z => z.1⟩
theorem cs_lcV {i : Nat} {c : Bool} {f : En → Option (List PyData)} {g : PyData → En → Option En} {ga : En → Option Bool} {fe : En → Option PyData} {is : List Nat} (h : PS X st (tAsg (tLc (tI X.K c f) (tG X.K is g) (tT X.K ga) (tE X.K true fe) is) (gName i))) : PS X st (tS X.K (sSet i (eL (fCmp is f g ga fe)))) :=
  ps_w h fun D σ H q => ce_l' (c := true) (fun _ _ _ z => lc_run (fun _ _ _ z => z) z) (set_run q)
theorem cs_lcV1 {i : Nat} {c : Bool} {f : En → Option (List PyData)} {g : PyData → En → Option En} {fe : En → Option PyData} {is : List Nat} (h : PS X st (tAsg (tLc (tI X.K c f) (tG X.K is g) tYes (tE X.K true fe) is) (gName i))) : PS X st (tS X.K (sSet i (eL (fCmp is f g tYes' fe)))) :=
  ps_w h fun D σ H q => ce_l' (c := true) (fun _ _ _ z => lc_run (fun _ _ _ z => yes_run z) z) (set_run q)
end
/-- the law's own end -/
theorem ints_rp {K : PySem.W.Frag} {S : Addr → Prop} {H : Hp} : ∀ ns : List Int, RpA K S H (ns.map PyData.int) (ns.map V.int)
  | [] => RpA.nil
  | n :: ns => RpA.cons rp1 (ints_rp ns)
theorem law_end {K : PySem.W.Frag} {H : Hp} {a : Addr} {ns : List Int} {g : List PyData → Option PyData} {E : XK} (h : SqL K H a (ns.map V.int)) (e : g [.list (ns.map .int)] = some (.bool true)) : spF K g [.ref a] H (fun v _ => v = .bl true) E := by
  refine ⟨fun _ => True, _, _, RpA.cons ?_ RpA.nil, e, fun v H' _ r => by rw [Rp] at r; exact r⟩
  rw [Rp]
  exact ⟨a, _, rfl, LsAt.of trivial h, ints_rp ns⟩
end Mir

namespace Mir
open PySem PySem.Spec PyProof.Rows L2
/-! ### data of ints, of texts -/
theorem intsD_map : ∀ ns : List Int, intsD (ns.map PyData.int) = some ns
  | [] => rfl
  | n :: ns => by
    show (match intsD (ns.map PyData.int) with | some ns => some (n :: ns) | none => none) = _
    rw [intsD_map ns]
theorem strsD_map : ∀ ns : List Str, strsD (ns.map PyData.str) = some ns
  | [] => rfl
  | n :: ns => by
    show (match strsD (ns.map PyData.str) with | some ns => some (n :: ns) | none => none) = _
    rw [strsD_map ns]
/-- a comprehension whose element is k of each item, kept where p -/
theorem compF_filter {g : PyData → En → Option En} {ga : En → Option Bool} {fe : En → Option PyData} {env : En} {p : PyData → Bool} {k : PyData → PyData} : ∀ {ds : List PyData},
    (∀ d ∈ ds, ∃ e1, g d env = some e1 ∧ ga e1 = some (p d) ∧ (p d = true → fe e1 = some (k d))) → compF g ga fe env ds = some ((ds.filter p).map k)
  | [], _ => rfl
  | d :: ds, h => by
    obtain ⟨e1, h1, h2, h3⟩ := h d List.mem_cons_self
    have ih := compF_filter (ds := ds) fun x hx => h x (List.mem_cons_of_mem _ hx)
    simp only [compF, h1, h2]
    cases hp : p d with
    | true =>
      rw [hp] at h3
      simp only [h3 rfl, ih, List.filter_cons, hp, if_true, List.map_cons]
    | false =>
      simp only [ih, List.filter_cons, hp, Bool.false_eq_true, if_false]
theorem compF_map {g : PyData → En → Option En} {fe : En → Option PyData} {env : En} {k : PyData → PyData} {ds : List PyData} (h : ∀ d ∈ ds, ∃ e1, g d env = some e1 ∧ fe e1 = some (k d)) : compF g tYes' fe env ds = some (ds.map k) := by
  have q := compF_filter (g := g) (ga := tYes') (fe := fe) (env := env) (p := fun _ => true) (k := k) (ds := ds) fun d hd => by
    obtain ⟨e1, h1, h2⟩ := h d hd
    exact ⟨e1, h1, rfl, fun _ => h2⟩
  rw [q, List.filter_eq_self.mpr (fun _ _ => rfl)]
theorem compF_mapS {α : Type} {g : PyData → En → Option En} {fe : En → Option PyData} {env : En} {c : α → PyData} {k : α → PyData} : ∀ {xs : List α}, (∀ x ∈ xs, ∃ e1, g (c x) env = some e1 ∧ fe e1 = some (k x)) → compF g tYes' fe env (xs.map c) = some (xs.map k)
  | [], _ => rfl
  | x :: xs, h => by
    obtain ⟨e1, h1, h2⟩ := h x List.mem_cons_self
    have ih := compF_mapS (xs := xs) fun y hy => h y (List.mem_cons_of_mem _ hy)
    show compF g tYes' fe env (c x :: xs.map c) = _
    simp only [compF, h1, tYes', h2]
    rw [ih]
    rfl
/-! ### joined texts -/
def jl (ws : List Str) : Nat := (Txt.join (" " : Str) ws).length
theorem spc_len : ((" " : Str)).length = 1 := by decide +kernel
theorem len_app (x y : Str) : (x ++ y).length = x.length + y.length := by
  show (x.cps ++ y.cps).size = x.cps.size + y.cps.size
  simp
theorem jl_nil : jl [] = 0 := by
  unfold jl
  rw [TL.join_eq]
  rfl
theorem jl_one (w : Str) : jl [w] = w.length := by
  unfold jl
  rw [TL.join_eq]
  rfl
theorem jl_cons (w y : Str) (r : List Str) : jl (w :: y :: r) = w.length + 1 + jl (y :: r) := by
  unfold jl
  rw [TL.join_eq, TL.join_eq]
  show (w ++ (" " : Str) ++ Str.join (" " : Str) (y :: r)).length = _
  rw [len_app, len_app, spc_len]
theorem jl_snoc : ∀ (l : List Str) (w : Str), l ≠ [] → jl (l ++ [w]) = jl l + 1 + w.length
  | [], _, h => absurd rfl h
  | [x], w, _ => by
    show jl (x :: w :: []) = _
    rw [jl_cons, jl_one, jl_one]
  | x :: y :: r, w, _ => by
    show jl (x :: y :: (r ++ [w])) = _
    have ih := jl_snoc (y :: r) w (by simp)
    rw [jl_cons, jl_cons]
    rw [show jl (y :: (r ++ [w])) = jl (y :: r) + 1 + w.length from ih]
    omega
theorem jl_le : ∀ (l : List Str), (∀ w ∈ l, w.length ≤ 8) → jl l ≤ 9 * l.length
  | [], _ => by rw [jl_nil]; exact Nat.zero_le _
  | [x], h => by
    rw [jl_one]
    have := h x List.mem_cons_self
    simp
    omega
  | x :: y :: r, h => by
    rw [jl_cons]
    have h1 := h x List.mem_cons_self
    have h2 := jl_le (y :: r) fun w hw => h w (List.mem_cons_of_mem _ hw)
    rw [List.length_cons]
    omega
theorem word_le_jl : ∀ (l : List Str) (w : Str), w ∈ l → w.length ≤ jl l
  | [], _, h => by cases h
  | [x], w, h => by
    rw [jl_one]
    rw [List.mem_singleton.mp h]
    exact Nat.le_refl _
  | x :: y :: r, w, h => by
    rw [jl_cons]
    rcases List.mem_cons.mp h with h | h
    · subst h; omega
    · have := word_le_jl (y :: r) w h
      omega
/-! ### texts in tuples compared -/
theorem eqv_strs : ∀ xs ys : List Str, PyData.eqvAll (xs.map PyData.str) (ys.map PyData.str) = decide (xs = ys)
  | [], [] => by simp [PyData.eqvAll]
  | [], y :: ys => by simp [PyData.eqvAll]
  | x :: xs, [] => by simp [PyData.eqvAll]
  | x :: xs, y :: ys => by
    simp only [List.map_cons, PyData.eqvAll, PyData.eqv, eqv_strs xs ys]
    by_cases h : x = y
    · subst h
      simp
    · simp [h]
theorem lay_strs : ∀ xs : List Str, (∀ x ∈ xs, PyData.strOk x = true) → PyData.canLayAll0 (xs.map PyData.str) = true
  | [], _ => by simp [PyData.canLayAll0]
  | x :: xs, h => by
    simp only [List.map_cons, PyData.canLayAll0, PyData.canLay0, h x List.mem_cons_self, lay_strs xs (fun y hy => h y (List.mem_cons_of_mem _ hy)), Bool.and_self]
theorem depth_strs : ∀ xs : List Str, PyData.depthAll (xs.map PyData.str) = 0
  | [] => by simp [PyData.depthAll]
  | x :: xs => by simp [PyData.depthAll, PyData.depth, depth_strs xs]
theorem shaped_strs (xs : List Str) (h : ∀ x ∈ xs, PyData.strOk x = true) : SeqAt.shaped (.tuple (xs.map PyData.str)) = true := by
  unfold SeqAt.shaped
  simp [PyData.canLay0, lay_strs xs h, PyData.depth, depth_strs]
theorem shaped_int (i : Int) : SeqAt.shaped (.int i) = true := by
  unfold SeqAt.shaped
  simp [PyData.canLay0, PyData.depth]
theorem shaped_none : SeqAt.shaped .none = true := by
  unfold SeqAt.shaped
  simp [PyData.canLay0, PyData.depth]
theorem shaped_bool (i : Bool) : SeqAt.shaped (.bool i) = true := by
  unfold SeqAt.shaped
  simp [PyData.canLay0, PyData.depth]
theorem eqD_int (i j : Int) : eqD (.int i) (.int j) = some (.bool (decide (i = j))) := by
  unfold eqD
  rw [shaped_int, shaped_int]
  simp only [Bool.and_self, if_true, PyData.eqv]
  congr 2
theorem neD_int (i j : Int) : neD (.int i) (.int j) = some (.bool (!decide (i = j))) := by
  unfold neD
  rw [shaped_int, shaped_int]
  simp only [Bool.and_self, if_true, PyData.eqv]
  congr 3
theorem eqD_strs (xs ys : List Str) (h : ∀ x ∈ xs, PyData.strOk x = true) (h' : ∀ x ∈ ys, PyData.strOk x = true) : eqD (.tuple (xs.map PyData.str)) (.tuple (ys.map PyData.str)) = some (.bool (decide (xs = ys))) := by
  unfold eqD
  rw [shaped_strs xs h, shaped_strs ys h']
  simp only [Bool.and_self, if_true, PyData.eqv, eqv_strs]
theorem addD_tup {xs ys : List PyData} (h : xs.length + ys.length ≤ 1000000) : addD (.tuple xs) (.tuple ys) = some (.tuple (xs ++ ys)) := by
  simp only [addD, h, if_true]
theorem addD_list {xs ys : List PyData} (h : xs.length + ys.length ≤ 1000000) : addD (.list xs) (.list ys) = some (.list (xs ++ ys)) := by
  simp only [addD, h, if_true]
theorem addD_str {x y : Str} (h : x.length + y.length ≤ 1000000) : addD (.str x) (.str y) = some (.str (x ++ y)) := by
  simp only [addD, h, if_true]
/-! ### loops by a word -/
theorem loop_ix {g : PyData → En → Option En} {b : En → Out} (P : Nat → En → Prop) : ∀ (ds : List PyData) (k : Nat) (e : En), (∀ (j : Nat) d e, ds[j]? = some d → P (k + j) e → ∃ e1, g d e = some e1 ∧ ∃ e2, (b e1 = .nx e2 ∨ b e1 = .ct e2) ∧ P (k + j + 1) e2) → P k e → ∃ e', loopF g b ds e = .nx e' ∧ P (k + ds.length) e'
  | [], k, e, _, h => ⟨e, rfl, h⟩
  | d :: ds, k, e, st, h => by
    obtain ⟨e1, h1, e2, h2, h3⟩ := st 0 d e rfl h
    obtain ⟨e', h4, h5⟩ := loop_ix P ds (k + 1) e2 (fun j d' e' hj hp => by
      have hp' : P (k + (j + 1)) e' := by rw [show k + (j + 1) = k + 1 + j by omega]; exact hp
      have := st (j + 1) d' e' (by simpa using hj) hp'
      rw [show k + (j + 1) + 1 = k + 1 + j + 1 by omega] at this
      exact this) h3
    refine ⟨e', ?_, by rw [List.length_cons, show k + (ds.length + 1) = k + 1 + ds.length by omega]; exact h5⟩
    rcases h2 with h2 | h2 <;> (simp only [loopF, h1, h2]; exact h4)
theorem loop_rng {g : PyData → En → Option En} {b : En → Out} (P : Nat → En → Prop) {lo : Int} {n : Nat} {e : En} (st : ∀ (j : Nat) e, j < n → P j e → ∃ e1, g (.int (lo + (j : Nat))) e = some e1 ∧ ∃ e2, (b e1 = .nx e2 ∨ b e1 = .ct e2) ∧ P (j + 1) e2) (h : P 0 e) : ∃ e', loopF g b (rngD lo n) e = .nx e' ∧ P n e' := by
  obtain ⟨e', h1, h2⟩ := loop_ix P (rngD lo n) 0 e (fun j d e hj hp => by
    have hd := rng_get hj
    obtain ⟨l, _⟩ := List.getElem?_eq_some_iff.mp hj
    rw [rng_len] at l
    subst hd
    rw [Nat.zero_add] at hp ⊢
    exact st j e l hp) h
  rw [rng_len, Nat.zero_add] at h2
  exact ⟨e', h1, h2⟩
theorem atI_map {α : Type} (f : α → PyData) (xs : List α) (j : Nat) (x : α) (h : xs[j]? = some x) : atI (xs.map f) (j : Int) = some (f x) := atI_nat (by rw [List.getElem?_map, h]; rfl)
theorem noL_ints : ∀ ns : List Int, noLA (ns.map PyData.int) = true
  | [] => rfl
  | n :: ns => by
    show (noL (.int n) && noLA (ns.map PyData.int)) = true
    rw [noL_ints ns]; rfl
theorem sSeq_nx {s t : En → Out} {env e : En} (h : s env = .nx e) : sSeq s t env = t e := by
  unfold sSeq
  rw [h]
theorem sSeq_rt {s t : En → Out} {env : En} {d : PyData} (h : s env = .rt d) : sSeq s t env = .rt d := by
  unfold sSeq
  rw [h]
theorem addD_int (i j : Int) : addD (.int i) (.int j) = some (.int (i + j)) := rfl
theorem subD_int (i j : Int) : subD (.int i) (.int j) = some (.int (i - j)) := rfl
theorem mulD_int {i j : Int} (h : CMul i j) : mulD (.int i) (.int j) = some (.int (i * j)) := if_pos h
theorem modD_int {i j : Int} (h : 0 < j) : modD (.int i) (.int j) = some (.int (i % j)) := if_pos h
theorem divD_int {i j : Int} (h : CDiv i j) : divD (.int i) (.int j) = some (.int (i / j)) := if_pos h
theorem powD_int {i j : Int} (h : CPow i j) : powD (.int i) (.int j) = some (.int (i ^ j.toNat)) := if_pos h
theorem ltD_int (i j : Int) : ltD (.int i) (.int j) = some (.bool (decide (i < j))) := rfl
theorem leD_int (i j : Int) : leD (.int i) (.int j) = some (.bool (decide (i ≤ j))) := rfl
theorem gtD_int (i j : Int) : gtD (.int i) (.int j) = some (.bool (decide (j < i))) := rfl
theorem geD_int (i j : Int) : geD (.int i) (.int j) = some (.bool (decide (j ≤ i))) := rfl
/-! a draw, its numbers kept as letters -/
theorem draw_s1 (a b M : Int) (c' m k : Int) (n : Nat) (ds : List Int) (w y : Sl) (k1 : CMul c' a) (k2 : CMul k b) (k3 : 0 < M) (hm : (c' * a + k * b) % M = m) :
    (sSet 5 (e2 modD (eCall intA (aCons (e2 addD (e2 mulD (eVar 0) (eC (.int a))) (e2 mulD (eVar 4) (eC (.int b)))) aNil)) (eC (.int M)))) [.val (.int c'), .val (.int n), .own (ds.map .int), w, .val (.int k), y] = .nx [.val (.int c'), .val (.int n), .own (ds.map .int), w, .val (.int k), .val (.int m)] := by
  have k1 := mulD_int k1
  have k2 := mulD_int k2
  have k5 := modD_int (i := c' * a + k * b) k3
  rw [hm] at k5
  simp only [sSet, e2, eCall, aCons, aNil, intA, eC, eVar, List.getElem?_cons_zero, List.getElem?_cons_succ, List.set_cons_zero, List.set_cons_succ, addD_int, k1, k2, k5]
theorem draw_s2 (a M L : Int) (c' m k : Int) (n : Nat) (ds : List Int) (w : Sl) (hl : ds.length < 1000000) (k3 : CMul c' a) (k4 : CMul m m) (k6 : 0 < M) :
    (sApp 2 (e2 modD (eCall intA (aCons (e2 addD (e2 addD (e2 mulD (eVar 5) (eVar 5)) (e2 mulD (eVar 0) (eC (.int a)))) (eVar 4)) aNil)) (eC (.int M)))) [.val (.int c'), .val (.int n), .own (ds.map .int), w, .val (.int k), .val (.int m)] = .nx [.val (.int c'), .val (.int n), .own ((ds ++ [(m * m + c' * a + k) % M]).map .int), w, .val (.int k), .val (.int m)] := by
  have k3 := mulD_int k3
  have k4 := mulD_int k4
  have k6 := modD_int (i := m * m + c' * a + k) k6
  simp only [sApp, e2, eCall, aCons, aNil, intA, eC, eVar, List.getElem?_cons_zero, List.getElem?_cons_succ, addD_int, k3, k4, k6, List.length_map, hl, if_true, List.set_cons_zero, List.set_cons_succ, List.map_append, List.map_cons, List.map_nil]
theorem draw_s1' (a b M : Int) (c' m k : Int) (n : Nat) (ds : List Int) (w y : Sl) (k1 : CMul c' a) (k2 : CMul k b) (k3 : 0 < M) (hm : (c' * a + k * b) % M = m) :
    (sSet 5 (e2 modD (e2 addD (e2 mulD (eVar 0) (eC (.int a))) (e2 mulD (eVar 4) (eC (.int b)))) (eC (.int M)))) [.val (.int c'), .val (.int n), .own (ds.map .int), w, .val (.int k), y] = .nx [.val (.int c'), .val (.int n), .own (ds.map .int), w, .val (.int k), .val (.int m)] := by
  have k1 := mulD_int k1
  have k2 := mulD_int k2
  have k5 := modD_int (i := c' * a + k * b) k3
  rw [hm] at k5
  simp only [sSet, e2, eC, eVar, List.getElem?_cons_zero, List.getElem?_cons_succ, List.set_cons_zero, List.set_cons_succ, addD_int, k1, k2, k5]
theorem draw_s2' (a M L : Int) (c' m k : Int) (n : Nat) (ds : List Int) (w : Sl) (hl : ds.length < 1000000) (k3 : CMul c' a) (k4 : CMul m m) (k6 : 0 < M) :
    (sApp 2 (e2 modD (e2 addD (e2 addD (e2 mulD (eVar 5) (eVar 5)) (e2 mulD (eVar 0) (eC (.int a)))) (eVar 4)) (eC (.int M)))) [.val (.int c'), .val (.int n), .own (ds.map .int), w, .val (.int k), .val (.int m)] = .nx [.val (.int c'), .val (.int n), .own ((ds ++ [(m * m + c' * a + k) % M]).map .int), w, .val (.int k), .val (.int m)] := by
  have k3 := mulD_int k3
  have k4 := mulD_int k4
  have k6 := modD_int (i := m * m + c' * a + k) k6
  simp only [sApp, e2, eC, eVar, List.getElem?_cons_zero, List.getElem?_cons_succ, addD_int, k3, k4, k6, List.length_map, hl, if_true, List.set_cons_zero, List.set_cons_succ, List.map_append, List.map_cons, List.map_nil]
theorem draw_t (M : Int) (c' : Int) (n : Nat) (ds : List Int) (w x y : Sl) (hl : ds.length < 1000000) (k1 : 0 < M) (k2 : M < 1073741824) :
    sSeq (sApp 2 (e2 modD (eCall intA (aCons (eVar 0) aNil)) (eC (.int M)))) (sSet 0 (e2 divD (eVar 0) (eC (.int M)))) [.val (.int c'), .val (.int n), .own (ds.map .int), w, x, y] = .nx [.val (.int (c' / M)), .val (.int n), .own ((ds ++ [c' % M]).map .int), w, x, y] := by
  have h1 := modD_int (i := c') k1
  have h2 := divD_int (i := c') (j := M) ⟨k1, k2⟩
  simp only [sSeq, sApp, sSet, e2, eCall, aCons, aNil, intA, eC, eVar, List.getElem?_cons_zero, List.getElem?_cons_succ, List.set_cons_zero, List.set_cons_succ, h1, h2, hl, if_true, List.length_map, List.map_append, List.map_cons, List.map_nil]
theorem draw_t' (M : Int) (c' : Int) (n : Nat) (ds : List Int) (w x y : Sl) (hl : ds.length < 1000000) (k1 : 0 < M) (k2 : M < 1073741824) :
    sSeq (sApp 2 (e2 modD (eVar 0) (eC (.int M)))) (sSet 0 (e2 divD (eVar 0) (eC (.int M)))) [.val (.int c'), .val (.int n), .own (ds.map .int), w, x, y] = .nx [.val (.int (c' / M)), .val (.int n), .own ((ds ++ [c' % M]).map .int), w, x, y] := by
  have h1 := modD_int (i := c') k1
  have h2 := divD_int (i := c') (j := M) ⟨k1, k2⟩
  simp only [sSeq, sApp, sSet, e2, eC, eVar, List.getElem?_cons_zero, List.getElem?_cons_succ, List.set_cons_zero, List.set_cons_succ, h1, h2, hl, if_true, List.length_map, List.map_append, List.map_cons, List.map_nil]
theorem sIf_t {ga : En → Option Bool} {s t : En → Out} {env : En} (h : ga env = some true) : sIf ga s t env = s env := by
  unfold sIf
  rw [h]
theorem sIf_f {ga : En → Option Bool} {s t : En → Out} {env : En} (h : ga env = some false) : sIf ga s t env = t env := by
  unfold sIf
  rw [h]
theorem iR1_ev {fa : En → Option (List PyData)} {env : En} {N : Int} (h : fa env = some [.int N]) (h1 : N < 1000000) (h2 : -1000000 < N) : iR1 fa env = some (rngD 0 N.toNat) := by
  unfold iR1
  rw [h]
  exact if_pos ⟨h1, h2⟩
theorem iR2_ev {fa : En → Option (List PyData)} {env : En} {M N : Int} (h : fa env = some [.int M, .int N]) (h1 : N < 1000000000) (h2 : -1000000000 < N) (h3 : M < 1000000000) (h4 : -1000000000 < M) : iR2 fa env = some (rngD M (N - M).toNat) := by
  unfold iR2
  rw [h]
  exact if_pos ⟨⟨h1, h2⟩, h3, h4⟩
/-! evaluation, step by step -/
section
variable {env env' : En} {f g h : En → Option PyData} {fa : En → Option (List PyData)} {x y d : PyData} {ds : List PyData}
theorem e2_ev {k : PyData → PyData → Option PyData} (h1 : f env = some x) (h2 : g env = some y) (h3 : k x y = some d) : e2 k f g env = some d := by
  unfold e2
  rw [h1, h2]
  exact h3
theorem aCons_ev (h1 : f env = some x) (h2 : fa env = some ds) : aCons f fa env = some (x :: ds) := by
  unfold aCons
  rw [h1, h2]
theorem aNil_ev : aNil env = some [] := rfl
theorem eCall_ev {k : List PyData → Option PyData} (h1 : fa env = some ds) (h2 : k ds = some d) : eCall k fa env = some d := by
  unfold eCall
  rw [h1]
  exact h2
theorem sSet_ev {i : Nat} (h1 : f env = some d) : sSet i f env = .nx (env.set i (.val d)) := by
  unfold sSet
  rw [h1]
theorem sOwn_ev {i : Nat} (h1 : fa env = some ds) : sOwn i fa env = .nx (env.set i (.own ds)) := by
  unfold sOwn
  rw [h1]
theorem sRet_ev (h1 : f env = some d) : sRet f env = .rt d := by
  unfold sRet
  rw [h1]
theorem sApp_ev {i : Nat} (h1 : f env = some d) (h2 : env[i]? = some (.own ds)) (h3 : ds.length < 1000000) : sApp i f env = .nx (env.set i (.own (ds ++ [d]))) := by
  unfold sApp
  rw [h1, h2]
  exact if_pos h3
theorem sFor_ev {k : PyData → En → Option En} {b : En → Out} {o : Out} (h1 : fa env = some ds) (h2 : loopF k b ds env = o) : sFor fa k b env = o := by
  unfold sFor
  rw [h1]
  exact h2
theorem eL_ev (h1 : fa env = some ds) : eL fa env = some (.list ds) := by
  unfold eL
  rw [h1]
  rfl
theorem t1_ev {b : Bool} (h1 : f env = some (.bool b)) : t1 f env = some b := by
  unfold t1
  rw [h1]
theorem and_t {ga gb : En → Option Bool} {b : Bool} (h1 : ga env = some true) (h2 : gb env = some b) : tAnd' ga gb env = some b := by
  unfold tAnd'
  rw [h1]
  exact h2
theorem and_f {ga gb : En → Option Bool} (h1 : ga env = some false) : tAnd' ga gb env = some false := by
  unfold tAnd'
  rw [h1]
theorem or_t {ga gb : En → Option Bool} (h1 : ga env = some true) : tOr' ga gb env = some true := by
  unfold tOr'
  rw [h1]
theorem or_f {ga gb : En → Option Bool} {b : Bool} (h1 : ga env = some false) (h2 : gb env = some b) : tOr' ga gb env = some b := by
  unfold tOr'
  rw [h1]
  exact h2
theorem not_ev {ga : En → Option Bool} {b : Bool} (h1 : ga env = some b) : tNot' ga env = some (!b) := by
  unfold tNot'
  rw [h1]
  rfl
theorem eIf_t {ga : En → Option Bool} (h1 : ga env = some true) (h2 : f env = some d) : eIf ga f g env = some d := by
  unfold eIf
  rw [h1]
  exact h2
theorem eIf_f {ga : En → Option Bool} (h1 : ga env = some false) (h2 : g env = some d) : eIf ga f g env = some d := by
  unfold eIf
  rw [h1]
  exact h2
theorem eTup_ev (h1 : fa env = some ds) (h2 : ds.length ≤ 1000000) : eTup fa env = some (.tuple ds) := by
  unfold eTup
  rw [h1]
  exact if_pos h2
theorem fLst_ev (h1 : fa env = some ds) (h2 : ds.length ≤ 1000000) : fLst fa env = some ds := by
  unfold fLst
  rw [h1]
  exact if_pos h2
theorem fCmp_ev {is : List Nat} {k : PyData → En → Option En} {ga : En → Option Bool} {fe : En → Option PyData} {vs : List PyData} (h1 : fa env = some ds) (h2 : compF k ga fe (wipeE env is) ds = some vs) (h3 : vs.length ≤ 1000000) : fCmp is fa k ga fe env = some vs := by
  unfold fCmp
  simp only [h1, h2]
  exact if_pos h3
theorem eIsi_ev {T : String} {b : Bool} (h1 : f env = some d) (h2 : isiB T (tyD d) = some b) : eIsi T f env = some (.bool b) := by
  unfold eIsi
  rw [h1]
  simp only [h2]
  rfl
theorem tTr_ev {b : Bool} (h1 : f env = some d) (h2 : truD d = some b) : tTr f env = some b := by
  unfold tTr
  rw [h1]
  exact h2
theorem outD_rt {o : Out} (h : o = .rt d) : outD o = some d := by rw [h]; rfl
end
theorem gDef_ev {np nN : Nat} {fB : En → Out} {ds : List PyData} {d : PyData} (h1 : ds.length = np) (h2 : fB (env0 nN ds) = .rt d) : gDef np nN fB ds = some d := by
  unfold gDef
  rw [if_pos h1, h2]
  rfl
end Mir

namespace K01
open PySem PySem.Spec PyProof.Rows L2 Mir
def topS (i : Nat) : Stmt := PySem.Challenge.pw_boundbook_k01_narrowest_widths.main.body.getD i (.Pass ⟨0, 0, 0, 0⟩)
abbrev s_longest : Stmt := topS 1
abbrev N_longest : List Str := ["words", "word"]
theorem sc_longest : FnScope N_longest ["words"] (defScope s_longest) := ⟨rfl, rfl, rfl, by decide +kernel, rfl, by decide +kernel, by decide +kernel⟩
abbrev s_length_of : Stmt := topS 2
abbrev N_length_of : List Str := ["words"]
theorem sc_length_of : FnScope N_length_of ["words"] (defScope s_length_of) := ⟨rfl, rfl, rfl, by decide +kernel, rfl, by decide +kernel, by decide +kernel⟩
abbrev s_wrap : Stmt := topS 3
abbrev N_wrap : List Str := ["words", "width", "lines", "line", "word"]
theorem sc_wrap : FnScope N_wrap ["words", "width"] (defScope s_wrap) := ⟨rfl, rfl, rfl, by decide +kernel, rfl, by decide +kernel, by decide +kernel⟩
abbrev s_line_count : Stmt := topS 4
abbrev N_line_count : List Str := ["words", "width", "lines"]
theorem sc_line_count : FnScope N_line_count ["words", "width"] (defScope s_line_count) := ⟨rfl, rfl, rfl, by decide +kernel, rfl, by decide +kernel, by decide +kernel⟩
abbrev s_narrowest : Stmt := topS 5
abbrev N_narrowest : List Str := ["words", "lines", "width"]
theorem sc_narrowest : FnScope N_narrowest ["words", "lines"] (defScope s_narrowest) := ⟨rfl, rfl, rfl, by decide +kernel, rfl, by decide +kernel, by decide +kernel⟩
abbrev s_Lcell : Stmt := topS 7
abbrev N_Lcell : List Str := ["script", "k"]
theorem sc_Lcell : FnScope N_Lcell ["script", "k"] (defScope s_Lcell) := ⟨rfl, rfl, rfl, by decide +kernel, rfl, by decide +kernel, by decide +kernel⟩
abbrev s_Ldraws : Stmt := topS 8
abbrev N_Ldraws : List Str := ["cell", "count", "found", "is_wide", "k", "mixed"]
theorem sc_Ldraws : FnScope N_Ldraws ["cell", "count"] (defScope s_Ldraws) := ⟨rfl, rfl, rfl, by decide +kernel, rfl, by decide +kernel, by decide +kernel⟩
abbrev s_Lwords : Stmt := topS 9
abbrev N_Lwords : List Str := ["cell", "draws", "pool", "k"]
theorem sc_Lwords : FnScope N_Lwords ["cell"] (defScope s_Lwords) := ⟨rfl, rfl, rfl, by decide +kernel, rfl, by decide +kernel, by decide +kernel⟩
abbrev s_Ldivisions : Stmt := topS 10
abbrev N_Ldivisions : List Str := ["words", "rows", "word", "longer", "row"]
theorem sc_Ldivisions : FnScope N_Ldivisions ["words"] (defScope s_Ldivisions) := ⟨rfl, rfl, rfl, by decide +kernel, rfl, by decide +kernel, by decide +kernel⟩
abbrev s_law : Stmt := topS 11
abbrev N_law : List Str := ["script", "words", "lines", "widths", "row", "sizes", "due", "told", "width", "counts", "line"]
theorem sc_law : FnScope N_law ["script"] (defScope s_law) := ⟨rfl, rfl, rfl, by decide +kernel, rfl, by decide +kernel, by decide +kernel⟩
/-! ### what each def does to data -/
def c_longest_1 : En → Option PyData := (eCall lenA (aCons (eVar 1) aNil))
def f_longest : En → Out := (sRet (eMxD mxI (eL (fCmp [1] (iSeq (eVar 0)) (gVal 1) tYes' c_longest_1)) (eC (.int 0))))
def g_longest : List PyData → Option PyData := gDef 1 2 f_longest
def f_length_of : En → Out := (sRet (eCall lenA (aCons (eJoin (eC (.str " ")) (eVar 0)) aNil)))
def g_length_of : List PyData → Option PyData := gDef 1 1 f_length_of
def b_wrap_1 : En → Out := (sSeq (sIf (tAnd' (tTr (eVar 3)) (t1 (e2 gtD (e2 addD (e2 addD (eCall g_length_of (aCons (eVar 3) aNil)) (eC (.int 1))) (eCall lenA (aCons (eVar 4) aNil))) (eVar 1)))) (sSeq (sApp 2 (eVar 3)) (sSet 3 (eTup aNil))) sNil) (sSet 3 (e2 addD (eVar 3) (eTup (aCons (eVar 4) aNil)))))
def f_wrap : En → Out := (sSeq (sIf (t1 (e2 gtD (eCall g_longest (aCons (eVar 0) aNil)) (eVar 1))) (sRet (eC .none)) sNil) (sSeq (sOwn 2 (fLst aNil)) (sSeq (sSet 3 (eTup aNil)) (sSeq (sFor (iSeq (eVar 0)) (gVal 4) b_wrap_1) (sSeq (sIf (tTr (eVar 3)) (sApp 2 (eVar 3)) sNil) (fun env => (sRet (eVar 2)) (frz 2 env)))))))
def g_wrap : List PyData → Option PyData := gDef 2 5 f_wrap
def f_line_count : En → Out := (sSeq (sSet 2 (eCall g_wrap (aCons (eVar 0) (aCons (eVar 1) aNil)))) (sSeq (sIf (t1 (e2 isD (eVar 2) (eC .none))) (sRet (eC .none)) sNil) (sRet (eCall lenA (aCons (eVar 2) aNil)))))
def g_line_count : List PyData → Option PyData := gDef 2 3 f_line_count
def b_narrowest_1 : En → Out := (sAug 2 (· + ·) (eC (.int 1)))
def w_narrowest_1 : En → Option Bool := (t1 (e2 gtD (eCall g_line_count (aCons (eVar 0) (aCons (eVar 2) aNil))) (eVar 1)))
def f_narrowest : En → Out := (sSeq (sIf (tNot' (tTr (eVar 0))) (sRet (eC (.int 1))) sNil) (sSeq (sIf (t1 (e2 ltD (eVar 1) (eC (.int 1)))) (sRet (eC .none)) sNil) (sSeq (sSet 2 (eCall mx2 (aCons (eC (.int 1)) (aCons (eCall g_longest (aCons (eVar 0) aNil)) aNil)))) (sSeq (whlF w_narrowest_1 b_narrowest_1 100) (sRet (eVar 2))))))
def g_narrowest : List PyData → Option PyData := gDef 2 3 f_narrowest
def f_Lcell : En → Out := (sSeq (sIf (t1 (e2 ltD (eVar 1) (eCall lenA (aCons (eVar 0) aNil)))) (sRet (e2 ixG (eVar 0) (eVar 1))) sNil) (sRet (eC (.int 0))))
def g_Lcell : List PyData → Option PyData := gDef 2 2 f_Lcell
def b_Ldraws_1 : En → Out := (sIf (tTr (eVar 3)) (sSeq (sApp 2 (e2 modD (eCall intA (aCons (eVar 0) aNil)) (eC (.int 1009)))) (sSet 0 (e2 divD (eVar 0) (eC (.int 1009))))) (sSeq (sSet 5 (e2 modD (eCall intA (aCons (e2 addD (e2 mulD (eVar 0) (eC (.int 48271))) (e2 mulD (eVar 4) (eC (.int 69621)))) aNil)) (eC (.int 2147483647)))) (sApp 2 (e2 modD (eCall intA (aCons (e2 addD (e2 addD (e2 mulD (eVar 5) (eVar 5)) (e2 mulD (eVar 0) (eC (.int 31)))) (eVar 4)) aNil)) (eC (.int 1000003))))))
def f_Ldraws : En → Out := (sSeq (sOwn 2 (fLst aNil)) (sSeq (sSet 3 (e2 geD (eVar 0) (e2 powD (eC (.int 10)) (eC (.int 18))))) (sSeq (sFor (iR1 (aCons (eVar 1) aNil)) (gVal 4) b_Ldraws_1) (fun env => (sRet (eVar 2)) (frz 2 env)))))
def g_Ldraws : List PyData → Option PyData := gDef 2 6 f_Ldraws
def c_Lwords_1 : En → Option PyData := (e2 ixG (eVar 2) (e2 modD (eCall intA (aCons (e2 ixG (eVar 1) (e2 addD (eC (.int 1)) (eVar 3))) aNil)) (eC (.int 8))))
def f_Lwords : En → Out := (sSeq (sSet 1 (eCall g_Ldraws (aCons (eVar 0) (aCons (eC (.int 5)) aNil)))) (sSeq (sSet 2 (eL (fLst (aCons (eC (.str "a")) (aCons (eC (.str "bb")) (aCons (eC (.str "ccc")) (aCons (eC (.str "dddd")) (aCons (eC (.str "x.")) (aCons (eC (.str "(y)")) (aCons (eC (.str "Z9")) (aCons (eC (.str "eeeeeeee")) aNil))))))))))) (sRet (eCall tupA (aCons (eL (fCmp [3] (iR1 (aCons (e2 modD (eCall intA (aCons (e2 ixG (eVar 1) (eC (.int 0))) aNil)) (eC (.int 5))) aNil)) (gVal 3) tYes' c_Lwords_1)) aNil)))))
def g_Lwords : List PyData → Option PyData := gDef 1 4 f_Lwords
def b_Ldivisions_1 : En → Out := (sSeq (sIf (t1 (e2 gtD (eCall lenA (aCons (eVar 4) aNil)) (eC (.int 0)))) (sApp 3 (eL (fCat (eSl (eVar 4) oNone (oSome (e1 negD (eC (.int 1))))) (eL (fLst (aCons (e2 addD (e2 addD (e2 ixG (eVar 4) (e1 negD (eC (.int 1)))) (eC (.str " "))) (eVar 2)) aNil)))))) sNil) (sApp 3 (eL (fCat (eVar 4) (eL (fLst (aCons (eVar 2) aNil)))))))
def b_Ldivisions_2 : En → Out := (sSeq (sOwn 3 (fLst aNil)) (sSeq (sFor (iSeq (eVar 1)) (gVal 4) b_Ldivisions_1) (fun env => (sSet 1 (eVar 3)) (frz 3 env))))
def f_Ldivisions : En → Out := (sSeq (sSet 1 (eL (fLst (aCons (eL (fLst aNil)) aNil)))) (sSeq (sFor (iSeq (eVar 0)) (gVal 2) b_Ldivisions_2) (sRet (eVar 1))))
def g_Ldivisions : List PyData → Option PyData := gDef 1 5 f_Ldivisions
def c_law_1 : En → Option PyData := (eCall lenA (aCons (eVar 10) aNil))
def b_law_1 : En → Out := (sIf (t1 (e2 leD (eCall lenA (aCons (eVar 4) aNil)) (eVar 2))) (sSeq (sSet 5 (eL (fCmp [10] (iSeq (eVar 4)) (gVal 10) tYes' c_law_1))) (sApp 3 (eIf (t1 (e2 gtD (eCall lenA (aCons (eVar 5) aNil)) (eC (.int 0)))) (eCall (mx1 mxI) (aCons (eVar 5) aNil)) (eC (.int 1))))) sNil)
def c_law_2 : En → Option PyData := (eCall lenA (aCons (eVar 10) aNil))
def b_law_2 : En → Out := (sSeq (sSet 5 (eL (fCmp [10] (iSeq (eVar 4)) (gVal 10) tYes' c_law_2))) (sIf (tOr' (t1 (e2 eqD (eCall lenA (aCons (eVar 5) aNil)) (eC (.int 0)))) (t1 (e2 leD (eCall (mx1 mxI) (aCons (eVar 5) aNil)) (eVar 8)))) (sApp 9 (eCall lenA (aCons (eVar 4) aNil))) sNil))
def b_law_3 : En → Out := (sSeq (sSet 7 (eCall g_wrap (aCons (eVar 1) (aCons (eVar 8) aNil)))) (sSeq (sOwn 9 (fLst aNil)) (sSeq (sFor (iSeq (eCall g_Ldivisions (aCons (eVar 1) aNil))) (gVal 4) b_law_2) (sIf (tOr' (t1 (e2 neD (e2 isD (eVar 7) (eC .none)) (e2 eqD (eCall lenA (aCons (eBor 9) aNil)) (eC (.int 0))))) (tAnd' (t1 (e2 isntD (eVar 7) (eC .none))) (t1 (e2 neD (eCall lenA (aCons (eVar 7) aNil)) (eCall (mx1 mnI) (aCons (eBor 9) aNil)))))) (sRet (eC (.bool false))) sNil))))
def f_law : En → Out := (sSeq (sSet 1 (eCall g_Lwords (aCons (eCall g_Lcell (aCons (eVar 0) (aCons (eC (.int 0)) aNil))) aNil))) (sSeq (sSet 2 (e2 modD (eCall g_Lcell (aCons (eVar 0) (aCons (eC (.int 1)) aNil))) (eC (.int 7)))) (sSeq (sOwn 3 (fLst aNil)) (sSeq (sFor (iSeq (eCall g_Ldivisions (aCons (eVar 1) aNil))) (gVal 4) b_law_1) (sSeq (sSet 6 (eIf (t1 (e2 gtD (eCall lenA (aCons (eBor 3) aNil)) (eC (.int 0)))) (eCall (mx1 mnI) (aCons (eBor 3) aNil)) (eC .none))) (sSeq (sSet 7 (eCall g_narrowest (aCons (eVar 1) (aCons (eVar 2) aNil)))) (sSeq (sIf (tOr' (t1 (e2 neD (eVar 7) (eVar 6))) (t1 (eIsi "bool" (eVar 7)))) (sRet (eC (.bool false))) sNil) (sSeq (sFor (iR2 (aCons (eC (.int 1)) (aCons (eC (.int 40)) aNil))) (gVal 8) b_law_3) (sRet (eC (.bool true)))))))))))
def g_law : List PyData → Option PyData := gDef 1 11 f_law
/-! ### the text does so -/
section
variable {P : Program} {w : World} {K : PySem.W.Frag} {mg : Str → Option Value} {base : Heap}
theorem ok_longest {f : Addr} {fd : FuncData} (F : Fun K "longest" "longest" s_longest f fd) (m_len : mg "len" = none) (m_max : mg "max" = none) : FnOk P w K mg base CX0 1 f fd ["words"] (spF K g_longest) := by
  refine fn_ok (fB := f_longest) (np := 1) (nN := 2) F sc_longest rfl rfl rfl fun cdv A outer s H E hr => ?_
  have nd : N_longest.Nodup := sc_longest.nd
  exact ((cs_one (cs_ret (ce_mxD (c := true) (pe_callBK (call_mxD rfl hr.units) (by rfl) m_max (by decide +kernel) (pa_cons (ce_l (c := true) (cf_lc1 (c2 := true) (pe_lc (own := [("word", 1)]) (by rfl) nd (ci_seq (ce_var (i := 0) (pv 0))) (blkOk_by (own := [("word", 1)]) (N := N_longest) (sc := defScope s_longest) (by decide +kernel)) (fun _ _ _ _ _ => (cg_name (pg_name (i := 1) nd rfl (by first | exact Or.inl rfl | exact Or.inr rfl)))) (fun _ _ _ _ _ => pts_nil) (fun _ _ _ _ _ => (ce_cb (c2 := true) cr_len (pe_callB call_len (by rfl) m_len boot_len (ca_cons (ce_var (i := 1) (pv 1)) ca_nil))))))) pa_nil) (pk_cons ce_int pk_nil))))))
theorem ok_length_of {f : Addr} {fd : FuncData} (F : Fun K "length_of" "length_of" s_length_of f fd) (m_len : mg "len" = none) : FnOk P w K mg base CX0 1 f fd ["words"] (spF K g_length_of) := by
  refine fn_ok (fB := f_length_of) (np := 1) (nN := 1) F sc_length_of rfl rfl rfl fun cdv A outer s H E hr => ?_
  have nd : N_length_of.Nodup := sc_length_of.nd
  exact ((cs_one (cs_ret (ce_cb (c2 := true) cr_len (pe_callB call_len (by rfl) m_len boot_len (ca_cons (ce_join (t := tNilE) (pe_join ce_str (ce_var (i := 0) (pv 0)))) ca_nil))))))
theorem ok_wrap {f : Addr} {fd : FuncData} (F : Fun K "wrap" "wrap" s_wrap f fd) {a_longest : Addr} {d_longest : FuncData} (G_longest : FnOk P w K mg base CX0 1 a_longest d_longest ["words"] (spF K g_longest)) (M_longest : mg "longest" = some (.ref a_longest)) (k_longest : PySem.W.keepIn K (.ref a_longest) = true) (b_longest : Binds K d_longest ["words"] []) {a_length_of : Addr} {d_length_of : FuncData} (G_length_of : FnOk P w K mg base CX0 1 a_length_of d_length_of ["words"] (spF K g_length_of)) (M_length_of : mg "length_of" = some (.ref a_length_of)) (k_length_of : PySem.W.keepIn K (.ref a_length_of) = true) (b_length_of : Binds K d_length_of ["words"] []) (m_len : mg "len" = none) : FnOk P w K mg base CX0 2 f fd ["words", "width"] (spF K g_wrap) := by
  refine fn_ok (fB := f_wrap) (np := 2) (nN := 5) F sc_wrap rfl rfl rfl fun cdv A outer s H E hr => ?_
  have nd : N_wrap.Nodup := sc_wrap.nd
  exact ((cs_cons (cs_if (ct_cmp op_gt r2_B0 (ce_call (c := true) (pe_call G_longest (hr.mono (by decide)) (by rfl) M_longest k_longest b_longest .nil pass0 (ca_cons (ce_var (i := 0) (pv 0)) ca_nil))) (ce_var (i := 1) (pv 1)) (nomark _))
    (cs_one (cs_ret ce_non))
    cs_nil)
    (cs_cons (cs_own (ps_set (i := 2) nd rfl (by first | exact Or.inl rfl | exact Or.inr rfl) (cf_lst (c := true) ca_nil)))
    (cs_cons (cs_set (ps_set (i := 3) nd rfl (by first | exact Or.inl rfl | exact Or.inr rfl) (ce_tup ca_nil)))
    (cs_cons (cs_for PassesOwn.never rfl (ci_seq (ce_var (i := 0) (pv 0))) (cg_name (pg_name (i := 4) nd rfl (by first | exact Or.inl rfl | exact Or.inr rfl)))
    (cs_cons (cs_if (PW.pt (cw_and (ct_tru (ce_var (i := 3) (pv 3)) (by intro _; rfl)) (cw_and1 (ct_cmp op_gt r2_B0 (ce_add (ce_add (ce_call (c := true) (pe_call G_length_of (hr.mono (by decide)) (by rfl) M_length_of k_length_of b_length_of .nil pass0 (ca_cons (ce_var (i := 3) (pv 3)) ca_nil))) ce_int) (ce_cb (c2 := true) cr_len (pe_callB call_len (by rfl) m_len boot_len (ca_cons (ce_var (i := 4) (pv 4)) ca_nil)))) (ce_var (i := 1) (pv 1)) (nomark _)))))
    (cs_cons (cs_app (ps_expr (pe_bm PySem.F.plainAttrs_list PySem.F.slot_list_append PySem.F.type_list_append mt_append (pv 2) (pa_cons (ce_var (i := 3) (pv 3)) pa_nil))))
    (cs_one (cs_set (ps_set (i := 3) nd rfl (by first | exact Or.inl rfl | exact Or.inr rfl) (ce_tup ca_nil)))))
    cs_nil)
    (cs_one (cs_set (ps_set (i := 3) nd rfl (by first | exact Or.inl rfl | exact Or.inr rfl) (ce_add (ce_var (i := 3) (pv 3)) (ce_tup (ca_cons (ce_var (i := 4) (pv 4)) ca_nil))))))))
    (cs_cons (cs_if (ct_tru (ce_var (i := 3) (pv 3)) (by intro _; rfl))
    (cs_one (cs_app (ps_expr (pe_bm PySem.F.plainAttrs_list PySem.F.slot_list_append PySem.F.type_list_append mt_append (pv 2) (pa_cons (ce_var (i := 3) (pv 3)) pa_nil)))))
    cs_nil)
    (cs_one (cs_frz (i := 2) (cs_ret (ce_var (i := 2) (pv 2)))))))))))
theorem ok_line_count {f : Addr} {fd : FuncData} (F : Fun K "line_count" "line_count" s_line_count f fd) {a_wrap : Addr} {d_wrap : FuncData} (G_wrap : FnOk P w K mg base CX0 2 a_wrap d_wrap ["words", "width"] (spF K g_wrap)) (M_wrap : mg "wrap" = some (.ref a_wrap)) (k_wrap : PySem.W.keepIn K (.ref a_wrap) = true) (b_wrap : Binds K d_wrap ["words", "width"] []) (m_len : mg "len" = none) : FnOk P w K mg base CX0 3 f fd ["words", "width"] (spF K g_line_count) := by
  refine fn_ok (fB := f_line_count) (np := 2) (nN := 3) F sc_line_count rfl rfl rfl fun cdv A outer s H E hr => ?_
  have nd : N_line_count.Nodup := sc_line_count.nd
  exact ((cs_cons (cs_set (ps_set (i := 2) nd rfl (by first | exact Or.inl rfl | exact Or.inr rfl) (ce_call (c := true) (pe_call G_wrap (hr.mono (by decide)) (by rfl) M_wrap k_wrap b_wrap .nil pass0 (ca_cons (ce_var (i := 0) (pv 0)) (ca_cons (ce_var (i := 1) (pv 1)) ca_nil))))))
    (cs_cons (cs_if (ct_cmp op_isN r2_is (ce_var (i := 2) (pv 2)) ce_non (nomark _))
    (cs_one (cs_ret ce_non))
    cs_nil)
    (cs_one (cs_ret (ce_cb (c2 := true) cr_len (pe_callB call_len (by rfl) m_len boot_len (ca_cons (ce_var (i := 2) (pv 2)) ca_nil))))))))
theorem ok_narrowest {f : Addr} {fd : FuncData} (F : Fun K "narrowest" "narrowest" s_narrowest f fd) {a_longest : Addr} {d_longest : FuncData} (G_longest : FnOk P w K mg base CX0 1 a_longest d_longest ["words"] (spF K g_longest)) (M_longest : mg "longest" = some (.ref a_longest)) (k_longest : PySem.W.keepIn K (.ref a_longest) = true) (b_longest : Binds K d_longest ["words"] []) {a_line_count : Addr} {d_line_count : FuncData} (G_line_count : FnOk P w K mg base CX0 3 a_line_count d_line_count ["words", "width"] (spF K g_line_count)) (M_line_count : mg "line_count" = some (.ref a_line_count)) (k_line_count : PySem.W.keepIn K (.ref a_line_count) = true) (b_line_count : Binds K d_line_count ["words", "width"] []) (m_max : mg "max" = none) : FnOk P w K mg base CX0 4 f fd ["words", "lines"] (spF K g_narrowest) := by
  refine fn_ok (fB := f_narrowest) (np := 2) (nN := 3) F sc_narrowest rfl rfl rfl fun cdv A outer s H E hr => ?_
  have nd : N_narrowest.Nodup := sc_narrowest.nd
  exact ((cs_cons (cs_if (ct_not (ct_tru (ce_var (i := 0) (pv 0)) (by intro _; rfl)))
    (cs_one (cs_ret ce_int))
    cs_nil)
    (cs_cons (cs_if (ct_cmp op_lt r2_B0 (ce_var (i := 1) (pv 1)) ce_int (nomark _))
    (cs_one (cs_ret ce_non))
    cs_nil)
    (cs_cons (cs_set (ps_set (i := 2) nd rfl (by first | exact Or.inl rfl | exact Or.inr rfl) (ce_cb (c2 := true) cr_mx2 (pe_callB (call_max2 rfl) (by rfl) m_max (by decide +kernel) (ca_cons ce_int (ca_cons (ce_call (c := true) (pe_call G_longest (hr.mono (by decide)) (by rfl) M_longest k_longest b_longest .nil pass0 (ca_cons (ce_var (i := 0) (pv 0)) ca_nil))) ca_nil))))))
    (cs_cons (cs_while 100 PassesOwn.never (ct_cmp op_gt r2_B0 (ce_call (c := true) (pe_call G_line_count (hr.mono (by decide)) (by rfl) M_line_count k_line_count b_line_count .nil pass0 (ca_cons (ce_var (i := 0) (pv 0)) (ca_cons (ce_var (i := 2) (pv 2)) ca_nil)))) (ce_var (i := 1) (pv 1)) (nomark _))
    (cs_one (cs_aug (ps_aug (i := 2) nd rfl (by first | exact Or.inl rfl | exact Or.inr rfl) ce_int ip_add))))
    (cs_one (cs_ret (ce_var (i := 2) (pv 2)))))))))
theorem ok_Lcell {f : Addr} {fd : FuncData} (F : Fun K "_law_cell" "_law_cell" s_Lcell f fd) (m_len : mg "len" = none) : FnOk P w K mg base CX0 1 f fd ["script", "k"] (spF K g_Lcell) := by
  refine fn_ok (fB := f_Lcell) (np := 2) (nN := 2) F sc_Lcell rfl rfl rfl fun cdv A outer s H E hr => ?_
  have nd : N_Lcell.Nodup := sc_Lcell.nd
  exact ((cs_cons (cs_if (ct_cmp op_lt r2_B0 (ce_var (i := 1) (pv 1)) (ce_cb (c2 := true) cr_len (pe_callB call_len (by rfl) m_len boot_len (ca_cons (ce_var (i := 0) (pv 0)) ca_nil))) (nomark _))
    (cs_one (cs_ret (ce_ix (ce_var (i := 0) (pv 0)) (ce_var (i := 1) (pv 1)) (fun _ _ => rfl))))
    cs_nil)
    (cs_one (cs_ret ce_int))))
theorem ok_Ldraws {f : Addr} {fd : FuncData} (F : Fun K "_law_draws" "_law_draws" s_Ldraws f fd) (m_range : mg "range" = none) (m_int : mg "int" = none) : FnOk P w K mg base CX0 1 f fd ["cell", "count"] (spF K g_Ldraws) := by
  refine fn_ok (fB := f_Ldraws) (np := 2) (nN := 6) F sc_Ldraws rfl rfl rfl fun cdv A outer s H E hr => ?_
  have nd : N_Ldraws.Nodup := sc_Ldraws.nd
  exact ((cs_cons (cs_own (ps_set (i := 2) nd rfl (by first | exact Or.inl rfl | exact Or.inr rfl) (cf_lst (c := true) ca_nil)))
    (cs_cons (cs_set (ps_set (i := 3) nd rfl (by first | exact Or.inl rfl | exact Or.inr rfl) (ce_cmp op_ge r2_B0 (ce_var (i := 0) (pv 0)) (ce_pow ce_int ce_int) (nomark _))))
    (cs_cons (cs_for PassesOwn.never rfl (ci_r1 (pi_range1 (by rfl) m_range (ca_cons (ce_var (i := 1) (pv 1)) ca_nil))) (cg_name (pg_name (i := 4) nd rfl (by first | exact Or.inl rfl | exact Or.inr rfl)))
    (cs_one (cs_if (ct_tru (ce_var (i := 3) (pv 3)) (by intro _; rfl))
    (cs_cons (cs_app (ps_expr (pe_bm PySem.F.plainAttrs_list PySem.F.slot_list_append PySem.F.type_list_append mt_append (pv 2) (pa_cons (ce_mod (ce_cb (c2 := true) cr_int (pe_callTy call_int1 (by rfl) m_int (by decide +kernel) (ca_cons (ce_var (i := 0) (pv 0)) ca_nil))) ce_int) pa_nil))))
    (cs_one (cs_set (ps_set (i := 0) nd rfl (by first | exact Or.inl rfl | exact Or.inr rfl) (ce_div (ce_var (i := 0) (pv 0)) ce_int)))))
    (cs_cons (cs_set (ps_set (i := 5) nd rfl (by first | exact Or.inl rfl | exact Or.inr rfl) (ce_mod (ce_cb (c2 := true) cr_int (pe_callTy call_int1 (by rfl) m_int (by decide +kernel) (ca_cons (ce_add (ce_mul (ce_var (i := 0) (pv 0)) ce_int) (ce_mul (ce_var (i := 4) (pv 4)) ce_int)) ca_nil))) ce_int)))
    (cs_one (cs_app (ps_expr (pe_bm PySem.F.plainAttrs_list PySem.F.slot_list_append PySem.F.type_list_append mt_append (pv 2) (pa_cons (ce_mod (ce_cb (c2 := true) cr_int (pe_callTy call_int1 (by rfl) m_int (by decide +kernel) (ca_cons (ce_add (ce_add (ce_mul (ce_var (i := 5) (pv 5)) (ce_var (i := 5) (pv 5))) (ce_mul (ce_var (i := 0) (pv 0)) ce_int)) (ce_var (i := 4) (pv 4))) ca_nil))) ce_int) pa_nil)))))))))
    (cs_one (cs_frz (i := 2) (cs_ret (ce_var (i := 2) (pv 2)))))))))
theorem ok_Lwords {f : Addr} {fd : FuncData} (F : Fun K "_law_words" "_law_words" s_Lwords f fd) {a_Ldraws : Addr} {d_Ldraws : FuncData} (G_Ldraws : FnOk P w K mg base CX0 1 a_Ldraws d_Ldraws ["cell", "count"] (spF K g_Ldraws)) (M_Ldraws : mg "_law_draws" = some (.ref a_Ldraws)) (k_Ldraws : PySem.W.keepIn K (.ref a_Ldraws) = true) (b_Ldraws : Binds K d_Ldraws ["cell", "count"] []) (m_int : mg "int" = none) (m_range : mg "range" = none) (m_tuple : mg "tuple" = none) : FnOk P w K mg base CX0 2 f fd ["cell"] (spF K g_Lwords) := by
  refine fn_ok (fB := f_Lwords) (np := 1) (nN := 4) F sc_Lwords rfl rfl rfl fun cdv A outer s H E hr => ?_
  have nd : N_Lwords.Nodup := sc_Lwords.nd
  exact ((cs_cons (cs_set (ps_set (i := 1) nd rfl (by first | exact Or.inl rfl | exact Or.inr rfl) (ce_call (c := true) (pe_call G_Ldraws (hr.mono (by decide)) (by rfl) M_Ldraws k_Ldraws b_Ldraws .nil pass0 (ca_cons (ce_var (i := 0) (pv 0)) (ca_cons ce_int ca_nil))))))
    (cs_cons (cs_set (ps_set (i := 2) nd rfl (by first | exact Or.inl rfl | exact Or.inr rfl) (ce_l (c := true) (cf_lst (c := true) (ca_cons ce_str (ca_cons ce_str (ca_cons ce_str (ca_cons ce_str (ca_cons ce_str (ca_cons ce_str (ca_cons ce_str (ca_cons ce_str ca_nil))))))))))))
    (cs_one (cs_ret (ce_cb (c2 := true) cr_tup (pe_callTy call_tuple_of (by rfl) m_tuple (by decide +kernel) (ca_cons (ce_l (c := true) (cf_lc1 (c2 := true) (pe_lc (own := [("k", 3)]) (by rfl) nd (ci_r1 (pi_range1 (by rfl) m_range (ca_cons (ce_mod (ce_cb (c2 := true) cr_int (pe_callTy call_int1 (by rfl) m_int (by decide +kernel) (ca_cons (ce_ix (ce_var (i := 1) (pv 1)) ce_int (fun _ _ => rfl)) ca_nil))) ce_int) ca_nil))) (blkOk_by (own := [("k", 3)]) (N := N_Lwords) (sc := defScope s_Lwords) (by decide +kernel)) (fun _ _ _ _ _ => (cg_name (pg_name (i := 3) nd rfl (by first | exact Or.inl rfl | exact Or.inr rfl)))) (fun _ _ _ _ _ => pts_nil) (fun _ _ _ _ _ => (ce_ix (ce_var (i := 2) (pv 2)) (ce_mod (ce_cb (c2 := true) cr_int (pe_callTy call_int1 (by rfl) m_int (by decide +kernel) (ca_cons (ce_ix (ce_var (i := 1) (pv 1)) (ce_add ce_int (ce_var (i := 3) (pv 3))) (fun _ _ => rfl)) ca_nil))) ce_int) (fun _ _ => rfl)))))) ca_nil))))))))
theorem ok_Ldivisions {f : Addr} {fd : FuncData} (F : Fun K "_law_divisions" "_law_divisions" s_Ldivisions f fd) (m_len : mg "len" = none) : FnOk P w K mg base CX0 1 f fd ["words"] (spF K g_Ldivisions) := by
  refine fn_ok (fB := f_Ldivisions) (np := 1) (nN := 5) F sc_Ldivisions rfl rfl rfl fun cdv A outer s H E hr => ?_
  have nd : N_Ldivisions.Nodup := sc_Ldivisions.nd
  exact ((cs_cons (cs_set (ps_set (i := 1) nd rfl (by first | exact Or.inl rfl | exact Or.inr rfl) (ce_l (c := true) (cf_lst (c := true) (ca_cons (ce_l (c := true) (cf_lst (c := true) ca_nil)) ca_nil)))))
    (cs_cons (cs_for PassesOwn.never rfl (ci_seq (ce_var (i := 0) (pv 0))) (cg_name (pg_name (i := 2) nd rfl (by first | exact Or.inl rfl | exact Or.inr rfl)))
    (cs_cons (cs_own (ps_set (i := 3) nd rfl (by first | exact Or.inl rfl | exact Or.inr rfl) (cf_lst (c := true) ca_nil)))
    (cs_cons (cs_for PassesOwn.never rfl (ci_seq (ce_var (i := 1) (pv 1))) (cg_name (pg_name (i := 4) nd rfl (by first | exact Or.inl rfl | exact Or.inr rfl)))
    (cs_cons (cs_if (ct_cmp op_gt r2_B0 (ce_cb (c2 := true) cr_len (pe_callB call_len (by rfl) m_len boot_len (ca_cons (ce_var (i := 4) (pv 4)) ca_nil))) ce_int (nomark _))
    (cs_one (cs_app (ps_expr (pe_bm PySem.F.plainAttrs_list PySem.F.slot_list_append PySem.F.type_list_append mt_append (pv 3) (pa_cons (ce_l (c := true) (cf_cat (c := true) (ce_sl (ce_var (i := 4) (pv 4)) co_none (co_some (ce_neg ce_int))) (ce_l (c := true) (cf_lst (c := true) (ca_cons (ce_add (ce_add (ce_ix (ce_var (i := 4) (pv 4)) (ce_neg ce_int) (fun _ _ => rfl)) ce_str) (ce_var (i := 2) (pv 2))) ca_nil))))) pa_nil)))))
    cs_nil)
    (cs_one (cs_app (ps_expr (pe_bm PySem.F.plainAttrs_list PySem.F.slot_list_append PySem.F.type_list_append mt_append (pv 3) (pa_cons (ce_l (c := true) (cf_cat (c := true) (ce_var (i := 4) (pv 4)) (ce_l (c := true) (cf_lst (c := true) (ca_cons (ce_var (i := 2) (pv 2)) ca_nil))))) pa_nil)))))))
    (cs_one (cs_frz (i := 3) (cs_set (ps_set (i := 1) nd rfl (by first | exact Or.inl rfl | exact Or.inr rfl) (ce_var (i := 3) (pv 3)))))))))
    (cs_one (cs_ret (ce_var (i := 1) (pv 1)))))))
theorem ok_law {f : Addr} {fd : FuncData} (F : Fun K "law" "law" s_law f fd) {a_Lwords : Addr} {d_Lwords : FuncData} (G_Lwords : FnOk P w K mg base CX0 2 a_Lwords d_Lwords ["cell"] (spF K g_Lwords)) (M_Lwords : mg "_law_words" = some (.ref a_Lwords)) (k_Lwords : PySem.W.keepIn K (.ref a_Lwords) = true) (b_Lwords : Binds K d_Lwords ["cell"] []) {a_Lcell : Addr} {d_Lcell : FuncData} (G_Lcell : FnOk P w K mg base CX0 1 a_Lcell d_Lcell ["script", "k"] (spF K g_Lcell)) (M_Lcell : mg "_law_cell" = some (.ref a_Lcell)) (k_Lcell : PySem.W.keepIn K (.ref a_Lcell) = true) (b_Lcell : Binds K d_Lcell ["script", "k"] []) {a_Ldivisions : Addr} {d_Ldivisions : FuncData} (G_Ldivisions : FnOk P w K mg base CX0 1 a_Ldivisions d_Ldivisions ["words"] (spF K g_Ldivisions)) (M_Ldivisions : mg "_law_divisions" = some (.ref a_Ldivisions)) (k_Ldivisions : PySem.W.keepIn K (.ref a_Ldivisions) = true) (b_Ldivisions : Binds K d_Ldivisions ["words"] []) {a_narrowest : Addr} {d_narrowest : FuncData} (G_narrowest : FnOk P w K mg base CX0 4 a_narrowest d_narrowest ["words", "lines"] (spF K g_narrowest)) (M_narrowest : mg "narrowest" = some (.ref a_narrowest)) (k_narrowest : PySem.W.keepIn K (.ref a_narrowest) = true) (b_narrowest : Binds K d_narrowest ["words", "lines"] []) {a_wrap : Addr} {d_wrap : FuncData} (G_wrap : FnOk P w K mg base CX0 2 a_wrap d_wrap ["words", "width"] (spF K g_wrap)) (M_wrap : mg "wrap" = some (.ref a_wrap)) (k_wrap : PySem.W.keepIn K (.ref a_wrap) = true) (b_wrap : Binds K d_wrap ["words", "width"] []) (m_len : mg "len" = none) (m_max : mg "max" = none) (m_min : mg "min" = none) (m_isinstance : mg "isinstance" = none) (m_bool : mg "bool" = none) (m_range : mg "range" = none) : FnOk P w K mg base CX0 5 f fd ["script"] (spF K g_law) := by
  refine fn_ok (fB := f_law) (np := 1) (nN := 11) F sc_law rfl rfl rfl fun cdv A outer s H E hr => ?_
  have nd : N_law.Nodup := sc_law.nd
  exact ((cs_cons (cs_set (ps_set (i := 1) nd rfl (by first | exact Or.inl rfl | exact Or.inr rfl) (ce_call (c := true) (pe_call G_Lwords (hr.mono (by decide)) (by rfl) M_Lwords k_Lwords b_Lwords .nil pass0 (ca_cons (ce_call (c := true) (pe_call G_Lcell (hr.mono (by decide)) (by rfl) M_Lcell k_Lcell b_Lcell .nil pass0 (ca_cons (ce_var (i := 0) (pv 0)) (ca_cons ce_int ca_nil)))) ca_nil)))))
    (cs_cons (cs_set (ps_set (i := 2) nd rfl (by first | exact Or.inl rfl | exact Or.inr rfl) (ce_mod (ce_call (c := true) (pe_call G_Lcell (hr.mono (by decide)) (by rfl) M_Lcell k_Lcell b_Lcell .nil pass0 (ca_cons (ce_var (i := 0) (pv 0)) (ca_cons ce_int ca_nil)))) ce_int)))
    (cs_cons (cs_own (ps_set (i := 3) nd rfl (by first | exact Or.inl rfl | exact Or.inr rfl) (cf_lst (c := true) ca_nil)))
    (cs_cons (cs_for PassesOwn.never rfl (ci_seq (ce_call (c := true) (pe_call G_Ldivisions (hr.mono (by decide)) (by rfl) M_Ldivisions k_Ldivisions b_Ldivisions .nil pass0 (ca_cons (ce_var (i := 1) (pv 1)) ca_nil)))) (cg_name (pg_name (i := 4) nd rfl (by first | exact Or.inl rfl | exact Or.inr rfl)))
    (cs_one (cs_if (ct_cmp op_le r2_B0 (ce_cb (c2 := true) cr_len (pe_callB call_len (by rfl) m_len boot_len (ca_cons (ce_var (i := 4) (pv 4)) ca_nil))) (ce_var (i := 2) (pv 2)) (nomark _))
    (cs_cons (cs_lcV1 (ps_setLc (i := 5) (own := [("line", 10)]) rfl nd rfl rfl (sw_true rfl rfl rfl (by decide +kernel)) (ci_seq (ce_var (i := 4) (pv 4))) (blkOk_by (own := [("line", 10)]) (N := N_law) (sc := defScope s_law) (by decide +kernel)) (fun _ _ _ _ _ => (cg_name (pg_name (i := 10) nd rfl (by first | exact Or.inl rfl | exact Or.inr rfl)))) (fun _ _ _ _ _ => pts_nil) (fun _ _ _ _ _ => (ce_cb (c2 := true) cr_len (pe_callB call_len (by rfl) m_len boot_len (ca_cons (ce_var (i := 10) (pv 10)) ca_nil))))))
    (cs_one (cs_app (ps_expr (pe_bm PySem.F.plainAttrs_list PySem.F.slot_list_append PySem.F.type_list_append mt_append (pv 3) (pa_cons (ce_if (ct_cmp op_gt r2_B0 (ce_cb (c2 := true) cr_len (pe_callB call_len (by rfl) m_len boot_len (ca_cons (ce_var (i := 5) (pv 5)) ca_nil))) ce_int (nomark _)) (ce_cb (c2 := true) cr_mx (pe_callB (cr_max rfl) (by rfl) m_max (by decide +kernel) (ca_cons (ce_var (i := 5) (pv 5)) ca_nil))) ce_int) pa_nil))))))
    cs_nil)))
    (cs_cons (cs_set (ps_set (i := 6) nd rfl (by first | exact Or.inl rfl | exact Or.inr rfl) (ce_if (ct_cmp op_gt r2_B0 (ce_cb (c2 := true) cr_len (pe_callB call_len (by rfl) m_len boot_len (ca_cons (ce_bor (i := 3) (pv 3)) ca_nil))) ce_int (nomark _)) (ce_cb (c2 := true) cr_mn (pe_callB (cr_min rfl) (by rfl) m_min (by decide +kernel) (ca_cons (ce_bor (i := 3) (pv 3)) ca_nil))) ce_non)))
    (cs_cons (cs_set (ps_set (i := 7) nd rfl (by first | exact Or.inl rfl | exact Or.inr rfl) (ce_call (c := true) (pe_call G_narrowest (hr.mono (by decide)) (by rfl) M_narrowest k_narrowest b_narrowest .nil pass0 (ca_cons (ce_var (i := 1) (pv 1)) (ca_cons (ce_var (i := 2) (pv 2)) ca_nil))))))
    (cs_cons (cs_if (PW.pt (cw_or (ct_cmp (op_neD hr.units) r2_ne (ce_var (i := 7) (pv 7)) (ce_var (i := 6) (pv 6)) (nomark _)) (cw_or1 (ct_val (ce_isi (T := "bool") (pe_callB call_isi (by rfl) m_isinstance (by decide +kernel) (pa_cons (ce_var (i := 7) (pv 7)) (pa_cons (pe_bltn (v := .ty "bool") (by rfl) m_bool (by decide +kernel) rfl) pa_nil))))))))
    (cs_one (cs_ret ce_bl))
    cs_nil)
    (cs_cons (cs_for PassesOwn.never rfl (ci_r2 (pi_range2 (by rfl) m_range (ca_cons ce_int (ca_cons ce_int ca_nil)))) (cg_name (pg_name (i := 8) nd rfl (by first | exact Or.inl rfl | exact Or.inr rfl)))
    (cs_cons (cs_set (ps_set (i := 7) nd rfl (by first | exact Or.inl rfl | exact Or.inr rfl) (ce_call (c := true) (pe_call G_wrap (hr.mono (by decide)) (by rfl) M_wrap k_wrap b_wrap .nil pass0 (ca_cons (ce_var (i := 1) (pv 1)) (ca_cons (ce_var (i := 8) (pv 8)) ca_nil))))))
    (cs_cons (cs_own (ps_set (i := 9) nd rfl (by first | exact Or.inl rfl | exact Or.inr rfl) (cf_lst (c := true) ca_nil)))
    (cs_cons (cs_for PassesOwn.never rfl (ci_seq (ce_call (c := true) (pe_call G_Ldivisions (hr.mono (by decide)) (by rfl) M_Ldivisions k_Ldivisions b_Ldivisions .nil pass0 (ca_cons (ce_var (i := 1) (pv 1)) ca_nil)))) (cg_name (pg_name (i := 4) nd rfl (by first | exact Or.inl rfl | exact Or.inr rfl)))
    (cs_cons (cs_lcV1 (ps_setLc (i := 5) (own := [("line", 10)]) rfl nd rfl rfl (sw_true rfl rfl rfl (by decide +kernel)) (ci_seq (ce_var (i := 4) (pv 4))) (blkOk_by (own := [("line", 10)]) (N := N_law) (sc := defScope s_law) (by decide +kernel)) (fun _ _ _ _ _ => (cg_name (pg_name (i := 10) nd rfl (by first | exact Or.inl rfl | exact Or.inr rfl)))) (fun _ _ _ _ _ => pts_nil) (fun _ _ _ _ _ => (ce_cb (c2 := true) cr_len (pe_callB call_len (by rfl) m_len boot_len (ca_cons (ce_var (i := 10) (pv 10)) ca_nil))))))
    (cs_one (cs_if (PW.pt (cw_or (ct_cmp (op_eqD hr.units) r2_eq (ce_cb (c2 := true) cr_len (pe_callB call_len (by rfl) m_len boot_len (ca_cons (ce_var (i := 5) (pv 5)) ca_nil))) ce_int (nomark _)) (cw_or1 (ct_cmp op_le r2_B0 (ce_cb (c2 := true) cr_mx (pe_callB (cr_max rfl) (by rfl) m_max (by decide +kernel) (ca_cons (ce_var (i := 5) (pv 5)) ca_nil))) (ce_var (i := 8) (pv 8)) (nomark _)))))
    (cs_one (cs_app (ps_expr (pe_bm PySem.F.plainAttrs_list PySem.F.slot_list_append PySem.F.type_list_append mt_append (pv 9) (pa_cons (ce_cb (c2 := true) cr_len (pe_callB call_len (by rfl) m_len boot_len (ca_cons (ce_var (i := 4) (pv 4)) ca_nil))) pa_nil)))))
    cs_nil))))
    (cs_one (cs_if (PW.pt (cw_or (ct_cmp (op_neD hr.units) r2_ne (ce_cmp op_isN r2_is (ce_var (i := 7) (pv 7)) ce_non (nomark _)) (ce_cmp (op_eqD hr.units) r2_eq (ce_cb (c2 := true) cr_len (pe_callB call_len (by rfl) m_len boot_len (ca_cons (ce_bor (i := 9) (pv 9)) ca_nil))) ce_int (nomark _)) (nomark _)) (cw_or1 (PW.pt (cw_and (ct_cmp op_notN r2_isnt (ce_var (i := 7) (pv 7)) ce_non (nomark _)) (cw_and1 (ct_cmp (op_neD hr.units) r2_ne (ce_cb (c2 := true) cr_len (pe_callB call_len (by rfl) m_len boot_len (ca_cons (ce_var (i := 7) (pv 7)) ca_nil))) (ce_cb (c2 := true) cr_mn (pe_callB (cr_min rfl) (by rfl) m_min (by decide +kernel) (ca_cons (ce_bor (i := 9) (pv 9)) ca_nil))) (nomark _))))))))
    (cs_one (cs_ret ce_bl))
    cs_nil))))))
    (cs_one (cs_ret ce_bl)))))))))))
end
/-! ### the end -/
theorem all_mk {l : PySem.W.OpenLaw} {w : World} {K : PySem.W.Frag} {h : Heap} {mg : Str → Option Value} {fa : Addr} (X : K.In h) (G : h.Ns mainGlobals mg) (hfa : mg "law" = some (.ref fa))
    {f_longest : Addr} {od_longest an_longest : Option Addr} {sl_longest : Array (Option Value)} {oc_longest kV_longest dc_longest pm_longest cd_longest ct_longest : Value}
    (a_longest : PySem.W.nsIn K mainGlobals "longest" = some (some (.ref f_longest))) (l_longest : K.lookup f_longest = some ⟨oc_longest, od_longest, .func (PySem.W.fnOf "longest" "longest" (defArgs s_longest) (defBody s_longest) (defScope s_longest) .none kV_longest dc_longest pm_longest an_longest cd_longest ct_longest), sl_longest⟩) (c_longest : PySem.W.codeIn K cd_longest "longest" = true) (k_longest : PySem.W.keepIn K (.ref f_longest) = true)
    {f_length_of : Addr} {od_length_of an_length_of : Option Addr} {sl_length_of : Array (Option Value)} {oc_length_of kV_length_of dc_length_of pm_length_of cd_length_of ct_length_of : Value}
    (a_length_of : PySem.W.nsIn K mainGlobals "length_of" = some (some (.ref f_length_of))) (l_length_of : K.lookup f_length_of = some ⟨oc_length_of, od_length_of, .func (PySem.W.fnOf "length_of" "length_of" (defArgs s_length_of) (defBody s_length_of) (defScope s_length_of) .none kV_length_of dc_length_of pm_length_of an_length_of cd_length_of ct_length_of), sl_length_of⟩) (c_length_of : PySem.W.codeIn K cd_length_of "length_of" = true) (k_length_of : PySem.W.keepIn K (.ref f_length_of) = true)
    {f_wrap : Addr} {od_wrap an_wrap : Option Addr} {sl_wrap : Array (Option Value)} {oc_wrap kV_wrap dc_wrap pm_wrap cd_wrap ct_wrap : Value}
    (a_wrap : PySem.W.nsIn K mainGlobals "wrap" = some (some (.ref f_wrap))) (l_wrap : K.lookup f_wrap = some ⟨oc_wrap, od_wrap, .func (PySem.W.fnOf "wrap" "wrap" (defArgs s_wrap) (defBody s_wrap) (defScope s_wrap) .none kV_wrap dc_wrap pm_wrap an_wrap cd_wrap ct_wrap), sl_wrap⟩) (c_wrap : PySem.W.codeIn K cd_wrap "wrap" = true) (k_wrap : PySem.W.keepIn K (.ref f_wrap) = true)
    {f_line_count : Addr} {od_line_count an_line_count : Option Addr} {sl_line_count : Array (Option Value)} {oc_line_count kV_line_count dc_line_count pm_line_count cd_line_count ct_line_count : Value}
    (a_line_count : PySem.W.nsIn K mainGlobals "line_count" = some (some (.ref f_line_count))) (l_line_count : K.lookup f_line_count = some ⟨oc_line_count, od_line_count, .func (PySem.W.fnOf "line_count" "line_count" (defArgs s_line_count) (defBody s_line_count) (defScope s_line_count) .none kV_line_count dc_line_count pm_line_count an_line_count cd_line_count ct_line_count), sl_line_count⟩) (c_line_count : PySem.W.codeIn K cd_line_count "line_count" = true) (k_line_count : PySem.W.keepIn K (.ref f_line_count) = true)
    {f_narrowest : Addr} {od_narrowest an_narrowest : Option Addr} {sl_narrowest : Array (Option Value)} {oc_narrowest kV_narrowest dc_narrowest pm_narrowest cd_narrowest ct_narrowest : Value}
    (a_narrowest : PySem.W.nsIn K mainGlobals "narrowest" = some (some (.ref f_narrowest))) (l_narrowest : K.lookup f_narrowest = some ⟨oc_narrowest, od_narrowest, .func (PySem.W.fnOf "narrowest" "narrowest" (defArgs s_narrowest) (defBody s_narrowest) (defScope s_narrowest) .none kV_narrowest dc_narrowest pm_narrowest an_narrowest cd_narrowest ct_narrowest), sl_narrowest⟩) (c_narrowest : PySem.W.codeIn K cd_narrowest "narrowest" = true) (k_narrowest : PySem.W.keepIn K (.ref f_narrowest) = true)
    {f_Lcell : Addr} {od_Lcell an_Lcell : Option Addr} {sl_Lcell : Array (Option Value)} {oc_Lcell kV_Lcell dc_Lcell pm_Lcell cd_Lcell ct_Lcell : Value}
    (a_Lcell : PySem.W.nsIn K mainGlobals "_law_cell" = some (some (.ref f_Lcell))) (l_Lcell : K.lookup f_Lcell = some ⟨oc_Lcell, od_Lcell, .func (PySem.W.fnOf "_law_cell" "_law_cell" (defArgs s_Lcell) (defBody s_Lcell) (defScope s_Lcell) .none kV_Lcell dc_Lcell pm_Lcell an_Lcell cd_Lcell ct_Lcell), sl_Lcell⟩) (c_Lcell : PySem.W.codeIn K cd_Lcell "_law_cell" = true) (k_Lcell : PySem.W.keepIn K (.ref f_Lcell) = true)
    {f_Ldraws : Addr} {od_Ldraws an_Ldraws : Option Addr} {sl_Ldraws : Array (Option Value)} {oc_Ldraws kV_Ldraws dc_Ldraws pm_Ldraws cd_Ldraws ct_Ldraws : Value}
    (a_Ldraws : PySem.W.nsIn K mainGlobals "_law_draws" = some (some (.ref f_Ldraws))) (l_Ldraws : K.lookup f_Ldraws = some ⟨oc_Ldraws, od_Ldraws, .func (PySem.W.fnOf "_law_draws" "_law_draws" (defArgs s_Ldraws) (defBody s_Ldraws) (defScope s_Ldraws) .none kV_Ldraws dc_Ldraws pm_Ldraws an_Ldraws cd_Ldraws ct_Ldraws), sl_Ldraws⟩) (c_Ldraws : PySem.W.codeIn K cd_Ldraws "_law_draws" = true) (k_Ldraws : PySem.W.keepIn K (.ref f_Ldraws) = true)
    {f_Lwords : Addr} {od_Lwords an_Lwords : Option Addr} {sl_Lwords : Array (Option Value)} {oc_Lwords kV_Lwords dc_Lwords pm_Lwords cd_Lwords ct_Lwords : Value}
    (a_Lwords : PySem.W.nsIn K mainGlobals "_law_words" = some (some (.ref f_Lwords))) (l_Lwords : K.lookup f_Lwords = some ⟨oc_Lwords, od_Lwords, .func (PySem.W.fnOf "_law_words" "_law_words" (defArgs s_Lwords) (defBody s_Lwords) (defScope s_Lwords) .none kV_Lwords dc_Lwords pm_Lwords an_Lwords cd_Lwords ct_Lwords), sl_Lwords⟩) (c_Lwords : PySem.W.codeIn K cd_Lwords "_law_words" = true) (k_Lwords : PySem.W.keepIn K (.ref f_Lwords) = true)
    {f_Ldivisions : Addr} {od_Ldivisions an_Ldivisions : Option Addr} {sl_Ldivisions : Array (Option Value)} {oc_Ldivisions kV_Ldivisions dc_Ldivisions pm_Ldivisions cd_Ldivisions ct_Ldivisions : Value}
    (a_Ldivisions : PySem.W.nsIn K mainGlobals "_law_divisions" = some (some (.ref f_Ldivisions))) (l_Ldivisions : K.lookup f_Ldivisions = some ⟨oc_Ldivisions, od_Ldivisions, .func (PySem.W.fnOf "_law_divisions" "_law_divisions" (defArgs s_Ldivisions) (defBody s_Ldivisions) (defScope s_Ldivisions) .none kV_Ldivisions dc_Ldivisions pm_Ldivisions an_Ldivisions cd_Ldivisions ct_Ldivisions), sl_Ldivisions⟩) (c_Ldivisions : PySem.W.codeIn K cd_Ldivisions "_law_divisions" = true) (k_Ldivisions : PySem.W.keepIn K (.ref f_Ldivisions) = true)
    {f_law : Addr} {od_law an_law : Option Addr} {sl_law : Array (Option Value)} {oc_law kV_law dc_law pm_law cd_law ct_law : Value}
    (a_law : PySem.W.nsIn K mainGlobals "law" = some (some (.ref f_law))) (l_law : K.lookup f_law = some ⟨oc_law, od_law, .func (PySem.W.fnOf "law" "law" (defArgs s_law) (defBody s_law) (defScope s_law) .none kV_law dc_law pm_law an_law cd_law ct_law), sl_law⟩) (c_law : PySem.W.codeIn K cd_law "law" = true) (k_law : PySem.W.keepIn K (.ref f_law) = true)
    (z_len : PySem.W.nsIn K mainGlobals "len" = some none)
    (z_max : PySem.W.nsIn K mainGlobals "max" = some none)
    (z_range : PySem.W.nsIn K mainGlobals "range" = some none)
    (z_int : PySem.W.nsIn K mainGlobals "int" = some none)
    (z_tuple : PySem.W.nsIn K mainGlobals "tuple" = some none)
    (z_min : PySem.W.nsIn K mainGlobals "min" = some none)
    (z_isinstance : PySem.W.nsIn K mainGlobals "isinstance" = some none)
    (z_bool : PySem.W.nsIn K mainGlobals "bool" = some none)
    : ∃ fd : FuncData, (∀ (s : Shared) (v : Value), BindsTo s fd ⟨[v], []⟩ [("script", v)]) ∧ ∀ base : Heap, K.In base → base.Ns mainGlobals mg → FnOk l.prog w K mg base CX0 5 fa fd ["script"] (spF K g_law) := by
  have e := hfa.symm.trans (PySem.W.mg_of X G a_law)
  cases e
  have F_longest := fun_mk (st := s_longest) l_longest c_longest k_longest
  have b_longest := F_longest.binds (ps := ["words"]) fun _ _ _ _ _ _ us hl => match us, hl with | [_], _ => rfl
  have F_length_of := fun_mk (st := s_length_of) l_length_of c_length_of k_length_of
  have b_length_of := F_length_of.binds (ps := ["words"]) fun _ _ _ _ _ _ us hl => match us, hl with | [_], _ => rfl
  have F_wrap := fun_mk (st := s_wrap) l_wrap c_wrap k_wrap
  have b_wrap := F_wrap.binds (ps := ["words", "width"]) fun _ _ _ _ _ _ us hl => match us, hl with | [_, _], _ => rfl
  have F_line_count := fun_mk (st := s_line_count) l_line_count c_line_count k_line_count
  have b_line_count := F_line_count.binds (ps := ["words", "width"]) fun _ _ _ _ _ _ us hl => match us, hl with | [_, _], _ => rfl
  have F_narrowest := fun_mk (st := s_narrowest) l_narrowest c_narrowest k_narrowest
  have b_narrowest := F_narrowest.binds (ps := ["words", "lines"]) fun _ _ _ _ _ _ us hl => match us, hl with | [_, _], _ => rfl
  have F_Lcell := fun_mk (st := s_Lcell) l_Lcell c_Lcell k_Lcell
  have b_Lcell := F_Lcell.binds (ps := ["script", "k"]) fun _ _ _ _ _ _ us hl => match us, hl with | [_, _], _ => rfl
  have F_Ldraws := fun_mk (st := s_Ldraws) l_Ldraws c_Ldraws k_Ldraws
  have b_Ldraws := F_Ldraws.binds (ps := ["cell", "count"]) fun _ _ _ _ _ _ us hl => match us, hl with | [_, _], _ => rfl
  have F_Lwords := fun_mk (st := s_Lwords) l_Lwords c_Lwords k_Lwords
  have b_Lwords := F_Lwords.binds (ps := ["cell"]) fun _ _ _ _ _ _ us hl => match us, hl with | [_], _ => rfl
  have F_Ldivisions := fun_mk (st := s_Ldivisions) l_Ldivisions c_Ldivisions k_Ldivisions
  have b_Ldivisions := F_Ldivisions.binds (ps := ["words"]) fun _ _ _ _ _ _ us hl => match us, hl with | [_], _ => rfl
  have F_law := fun_mk (st := s_law) l_law c_law k_law
  have b_law := F_law.binds (ps := ["script"]) fun _ _ _ _ _ _ us hl => match us, hl with | [_], _ => rfl
  refine ⟨PySem.W.fnOf "law" "law" (defArgs s_law) (defBody s_law) (defScope s_law) .none kV_law dc_law pm_law an_law cd_law ct_law, fun s v => .of_eq rfl, fun base _ _ => ?_⟩
  have H_longest := ok_longest (P := l.prog) (w := w) (mg := mg) (base := base) F_longest (PySem.W.mg_none_of X G z_len) (PySem.W.mg_none_of X G z_max)
  have H_length_of := ok_length_of (P := l.prog) (w := w) (mg := mg) (base := base) F_length_of (PySem.W.mg_none_of X G z_len)
  have H_wrap := ok_wrap (P := l.prog) (w := w) (mg := mg) (base := base) F_wrap H_longest (PySem.W.mg_of X G a_longest) k_longest b_longest H_length_of (PySem.W.mg_of X G a_length_of) k_length_of b_length_of (PySem.W.mg_none_of X G z_len)
  have H_line_count := ok_line_count (P := l.prog) (w := w) (mg := mg) (base := base) F_line_count H_wrap (PySem.W.mg_of X G a_wrap) k_wrap b_wrap (PySem.W.mg_none_of X G z_len)
  have H_narrowest := ok_narrowest (P := l.prog) (w := w) (mg := mg) (base := base) F_narrowest H_longest (PySem.W.mg_of X G a_longest) k_longest b_longest H_line_count (PySem.W.mg_of X G a_line_count) k_line_count b_line_count (PySem.W.mg_none_of X G z_max)
  have H_Lcell := ok_Lcell (P := l.prog) (w := w) (mg := mg) (base := base) F_Lcell (PySem.W.mg_none_of X G z_len)
  have H_Ldraws := ok_Ldraws (P := l.prog) (w := w) (mg := mg) (base := base) F_Ldraws (PySem.W.mg_none_of X G z_range) (PySem.W.mg_none_of X G z_int)
  have H_Lwords := ok_Lwords (P := l.prog) (w := w) (mg := mg) (base := base) F_Lwords H_Ldraws (PySem.W.mg_of X G a_Ldraws) k_Ldraws b_Ldraws (PySem.W.mg_none_of X G z_int) (PySem.W.mg_none_of X G z_range) (PySem.W.mg_none_of X G z_tuple)
  have H_Ldivisions := ok_Ldivisions (P := l.prog) (w := w) (mg := mg) (base := base) F_Ldivisions (PySem.W.mg_none_of X G z_len)
  have H_law := ok_law (P := l.prog) (w := w) (mg := mg) (base := base) F_law H_Lwords (PySem.W.mg_of X G a_Lwords) k_Lwords b_Lwords H_Lcell (PySem.W.mg_of X G a_Lcell) k_Lcell b_Lcell H_Ldivisions (PySem.W.mg_of X G a_Ldivisions) k_Ldivisions b_Ldivisions H_narrowest (PySem.W.mg_of X G a_narrowest) k_narrowest b_narrowest H_wrap (PySem.W.mg_of X G a_wrap) k_wrap b_wrap (PySem.W.mg_none_of X G z_len) (PySem.W.mg_none_of X G z_max) (PySem.W.mg_none_of X G z_min) (PySem.W.mg_none_of X G z_isinstance) (PySem.W.mg_none_of X G z_bool) (PySem.W.mg_none_of X G z_range)
  exact H_law
end K01

namespace K01
open PySem PySem.Spec PyProof.Rows L2 Mir
abbrev tws (ws : List Str) : List PyData := ws.map PyData.str
def lg (ws : List Str) : Int := match ws.map (fun w => (w.length : Int)) with
  | [] => 0
  | n :: ns => mxI n ns
theorem longest_ev (ws : List Str) (h : ∀ w ∈ ws, w.length ≤ 8) (hl : ws.length ≤ 1000) : g_longest [.tuple (tws ws)] = some (.int (lg ws)) := by
  have h1 : compF (gVal 1) tYes' c_longest_1 [.val (.tuple (tws ws)), .un] (ws.map PyData.str) = some (ws.map fun w => .int (w.length : Int)) := by
    refine compF_mapS fun w hw => ⟨[.val (.tuple (tws ws)), .val (.str w)], rfl, ?_⟩
    have h8 := h w hw
    simp [c_longest_1, eCall, aCons, aNil, eVar, lenA, show w.length ≤ 1000000 by omega]
  have h2 : fCmp [1] (iSeq (eVar 0)) (gVal 1) tYes' c_longest_1 [.val (.tuple (tws ws)), .un] = some (ws.map fun w => .int (w.length : Int)) := by
    simp only [fCmp, iSeq, eVar, List.getElem?_cons_zero, wipeE, List.set_cons_succ, List.set_cons_zero]
    rw [h1]
    simp [show ws.length ≤ 1000000 by omega]
  have h3 : intsD (ws.map fun w => PyData.int (w.length : Int)) = some (ws.map fun w => (w.length : Int)) := by
    have := intsD_map (ws.map fun w => (w.length : Int))
    rw [List.map_map] at this
    exact this
  show outD (f_longest [.val (.tuple (tws ws)), .un]) = _
  simp only [f_longest, sRet, eMxD, eL, h2, Option.map_some, h3, eC, outD, lg]
  cases ws with
  | nil => rfl
  | cons w ws => rfl
theorem length_of_ev (ws : List Str) (h : ∀ w ∈ ws, w.length ≤ 8) (hl : ws.length ≤ 1000) : g_length_of [.tuple (tws ws)] = some (.int (jl ws)) := by
  show outD (f_length_of [.val (.tuple (tws ws))]) = _
  have h1 : eJoin (eC (.str " ")) (eVar 0) [.val (.tuple (tws ws))] = some (.str (Txt.join " " ws)) := by
    have hb : (ws.map (·.length)).sum + ws.length * (" " : Str).length ≤ 1000000 := by
      rw [spc_len]
      have : ∀ l : List Str, (∀ w ∈ l, w.length ≤ 8) → (l.map (·.length)).sum ≤ 8 * l.length := by
        intro l
        induction l with
        | nil => intro _; simp
        | cons x l ih =>
          intro hh
          have h1 := hh x List.mem_cons_self
          have h2 := ih fun w hw => hh w (List.mem_cons_of_mem _ hw)
          simp only [List.map_cons, List.sum_cons, List.length_cons]
          omega
      have := this ws h
      omega
    simp only [eJoin, e2, eC, eVar, List.getElem?_cons_zero, strsD_map, hb, if_true]
  have h2 : jl ws ≤ 1000000 := by
    have := jl_le ws h
    omega
  simp only [f_length_of, sRet, eCall, aCons, aNil, h1, lenA, outD]
  rw [if_pos (show (Txt.join " " ws).length ≤ 1000000 from h2)]
  rfl

/-! wrap -/
def step (W : Int) (s : List (List Str) × List Str) (w : Str) : List (List Str) × List Str := if s.2 ≠ [] ∧ W < (jl s.2 : Int) + 1 + w.length then (s.1 ++ [s.2], [w]) else (s.1, s.2 ++ [w])
abbrev tls (ls : List (List Str)) : List PyData := ls.map fun l => .tuple (tws l)
theorem tws_app (l : List Str) (w : Str) : tws (l ++ [w]) = tws l ++ [.str w] := by simp [tws]
theorem tls_app (l : List (List Str)) (w : List Str) : tls (l ++ [w]) = tls l ++ [.tuple (tws w)] := by simp [tls]
theorem wrap_body (a : PyData) (W : Int) (s : List (List Str) × List Str) (w : Str) (h : ∀ w ∈ s.2, w.length ≤ 8) (hw : w.length ≤ 8) (h1 : s.1.length < 1000) (h2 : s.2.length < 1000) :
    b_wrap_1 [.val a, .val (.int W), .own (tls s.1), .val (.tuple (tws s.2)), .val (.str w)] = .nx [.val a, .val (.int W), .own (tls (step W s w).1), .val (.tuple (tws (step W s w).2)), .val (.str w)] := by
  obtain ⟨lines, line⟩ := s
  simp only at h h1 h2
  have hlen : w.length ≤ 1000000 := by omega
  have happ : addD (.tuple (tws line)) (.tuple [.str w]) = some (.tuple (tws (line ++ [w]))) := by
    rw [addD_tup (by simp [tws]; omega), tws_app]
  cases line with
  | nil =>
    have e : step W (lines, []) w = (lines, [w]) := by simp [step]
    rw [e]
    simp [b_wrap_1, sSeq, sIf, tAnd', tTr, eVar, truD, sNil, sSet, e2, eTup, aCons, aNil, addD]
  | cons x r =>
    have hlo := length_of_ev (x :: r) h (by omega)
    have hx : addD (.tuple (tws (x :: r))) (.tuple [.str w]) = some (.tuple (tws (x :: r ++ [w]))) := happ
    by_cases hc : W < (jl (x :: r) : Int) + 1 + w.length
    · have e : step W (lines, x :: r) w = (lines ++ [x :: r], [w]) := by simp [step, hc]
      rw [e]
      simp [b_wrap_1, sSeq, sIf, tAnd', tTr, eVar, truD, sNil, sSet, e2, eTup, aCons, aNil, t1, gtD, i2, eCall, eC, lenA, hlen, hc, sApp, addD]
      rw [show g_length_of [PyData.tuple (PyData.str x :: List.map PyData.str r)] = some (.int (jl (x :: r))) from hlo]
      simp [hc, show lines.length < 1000000 by omega]
    · have e : step W (lines, x :: r) w = (lines, x :: r ++ [w]) := by simp [step, hc]
      rw [e]
      simp [b_wrap_1, sSeq, sIf, tAnd', tTr, eVar, truD, sNil, sSet, e2, eTup, aCons, aNil, t1, gtD, i2, eCall, eC, lenA, hlen, hc, sApp]
      rw [show g_length_of [PyData.tuple (PyData.str x :: List.map PyData.str r)] = some (.int (jl (x :: r))) from hlo]
      simp [addD, hc, show r.length ≤ 999998 by simp at h2; omega]
theorem wrap_loop (a : PyData) (W : Int) : ∀ (ws : List Str) (s : List (List Str) × List Str) (x : Sl), (∀ w ∈ ws, w.length ≤ 8) → (∀ w ∈ s.2, w.length ≤ 8) → s.1.length + ws.length < 1000 → s.2.length + ws.length < 1000 →
    ∃ x', loopF (gVal 4) b_wrap_1 (tws ws) [.val a, .val (.int W), .own (tls s.1), .val (.tuple (tws s.2)), x] = .nx [.val a, .val (.int W), .own (tls (ws.foldl (step W) s).1), .val (.tuple (tws (ws.foldl (step W) s).2)), x']
  | [], s, x, _, _, _, _ => ⟨x, rfl⟩
  | w :: ws, s, x, h, h', h1, h2 => by
    have hw := h w List.mem_cons_self
    simp only [List.length_cons] at h1 h2
    have hb := wrap_body a W s w h' hw (by omega) (by omega)
    have hs : (∀ v ∈ (step W s w).2, v.length ≤ 8) ∧ (step W s w).1.length ≤ s.1.length + 1 ∧ (step W s w).2.length ≤ s.2.length + 1 := by
      unfold step
      split
      · refine ⟨fun v hv => ?_, ?_, ?_⟩
        · rw [List.mem_singleton.mp hv]; exact hw
        · simp
        · simp
      · refine ⟨fun v hv => ?_, ?_, ?_⟩
        · rcases List.mem_append.mp hv with hv | hv
          · exact h' v hv
          · rw [List.mem_singleton.mp hv]; exact hw
        · simp
        · simp
    obtain ⟨x', ih⟩ := wrap_loop a W ws (step W s w) (.val (.str w)) (fun v hv => h v (List.mem_cons_of_mem _ hv)) hs.1 (by omega) (by omega)
    refine ⟨x', ?_⟩
    show loopF (gVal 4) b_wrap_1 (.str w :: tws ws) _ = _
    simp only [loopF, gVal, List.set_cons_succ, List.set_cons_zero, hb]
    exact ih
def wrapM (W : Int) (ws : List Str) : List (List Str) := let s := ws.foldl (step W) ([], []); if s.2 = [] then s.1 else s.1 ++ [s.2]
theorem step_len (W : Int) : ∀ (ws : List Str) (s : List (List Str) × List Str), (ws.foldl (step W) s).1.length ≤ s.1.length + ws.length
  | [], s => Nat.le_refl _
  | w :: ws, s => by
    have ih := step_len W ws (step W s w)
    have : (step W s w).1.length ≤ s.1.length + 1 := by
      unfold step
      split <;> simp
    simp only [List.foldl_cons, List.length_cons]
    omega
theorem wrap_ev (ws : List Str) (W : Int) (h : ∀ w ∈ ws, w.length ≤ 8) (hl : ws.length ≤ 100) : g_wrap [.tuple (tws ws), .int W] = some (if W < lg ws then .none else .list (tls (wrapM W ws))) := by
  have hlg := longest_ev ws h (by omega)
  show outD (f_wrap [.val (.tuple (tws ws)), .val (.int W), .un, .un, .un]) = _
  by_cases hW : W < lg ws
  · simp [f_wrap, sSeq, sIf, t1, e2, eCall, aCons, aNil, eVar, hlg, gtD, i2, hW, sRet, eC, outD]
  · obtain ⟨x', hloop⟩ := wrap_loop (.tuple (tws ws)) W ws ([], []) .un h (fun w hw => by cases hw) (by simp; omega) (by simp; omega)
    have hsl := step_len W ws ([], [])
    simp only [List.length_nil, Nat.zero_add] at hsl
    simp only [f_wrap, sSeq, sIf, t1, e2, eCall, aCons, aNil, eVar, hlg, gtD, i2, hW, sRet, eC, outD, decide_false, sNil, sOwn, fLst, sSet, eTup, sFor, iSeq, List.getElem?_cons_zero, List.getElem?_cons_succ, List.set_cons_zero, List.set_cons_succ, List.length_nil, Nat.zero_le, if_true, if_false]
    rw [show (Sl.own ([] : List PyData)) = Sl.own (tls (([] : List (List Str)), ([] : List Str)).1) from rfl, show (Sl.val (PyData.tuple [])) = Sl.val (.tuple (tws (([] : List (List Str)), ([] : List Str)).2)) from rfl]
    rw [hloop]
    generalize hS : ws.foldl (step W) ([], []) = S at *
    obtain ⟨lines, line⟩ := S
    simp only [wrapM, hS]
    cases line with
    | nil => simp [tTr, eVar, truD, frz]
    | cons y r =>
      simp only at hsl
      simp [tTr, eVar, truD, frz, sApp, show lines.length < 1000000 by omega]
/-! the law's draws -/
theorem cell_ev (ns : List Int) (k : Nat) : g_Lcell [.list (ns.map .int), .int k] = some (.int (ns.getD k 0)) := by
  show outD (f_Lcell [.val (.list (ns.map .int)), .val (.int k)]) = _
  by_cases h : k < ns.length
  · have e1 : atI (ns.map PyData.int) (k : Int) = some (.int (ns.getD k 0)) := atI_map _ _ _ _ (by simp [List.getD, h])
    simp [f_Lcell, sSeq, sIf, t1, e2, eVar, eCall, aCons, aNil, lenA, ltD, i2, h, sRet, ixG, e1, outD]
  · have e1 : ns.getD k 0 = 0 := by simp [List.getD, List.getElem?_eq_none (Nat.le_of_not_lt h)]
    simp [f_Lcell, sSeq, sIf, t1, e2, eVar, eCall, aCons, aNil, lenA, ltD, i2, h, sRet, ixG, e1, outD, sNil, eC]
theorem pow18 : ∃ z : Int, powD (.int 10) (.int 18) = some (.int z) := by
  refine ⟨10 ^ (18 : Int).toNat, ?_⟩
  show (if CPow 10 18 then some (PyData.int (10 ^ (18 : Int).toNat)) else none) = _
  rw [if_pos ⟨by decide, by decide, by decide⟩]
theorem z1 (c z : Int) (n : Nat) (hp : powD (.int 10) (.int 18) = some (.int z)) : sSet 3 (e2 geD (eVar 0) (e2 powD (eC (.int 10)) (eC (.int 18)))) [.val (.int c), .val (.int n), .own [], .un, .un, .un] = .nx [.val (.int c), .val (.int n), .own [], .val (.bool (decide (z ≤ c))), .un, .un] := sSet_ev (e2_ev rfl (e2_ev rfl rfl hp) (geD_int c z))
theorem z2 (c z : Int) (n : Nat) (hn : n ≤ 1000) : iR1 (aCons (eVar 1) aNil) [.val (.int c), .val (.int n), .own [], .val (.bool (decide (z ≤ c))), .un, .un] = some (rngD 0 n) := by
    have := iR1_ev (fa := aCons (eVar 1) aNil) (env := [.val (.int c), .val (.int n), .own [], .val (.bool (decide (z ≤ c))), .un, .un]) (N := n) rfl (by omega) (by omega)
    rw [Int.toNat_natCast] at this
    exact this
theorem z3 (c z c' : Int) (n : Nat) (hn : n ≤ 1000) (ds : List Int) (x y : Sl) (h1 : loopF (gVal 4) b_Ldraws_1 (rngD 0 n) [.val (.int c), .val (.int n), .own [], .val (.bool (decide (z ≤ c))), .un, .un] = .nx [.val (.int c'), .val (.int n), .own (ds.map PyData.int), .val (.bool (decide (z ≤ c))), x, y])
 (hp : powD (.int 10) (.int 18) = some (.int z)) : f_Ldraws [.val (.int c), .val (.int n), .un, .un, .un, .un] = .rt (.list (ds.map PyData.int)) := by
    have k1 : sOwn 2 (fLst aNil) [.val (.int c), .val (.int n), .un, .un, .un, .un] = .nx [.val (.int c), .val (.int n), .own [], .un, .un, .un] := rfl
    unfold f_Ldraws
    rw [sSeq_nx k1, sSeq_nx (z1 c z n hp), sSeq_nx (sFor_ev (z2 c z n hn) h1)]
    rfl
theorem z4 (c : Int) (n : Nat) (ds : List Int) (this : f_Ldraws [.val (.int c), .val (.int n), .un, .un, .un, .un] = .rt (.list (ds.map PyData.int))) : g_Ldraws [.int c, .int n] = some (.list (ds.map PyData.int)) := gDef_ev (fB := f_Ldraws) rfl this
theorem draws_key (c : Int) (n : Nat) (hn : n ≤ 1000) (wide : Bool) : ∃ (c' : Int) (ds : List Int) (x y : Sl), loopF (gVal 4) b_Ldraws_1 (rngD 0 n) [.val (.int c), .val (.int n), .own [], .val (.bool wide), .un, .un] = .nx [.val (.int c'), .val (.int n), .own (ds.map .int), .val (.bool wide), x, y] ∧ ds.length = n ∧ ∀ d ∈ ds, 0 ≤ d ∧ d < 1000003 := by
  have key : ∃ e', loopF (gVal 4) b_Ldraws_1 (rngD 0 n) [.val (.int c), .val (.int n), .own [], .val (.bool wide), .un, .un] = .nx e' ∧
      (∃ (c' : Int) (ds : List Int) (x y : Sl), e' = [.val (.int c'), .val (.int n), .own (ds.map .int), .val (.bool wide), x, y] ∧ ds.length = n ∧ ∀ d ∈ ds, 0 ≤ d ∧ d < 1000003) := by
    refine loop_rng (fun j e => ∃ (c' : Int) (ds : List Int) (x y : Sl), e = [.val (.int c'), .val (.int n), .own (ds.map .int), .val (.bool wide), x, y] ∧ ds.length = j ∧ ∀ d ∈ ds, 0 ≤ d ∧ d < 1000003) ?_ ⟨c, [], .un, .un, rfl, rfl, fun d h => by cases h⟩
    rintro j e hj ⟨c', ds, x, y, rfl, hd, hb⟩
    obtain ⟨k, hk⟩ : ∃ k : Int, k = 0 + (j : Nat) := ⟨_, rfl⟩
    have hk1 : 0 ≤ k ∧ k < 1000 := by omega
    rw [← hk]
    refine ⟨[.val (.int c'), .val (.int n), .own (ds.map .int), .val (.bool wide), .val (.int k), y], rfl, ?_⟩
    have hl : ds.length < 1000000 := by omega
    cases wide with
    | true =>
      refine ⟨_, .inl (show b_Ldraws_1 _ = .nx [.val (.int (c' / 1009)), .val (.int n), .own ((ds ++ [c' % 1009]).map .int), .val (.bool true), .val (.int k), y] from ?_), c' / 1009, ds ++ [c' % 1009], .val (.int k), y, rfl, by simp [hd], ?_⟩
      · unfold b_Ldraws_1
        rw [sIf_t (by rfl)]
        exact draw_t 1009 c' n ds _ _ y hl (by decide) (by decide)
      · intro d h
        rcases List.mem_append.mp h with h | h
        · exact hb d h
        · rw [List.mem_singleton.mp h]
          have h1 := Int.emod_nonneg c' (show (1009 : Int) ≠ 0 by decide)
          have h2 := Int.emod_lt_of_pos c' (show (0 : Int) < 1009 by decide)
          omega
    | false =>
      obtain ⟨m, hm⟩ : ∃ m : Int, (c' * 48271 + k * 69621) % 2147483647 = m := ⟨_, rfl⟩
      have hm1 : 0 ≤ m := by rw [← hm]; exact Int.emod_nonneg _ (by decide)
      have hm2 : m < 2147483647 := by rw [← hm]; exact Int.emod_lt_of_pos _ (by decide)
      obtain ⟨v, hv⟩ : ∃ v : Int, (m * m + c' * 31 + k) % 1000003 = v := ⟨_, rfl⟩
      have hv1 : 0 ≤ v := by rw [← hv]; exact Int.emod_nonneg _ (by decide)
      have hv2 : v < 1000003 := by rw [← hv]; exact Int.emod_lt_of_pos _ (by decide)
      refine ⟨_, .inl (show b_Ldraws_1 _ = .nx [.val (.int c'), .val (.int n), .own ((ds ++ [v]).map .int), .val (.bool false), .val (.int k), .val (.int m)] from ?_), c', ds ++ [v], .val (.int k), .val (.int m), rfl, by simp [hd], ?_⟩
      · unfold b_Ldraws_1
        rw [sIf_f (by rfl)]
        rw [sSeq_nx (draw_s1 48271 69621 2147483647 c' m k n ds _ y (.inr (by omega)) (.inr (by omega)) (by decide) hm)]
        rw [← hv]
        exact draw_s2 31 1000003 0 c' m k n ds _ hl (.inr (by omega)) (.inl (by omega)) (by decide)
      · intro d h
        rcases List.mem_append.mp h with h | h
        · exact hb d h
        · rw [List.mem_singleton.mp h]
          exact ⟨hv1, hv2⟩
  obtain ⟨e', h1, c', ds, x, y, rfl, h2, h3⟩ := key
  exact ⟨c', ds, x, y, h1, h2, h3⟩
theorem draws_ev (c : Int) (n : Nat) (hn : n ≤ 1000) : ∃ ds : List Int, g_Ldraws [.int c, .int n] = some (.list (ds.map .int)) ∧ ds.length = n ∧ ∀ d ∈ ds, 0 ≤ d ∧ d < 1000003 := by
  obtain ⟨z, hp⟩ := pow18
  obtain ⟨c', ds, x, y, h1, h2, h3⟩ := draws_key c n hn (decide (z ≤ c))
  exact ⟨ds, z4 c n ds (z3 c z c' n hn ds x y h1 hp), h2, h3⟩
/-! the law's words -/
def pool : List Str := ["a", "bb", "ccc", "dddd", "x.", "(y)", "Z9", "eeeeeeee"]
theorem pool_ok : ∀ w ∈ pool, 1 ≤ w.length ∧ w.length ≤ 8 ∧ PyData.strOk w = true := by decide +kernel
theorem pool_at (i : Int) : ∃ w ∈ pool, atI (pool.map PyData.str) (i % 8) = some (.str w) := by
  have h1 := Int.emod_nonneg i (show (8 : Int) ≠ 0 by decide)
  have h2 := Int.emod_lt_of_pos i (show (0 : Int) < 8 by decide)
  have h3 : (i % 8).toNat < pool.length := by
    show (i % 8).toNat < 8
    omega
  refine ⟨pool[(i % 8).toNat], List.getElem_mem h3, ?_⟩
  have := atI_map PyData.str pool (i % 8).toNat _ (List.getElem?_eq_getElem h3)
  rw [Int.toNat_of_nonneg h1] at this
  exact this
theorem compF_pick {g : PyData → En → Option En} {fe : En → Option PyData} {env : En} {lo : Int} {n : Nat} {Q : Str → Prop} (h : ∀ j : Nat, j < n → ∃ e1 w, g (.int (lo + (j : Nat))) env = some e1 ∧ fe e1 = some (.str w) ∧ Q w) :
    ∃ ws : List Str, compF g tYes' fe env (rngD lo n) = some (ws.map .str) ∧ ws.length = n ∧ ∀ w ∈ ws, Q w := by
  have aux : ∀ (ks : List Nat), (∀ j ∈ ks, j < n) → ∃ ws : List Str, compF g tYes' fe env (ks.map fun k => .int (lo + (k : Nat))) = some (ws.map .str) ∧ ws.length = ks.length ∧ ∀ w ∈ ws, Q w := by
    intro ks
    induction ks with
    | nil => exact fun _ => ⟨[], rfl, rfl, fun w h => by cases h⟩
    | cons k ks ih =>
      intro hk
      obtain ⟨ws, h1, h2, h3⟩ := ih fun j hj => hk j (List.mem_cons_of_mem _ hj)
      obtain ⟨e1, w, q1, q2, q3⟩ := h k (hk k List.mem_cons_self)
      refine ⟨w :: ws, ?_, by simp [h2], fun v hv => ?_⟩
      · simp only [List.map_cons, compF, q1, tYes', q2]
        rw [h1]
      · rcases List.mem_cons.mp hv with e | hv
        · rw [e]; exact q3
        · exact h3 v hv
  obtain ⟨ws, h1, h2, h3⟩ := aux (List.range n) fun j hj => List.mem_range.mp hj
  exact ⟨ws, h1, by rw [h2, List.length_range], h3⟩
theorem words_ev (c : Int) : ∃ ws : List Str, g_Lwords [.int c] = some (.tuple (ws.map .str)) ∧ ws.length ≤ 4 ∧ ∀ w ∈ ws, w ∈ pool := by
  obtain ⟨ds, hd, hl, hb⟩ := draws_ev c 5 (by decide)
  have h0 : ∃ d0, ds[0]? = some d0 := ⟨ds[0], List.getElem?_eq_getElem (by omega)⟩
  obtain ⟨d0, hd0⟩ := h0
  have a0 : atI (ds.map PyData.int) 0 = some (.int d0) := atI_map _ _ 0 _ hd0
  have m1 := Int.emod_nonneg d0 (show (5 : Int) ≠ 0 by decide)
  have m2 := Int.emod_lt_of_pos d0 (show (0 : Int) < 5 by decide)
  obtain ⟨ws, h1, h2, h3⟩ := compF_pick (g := gVal 3) (fe := c_Lwords_1) (env := [.val (.int c), .val (.list (ds.map .int)), .val (.list (pool.map .str)), .un]) (lo := 0) (n := (d0 % 5).toNat) (Q := fun w => w ∈ pool) fun j hj => by
    have hj1 : 1 + j < ds.length := by omega
    have aj : atI (ds.map PyData.int) (1 + (0 + (j : Nat))) = some (.int ds[1 + j]) := by
      have := atI_map PyData.int ds (1 + j) _ (List.getElem?_eq_getElem hj1)
      rw [show ((1 + j : Nat) : Int) = 1 + (0 + (j : Nat)) by omega] at this
      exact this
    obtain ⟨w, hw, hp⟩ := pool_at ds[1 + j]
    refine ⟨[.val (.int c), .val (.list (ds.map .int)), .val (.list (pool.map .str)), .val (.int (0 + (j : Nat)))], w, rfl, ?_, hw⟩
    simp only [c_Lwords_1, e2, eVar, eCall, aCons, aNil, eC, addD, ixG, intA, modD, i2, List.getElem?_cons_zero, List.getElem?_cons_succ, aj, if_true, hp, show (0 : Int) < 8 from by decide]
  refine ⟨ws, ?_, by rw [h2]; omega, h3⟩
  have hp : fLst (aCons (eC (.str "a")) (aCons (eC (.str "bb")) (aCons (eC (.str "ccc")) (aCons (eC (.str "dddd")) (aCons (eC (.str "x.")) (aCons (eC (.str "(y)")) (aCons (eC (.str "Z9")) (aCons (eC (.str "eeeeeeee")) aNil)))))))) [.val (.int c), .val (.list (ds.map .int)), .un, .un] = some (pool.map .str) := rfl
  have hr : iR1 (aCons (e2 modD (eCall intA (aCons (e2 ixG (eVar 1) (eC (.int 0))) aNil)) (eC (.int 5))) aNil) [.val (.int c), .val (.list (ds.map .int)), .val (.list (pool.map .str)), .un] = some (rngD 0 (d0 % 5).toNat) := by
    simp only [iR1, aCons, aNil, e2, eCall, eVar, eC, ixG, List.getElem?_cons_zero, List.getElem?_cons_succ, a0, intA, modD, i2, show (0 : Int) < 5 from by decide, if_true]
    rw [if_pos (by omega)]
  have hc : eCall g_Ldraws (aCons (eVar 0) (aCons (eC (.int 5)) aNil)) [.val (.int c), .un, .un, .un] = some (.list (ds.map .int)) := hd
  have : f_Lwords [.val (.int c), .un, .un, .un] = .rt (.tuple (ws.map .str)) := by
    unfold f_Lwords
    rw [sSeq_nx (e := [.val (.int c), .val (.list (ds.map .int)), .un, .un]) (by unfold sSet; rw [hc]; rfl)]
    rw [sSeq_nx (e := [.val (.int c), .val (.list (ds.map .int)), .val (.list (pool.map .str)), .un]) (by unfold sSet eL; rw [hp]; rfl)]
    have hz : fCmp [3] (iR1 (aCons (e2 modD (eCall intA (aCons (e2 ixG (eVar 1) (eC (.int 0))) aNil)) (eC (.int 5))) aNil)) (gVal 3) tYes' c_Lwords_1 [.val (.int c), .val (.list (ds.map .int)), .val (.list (pool.map .str)), .un] = some (ws.map .str) := by
      unfold fCmp
      rw [hr]
      show (match compF (gVal 3) tYes' c_Lwords_1 [.val (.int c), .val (.list (ds.map .int)), .val (.list (pool.map .str)), .un] (rngD 0 (d0 % 5).toNat) with | none => none | some vs => if vs.length ≤ 1000000 then some vs else none) = _
      rw [h1]
      show (if (ws.map PyData.str).length ≤ 1000000 then some (ws.map PyData.str) else none) = _
      rw [if_pos (by rw [List.length_map]; omega)]
    have hy : eCall tupA (aCons (eL (fCmp [3] (iR1 (aCons (e2 modD (eCall intA (aCons (e2 ixG (eVar 1) (eC (.int 0))) aNil)) (eC (.int 5))) aNil)) (gVal 3) tYes' c_Lwords_1)) aNil) [.val (.int c), .val (.list (ds.map .int)), .val (.list (pool.map .str)), .un] = some (.tuple (ws.map .str)) := by
      simp only [eCall, aCons, aNil, eL] at hz ⊢
      rw [hz]
      rfl
    unfold sRet
    rw [hy]
  exact gDef_ev (fB := f_Lwords) rfl this
/-! the mathematics -/
def hdl : List Str → Int
  | [] => 0
  | w :: _ => w.length
def Good (W : Int) : List (List Str) → Prop
  | [] => True
  | [l] => l ≠ [] ∧ (jl l : Int) ≤ W
  | l :: m :: r => (l ≠ [] ∧ (jl l : Int) ≤ W) ∧ W < (jl l : Int) + 1 + hdl m ∧ Good W (m :: r)
theorem good_new {W : Int} {l : List Str} {w : Str} (h1 : W < (jl l : Int) + 1 + w.length) (h2 : (w.length : Int) ≤ W) : ∀ {L : List (List Str)}, Good W (L ++ [l]) → Good W (L ++ [l] ++ [[w]])
  | [], h => ⟨h, h1, by simp, by rw [jl_one]; exact h2⟩
  | [x], h => by
    obtain ⟨a, b, c⟩ := h
    exact ⟨a, b, c, h1, by simp, by rw [jl_one]; exact h2⟩
  | x :: y :: r, h => by
    obtain ⟨a, b, c⟩ := h
    exact ⟨a, b, good_new (L := y :: r) h1 h2 c⟩
theorem hdl_app {l : List Str} {w : Str} (h : l ≠ []) : hdl (l ++ [w]) = hdl l := by
  cases l with
  | nil => exact absurd rfl h
  | cons x r => rfl
theorem good_more {W : Int} {l : List Str} {w : Str} (h0 : l ≠ []) (h1 : (jl (l ++ [w]) : Int) ≤ W) : ∀ {L : List (List Str)}, Good W (L ++ [l]) → Good W (L ++ [l ++ [w]])
  | [], h => ⟨by simp, h1⟩
  | [x], h => by
    obtain ⟨a, b, c⟩ := h
    exact ⟨a, by rw [hdl_app h0]; exact b, by simp, h1⟩
  | x :: y :: r, h => by
    obtain ⟨a, b, c⟩ := h
    exact ⟨a, b, good_more (L := y :: r) h0 h1 c⟩
/-- the lines so far -/
def cur (s : List (List Str) × List Str) : List (List Str) := if s.2 = [] then s.1 else s.1 ++ [s.2]
theorem step_good {W : Int} {s : List (List Str) × List Str} {w : Str} (hw : (w.length : Int) ≤ W) (h0 : s.2 = [] → s.1 = []) (h : Good W (cur s)) : Good W (cur (step W s w)) ∧ (step W s w).2 ≠ [] ∧ (cur (step W s w)).flatten = (cur s).flatten ++ [w] := by
  obtain ⟨lines, line⟩ := s
  cases line with
  | nil =>
    have e := h0 rfl
    simp only at e
    subst e
    have e1 : step W ([], []) w = ([], [w]) := by simp [step]
    rw [e1]
    refine ⟨?_, by simp, by simp [cur]⟩
    show Good W (cur ([], [w]))
    simp only [cur]
    rw [if_neg (by simp)]
    exact ⟨by simp, by rw [jl_one]; exact hw⟩
  | cons x r =>
    have hc : cur (lines, x :: r) = lines ++ [x :: r] := by simp [cur]
    rw [hc] at h ⊢
    by_cases hq : W < (jl (x :: r) : Int) + 1 + w.length
    · have e1 : step W (lines, x :: r) w = (lines ++ [x :: r], [w]) := by simp [step, hq]
      rw [e1]
      have hc2 : cur (lines ++ [x :: r], [w]) = lines ++ [x :: r] ++ [[w]] := by simp [cur]
      rw [hc2]
      exact ⟨good_new hq hw h, by simp, by simp⟩
    · have e1 : step W (lines, x :: r) w = (lines, x :: r ++ [w]) := by simp [step, hq]
      rw [e1]
      have hc2 : cur (lines, x :: r ++ [w]) = lines ++ [x :: r ++ [w]] := by simp [cur]
      rw [hc2]
      refine ⟨good_more (by simp) ?_ h, by simp, by simp⟩
      rw [jl_snoc _ _ (by simp)]
      omega
theorem fold_good {W : Int} : ∀ (ws : List Str) (s : List (List Str) × List Str), (∀ w ∈ ws, (w.length : Int) ≤ W) → (s.2 = [] → s.1 = []) → Good W (cur s) → Good W (cur (ws.foldl (step W) s)) ∧ (cur (ws.foldl (step W) s)).flatten = (cur s).flatten ++ ws
  | [], s, _, _, h => ⟨h, by simp⟩
  | w :: ws, s, hw, h0, h => by
    obtain ⟨h1, h2, h3⟩ := step_good (hw w List.mem_cons_self) h0 h
    obtain ⟨h4, h5⟩ := fold_good ws (step W s w) (fun v hv => hw v (List.mem_cons_of_mem _ hv)) (fun e => absurd e h2) h1
    exact ⟨h4, by rw [List.foldl_cons, h5, h3]; simp⟩
theorem wrapM_good {W : Int} {ws : List Str} (hw : ∀ w ∈ ws, (w.length : Int) ≤ W) : Good W (wrapM W ws) ∧ (wrapM W ws).flatten = ws := by
  have h := fold_good ws ([], []) hw (fun _ => rfl) trivial
  have e : wrapM W ws = cur (ws.foldl (step W) ([], [])) := rfl
  rw [e]
  exact ⟨h.1, by rw [h.2]; simp [cur]⟩
theorem good_at {W : Int} : ∀ {L : List (List Str)} {k : Nat} {l : List Str}, Good W L → L[k]? = some l → (l ≠ [] ∧ (jl l : Int) ≤ W) ∧ ∀ m, L[k + 1]? = some m → W < (jl l : Int) + 1 + hdl m
  | [], _, _, _, e => by simp at e
  | [x], 0, l, h, e => by
    simp at e
    subst e
    exact ⟨h, fun m hm => by simp at hm⟩
  | [x], k + 1, l, h, e => by simp at e
  | x :: y :: r, 0, l, h, e => by
    simp at e
    subst e
    obtain ⟨a, b, c⟩ := h
    refine ⟨a, fun m hm => ?_⟩
    simp at hm
    subst hm
    exact b
  | x :: y :: r, k + 1, l, h, e => by
    obtain ⟨a, b, c⟩ := h
    exact good_at (L := y :: r) c (by simpa using e)
theorem mem_line {L : List (List Str)} {ws : List Str} (h : L.flatten = ws) {l : List Str} (hl : l ∈ L) : ∀ w ∈ l, w ∈ ws := fun w hw => by
  rw [← h]
  exact List.mem_flatten.mpr ⟨l, hl, hw⟩
theorem sub_len : ∀ {L : List (List Str)} {l : List Str}, l ∈ L → l.length ≤ L.flatten.length
  | [], _, h => by cases h
  | x :: r, l, h => by
    rw [List.flatten_cons, List.length_append]
    rcases List.mem_cons.mp h with h | h
    · rw [h]; omega
    · have := sub_len h
      omega
theorem lg_spec (ws : List Str) : (∀ w ∈ ws, (w.length : Int) ≤ lg ws) ∧ 0 ≤ lg ws := by
  cases ws with
  | nil => exact ⟨fun w h => (by cases h), Int.le_refl _⟩
  | cons x r =>
    obtain ⟨h1, h2⟩ := mxI_spec (r.map fun w => (w.length : Int)) x.length
    have e : lg (x :: r) = mxI x.length (r.map fun w => (w.length : Int)) := rfl
    rw [e]
    refine ⟨fun w hw => ?_, ?_⟩
    · refine h2 _ ?_
      rcases List.mem_cons.mp hw with h | h
      · rw [h]; exact List.mem_cons_self
      · exact List.mem_cons_of_mem _ (List.mem_map.mpr ⟨w, h, rfl⟩)
    · have := h2 x.length List.mem_cons_self
      omega
theorem count_ev (ws : List Str) (W : Int) (h : ∀ w ∈ ws, w.length ≤ 8) (hl : ws.length ≤ 100) : g_line_count [.tuple (tws ws), .int W] = some (if W < lg ws then .none else .int (wrapM W ws).length) := by
  have hw := wrap_ev ws W h hl
  have hc : ∀ d, g_wrap [.tuple (tws ws), .int W] = some d → sSet 2 (eCall g_wrap (aCons (eVar 0) (aCons (eVar 1) aNil))) [.val (.tuple (tws ws)), .val (.int W), .un] = .nx [.val (.tuple (tws ws)), .val (.int W), .val d] := fun d h => sSet_ev (eCall_ev (aCons_ev rfl (aCons_ev rfl aNil_ev)) h)
  by_cases c : W < lg ws
  · rw [if_pos c] at hw ⊢
    refine gDef_ev (fB := f_line_count) rfl (show f_line_count [.val (.tuple (tws ws)), .val (.int W), .un] = _ from ?_)
    unfold f_line_count
    rw [sSeq_nx (hc _ hw)]
    rfl
  · rw [if_neg c] at hw ⊢
    refine gDef_ev (fB := f_line_count) rfl (show f_line_count [.val (.tuple (tws ws)), .val (.int W), .un] = _ from ?_)
    unfold f_line_count
    rw [sSeq_nx (hc _ hw)]
    refine (sSeq_nx (e := [.val (.tuple (tws ws)), .val (.int W), .val (.list (tls (wrapM W ws)))]) (by rfl)).trans ?_
    refine sRet_ev (eCall_ev (aCons_ev rfl aNil_ev) ?_)
    show some (PyData.int (tls (wrapM W ws)).length) = _
    rw [List.length_map]
/-! divisions -/
def jn (l : List Str) : Str := Txt.join (" " : Str) l
theorem sapp_assoc (a b c : Str) : a ++ b ++ c = a ++ (b ++ c) := by
  show (⟨(a.cps ++ b.cps) ++ c.cps⟩ : Str) = ⟨a.cps ++ (b.cps ++ c.cps)⟩
  rw [Array.append_assoc]
theorem jn_one (w : Str) : jn [w] = w := by
  unfold jn
  rw [TL.join_eq]
  rfl
theorem jn_cons (w y : Str) (r : List Str) : jn (w :: y :: r) = w ++ (" " : Str) ++ jn (y :: r) := by
  unfold jn
  rw [TL.join_eq, TL.join_eq]
  rfl
theorem jn_snoc : ∀ (l : List Str) (w : Str), l ≠ [] → jn (l ++ [w]) = jn l ++ (" " : Str) ++ w
  | [], _, h => absurd rfl h
  | [x], w, _ => by
    show jn (x :: w :: []) = _
    rw [jn_cons, jn_one, jn_one]
  | x :: y :: r, w, _ => by
    show jn (x :: y :: (r ++ [w])) = _
    have ih := jn_snoc (y :: r) w (by simp)
    rw [jn_cons, jn_cons]
    rw [show jn (y :: (r ++ [w])) = jn (y :: r) ++ (" " : Str) ++ w from ih]
    rw [sapp_assoc, sapp_assoc, sapp_assoc, sapp_assoc, sapp_assoc]
abbrev Row := List (List Str)
abbrev tr (r : Row) : PyData := .list (r.map fun l => .str (jn l))
/-- a row, with one more word at its end -/
def ext (w : Str) (r : Row) : List Row := match r.getLast? with
  | none => [[[w]]]
  | some l => [r.dropLast ++ [l ++ [w]], r ++ [[w]]]
def dvs (ws : List Str) : List Row := ws.foldl (fun rs w => rs.flatMap (ext w)) [[]]
theorem ext_nil (w : Str) : ext w [] = [[[w]]] := rfl
theorem ext_snoc (w : Str) (r : Row) (l : List Str) : ext w (r ++ [l]) = [r ++ [l ++ [w]], r ++ [l] ++ [[w]]] := by
  unfold ext
  rw [List.getLast?_append, List.dropLast_concat]
  rfl
theorem dvs_nil : dvs [] = [[]] := rfl
theorem dvs_snoc (ws : List Str) (w : Str) : dvs (ws ++ [w]) = (dvs ws).flatMap (ext w) := by
  unfold dvs
  rw [List.foldl_append]
  rfl
theorem row_cases (r : Row) : r = [] ∨ ∃ r' l, r = r' ++ [l] := by
  rcases List.eq_nil_or_concat r with h | ⟨r', l, h⟩
  · exact .inl h
  · exact .inr ⟨r', l, by rw [h, List.concat_eq_append]⟩
theorem cut_last (xs : List PyData) (x : PyData) : cutL (xs ++ [x]) none (some (-1)) = xs := by
  unfold cutL
  rw [HT.sIx_none, show HT.sIx (xs ++ [x]).length (xs ++ [x]).length (some (-1)) = xs.length by
    show (if (-1 : Int) < 0 then ((-1 : Int) + ((xs ++ [x]).length : Nat)).toNat else min ((-1 : Int)).toNat (xs ++ [x]).length) = _
    rw [if_pos (by decide), List.length_append, List.length_singleton]
    omega]
  simp
theorem div_body (a b : PyData) (w : Str) (acc : List PyData) (r : Row) (hr : ∀ l ∈ r, l ≠ []) (hj : ∀ l ∈ r, jl l ≤ 1000) (hw : w.length ≤ 8) (h1 : acc.length < 1000) (h2 : r.length < 1000) :
    b_Ldivisions_1 [.val a, .val b, .val (.str w), .own acc, .val (tr r)] = .nx [.val a, .val b, .val (.str w), .own (acc ++ (ext w r).map tr), .val (tr r)] := by
  unfold b_Ldivisions_1
  rcases row_cases r with rfl | ⟨r', l, rfl⟩
  · refine (sSeq_nx (e := [.val a, .val b, .val (.str w), .own acc, .val (tr [])]) (by rfl)).trans ?_
    refine (sApp_ev (d := .list [.str w]) (ds := acc) (by rfl) rfl (by omega)).trans ?_
    rw [ext_nil]
    show Out.nx [.val a, .val b, .val (.str w), .own (acc ++ [.list [.str w]]), .val (tr [])] = .nx [.val a, .val b, .val (.str w), .own (acc ++ [.list [.str (jn [w])]]), .val (tr [])]
    rw [jn_one]
  · have hl : l ≠ [] := hr l (by simp)
    have hjl : (jn l).length ≤ 1000 := hj l (by simp)
    rw [ext_snoc]
    obtain ⟨X, hX⟩ : ∃ X : List PyData, X = r'.map fun l => .str (jn l) := ⟨_, rfl⟩
    have hXl : X.length < 1000 := by rw [hX, List.length_map]; simp at h2; omega
    have q0 : tr (r' ++ [l]) = .list (X ++ [.str (jn l)]) := by rw [hX]; simp [tr]
    have q1 : tr (r' ++ [l ++ [w]]) = .list (X ++ [.str (jn l ++ (" " : Str) ++ w)]) := by rw [hX, ← jn_snoc l w hl]; simp [tr]
    have q2 : tr (r' ++ [l] ++ [[w]]) = .list (X ++ [.str (jn l)] ++ [.str w]) := by rw [hX]; simp [tr, jn_one]
    rw [q0]
    simp only [List.map_cons, List.map_nil]
    rw [q1, q2]
    have sp : (jn l ++ (" " : Str)).length = (jn l).length + 1 := by rw [len_app, spc_len]
    have k0 : e2 ixG (eVar 4) (e1 negD (eC (.int 1))) [.val a, .val b, .val (.str w), .own acc, .val (.list (X ++ [.str (jn l)]))] = some (.str (jn l)) := e2_ev rfl rfl (atI_last _ _)
    have k1 : e2 addD (e2 addD (e2 ixG (eVar 4) (e1 negD (eC (.int 1)))) (eC (.str " "))) (eVar 2) [.val a, .val b, .val (.str w), .own acc, .val (.list (X ++ [.str (jn l)]))] = some (.str (jn l ++ (" " : Str) ++ w)) :=
      e2_ev (e2_ev k0 rfl (addD_str (by rw [spc_len]; omega))) rfl (addD_str (by rw [sp]; omega))
    have k2 : eSl (eVar 4) oNone (oSome (e1 negD (eC (.int 1)))) [.val a, .val b, .val (.str w), .own acc, .val (.list (X ++ [.str (jn l)]))] = some (.list X) := by
      show some (PyData.list (cutL (X ++ [.str (jn l)]) none (some (-1)))) = _
      rw [cut_last]
    have k3 : fCat (eSl (eVar 4) oNone (oSome (e1 negD (eC (.int 1))))) (eL (fLst (aCons (e2 addD (e2 addD (e2 ixG (eVar 4) (e1 negD (eC (.int 1)))) (eC (.str " "))) (eVar 2)) aNil))) [.val a, .val b, .val (.str w), .own acc, .val (.list (X ++ [.str (jn l)]))] = some (X ++ [.str (jn l ++ (" " : Str) ++ w)]) := by
      unfold fCat
      rw [k2, eL_ev (fLst_ev (aCons_ev k1 aNil_ev) (by simp))]
      exact if_pos (by simp; omega)
    refine (sSeq_nx (e := [.val a, .val b, .val (.str w), .own (acc ++ [.list (X ++ [.str (jn l ++ (" " : Str) ++ w)])]), .val (.list (X ++ [.str (jn l)]))]) ?_).trans ?_
    · refine (sIf_t (t1_ev (e2_ev (eCall_ev (aCons_ev rfl aNil_ev) rfl) rfl ((gtD_int _ _).trans (by rw [decide_eq_true (by simp)]))))).trans ?_
      exact sApp_ev (eL_ev k3) rfl (by omega)
    · refine (sApp_ev (d := .list (X ++ [.str (jn l)] ++ [.str w])) (ds := acc ++ [.list (X ++ [.str (jn l ++ (" " : Str) ++ w)])]) ?_ rfl (by simp; omega)).trans ?_
      · refine eL_ev ?_
        unfold fCat
        show (match some (PyData.list (X ++ [.str (jn l)])) with | some (.list xs) => (match some (PyData.list [.str w]) with | some (.list ys) => if xs.length + ys.length ≤ 1000000 then some (xs ++ ys) else none | _ => none) | _ => none) = _
        exact if_pos (by simp; omega)
      · show Out.nx [.val a, .val b, .val (.str w), .own (acc ++ [.list (X ++ [.str (jn l ++ (" " : Str) ++ w)])] ++ [.list (X ++ [.str (jn l)] ++ [.str w])]), .val (.list (X ++ [.str (jn l)]))] = _
        rw [List.append_assoc]
        rfl
theorem div_inner (a b : PyData) (w : Str) (hw : w.length ≤ 8) : ∀ (rs : List Row) (acc : List PyData) (x : Sl), (∀ r ∈ rs, (∀ l ∈ r, l ≠ [] ∧ jl l ≤ 1000) ∧ r.length < 1000) → acc.length + 2 * rs.length < 1000 →
    ∃ x', loopF (gVal 4) b_Ldivisions_1 (rs.map tr) [.val a, .val b, .val (.str w), .own acc, x] = .nx [.val a, .val b, .val (.str w), .own (acc ++ (rs.flatMap (ext w)).map tr), x']
  | [], acc, x, _, _ => ⟨x, by simp [loopF]⟩
  | r :: rs, acc, x, h, hl => by
    obtain ⟨h1, h2⟩ := h r List.mem_cons_self
    simp only [List.length_cons] at hl
    have hb := div_body a b w acc r (fun l hl => (h1 l hl).1) (fun l hl => (h1 l hl).2) hw (by omega) h2
    have he : ((ext w r).map tr).length ≤ 2 := by
      rw [List.length_map]
      unfold ext
      split <;> simp
    obtain ⟨x', ih⟩ := div_inner a b w hw rs (acc ++ (ext w r).map tr) (.val (tr r)) (fun q hq => h q (List.mem_cons_of_mem _ hq)) (by rw [List.length_append]; omega)
    refine ⟨x', ?_⟩
    show loopF (gVal 4) b_Ldivisions_1 (tr r :: rs.map tr) _ = _
    simp only [loopF, gVal, List.set_cons_succ, List.set_cons_zero]
    rw [hb]
    simp only []
    rw [ih]
    simp
theorem ext_mem {w : Str} {r q : Row} (h : q ∈ ext w r) : (r = [] ∧ q = [[w]]) ∨ ∃ r' l, r = r' ++ [l] ∧ (q = r' ++ [l ++ [w]] ∨ q = r' ++ [l] ++ [[w]]) := by
  rcases row_cases r with rfl | ⟨r', l, rfl⟩
  · rw [ext_nil] at h
    exact .inl ⟨rfl, List.mem_singleton.mp h⟩
  · rw [ext_snoc] at h
    simp only [List.mem_cons, List.not_mem_nil, or_false] at h
    exact .inr ⟨r', l, rfl, h⟩
/-- what each division is -/
theorem dvs_facts : ∀ (n : Nat) (ws : List Str), ws.length = n → (∀ w ∈ ws, w.length ≤ 8) → n ≤ 4 → (dvs ws).length ≤ 2 ^ n ∧ ∀ r ∈ dvs ws, r.flatten = ws ∧ ∀ l ∈ r, l ≠ []
  | 0, ws, h, _, _ => by
    have e : ws = [] := List.eq_nil_of_length_eq_zero h
    subst e
    refine ⟨by simp [dvs_nil], fun r hr => ?_⟩
    rw [dvs_nil, List.mem_singleton] at hr
    subst hr
    exact ⟨rfl, fun l hl => by cases hl⟩
  | n + 1, ws, h, h8, hn => by
    rcases List.eq_nil_or_concat ws with e | ⟨us, w, e⟩
    · subst e; cases h
    · rw [List.concat_eq_append] at e
      subst e
      have hu : us.length = n := by simp at h; exact h
      obtain ⟨h1, h2⟩ := dvs_facts n us hu (fun v hv => h8 v (List.mem_append_left _ hv)) (by omega)
      rw [dvs_snoc]
      refine ⟨?_, fun q hq => ?_⟩
      · have : ∀ rs : List Row, (rs.flatMap (ext w)).length ≤ 2 * rs.length := by
          intro rs
          induction rs with
          | nil => simp
          | cons r rs ih =>
            have he : (ext w r).length ≤ 2 := by
              unfold ext
              split <;> simp
            rw [List.flatMap_cons, List.length_append, List.length_cons]
            omega
        have := this (dvs us)
        rw [Nat.pow_succ]
        omega
      · obtain ⟨r, hr, hqr⟩ := List.mem_flatMap.mp hq
        obtain ⟨f1, f2⟩ := h2 r hr
        rcases ext_mem hqr with ⟨rfl, rfl⟩ | ⟨r', l, rfl, rfl | rfl⟩
        · rw [← f1]
          exact ⟨by simp, fun l hl => by rw [List.mem_singleton.mp hl]; simp⟩
        · rw [← f1]
          refine ⟨by simp, fun m hm => ?_⟩
          rcases List.mem_append.mp hm with hm | hm
          · exact f2 m (List.mem_append_left _ hm)
          · rw [List.mem_singleton.mp hm]; simp
        · rw [← f1]
          refine ⟨by simp, fun m hm => ?_⟩
          rcases List.mem_append.mp hm with hm | hm
          · exact f2 m hm
          · rw [List.mem_singleton.mp hm]; simp
theorem row_len {r : Row} (h : ∀ l ∈ r, l ≠ []) : r.length ≤ r.flatten.length := by
  induction r with
  | nil => simp
  | cons l r ih =>
    have h1 := h l List.mem_cons_self
    have h2 := ih fun m hm => h m (List.mem_cons_of_mem _ hm)
    rw [List.flatten_cons, List.length_append, List.length_cons]
    have : 0 < l.length := List.length_pos_iff.mpr h1
    omega
theorem divs_loop (a : PyData) : ∀ (us : List Str) (rs : List Row) (pre : List Str) (x2 x3 x4 : Sl), rs = dvs pre → (∀ w ∈ pre ++ us, w.length ≤ 8) → (pre ++ us).length ≤ 4 →
    ∃ y2 y3 y4, loopF (gVal 2) b_Ldivisions_2 (tws us) [.val a, .val (.list (rs.map tr)), x2, x3, x4] = .nx [.val a, .val (.list ((dvs (pre ++ us)).map tr)), y2, y3, y4]
  | [], rs, pre, x2, x3, x4, h, _, _ => ⟨x2, x3, x4, by rw [h, List.append_nil]; rfl⟩
  | w :: us, rs, pre, x2, x3, x4, h, h8, hl => by
    have hlen : pre.length ≤ 4 := by simp at hl; omega
    obtain ⟨f1, f2⟩ := dvs_facts pre.length pre rfl (fun v hv => h8 v (List.mem_append_left _ hv)) hlen
    have hrs : rs.length ≤ 16 := by
      rw [h]
      exact Nat.le_trans f1 (Nat.le_trans (Nat.pow_le_pow_right (by decide) hlen) (by decide))
    have hrow : ∀ r ∈ rs, (∀ l ∈ r, l ≠ [] ∧ jl l ≤ 1000) ∧ r.length < 1000 := by
      intro r hr
      rw [h] at hr
      obtain ⟨g1, g2⟩ := f2 r hr
      refine ⟨fun l hl => ⟨g2 l hl, ?_⟩, ?_⟩
      · have m1 := jl_le l fun v hv => h8 v (List.mem_append_left _ (mem_line g1 hl v hv))
        have m2 := sub_len hl
        rw [g1] at m2
        omega
      · have := row_len g2
        rw [g1] at this
        omega
    obtain ⟨x', hin⟩ := div_inner a (.list (rs.map tr)) w (h8 w (by simp)) rs [] x4 hrow (by simp; omega)
    have hbody : b_Ldivisions_2 [.val a, .val (.list (rs.map tr)), .val (.str w), x3, x4] = .nx [.val a, .val (.list ((rs.flatMap (ext w)).map tr)), .val (.str w), .val (.list ((rs.flatMap (ext w)).map tr)), x'] := by
      unfold b_Ldivisions_2
      refine (sSeq_nx (e := [.val a, .val (.list (rs.map tr)), .val (.str w), .own [], x4]) (by rfl)).trans ?_
      refine (sSeq_nx (e := [.val a, .val (.list (rs.map tr)), .val (.str w), .own ((rs.flatMap (ext w)).map tr), x']) (sFor_ev (ds := rs.map tr) (by rfl) (by simpa using hin))).trans ?_
      rfl
    obtain ⟨y2, y3, y4, ih⟩ := divs_loop a us (rs.flatMap (ext w)) (pre ++ [w]) (.val (.str w)) (.val (.list ((rs.flatMap (ext w)).map tr))) x' (by rw [h, dvs_snoc]) (by simpa using h8) (by simpa using hl)
    refine ⟨y2, y3, y4, ?_⟩
    show loopF (gVal 2) b_Ldivisions_2 (.str w :: tws us) _ = _
    simp only [loopF, gVal, List.set_cons_succ, List.set_cons_zero]
    rw [hbody]
    simp only []
    rw [ih]
    simp
theorem divisions_ev (ws : List Str) (h8 : ∀ w ∈ ws, w.length ≤ 8) (hl : ws.length ≤ 4) : g_Ldivisions [.tuple (tws ws)] = some (.list ((dvs ws).map tr)) := by
  refine gDef_ev (fB := f_Ldivisions) rfl (show f_Ldivisions [.val (.tuple (tws ws)), .un, .un, .un, .un] = _ from ?_)
  unfold f_Ldivisions
  refine (sSeq_nx (e := [.val (.tuple (tws ws)), .val (.list ([[]].map tr)), .un, .un, .un]) (by rfl)).trans ?_
  obtain ⟨x2, x3, x4, h⟩ := divs_loop (.tuple (tws ws)) ws [[]] [] .un .un .un rfl (by simpa using h8) (by simpa using hl)
  refine (sSeq_nx (sFor_ev (fa := iSeq (eVar 0)) (ds := tws ws) rfl h)).trans ?_
  rfl
/-! the greedy one has the fewest lines -/
def lastJ (r : Row) : Nat := match r.getLast? with
  | none => 0
  | some l => jl l
theorem lastJ_snoc (r : Row) (l : List Str) : lastJ (r ++ [l]) = jl l := by
  unfold lastJ
  rw [List.getLast?_append]
  rfl
def Fits (W : Int) (r : Row) : Prop := ∀ l ∈ r, (jl l : Int) ≤ W
/-- fewer lines, or as many with a shorter last one -/
def Les (c r : Row) : Prop := c.length < r.length ∨ (c.length = r.length ∧ lastJ c ≤ lastJ r)
theorem cur_step (W : Int) (s : List (List Str) × List Str) (w : Str) (h0 : s.2 = [] → s.1 = []) : cur (step W s w) ∈ ext w (cur s) ∧ (step W s w).2 ≠ [] ∧
    ((cur s = [] ∧ cur (step W s w) = [[w]]) ∨ ∃ r' l, cur s = r' ++ [l] ∧ ((W < (jl l : Int) + 1 + w.length ∧ cur (step W s w) = r' ++ [l] ++ [[w]]) ∨ (¬ W < (jl l : Int) + 1 + w.length ∧ cur (step W s w) = r' ++ [l ++ [w]]))) := by
  obtain ⟨lines, line⟩ := s
  cases line with
  | nil =>
    have e := h0 rfl
    simp only at e
    subst e
    have e1 : step W ([], []) w = ([], [w]) := by simp [step]
    rw [e1]
    have c1 : cur (([] : List (List Str)), ([] : List Str)) = [] := by simp [cur]
    have c2 : cur (([] : List (List Str)), [w]) = [[w]] := by simp [cur]
    rw [c1, c2]
    exact ⟨by rw [ext_nil]; simp, by simp, .inl ⟨rfl, rfl⟩⟩
  | cons x r =>
    have hc : cur (lines, x :: r) = lines ++ [x :: r] := by simp [cur]
    rw [hc]
    by_cases hq : W < (jl (x :: r) : Int) + 1 + w.length
    · have e1 : step W (lines, x :: r) w = (lines ++ [x :: r], [w]) := by simp [step, hq]
      rw [e1]
      have hc2 : cur (lines ++ [x :: r], [w]) = lines ++ [x :: r] ++ [[w]] := by simp [cur]
      rw [hc2]
      exact ⟨by rw [ext_snoc]; simp, by simp, .inr ⟨lines, x :: r, rfl, .inl ⟨hq, rfl⟩⟩⟩
    · have e1 : step W (lines, x :: r) w = (lines, x :: r ++ [w]) := by simp [step, hq]
      rw [e1]
      have hc2 : cur (lines, x :: r ++ [w]) = lines ++ [x :: r ++ [w]] := by simp [cur]
      rw [hc2]
      exact ⟨by rw [ext_snoc]; simp, by simp, .inr ⟨lines, x :: r, rfl, .inr ⟨hq, rfl⟩⟩⟩
def st (W : Int) (ws : List Str) := ws.foldl (step W) (([] : List (List Str)), ([] : List Str))
theorem st_snoc (W : Int) (ws : List Str) (w : Str) : st W (ws ++ [w]) = step W (st W ws) w := by
  unfold st
  rw [List.foldl_append]
  rfl
theorem dvs_ne : ∀ (ws : List Str) (r : Row), r ∈ dvs ws → ∀ l ∈ r, l ≠ [] := by
  have aux : ∀ (n : Nat) (ws : List Str), ws.length = n → ∀ r ∈ dvs ws, ∀ l ∈ r, l ≠ [] := by
    intro n
    induction n with
    | zero =>
      intro ws h r hr l hl
      have e : ws = [] := List.eq_nil_of_length_eq_zero h
      subst e
      rw [dvs_nil, List.mem_singleton] at hr
      subst hr
      cases hl
    | succ n ih =>
      intro ws h q hq m hm
      rcases List.eq_nil_or_concat ws with e | ⟨us, w, e⟩
      · subst e; cases h
      · rw [List.concat_eq_append] at e
        subst e
        rw [dvs_snoc] at hq
        obtain ⟨r, hr, hqr⟩ := List.mem_flatMap.mp hq
        have f2 := ih us (by simp at h; exact h) r hr
        rcases ext_mem hqr with ⟨rfl, rfl⟩ | ⟨r', l, rfl, rfl | rfl⟩
        · rw [List.mem_singleton.mp hm]; simp
        · rcases List.mem_append.mp hm with hm | hm
          · exact f2 m (List.mem_append_left _ hm)
          · rw [List.mem_singleton.mp hm]; simp
        · rcases List.mem_append.mp hm with hm | hm
          · exact f2 m hm
          · rw [List.mem_singleton.mp hm]; simp
  exact fun ws r hr => aux ws.length ws rfl r hr
theorem greedy : ∀ (n : Nat) (ws : List Str) (W : Int), ws.length = n → ((st W ws).2 = [] → (st W ws).1 = []) ∧ cur (st W ws) ∈ dvs ws ∧ ∀ r ∈ dvs ws, Fits W r → Les (cur (st W ws)) r
  | 0, ws, W, h => by
    have e : ws = [] := List.eq_nil_of_length_eq_zero h
    subst e
    refine ⟨fun _ => rfl, by rw [dvs_nil]; exact List.mem_singleton.mpr rfl, fun r hr _ => ?_⟩
    rw [dvs_nil, List.mem_singleton] at hr
    subst hr
    exact .inr ⟨rfl, Nat.le_refl _⟩
  | n + 1, ws, W, h => by
    rcases List.eq_nil_or_concat ws with e | ⟨us, w, e⟩
    · subst e; cases h
    · rw [List.concat_eq_append] at e
      subst e
      have hu : us.length = n := by simp at h; exact h
      obtain ⟨i0, i1, i2⟩ := greedy n us W hu
      obtain ⟨c1, c2, c3⟩ := cur_step W (st W us) w i0
      rw [st_snoc, dvs_snoc]
      refine ⟨fun e => absurd e c2, List.mem_flatMap.mpr ⟨_, i1, c1⟩, fun q hq hfit => ?_⟩
      obtain ⟨r, hr, hqr⟩ := List.mem_flatMap.mp hq
      rcases ext_mem hqr with ⟨rfl, rfl⟩ | ⟨r', l, rfl, rfl | rfl⟩
      · -- the first word
        have hles := i2 [] hr (fun l hl => by cases hl)
        have hcu : cur (st W us) = [] := by
          rcases hles with z | ⟨z, _⟩
          · cases z
          · exact List.eq_nil_of_length_eq_zero z
        rcases c3 with ⟨_, z⟩ | ⟨r', l, z, _⟩
        · rw [z]
          exact .inr ⟨rfl, Nat.le_refl _⟩
        · rw [hcu] at z
          exact absurd z.symm (by simp)
      · have hl' : l ≠ [] := (dvs_ne us (r' ++ [l]) hr) l (by simp)
        have hjl : (jl (l ++ [w]) : Int) ≤ W := hfit _ (by simp)
        have hsn := jl_snoc l w hl'
        have hles := i2 (r' ++ [l]) hr fun m hm => by
          rcases List.mem_append.mp hm with hm | hm
          · exact hfit m (List.mem_append_left _ hm)
          · rw [List.mem_singleton.mp hm]; omega
        unfold Les at hles ⊢
        rw [lastJ_snoc] at hles ⊢
        rcases c3 with ⟨z1, z2⟩ | ⟨s', k, z1, z3⟩
        · rw [z2]
          have : lastJ [[w]] = jl [w] := lastJ_snoc [] [w]
          rw [this, jl_one]
          simp only [List.length_append, List.length_cons, List.length_nil] at hles ⊢
          omega
        · rw [z1, lastJ_snoc] at hles
          rcases z3 with ⟨z4, z5⟩ | ⟨z4, z5⟩
          · rw [z5, lastJ_snoc, jl_one]
            simp only [List.length_append, List.length_cons, List.length_nil] at hles ⊢
            omega
          · rw [z5, lastJ_snoc]
            simp only [List.length_append, List.length_cons, List.length_nil] at hles ⊢
            have hk : k ≠ [] := (dvs_ne us (cur (st W us)) i1) k (by rw [z1]; simp)
            rw [jl_snoc k w hk]
            omega
      · have hles := i2 (r' ++ [l]) hr fun m hm => hfit m (List.mem_append_left _ hm)
        unfold Les at hles ⊢
        rw [lastJ_snoc, jl_one]
        rw [lastJ_snoc] at hles
        rcases c3 with ⟨z1, z2⟩ | ⟨s', k, z1, z3⟩
        · rw [z2]
          simp only [List.length_append, List.length_cons, List.length_nil]
          omega
        · rw [z1, lastJ_snoc] at hles
          rcases z3 with ⟨z4, z5⟩ | ⟨z4, z5⟩
          · rw [z5, lastJ_snoc, jl_one]
            simp only [List.length_append, List.length_cons, List.length_nil] at hles ⊢
            omega
          · rw [z5]
            simp only [List.length_append, List.length_cons, List.length_nil] at hles ⊢
            omega
/-! narrowest -/
theorem whole_mem : ∀ (n : Nat) (ws : List Str), ws.length = n → ws ≠ [] → [ws] ∈ dvs ws
  | 0, ws, h, h0 => absurd (List.eq_nil_of_length_eq_zero h) h0
  | n + 1, ws, h, h0 => by
    rcases List.eq_nil_or_concat ws with e | ⟨us, w, e⟩
    · exact absurd e h0
    · rw [List.concat_eq_append] at e
      subst e
      rw [dvs_snoc]
      have hu : us.length = n := by simp at h; exact h
      by_cases hz : us = []
      · subst hz
        exact List.mem_flatMap.mpr ⟨[], by rw [dvs_nil]; simp, by rw [ext_nil]; simp⟩
      · exact List.mem_flatMap.mpr ⟨[us], whole_mem n us hu hz, by
          have := ext_snoc w [] us
          rw [List.nil_append] at this
          rw [this]
          simp⟩
abbrev cnt (W : Int) (ws : List Str) : Nat := (wrapM W ws).length
theorem wrap_st (W : Int) (ws : List Str) : wrapM W ws = cur (st W ws) := rfl
theorem cnt_best {W : Int} {ws : List Str} {r : Row} (h : r ∈ dvs ws) (hf : Fits W r) : cnt W ws ≤ r.length := by
  have := (greedy ws.length ws W rfl).2.2 r h hf
  unfold Les at this
  rw [← wrap_st] at this
  show (wrapM W ws).length ≤ r.length
  omega
theorem wrap_mem (W : Int) (ws : List Str) : wrapM W ws ∈ dvs ws := (greedy ws.length ws W rfl).2.1
theorem fits_of_good {W : Int} : ∀ {L : Row}, Good W L → Fits W L
  | [], _ => fun l hl => by cases hl
  | [x], h => fun l hl => by rw [List.mem_singleton.mp hl]; exact h.2
  | x :: y :: r, h => by
    obtain ⟨a, b, c⟩ := h
    intro l hl
    rcases List.mem_cons.mp hl with e | hl
    · rw [e]; exact a.2
    · exact fits_of_good (L := y :: r) c l hl
theorem wrap_fits {W : Int} {ws : List Str} (h : lg ws ≤ W) : Fits W (wrapM W ws) := fits_of_good (wrapM_good fun w hw => by
  have := (lg_spec ws).1 w hw
  omega).1
theorem lg_mem (ws : List Str) : lg ws = 0 ∨ ∃ w ∈ ws, lg ws = (w.length : Int) := by
  cases ws with
  | nil => exact .inl rfl
  | cons x r =>
    obtain ⟨h1, _⟩ := mxI_spec (r.map fun w => (w.length : Int)) x.length
    have e : lg (x :: r) = mxI x.length (r.map fun w => (w.length : Int)) := rfl
    rw [e]
    rcases List.mem_cons.mp h1 with h | h
    · exact .inr ⟨x, List.mem_cons_self, h⟩
    · obtain ⟨w, hw, e2⟩ := List.mem_map.mp h
      exact .inr ⟨w, List.mem_cons_of_mem _ hw, e2.symm⟩
theorem lg_fits {W : Int} {ws : List Str} {r : Row} (hr : r.flatten = ws) (hf : Fits W r) (h0 : 0 ≤ W) : lg ws ≤ W := by
  rcases lg_mem ws with h | ⟨w, hw, h⟩
  · omega
  · rw [← hr] at hw
    obtain ⟨l, hl, hwl⟩ := List.mem_flatten.mp hw
    have h1 := word_le_jl l w hwl
    have h2 := hf l hl
    omega
theorem narrow_loop (ws : List Str) (h8 : ∀ w ∈ ws, w.length ≤ 8) (hl : ws.length ≤ 100) (h0 : ws ≠ []) (m : Int) (hm : 1 ≤ m) : ∀ (n : Nat) (V : Int), lg ws ≤ V → (jl ws : Int) - V < n → 0 < n →
    ∃ W, V ≤ W ∧ (cnt W ws : Int) ≤ m ∧ (∀ U, V ≤ U → U < W → m < (cnt U ws : Int)) ∧ whlF w_narrowest_1 b_narrowest_1 n [.val (.tuple (tws ws)), .val (.int m), .val (.int V)] = .nx [.val (.tuple (tws ws)), .val (.int m), .val (.int W)]
  | 0, V, _, _, h => absurd h (Nat.lt_irrefl 0)
  | n + 1, V, hV, hn, _ => by
    have hc := count_ev ws V h8 hl
    rw [if_neg (by omega)] at hc
    have ht : w_narrowest_1 [.val (.tuple (tws ws)), .val (.int m), .val (.int V)] = some (decide (m < (cnt V ws : Int))) := t1_ev (e2_ev (eCall_ev (aCons_ev rfl (aCons_ev rfl aNil_ev)) hc) rfl (gtD_int _ _))
    by_cases c : m < (cnt V ws : Int)
    · have hjl : V < (jl ws : Int) := by
        by_cases q : V < (jl ws : Int)
        · exact q
        · exfalso
          have := cnt_best (W := V) (whole_mem ws.length ws rfl h0) fun l hl => by
            rw [List.mem_singleton.mp hl]; omega
          simp only [List.length_cons, List.length_nil] at this
          omega
      obtain ⟨W, w1, w2, w3, w4⟩ := narrow_loop ws h8 hl h0 m hm n (V + 1) (by omega) (by omega) (by omega)
      refine ⟨W, by omega, w2, fun U h1 h2 => ?_, ?_⟩
      · by_cases e : U = V
        · rw [e]; exact c
        · exact w3 U (by omega) h2
      · rw [decide_eq_true c] at ht
        simp only [whlF, ht]
        exact w4
    · refine ⟨V, Int.le_refl _, by omega, fun U h1 h2 => by omega, ?_⟩
      rw [decide_eq_false c] at ht
      simp only [whlF, ht]
theorem narrow_ev (ws : List Str) (h8 : ∀ w ∈ ws, w.length ≤ 8) (hl : ws.length ≤ 4) (m : Int) (h0 : 0 ≤ m) :
    (ws = [] → g_narrowest [.tuple (tws ws), .int m] = some (.int 1)) ∧ (ws ≠ [] → m < 1 → g_narrowest [.tuple (tws ws), .int m] = some .none) ∧
    (ws ≠ [] → 1 ≤ m → ∃ W, 1 ≤ W ∧ lg ws ≤ W ∧ (cnt W ws : Int) ≤ m ∧ (∀ U, 1 ≤ U → lg ws ≤ U → U < W → m < (cnt U ws : Int)) ∧ g_narrowest [.tuple (tws ws), .int m] = some (.int W)) := by
  refine ⟨fun e => ?_, fun e hm => ?_, fun e hm => ?_⟩
  · subst e
    refine gDef_ev (fB := f_narrowest) rfl (show f_narrowest [.val (.tuple []), .val (.int m), .un] = _ from ?_)
    unfold f_narrowest
    exact sSeq_rt (by rfl)
  · obtain ⟨w, r, rfl⟩ : ∃ w r, ws = w :: r := by
      cases ws with
      | nil => exact absurd rfl e
      | cons w r => exact ⟨w, r, rfl⟩
    refine gDef_ev (fB := f_narrowest) rfl (show f_narrowest [.val (.tuple (tws (w :: r))), .val (.int m), .un] = _ from ?_)
    unfold f_narrowest
    refine (sSeq_nx (e := [.val (.tuple (tws (w :: r))), .val (.int m), .un]) (by rfl)).trans (sSeq_rt ?_)
    exact (sIf_t (t1_ev (e2_ev rfl rfl ((ltD_int _ _).trans (by rw [decide_eq_true hm]))))).trans rfl
  · have hlg := longest_ev ws h8 (by omega)
    have hj : jl ws ≤ 36 := by
      have := jl_le ws h8
      omega
    obtain ⟨V, hV⟩ : ∃ V : Int, V = if lg ws > 1 then lg ws else 1 := ⟨_, rfl⟩
    have hV1 : 1 ≤ V ∧ lg ws ≤ V := by rw [hV]; split <;> omega
    have hV2 : ∀ U : Int, 1 ≤ U → lg ws ≤ U → V ≤ U := by intro U h1 h2; rw [hV]; split <;> omega
    obtain ⟨W, w1, w2, w3, w4⟩ := narrow_loop ws h8 (by omega) e m hm 100 V hV1.2 (by omega) (by decide)
    refine ⟨W, by omega, by omega, w2, fun U h1 h2 h3 => w3 U (hV2 U h1 h2) h3, ?_⟩
    refine gDef_ev (fB := f_narrowest) rfl (show f_narrowest [.val (.tuple (tws ws)), .val (.int m), .un] = _ from ?_)
    unfold f_narrowest
    refine (sSeq_nx (e := [.val (.tuple (tws ws)), .val (.int m), .un]) ?_).trans ?_
    · cases ws with
      | nil => exact absurd rfl e
      | cons w r => rfl
    refine (sSeq_nx (e := [.val (.tuple (tws ws)), .val (.int m), .un]) ?_).trans ?_
    · exact sIf_f (t1_ev (e2_ev rfl rfl ((ltD_int _ _).trans (by rw [decide_eq_false (by omega)]))))
    refine (sSeq_nx (e := [.val (.tuple (tws ws)), .val (.int m), .val (.int V)]) ?_).trans ?_
    · exact sSet_ev (eCall_ev (aCons_ev rfl (aCons_ev (eCall_ev (aCons_ev rfl aNil_ev) hlg) aNil_ev)) (by rw [hV]; rfl))
    rw [sSeq_nx w4]
    rfl
/-! the law -/
def mxr (r : Row) : Int := match r.map (fun l => (jl l : Int)) with
  | [] => 1
  | n :: ns => mxI n ns
theorem mxr_fits {r : Row} {W : Int} (h : mxr r ≤ W) : Fits W r := by
  cases r with
  | nil => exact fun l hl => by cases hl
  | cons x r =>
    obtain ⟨_, h2⟩ := mxI_spec (r.map fun l => (jl l : Int)) (jl x)
    have e : mxr (x :: r) = mxI (jl x) (r.map fun l => (jl l : Int)) := rfl
    rw [e] at h
    intro l hl
    have : (jl l : Int) ∈ (jl x : Int) :: r.map fun l => (jl l : Int) := by
      rcases List.mem_cons.mp hl with q | q
      · rw [q]; exact List.mem_cons_self
      · exact List.mem_cons_of_mem _ (List.mem_map.mpr ⟨l, q, rfl⟩)
    have := h2 _ this
    omega
theorem fits_mxr {r : Row} {W : Int} (h : Fits W r) (h1 : 1 ≤ W) : mxr r ≤ W := by
  cases r with
  | nil => exact h1
  | cons x r =>
    obtain ⟨h2, _⟩ := mxI_spec (r.map fun l => (jl l : Int)) (jl x)
    have e : mxr (x :: r) = mxI (jl x) (r.map fun l => (jl l : Int)) := rfl
    rw [e]
    rcases List.mem_cons.mp h2 with q | q
    · rw [q]; exact h x List.mem_cons_self
    · obtain ⟨l, hl, e2⟩ := List.mem_map.mp q
      rw [← e2]
      exact h l (List.mem_cons_of_mem _ hl)
theorem sizes_ev (r : Row) (hj : ∀ l ∈ r, jl l ≤ 1000) (e0 : En) (c : En → Option PyData) (hc : ∀ (v : Str), v.length ≤ 1000 → c (e0.set 10 (.val (.str v))) = some (.int v.length)) (hw : wipeE e0 [10] = e0) :
    compF (gVal 10) tYes' c e0 (r.map fun l => PyData.str (jn l)) = some (r.map fun l => .int (jl l : Int)) := by
  refine compF_mapS fun l hl => ⟨e0.set 10 (.val (.str (jn l))), rfl, hc _ (hj l hl)⟩
theorem sz_ints (r : Row) : intsD (r.map fun l => PyData.int (jl l : Int)) = some (r.map fun l => (jl l : Int)) := by
  have := intsD_map (r.map fun l => (jl l : Int))
  rw [List.map_map] at this
  exact this
theorem loop1 (S T : PyData) (m : Int) (a6 a7 a8 a9 : Sl) : ∀ (rs : List Row) (acc : List PyData) (x4 x5 : Sl), (∀ r ∈ rs, (∀ l ∈ r, jl l ≤ 1000) ∧ r.length < 1000) → acc.length + rs.length < 1000 →
    ∃ y4 y5, loopF (gVal 4) b_law_1 (rs.map tr) [.val S, .val T, .val (.int m), .own acc, x4, x5, a6, a7, a8, a9, .un] = .nx [.val S, .val T, .val (.int m), .own (acc ++ (rs.filter fun r => decide ((r.length : Int) ≤ m)).map fun r => .int (mxr r)), y4, y5, a6, a7, a8, a9, .un]
  | [], acc, x4, x5, _, _ => ⟨x4, x5, by simp [loopF]⟩
  | r :: rs, acc, x4, x5, h, hl => by
    simp only [List.length_cons] at hl
    obtain ⟨h1, h2⟩ := h r List.mem_cons_self
    have ht : t1 (e2 leD (eCall lenA (aCons (eVar 4) aNil)) (eVar 2)) [.val S, .val T, .val (.int m), .own acc, .val (tr r), x5, a6, a7, a8, a9, .un] = some (decide ((r.length : Int) ≤ m)) := by
      refine t1_ev (e2_ev (eCall_ev (aCons_ev rfl aNil_ev) rfl) rfl ((leD_int _ _).trans ?_))
      rw [List.length_map]
    by_cases c : (r.length : Int) ≤ m
    · have hb : b_law_1 [.val S, .val T, .val (.int m), .own acc, .val (tr r), x5, a6, a7, a8, a9, .un] = .nx [.val S, .val T, .val (.int m), .own (acc ++ [.int (mxr r)]), .val (tr r), .val (.list (r.map fun l => .int (jl l : Int))), a6, a7, a8, a9, .un] := by
        rw [decide_eq_true c] at ht
        unfold b_law_1
        refine (sIf_t ht).trans ?_
        refine (sSeq_nx (e := [.val S, .val T, .val (.int m), .own acc, .val (tr r), .val (.list (r.map fun l => .int (jl l : Int))), a6, a7, a8, a9, .un]) ?_).trans ?_
        · refine sSet_ev (i := 5) (eL_ev (fCmp_ev (ds := r.map fun l => PyData.str (jn l)) rfl (sizes_ev r h1 _ c_law_1 (fun v hv => ?_) rfl) (by simp; omega)))
          exact eCall_ev (aCons_ev rfl aNil_ev) (if_pos (by omega))
        · refine sApp_ev (i := 3) (ds := acc) ?_ rfl (by omega)
          cases r with
          | nil => rfl
          | cons x r =>
            refine eIf_t (t1_ev (e2_ev (eCall_ev (aCons_ev rfl aNil_ev) rfl) rfl ((gtD_int _ _).trans ?_))) (eCall_ev (aCons_ev rfl aNil_ev) ?_)
            · rw [decide_eq_true (by simp)]
            · show (match intsD ((x :: r).map fun l => PyData.int (jl l : Int)) with | some (n :: ns) => some (PyData.int (mxI n ns)) | _ => none) = _
              rw [sz_ints]
              rfl
      obtain ⟨y4, y5, ih⟩ := loop1 S T m a6 a7 a8 a9 rs (acc ++ [.int (mxr r)]) (.val (tr r)) (.val (.list (r.map fun l => .int (jl l : Int)))) (fun q hq => h q (List.mem_cons_of_mem _ hq)) (by simp; omega)
      refine ⟨y4, y5, ?_⟩
      show loopF (gVal 4) b_law_1 (tr r :: rs.map tr) _ = _
      simp only [loopF, gVal, List.set_cons_succ, List.set_cons_zero]
      rw [hb]
      simp only []
      rw [ih, List.filter_cons, if_pos (decide_eq_true c)]
      simp
    · have hb : b_law_1 [.val S, .val T, .val (.int m), .own acc, .val (tr r), x5, a6, a7, a8, a9, .un] = .nx [.val S, .val T, .val (.int m), .own acc, .val (tr r), x5, a6, a7, a8, a9, .un] := by
        rw [decide_eq_false c] at ht
        unfold b_law_1
        exact (sIf_f ht).trans rfl
      obtain ⟨y4, y5, ih⟩ := loop1 S T m a6 a7 a8 a9 rs acc (.val (tr r)) x5 (fun q hq => h q (List.mem_cons_of_mem _ hq)) (by omega)
      refine ⟨y4, y5, ?_⟩
      show loopF (gVal 4) b_law_1 (tr r :: rs.map tr) _ = _
      simp only [loopF, gVal, List.set_cons_succ, List.set_cons_zero]
      rw [hb]
      simp only []
      rw [ih, List.filter_cons, if_neg (by simp; omega)]
theorem loop2 (S T : PyData) (m W : Int) (a3 a6 a7 : Sl) : ∀ (rs : List Row) (acc : List PyData) (x4 x5 : Sl), (∀ r ∈ rs, (∀ l ∈ r, jl l ≤ 1000) ∧ r.length < 1000) → acc.length + rs.length < 1000 → 1 ≤ W →
    ∃ y4 y5, loopF (gVal 4) b_law_2 (rs.map tr) [.val S, .val T, .val (.int m), a3, x4, x5, a6, a7, .val (.int W), .own acc, .un] = .nx [.val S, .val T, .val (.int m), a3, y4, y5, a6, a7, .val (.int W), .own (acc ++ (rs.filter fun r => decide (mxr r ≤ W)).map fun r => .int (r.length : Int)), .un]
  | [], acc, x4, x5, _, _, _ => ⟨x4, x5, by simp [loopF]⟩
  | r :: rs, acc, x4, x5, h, hl, hW => by
    simp only [List.length_cons] at hl
    obtain ⟨h1, h2⟩ := h r List.mem_cons_self
    have hs : sSet 5 (eL (fCmp [10] (iSeq (eVar 4)) (gVal 10) tYes' c_law_2)) [.val S, .val T, .val (.int m), a3, .val (tr r), x5, a6, a7, .val (.int W), .own acc, .un] = .nx [.val S, .val T, .val (.int m), a3, .val (tr r), .val (.list (r.map fun l => .int (jl l : Int))), a6, a7, .val (.int W), .own acc, .un] := by
      refine sSet_ev (i := 5) (eL_ev (fCmp_ev (ds := r.map fun l => PyData.str (jn l)) rfl (sizes_ev r h1 _ c_law_2 (fun v hv => ?_) rfl) (by simp; omega)))
      exact eCall_ev (aCons_ev rfl aNil_ev) (if_pos (by omega))
    have ht : tOr' (t1 (e2 eqD (eCall lenA (aCons (eVar 5) aNil)) (eC (.int 0)))) (t1 (e2 leD (eCall (mx1 mxI) (aCons (eVar 5) aNil)) (eVar 8))) [.val S, .val T, .val (.int m), a3, .val (tr r), .val (.list (r.map fun l => .int (jl l : Int))), a6, a7, .val (.int W), .own acc, .un] = some (decide (mxr r ≤ W)) := by
      cases r with
      | nil =>
        have : decide (mxr [] ≤ W) = true := decide_eq_true hW
        rw [this]
        exact or_t (t1_ev (e2_ev (eCall_ev (aCons_ev rfl aNil_ev) rfl) rfl (eqD_int _ _)))
      | cons x r =>
        refine or_f (t1_ev (e2_ev (eCall_ev (aCons_ev rfl aNil_ev) rfl) rfl ((eqD_int _ _).trans ?_))) (t1_ev (e2_ev (eCall_ev (aCons_ev rfl aNil_ev) ?_) rfl (leD_int _ _)))
        · rw [decide_eq_false (by simp; omega)]
        · show (match intsD ((x :: r).map fun l => PyData.int (jl l : Int)) with | some (n :: ns) => some (PyData.int (mxI n ns)) | _ => none) = _
          rw [sz_ints]
          rfl
    by_cases c : mxr r ≤ W
    · have hb : b_law_2 [.val S, .val T, .val (.int m), a3, .val (tr r), x5, a6, a7, .val (.int W), .own acc, .un] = .nx [.val S, .val T, .val (.int m), a3, .val (tr r), .val (.list (r.map fun l => .int (jl l : Int))), a6, a7, .val (.int W), .own (acc ++ [.int (r.length : Int)]), .un] := by
        rw [decide_eq_true c] at ht
        unfold b_law_2
        rw [sSeq_nx hs]
        refine (sIf_t ht).trans ?_
        refine sApp_ev (i := 9) (ds := acc) (eCall_ev (aCons_ev rfl aNil_ev) ?_) rfl (by omega)
        show some (PyData.int ((r.map fun l => PyData.str (jn l)).length : Int)) = _
        rw [List.length_map]
      obtain ⟨y4, y5, ih⟩ := loop2 S T m W a3 a6 a7 rs (acc ++ [.int (r.length : Int)]) (.val (tr r)) (.val (.list (r.map fun l => .int (jl l : Int)))) (fun q hq => h q (List.mem_cons_of_mem _ hq)) (by simp; omega) hW
      refine ⟨y4, y5, ?_⟩
      show loopF (gVal 4) b_law_2 (tr r :: rs.map tr) _ = _
      simp only [loopF, gVal, List.set_cons_succ, List.set_cons_zero]
      rw [hb]
      simp only []
      rw [ih, List.filter_cons, if_pos (decide_eq_true c)]
      simp
    · have hb : b_law_2 [.val S, .val T, .val (.int m), a3, .val (tr r), x5, a6, a7, .val (.int W), .own acc, .un] = .nx [.val S, .val T, .val (.int m), a3, .val (tr r), .val (.list (r.map fun l => .int (jl l : Int))), a6, a7, .val (.int W), .own acc, .un] := by
        rw [decide_eq_false c] at ht
        unfold b_law_2
        rw [sSeq_nx hs]
        exact (sIf_f ht).trans rfl
      obtain ⟨y4, y5, ih⟩ := loop2 S T m W a3 a6 a7 rs acc (.val (tr r)) (.val (.list (r.map fun l => .int (jl l : Int)))) (fun q hq => h q (List.mem_cons_of_mem _ hq)) (by omega) hW
      refine ⟨y4, y5, ?_⟩
      show loopF (gVal 4) b_law_2 (tr r :: rs.map tr) _ = _
      simp only [loopF, gVal, List.set_cons_succ, List.set_cons_zero]
      rw [hb]
      simp only []
      rw [ih, List.filter_cons, if_neg (by simp; omega)]
theorem neD_bool (a b : Bool) : neD (.bool a) (.bool b) = some (.bool (!(a == b))) := by
  unfold neD
  rw [shaped_bool, shaped_bool]
  simp only [Bool.and_self, if_true, PyData.eqv]
theorem neD_none : neD .none .none = some (.bool false) := by
  unfold neD
  rw [shaped_none]
  simp only [Bool.and_self, if_true, PyData.eqv]
  rfl
theorem mn_ev (rs : List Row) (k : Row → Int) (v : Int) (h1 : ∃ r ∈ rs, k r = v) (h2 : ∀ r ∈ rs, v ≤ k r) : mx1 mnI [.list (rs.map fun r => .int (k r))] = some (.int v) := by
  have e : intsD (rs.map fun r => PyData.int (k r)) = some (rs.map k) := by
    have := intsD_map (rs.map k)
    rw [List.map_map] at this
    exact this
  show (match intsD (rs.map fun r => PyData.int (k r)) with | some (n :: ns) => some (PyData.int (mnI n ns)) | _ => none) = _
  rw [e]
  cases rs with
  | nil => obtain ⟨r, hr, _⟩ := h1; cases hr
  | cons r rs =>
    show some (PyData.int (mnI (k r) (rs.map k))) = _
    obtain ⟨m1, m2⟩ := mnI_spec (rs.map k) (k r)
    have e1 : mnI (k r) (rs.map k) = v := by
      refine Int.le_antisymm ?_ ?_
      · obtain ⟨q, hq, eq⟩ := h1
        rw [← eq]
        exact m2 _ (by
          have : k q ∈ (r :: rs).map k := List.mem_map.mpr ⟨q, hq, rfl⟩
          exact this)
      · have : mnI (k r) (rs.map k) ∈ (r :: rs).map k := m1
        obtain ⟨q, hq, eq⟩ := List.mem_map.mp this
        rw [← eq]
        exact h2 q hq
    rw [e1]
theorem rows_ok {ws : List Str} (h8 : ∀ w ∈ ws, w.length ≤ 8) (hl : ws.length ≤ 4) : (dvs ws).length ≤ 16 ∧ ∀ r ∈ dvs ws, (r.flatten = ws ∧ ∀ l ∈ r, l ≠ []) ∧ (∀ l ∈ r, jl l ≤ 1000) ∧ r.length < 1000 := by
  obtain ⟨f1, f2⟩ := dvs_facts ws.length ws rfl h8 hl
  refine ⟨Nat.le_trans f1 (Nat.le_trans (Nat.pow_le_pow_right (by decide) hl) (by decide)), fun r hr => ?_⟩
  obtain ⟨g1, g2⟩ := f2 r hr
  refine ⟨⟨g1, g2⟩, fun l hl => ?_, ?_⟩
  · have m1 := jl_le l fun v hv => h8 v (mem_line g1 hl v hv)
    have m2 := sub_len hl
    rw [g1] at m2
    omega
  · have := row_len g2
    rw [g1] at this
    omega
theorem law3_body (S : PyData) (ws : List Str) (m W : Int) (a3 a4 a5 a6 a7 a9 : Sl) (h8 : ∀ w ∈ ws, w.length ≤ 8) (hl : ws.length ≤ 4) (hW : 1 ≤ W) :
    ∃ b4 b5 b7 b9, b_law_3 [.val S, .val (.tuple (tws ws)), .val (.int m), a3, a4, a5, a6, a7, .val (.int W), a9, .un] = .nx [.val S, .val (.tuple (tws ws)), .val (.int m), a3, b4, b5, a6, b7, .val (.int W), b9, .un] := by
  have hwr := wrap_ev ws W h8 (by omega)
  have hdv := divisions_ev ws h8 hl
  obtain ⟨r16, rok⟩ := rows_ok h8 hl
  obtain ⟨T, hT⟩ : ∃ T : PyData, T = .tuple (tws ws) := ⟨_, rfl⟩
  rw [← hT] at hwr hdv ⊢
  obtain ⟨R, hR⟩ : ∃ R : PyData, R = if W < lg ws then .none else .list (tls (wrapM W ws)) := ⟨_, rfl⟩
  rw [← hR] at hwr
  obtain ⟨y4, y5, hloop⟩ := loop2 S T m W a3 a6 (.val R) (dvs ws) [] a4 a5 (fun r hr => (rok r hr).2) (by simp; omega) hW
  rw [List.nil_append] at hloop
  refine ⟨y4, y5, .val R, .own (((dvs ws).filter fun r => decide (mxr r ≤ W)).map fun r => .int (r.length : Int)), ?_⟩
  unfold b_law_3
  refine (sSeq_nx (e := [.val S, .val T, .val (.int m), a3, a4, a5, a6, .val R, .val (.int W), a9, .un]) (sSet_ev (eCall_ev (aCons_ev rfl (aCons_ev rfl aNil_ev)) hwr))).trans ?_
  refine (sSeq_nx (e := [.val S, .val T, .val (.int m), a3, a4, a5, a6, .val R, .val (.int W), .own [], .un]) (by rfl)).trans ?_
  refine (sSeq_nx (sFor_ev (ds := (dvs ws).map tr) (by unfold iSeq; rw [eCall_ev (aCons_ev rfl aNil_ev) hdv]) hloop)).trans ?_
  refine (sIf_f ?_).trans rfl
  have hmem := wrap_mem W ws
  by_cases c : W < lg ws
  · rw [if_pos c] at hR
    have hF : ((dvs ws).filter fun r => decide (mxr r ≤ W)) = [] := by
      rw [List.filter_eq_nil_iff]
      intro r hr hz
      have := lg_fits (rok r hr).1.1 (mxr_fits (of_decide_eq_true hz)) (by omega)
      omega
    rw [hF, hR]
    exact or_f (t1_ev (e2_ev (x := .bool true) (y := .bool true) rfl (e2_ev (eCall_ev (aCons_ev rfl aNil_ev) rfl) rfl ((eqD_int _ _).trans rfl)) (neD_bool _ _))) (and_f (t1_ev rfl))
  · rw [if_neg c] at hR
    have hin : wrapM W ws ∈ (dvs ws).filter fun r => decide (mxr r ≤ W) := List.mem_filter.mpr ⟨hmem, decide_eq_true (fits_mxr (wrap_fits (by omega)) hW)⟩
    have hne : ¬ (((((dvs ws).filter fun r => decide (mxr r ≤ W)).map fun r => PyData.int (r.length : Int)).length : Nat) : Int) = 0 := by
      rw [List.length_map]
      have := List.length_pos_of_mem hin
      omega
    have hmn := mn_ev ((dvs ws).filter fun r => decide (mxr r ≤ W)) (fun r => (r.length : Int)) (cnt W ws) ⟨_, hin, rfl⟩ fun r hr => by
      obtain ⟨q1, q2⟩ := List.mem_filter.mp hr
      have := cnt_best q1 (mxr_fits (of_decide_eq_true q2))
      omega
    rw [hR]
    refine or_f (t1_ev (e2_ev (x := .bool false) (y := .bool false) rfl (e2_ev (eCall_ev (aCons_ev rfl aNil_ev) rfl) rfl ((eqD_int _ _).trans (by rw [decide_eq_false hne]))) (neD_bool _ _))) (and_t (t1_ev rfl) (t1_ev (e2_ev (eCall_ev (aCons_ev rfl aNil_ev) rfl) (eCall_ev (aCons_ev rfl aNil_ev) hmn) ((neD_int _ _).trans ?_))))
    rw [List.length_map, decide_eq_true rfl]
    rfl
theorem law_true (ns : List Int) (h63 : ns.length ≤ 63) : g_law [.list (ns.map .int)] = some (.bool true) := by
  obtain ⟨ws, hws, hwl, hwp⟩ := words_ev (ns.getD 0 0)
  have h8 : ∀ w ∈ ws, w.length ≤ 8 := fun w hw => (pool_ok w (hwp w hw)).2.1
  have h1 : ∀ w ∈ ws, 1 ≤ w.length := fun w hw => (pool_ok w (hwp w hw)).1
  obtain ⟨m, hm⟩ : ∃ m : Int, m = ns.getD 1 0 % 7 := ⟨_, rfl⟩
  have hm1 : 0 ≤ m := by rw [hm]; exact Int.emod_nonneg _ (by decide)
  have S1 := cell_ev ns 0
  have S2 := cell_ev ns 1
  refine gDef_ev (fB := f_law) rfl (show f_law [.val (.list (ns.map .int)), .un, .un, .un, .un, .un, .un, .un, .un, .un, .un] = _ from ?_)
  obtain ⟨S, hS⟩ : ∃ S : PyData, S = .list (ns.map .int) := ⟨_, rfl⟩
  rw [← hS] at S1 S2 ⊢
  unfold f_law
  refine (sSeq_nx (e := [.val S, .val (.tuple (tws ws)), .un, .un, .un, .un, .un, .un, .un, .un, .un]) (sSet_ev (eCall_ev (aCons_ev (eCall_ev (aCons_ev rfl (aCons_ev rfl aNil_ev)) S1) aNil_ev) hws))).trans ?_
  refine (sSeq_nx (e := [.val S, .val (.tuple (tws ws)), .val (.int m), .un, .un, .un, .un, .un, .un, .un, .un]) (by rw [hm]; exact sSet_ev (e2_ev (eCall_ev (aCons_ev rfl (aCons_ev rfl aNil_ev)) S2) rfl (modD_int (by decide))))).trans ?_
  refine (sSeq_nx (e := [.val S, .val (.tuple (tws ws)), .val (.int m), .own [], .un, .un, .un, .un, .un, .un, .un]) (by rfl)).trans ?_
  have hdv := divisions_ev ws h8 hwl
  obtain ⟨r16, rok⟩ := rows_ok h8 hwl
  obtain ⟨y4, y5, hloop⟩ := loop1 S (.tuple (tws ws)) m .un .un .un .un (dvs ws) [] .un .un (fun r hr => (rok r hr).2) (by simp; omega)
  rw [List.nil_append] at hloop
  refine (sSeq_nx (sFor_ev (ds := (dvs ws).map tr) (by unfold iSeq; rw [eCall_ev (aCons_ev rfl aNil_ev) hdv]) hloop)).trans ?_
  obtain ⟨F, hF⟩ : ∃ F, F = (dvs ws).filter fun r => decide ((r.length : Int) ≤ m) := ⟨_, rfl⟩
  rw [← hF]
  obtain ⟨n1, n2, n3⟩ := narrow_ev ws h8 hwl m hm1
  have due : ∃ d : PyData, (d = .none ∨ ∃ i, d = .int i) ∧ eIf (t1 (e2 gtD (eCall lenA (aCons (eBor 3) aNil)) (eC (.int 0)))) (eCall (mx1 mnI) (aCons (eBor 3) aNil)) (eC .none) [.val S, .val (.tuple (tws ws)), .val (.int m), .own (F.map fun r => .int (mxr r)), y4, y5, .un, .un, .un, .un, .un] = some d ∧ g_narrowest [.tuple (tws ws), .int m] = some d := by
    have yes : ∀ v : Int, (∃ r ∈ F, mxr r = v) → (∀ r ∈ F, v ≤ mxr r) → eIf (t1 (e2 gtD (eCall lenA (aCons (eBor 3) aNil)) (eC (.int 0)))) (eCall (mx1 mnI) (aCons (eBor 3) aNil)) (eC .none) [.val S, .val (.tuple (tws ws)), .val (.int m), .own (F.map fun r => .int (mxr r)), y4, y5, .un, .un, .un, .un, .un] = some (.int v) := by
      intro v q1 q2
      refine eIf_t (t1_ev (e2_ev (eCall_ev (aCons_ev rfl aNil_ev) rfl) rfl ((gtD_int _ _).trans ?_))) (eCall_ev (aCons_ev rfl aNil_ev) (mn_ev F mxr v q1 q2))
      obtain ⟨r, hr, _⟩ := q1
      have := List.length_pos_of_mem hr
      rw [List.length_map, decide_eq_true (by omega)]
    by_cases e : ws = []
    · refine ⟨.int 1, .inr ⟨1, rfl⟩, ?_, n1 e⟩
      have hF2 : F = [[]] := by
        rw [hF, e, dvs_nil, List.filter_cons, if_pos (decide_eq_true (by simpa using hm1))]
        rfl
      refine yes 1 ⟨[], by rw [hF2]; simp, rfl⟩ fun r hr => ?_
      rw [hF2, List.mem_singleton] at hr
      rw [hr]
      exact Int.le_refl _
    · by_cases c : m < 1
      · refine ⟨.none, .inl rfl, ?_, n2 e c⟩
        have hF2 : F = [] := by
          rw [hF, List.filter_eq_nil_iff]
          intro r hr hz
          have := of_decide_eq_true hz
          have hr0 : r = [] := List.eq_nil_of_length_eq_zero (by omega)
          have := (rok r hr).1.1
          rw [hr0] at this
          exact e this.symm
        rw [hF2]
        rfl
      · obtain ⟨W, w1, w2, w3, w4, w5⟩ := n3 e (by omega)
        refine ⟨.int W, .inr ⟨W, rfl⟩, ?_, w5⟩
        have hin : wrapM W ws ∈ F := by
          rw [hF]
          exact List.mem_filter.mpr ⟨wrap_mem W ws, decide_eq_true w3⟩
        have hlow : ∀ r ∈ F, W ≤ mxr r := by
          intro r hr
          rw [hF] at hr
          obtain ⟨q1, q2⟩ := List.mem_filter.mp hr
          have q3 := of_decide_eq_true q2
          obtain ⟨⟨f1, f2⟩, _⟩ := rok r q1
          have hfit : Fits (mxr r) r := mxr_fits (Int.le_refl _)
          have hpos : 0 ≤ mxr r := by
            cases r with
            | nil => exact absurd f1.symm e
            | cons l r =>
              have := hfit l List.mem_cons_self
              omega
          have hlg := lg_fits f1 hfit hpos
          have hlg1 : 1 ≤ lg ws := by
            cases ws with
            | nil => exact absurd rfl e
            | cons w r' =>
              have a1 := h1 w List.mem_cons_self
              have a2 := (lg_spec (w :: r')).1 w List.mem_cons_self
              omega
          have hb := cnt_best q1 hfit
          by_cases z : mxr r < W
          · have := w4 (mxr r) (by omega) hlg z
            omega
          · omega
        have hup : mxr (wrapM W ws) ≤ W := fits_mxr (wrap_fits w2) w1
        exact yes W ⟨_, hin, Int.le_antisymm hup (hlow _ hin)⟩ hlow
  obtain ⟨d, hd0, hd1, hd2⟩ := due
  refine (sSeq_nx (e := [.val S, .val (.tuple (tws ws)), .val (.int m), .own (F.map fun r => .int (mxr r)), y4, y5, .val d, .un, .un, .un, .un]) (sSet_ev hd1)).trans ?_
  refine (sSeq_nx (e := [.val S, .val (.tuple (tws ws)), .val (.int m), .own (F.map fun r => .int (mxr r)), y4, y5, .val d, .val d, .un, .un, .un]) (sSet_ev (eCall_ev (aCons_ev rfl (aCons_ev rfl aNil_ev)) hd2))).trans ?_
  refine (sSeq_nx (e := [.val S, .val (.tuple (tws ws)), .val (.int m), .own (F.map fun r => .int (mxr r)), y4, y5, .val d, .val d, .un, .un, .un]) ?_).trans ?_
  · refine (sIf_f ?_).trans rfl
    rcases hd0 with rfl | ⟨i, rfl⟩
    · exact or_f (t1_ev (e2_ev rfl rfl neD_none)) (t1_ev (eIsi_ev (b := false) rfl rfl))
    · refine or_f (t1_ev (e2_ev rfl rfl ((neD_int _ _).trans ?_))) (t1_ev (eIsi_ev (b := false) rfl rfl))
      rw [decide_eq_true rfl]
      rfl
  have hlp := loop_rng (g := gVal 8) (b := b_law_3) (lo := 1) (n := 39) (e := [.val S, .val (.tuple (tws ws)), .val (.int m), .own (F.map fun r => .int (mxr r)), y4, y5, .val d, .val d, .un, .un, .un])
    (fun j e => ∃ x4 x5 x7 x8 x9, e = [.val S, .val (.tuple (tws ws)), .val (.int m), .own (F.map fun r => .int (mxr r)), x4, x5, .val d, x7, x8, x9, .un]) (fun j e hj he => by
      obtain ⟨x4, x5, x7, x8, x9, rfl⟩ := he
      obtain ⟨k, hk⟩ : ∃ k : Int, k = 1 + (j : Nat) := ⟨_, rfl⟩
      rw [← hk]
      obtain ⟨b4, b5, b7, b9, hb⟩ := law3_body S ws m k (.own (F.map fun r => .int (mxr r))) x4 x5 (.val d) x7 x9 h8 hwl (by omega)
      exact ⟨_, rfl, _, .inl hb, b4, b5, b7, .val (.int k), b9, rfl⟩) ⟨y4, y5, .val d, .un, .un, rfl⟩
  obtain ⟨e', he', x4, x5, x7, x8, x9, rfl⟩ := hlp
  have hr := iR2_ev (fa := aCons (eC (.int 1)) (aCons (eC (.int 40)) aNil)) (env := [.val S, .val (.tuple (tws ws)), .val (.int m), .own (F.map fun r => .int (mxr r)), y4, y5, .val d, .val d, .un, .un, .un]) (M := 1) (N := 40) rfl (by decide) (by decide) (by decide) (by decide)
  refine (sSeq_nx (sFor_ev hr he')).trans ?_
  rfl
end K01

open PySem PySem.W PyProof.Rows
set_option maxHeartbeats 0 in
theorem PySem.Challenge.cw_boundbook_k01_narrowest_widths_holds : PySem.Challenge.rw_boundbook_k01_narrowest_widths.Holds := by
  w_on; o_law; k_head; (case hw => w_witness2)
  k_fill
  refine L2.walk_of (l := PySem.Challenge.rw_boundbook_k01_narrowest_widths) (n := 63) (k := 5) (x := "script") (CX := fun _ => L2.CX0) (sp := fun w => Mir.spF _ K01.g_law) rfl (by decide) rfl ⟨rfl, by decide, by decide⟩ (fun w h Y => PySem.W.kIn_of Y) ?F (fun w H a ns hl hO hS => Mir.law_end hS (K01.law_true ns hl)) (fun _ _ _ _ _ h => h)
  case F =>
    intro w mg fa h KX G hmg
    refine' K01.all_mk KX G hmg ?a_longest ?l_longest ?c_longest ?k_longest ?a_length_of ?l_length_of ?c_length_of ?k_length_of ?a_wrap ?l_wrap ?c_wrap ?k_wrap ?a_line_count ?l_line_count ?c_line_count ?k_line_count ?a_narrowest ?l_narrowest ?c_narrowest ?k_narrowest ?a_Lcell ?l_Lcell ?c_Lcell ?k_Lcell ?a_Ldraws ?l_Ldraws ?c_Ldraws ?k_Ldraws ?a_Lwords ?l_Lwords ?c_Lwords ?k_Lwords ?a_Ldivisions ?l_Ldivisions ?c_Ldivisions ?k_Ldivisions ?a_law ?l_law ?c_law ?k_law ?z_len ?z_max ?z_range ?z_int ?z_tuple ?z_min ?z_isinstance ?z_bool
    (case a_longest => k_is)
    (case l_longest => k_is)
    (case c_longest => k_is)
    (case k_longest => k_is)
    (case a_length_of => k_is)
    (case l_length_of => k_is)
    (case c_length_of => k_is)
    (case k_length_of => k_is)
    (case a_wrap => k_is)
    (case l_wrap => k_is)
    (case c_wrap => k_is)
    (case k_wrap => k_is)
    (case a_line_count => k_is)
    (case l_line_count => k_is)
    (case c_line_count => k_is)
    (case k_line_count => k_is)
    (case a_narrowest => k_is)
    (case l_narrowest => k_is)
    (case c_narrowest => k_is)
    (case k_narrowest => k_is)
    (case a_Lcell => k_is)
    (case l_Lcell => k_is)
    (case c_Lcell => k_is)
    (case k_Lcell => k_is)
    (case a_Ldraws => k_is)
    (case l_Ldraws => k_is)
    (case c_Ldraws => k_is)
    (case k_Ldraws => k_is)
    (case a_Lwords => k_is)
    (case l_Lwords => k_is)
    (case c_Lwords => k_is)
    (case k_Lwords => k_is)
    (case a_Ldivisions => k_is)
    (case l_Ldivisions => k_is)
    (case c_Ldivisions => k_is)
    (case k_Ldivisions => k_is)
    (case a_law => k_is)
    (case l_law => k_is)
    (case c_law => k_is)
    (case k_law => k_is)
    (case z_len => k_is)
    (case z_max => k_is)
    (case z_range => k_is)
    (case z_int => k_is)
    (case z_tuple => k_is)
    (case z_min => k_is)
    (case z_isinstance => k_is)
    (case z_bool => k_is)


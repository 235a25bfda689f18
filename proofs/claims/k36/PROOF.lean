import PyProof.Rows.All
import Wide.All
import OpenK.AllK
import Wide.FinOn
import HandS.ForMost
import HandS.Deep
import HandS.TupAny
import KE.DatumOrd
import HandS.SortKw
import HandS.IsInst
import KE.GoesEnum
import HandS.Zip
import HandS.TupMul
import HandS.Style
import KE.KRevSl
import HandS.Dict
import HandS.ForExc
import KE.KExcSuper
import HandS.TryOnly
import HandS.WideBits
import HandS.More
import HandS.CallLocal
import KE.DataMinKey
import HandS.FStr
import HandS.Strs
import KE.KExcIs
import PySem.Challenge.RW_boundbook_k36_plans
set_option Elab.async false
set_option linter.all false
set_option maxRecDepth 100000
set_option maxHeartbeats 8000000
/-! Mir: pure data (PyData) for what a def handles, an environment by slots with lists that are owned, and what a piece of code does to it. -/
namespace Mir
open PySem PySem.Spec PyProof.Rows L2

/-! ### data in the heap; S: where its lists may stand -/
/-- a list of the written part -/
def KL (K : PySem.W.Frag) (a : Addr) (xs : List V) : Prop := ∃ (o : Obj) (its : Array Value) (n : Nat), K.lookup a = some o ∧ o.cls = .type "list" ∧ o.dict = none ∧ o.data = .seq its n ∧ its.size ≤ sizeLine ∧ Vals xs its.toList
def LsAt (K : PySem.W.Frag) (S : Addr → Prop) (H : Hp) (a : Addr) (xs : List V) : Prop := (S a ∧ Rd H a (.lst xs)) ∨ KL K a xs
theorem LsAt.sq {K : PySem.W.Frag} {S : Addr → Prop} {H : Hp} {a : Addr} {xs : List V} (h : LsAt K S H a xs) : SqL K H a xs := h.imp (fun z => z.2) id
theorem LsAt.of {K : PySem.W.Frag} {S : Addr → Prop} {H : Hp} {a : Addr} {xs : List V} (s : S a) (h : SqL K H a xs) : LsAt K S H a xs := h.imp (fun z => ⟨s, z⟩) id
/-- what never changes, and is no tuple -/
def fz : HO → Bool
  | .frz _ _ => true
  | .xd _ => true
  | _ => false
/-- keys as data -/
def kdD : Key → PyData
  | .inl i => .int i
  | .inr x => .str x
def kdT (k : List Key) : PyData := .tuple (k.map kdD)
mutual
def Rp (K : PySem.W.Frag) (S : Addr → Prop) (H : Hp) : PyData → V → Prop
  | .none, v => v = .non
  | .bool b, v => v = .bl b
  | .int i, v => v = .int i
  | .str x, v => v = .str x
  | .list ds, v => ∃ a xs, v = .ref a ∧ LsAt K S H a xs ∧ RpA K S H ds xs
  | .tuple ds, v => ∃ a xs, v = .ref a ∧ H a = some (.tup xs) ∧ RpA K S H ds xs
  | .dict kvs, v => ∃ a od, v = .ref a ∧ ((∃ ws, H a = some (.frz od (.dT ws)) ∧ RpD K S H (List Key) kdT kvs ws) ∨ ∃ ws, H a = some (.frz od (.dK ws)) ∧ RpD K S H Key kdD kvs ws)
def RpA (K : PySem.W.Frag) (S : Addr → Prop) (H : Hp) : List PyData → List V → Prop
  | [], vs => vs = []
  | d :: ds, vs => ∃ v r, vs = v :: r ∧ Rp K S H d v ∧ RpA K S H ds r
def RpD (K : PySem.W.Frag) (S : Addr → Prop) (H : Hp) (κ : Type) (kd : κ → PyData) : List (PyData × PyData) → List (κ × V) → Prop
  | [], vs => vs = []
  | (k, d) :: ds, vs => ∃ q v r, vs = (q, v) :: r ∧ k = kd q ∧ Rp K S H d v ∧ RpD K S H κ kd ds r
end
section
variable {K : PySem.W.Frag} {S S' : Addr → Prop} {H H' : Hp}
mutual
theorem Rp.mono (hL : ∀ a xs, S a → Rd H a (.lst xs) → S' a ∧ Rd H' a (.lst xs)) (hT : ∀ a xs, H a = some (.tup xs) → H' a = some (.tup xs)) (hD : ∀ a u, fz u = true → H a = some u → H' a = some u) : ∀ (d : PyData) (v : V), Rp K S H d v → Rp K S' H' d v
  | .none, _, h => by rw [Rp] at h ⊢; exact h
  | .bool _, _, h => by rw [Rp] at h ⊢; exact h
  | .int _, _, h => by rw [Rp] at h ⊢; exact h
  | .str _, _, h => by rw [Rp] at h ⊢; exact h
  | .list ds, _, h => by
    rw [Rp] at h ⊢
    obtain ⟨a, xs, e, q, r⟩ := h
    exact ⟨a, xs, e, q.imp (fun z => hL a xs z.1 z.2) id, RpA.mono hL hT hD ds xs r⟩
  | .tuple ds, _, h => by
    rw [Rp] at h ⊢
    obtain ⟨a, xs, e, q, r⟩ := h
    exact ⟨a, xs, e, hT a xs q, RpA.mono hL hT hD ds xs r⟩
  | .dict kvs, _, h => by
    rw [Rp] at h ⊢
    obtain ⟨a, od, e, q⟩ := h
    refine ⟨a, od, e, ?_⟩
    rcases q with ⟨ws, q, r⟩ | ⟨ws, q, r⟩
    · exact .inl ⟨ws, hD _ _ rfl q, RpD.mono hL hT hD _ _ kvs ws r⟩
    · exact .inr ⟨ws, hD _ _ rfl q, RpD.mono hL hT hD _ _ kvs ws r⟩
theorem RpA.mono (hL : ∀ a xs, S a → Rd H a (.lst xs) → S' a ∧ Rd H' a (.lst xs)) (hT : ∀ a xs, H a = some (.tup xs) → H' a = some (.tup xs)) (hD : ∀ a u, fz u = true → H a = some u → H' a = some u) : ∀ (ds : List PyData) (vs : List V), RpA K S H ds vs → RpA K S' H' ds vs
  | [], _, h => by rw [RpA] at h ⊢; exact h
  | d :: ds, _, h => by
    rw [RpA] at h ⊢
    obtain ⟨v, r, e, h1, h2⟩ := h
    exact ⟨v, r, e, Rp.mono hL hT hD d v h1, RpA.mono hL hT hD ds r h2⟩
theorem RpD.mono (hL : ∀ a xs, S a → Rd H a (.lst xs) → S' a ∧ Rd H' a (.lst xs)) (hT : ∀ a xs, H a = some (.tup xs) → H' a = some (.tup xs)) (hD : ∀ a u, fz u = true → H a = some u → H' a = some u) (κ : Type) (kd : κ → PyData) : ∀ (ds : List (PyData × PyData)) (vs : List (κ × V)), RpD K S H κ kd ds vs → RpD K S' H' κ kd ds vs
  | [], _, h => by rw [RpD] at h ⊢; exact h
  | (k, d) :: ds, _, h => by
    rw [RpD] at h ⊢
    obtain ⟨q, v, r, e, ek, h1, h2⟩ := h
    exact ⟨q, v, r, e, ek, Rp.mono hL hT hD d v h1, RpD.mono hL hT hD κ kd ds r h2⟩
end
theorem same_d (e : Same H H') : ∀ a u, fz u = true → H a = some u → H' a = some u := fun a u _ h => e _ _ h
theorem same_rd {a : Addr} {u : HO} (e : Same H H') (h : Rd H a u) : Rd H' a u := by
  rcases h with h | ⟨o, h⟩
  · exact .inl (e _ _ h)
  · exact .inr ⟨o, e _ _ h⟩
theorem same_t {a : Addr} {xs : List V} (e : Same H H') (h : H a = some (.tup xs)) : H' a = some (.tup xs) := e _ _ h
theorem live_t {a : Addr} {xs : List V} (h : H a = some (.tup xs)) : SqT K H a xs := .inl (.inl h)
theorem Rp.grow (e : Same H H') {d : PyData} {v : V} (h : Rp K S H d v) : Rp K S H' d v := Rp.mono (fun _ _ s q => ⟨s, same_rd e q⟩) (fun _ _ q => same_t e q) (same_d e) d v h
theorem RpA.grow (e : Same H H') {ds : List PyData} {vs : List V} (h : RpA K S H ds vs) : RpA K S H' ds vs := RpA.mono (fun _ _ s q => ⟨s, same_rd e q⟩) (fun _ _ q => same_t e q) (same_d e) ds vs h
theorem RpD.grow (e : Same H H') {κ : Type} {kd : κ → PyData} {ds : List (PyData × PyData)} {vs : List (κ × V)} (h : RpD K S H κ kd ds vs) : RpD K S H' κ kd ds vs := RpD.mono (fun _ _ s q => ⟨s, same_rd e q⟩) (fun _ _ q => same_t e q) (same_d e) κ kd ds vs h
theorem Rp.wide (w : ∀ a, S a → S' a) {d : PyData} {v : V} (h : Rp K S H d v) : Rp K S' H d v := Rp.mono (fun _ _ s q => ⟨w _ s, q⟩) (fun _ _ q => q) (fun _ _ _ q => q) d v h
theorem RpA.wide (w : ∀ a, S a → S' a) {ds : List PyData} {vs : List V} (h : RpA K S H ds vs) : RpA K S' H ds vs := RpA.mono (fun _ _ s q => ⟨w _ s, q⟩) (fun _ _ q => q) (fun _ _ _ q => q) ds vs h
theorem RpD.wide (w : ∀ a, S a → S' a) {κ : Type} {kd : κ → PyData} {ds : List (PyData × PyData)} {vs : List (κ × V)} (h : RpD K S H κ kd ds vs) : RpD K S' H κ kd ds vs := RpD.mono (fun _ _ s q => ⟨w _ s, q⟩) (fun _ _ q => q) (fun _ _ _ q => q) κ kd ds vs h
theorem RpA.length : ∀ {ds : List PyData} {vs : List V}, RpA K S H ds vs → vs.length = ds.length
  | [], _, h => by rw [RpA] at h; rw [h]; rfl
  | d :: ds, _, h => by
    rw [RpA] at h
    obtain ⟨v, r, e, _, h2⟩ := h
    rw [e, List.length_cons, List.length_cons, RpA.length h2]
theorem RpA.get : ∀ {ds : List PyData} {vs : List V} {i : Nat} {d : PyData}, RpA K S H ds vs → ds[i]? = some d → ∃ v, vs[i]? = some v ∧ Rp K S H d v
  | [], _, _, _, _, e => by simp at e
  | d :: ds, _, 0, d', h, e => by
    rw [RpA] at h
    obtain ⟨v, r, rfl, h1, _⟩ := h
    simp at e
    subst e
    exact ⟨v, rfl, h1⟩
  | d :: ds, _, i + 1, d', h, e => by
    rw [RpA] at h
    obtain ⟨v, r, rfl, _, h2⟩ := h
    obtain ⟨u, e1, e2⟩ := RpA.get (i := i) (d := d') h2 (by simpa using e)
    exact ⟨u, by simpa using e1, e2⟩
theorem RpA.append : ∀ {ds es : List PyData} {vs us : List V}, RpA K S H ds vs → RpA K S H es us → RpA K S H (ds ++ es) (vs ++ us)
  | [], _, _, _, h, g => by rw [RpA] at h; subst h; exact g
  | d :: ds, _, _, _, h, g => by
    rw [RpA] at h
    obtain ⟨v, r, rfl, h1, h2⟩ := h
    show RpA K S H (d :: (ds ++ _)) (v :: (r ++ _))
    rw [RpA]
    exact ⟨v, _, rfl, h1, RpA.append h2 g⟩
theorem RpA.nil : RpA K S H [] [] := by rw [RpA]
theorem RpA.cons {d : PyData} {v : V} {ds : List PyData} {vs : List V} (h : Rp K S H d v) (g : RpA K S H ds vs) : RpA K S H (d :: ds) (v :: vs) := by
  rw [RpA]
  exact ⟨v, vs, rfl, h, g⟩
theorem RpA.set : ∀ {ds : List PyData} {vs : List V} {i : Nat} {d : PyData} {v : V}, RpA K S H ds vs → Rp K S H d v → RpA K S H (ds.set i d) (vs.set i v)
  | [], _, _, _, _, h, _ => by rw [RpA] at h; subst h; exact RpA.nil
  | e :: ds, _, 0, d', v', h, g => by
    rw [RpA] at h
    obtain ⟨v, r, rfl, h1, h2⟩ := h
    exact RpA.cons g h2
  | e :: ds, _, i + 1, d', v', h, g => by
    rw [RpA] at h
    obtain ⟨v, r, rfl, h1, h2⟩ := h
    exact RpA.cons h1 (RpA.set h2 g)
theorem RpA.take : ∀ {ds : List PyData} {vs : List V} (n : Nat), RpA K S H ds vs → RpA K S H (ds.take n) (vs.take n)
  | _, _, 0, _ => by simpa using RpA.nil
  | [], _, n + 1, h => by rw [RpA] at h; subst h; exact RpA.nil
  | e :: ds, _, n + 1, h => by
    rw [RpA] at h
    obtain ⟨v, r, rfl, h1, h2⟩ := h
    exact RpA.cons h1 (RpA.take n h2)
theorem RpA.drop : ∀ {ds : List PyData} {vs : List V} (n : Nat), RpA K S H ds vs → RpA K S H (ds.drop n) (vs.drop n)
  | _, _, 0, h => by simpa using h
  | [], _, n + 1, h => by rw [RpA] at h; subst h; exact RpA.nil
  | e :: ds, _, n + 1, h => by
    rw [RpA] at h
    obtain ⟨v, r, rfl, h1, h2⟩ := h
    exact RpA.drop n h2
mutual
/-- no dict in it -/
def noD : PyData → Bool
  | .list ds => noDA ds
  | .tuple ds => noDA ds
  | .dict _ => false
  | .none => true
  | .bool _ => true
  | .int _ => true
  | .str _ => true
def noDA : List PyData → Bool
  | [] => true
  | d :: ds => noD d && noDA ds
end
mutual
theorem Rp.dp0 : ∀ (d : PyData) (v : V), noD d = true → Rp K S H d v → Dp K H v d
  | .none, _, _, h => by rw [Rp] at h; subst h; exact .non
  | .bool b, _, _, h => by rw [Rp] at h; subst h; exact .bl b
  | .int i, _, _, h => by rw [Rp] at h; subst h; exact .int i
  | .str x, _, _, h => by rw [Rp] at h; subst h; exact .str x
  | .list ds, _, n, h => by
    rw [Rp] at h
    rw [noD] at n
    obtain ⟨a, xs, rfl, q, r⟩ := h
    exact .lst q.sq (RpA.dp0 ds xs n r)
  | .tuple ds, _, n, h => by
    rw [Rp] at h
    rw [noD] at n
    obtain ⟨a, xs, rfl, q, r⟩ := h
    exact .tup (live_t q) (RpA.dp0 ds xs n r)
  | .dict _, _, n, _ => by rw [noD] at n; cases n
theorem RpA.dp0 : ∀ (ds : List PyData) (vs : List V), noDA ds = true → RpA K S H ds vs → DpAll K H vs ds
  | [], _, _, h => by rw [RpA] at h; subst h; exact .nil
  | d :: ds, _, n, h => by
    rw [RpA] at h
    rw [noDA, Bool.and_eq_true] at n
    obtain ⟨v, r, rfl, h1, h2⟩ := h
    exact .cons (Rp.dp0 d v n.1 h1) (RpA.dp0 ds r n.2 h2)
end
mutual
theorem noD_lay : ∀ d : PyData, d.canLay0 = true → noD d = true
  | .none, _ => by rw [noD]
  | .bool _, _ => by rw [noD]
  | .int _, _ => by rw [noD]
  | .str _, _ => by rw [noD]
  | .list ds, h => by rw [noD]; exact noDA_lay ds (by simpa [PyData.canLay0] using h)
  | .tuple ds, h => by rw [noD]; exact noDA_lay ds (by simpa [PyData.canLay0] using h)
  | .dict _, h => by simp [PyData.canLay0] at h
theorem noDA_lay : ∀ ds : List PyData, PyData.canLayAll0 ds = true → noDA ds = true
  | [], _ => by rw [noDA]
  | d :: ds, h => by
    simp only [PyData.canLayAll0, Bool.and_eq_true] at h
    rw [noDA, noD_lay d h.1, noDA_lay ds h.2]; rfl
end
theorem Rp.dp {d : PyData} {v : V} (h : Rp K S H d v) (s : SeqAt.shaped d = true) : Dp K H v d := Rp.dp0 d v (noD_lay d (by
  unfold SeqAt.shaped at s
  rw [Bool.and_eq_true] at s
  exact s.1)) h
/-! data without lists -/
mutual
def noL : PyData → Bool
  | .list _ => false
  | .tuple ds => noLA ds
  | .dict _ => false
  | .none => true
  | .bool _ => true
  | .int _ => true
  | .str _ => true
def noLA : List PyData → Bool
  | [] => true
  | d :: ds => noL d && noLA ds
end
mutual
theorem Rp.noL : ∀ (d : PyData) (v : V), noL d = true → Rp K S H d v → Rp K S' H d v
  | .none, _, _, h => by rw [Rp] at h ⊢; exact h
  | .bool _, _, _, h => by rw [Rp] at h ⊢; exact h
  | .int _, _, _, h => by rw [Rp] at h ⊢; exact h
  | .str _, _, _, h => by rw [Rp] at h ⊢; exact h
  | .list ds, _, n, _ => by rw [Mir.noL] at n; cases n
  | .tuple ds, _, n, h => by
    rw [Rp] at h ⊢
    rw [Mir.noL] at n
    obtain ⟨a, xs, e, q, r⟩ := h
    exact ⟨a, xs, e, q, RpA.noL ds xs n r⟩
  | .dict _, _, n, _ => by rw [Mir.noL] at n; cases n
theorem RpA.noL : ∀ (ds : List PyData) (vs : List V), noLA ds = true → RpA K S H ds vs → RpA K S' H ds vs
  | [], _, _, h => by rw [RpA] at h ⊢; exact h
  | d :: ds, _, n, h => by
    rw [RpA] at h ⊢
    rw [noLA, Bool.and_eq_true] at n
    obtain ⟨v, r, e, h1, h2⟩ := h
    exact ⟨v, r, e, Rp.noL d v n.1 h1, RpA.noL ds r n.2 h2⟩
end
end

/-! ### the environment -/
inductive Sl where
  | un
  | val (d : PyData)
  | own (ds : List PyData)
  | ownT (kvs : List (PyData × PyData))
  | ownK (kvs : List (PyData × PyData))
  | exc (a dd : Addr) (d : PyData)
  | fn (a : Addr)
def ow : Sl → Bool
  | .own _ => true
  | .ownT _ => true
  | .ownK _ => true
  | _ => false
def isMut : HO → Bool
  | .lst _ => true
  | .dT _ => true
  | .dK _ => true
  | _ => false
abbrev En := List Sl
def Bd (S0 : Addr → Prop) (H0 : Hp) : Addr → Prop := fun a => S0 a ∨ H0 a = none
def Cl (S0 : Addr → Prop) (H0 : Hp) (A : Addr → Prop) : Addr → Prop := fun a => Bd S0 H0 a ∧ ¬ A a
def SC (c : Bool) (S0 : Addr → Prop) (H0 : Hp) (A : Addr → Prop) : Addr → Prop := fun a => c = true → Cl S0 H0 A a
def SlOk (K : PySem.W.Frag) (S A : Addr → Prop) (H : Hp) : Sl → V → Prop
  | .un, _ => True
  | .val d, v => Rp K S H d v
  | .own ds, v => ∃ a xs, v = .ref a ∧ A a ∧ H a = some (.lst xs) ∧ RpA K S H ds xs
  | .ownT kvs, v => ∃ a ws, v = .ref a ∧ A a ∧ H a = some (.dT ws) ∧ RpD K S H (List Key) kdT kvs ws
  | .ownK kvs, v => ∃ a ws, v = .ref a ∧ A a ∧ H a = some (.dK ws) ∧ RpD K S H Key kdD kvs ws
  | .exc a dd d, v => v = .ref a ∧ ∃ u, H dd = some (.xd [(("what" : Str), u)]) ∧ Rp K S H d u
  | .fn a, v => v = .ref a
structure EnvOk (K : PySem.W.Frag) (S0 : Addr → Prop) (H0 : Hp) (A : Addr → Prop) (H : Hp) (σ : L2.St) (env : En) : Prop where
  len : σ.length = env.length
  sl : ∀ (i : Nat) (s : Sl), env[i]? = some s → s = .un ∨ ∃ v, σ[i]? = some (some v) ∧ SlOk K (Cl S0 H0 A) A H s v
  dis : ∀ (i j : Nat) (s t : Sl) (a : Addr), env[i]? = some s → env[j]? = some t → ow s = true → ow t = true → σ[i]? = some (some (.ref a)) → σ[j]? = some (some (.ref a)) → i = j
  tr : ∀ a, A a → ∃ u, H a = some u ∧ isMut u = true
  nw : ∀ a, A a → H0 a = none
  same : Same H0 H
def Fr (A : Addr → Prop) (H H' : Hp) : Prop := ∀ a o, H a = some o → ¬ A a → H' a = some o
def Sb (A : Addr → Prop) (H : Hp) (A' : Addr → Prop) : Prop := ∀ a, A' a → A a ∨ H a = none
section
variable {K : PySem.W.Frag} {S0 S : Addr → Prop} {H0 H H' H'' : Hp} {A A' A'' : Addr → Prop} {σ : L2.St} {env : En}
theorem Fr.of_same (e : Same H H') : Fr A H H' := fun a o h _ => e a o h
theorem Fr.refl : Fr A H H := fun _ _ h _ => h
theorem Sb.refl : Sb A H A := fun _ h => .inl h
theorem Fr.trans (h1 : Fr A H H') (s1 : Sb A H A') (h2 : Fr A' H' H'') : Fr A H H'' := fun a o h n => h2 a o (h1 a o h n) fun z => by
  rcases s1 a z with q | q
  · exact n q
  · rw [h] at q; cases q
theorem Sb.trans (h1 : Fr A H H') (s1 : Sb A H A') (s2 : Sb A' H' A'') : Sb A H A'' := fun a z => by
  rcases s2 a z with q | q
  · exact s1 a q
  · cases e : H a with
    | none => exact .inr rfl
    | some o =>
      by_cases n : A a
      · exact .inl n
      · rw [h1 a o e n] at q; cases q
theorem fz_mut {u : HO} (h : fz u = true) (m : isMut u = true) : False := by
  cases u <;> first | (cases h; done) | (cases m; done)
theorem EnvOk.no_frz (E : EnvOk K S0 H0 A H σ env) {a : Addr} {u : HO} (z : fz u = true) (ha : A a) (h : H a = some u) : False := by
  obtain ⟨w, e, m⟩ := E.tr a ha
  rw [h] at e; cases e; exact fz_mut z m
theorem EnvOk.no_tup (E : EnvOk K S0 H0 A H σ env) {a : Addr} {xs : List V} (ha : A a) (h : H a = some (.tup xs)) : False := by
  obtain ⟨w, e, m⟩ := E.tr a ha
  rw [h] at e; cases e; cases m
theorem cl_new (E : EnvOk K S0 H0 A H σ env) {p : Addr} (h : H p = none) : Cl S0 H0 A p := by
  refine ⟨.inr (E.same.free h), fun z => ?_⟩
  obtain ⟨u, q, _⟩ := E.tr p z
  rw [h] at q; cases q
theorem sc_new (E : EnvOk K S0 H0 A H σ env) {c : Bool} {p : Addr} (h : H p = none) : SC c S0 H0 A p := fun _ => cl_new E h
theorem SlOk.mono {S' : Addr → Prop} (hL : ∀ a xs, S a → Rd H a (.lst xs) → S' a ∧ Rd H' a (.lst xs)) (hT : ∀ a xs, H a = some (.tup xs) → H' a = some (.tup xs)) (hD : ∀ a u, fz u = true → H a = some u → H' a = some u) (hA : ∀ a u, A a → H a = some u → isMut u = true → A' a ∧ H' a = some u) {s : Sl} {v : V} (h : SlOk K S A H s v) : SlOk K S' A' H' s v := by
  cases s with
  | un => trivial
  | val d => exact Rp.mono hL hT hD d v h
  | own ds =>
    obtain ⟨a, xs, e1, ha, hh, r⟩ := h
    obtain ⟨k1, k2⟩ := hA a _ ha hh rfl
    exact ⟨a, xs, e1, k1, k2, RpA.mono hL hT hD _ _ r⟩
  | ownT ds =>
    obtain ⟨a, xs, e1, ha, hh, r⟩ := h
    obtain ⟨k1, k2⟩ := hA a _ ha hh rfl
    exact ⟨a, xs, e1, k1, k2, RpD.mono hL hT hD _ _ _ _ r⟩
  | ownK ds =>
    obtain ⟨a, xs, e1, ha, hh, r⟩ := h
    obtain ⟨k1, k2⟩ := hA a _ ha hh rfl
    exact ⟨a, xs, e1, k1, k2, RpD.mono hL hT hD _ _ _ _ r⟩
  | exc a dd d =>
    obtain ⟨e1, u, hh, r⟩ := h
    exact ⟨e1, u, hD _ _ rfl hh, Rp.mono hL hT hD _ _ r⟩
  | fn a => exact h
/-- but for one place, that this slot does not stand at -/
theorem SlOk.at {S' : Addr → Prop} {p : Addr} (hL : ∀ a xs, S a → Rd H a (.lst xs) → S' a ∧ Rd H' a (.lst xs)) (hT : ∀ a xs, H a = some (.tup xs) → H' a = some (.tup xs)) (hD : ∀ a u, fz u = true → H a = some u → H' a = some u) (hA : ∀ a u, A a → H a = some u → isMut u = true → a ≠ p → A' a ∧ H' a = some u) {s : Sl} {v : V} (hp : ow s = true → v ≠ .ref p) (h : SlOk K S A H s v) : SlOk K S' A' H' s v := by
  cases s with
  | un => trivial
  | val d => exact Rp.mono hL hT hD d v h
  | own ds =>
    obtain ⟨a, xs, rfl, ha, hh, r⟩ := h
    obtain ⟨k1, k2⟩ := hA a _ ha hh rfl fun e => hp rfl (by rw [e])
    exact ⟨a, xs, rfl, k1, k2, RpA.mono hL hT hD _ _ r⟩
  | ownT ds =>
    obtain ⟨a, xs, rfl, ha, hh, r⟩ := h
    obtain ⟨k1, k2⟩ := hA a _ ha hh rfl fun e => hp rfl (by rw [e])
    exact ⟨a, xs, rfl, k1, k2, RpD.mono hL hT hD _ _ _ _ r⟩
  | ownK ds =>
    obtain ⟨a, xs, rfl, ha, hh, r⟩ := h
    obtain ⟨k1, k2⟩ := hA a _ ha hh rfl fun e => hp rfl (by rw [e])
    exact ⟨a, xs, rfl, k1, k2, RpD.mono hL hT hD _ _ _ _ r⟩
  | exc a dd d =>
    obtain ⟨e1, u, hh, r⟩ := h
    exact ⟨e1, u, hD _ _ rfl hh, Rp.mono hL hT hD _ _ r⟩
  | fn a => exact h
theorem SlOk.ref {s : Sl} {v : V} (o : ow s = true) (h : SlOk K S A H s v) : ∃ a u, v = .ref a ∧ A a ∧ H a = some u ∧ isMut u = true := by
  cases s with
  | un => cases o
  | val _ => cases o
  | own ds => obtain ⟨a, xs, e1, ha, hh, _⟩ := h; exact ⟨a, _, e1, ha, hh, rfl⟩
  | ownT ds => obtain ⟨a, xs, e1, ha, hh, _⟩ := h; exact ⟨a, _, e1, ha, hh, rfl⟩
  | ownK ds => obtain ⟨a, xs, e1, ha, hh, _⟩ := h; exact ⟨a, _, e1, ha, hh, rfl⟩
  | exc _ _ _ => cases o
  | fn _ => cases o
theorem SlOk.grow (e : Same H H') {s : Sl} {v : V} (h : SlOk K S A H s v) : SlOk K S A H' s v := SlOk.mono (fun _ _ s q => ⟨s, same_rd e q⟩) (fun _ _ q => same_t e q) (same_d e) (fun a u ha hu _ => ⟨ha, e _ _ hu⟩) h
theorem EnvOk.grow (E : EnvOk K S0 H0 A H σ env) (e : Same H H') : EnvOk K S0 H0 A H' σ env where
  len := E.len
  sl := fun i s h => (E.sl i s h).imp id fun ⟨v, h1, h2⟩ => ⟨v, h1, h2.grow e⟩
  dis := E.dis
  tr := fun a h => let ⟨u, q, m⟩ := E.tr a h; ⟨u, e _ _ q, m⟩
  nw := E.nw
  same := E.same.trans e
theorem set_get {α : Type} {l : List α} {i j : Nat} {x y : α} (h : (l.set i x)[j]? = some y) : (i = j ∧ j < l.length ∧ y = x) ∨ (i ≠ j ∧ l[j]? = some y) := by
  rw [List.getElem?_set] at h
  by_cases e : i = j
  · rw [if_pos e] at h
    by_cases q : i < l.length
    · rw [if_pos q] at h
      exact .inl ⟨e, e ▸ q, (Option.some.inj h).symm⟩
    · rw [if_neg q] at h; cases h
  · rw [if_neg e] at h
    exact .inr ⟨e, h⟩
theorem set_self {α : Type} {l : List α} {i : Nat} {x : α} (h : i < l.length) : (l.set i x)[i]? = some x := by simp [h]
theorem set_other {α : Type} {l : List α} {i j : Nat} {x : α} (h : i ≠ j) : (l.set i x)[j]? = l[j]? := by simp [List.getElem?_set, h]
theorem EnvOk.set_val (E : EnvOk K S0 H0 A H σ env) {i : Nat} {d : PyData} {v : V} (h : Rp K (Cl S0 H0 A) H d v) : EnvOk K S0 H0 A H (σ.set i (some v)) (env.set i (.val d)) where
  len := by simp [E.len]
  sl := fun j s q => by
    rcases set_get q with ⟨rfl, l, rfl⟩ | ⟨n, q⟩
    · exact .inr ⟨v, set_self (by rw [E.len]; exact l), h⟩
    · rw [set_other n]
      exact E.sl j s q
  dis := fun j k s t a q1 q2 o1 o2 q3 q4 => by
    rcases set_get q1 with ⟨_, _, z⟩ | ⟨n1, q1⟩
    · subst z; cases o1
    rcases set_get q2 with ⟨_, _, z⟩ | ⟨n2, q2⟩
    · subst z; cases o2
    rw [set_other n1] at q3
    rw [set_other n2] at q4
    exact E.dis j k s t a q1 q2 o1 o2 q3 q4
  tr := E.tr
  nw := E.nw
  same := E.same
/-- a fresh thing is kept by the slot i alone -/
theorem EnvOk.set_new (E : EnvOk K S0 H0 A H σ env) {i : Nat} {s0 : Sl} {u0 : HO} {p : Addr} (hs : Same H H') (hn : H p = none) (hp : H' p = some u0) (hm : isMut u0 = true) (ho : ow s0 = true) (h : SlOk K (fun a => Cl S0 H0 A a ∧ a ≠ p) (fun a => A a ∨ a = p) H' s0 (.ref p)) :
    EnvOk K S0 H0 (fun a => A a ∨ a = p) H' (σ.set i (some (.ref p))) (env.set i s0) where
  len := by simp [E.len]
  sl := fun j s q => by
    have wd : ∀ a, (Cl S0 H0 A a ∧ a ≠ p) → Cl S0 H0 (fun a => A a ∨ a = p) a := fun a z => ⟨z.1.1, fun y => y.elim z.1.2 z.2⟩
    rcases set_get q with ⟨rfl, l, rfl⟩ | ⟨n, q⟩
    · exact .inr ⟨_, set_self (by rw [E.len]; exact l), SlOk.mono (fun a xs z r => ⟨wd a z, r⟩) (fun _ _ z => z) (fun _ _ _ z => z) (fun _ _ z y _ => ⟨z, y⟩) h⟩
    · rw [set_other n]
      refine (E.sl j s q).imp id fun ⟨v, h1, h2⟩ => ⟨v, h1, ?_⟩
      have hL : ∀ a ys, Cl S0 H0 A a → Rd H a (.lst ys) → Cl S0 H0 (fun a => A a ∨ a = p) a ∧ Rd H' a (.lst ys) := fun a ys z r => ⟨wd a ⟨z, fun e => by
        subst e
        rcases r with r | ⟨o, r⟩ <;> (rw [hn] at r; cases r)⟩, same_rd hs r⟩
      exact SlOk.mono hL (fun _ _ z => same_t hs z) (same_d hs) (fun a u ha hu _ => ⟨.inl ha, hs _ _ hu⟩) h2
  dis := fun j k s t a q1 q2 o1 o2 q3 q4 => by
    have no : ∀ (m : Nat) (g : Sl), env[m]? = some g → ow g = true → σ[m]? ≠ some (some (.ref p)) := fun m g g1 og g2 => by
      rcases E.sl m _ g1 with z | ⟨v, z1, z2⟩
      · subst z; cases og
      · rw [g2] at z1
        cases z1
        obtain ⟨a, u, e, ha, hu, _⟩ := z2.ref og
        cases e
        rw [hn] at hu; cases hu
    rcases set_get q1 with ⟨rfl, l1, z⟩ | ⟨n1, q1⟩
    · rcases set_get q2 with ⟨e2, l2, z2⟩ | ⟨n2, q2⟩
      · exact e2
      · rw [set_self (by rw [E.len]; exact l1)] at q3
        cases q3
        rw [set_other n2] at q4
        exact absurd q4 (no k _ q2 o2)
    · rw [set_other n1] at q3
      rcases set_get q2 with ⟨rfl, l2, z2⟩ | ⟨n2, q2⟩
      · rw [set_self (by rw [E.len]; exact l2)] at q4
        cases q4
        exact absurd q3 (no j _ q1 o1)
      · rw [set_other n2] at q4
        exact E.dis j k s t a q1 q2 o1 o2 q3 q4
  tr := fun a h => by
    rcases h with h | rfl
    · obtain ⟨u, q, m⟩ := E.tr a h
      exact ⟨u, hs _ _ q, m⟩
    · exact ⟨u0, hp, hm⟩
  nw := fun a h => by
    rcases h with h | rfl
    · exact E.nw a h
    · exact E.same.free hn
  same := E.same.trans hs
/-- a fresh list is kept by the slot i alone -/
theorem EnvOk.set_own (E : EnvOk K S0 H0 A H σ env) {i : Nat} {ds : List PyData} {xs : List V} {p : Addr} (hs : Same H H') (hn : H p = none) (hp : H' p = some (.lst xs)) (h : RpA K (fun a => Cl S0 H0 A a ∧ a ≠ p) H' ds xs) :
    EnvOk K S0 H0 (fun a => A a ∨ a = p) H' (σ.set i (some (.ref p))) (env.set i (.own ds)) := E.set_new hs hn hp rfl rfl ⟨p, xs, rfl, .inr rfl, hp, h⟩
/-- an owned thing is changed -/
theorem EnvOk.mutG (E : EnvOk K S0 H0 A H σ env) {i : Nat} {s0 s1 : Sl} {u0 u1 : HO} {a : Addr} (hi : env[i]? = some s0) (o0 : ow s0 = true) (o1 : ow s1 = true) (hv : σ[i]? = some (some (.ref a))) (ha : A a) (hp : H a = some u0) (m0 : isMut u0 = true) (m1 : isMut u1 = true)
    (h : SlOk K (Cl S0 H0 A) A (upd H a u1) s1 (.ref a)) : EnvOk K S0 H0 A (upd H a u1) σ (env.set i s1) := by
  have hL : ∀ b ys, Cl S0 H0 A b → Rd H b (.lst ys) → Cl S0 H0 A b ∧ Rd (upd H a u1) b (.lst ys) := fun b ys z r => ⟨z, by
    have n : b ≠ a := fun e => z.2 (e ▸ ha)
    rcases r with r | ⟨o, r⟩
    · exact .inl (by rw [upd_ne n]; exact r)
    · exact .inr ⟨o, by rw [upd_ne n]; exact r⟩⟩
  have nf : ∀ b u, fz u = true → H b = some u → b ≠ a := fun b u z r e => E.no_frz z ha (e ▸ r)
  have hT : ∀ b ys, H b = some (.tup ys) → upd H a u1 b = some (.tup ys) := fun b ys r => by rw [upd_ne (fun e => E.no_tup ha (e ▸ r))]; exact r
  have hD : ∀ b u, fz u = true → H b = some u → upd H a u1 b = some u := fun b u z r => by rw [upd_ne (nf _ _ z r)]; exact r
  have hl : i < env.length := by
    obtain ⟨q, _⟩ := List.getElem?_eq_some_iff.mp hi
    exact q
  refine ⟨by simp [E.len], fun j s q => ?_, fun j k s t b q1 q2 p1 p2 q3 q4 => ?_, fun b hb => ?_, E.nw, fun b o q => ?_⟩
  · rcases set_get q with ⟨rfl, l, rfl⟩ | ⟨n, q⟩
    · exact .inr ⟨_, hv, h⟩
    · refine (E.sl j s q).imp id fun ⟨v, h1, h2⟩ => ⟨v, h1, ?_⟩
      exact SlOk.at (p := a) hL hT hD (fun b u hb hu _ hn => ⟨hb, by rw [upd_ne hn]; exact hu⟩) (fun os e => n (E.dis i j s0 s a hi q o0 os hv (by rw [h1, e]))) h2
  · have back : ∀ (m : Nat) (g : Sl), (env.set i s1)[m]? = some g → ow g = true → ∃ g', env[m]? = some g' ∧ ow g' = true := fun m g q og => by
      rcases set_get q with ⟨rfl, _, _⟩ | ⟨_, q⟩
      · exact ⟨s0, hi, o0⟩
      · exact ⟨g, q, og⟩
    obtain ⟨s', r1, z1⟩ := back j s q1 p1
    obtain ⟨t', r2, z2⟩ := back k t q2 p2
    exact E.dis j k s' t' b r1 r2 z1 z2 q3 q4
  · by_cases e : b = a
    · subst e
      exact ⟨u1, upd_same, m1⟩
    · obtain ⟨u, q, m⟩ := E.tr b hb
      exact ⟨u, by rw [upd_ne e]; exact q, m⟩
  · have n : b ≠ a := fun e => by
      subst e
      have z := E.nw b ha
      rw [q] at z; cases z
    rw [upd_ne n]
    exact E.same b o q
theorem EnvOk.upd_mono (E : EnvOk K S0 H0 A H σ env) {a : Addr} {u1 : HO} (ha : A a) : (∀ b ys, Cl S0 H0 A b → Rd H b (.lst ys) → Cl S0 H0 A b ∧ Rd (upd H a u1) b (.lst ys)) ∧ (∀ b ys, H b = some (.tup ys) → upd H a u1 b = some (.tup ys)) ∧ ∀ b u, fz u = true → H b = some u → upd H a u1 b = some u := by
  have nf : ∀ b u, fz u = true → H b = some u → b ≠ a := fun b u z r e => E.no_frz z ha (e ▸ r)
  refine ⟨fun b ys z r => ⟨z, ?_⟩, fun b ys r => by rw [upd_ne (fun e => E.no_tup ha (e ▸ r))]; exact r, fun b u z r => by rw [upd_ne (nf _ _ z r)]; exact r⟩
  have n : b ≠ a := fun e => z.2 (e ▸ ha)
  rcases r with r | ⟨o, r⟩
  · exact .inl (by rw [upd_ne n]; exact r)
  · exact .inr ⟨o, by rw [upd_ne n]; exact r⟩
/-- an owned list is changed -/
theorem EnvOk.mut (E : EnvOk K S0 H0 A H σ env) {i : Nat} {ds ds' : List PyData} {xs xs' : List V} {a : Addr} (hi : env[i]? = some (.own ds)) (hv : σ[i]? = some (some (.ref a))) (ha : A a) (hp : H a = some (.lst xs)) (h : RpA K (Cl S0 H0 A) H ds' xs') :
    EnvOk K S0 H0 A (upd H a (.lst xs')) σ (env.set i (.own ds')) := by
  obtain ⟨hL, hT, hD⟩ := E.upd_mono (u1 := .lst xs') ha
  exact E.mutG hi rfl rfl hv ha hp rfl rfl ⟨a, xs', rfl, ha, upd_same, RpA.mono hL hT hD _ _ h⟩
def frz (i : Nat) (env : En) : En := match env[i]? with
  | some (.own ds) => env.set i (.val (.list ds))
  | _ => env
theorem EnvOk.frz (E : EnvOk K S0 H0 A H σ env) (i : Nat) : ∃ A', EnvOk K S0 H0 A' H σ (Mir.frz i env) ∧ ∀ a, A' a → A a := by
  unfold Mir.frz
  split
  · rename_i ds hi
    rcases E.sl i _ hi with z | ⟨v, h1, a, xs, rfl, ha, hh, r⟩
    · cases z
    have wd : ∀ b, Cl S0 H0 A b → Cl S0 H0 (fun b => A b ∧ b ≠ a) b := fun b z => ⟨z.1, fun y => z.2 y.1⟩
    refine ⟨fun b => A b ∧ b ≠ a, ⟨by simp [E.len], fun j s q => ?_, fun j k s t b q1 q2 o1 o2 q3 q4 => ?_, fun b hb => E.tr b hb.1, fun b hb => E.nw b hb.1, E.same⟩, fun _ z => z.1⟩
    · rcases set_get q with ⟨rfl, l, rfl⟩ | ⟨n, q⟩
      · refine .inr ⟨_, h1, ?_⟩
        show Rp K _ H (.list ds) _
        rw [Rp]
        exact ⟨a, xs, rfl, .inl ⟨⟨.inr (E.nw a ha), fun y => y.2 rfl⟩, .inl hh⟩, r.wide wd⟩
      · refine (E.sl j s q).imp id fun ⟨v, h2, h3⟩ => ⟨v, h2, ?_⟩
        exact SlOk.at (p := a) (fun b xs z r => ⟨wd b z, r⟩) (fun _ _ z => z) (fun _ _ _ z => z) (fun b u hb hu _ hn => ⟨⟨hb, hn⟩, hu⟩) (fun os e => n (E.dis i j _ s a hi q rfl os h1 (by rw [h2, e]))) h3
    · rcases set_get q1 with ⟨_, _, z⟩ | ⟨n1, q1⟩
      · subst z; cases o1
      rcases set_get q2 with ⟨_, _, z⟩ | ⟨n2, q2⟩
      · subst z; cases o2
      exact E.dis j k s t b q1 q2 o1 o2 q3 q4
  · exact ⟨A, E, fun _ z => z⟩
/-- a dict is let go: it is locked -/
theorem EnvOk.lockD (E : EnvOk K S0 H0 A H σ env) {i : Nat} {s0 : Sl} {d : PyData} {u0 : HO} {a : Addr} {od : Obj} (hi : env[i]? = some s0) (o0 : ow s0 = true) (hv : σ[i]? = some (some (.ref a))) (ha : A a) (hp : H a = some u0)
    (h : Rp K (Cl S0 H0 A) (upd H a (.frz od u0)) d (.ref a)) : EnvOk K S0 H0 (fun b => A b ∧ b ≠ a) (upd H a (.frz od u0)) σ (env.set i (.val d)) := by
  obtain ⟨hL, hT, hD⟩ := E.upd_mono (u1 := .frz od u0) ha
  have wd : ∀ b, Cl S0 H0 A b → Cl S0 H0 (fun b => A b ∧ b ≠ a) b := fun b z => ⟨z.1, fun y => z.2 y.1⟩
  refine ⟨by simp [E.len], fun j s q => ?_, fun j k s t b q1 q2 o1 o2 q3 q4 => ?_, fun b hb => ?_, fun b hb => E.nw b hb.1, fun b o q => ?_⟩
  · rcases set_get q with ⟨rfl, l, rfl⟩ | ⟨n, q⟩
    · exact .inr ⟨_, hv, Rp.wide wd h⟩
    · refine (E.sl j s q).imp id fun ⟨v, h2, h3⟩ => ⟨v, h2, ?_⟩
      exact SlOk.at (p := a) (fun b xs z r => ⟨wd b z, (hL b xs z r).2⟩) hT hD (fun b u hb hu _ hn => ⟨⟨hb, hn⟩, by rw [upd_ne hn]; exact hu⟩) (fun os e => n (E.dis i j _ s a hi q o0 os hv (by rw [h2, e]))) h3
  · rcases set_get q1 with ⟨_, _, z⟩ | ⟨n1, q1⟩
    · subst z; cases o1
    rcases set_get q2 with ⟨_, _, z⟩ | ⟨n2, q2⟩
    · subst z; cases o2
    exact E.dis j k s t b q1 q2 o1 o2 q3 q4
  · obtain ⟨u, q, m⟩ := E.tr b hb.1
    exact ⟨u, by rw [upd_ne hb.2]; exact q, m⟩
  · have n : b ≠ a := fun e => by
      subst e
      have z := E.nw b ha
      rw [q] at z; cases z
    rw [upd_ne n]
    exact E.same b o q
end
end Mir

namespace Mir
open PySem PySem.Spec PyProof.Rows L2

/-! ### readings -/
def tE (K : PySem.W.Frag) (c : Bool) (f : En → Option PyData) : TE := fun σ H Q => ∃ S0 H0 A env d, EnvOk K S0 H0 A H σ env ∧ f env = some d ∧ ∀ v H', Same H H' → Rp K (SC c S0 H0 A) H' d v → Q v H'
/-- a fresh list -/
def tF (K : PySem.W.Frag) (c : Bool) (f : En → Option (List PyData)) : TE := fun σ H Q => ∃ S0 H0 A env ds, EnvOk K S0 H0 A H σ env ∧ f env = some ds ∧ ∀ p xs H', H p = none → Same H H' → H' p = some (.lst xs) → RpA K (fun a => SC c S0 H0 A a ∧ a ≠ p) H' ds xs → Q (.ref p) H'
def tT (K : PySem.W.Frag) (f : En → Option Bool) : TT := fun σ H Q => ∃ S0 H0 A env b, EnvOk K S0 H0 A H σ env ∧ f env = some b ∧ ∀ H', Same H H' → Q b H'
def tA (K : PySem.W.Frag) (c : Bool) (f : En → Option (List PyData)) : TA := fun σ H Q => ∃ S0 H0 A env ds, EnvOk K S0 H0 A H σ env ∧ f env = some ds ∧ ∀ vs H', Same H H' → RpA K (SC c S0 H0 A) H' ds vs → Q vs H'
/-- a target: touches the slots vs alone -/
def tG (K : PySem.W.Frag) (vs : List Nat) (g : PyData → En → Option En) : TG := fun v σ H Q => ∃ S0 H0 A env d env', EnvOk K S0 H0 A H σ env ∧ Rp K (Cl S0 H0 A) H d v ∧ g d env = some env' ∧ ∀ σ', EnvOk K S0 H0 A H σ' env' → wipe σ' vs = wipe σ vs → Q σ' H

inductive Out where
  | nx (e : En)
  | bk (e : En)
  | ct (e : En)
  | rt (d : PyData)
  | bad
def OutOk (K : PySem.W.Frag) (S0 : Addr → Prop) (H0 : Hp) (A : Addr → Prop) (H : Hp) (o : Out) (D : Ends) : Prop := match o with
  | .nx e => ∀ A' H' σ', EnvOk K S0 H0 A' H' σ' e → Fr A H H' → Sb A H A' → D.nx σ' H'
  | .bk e => ∀ A' H' σ', EnvOk K S0 H0 A' H' σ' e → Fr A H H' → Sb A H A' → D.bk σ' H'
  | .ct e => ∀ A' H' σ', EnvOk K S0 H0 A' H' σ' e → Fr A H H' → Sb A H A' → D.ct σ' H'
  | .rt d => ∀ v H', Same H0 H' → Rp K (Bd S0 H0) H' d v → D.rt v H'
  | .bad => False
def tS (K : PySem.W.Frag) (f : En → Out) : TS := fun D σ H => ∃ S0 H0 A env, EnvOk K S0 H0 A H σ env ∧ OutOk K S0 H0 A H (f env) D

section
variable {K : PySem.W.Frag} {S0 S : Addr → Prop} {H0 H H' H'' : Hp} {A A' A'' : Addr → Prop} {σ : L2.St} {env : En} {D : Ends}
theorem OutOk.step {o : Out} (h : OutOk K S0 H0 A H o D) (f : Fr A H H') (s : Sb A H A') : OutOk K S0 H0 A' H' o D := by
  cases o with
  | nx e => exact fun A2 H2 σ2 E f2 s2 => h A2 H2 σ2 E (f.trans s f2) (Sb.trans f s s2)
  | bk e => exact fun A2 H2 σ2 E f2 s2 => h A2 H2 σ2 E (f.trans s f2) (Sb.trans f s s2)
  | ct e => exact fun A2 H2 σ2 E f2 s2 => h A2 H2 σ2 E (f.trans s f2) (Sb.trans f s s2)
  | rt d => exact h
  | bad => exact h
theorem sc_cl {c : Bool} {a : Addr} (h : Cl S0 H0 A a) : SC c S0 H0 A a := fun _ => h
theorem cl_sc {a : Addr} (h : SC true S0 H0 A a) : Cl S0 H0 A a := h rfl
end

section
variable {X : Cx} {a b e : Expr} {es : List Expr} {pos : Pos} {c c1 c2 : Bool} {f g : En → Option PyData} {fa : En → Option (List PyData)} {fb : En → Option Bool}
theorem pe_w {t t' : TE} (h : PE X e t) (w : ∀ σ H Q, t' σ H Q → t σ H Q) : PE X e t' := ⟨fun pins s σ H Q I q => h.run pins s σ H Q I (w σ H Q q)⟩
theorem pt_w {t t' : TT} (h : PT X e t) (w : ∀ σ H Q, t' σ H Q → t σ H Q) : PT X e t' := ⟨fun pins s σ H Q I q => h.run pins s σ H Q I (w σ H Q q)⟩
theorem pw_w {t t' : TT} (h : PW X e t) (w : ∀ σ H Q, t' σ H Q → t σ H Q) : PW X e t' := ⟨fun wh pins s σ H Q I q => h.run wh pins s σ H Q I (w σ H Q q)⟩
theorem pa_w {t t' : TA} (h : PA X es t) (w : ∀ σ H Q, t' σ H Q → t σ H Q) : PA X es t' := ⟨fun pos pins s σ H Q I q => h.run pos pins s σ H Q I (w σ H Q q)⟩
theorem ps_w {st : Stmt} {t t' : TS} (h : PS X st t) (w : ∀ D σ H, t' D σ H → t D σ H) : PS X st t' := ⟨fun pins s σ H D I q => h.run pins s σ H D I (w D σ H q)⟩
theorem pss_w {st : List Stmt} {t t' : TS} (h : PSs X st t) (w : ∀ D σ H, t' D σ H → t D σ H) : PSs X st t' := ⟨fun pins s σ H D I q => h.run pins s σ H D I (w D σ H q)⟩
theorem pg_w {tg : Expr} {t t' : TG} (h : PG X tg t) (w : ∀ v σ H Q, t' v σ H Q → t v σ H Q) : PG X tg t' := ⟨fun pins s σ H v u Q I r q => h.run pins s σ H v u Q I r (w v σ H Q q)⟩

/-- what is clean may be borrowed -/
theorem ce_b (h : PE X e (tE X.K true f)) : PE X e (tE X.K false f) := pe_w h fun σ H Q ⟨S0, H0, A, env, d, E, hf, q⟩ =>
  ⟨S0, H0, A, env, d, E, hf, fun v H' s r => q v H' s (r.wide fun _ _ z => nomatch z)⟩
theorem ca_b (h : PA X es (tA X.K true fa)) : PA X es (tA X.K false fa) := pa_w h fun σ H Q ⟨S0, H0, A, env, d, E, hf, q⟩ =>
  ⟨S0, H0, A, env, d, E, hf, fun v H' s r => q v H' s (r.wide fun _ _ z => nomatch z)⟩
/-- a fresh list as a value -/
def eL (f : En → Option (List PyData)) : En → Option PyData := fun env => (f env).map .list
theorem ce_l (h : PE X e (tF X.K c fa)) : PE X e (tE X.K c (eL fa)) := pe_w h fun σ H Q ⟨S0, H0, A, env, d, E, hf, q⟩ => by
  unfold eL at hf
  cases hd : fa env with
  | none => rw [hd] at hf; cases hf
  | some ds =>
    rw [hd] at hf
    cases hf
    refine ⟨S0, H0, A, env, ds, E, hd, fun p xs H' hn s hp r => q _ H' s ?_⟩
    rw [Rp]
    exact ⟨p, xs, rfl, .inl ⟨sc_new E hn, .inl hp⟩, r.wide fun _ z => z.1⟩
/-- a value without lists is clean -/
def eN (f : En → Option PyData) : En → Option PyData := fun env => (f env).bind fun d => if noL d = true then some d else none
theorem ce_n (h : PE X e (tE X.K false f)) : PE X e (tE X.K c (eN f)) := pe_w h fun σ H Q ⟨S0, H0, A, env, d, E, hf, q⟩ => by
  unfold eN at hf
  cases hd : f env with
  | none => rw [hd] at hf; cases hf
  | some d' =>
    rw [hd] at hf
    by_cases n : noL d' = true
    · have hf' : (if noL d' = true then some d' else none) = some d := hf
      rw [if_pos n] at hf'
      cases hf'
      exact ⟨S0, H0, A, env, d, E, hd, fun v H' s r => q v H' s (Rp.noL d v n r)⟩
    · have hf' : (if noL d' = true then some d' else none) = some d := hf
      rw [if_neg n] at hf'; cases hf'

/-! ### names, constants -/
def eVar (i : Nat) : En → Option PyData := fun env => match env[i]? with
  | some (.val d) => some d
  | _ => none
def eBor (i : Nat) : En → Option PyData := fun env => match env[i]? with
  | some (.own ds) => some (.list ds)
  | _ => none
theorem ce_var {i : Nat} (h : PE X e (tVar i)) : PE X e (tE X.K true (eVar i)) := pe_w h fun σ H Q ⟨S0, H0, A, env, d, E, hf, q⟩ => by
  unfold eVar at hf
  split at hf
  · rename_i d' hi
    cases hf
    rcases E.sl i _ hi with z | ⟨v, h1, h2⟩
    · cases z
    · exact ⟨v, h1, q v H (Same.refl H) (Rp.wide (fun _ z => sc_cl z) h2)⟩
  · cases hf
theorem ce_bor {i : Nat} (h : PE X e (tVar i)) : PE X e (tE X.K false (eBor i)) := pe_w h fun σ H Q ⟨S0, H0, A, env, d, E, hf, q⟩ => by
  unfold eBor at hf
  split at hf
  · rename_i ds hi
    cases hf
    rcases E.sl i _ hi with z | ⟨v, h1, a, xs, rfl, ha, hh, r⟩
    · cases z
    · refine ⟨_, h1, q _ H (Same.refl H) ?_⟩
      rw [Rp]
      exact ⟨a, xs, rfl, .inl ⟨(fun z => nomatch z), .inl hh⟩, r.wide fun _ _ z => nomatch z⟩
  · cases hf
def eC (d : PyData) : En → Option PyData := fun _ => some d
theorem ce_c {v : V} {d : PyData} (h : PE X e (tC v)) (r : ∀ S H, Rp X.K S H d v) : PE X e (tE X.K true (eC d)) := pe_w h fun σ H Q ⟨S0, H0, A, env, d', E, hf, q⟩ => by
  cases hf
  exact q v H (Same.refl H) (r _ _)
theorem ce_int {i : Int} {j : Nat} : PE X (.Constant (.int i) j pos) (tE X.K true (eC (.int i))) := ce_c pe_int fun _ _ => by rw [Rp]
theorem ce_bl {i : Bool} {j : Nat} : PE X (.Constant (.bool i) j pos) (tE X.K true (eC (.bool i))) := ce_c pe_bl fun _ _ => by rw [Rp]
theorem ce_non {j : Nat} : PE X (.Constant .none j pos) (tE X.K true (eC .none)) := ce_c pe_non fun _ _ => by rw [Rp]
theorem ce_str {i : Str} {j : Nat} : PE X (.Constant (.str i) j pos) (tE X.K true (eC (.str i))) := ce_c pe_str fun _ _ => by rw [Rp]

/-! ### operations on two values -/
/-- sc: the value has no lists -/
def R2Ok (K : PySem.W.Frag) (sc : Bool) (r : R2) (h : PyData → PyData → Option PyData) : Prop := ∀ (S S' : Addr → Prop) (H : Hp) (x y : V) (dx dy d : PyData) (Q : VK), (∀ p, H p = none → S p) → (sc = true ∨ S' = S) → Rp K S H dx x → Rp K S H dy y → h dx dy = some d →
  (∀ v H', Same H H' → Rp K S' H' d v → Q v H') → r x y H Q
def e2 (h : PyData → PyData → Option PyData) (f g : En → Option PyData) : En → Option PyData := fun env => match f env with
  | some x => match g env with
    | some y => h x y
    | none => none
  | none => none
theorem e2_some {h : PyData → PyData → Option PyData} {env : En} {d : PyData} (q : e2 h f g env = some d) : ∃ x y, f env = some x ∧ g env = some y ∧ h x y = some d := by
  unfold e2 at q
  split at q
  · split at q
    · exact ⟨_, _, by assumption, by assumption, q⟩
    · cases q
  · cases q
theorem e2_run {K : PySem.W.Frag} {sc : Bool} {r : R2} {h : PyData → PyData → Option PyData} (R : R2Ok K sc r h) (hc : sc = true ∨ c2 = c1) {σ : L2.St} {H : Hp} {Q : VK} (q : tE K c2 (e2 h f g) σ H Q) : tOp r (tE K c1 f) (tE K c1 g) σ H Q := by
  obtain ⟨S0, H0, A, env, d, E, hf, q⟩ := q
  obtain ⟨x, y, h1, h2, h3⟩ := e2_some hf
  refine ⟨S0, H0, A, env, x, E, h1, fun v H1 s1 r1 => ⟨S0, H0, A, env, y, E.grow s1, h2, fun u H2 s2 r2 => ?_⟩⟩
  refine R (SC c1 S0 H0 A) (SC c2 S0 H0 A) H2 v u x y d Q (fun p hp => sc_new (E.grow (s1.trans s2)) hp) (hc.imp id fun z => by rw [z]) (r1.grow s2) r2 h3 fun z H3 s3 r3 => q z H3 ((s1.trans s2).trans s3) r3
theorem ce_op {op : Operator} {r : R2} {h : PyData → PyData → Option PyData} {sc : Bool} (ho : OpR X (binaryOp op) r) (R : R2Ok X.K sc r h) (ha : PE X a (tE X.K c1 f)) (hb : PE X b (tE X.K c1 g)) (hc : sc = true ∨ c2 = c1 := by first | exact .inl rfl | exact .inr rfl) :
    PE X (.BinOp a op b pos) (tE X.K c2 (e2 h f g)) := pe_w (pe_op ho ha hb) fun _ _ _ q => e2_run R hc q
theorem ce_cmp {op : CmpOp} {r : R2} {h : PyData → PyData → Option PyData} (ho : OpR X (compareOp op) r) (R : R2Ok X.K true r h) (ha : PE X a (tE X.K c1 f)) (hb : PE X b (tE X.K c1 g)) (hm : behindInMarks op b = false) :
    PE X (.Compare a [op] [b] pos) (tE X.K true (e2 h f g)) := pe_w (pe_cmpR ho ha hb hm) fun _ _ _ q => e2_run R (.inl rfl) q
/-- a value as a test -/
def t1 (f : En → Option PyData) : En → Option Bool := fun env => match f env with
  | some (.bool b) => some b
  | _ => none
theorem t1_some {env : En} {b : Bool} (q : t1 f env = some b) : f env = some (.bool b) := by
  unfold t1 at q
  split at q
  · rename_i h
    cases q
    exact h
  · cases q
theorem t1_run {K : PySem.W.Frag} {t : TE} {σ : L2.St} {H : Hp} {Q : Bool → Hp → Prop} (ht : ∀ Q, tE K c f σ H Q → t σ H Q) (q : tT K (t1 f) σ H Q) : t σ H fun x H1 => ∃ c, x = .bl c ∧ Q c H1 := by
  obtain ⟨S0, H0, A, env, d, E, hf, q⟩ := q
  refine ht _ ⟨S0, H0, A, env, _, E, t1_some hf, fun v H' s r => ⟨d, ?_, q H' s⟩⟩
  rw [Rp] at r
  exact r
theorem ct_cmp {op : CmpOp} {r : R2} {h : PyData → PyData → Option PyData} (ho : OpR X (compareOp op) r) (R : R2Ok X.K true r h) (ha : PE X a (tE X.K c1 f)) (hb : PE X b (tE X.K c1 g)) (hm : behindInMarks op b = false) :
    PT X (.Compare a [op] [b] pos) (tT X.K (t1 (e2 h f g))) := pt_w (pt_cmpR ho ha hb hm) fun σ H Q q => t1_run (c := true) (fun Q q => e2_run R (.inl rfl) q) q
theorem ct_val (ha : PE X e (tE X.K c f)) (he : ∀ whole, isTrue e X.env whole = (do let v ← whole; standAt e.pos; holding [v] (truthy v)) := by intro _; rfl) : PT X e (tT X.K (t1 f)) := pt_w (pt_val ha he) fun σ H Q q => t1_run (fun Q q => q) q

/-! ### truth -/
def truD : PyData → Option Bool
  | .none => some false
  | .bool b => some b
  | .int i => some (i != 0)
  | .str y => if y.length ≤ 1000000 then some ((y.length : Int) != 0) else none
  | .list ds => some (!ds.isEmpty)
  | .tuple ds => some (!ds.isEmpty)
  | .dict _ => none
theorem sz6 {n : Nat} (h : n ≤ 1000000) : n ≤ sizeLine := Nat.le_trans h (by decide)
theorem rpA_empty {K : PySem.W.Frag} {S : Addr → Prop} {H : Hp} {ds : List PyData} {xs : List V} (r : RpA K S H ds xs) : (!ds.isEmpty) = !xs.isEmpty := by
  cases ds with
  | nil => rw [RpA] at r; subst r; rfl
  | cons d ds =>
    rw [RpA] at r
    obtain ⟨v, r', rfl, _⟩ := r
    rfl
theorem truD_ok {K : PySem.W.Frag} {S : Addr → Prop} {H : Hp} {d : PyData} {v : V} {b : Bool} (r : Rp K S H d v) (h : truD d = some b) : TruV K v H b := by
  cases d with
  | none => rw [Rp] at r; subst r; cases h; rfl
  | bool k => rw [Rp] at r; subst r; cases h; rfl
  | int k => rw [Rp] at r; subst r; cases h; rfl
  | str k =>
    rw [Rp] at r; subst r
    simp only [truD] at h
    by_cases q : k.length ≤ 1000000
    · rw [if_pos q] at h; cases h; exact ⟨sz6 q, rfl⟩
    · rw [if_neg q] at h; cases h
  | list ds =>
    rw [Rp] at r
    obtain ⟨a, xs, rfl, q, r⟩ := r
    cases h
    exact .inl ⟨xs, q.sq, rpA_empty r⟩
  | tuple ds =>
    rw [Rp] at r
    obtain ⟨a, xs, rfl, q, r⟩ := r
    cases h
    exact .inr (.inl ⟨xs, live_t q, rpA_empty r⟩)
  | dict k => cases h
def tTr (f : En → Option PyData) : En → Option Bool := fun env => (f env).bind truD
theorem ct_tru (ha : PE X e (tE X.K c f)) (he : ∀ whole, isTrue e X.env whole = (do let v ← whole; standAt e.pos; holding [v] (truthy v)) := by intro _; rfl) : PT X e (tT X.K (tTr f)) := pt_w (pt_truth ha he) fun σ H Q ⟨S0, H0, A, env, b, E, hf, q⟩ => by
  unfold tTr at hf
  cases hd : f env with
  | none => rw [hd] at hf; cases hf
  | some d =>
    rw [hd] at hf
    exact ⟨S0, H0, A, env, d, E, hd, fun v H' s r => ⟨b, truD_ok r hf, q H' s⟩⟩

/-! ### and, or, not -/
variable {ga gb : En → Option Bool} {rest : List Expr}
def tAnd' (ga gb : En → Option Bool) : En → Option Bool := fun env => match ga env with
  | some true => gb env
  | some false => some false
  | none => none
def tOr' (ga gb : En → Option Bool) : En → Option Bool := fun env => match ga env with
  | some true => some true
  | some false => gb env
  | none => none
def tNot' (ga : En → Option Bool) : En → Option Bool := fun env => (ga env).map (!·)
theorem and_run {K : PySem.W.Frag} {σ : L2.St} {H : Hp} {Q : Bool → Hp → Prop} (q : tT K (tAnd' ga gb) σ H Q) : tAnd (tT K ga) (tT K gb) σ H Q := by
  obtain ⟨S0, H0, A, env, b, E, hf, q⟩ := q
  unfold tAnd' at hf
  split at hf
  · rename_i h
    exact ⟨S0, H0, A, env, true, E, h, fun H' s => iteT <| ⟨S0, H0, A, env, b, E.grow s, hf, fun H2 s2 => q H2 (s.trans s2)⟩⟩
  · rename_i h
    cases hf
    exact ⟨S0, H0, A, env, false, E, h, fun H' s => iteF <| q H' s⟩
  · cases hf
theorem or_run {K : PySem.W.Frag} {σ : L2.St} {H : Hp} {Q : Bool → Hp → Prop} (q : tT K (tOr' ga gb) σ H Q) : tOr (tT K ga) (tT K gb) σ H Q := by
  obtain ⟨S0, H0, A, env, b, E, hf, q⟩ := q
  unfold tOr' at hf
  split at hf
  · rename_i h
    cases hf
    exact ⟨S0, H0, A, env, true, E, h, fun H' s => iteT <| q H' s⟩
  · rename_i h
    exact ⟨S0, H0, A, env, false, E, h, fun H' s => iteF <| ⟨S0, H0, A, env, b, E.grow s, hf, fun H2 s2 => q H2 (s.trans s2)⟩⟩
  · cases hf
theorem cw_and1 (ha : PT X a (tT X.K ga)) : PW X (.BoolOp .And [a] pos) (tT X.K ga) := pw_and1 ha
theorem cw_or1 (ha : PT X a (tT X.K ga)) : PW X (.BoolOp .Or [a] pos) (tT X.K ga) := pw_or1 ha
theorem cw_and (ha : PT X a (tT X.K ga)) (hb : PW X (.BoolOp .And (b :: rest) pos) (tT X.K gb)) : PW X (.BoolOp .And (a :: b :: rest) pos) (tT X.K (tAnd' ga gb)) := pw_w (pw_and ha hb) fun _ _ _ q => and_run q
theorem cw_or (ha : PT X a (tT X.K ga)) (hb : PW X (.BoolOp .Or (b :: rest) pos) (tT X.K gb)) : PW X (.BoolOp .Or (a :: b :: rest) pos) (tT X.K (tOr' ga gb)) := pw_w (pw_or ha hb) fun _ _ _ q => or_run q
theorem ct_not (ha : PT X a (tT X.K ga)) : PT X (.UnaryOp .Not a pos) (tT X.K (tNot' ga)) := pt_w (pt_not ha) fun σ H Q ⟨S0, H0, A, env, b, E, hf, q⟩ => by
  unfold tNot' at hf
  cases hd : ga env with
  | none => rw [hd] at hf; cases hf
  | some d =>
    rw [hd] at hf
    cases hf
    exact ⟨S0, H0, A, env, d, E, hd, q⟩
/-- and, or, not as values -/
def eB (ga : En → Option Bool) : En → Option PyData := fun env => (ga env).map .bool
theorem ce_one {op : BoolOp} (h : PE X a (tE X.K c f)) : PE X (.BoolOp op [a] pos) (tE X.K c f) := pe_one h
def eAnd (f g : En → Option PyData) : En → Option PyData := fun env => match f env with
  | some (.bool true) => g env
  | some (.bool false) => some (.bool false)
  | _ => none
def eOr (f g : En → Option PyData) : En → Option PyData := fun env => match f env with
  | some (.bool true) => some (.bool true)
  | some (.bool false) => g env
  | _ => none
theorem ce_and (ha : PE X a (tE X.K c1 f)) (hb : PE X (.BoolOp .And (b :: rest) pos) (tE X.K c g)) : PE X (.BoolOp .And (a :: b :: rest) pos) (tE X.K c (eAnd f g)) := pe_w (pe_and ha hb) fun σ H Q ⟨S0, H0, A, env, d, E, hf, q⟩ => by
  unfold eAnd at hf
  split at hf
  · rename_i h
    refine ⟨S0, H0, A, env, _, E, h, fun v H' s r => ?_⟩
    rw [Rp] at r
    exact ⟨true, r, iteT <| ⟨S0, H0, A, env, d, E.grow s, hf, fun v2 H2 s2 r2 => q v2 H2 (s.trans s2) r2⟩⟩
  · rename_i h
    cases hf
    refine ⟨S0, H0, A, env, _, E, h, fun v H' s r => ?_⟩
    rw [Rp] at r
    exact ⟨false, r, iteF <| q _ H' s (by rw [Rp])⟩
  · cases hf
theorem ce_or (ha : PE X a (tE X.K c1 f)) (hb : PE X (.BoolOp .Or (b :: rest) pos) (tE X.K c g)) : PE X (.BoolOp .Or (a :: b :: rest) pos) (tE X.K c (eOr f g)) := pe_w (pe_or ha hb) fun σ H Q ⟨S0, H0, A, env, d, E, hf, q⟩ => by
  unfold eOr at hf
  split at hf
  · rename_i h
    cases hf
    refine ⟨S0, H0, A, env, _, E, h, fun v H' s r => ?_⟩
    rw [Rp] at r
    exact ⟨true, r, iteT <| q _ H' s (by rw [Rp])⟩
  · rename_i h
    refine ⟨S0, H0, A, env, _, E, h, fun v H' s r => ?_⟩
    rw [Rp] at r
    exact ⟨false, r, iteF <| ⟨S0, H0, A, env, d, E.grow s, hf, fun v2 H2 s2 r2 => q v2 H2 (s.trans s2) r2⟩⟩
  · cases hf
def eNot (f : En → Option PyData) : En → Option PyData := fun env => match f env with
  | some (.bool b) => some (.bool (!b))
  | _ => none
theorem ce_not (ha : PE X a (tE X.K c1 f)) : PE X (.UnaryOp .Not a pos) (tE X.K true (eNot f)) := pe_w (pe_not ha) fun σ H Q ⟨S0, H0, A, env, d, E, hf, q⟩ => by
  unfold eNot at hf
  split at hf
  · rename_i k h
    cases hf
    refine ⟨S0, H0, A, env, _, E, h, fun v H' s r => ?_⟩
    rw [Rp] at r
    exact ⟨k, r, q _ H' s (by rw [Rp])⟩
  · cases hf
def eIf (ga : En → Option Bool) (f g : En → Option PyData) : En → Option PyData := fun env => match ga env with
  | some true => f env
  | some false => g env
  | none => none
theorem ce_if {t : Expr} (ht : PT X t (tT X.K ga)) (ha : PE X a (tE X.K c f)) (hb : PE X b (tE X.K c g)) : PE X (.IfExp t a b pos) (tE X.K c (eIf ga f g)) := pe_w (pe_ifExp ht ha hb) fun σ H Q ⟨S0, H0, A, env, d, E, hf, q⟩ => by
  unfold eIf at hf
  split at hf
  · rename_i h
    exact ⟨S0, H0, A, env, _, E, h, fun H' s => iteT <| ⟨S0, H0, A, env, d, E.grow s, hf, fun v2 H2 s2 r2 => q v2 H2 (s.trans s2) r2⟩⟩
  · rename_i h
    exact ⟨S0, H0, A, env, _, E, h, fun H' s => iteF <| ⟨S0, H0, A, env, d, E.grow s, hf, fun v2 H2 s2 r2 => q v2 H2 (s.trans s2) r2⟩⟩
  · cases hf

/-! ### argument lists, displays -/
def aNil : En → Option (List PyData) := fun _ => some []
def aCons (f : En → Option PyData) (g : En → Option (List PyData)) : En → Option (List PyData) := fun env => match f env with
  | some d => match g env with
    | some ds => some (d :: ds)
    | none => none
  | none => none
theorem aCons_some {env : En} {es : List PyData} (q : aCons f fa env = some es) : ∃ d ds, f env = some d ∧ fa env = some ds ∧ es = d :: ds := by
  unfold aCons at q
  split at q
  · split at q
    · cases q
      exact ⟨_, _, by assumption, by assumption, rfl⟩
    · cases q
  · cases q
theorem ca_nil : PA X [] (tA X.K c aNil) := pa_w pa_nil fun σ H Q ⟨S0, H0, A, env, d, E, hf, q⟩ => by
  cases hf
  exact q [] H (Same.refl H) RpA.nil
theorem ca_cons (ha : PE X e (tE X.K c f)) (hr : PA X es (tA X.K c fa)) (hs : starEach (e :: es) X.env = (false, eval e X.env) :: starEach es X.env := by rfl) : PA X (e :: es) (tA X.K c (aCons f fa)) := pa_w (pa_cons ha hr hs) fun σ H Q ⟨S0, H0, A, env, d, E, hf, q⟩ => by
  obtain ⟨d1, ds, h1, h2, rfl⟩ := aCons_some hf
  exact ⟨S0, H0, A, env, d1, E, h1, fun v H1 s1 r1 => ⟨S0, H0, A, env, ds, E.grow s1, h2, fun vs H2 s2 r2 => q _ H2 (s1.trans s2) (RpA.cons (r1.grow s2) r2)⟩⟩
def eTup (fa : En → Option (List PyData)) : En → Option PyData := fun env => match fa env with
  | some ds => if ds.length ≤ 1000000 then some (.tuple ds) else none
  | none => none
theorem eTup_some {env : En} {d : PyData} (q : eTup fa env = some d) : ∃ ds, fa env = some ds ∧ ds.length ≤ 1000000 ∧ d = .tuple ds := by
  unfold eTup at q
  split at q
  · split at q
    · cases q; exact ⟨_, by assumption, by assumption, rfl⟩
    · cases q
  · cases q
theorem ce_tup {x1 : Nat} (h : PA X es (tA X.K c fa)) : PE X (.Tuple es x1 pos) (tE X.K c (eTup fa)) := pe_w (pe_tup h) fun σ H Q ⟨S0, H0, A, env, d, E, hf, q⟩ => by
  obtain ⟨ds, h1, h2, rfl⟩ := eTup_some hf
  refine ⟨S0, H0, A, env, ds, E, h1, fun vs H1 s1 r1 => ⟨by rw [r1.length]; exact sz6 h2, fun p hp => q _ _ (s1.trans fun b o z => by rw [upd_ne (ne_of_none z hp)]; exact z) ?_⟩⟩
  rw [Rp]
  exact ⟨p, vs, rfl, upd_same, r1.grow fun b o z => by rw [upd_ne (ne_of_none z hp)]; exact z⟩
def fLst (fa : En → Option (List PyData)) : En → Option (List PyData) := fun env => match fa env with
  | some ds => if ds.length ≤ 1000000 then some ds else none
  | none => none
theorem fLst_some {env : En} {d : List PyData} (q : fLst fa env = some d) : fa env = some d ∧ d.length ≤ 1000000 := by
  unfold fLst at q
  split at q
  · split at q
    · cases q; exact ⟨by assumption, by assumption⟩
    · cases q
  · cases q
theorem same_new {H : Hp} {p : Addr} {o : HO} (h : H p = none) : Same H (upd H p o) := fun b u e => by
  rw [upd_ne (ne_of_none e h)]
  exact e
/-- items that stood ahead of the new list do not lean on it -/
theorem RpA.apart {K : PySem.W.Frag} {S : Addr → Prop} {H H' : Hp} {p : Addr} {ds : List PyData} {vs : List V} (h : RpA K S H ds vs) (hp : H p = none) (s : Same H H') : RpA K (fun a => S a ∧ a ≠ p) H' ds vs :=
  RpA.mono (fun a xs z r => ⟨⟨z, fun e => by
    subst e
    rcases r with r | ⟨o, r⟩ <;> (rw [hp] at r; cases r)⟩, same_rd s r⟩) (fun _ _ z => same_t s z) (same_d s) ds vs h
theorem Rp.apart {K : PySem.W.Frag} {S : Addr → Prop} {H H' : Hp} {p : Addr} {d : PyData} {v : V} (h : Rp K S H d v) (hp : H p = none) (s : Same H H') : Rp K (fun a => S a ∧ a ≠ p) H' d v :=
  Rp.mono (fun a xs z r => ⟨⟨z, fun e => by
    subst e
    rcases r with r | ⟨o, r⟩ <;> (rw [hp] at r; cases r)⟩, same_rd s r⟩) (fun _ _ z => same_t s z) (same_d s) d v h
theorem cf_lst (h : PA X es (tA X.K c fa)) : PE X (.List es pos) (tF X.K c (fLst fa)) := pe_w (pe_lst h) fun σ H Q ⟨S0, H0, A, env, ds, E, hf, q⟩ => by
  obtain ⟨h1, h2⟩ := fLst_some hf
  refine ⟨S0, H0, A, env, ds, E, h1, fun vs H1 s1 r1 => ⟨by rw [r1.length]; exact sz6 h2, fun p hp => ?_⟩⟩
  exact q p vs _ (s1.free hp) (s1.trans (same_new hp)) upd_same (r1.apart hp (same_new hp))
end

/-! ### statements -/
section
variable {X : Cx} {e : Expr} {pos pos' : Pos} {c : Bool} {f : En → Option PyData} {fa : En → Option (List PyData)} {ga : En → Option Bool} {s t : En → Out} {st : Stmt} {sts : List Stmt}
def sNil : En → Out := fun env => .nx env
def sSeq (s t : En → Out) : En → Out := fun env => match s env with
  | .nx e => t e
  | .bk e => .bk e
  | .ct e => .ct e
  | .rt d => .rt d
  | .bad => .bad
theorem cs_nil : PSs X [] (tS X.K sNil) := pss_w pss_nil fun D σ H ⟨S0, H0, A, env, E, o⟩ => o A H σ E Fr.refl Sb.refl
theorem cs_cons (h1 : PS X st (tS X.K s)) (h2 : PSs X sts (tS X.K t)) : PSs X (st :: sts) (tS X.K (sSeq s t)) := pss_w (pss_cons h1 h2) fun D σ H ⟨S0, H0, A, env, E, o⟩ => by
  refine ⟨S0, H0, A, env, E, ?_⟩
  unfold sSeq at o
  cases hs : s env with
  | nx e =>
    rw [hs] at o
    exact fun A' H' σ' E' f' b' => ⟨S0, H0, A', e, E', OutOk.step o f' b'⟩
  | bk e => rw [hs] at o; exact o
  | ct e => rw [hs] at o; exact o
  | rt d => rw [hs] at o; exact o
  | bad => rw [hs] at o; exact o
theorem cs_one (h1 : PS X st (tS X.K s)) : PSs X [st] (tS X.K s) := pss_one h1
/-- ahead of the statement the list of the slot i is let go -/
theorem cs_frz {i : Nat} (h : PS X st (tS X.K s)) : PS X st (tS X.K fun env => s (frz i env)) := ps_w h fun D σ H ⟨S0, H0, A, env, E, o⟩ => by
  obtain ⟨A', E', w⟩ := E.frz i
  exact ⟨S0, H0, A', _, E', OutOk.step o Fr.refl fun a z => .inl (w a z)⟩
theorem css_frz {i : Nat} (h : PSs X sts (tS X.K s)) : PSs X sts (tS X.K fun env => s (frz i env)) := pss_w h fun D σ H ⟨S0, H0, A, env, E, o⟩ => by
  obtain ⟨A', E', w⟩ := E.frz i
  exact ⟨S0, H0, A', _, E', OutOk.step o Fr.refl fun a z => .inl (w a z)⟩
def sSet (i : Nat) (f : En → Option PyData) : En → Out := fun env => match f env with
  | some d => .nx (env.set i (.val d))
  | none => .bad
def sOwn (i : Nat) (f : En → Option (List PyData)) : En → Out := fun env => match f env with
  | some d => .nx (env.set i (.own d))
  | none => .bad
theorem set_run {K : PySem.W.Frag} {i : Nat} {D : Ends} {σ : L2.St} {H : Hp} (h : tS K (sSet i f) D σ H) : tAsg (tE K true f) (gName i) D σ H := by
  obtain ⟨S0, H0, A, env, E, o⟩ := h
  unfold sSet at o
  cases hd : f env with
  | none => rw [hd] at o; exact o.elim
  | some d =>
    rw [hd] at o
    exact ⟨S0, H0, A, env, d, E, hd, fun v H' s r => o A H' _ ((E.grow s).set_val (r.wide fun _ z => cl_sc z)) (Fr.of_same s) Sb.refl⟩
theorem own_run {K : PySem.W.Frag} {i : Nat} {D : Ends} {σ : L2.St} {H : Hp} (h : tS K (sOwn i fa) D σ H) : tAsg (tF K true fa) (gName i) D σ H := by
  obtain ⟨S0, H0, A, env, E, o⟩ := h
  unfold sOwn at o
  cases hd : fa env with
  | none => rw [hd] at o; exact o.elim
  | some ds =>
    rw [hd] at o
    refine ⟨S0, H0, A, env, ds, E, hd, fun p xs H' hn s hp r => o _ H' _ (E.set_own s hn hp (r.wide fun _ z => ⟨cl_sc z.1, z.2⟩)) (Fr.of_same s) fun a z => z.imp id fun e => by rw [e]; exact hn⟩
theorem cs_set {i : Nat} (h : PS X st (tAsg (tE X.K true f) (gName i))) : PS X st (tS X.K (sSet i f)) := ps_w h fun _ _ _ q => set_run q
theorem cs_own {i : Nat} (h : PS X st (tAsg (tF X.K true fa) (gName i))) : PS X st (tS X.K (sOwn i fa)) := ps_w h fun _ _ _ q => own_run q
/-- x.append(e), x an owned list -/
def sApp (i : Nat) (f : En → Option PyData) : En → Out := fun env => match f env with
  | some d => match env[i]? with
    | some (.own ds) => if ds.length < 1000000 then .nx (env.set i (.own (ds ++ [d]))) else .bad
    | _ => .bad
  | none => .bad
theorem app_run {K : PySem.W.Frag} {i : Nat} {D : Ends} {σ : L2.St} {H : Hp} (h : tS K (sApp i f) D σ H) : tDrop (tBM K "list" rAppend (tVar i) (tCons (tE K true f) tNil)) D σ H := by
  obtain ⟨S0, H0, A, env, E, o⟩ := h
  unfold sApp at o
  cases hd : f env with
  | none => rw [hd] at o; exact o.elim
  | some d =>
    rw [hd] at o
    replace o : OutOk K S0 H0 A H (match env[i]? with
      | some (.own ds) => if ds.length < 1000000 then .nx (env.set i (.own (ds ++ [d]))) else .bad
      | _ => .bad) D := o
    split at o
    · rename_i ds hi
      split at o
      · rename_i hl
        rcases E.sl i _ hi with z | ⟨v, h1, a, xs, rfl, ha, hh, r⟩
        · cases z
        refine ⟨_, h1, .inl ⟨rfl, xs, .inl (.inl hh)⟩, S0, H0, A, env, d, E, hd, fun v H' s r' => ?_⟩
        have E' := E.grow s
        refine ⟨a, xs, v, rfl, rfl, s _ _ hh, ?_, ?_⟩
        · rw [r.length]
          exact Nat.lt_of_lt_of_le hl (by decide)
        · have q := RpA.append (r.grow s) (RpA.cons (r'.wide fun _ z => cl_sc z) RpA.nil)
          refine o A _ σ (E'.mut hi h1 ha (s _ _ hh) q) (fun b u e n => ?_) Sb.refl
          have nb : b ≠ a := fun z => n (z ▸ ha)
          rw [upd_ne nb]
          exact s _ _ e
      · exact o.elim
    · exact o.elim
theorem cs_app {i : Nat} (h : PS X st (tDrop (tBM X.K "list" rAppend (tVar i) (tCons (tE X.K true f) tNil)))) : PS X st (tS X.K (sApp i f)) := ps_w h fun _ _ _ q => app_run q
/-- x[k] = e, x an owned list -/
def ixD (n : Nat) (k : PyData) : Option Nat := match k with
  | .int i => ixN n i
  | _ => none
def sPut (i : Nat) (fk f : En → Option PyData) : En → Out := fun env => match f env with
  | some d => match env[i]? with
    | some (.own ds) => match fk env with
      | some k => match ixD ds.length k with
        | some j => .nx (env.set i (.own (ds.set j d)))
        | none => .bad
      | none => .bad
    | _ => .bad
  | none => .bad
theorem put_run {K : PySem.W.Frag} {i : Nat} {fk : En → Option PyData} {D : Ends} {σ : L2.St} {H : Hp} (h : tS K (sPut i fk f) D σ H) : tAsg (tE K true f) (gSub (tVar i) (tE K c fk) rSetL) D σ H := by
  obtain ⟨S0, H0, A, env, E, o⟩ := h
  unfold sPut at o
  cases hd : f env with
  | none => rw [hd] at o; exact o.elim
  | some d =>
    rw [hd] at o
    refine ⟨S0, H0, A, env, d, E, hd, fun v H1 s1 r1 => ?_⟩
    cases hi : env[i]? with
    | none => rw [hi] at o; exact o.elim
    | some sl =>
      rw [hi] at o
      cases sl with
      | un => exact o.elim
      | val _ => exact o.elim
      | ownT _ => exact o.elim
      | ownK _ => exact o.elim
      | exc _ _ _ => exact o.elim
      | fn _ => exact o.elim
      | own ds =>
        cases hk : fk env with
        | none => rw [hk] at o; exact o.elim
        | some k =>
          rw [hk] at o
          cases hj : ixD ds.length k with
          | none => simp only [hj] at o; exact o.elim
          | some j =>
            simp only [hj] at o
            rcases E.sl i _ hi with z | ⟨_, h1, a, xs, rfl, ha, hh, r⟩
            · cases z
            refine ⟨_, h1, S0, H0, A, env, k, E.grow s1, hk, fun u H2 s2 r2 => ?_⟩
            cases k with
            | int m =>
              rw [Rp] at r2
              have hh2 := s2 _ _ (s1 _ _ hh)
              refine ⟨a, xs, m, j, rfl, r2, hh2, by rw [r.length]; exact hj, ?_⟩
              have q := (r.grow (s1.trans s2)).set (i := j) ((r1.wide fun _ z => cl_sc z).grow s2)
              refine o A _ σ ((E.grow (s1.trans s2)).mut hi h1 ha hh2 q) (fun b u e n => ?_) Sb.refl
              have nb : b ≠ a := fun z => n (z ▸ ha)
              rw [upd_ne nb]
              exact (s1.trans s2) _ _ e
            | none => cases hj
            | bool _ => cases hj
            | str _ => cases hj
            | list _ => cases hj
            | tuple _ => cases hj
            | dict _ => cases hj
theorem cs_put {i : Nat} {fk : En → Option PyData} (h : PS X st (tAsg (tE X.K true f) (gSub (tVar i) (tE X.K c fk) rSetL))) : PS X st (tS X.K (sPut i fk f)) := ps_w h fun _ _ _ q => put_run q
def sIf (ga : En → Option Bool) (s t : En → Out) : En → Out := fun env => match ga env with
  | some true => s env
  | some false => t env
  | none => .bad
theorem cs_if {a b : List Stmt} (hc : PT X e (tT X.K ga)) (ha : PSs X a (tS X.K s)) (hb : PSs X b (tS X.K t)) : PS X (.If e a b pos) (tS X.K (sIf ga s t)) := ps_w (ps_if hc ha hb) fun D σ H ⟨S0, H0, A, env, E, o⟩ => by
  unfold sIf at o
  cases hd : ga env with
  | none => rw [hd] at o; exact o.elim
  | some k =>
    rw [hd] at o
    refine ⟨S0, H0, A, env, k, E, hd, fun H' sm => ?_⟩
    cases k with
    | true => exact iteT <| ⟨S0, H0, A, env, E.grow sm, OutOk.step o (Fr.of_same sm) Sb.refl⟩
    | false => exact iteF <| ⟨S0, H0, A, env, E.grow sm, OutOk.step o (Fr.of_same sm) Sb.refl⟩
def sRet (f : En → Option PyData) : En → Out := fun env => match f env with
  | some d => .rt d
  | none => .bad
theorem cs_ret (h : PE X e (tE X.K true f)) : PS X (.Return (some e) pos) (tS X.K (sRet f)) := ps_w (ps_ret h) fun D σ H ⟨S0, H0, A, env, E, o⟩ => by
  unfold sRet at o
  cases hd : f env with
  | none => rw [hd] at o; exact o.elim
  | some d =>
    rw [hd] at o
    exact ⟨S0, H0, A, env, d, E, hd, fun v H' sm r => o v H' (E.same.trans sm) (r.wide fun _ z => (cl_sc z).1)⟩
def sRetN : En → Out := fun _ => .rt .none
theorem cs_retN : PS X (.Return none pos) (tS X.K sRetN) := ps_w ps_retN fun D σ H ⟨S0, H0, A, env, E, o⟩ => o _ H E.same (by rw [Rp])
def sBrk : En → Out := fun env => .bk env
def sCnt : En → Out := fun env => .ct env
theorem cs_brk : PS X (.Break pos) (tS X.K sBrk) := ps_w ps_break fun D σ H ⟨S0, H0, A, env, E, o⟩ => o A H σ E Fr.refl Sb.refl
theorem cs_cnt : PS X (.Continue pos) (tS X.K sCnt) := ps_w ps_continue fun D σ H ⟨S0, H0, A, env, E, o⟩ => o A H σ E Fr.refl Sb.refl
theorem cs_pass : PS X (.Pass pos) (tS X.K sNil) := ps_w ps_pass fun D σ H ⟨S0, H0, A, env, E, o⟩ => o A H σ E Fr.refl Sb.refl
/-- an expression for nothing -/
def sDrop (f : En → Option PyData) : En → Out := fun env => match f env with
  | some _ => .nx env
  | none => .bad
theorem cs_drop (h : PS X st (tDrop (tE X.K c f))) : PS X st (tS X.K (sDrop f)) := ps_w h fun D σ H ⟨S0, H0, A, env, E, o⟩ => by
  unfold sDrop at o
  cases hd : f env with
  | none => rw [hd] at o; exact o.elim
  | some d =>
    rw [hd] at o
    exact ⟨S0, H0, A, env, d, E, hd, fun v H' sm r => o A H' σ (E.grow sm) (Fr.of_same sm) Sb.refl⟩
/-- x += e, ints -/
def sAug (i : Nat) (k : Int → Int → Int) (f : En → Option PyData) : En → Out := fun env => match env[i]? with
  | some (.val (.int x)) => match f env with
    | some (.int y) => .nx (env.set i (.val (.int (k x y))))
    | _ => .bad
  | _ => .bad
theorem cs_aug {i : Nat} {k : Int → Int → Int} (h : PS X st (tAug i (tE X.K c f) (ipI k))) : PS X st (tS X.K (sAug i k f)) := ps_w h fun D σ H ⟨S0, H0, A, env, E, o⟩ => by
  unfold sAug at o
  split at o
  · rename_i x hi
    rcases E.sl i _ hi with z | ⟨v, h1, h2⟩
    · cases z
    have h2' : Rp X.K (Cl S0 H0 A) H (.int x) v := h2
    rw [Rp] at h2'
    subst h2'
    split at o
    · rename_i y hd
      refine ⟨_, h1, S0, H0, A, env, _, E, hd, fun u H' sm r => ?_⟩
      rw [Rp] at r
      refine ⟨x, y, rfl, r, o A H' _ ((E.grow sm).set_val (by rw [Rp])) (Fr.of_same sm) Sb.refl⟩
    · exact o.elim
  · exact o.elim
end
end Mir

namespace Mir
open PySem PySem.Spec PyProof.Rows L2

/-! ### targets -/
def gVal (i : Nat) : PyData → En → Option En := fun d env => some (env.set i (.val d))
def gMany : List Nat → List PyData → En → Option En
  | [], [], env => some env
  | i :: is, d :: ds, env => gMany is ds (env.set i (.val d))
  | _, _, _ => none
def gT (is : List Nat) : PyData → En → Option En := fun d env => match d with
  | .tuple ds => gMany is ds env
  | _ => none
def gsOf : List Nat → TGs
  | [] => gNil
  | i :: is => gCons (gName i) (gsOf is)
section
variable {X : Cx} {tg e iter : Expr} {pos : Pos} {K : PySem.W.Frag} {S0 : Addr → Prop} {H0 H H1 : Hp} {A : Addr → Prop} {σ : L2.St} {env : En}
theorem wipe_set {i : Nat} {x : Option V} : ∀ {is : List Nat}, (wipe (σ.set i x) is).set i none = (wipe σ is).set i none
  | [] => by simp [wipe]
  | j :: is => by
    show ((wipe (σ.set i x) is).set j none).set i none = ((wipe σ is).set j none).set i none
    by_cases h : j = i
    · subst h
      rw [List.set_set, List.set_set]
      exact wipe_set
    · rw [List.set_comm _ _ h, List.set_comm _ _ h, wipe_set]
theorem wipe_get (i : Nat) : ∀ (vs : List Nat), (wipe σ vs)[i]? = if i ∈ vs then (σ[i]?).map (fun _ => none) else σ[i]?
  | [] => by simp [wipe]
  | j :: vs => by
    show ((wipe σ vs).set j none)[i]? = _
    rw [List.getElem?_set, wipe_length]
    by_cases h : j = i
    · subst h
      rw [if_pos rfl, if_pos List.mem_cons_self]
      by_cases l : j < σ.length
      · rw [if_pos l, List.getElem?_eq_getElem l]; rfl
      · rw [if_neg l, List.getElem?_eq_none (by omega)]; rfl
    · rw [if_neg h, wipe_get i vs]
      by_cases m : i ∈ vs
      · rw [if_pos m, if_pos (List.mem_cons_of_mem _ m)]
      · rw [if_neg m, if_neg (fun z => by
          rcases List.mem_cons.mp z with z | z
          · exact h z.symm
          · exact m z)]
theorem wipe_wipe (vs : List Nat) : wipe (wipe σ vs) vs = wipe σ vs := by
  apply List.ext_getElem?
  intro i
  rw [wipe_get, wipe_get]
  split
  · cases σ[i]? <;> rfl
  · rfl
theorem cg_name {i : Nat} (h : PG X tg (gName i)) : PG X tg (tG X.K [i] (gVal i)) := pg_w h fun v σ H Q ⟨S0, H0, A, env, d, env', E, r, hg, q⟩ => by
  cases hg
  refine q _ (E.set_val r) ?_
  show (σ.set i (some v)).set i none = σ.set i none
  rw [List.set_set]
theorem many_run : ∀ {is : List Nat} {ds : List PyData} {vs : List V} {σ : L2.St} {env env' : En} {Q : L2.St → Hp → Prop}, EnvOk K S0 H0 A H σ env → RpA K (Cl S0 H0 A) H ds vs → gMany is ds env = some env' →
    (∀ σ', EnvOk K S0 H0 A H σ' env' → wipe σ' is = wipe σ is → Q σ' H) → gsOf is vs σ H Q
  | [], [], _, σ, env, env', Q, E, r, g, q => by
    rw [RpA] at r
    subst r
    cases g
    exact ⟨rfl, q σ E rfl⟩
  | [], _ :: _, _, _, _, _, _, _, _, g, _ => by cases g
  | _ :: _, [], _, _, _, _, _, _, _, g, _ => by cases g
  | i :: is, d :: ds, _, σ, env, env', Q, E, r, g, q => by
    rw [RpA] at r
    obtain ⟨v, r', rfl, h1, h2⟩ := r
    refine ⟨v, r', rfl, ?_⟩
    show gsOf is r' (σ.set i (some v)) H Q
    refine many_run (E.set_val h1) h2 g fun σ' E' w => q σ' E' ?_
    show (wipe σ' is).set i none = (wipe σ is).set i none
    rw [w, wipe_set]
theorem gMany_len : ∀ {is : List Nat} {ds : List PyData} {env env' : En}, gMany is ds env = some env' → ds.length = is.length
  | [], [], _, _, _ => rfl
  | [], _ :: _, _, _, g => by cases g
  | _ :: _, [], _, _, g => by cases g
  | _ :: is, _ :: ds, env, env', g => by
    rw [List.length_cons, List.length_cons, gMany_len (is := is) (ds := ds) g]
theorem cg_tup {is : List Nat} {n : Nat} (h : PG X tg (gTup X.K n (gsOf is))) (hn : n = is.length := by rfl) : PG X tg (tG X.K is (gT is)) := pg_w h fun v σ H Q ⟨S0, H0, A, env, d, env', E, r, hg, q⟩ => by
  cases d with
  | tuple ds =>
    rw [Rp] at r
    obtain ⟨a, xs, rfl, hs, ra⟩ := r
    exact ⟨a, xs, rfl, live_t hs, by rw [ra.length, hn]; exact gMany_len hg, many_run E ra hg q⟩
  | _ => cases hg

/-! ### what is walked -/
structure Wk (K : PySem.W.Frag) (J : It) (G : Hp → Prop) (S : Addr → Prop) (ds : List PyData) : Prop where
  go : ∀ i H, G H → i < ds.length → J.go i H
  yld : ∀ (i : Nat) H d x H', G H → ds[i]? = some d → J.yld i H x H' → Same H H' ∧ Rp K S H' d x
  stop : ∀ i H, G H → ds.length ≤ i → J.stop i H
/-- c: it stands still while the code runs -/
def tI (K : PySem.W.Frag) (c : Bool) (f : En → Option (List PyData)) : TI := fun σ H R => ∃ S0 H0 A env ds, EnvOk K S0 H0 A H σ env ∧ f env = some ds ∧ ∀ J H' G, Same H H' → (∀ H2, Same H' H2 → G H2) → (c = true → ∀ H2, Fr A H' H2 → G H2) →
  Wk K J G (fun b => Cl S0 H0 A b ∧ H' b ≠ none) ds → R J H'
theorem pi_w {t t' : TI} (h : PI X tg iter t) (w : ∀ σ H R, t' σ H R → t σ H R) : PI X tg iter t' := ⟨fun pins s σ H R I q => h.run pins s σ H R I (w σ H R q)⟩
def iAny (K : PySem.W.Frag) (tl : TE) : TI := fun σ H R => tl σ H fun x H1 => ∃ a, x = .ref a ∧ (((∃ xs, SqL K H1 a xs) ∧ R (Itl K a) H1) ∨ ((∃ xs, SqT K H1 a xs) ∧ R (Itt K a) H1))
theorem pi_any {l : Expr} {tl : TE} (hl : PE X l tl) : PI X tg l (iAny X.K tl) := by
  constructor
  intro pins s σ H R I h
  refine thn (hl.run pins s σ H _ I h) ?_
  rintro v t ⟨x, H1, I1, r1, a, rfl, h1⟩
  cases r1
  have nx : ∀ (o : Obj) (b : Addr) (u : Obj), t.heap.get? b = some u → (t.heap.push o).get? b = some u := fun o b u e => Heap.get?_push_of_some _ e
  rcases h1 with ⟨⟨xs, hq⟩, q⟩ | ⟨⟨xs, hq⟩, q⟩
  · obtain ⟨its, rv, pl, hz⟩ := I1.list hq
    refine wpAny_pyIter_list pl.isList ⟨t.heap.objs.size, [t.heap.objs.size], _, _, H1, rfl, I1.kept (t' := t.toks) (nx _), turn_list a _, ⟨_, Heap.get?_push_size _ rfl, rfl, rfl⟩, ?_, q⟩
    intro b hb
    rw [List.mem_singleton.mp hb]
    exact I1.fpOk (Nat.le_refl _) (I1.hok.fresh (Nat.le_refl _))
  · obtain ⟨its, rv, pl, hz⟩ := I1.tuple hq
    refine wpAny_pyIter_tuple (show t.heap.IsTuple a its.toArray from pl) ⟨t.heap.objs.size, [t.heap.objs.size], _, _, H1, rfl, I1.kept (t' := t.toks) (nx _), turn_tuple a _, ⟨_, Heap.get?_push_size _ rfl, rfl, rfl⟩, ?_, q⟩
    intro b hb
    rw [List.mem_singleton.mp hb]
    exact I1.fpOk (Nat.le_refl _) (I1.hok.fresh (Nat.le_refl _))
theorem fr_rd {u : HO} {a : Addr} (f : Fr A H H1) (n : ¬ A a) (h : Rd H a u) : Rd H1 a u := by
  rcases h with h | ⟨o, h⟩
  · exact .inl (f a _ h n)
  · exact .inr ⟨o, f a _ h n⟩
theorem fr_t (E : EnvOk K S0 H0 A H σ env) (f : Fr A H H1) {a : Addr} {xs : List V} (h : H a = some (.tup xs)) : H1 a = some (.tup xs) := f a _ h fun z => E.no_tup z h
theorem fr_d (E : EnvOk K S0 H0 A H σ env) (f : Fr A H H1) : ∀ a u, fz u = true → H a = some u → H1 a = some u := fun a u y h => f a _ h fun z => E.no_frz y z h
/-- what is clean stands still -/
theorem RpA.fr (E : EnvOk K S0 H0 A H σ env) (f : Fr A H H1) {S : Addr → Prop} (w : ∀ a, S a → ¬ A a) {ds : List PyData} {vs : List V} (h : RpA K S H ds vs) : RpA K (fun b => S b ∧ H b ≠ none) H1 ds vs :=
  RpA.mono (fun a xs z r => ⟨⟨z, fun e => by rcases r with r | ⟨o, r⟩ <;> (rw [e] at r; cases r)⟩, fr_rd f (w a z) r⟩) (fun _ _ z => fr_t E f z) (fr_d E f) ds vs h
theorem RpA.sm (s : Same H H1) {S : Addr → Prop} {ds : List PyData} {vs : List V} (h : RpA K S H ds vs) : RpA K (fun b => S b ∧ H b ≠ none) H1 ds vs :=
  RpA.mono (fun a xs z r => ⟨⟨z, fun e => by rcases r with r | ⟨o, r⟩ <;> (rw [e] at r; cases r)⟩, same_rd s r⟩) (fun _ _ z => same_t s z) (same_d s) ds vs h
theorem RpA.at {S : Addr → Prop} {ds : List PyData} {vs : List V} {i : Nat} {d : PyData} {x : V} (h : RpA K S H ds vs) (e : ds[i]? = some d) (g : vs[i]? = some x) : Rp K S H d x := by
  obtain ⟨v, e1, e2⟩ := h.get e
  rw [e1] at g
  cases g
  exact e2
theorem wk_list {a : Addr} {xs : List V} {ds : List PyData} {S : Addr → Prop} : Wk K (Itl K a) (fun H => SqL K H a xs ∧ RpA K S H ds xs) S ds where
  go := fun i H g l => ⟨xs, xs[i]'(by rw [g.2.length]; exact l), g.1, by rw [List.getElem?_eq_getElem]⟩
  yld := fun i H d x H' g e y => by
    obtain ⟨rfl, y⟩ := y
    exact ⟨Same.refl _, g.2.at e (y xs g.1)⟩
  stop := fun i H g l => ⟨xs, g.1, by rw [g.2.length]; exact l⟩
theorem wk_tup {a : Addr} {xs : List V} {ds : List PyData} {S : Addr → Prop} : Wk K (Itt K a) (fun H => H a = some (.tup xs) ∧ RpA K S H ds xs) S ds where
  go := fun i H g l => ⟨xs, xs[i]'(by rw [g.2.length]; exact l), live_t g.1, by rw [List.getElem?_eq_getElem]⟩
  yld := fun i H d x H' g e y => by
    obtain ⟨rfl, y⟩ := y
    exact ⟨Same.refl _, g.2.at e (y xs (live_t g.1))⟩
  stop := fun i H g l => ⟨xs, live_t g.1, by rw [g.2.length]; exact l⟩
def iSeq (f : En → Option PyData) : En → Option (List PyData) := fun env => match f env with
  | some (.list ds) => some ds
  | some (.tuple ds) => some ds
  | _ => none
theorem ci_seq {f : En → Option PyData} (h : PE X iter (tE X.K true f)) : PI X tg iter (tI X.K true (iSeq f)) := pi_w (pi_any h) fun σ H R ⟨S0, H0, A, env, ds, E, hf, q⟩ => by
  unfold iSeq at hf
  split at hf
  · rename_i es hd
    cases hf
    refine ⟨S0, H0, A, env, _, E, hd, fun v H1 s r => ?_⟩
    rw [Rp] at r
    obtain ⟨a, xs, rfl, hs, ra⟩ := r
    have ra' : RpA X.K (Cl S0 H0 A) H1 ds xs := ra.wide fun _ z => cl_sc z
    exact ⟨a, rfl, .inl ⟨⟨xs, hs.sq⟩, q _ H1 _ s (fun H2 s2 => ⟨s2.seq hs.sq, ra'.sm s2⟩) (fun _ H2 f2 => ⟨hs.imp (fun z => fr_rd f2 (cl_sc z.1).2 z.2) id, ra'.fr (E.grow s) f2 fun _ z => z.2⟩) wk_list⟩⟩
  · rename_i es hd
    cases hf
    refine ⟨S0, H0, A, env, _, E, hd, fun v H1 s r => ?_⟩
    rw [Rp] at r
    obtain ⟨a, xs, rfl, hs, ra⟩ := r
    have ra' : RpA X.K (Cl S0 H0 A) H1 ds xs := ra.wide fun _ z => cl_sc z
    exact ⟨a, rfl, .inr ⟨⟨xs, live_t hs⟩, q _ H1 _ s (fun H2 s2 => ⟨same_t s2 hs, ra'.sm s2⟩) (fun _ H2 f2 => ⟨fr_t (E.grow s) f2 hs, ra'.fr (E.grow s) f2 fun _ z => z.2⟩) wk_tup⟩⟩
  · cases hf
/-- an owned list, walked by a comprehension -/
def iOwn (i : Nat) : En → Option (List PyData) := fun env => match env[i]? with
  | some (.own ds) => some ds
  | _ => none
theorem ci_own {i : Nat} (h : PE X iter (tVar i)) : PI X tg iter (tI X.K false (iOwn i)) := pi_w (pi_any h) fun σ H R ⟨S0, H0, A, env, ds, E, hf, q⟩ => by
  unfold iOwn at hf
  split at hf
  · rename_i es hi
    cases hf
    rcases E.sl i _ hi with z | ⟨v, h1, a, xs, rfl, ha, hh, r⟩
    · cases z
    exact ⟨_, h1, a, rfl, .inl ⟨⟨xs, .inl (.inl hh)⟩, q _ H _ (Same.refl H) (fun H2 s2 => ⟨.inl (.inl (s2 _ _ hh)), r.sm s2⟩) (fun z => nomatch z) wk_list⟩⟩
  · cases hf
/-! ranges -/
def rngD (lo : Int) (n : Nat) : List PyData := (List.range n).map fun k => .int (lo + (k : Nat))
theorem rng_len (lo : Int) (n : Nat) : (rngD lo n).length = n := by simp [rngD]
theorem rng_get {lo : Int} {n i : Nat} {d : PyData} (h : (rngD lo n)[i]? = some d) : d = .int (lo + (i : Nat)) := by
  unfold rngD at h
  rw [List.getElem?_map] at h
  cases q : (List.range n)[i]? with
  | none => rw [q] at h; cases h
  | some k =>
    rw [q] at h
    rw [List.getElem?_range (by
      obtain ⟨l, _⟩ := List.getElem?_eq_some_iff.mp q
      simpa using l)] at q
    cases q
    exact (Option.some.inj h).symm
theorem wk_rng {lo : Int} {n : Nat} {S : Addr → Prop} : Wk K (Itr lo n) (fun _ => True) S (rngD lo n) where
  go := fun i H _ l => by rw [rng_len] at l; exact l
  yld := fun i H d x H' _ e y => by
    obtain ⟨rfl, rfl⟩ := y
    rw [rng_get e]
    exact ⟨Same.refl _, by rw [Rp]⟩
  stop := fun i H _ l => by rw [rng_len] at l; exact l
def iR1 (fa : En → Option (List PyData)) : En → Option (List PyData) := fun env => match fa env with
  | some [.int j] => if j < 1000000 ∧ -1000000 < j then some (rngD 0 j.toNat) else none
  | _ => none
def iR2 (fa : En → Option (List PyData)) : En → Option (List PyData) := fun env => match fa env with
  | some [.int i, .int j] => if (j < 1000000000 ∧ -1000000000 < j) ∧ i < 1000000000 ∧ -1000000000 < i then some (rngD i (j - i).toNat) else none
  | _ => none
theorem RpA.one {S : Addr → Prop} {d : PyData} {vs : List V} (h : RpA K S H [d] vs) : ∃ v, vs = [v] ∧ Rp K S H d v := by
  rw [RpA] at h
  obtain ⟨v, r, rfl, h1, h2⟩ := h
  rw [RpA] at h2
  subst h2
  exact ⟨v, rfl, h1⟩
theorem RpA.two {S : Addr → Prop} {d e : PyData} {vs : List V} (h : RpA K S H [d, e] vs) : ∃ v u, vs = [v, u] ∧ Rp K S H d v ∧ Rp K S H e u := by
  rw [RpA] at h
  obtain ⟨v, r, rfl, h1, h2⟩ := h
  obtain ⟨u, rfl, h3⟩ := h2.one
  exact ⟨v, u, rfl, h1, h3⟩
theorem ci_r1 {c : Bool} {fa : En → Option (List PyData)} (h : PI X tg iter (iRng1 (tA X.K c fa))) : PI X tg iter (tI X.K true (iR1 fa)) := pi_w h fun σ H R ⟨S0, H0, A, env, ds, E, hf, q⟩ => by
  unfold iR1 at hf
  split at hf
  · rename_i j hd
    split at hf
    · rename_i hj
      cases hf
      refine ⟨S0, H0, A, env, _, E, hd, fun vs H1 s r => ?_⟩
      obtain ⟨v, rfl, r1⟩ := r.one
      rw [Rp] at r1
      subst r1
      exact ⟨j, rfl, by omega, by omega, q _ H1 _ s (fun _ _ => trivial) (fun _ _ _ => trivial) wk_rng⟩
    · cases hf
  · cases hf
theorem ci_r2 {c : Bool} {fa : En → Option (List PyData)} (h : PI X tg iter (iRng2 (tA X.K c fa))) : PI X tg iter (tI X.K true (iR2 fa)) := pi_w h fun σ H R ⟨S0, H0, A, env, ds, E, hf, q⟩ => by
  unfold iR2 at hf
  split at hf
  · rename_i i j hd
    split at hf
    · rename_i hj
      cases hf
      refine ⟨S0, H0, A, env, _, E, hd, fun vs H1 s r => ?_⟩
      obtain ⟨v, u, rfl, r1, r2⟩ := r.two
      rw [Rp] at r1 r2
      subst r1 r2
      exact ⟨i, j, rfl, ⟨by omega, by omega, by omega, by omega⟩, q _ H1 _ s (fun _ _ => trivial) (fun _ _ _ => trivial) wk_rng⟩
    · cases hf
  · cases hf

/-! ### for, while -/
def loopF (g : PyData → En → Option En) (b : En → Out) : List PyData → En → Out
  | [], e => .nx e
  | d :: ds, e => match g d e with
    | none => .bad
    | some e1 => match b e1 with
      | .nx e2 => loopF g b ds e2
      | .ct e2 => loopF g b ds e2
      | .bk e2 => .nx e2
      | .rt v => .rt v
      | .bad => .bad
def sFor (f : En → Option (List PyData)) (g : PyData → En → Option En) (b : En → Out) : En → Out := fun env => match f env with
  | some ds => loopF g b ds env
  | none => .bad
theorem for_run {f : En → Option (List PyData)} {g : PyData → En → Option En} {b : En → Out} {vs : List Nat} {D : Ends} (h : tS K (sFor f g b) D σ H) : tFor (tI K true f) (tG K vs g) (tS K b) D σ H := by
  obtain ⟨S0, H0, A, env, E, o⟩ := h
  unfold sFor at o
  cases hd : f env with
  | none => rw [hd] at o; exact o.elim
  | some ds =>
    rw [hd] at o
    refine ⟨S0, H0, A, env, ds, E, hd, fun J H1 G s _ gF wk => ?_⟩
    refine ⟨fun i m σ' H' => m = ds.length - i ∧ i ≤ ds.length ∧ ∃ A' env', EnvOk K S0 H0 A' H' σ' env' ∧ Fr A H1 H' ∧ Sb A H1 A' ∧ OutOk K S0 H0 A' H' (loopF g b (ds.drop i) env') D,
      ⟨_, rfl, Nat.zero_le _, A, env, E.grow s, Fr.refl, Sb.refl, OutOk.step o (Fr.of_same s) Sb.refl⟩, ?_⟩
    rintro i m σ' H' ⟨rfl, hi, A', env', E', f', b', o'⟩
    by_cases hlt : i < ds.length
    · have hdr : ds.drop i = ds[i] :: ds.drop (i + 1) := List.drop_eq_getElem_cons hlt
      rw [hdr] at o'
      refine .inr ⟨wk.go i H' (gF rfl H' f') hlt, fun σ2 H2 => ∃ A2 e2, EnvOk K S0 H0 A2 H2 σ2 e2 ∧ Fr A H1 H2 ∧ Sb A H1 A2 ∧ OutOk K S0 H0 A2 H2 (loopF g b (ds.drop (i + 1)) e2) D, ?_, fun x Hx y => ?_⟩
      · rintro σ2 H2 ⟨A2, e2, z⟩
        exact ⟨ds.length - (i + 1), by omega, rfl, hlt, A2, e2, z⟩
      · obtain ⟨sx, rx⟩ := wk.yld i H' _ x Hx (gF rfl H' f') (List.getElem?_eq_getElem hlt) y
        have rx' : Rp K (Cl S0 H0 A') Hx ds[i] x := rx.wide fun a z => ⟨z.1.1, fun y => by
          rcases b' a y with k | k
          · exact z.1.2 k
          · exact z.2 k⟩
        simp only [loopF] at o'
        cases hg : g ds[i] env' with
        | none => rw [hg] at o'; exact o'.elim
        | some e1 =>
          rw [hg] at o'
          refine ⟨S0, H0, A', env', _, e1, E'.grow sx, rx', hg, fun σ1 E1 _ => ⟨S0, H0, A', e1, E1, ?_⟩⟩
          have fs : Fr A' H' Hx := Fr.of_same sx
          cases hb : b e1 with
          | nx e2 =>
            simp only [hb] at o'
            exact fun A2 H2 σ2 E2 f2 b2 => ⟨A2, e2, E2, f'.trans b' (fs.trans Sb.refl f2), Sb.trans f' b' (Sb.trans fs Sb.refl b2), OutOk.step o' (fs.trans Sb.refl f2) (Sb.trans fs Sb.refl b2)⟩
          | ct e2 =>
            simp only [hb] at o'
            exact fun A2 H2 σ2 E2 f2 b2 => ⟨A2, e2, E2, f'.trans b' (fs.trans Sb.refl f2), Sb.trans f' b' (Sb.trans fs Sb.refl b2), OutOk.step o' (fs.trans Sb.refl f2) (Sb.trans fs Sb.refl b2)⟩
          | bk e2 =>
            simp only [hb] at o'
            exact fun A2 H2 σ2 E2 f2 b2 => o' A2 H2 σ2 E2 (fs.trans Sb.refl f2) (Sb.trans fs Sb.refl b2)
          | rt v => simp only [hb] at o'; exact o'
          | bad => simp only [hb] at o'; exact o'
    · have hdr : ds.drop i = [] := List.drop_eq_nil_of_le (by omega)
      rw [hdr] at o'
      exact .inl ⟨wk.stop i H' (gF rfl H' f') (by omega), o' A' H' σ' E' Fr.refl Sb.refl⟩
def whlF (c : En → Option Bool) (b : En → Out) : Nat → En → Out
  | 0, _ => .bad
  | n + 1, e => match c e with
    | none => .bad
    | some false => .nx e
    | some true => match b e with
      | .nx e2 => whlF c b n e2
      | .ct e2 => whlF c b n e2
      | .bk e2 => .nx e2
      | .rt v => .rt v
      | .bad => .bad
theorem while_run {c : En → Option Bool} {b : En → Out} {n : Nat} {D : Ends} (h : tS K (whlF c b n) D σ H) : tWhile (tT K c) (tS K b) D σ H := by
  obtain ⟨S0, H0, A, env, E, o⟩ := h
  refine ⟨fun m σ' H' => ∃ A' env', EnvOk K S0 H0 A' H' σ' env' ∧ Fr A H H' ∧ Sb A H A' ∧ OutOk K S0 H0 A' H' (whlF c b m env') D, ⟨n, A, env, E, Fr.refl, Sb.refl, o⟩, ?_⟩
  rintro m σ' H' ⟨A', env', E', f', b', o'⟩
  cases m with
  | zero => exact o'.elim
  | succ m =>
    simp only [whlF] at o'
    cases hc : c env' with
    | none => rw [hc] at o'; exact o'.elim
    | some k =>
      rw [hc] at o'
      refine ⟨S0, H0, A', env', k, E', hc, fun H2 s2 => ?_⟩
      have fs : Fr A' H' H2 := Fr.of_same s2
      cases k with
      | false => exact iteF (o' A' H2 σ' (E'.grow s2) fs Sb.refl)
      | true =>
        refine iteT ⟨fun σ3 H3 => ∃ A3 e3, EnvOk K S0 H0 A3 H3 σ3 e3 ∧ Fr A H H3 ∧ Sb A H A3 ∧ OutOk K S0 H0 A3 H3 (whlF c b m e3) D, ?_, S0, H0, A', env', E'.grow s2, ?_⟩
        · rintro σ3 H3 ⟨A3, e3, z⟩
          exact ⟨m, Nat.lt_succ_self m, A3, e3, z⟩
        · cases hb : b env' with
          | nx e2 =>
            simp only [hb] at o'
            exact fun A2 H3 σ2 E2 f2 b2 => ⟨A2, e2, E2, f'.trans b' (fs.trans Sb.refl f2), Sb.trans f' b' (Sb.trans fs Sb.refl b2), OutOk.step o' (fs.trans Sb.refl f2) (Sb.trans fs Sb.refl b2)⟩
          | ct e2 =>
            simp only [hb] at o'
            exact fun A2 H3 σ2 E2 f2 b2 => ⟨A2, e2, E2, f'.trans b' (fs.trans Sb.refl f2), Sb.trans f' b' (Sb.trans fs Sb.refl b2), OutOk.step o' (fs.trans Sb.refl f2) (Sb.trans fs Sb.refl b2)⟩
          | bk e2 =>
            simp only [hb] at o'
            exact fun A2 H3 σ2 E2 f2 b2 => o' A2 H3 σ2 E2 (fs.trans Sb.refl f2) (Sb.trans fs Sb.refl b2)
          | rt v => simp only [hb] at o'; exact o'
          | bad => simp only [hb] at o'; exact o'
variable {st : Stmt} {f : En → Option (List PyData)} {g : PyData → En → Option En} {b : En → Out} {vs : List Nat}
theorem cs_for {body : List Stmt} (hp : PassesOwn (model X.prog X.w) X.A X.env X.xe) (hc : X.calm = true) (hi : PI X tg iter (tI X.K true f)) (hg : PG X tg (tG X.K vs g)) (hb : PSs X body (tS X.K b)) (hs : ∀ x, foldedSetIterable iter X.env x = pure x := by intro _; rfl) :
    PS X (.For tg iter body [] pos) (tS X.K (sFor f g b)) := ps_w (ps_for hp hc hi hg hb hs) fun _ _ _ q => for_run q
theorem cs_while {body : List Stmt} {c : En → Option Bool} (n : Nat) (hp : PassesOwn (model X.prog X.w) X.A X.env X.xe) (hc : PT X e (tT X.K c)) (hb : PSs X body (tS X.K b)) : PS X (.While e body [] pos) (tS X.K (whlF c b n)) := ps_w (ps_while hp hc hb) fun _ _ _ q => while_run q
/-- a, b, .. = e -/
def sUnp (f : En → Option PyData) (g : PyData → En → Option En) : En → Out := fun env => match f env with
  | some d => match g d env with
    | some e => .nx e
    | none => .bad
  | none => .bad
theorem cs_unp {fe : En → Option PyData} (h : PS X st (tAsg (tE X.K true fe) (tG X.K vs g))) : PS X st (tS X.K (sUnp fe g)) := ps_w h fun D σ H ⟨S0, H0, A, env, E, o⟩ => by
  unfold sUnp at o
  cases hd : fe env with
  | none => rw [hd] at o; exact o.elim
  | some d =>
    simp only [hd] at o
    cases hg : g d env with
    | none => simp only [hg] at o; exact o.elim
    | some e =>
      simp only [hg] at o
      exact ⟨S0, H0, A, env, d, E, hd, fun v H1 s r => ⟨S0, H0, A, env, d, e, E.grow s, r.wide fun _ z => cl_sc z, hg, fun σ' E' _ => o A H1 σ' E' (Fr.of_same s) Sb.refl⟩⟩

/-! ### comprehensions -/
def wipeE : En → List Nat → En
  | env, [] => env
  | env, i :: is => (wipeE env is).set i .un
theorem EnvOk.un (E : EnvOk K S0 H0 A H σ env) (i : Nat) (o : Option V) : EnvOk K S0 H0 A H (σ.set i o) (env.set i .un) where
  len := by simp [E.len]
  sl := fun j s q => by
    rcases set_get q with ⟨rfl, l, rfl⟩ | ⟨n, q⟩
    · exact .inl rfl
    · rw [set_other n]
      exact E.sl j s q
  dis := fun j k s t a q1 q2 o1 o2 q3 q4 => by
    rcases set_get q1 with ⟨_, _, z⟩ | ⟨n1, q1⟩
    · subst z; cases o1
    rcases set_get q2 with ⟨_, _, z⟩ | ⟨n2, q2⟩
    · subst z; cases o2
    rw [set_other n1] at q3
    rw [set_other n2] at q4
    exact E.dis j k s t a q1 q2 o1 o2 q3 q4
  tr := E.tr
  nw := E.nw
  same := E.same
theorem EnvOk.wipe (E : EnvOk K S0 H0 A H σ env) : ∀ is : List Nat, EnvOk K S0 H0 A H (L2.wipe σ is) (wipeE env is)
  | [] => E
  | i :: is => EnvOk.un (EnvOk.wipe E is) i none
/-- a new thing that no slot keeps -/
theorem EnvOk.add (E : EnvOk K S0 H0 A H σ env) {u0 : HO} {p : Addr} (hs : Same H H1) (hn : H p = none) (hp : H1 p = some u0) (hm : isMut u0 = true := by rfl) : EnvOk K S0 H0 (fun a => A a ∨ a = p) H1 σ env where
  len := E.len
  sl := fun j s q => by
    refine (E.sl j s q).imp id fun ⟨v, h1, h2⟩ => ⟨v, h1, ?_⟩
    have hL : ∀ a ys, Cl S0 H0 A a → Rd H a (.lst ys) → Cl S0 H0 (fun a => A a ∨ a = p) a ∧ Rd H1 a (.lst ys) := fun a ys z r => ⟨⟨z.1, fun y => by
      rcases y with y | y
      · exact z.2 y
      · subst y
        rcases r with r | ⟨o, r⟩ <;> (rw [hn] at r; cases r)⟩, same_rd hs r⟩
    exact SlOk.mono hL (fun _ _ z => same_t hs z) (same_d hs) (fun a u ha hu _ => ⟨.inl ha, hs _ _ hu⟩) h2
  dis := E.dis
  tr := fun a h => by
    rcases h with h | rfl
    · obtain ⟨u, q, m⟩ := E.tr a h
      exact ⟨u, hs _ _ q, m⟩
    · exact ⟨u0, hp, hm⟩
  nw := fun a h => by
    rcases h with h | rfl
    · exact E.nw a h
    · exact E.same.free hn
  same := E.same.trans hs
def compF (g : PyData → En → Option En) (ga : En → Option Bool) (fe : En → Option PyData) (env : En) : List PyData → Option (List PyData)
  | [] => some []
  | d :: ds => match g d env with
    | none => none
    | some e1 => match ga e1 with
      | none => none
      | some false => compF g ga fe env ds
      | some true => match fe e1 with
        | none => none
        | some v => match compF g ga fe env ds with
          | none => none
          | some vs => some (v :: vs)
def fCmp (is : List Nat) (f : En → Option (List PyData)) (g : PyData → En → Option En) (ga : En → Option Bool) (fe : En → Option PyData) : En → Option (List PyData) := fun env => match f env with
  | none => none
  | some ds => match compF g ga fe (wipeE env is) ds with
    | none => none
    | some vs => if vs.length ≤ 1000000 then some vs else none
def tYes' : En → Option Bool := fun _ => some true
theorem yes_run {Q : Bool → Hp → Prop} (h : tT K tYes' σ H Q) : tYes σ H Q := by
  obtain ⟨S0, H0, A, env, b, E, hb, q⟩ := h
  cases hb
  exact q H (Same.refl H)
theorem upd_monoD {S : Addr → Prop} {p : Addr} {u0 u1 : HO} (hp : H p = some u0) (hm : isMut u0 = true) : (∀ a zs, (S a ∧ a ≠ p) → Rd H a (.lst zs) → (S a ∧ a ≠ p) ∧ Rd (upd H p u1) a (.lst zs)) ∧ (∀ a zs, H a = some (.tup zs) → upd H p u1 a = some (.tup zs)) ∧ ∀ a u, fz u = true → H a = some u → upd H p u1 a = some u := by
  have nf : ∀ a u, fz u = true → H a = some u → a ≠ p := fun a u z r e => by rw [e, hp] at r; cases r; exact fz_mut z hm
  refine ⟨fun a zs z r => ⟨z, ?_⟩, fun a zs r => by rw [upd_ne (fun e => by rw [e, hp] at r; cases r; cases hm)]; exact r, fun a u z r => by rw [upd_ne (nf _ _ z r)]; exact r⟩
  rcases r with r | ⟨o, r⟩
  · exact .inl (by rw [upd_ne z.2]; exact r)
  · exact .inr ⟨o, by rw [upd_ne z.2]; exact r⟩
theorem RpA.updD {S : Addr → Prop} {p : Addr} {xs ys : List V} {ds : List PyData} {vs : List V} (h : RpA K (fun a => S a ∧ a ≠ p) H ds vs) (hp : H p = some (.lst xs)) : RpA K (fun a => S a ∧ a ≠ p) (upd H p (.lst ys)) ds vs := by
  obtain ⟨h1, h2, h3⟩ := upd_monoD (S := S) (u1 := .lst ys) hp rfl
  exact RpA.mono h1 h2 h3 ds vs h
theorem lc_run {c c2 : Bool} {ga : En → Option Bool} {fe : En → Option PyData} {is : List Nat} {tt : TT} {Q : VK} (ht : ∀ σ H Q, tT K ga σ H Q → tt σ H Q) (h : tF K c2 (fCmp is f g ga fe) σ H Q) : tLc (tI K c f) (tG K is g) tt (tE K true fe) is σ H Q := by
  obtain ⟨S0, H0, A, env, res, E, hf, q⟩ := h
  unfold fCmp at hf
  cases hd : f env with
  | none => rw [hd] at hf; cases hf
  | some ds =>
    simp only [hd] at hf
    cases hc : compF g ga fe (wipeE env is) ds with
    | none => simp only [hc] at hf; cases hf
    | some vs =>
      simp only [hc] at hf
      split at hf
      · rename_i hlen
        cases hf
        refine ⟨S0, H0, A, env, ds, E, hd, fun J H1 G s gS _ wk D hD => ?_⟩
        have E1 := E.grow s
        refine ⟨fun i m H2 => m = ds.length - i ∧ i ≤ ds.length ∧ Same H1 H2 ∧ ∃ acc accD rest, H2 D = some (.lst acc) ∧ RpA K (fun a => Cl S0 H0 A a ∧ a ≠ D) H2 accD acc ∧ compF g ga fe (wipeE env is) (ds.drop i) = some rest ∧ accD ++ rest = res,
          ⟨_, rfl, Nat.zero_le _, same_new hD, [], [], res, upd_same, RpA.nil, hc, rfl⟩, ?_⟩
        rintro i m H2 ⟨rfl, hi, s2, acc, accD, rest, hacc, racc, hrest, hres⟩
        by_cases hlt : i < ds.length
        · have hdr : ds.drop i = ds[i] :: ds.drop (i + 1) := List.drop_eq_getElem_cons hlt
          rw [hdr] at hrest
          refine .inr ⟨wk.go i H2 (gS H2 s2) hlt, fun H3 => Same H1 H3 ∧ ∃ acc accD rest, H3 D = some (.lst acc) ∧ RpA K (fun a => Cl S0 H0 A a ∧ a ≠ D) H3 accD acc ∧ compF g ga fe (wipeE env is) (ds.drop (i + 1)) = some rest ∧ accD ++ rest = res, ?_, fun x Hx y => ?_⟩
          · rintro H3 ⟨s3, z⟩
            exact ⟨ds.length - (i + 1), by omega, rfl, hlt, s3, z⟩
          · obtain ⟨sx, rx⟩ := wk.yld i H2 _ x Hx (gS H2 s2) (List.getElem?_eq_getElem hlt) y
            have E2 : EnvOk K S0 H0 (fun a => A a ∨ a = D) Hx (L2.wipe σ is) (wipeE env is) := (E1.wipe is).add (s2.trans sx) hD (sx _ _ hacc)
            have rx' : Rp K (Cl S0 H0 (fun a => A a ∨ a = D)) Hx ds[i] x := rx.wide fun a z => ⟨z.1.1, fun y => by
              rcases y with k | k
              · exact z.1.2 k
              · exact z.2 (by rw [k]; exact hD)⟩
            simp only [compF] at hrest
            cases hg : g ds[i] (wipeE env is) with
            | none => rw [hg] at hrest; cases hrest
            | some e1 =>
              simp only [hg] at hrest
              refine ⟨S0, H0, _, _, _, e1, E2, rx', hg, fun σ2 E3 w3 => ⟨by rw [w3, wipe_wipe], ht _ _ _ ?_⟩⟩
              cases hga : ga e1 with
              | none => simp only [hga] at hrest; cases hrest
              | some k =>
                refine ⟨S0, H0, _, e1, k, E3, hga, fun H3 s3 => ?_⟩
                cases k with
                | false =>
                  simp only [hga] at hrest
                  exact iteF ⟨(s2.trans sx).trans s3, acc, accD, rest, s3 _ _ (sx _ _ hacc), (racc.grow sx).grow s3, hrest, hres⟩
                | true =>
                  simp only [hga] at hrest
                  cases hfe : fe e1 with
                  | none => simp only [hfe] at hrest; cases hrest
                  | some v =>
                    simp only [hfe] at hrest
                    cases hr2 : compF g ga fe (wipeE env is) (ds.drop (i + 1)) with
                    | none => simp only [hr2] at hrest; cases hrest
                    | some rest2 =>
                      simp only [hr2] at hrest
                      cases hrest
                      refine iteT ⟨S0, H0, _, e1, v, E3.grow s3, hfe, fun y H4 s4 r4 => ?_⟩
                      have h4 := s4 _ _ (s3 _ _ (sx _ _ hacc))
                      have r4' : Rp K (fun a => Cl S0 H0 A a ∧ a ≠ D) H4 v y := r4.wide fun a z => ⟨⟨(cl_sc z).1, fun k => (cl_sc z).2 (.inl k)⟩, fun k => (cl_sc z).2 (.inr k)⟩
                      have al : acc.length < sizeLine := by
                        rw [racc.length]
                        have : accD.length < res.length := by rw [← hres]; simp
                        exact Nat.lt_of_lt_of_le this (sz6 hlen)
                      refine ⟨acc, h4, al, fun b u e => ?_, acc ++ [y], accD ++ [v], rest2, upd_same, ?_, rfl, by rw [← hres]; simp⟩
                      · rw [upd_ne (ne_of_none e hD)]
                        exact s4 _ _ (s3 _ _ (sx _ _ (s2 _ _ e)))
                      · exact RpA.updD ((((racc.grow sx).grow s3).grow s4).append (RpA.cons r4' RpA.nil)) h4
        · have hdr : ds.drop i = [] := List.drop_eq_nil_of_le (by omega)
          rw [hdr] at hrest
          cases hrest
          rw [List.append_nil] at hres
          subst hres
          exact .inl ⟨wk.stop i H2 (gS H2 s2) (by omega), q D acc H2 (s.free hD) (s.trans s2) hacc (racc.wide fun a z => ⟨fun _ => z.1, z.2⟩)⟩
      · cases hf
theorem cf_lc {c c2 : Bool} {ga : En → Option Bool} {fe : En → Option PyData} {is : List Nat} (h : PE X e (tLc (tI X.K c f) (tG X.K is g) (tT X.K ga) (tE X.K true fe) is)) : PE X e (tF X.K c2 (fCmp is f g ga fe)) := pe_w h fun _ _ _ q => lc_run (fun _ _ _ z => z) q
theorem cf_lc1 {c c2 : Bool} {fe : En → Option PyData} {is : List Nat} (h : PE X e (tLc (tI X.K c f) (tG X.K is g) tYes (tE X.K true fe) is)) : PE X e (tF X.K c2 (fCmp is f g tYes' fe)) := pe_w h fun _ _ _ q => lc_run (fun _ _ _ z => yes_run z) q
theorem cs_lcO {i : Nat} {c : Bool} {ga : En → Option Bool} {fe : En → Option PyData} {is : List Nat} (h : PS X st (tAsg (tLc (tI X.K c f) (tG X.K is g) (tT X.K ga) (tE X.K true fe) is) (gName i))) : PS X st (tS X.K (sOwn i (fCmp is f g ga fe))) :=
  ps_w h fun D σ H q => lc_run (c2 := true) (fun _ _ _ z => z) (own_run q)
theorem cs_lcO1 {i : Nat} {c : Bool} {fe : En → Option PyData} {is : List Nat} (h : PS X st (tAsg (tLc (tI X.K c f) (tG X.K is g) tYes (tE X.K true fe) is) (gName i))) : PS X st (tS X.K (sOwn i (fCmp is f g tYes' fe))) :=
  ps_w h fun D σ H q => lc_run (c2 := true) (fun _ _ _ z => yes_run z) (own_run q)
end
end Mir

namespace Mir
open PySem PySem.Spec PyProof.Rows L2

/-! ### a def -/
def spF (K : PySem.W.Frag) (g : List PyData → Option PyData) : Sp := fun vs H Q _ => ∃ S ds d, RpA K S H ds vs ∧ g ds = some d ∧ ∀ v H', Same H H' → Rp K (Bd S H) H' d v → Q v H'
def env0 (nN : Nat) (ds : List PyData) : En := ds.map .val ++ List.replicate (nN - ds.length) .un
def outD : Out → Option PyData
  | .rt d => some d
  | .nx _ => some .none
  | _ => none
def gDef (np nN : Nat) (fB : En → Out) : List PyData → Option PyData := fun ds => if ds.length = np then outD (fB (env0 nN ds)) else none
section
variable {K : PySem.W.Frag}
theorem def_run {N : List Str} {np : Nat} {fB : En → Out} {vs : List V} {H : Hp} {Q : VK} {E : XK} (h : spF K (gDef np N.length fB) vs H Q E) : tS K fB { nx := fun _ H' => Q .non H', rt := Q } (L2.start N vs) H := by
  obtain ⟨S, ds, d, r, hg, q⟩ := h
  unfold gDef at hg
  split at hg
  · refine ⟨S, H, fun _ => False, env0 N.length ds, ⟨?_, fun i s e => ?_, fun i j es fs a e1 _ o1 => ?_, fun _ z => z.elim, fun _ z => z.elim, Same.refl H⟩, ?_⟩
    · simp [L2.start, env0, r.length]
    · unfold env0 at e
      by_cases hi : i < ds.length
      · rw [List.getElem?_append_left (by simpa using hi), List.getElem?_map, List.getElem?_eq_getElem hi] at e
        cases e
        obtain ⟨v, e1, e2⟩ := r.get (List.getElem?_eq_getElem hi)
        refine .inr ⟨v, ?_, e2.wide fun a z => ⟨.inl z, fun y => y⟩⟩
        unfold L2.start
        rw [List.getElem?_append_left (by simpa [r.length] using hi), List.getElem?_map, e1]
        rfl
      · rw [List.getElem?_append_right (by simpa using Nat.le_of_not_lt hi)] at e
        exact .inl (List.eq_of_mem_replicate (List.mem_of_getElem? e))
    · exfalso
      unfold env0 at e1
      by_cases hi : i < ds.length
      · rw [List.getElem?_append_left (by simpa using hi), List.getElem?_map, List.getElem?_eq_getElem hi] at e1
        cases e1
        cases o1
      · rw [List.getElem?_append_right (by simpa using Nat.le_of_not_lt hi)] at e1
        cases (List.eq_of_mem_replicate (List.mem_of_getElem? e1))
        cases o1
    · cases ho : fB (env0 N.length ds) with
      | rt v =>
        rw [ho] at hg
        cases hg
        exact q
      | nx e =>
        rw [ho] at hg
        cases hg
        exact fun A' H' σ' E' _ _ => q _ H' E'.same (by rw [Rp])
      | bk e => rw [ho] at hg; cases hg
      | ct e => rw [ho] at hg; cases hg
      | bad => rw [ho] at hg; cases hg
  · cases hg
variable {P : Program} {w : World} {mg : Str → Option Value} {base : Heap}
theorem fn_ok {x qual : Str} {st : Stmt} {f : Addr} {fd : FuncData} {N ps : List Str} {k np nN : Nat} {fB : En → Out} {g : List PyData → Option PyData} (F : Fun K x qual st f fd) (S : FnScope N ps (defScope st)) (hp : np = ps.length) (hN : nN = N.length) (hg : g = gDef np nN fB)
    (hb : ∀ (cdv : Value) (A : Around) (outer : List Env) (s : Shared) (H : Hp) (E : XK), Room k (A.deeper (envOfC qual (defScope st) s.heap.objs.size f cdv)) → PSs (cxOf CX0 P w K mg base N qual (defScope st) f cdv A outer s H E).nox (defBody st) (tS K fB)) :
    FnOk P w K mg base CX0 (k + 1) f fd ps (spF K g) := by
  subst hp hN hg
  refine F.ok S (fun vs H Q E h => ?_) fun cdv A outer s H vs Q E hr h => ⟨_, hb cdv A outer s H E hr, def_run h⟩
  obtain ⟨S', ds, d, r, hg, _⟩ := h
  unfold gDef at hg
  split at hg
  · rw [r.length]; assumption
  · cases hg
theorem fn_imp {k : Nat} {f : Addr} {fd : FuncData} {ps : List Str} {g g' : List PyData → Option PyData} (F : FnOk P w K mg base CX0 k f fd ps (spF K g)) (h : ∀ ds d, g' ds = some d → g ds = some d) : FnOk P w K mg base CX0 k f fd ps (spF K g') :=
  F.imp fun vs H Q E ⟨S, ds, d, r, hg, q⟩ => ⟨S, ds, d, r, h ds d hg, q⟩
end

/-! ### calls -/
def eCall (g : List PyData → Option PyData) (fa : En → Option (List PyData)) : En → Option PyData := fun env => match fa env with
  | some ds => g ds
  | none => none
section
variable {X : Cx} {a b e : Expr} {es : List Expr} {pos p : Pos} {x : Str} {c c1 c2 : Bool} {f g : En → Option PyData} {fa : En → Option (List PyData)} {fb : En → Option Bool}
theorem bd_sc {K : PySem.W.Frag} {S0 A : Addr → Prop} {H0 H : Hp} {σ : L2.St} {env : En} (E : EnvOk K S0 H0 A H σ env) {c : Bool} {a : Addr} (h : Bd (Cl S0 H0 A) H a) : SC c S0 H0 A a := fun _ => by
  rcases h with h | h
  · exact h
  · exact cl_new E h
theorem call_run {K : PySem.W.Frag} {σ : L2.St} {H : Hp} {Q : VK} {E : XK} {gd : List PyData → Option PyData} (h : tE K c (eCall gd fa) σ H Q) : tCall (spF K gd) [] E (tA K true fa) σ H Q := by
  obtain ⟨S0, H0, A, env, d, En, hf, q⟩ := h
  unfold eCall at hf
  cases hd : fa env with
  | none => rw [hd] at hf; cases hf
  | some ds =>
    simp only [hd] at hf
    refine ⟨S0, H0, A, env, ds, En, hd, fun vs H1 s r => ?_⟩
    show spF K gd (vs ++ []) H1 Q E
    rw [List.append_nil]
    exact ⟨Cl S0 H0 A, ds, d, r.wide fun _ z => cl_sc z, hf, fun v H2 s2 r2 => q v H2 (s.trans s2) (r2.wide fun _ z => bd_sc (En.grow s) z)⟩
theorem callB_run {K : PySem.W.Frag} {σ : L2.St} {H : Hp} {Q : VK} {E : XK} {gd : List PyData → Option PyData} (h : tE K c (eN (eCall gd fa)) σ H Q) : tCall (spF K gd) [] E (tA K false fa) σ H Q := by
  obtain ⟨S0, H0, A, env, d, En, hf, q⟩ := h
  unfold eN at hf
  cases hc : eCall gd fa env with
  | none => rw [hc] at hf; cases hf
  | some d' =>
    rw [hc] at hf
    have hf' : (if noL d' = true then some d' else none) = some d := hf
    by_cases n : noL d' = true
    · rw [if_pos n] at hf'
      cases hf'
      unfold eCall at hc
      cases hd : fa env with
      | none => rw [hd] at hc; cases hc
      | some ds =>
        simp only [hd] at hc
        refine ⟨S0, H0, A, env, ds, En, hd, fun vs H1 s r => ?_⟩
        show spF K gd (vs ++ []) H1 Q E
        rw [List.append_nil]
        exact ⟨_, ds, d, r, hc, fun v H2 s2 r2 => q v H2 (s.trans s2) (Rp.noL d v n r2)⟩
    · rw [if_neg n] at hf'; cases hf'
variable {E : XK} {gd : List PyData → Option PyData}
theorem ce_call (h : PE X e (tCall (spF X.K gd) [] E (tA X.K true fa))) : PE X e (tE X.K c (eCall gd fa)) := pe_w h fun _ _ _ q => call_run q
theorem ce_callB (h : PE X e (tCall (spF X.K gd) [] E (tA X.K false fa))) : PE X e (tE X.K c (eN (eCall gd fa))) := pe_w h fun _ _ _ q => callB_run q
theorem ce_call0 (h : PE X e (tCall (spF X.K gd) [] E tNil)) : PE X e (tE X.K c (eCall gd aNil)) := pe_w h fun σ H Q q => by
  obtain ⟨S0, H0, A, env, ds, En, hd, q⟩ := call_run (E := E) q
  cases hd
  exact q [] H (Same.refl H) RpA.nil

/-! ### built-ins called -/
def CROk (K : PySem.W.Frag) (sc : Bool) (r : List V → Hp → VK → Prop) (h : List PyData → Option PyData) : Prop := ∀ (S S' : Addr → Prop) (H : Hp) (vs : List V) (ds : List PyData) (d : PyData) (Q : VK), (∀ p, H p = none → S p) → (sc = true ∨ S' = S) → RpA K S H ds vs → h ds = some d →
  (∀ v H', Same H H' → Rp K S' H' d v → Q v H') → r vs H Q
theorem cb_run {K : PySem.W.Frag} {sc : Bool} {r : List V → Hp → VK → Prop} {h : List PyData → Option PyData} (R : CROk K sc r h) (hc : sc = true ∨ c2 = c1) {σ : L2.St} {H : Hp} {Q : VK} (q : tE K c2 (eCall h fa) σ H Q) : tCB r (tA K c1 fa) σ H Q := by
  obtain ⟨S0, H0, A, env, d, E, hf, q⟩ := q
  unfold eCall at hf
  cases hd : fa env with
  | none => rw [hd] at hf; cases hf
  | some ds =>
    simp only [hd] at hf
    exact ⟨S0, H0, A, env, ds, E, hd, fun vs H1 s1 r1 => R (SC c1 S0 H0 A) (SC c2 S0 H0 A) H1 vs ds d Q (fun p hp => sc_new (E.grow s1) hp) (hc.imp id fun z => by rw [z]) r1 hf fun v H2 s2 r2 => q v H2 (s1.trans s2) r2⟩
theorem ce_cb {sc : Bool} {r : List V → Hp → VK → Prop} {h : List PyData → Option PyData} (R : CROk X.K sc r h) (he : PE X e (tCB r (tA X.K c1 fa))) (hc : sc = true ∨ c2 = c1 := by first | exact .inl rfl | exact .inr rfl) : PE X e (tE X.K c2 (eCall h fa)) := pe_w he fun _ _ _ q => cb_run R hc q
theorem rp1 {K : PySem.W.Frag} {S : Addr → Prop} {H : Hp} {i : Int} : Rp K S H (.int i) (.int i) := by rw [Rp]
theorem rpb {K : PySem.W.Frag} {S : Addr → Prop} {H : Hp} {i : Bool} : Rp K S H (.bool i) (.bl i) := by rw [Rp]
theorem rps {K : PySem.W.Frag} {S : Addr → Prop} {H : Hp} {i : Str} : Rp K S H (.str i) (.str i) := by rw [Rp]
def lenA : List PyData → Option PyData
  | [.list ds] => some (.int ds.length)
  | [.tuple ds] => some (.int ds.length)
  | [.str x] => if x.length ≤ 1000000 then some (.int x.length) else none
  | _ => none
theorem cr_len {K : PySem.W.Frag} : CROk K true (fun xs H Q => ∃ x n, xs = [x] ∧ LenV K x H n ∧ Q (.int n) H) lenA := by
  intro S S' H vs ds d Q _ _ r h q
  unfold lenA at h
  split at h
  · cases h
    replace r := r.one
    obtain ⟨v, rfl, r⟩ := r
    rw [Rp] at r
    obtain ⟨a, xs, rfl, hs, ra⟩ := r
    exact ⟨_, _, rfl, .inl ⟨xs, hs.sq, rfl⟩, q _ H (Same.refl H) (by rw [ra.length]; exact rp1)⟩
  · cases h
    replace r := r.one
    obtain ⟨v, rfl, r⟩ := r
    rw [Rp] at r
    obtain ⟨a, xs, rfl, hs, ra⟩ := r
    exact ⟨_, _, rfl, .inr ⟨xs, live_t hs, rfl⟩, q _ H (Same.refl H) (by rw [ra.length]; exact rp1)⟩
  · split at h
    · rename_i hl
      cases h
      replace r := r.one
      obtain ⟨v, rfl, r⟩ := r
      rw [Rp] at r
      subst r
      exact ⟨_, _, rfl, ⟨sz6 hl, rfl⟩, q _ H (Same.refl H) rp1⟩
    · cases h
  · cases h
def intA : List PyData → Option PyData
  | [.int i] => some (.int i)
  | [.bool k] => some (.int (if k then 1 else 0))
  | _ => none
theorem cr_int {K : PySem.W.Frag} : CROk K true (fun xs H Q => (∃ i, xs = [.int i] ∧ Q (.int i) H) ∨ ∃ k, xs = [.bl k] ∧ Q (.int (if k then 1 else 0)) H) intA := by
  intro S S' H vs ds d Q _ _ r h q
  unfold intA at h
  split at h
  · cases h
    replace r := r.one
    obtain ⟨v, rfl, r⟩ := r
    rw [Rp] at r
    subst r
    exact .inl ⟨_, rfl, q _ H (Same.refl H) rp1⟩
  · cases h
    replace r := r.one
    obtain ⟨v, rfl, r⟩ := r
    rw [Rp] at r
    subst r
    exact .inr ⟨_, rfl, q _ H (Same.refl H) rp1⟩
  · cases h
def tupA : List PyData → Option PyData
  | [.list ds] => some (.tuple ds)
  | [.tuple ds] => some (.tuple ds)
  | _ => none
theorem cr_tup {K : PySem.W.Frag} : CROk K false (fun xs H Q => ∃ p ys, xs = [.ref p] ∧ ((SqL K H p ys ∧ ∀ l, H l = none → Q (.ref l) (upd H l (.tup ys))) ∨ (SqT K H p ys ∧ Q (.ref p) H))) tupA := by
  intro S S' H vs ds d Q hn hS r h q
  have hS' : S' = S := hS.elim (fun z => nomatch z) id
  subst hS'
  unfold tupA at h
  split at h
  · cases h
    replace r := r.one
    obtain ⟨v, rfl, r⟩ := r
    rw [Rp] at r
    obtain ⟨a, xs, rfl, hs, ra⟩ := r
    refine ⟨a, xs, rfl, .inl ⟨hs.sq, fun l hl => q _ _ (same_new hl) ?_⟩⟩
    rw [Rp]
    exact ⟨l, xs, rfl, upd_same, ra.grow (same_new hl)⟩
  · cases h
    replace r := r.one
    obtain ⟨v, rfl, r⟩ := r
    have r' := r
    rw [Rp] at r
    obtain ⟨a, xs, rfl, hs, ra⟩ := r
    exact ⟨a, xs, rfl, .inr ⟨live_t hs, q _ H (Same.refl H) r'⟩⟩
  · cases h
/-- tuple(x), x owned: its items are clean -/
def eTupO (i : Nat) : En → Option PyData := fun env => match env[i]? with
  | some (.own ds) => some (.tuple ds)
  | _ => none
theorem ce_tupO {i : Nat} (h : PE X e (tCB (fun xs H Q => ∃ p ys, xs = [.ref p] ∧ ((SqL X.K H p ys ∧ ∀ l, H l = none → Q (.ref l) (upd H l (.tup ys))) ∨ (SqT X.K H p ys ∧ Q (.ref p) H))) (tCons (tVar i) tNil))) : PE X e (tE X.K true (eTupO i)) := pe_w h fun σ H Q ⟨S0, H0, A, env, d, E, hf, q⟩ => by
  unfold eTupO at hf
  split at hf
  · rename_i ds hi
    cases hf
    rcases E.sl i _ hi with z | ⟨v, h1, a, xs, rfl, ha, hh, r⟩
    · cases z
    refine ⟨_, h1, a, xs, rfl, .inl ⟨.inl (.inl hh), fun l hl => q _ _ (same_new hl) ?_⟩⟩
    rw [Rp]
    exact ⟨l, xs, rfl, upd_same, (r.wide fun _ z => sc_cl z).grow (same_new hl)⟩
  · cases hf
/-- list(x): a fresh one -/
def fList (f : En → Option PyData) : En → Option (List PyData) := fun env => match f env with
  | some (.list ds) => some ds
  | some (.tuple ds) => some ds
  | _ => none
theorem cf_list (h : PE X e (tCB (fun xs H Q => ∃ p ys, xs = [.ref p] ∧ (SqL X.K H p ys ∨ SqT X.K H p ys) ∧ ∀ l, H l = none → Q (.ref l) (upd H l (.lst ys))) (tCons (tE X.K true f) tNil))) : PE X e (tF X.K c (fList f)) := pe_w h fun σ H Q ⟨S0, H0, A, env, d, E, hf, q⟩ => by
  unfold fList at hf
  split at hf
  · rename_i ds hd
    cases hf
    refine ⟨S0, H0, A, env, _, E, hd, fun v H1 s r => ?_⟩
    rw [Rp] at r
    obtain ⟨a, xs, rfl, hs, ra⟩ := r
    exact ⟨a, xs, rfl, .inl hs.sq, fun l hl => q l xs _ (s.free hl) (s.trans (same_new hl)) upd_same ((ra.wide fun _ z => sc_cl (cl_sc z)).apart hl (same_new hl))⟩
  · rename_i ds hd
    cases hf
    refine ⟨S0, H0, A, env, _, E, hd, fun v H1 s r => ?_⟩
    rw [Rp] at r
    obtain ⟨a, xs, rfl, hs, ra⟩ := r
    exact ⟨a, xs, rfl, .inr (live_t hs), fun l hl => q l xs _ (s.free hl) (s.trans (same_new hl)) upd_same ((ra.wide fun _ z => sc_cl (cl_sc z)).apart hl (same_new hl))⟩
  · cases hf
/-! max, min -/
def intsD : List PyData → Option (List Int)
  | [] => some []
  | .int i :: ds => match intsD ds with
    | some ns => some (i :: ns)
    | none => none
  | _ :: _ => none
theorem intsD_rp {K : PySem.W.Frag} {S : Addr → Prop} {H : Hp} : ∀ {ds : List PyData} {ns : List Int} {xs : List V}, intsD ds = some ns → RpA K S H ds xs → xs = ns.map V.int ∧ ds = ns.map PyData.int
  | [], ns, xs, h, r => by
    rw [RpA] at r
    cases h
    exact ⟨r, rfl⟩
  | .int i :: ds, ns, xs, h, r => by
    rw [RpA] at r
    obtain ⟨v, r', rfl, h1, h2⟩ := r
    rw [Rp] at h1
    simp only [intsD] at h
    split at h
    · rename_i ms hm
      cases h
      obtain ⟨e1, e2⟩ := intsD_rp hm h2
      subst h1
      exact ⟨by rw [e1]; rfl, by rw [e2]; rfl⟩
    · cases h
  | .none :: _, _, _, h, _ => by cases h
  | .bool _ :: _, _, _, h, _ => by cases h
  | .str _ :: _, _, _, h, _ => by cases h
  | .list _ :: _, _, _, h, _ => by cases h
  | .tuple _ :: _, _, _, h, _ => by cases h
  | .dict _ :: _, _, _, h, _ => by cases h
def mxI : Int → List Int → Int
  | m, [] => m
  | m, x :: xs => mxI (if x > m then x else m) xs
def mnI : Int → List Int → Int
  | m, [] => m
  | m, x :: xs => mnI (if x < m then x else m) xs
theorem mxI_spec : ∀ (xs : List Int) (m : Int), mxI m xs ∈ m :: xs ∧ ∀ y ∈ m :: xs, y ≤ mxI m xs
  | [], m => ⟨List.mem_cons_self, fun y h => by simp at h; rw [h]; exact Int.le_refl _⟩
  | x :: xs, m => by
    obtain ⟨h1, h2⟩ := mxI_spec xs (if x > m then x else m)
    refine ⟨?_, fun y h => ?_⟩
    · show mxI (if x > m then x else m) xs ∈ _
      rcases List.mem_cons.mp h1 with h | h
      · rw [h]
        split <;> simp
      · exact List.mem_cons_of_mem _ (List.mem_cons_of_mem _ h)
    · show y ≤ mxI (if x > m then x else m) xs
      have h3 := h2 (if x > m then x else m) List.mem_cons_self
      rcases List.mem_cons.mp h with h | h
      · subst h
        split at h3 <;> (split <;> omega)
      · rcases List.mem_cons.mp h with h | h
        · subst h
          split at h3 <;> (split <;> omega)
        · exact h2 y (List.mem_cons_of_mem _ h)
theorem mnI_spec : ∀ (xs : List Int) (m : Int), mnI m xs ∈ m :: xs ∧ ∀ y ∈ m :: xs, mnI m xs ≤ y
  | [], m => ⟨List.mem_cons_self, fun y h => by simp at h; rw [h]; exact Int.le_refl _⟩
  | x :: xs, m => by
    obtain ⟨h1, h2⟩ := mnI_spec xs (if x < m then x else m)
    refine ⟨?_, fun y h => ?_⟩
    · show mnI (if x < m then x else m) xs ∈ _
      rcases List.mem_cons.mp h1 with h | h
      · rw [h]
        split <;> simp
      · exact List.mem_cons_of_mem _ (List.mem_cons_of_mem _ h)
    · show mnI (if x < m then x else m) xs ≤ y
      have h3 := h2 (if x < m then x else m) List.mem_cons_self
      rcases List.mem_cons.mp h with h | h
      · subst h
        split at h3 <;> (split <;> omega)
      · rcases List.mem_cons.mp h with h | h
        · subst h
          split at h3 <;> (split <;> omega)
        · exact h2 y (List.mem_cons_of_mem _ h)
def mx1 (k : Int → List Int → Int) : List PyData → Option PyData
  | [.list ds] => match intsD ds with
    | some (n :: ns) => some (.int (k n ns))
    | _ => none
  | _ => none
theorem cr_mx {K : PySem.W.Frag} : CROk K true (rMax K) (mx1 mxI) := by
  intro S S' H vs ds d Q _ _ r h q
  unfold mx1 at h
  split at h
  · replace r := r.one
    obtain ⟨v, rfl, r⟩ := r
    rw [Rp] at r
    obtain ⟨a, xs, rfl, hs, ra⟩ := r
    split at h
    · rename_i n ns hi
      cases h
      obtain ⟨e1, _⟩ := intsD_rp hi ra
      subst e1
      refine ⟨a, n :: ns, rfl, hs.sq, Nat.zero_lt_succ _, fun m hm hy => ?_⟩
      obtain ⟨k1, k2⟩ := mxI_spec ns n
      have e : m = mxI n ns := Int.le_antisymm (k2 m hm) (hy _ k1)
      rw [e]
      exact q _ H (Same.refl H) rp1
    · cases h
  · cases h
theorem cr_mn {K : PySem.W.Frag} : CROk K true (rMin K) (mx1 mnI) := by
  intro S S' H vs ds d Q _ _ r h q
  unfold mx1 at h
  split at h
  · replace r := r.one
    obtain ⟨v, rfl, r⟩ := r
    rw [Rp] at r
    obtain ⟨a, xs, rfl, hs, ra⟩ := r
    split at h
    · rename_i n ns hi
      cases h
      obtain ⟨e1, _⟩ := intsD_rp hi ra
      subst e1
      refine ⟨a, n :: ns, rfl, hs.sq, Nat.zero_lt_succ _, fun m hm hy => ?_⟩
      obtain ⟨k1, k2⟩ := mnI_spec ns n
      have e : m = mnI n ns := Int.le_antisymm (hy _ k1) (k2 m hm)
      rw [e]
      exact q _ H (Same.refl H) rp1
    · cases h
  · cases h
def mx2 : List PyData → Option PyData
  | [.int i, .int j] => some (.int (if j > i then j else i))
  | _ => none
def mn2 : List PyData → Option PyData
  | [.int i, .int j] => some (.int (if j < i then j else i))
  | _ => none
theorem cr_mx2 {K : PySem.W.Frag} : CROk K true (fun xs H Q => ∃ i j, xs = [.int i, .int j] ∧ Q (.int (if j > i then j else i)) H) mx2 := by
  intro S S' H vs ds d Q _ _ r h q
  unfold mx2 at h
  split at h
  · cases h
    obtain ⟨v, u, rfl, r1, r2⟩ := r.two
    rw [Rp] at r1 r2
    subst r1 r2
    exact ⟨_, _, rfl, q _ H (Same.refl H) rp1⟩
  · cases h
theorem cr_mn2 {K : PySem.W.Frag} : CROk K true (fun xs H Q => ∃ i j, xs = [.int i, .int j] ∧ Q (.int (if j < i then j else i)) H) mn2 := by
  intro S S' H vs ds d Q _ _ r h q
  unfold mn2 at h
  split at h
  · cases h
    obtain ⟨v, u, rfl, r1, r2⟩ := r.two
    rw [Rp] at r1 r2
    subst r1 r2
    exact ⟨_, _, rfl, q _ H (Same.refl H) rp1⟩
  · cases h
/-- max(xs, default=d), min likewise: ints -/
def rMxD (K : PySem.W.Frag) (k : Int → List Int → Int) : List V → List V → Hp → VK → Prop := fun vs zs H Q => ∃ a ns y, vs = [.ref a] ∧ zs = [y] ∧ SqL K H a (ns.map V.int) ∧ (match ns with
  | [] => Q y H
  | n :: ns => Q (.int (k n ns)) H)
theorem readsInts {h : Heap} : ∀ {ns : List Int} {us : List Value}, Vals (ns.map V.int) us → ∃ as, ReadsAll h us (ns.map PyData.int) as
  | [], _, r => by
    cases r
    exact ⟨_, ReadsAll.nil⟩
  | n :: ns, _, r => by
    cases r with
    | cons r1 r2 =>
      obtain ⟨t, rfl⟩ := r1
      obtain ⟨as, h2⟩ := readsInts r2
      exact ⟨_, ReadsAll.cons (Reads.int n t) h2⟩
theorem mxI_max : ∀ (ns : List Int) (n : Int), ns.foldl max n = mxI n ns
  | [], _ => rfl
  | x :: ns, n => by
    show ns.foldl max (max n x) = mxI (if x > n then x else n) ns
    rw [mxI_max ns]
    congr 1
    by_cases h : x > n
    · rw [if_pos h]; omega
    · rw [if_neg h]; omega
theorem mnI_min : ∀ (ns : List Int) (n : Int), ns.foldl min n = mnI n ns
  | [], _ => rfl
  | x :: ns, n => by
    show ns.foldl min (min n x) = mnI (if x < n then x else n) ns
    rw [mnI_min ns]
    congr 1
    by_cases h : x < n
    · rw [if_pos h]; omega
    · rw [if_neg h]; omega
theorem alike_ints (ns : List Int) : PySem.W.AlikeAll (ns.map PyData.int) := PySem.W.alikeAll_datum (α := Int) ns
theorem depth_ints : ∀ (ns : List Int), PyData.depthAll (ns.map PyData.int) = 0
  | [] => by simp [PyData.depthAll]
  | n :: ns => by simp [PyData.depthAll, PyData.depth, depth_ints ns]
theorem reads_int {h : Heap} {u : Value} {i : Int} {as : List Addr} (r : Reads h u (.int i) as) : ∃ t, u = .int i t := by
  cases r
  exact ⟨_, rfl⟩
theorem call_mxD (hc : X.calm = true) (hu : X.A.units + 64 < cLine) : CallRK X (.builtin "max") [Str.ofString "default"] (rMxD X.K mxI) := by
  intro pins s σ H vs zs us ws Q I r rz h
  obtain ⟨a, ns, y, rfl, rfl, hs, q⟩ := h
  obtain ⟨its, rv, hl, _⟩ := I.list hs
  rw [Vals.ref1 r]
  obtain ⟨u, rfl, ru⟩ := vals1 rz
  obtain ⟨as, ra⟩ := readsInts (h := s.heap) rv
  refine PySem.W.max_list_default (I.ok.hd hc) hl.isList (by rw [List.toList_toArray]; exact ra) (alike_ints ns) (by rw [depth_ints]; omega) (fun e h' tk k => ?_) fun z zs i v h' tk bs e hi rr k => ?_
  · cases ns with
    | nil => exact ⟨y, H, I.kept (t' := tk) k, ru, q⟩
    | cons _ _ => cases e
  · cases ns with
    | nil => cases e
    | cons n ns =>
      cases e
      rw [PySem.W.maxD_ints] at rr
      obtain ⟨t, rfl⟩ := reads_int rr
      exact ⟨.int _, H, I.kept (t' := tk) k, ⟨_, rfl⟩, by rw [mxI_max]; exact q⟩
theorem call_mnD (hc : X.calm = true) (hu : X.A.units + 64 < cLine) : CallRK X (.builtin "min") [Str.ofString "default"] (rMxD X.K mnI) := by
  intro pins s σ H vs zs us ws Q I r rz h
  obtain ⟨a, ns, y, rfl, rfl, hs, q⟩ := h
  obtain ⟨its, rv, hl, _⟩ := I.list hs
  rw [Vals.ref1 r]
  obtain ⟨u, rfl, ru⟩ := vals1 rz
  obtain ⟨as, ra⟩ := readsInts (h := s.heap) rv
  refine PySem.W.min_list_default (I.ok.hd hc) hl.isList (by rw [List.toList_toArray]; exact ra) (alike_ints ns) (by rw [depth_ints]; omega) (fun e h' tk k => ?_) fun z zs i v h' tk bs e hi rr k => ?_
  · cases ns with
    | nil => exact ⟨y, H, I.kept (t' := tk) k, ru, q⟩
    | cons _ _ => cases e
  · cases ns with
    | nil => cases e
    | cons n ns =>
      cases e
      rw [PySem.W.minD_ints] at rr
      obtain ⟨t, rfl⟩ := reads_int rr
      exact ⟨.int _, H, I.kept (t' := tk) k, ⟨_, rfl⟩, by rw [mnI_min]; exact q⟩
def eMxD (k : Int → List Int → Int) (f g : En → Option PyData) : En → Option PyData := fun env => match f env with
  | some (.list ds) => match g env with
    | some d => match intsD ds with
      | some [] => some d
      | some (n :: ns) => some (.int (k n ns))
      | none => none
    | none => none
  | _ => none
theorem ce_mxD {k : Int → List Int → Int} (h : PE X e (tCKw (rMxD X.K k) (tCons (tE X.K c1 f) tNil) (tCons (tE X.K c g) tNil))) : PE X e (tE X.K c (eMxD k f g)) := pe_w h fun σ H Q ⟨S0, H0, A, env, d, E, hf, q⟩ => by
  unfold eMxD at hf
  split at hf
  · rename_i ds hd
    split at hf
    · rename_i d2 hd2
      refine ⟨S0, H0, A, env, _, E, hd, fun v H1 s r => ⟨S0, H0, A, env, d2, E.grow s, hd2, fun u H2 s2 r2 => ?_⟩⟩
      rw [Rp] at r
      obtain ⟨a, xs, rfl, hs, ra⟩ := r
      split at hf
      · rename_i hi
        cases hf
        obtain ⟨e1, _⟩ := intsD_rp hi ra
        subst e1
        exact ⟨a, [], u, rfl, rfl, s2.seq hs.sq, q u H2 (s.trans s2) r2⟩
      · rename_i n ns hi
        cases hf
        obtain ⟨e1, _⟩ := intsD_rp hi ra
        subst e1
        exact ⟨a, n :: ns, u, rfl, rfl, s2.seq hs.sq, q _ H2 (s.trans s2) rp1⟩
      · cases hf
    · cases hf
  · cases hf
/-! isinstance(x, T), T a built-in class -/
def tyD : PyData → String
  | .none => "NoneType"
  | .bool _ => "bool"
  | .int _ => "int"
  | .str _ => "str"
  | .list _ => "list"
  | .tuple _ => "tuple"
  | .dict _ => "dict"
theorem tyX_of {K : PySem.W.Frag} {S : Addr → Prop} {H : Hp} {d : PyData} {v : V} (nd : tyD d ≠ "dict") (r : Rp K S H d v) : TyX K H v (.type (tyD d)) := by
  cases d with
  | none => rw [Rp] at r; subst r; exact .base .non
  | bool k => rw [Rp] at r; subst r; exact .base (.bl k)
  | int k => rw [Rp] at r; subst r; exact .base (.int k)
  | str k => rw [Rp] at r; subst r; exact .base (.str k)
  | list ds =>
    rw [Rp] at r
    obtain ⟨a, xs, rfl, hs, _⟩ := r
    rcases hs with ⟨_, hs | ⟨o, hs⟩⟩ | ⟨o, its, n, hk, hc, _⟩
    · exact .base (.lst hs)
    · exact .base (.frz hs)
    · exact .kList hk hc
  | tuple ds =>
    rw [Rp] at r
    obtain ⟨a, xs, rfl, hs, _⟩ := r
    exact .base (.tup hs)
  | dict k => exact absurd rfl nd
def isiB (T t : String) : Option Bool :=
  if T = "list" then (if t = "NoneType" ∨ t = "bool" ∨ t = "int" ∨ t = "str" ∨ t = "tuple" then some false else if t = "list" then some true else none)
  else if T = "tuple" then (if t = "NoneType" ∨ t = "bool" ∨ t = "int" ∨ t = "str" ∨ t = "list" then some false else if t = "tuple" then some true else none)
  else if T = "bool" then (if t = "NoneType" ∨ t = "tuple" ∨ t = "int" ∨ t = "str" ∨ t = "list" then some false else if t = "bool" then some true else none)
  else if T = "str" then (if t = "NoneType" ∨ t = "tuple" ∨ t = "int" ∨ t = "bool" ∨ t = "list" then some false else if t = "str" then some true else none)
  else if T = "int" then (if t = "NoneType" ∨ t = "tuple" ∨ t = "str" ∨ t = "list" then some false else if t = "int" ∨ t = "bool" then some true else none)
  else none
theorem isiB_kit {T t : String} {b : Bool} (h : isiB T t = some b) : kitB t T = some b := by
  unfold isiB at h
  repeat' (split at h)
  all_goals first
    | (cases h; done)
    | (rename_i z; cases h; rcases z with z | z | z | z | z <;> (subst_vars; decide +kernel))
    | (rename_i z; cases h; rcases z with z | z | z | z <;> (subst_vars; decide +kernel))
    | (rename_i z; cases h; rcases z with z | z <;> (subst_vars; decide +kernel))
    | (rename_i z; cases h; subst_vars; decide +kernel)
theorem isiB_dict (T : String) : isiB T "dict" = none := by
  unfold isiB
  repeat' split
  all_goals first | rfl | (rename_i z; exfalso; revert z; decide)
def eIsi (T : String) (f : En → Option PyData) : En → Option PyData := fun env => match f env with
  | some d => (isiB T (tyD d)).map .bool
  | none => none
theorem ce_isi {T : String} (h : PE X e (tCB (rIsi X.K) (tCons (tE X.K c f) (tCons (tC (.ty T)) tNil)))) : PE X e (tE X.K true (eIsi T f)) := pe_w h fun σ H Q ⟨S0, H0, A, env, d, E, hf, q⟩ => by
  unfold eIsi at hf
  split at hf
  · rename_i d' hd
    cases hb : isiB T (tyD d') with
    | none => rw [hb] at hf; cases hf
    | some b =>
      rw [hb] at hf
      cases hf
      refine ⟨S0, H0, A, env, d', E, hd, fun v H1 s r => ?_⟩
      exact ⟨v, .ty T, _, _, b, rfl, .ty T, tyX_of (fun e => by rw [e, isiB_dict] at hb; cases hb) r, kit_ty (isiB_kit hb), q _ H1 s rpb⟩
  · cases hf
/-! sep.join(xs) -/
def strsD : List PyData → Option (List Str)
  | [] => some []
  | .str i :: ds => match strsD ds with
    | some ns => some (i :: ns)
    | none => none
  | _ :: _ => none
theorem strsD_rp {K : PySem.W.Frag} {S : Addr → Prop} {H : Hp} : ∀ {ds : List PyData} {ns : List Str} {xs : List V}, strsD ds = some ns → RpA K S H ds xs → xs = ns.map V.str
  | [], ns, xs, h, r => by
    rw [RpA] at r
    cases h
    exact r
  | .str i :: ds, ns, xs, h, r => by
    rw [RpA] at r
    obtain ⟨v, r', rfl, h1, h2⟩ := r
    rw [Rp] at h1
    simp only [strsD] at h
    split at h
    · rename_i ms hm
      cases h
      have e1 := strsD_rp hm h2
      subst h1
      rw [e1]; rfl
    · cases h
  | .none :: _, _, _, h, _ => by cases h
  | .bool _ :: _, _, _, h, _ => by cases h
  | .int _ :: _, _, _, h, _ => by cases h
  | .list _ :: _, _, _, h, _ => by cases h
  | .tuple _ :: _, _, _, h, _ => by cases h
  | .dict _ :: _, _, _, h, _ => by cases h
def eJoin (f g : En → Option PyData) : En → Option PyData := e2 (fun s d => match s with
  | .str a => match (match d with | .list ds => strsD ds | .tuple ds => strsD ds | _ => none) with
    | some ys => if (ys.map (·.length)).sum + ys.length * a.length ≤ 1000000 then some (.str (Txt.join a ys)) else none
    | none => none
  | _ => none) f g
theorem ce_join {t : TE} (h : PE X e (tM1 (fun x xs H Q => ∃ a p, ∃ ys : List Str, x = .str a ∧ xs = [.ref p] ∧ (SqL X.K H p (ys.map V.str) ∨ SqT X.K H p (ys.map V.str)) ∧ (ys.map (·.length)).sum + ys.length * a.length ≤ 16777216 ∧ Q (.str (Txt.join a ys)) H) (tE X.K c1 f) (tE X.K c2 g))) :
    PE X e (tE X.K true (eJoin f g)) := pe_w h fun σ H Q ⟨S0, H0, A, env, d, E, hf, q⟩ => by
  obtain ⟨x, y, h1, h2, h3⟩ := e2_some hf
  refine ⟨S0, H0, A, env, x, E, h1, fun v H1 s1 r1 => ?_⟩
  cases x with
  | str a =>
    rw [Rp] at r1
    subst r1
    refine ⟨⟨a, rfl⟩, S0, H0, A, env, y, E.grow s1, h2, fun u H2 s2 r2 => ?_⟩
    dsimp only at h3
    split at h3
    · rename_i ys hy
      split at h3
      · rename_i hl
        cases h3
        cases y with
        | list ds =>
          rw [Rp] at r2
          obtain ⟨p, xs, rfl, hs, ra⟩ := r2
          have e1 := strsD_rp hy ra
          subst e1
          exact ⟨a, p, ys, rfl, rfl, .inl hs.sq, by omega, q _ H2 (s1.trans s2) rps⟩
        | tuple ds =>
          rw [Rp] at r2
          obtain ⟨p, xs, rfl, hs, ra⟩ := r2
          have e1 := strsD_rp hy ra
          subst e1
          exact ⟨a, p, ys, rfl, rfl, .inr (live_t hs), by omega, q _ H2 (s1.trans s2) rps⟩
        | _ => cases hy
      · cases h3
    · cases h3
  | _ => cases h3
end
end Mir

namespace Mir
open PySem PySem.Spec PyProof.Rows L2

section
variable {X : Cx} {a b e : Expr} {es : List Expr} {pos p : Pos} {c c1 c2 : Bool} {f g : En → Option PyData} {fa : En → Option (List PyData)} {fb : En → Option Bool} {K : PySem.W.Frag}
/-! ### + -/
theorem cat_lists {prog : Program} {w : World} {A : Around} {E : Value → Shared → Prop} {s : Shared} {l b : Addr} {us ws : Array Value} {Q : Value → Shared → Prop} (hl : s.heap.IsList l us) (hb : s.heap.IsList b ws)
    (h : Q (.ref s.heap.objs.size) { s with heap := s.heap.push { cls := .type "list", data := .seq (us ++ ws) } }) (hz : us.size + ws.size ≤ sizeLine) : wpAny (model prog w) A (binaryOp .Add (.ref l) (.ref b)) Q E s := by
  rcases hl with ⟨⟨k1, d1, x1, t1⟩, g1, rfl, n1, y1⟩
  rcases hb with ⟨⟨k2, d2, x2, t2⟩, g2, rfl, n2, y2⟩
  dsimp only at y1 y2
  subst y1 y2
  exact concat_meets ⟨_, g1, rfl⟩ ⟨_, g2, rfl⟩ noFill_list_add seq_list_add PySem.F.slot_list_add PySem.F.entry_list_add (PySem.F.args_list_add_2 _ _)
    (list_addW l b us ws n1 n2 d1 d2 t1 t2 hz) ⟨g1, g2, h⟩
def rCatR (K : PySem.W.Frag) : R2 := fun x y H Q => ∃ l b xs zs, x = .ref l ∧ y = .ref b ∧ SqL K H l xs ∧ SqL K H b zs ∧ xs.length + zs.length ≤ sizeLine ∧ ∀ p, H p = none → Q (.ref p) (upd H p (.lst (xs ++ zs)))
theorem op_catR : OpR X (binaryOp .Add) (rCatR X.K) := by
  intro pins s σ H x y v u Q I rx ry h
  obtain ⟨l, b, xs, zs, rfl, rfl, h1, h2, hz, q⟩ := h
  cases rx
  cases ry
  obtain ⟨i1, r1, p1, _⟩ := I.list h1
  obtain ⟨i2, r2, p2, _⟩ := I.list h2
  have l1 := r1.length
  have l2 := r2.length
  refine cat_lists p1.isList p2.isList ?_ (by rw [List.size_toArray, List.size_toArray]; omega)
  have ea : i1.toArray ++ i2.toArray = (i1 ++ i2).toArray := by simp
  rw [ea]
  exact ⟨.ref s.heap.objs.size, _, I.lnew (t' := s.toks) (r1.append r2) (by rw [List.length_append]; omega), rfl, q _ I.fresh⟩
def rAddX (K : PySem.W.Frag) : R2 := fun x y H Q => (∃ i j, x = .int i ∧ y = .int j ∧ Q (.int (i + j)) H) ∨ (∃ i j, x = .str i ∧ y = .str j ∧ i.length + j.length ≤ sizeLine ∧ Q (.str (i ++ j)) H) ∨ rCatA K x y H Q ∨ rCatR K x y H Q
theorem op_addX : OpR X (binaryOp .Add) (rAddX X.K) := by
  intro pins s σ H x y v u Q I rx ry h
  rcases h with h | h | h | h
  · exact op_add pins s σ H x y v u Q I rx ry h
  · exact op_add_str pins s σ H x y v u Q I rx ry h
  · exact op_catA pins s σ H x y v u Q I rx ry h
  · exact op_catR pins s σ H x y v u Q I rx ry h
def addD : PyData → PyData → Option PyData
  | .int i, .int j => some (.int (i + j))
  | .str x, .str y => if x.length + y.length ≤ 1000000 then some (.str (x ++ y)) else none
  | .tuple xs, .tuple ys => if xs.length + ys.length ≤ 1000000 then some (.tuple (xs ++ ys)) else none
  | .list xs, .list ys => if xs.length + ys.length ≤ 1000000 then some (.list (xs ++ ys)) else none
  | _, _ => none
theorem r2_add : R2Ok K false (rAddX K) addD := by
  intro S S' H x y dx dy d Q hn hS rx ry h q
  have hS' : S' = S := hS.elim (fun z => nomatch z) id
  subst hS'
  unfold addD at h
  split at h
  · cases h
    rw [Rp] at rx ry
    subst rx ry
    exact .inl ⟨_, _, rfl, rfl, q _ H (Same.refl H) rp1⟩
  · split at h
    · rename_i hl
      cases h
      rw [Rp] at rx ry
      subst rx ry
      exact .inr (.inl ⟨_, _, rfl, rfl, sz6 hl, q _ H (Same.refl H) rps⟩)
    · cases h
  · rename_i xs ys
    split at h
    · rename_i hl
      cases h
      have rx' := rx
      have ry' := ry
      rw [Rp] at rx ry
      obtain ⟨l, us, rfl, h1, r1⟩ := rx
      obtain ⟨m, vs, rfl, h2, r2⟩ := ry
      have l1 := r1.length
      have l2 := r2.length
      refine .inr (.inr (.inl ⟨l, m, us, vs, rfl, rfl, live_t h1, live_t h2, by rw [l1, l2]; exact sz6 hl, fun e => ?_, fun n e => ?_, fun n1 n2 p hp => ?_⟩))
      · have e1 : xs = [] := List.eq_nil_of_length_eq_zero (by rw [← l1, e]; rfl)
        subst e1
        exact q _ H (Same.refl H) ry'
      · have e1 : ys = [] := List.eq_nil_of_length_eq_zero (by rw [← l2, e]; rfl)
        subst e1
        rw [List.append_nil] at q
        exact q _ H (Same.refl H) rx'
      · refine q _ _ (same_new hp) ?_
        rw [Rp]
        exact ⟨p, _, rfl, upd_same, (r1.append r2).grow (same_new hp)⟩
    · cases h
  · split at h
    · rename_i hl
      cases h
      rw [Rp] at rx ry
      obtain ⟨l, us, rfl, h1, r1⟩ := rx
      obtain ⟨m, vs, rfl, h2, r2⟩ := ry
      refine .inr (.inr (.inr ⟨l, m, us, vs, rfl, rfl, h1.sq, h2.sq, by rw [r1.length, r2.length]; exact sz6 hl, fun p hp => q _ _ (same_new hp) ?_⟩))
      rw [Rp]
      exact ⟨p, _, rfl, .inl ⟨hn p hp, .inl upd_same⟩, (r1.append r2).grow (same_new hp)⟩
    · cases h
  · cases h
theorem ce_add (ha : PE X a (tE X.K c f)) (hb : PE X b (tE X.K c g)) : PE X (.BinOp a .Add b pos) (tE X.K c (e2 addD f g)) := ce_op op_addX r2_add ha hb
/-- list + list, fresh -/
def fCat (f g : En → Option PyData) : En → Option (List PyData) := fun env => match f env with
  | some (.list xs) => match g env with
    | some (.list ys) => if xs.length + ys.length ≤ 1000000 then some (xs ++ ys) else none
    | _ => none
  | _ => none
theorem cf_cat (ha : PE X a (tE X.K true f)) (hb : PE X b (tE X.K true g)) : PE X (.BinOp a .Add b pos) (tF X.K c (fCat f g)) := pe_w (pe_op op_catR ha hb) fun σ H Q ⟨S0, H0, A, env, d, E, hf, q⟩ => by
  unfold fCat at hf
  split at hf
  · rename_i xs h1
    split at hf
    · rename_i ys h2
      split at hf
      · rename_i hl
        cases hf
        refine ⟨S0, H0, A, env, _, E, h1, fun v H1 s1 r1 => ⟨S0, H0, A, env, _, E.grow s1, h2, fun u H2 s2 r2 => ?_⟩⟩
        rw [Rp] at r1 r2
        obtain ⟨l, us, rfl, k1, q1⟩ := r1
        obtain ⟨m, vs, rfl, k2, q2⟩ := r2
        refine ⟨l, m, us, vs, rfl, rfl, s2.seq k1.sq, k2.sq, by rw [q1.length, q2.length]; exact sz6 hl, fun p hp => q p _ _ ((s1.trans s2).free hp) ((s1.trans s2).trans (same_new hp)) upd_same ?_⟩
        exact (((q1.grow s2).append q2).wide fun _ z => sc_cl (cl_sc z)).apart hp (same_new hp)
      · cases hf
    · cases hf
  · cases hf

/-! ### ints -/
def i2 (h : Int → Int → Option PyData) : PyData → PyData → Option PyData
  | .int i, .int j => h i j
  | _, _ => none
theorem r2_I {C : Int → Int → Prop} [DecidableRel C] {k : Int → Int → Int} : R2Ok K true (rI C fun i j => .int (k i j)) (i2 fun i j => if C i j then some (.int (k i j)) else none) := by
  intro S S' H x y dx dy d Q hn hS rx ry h q
  unfold i2 at h
  split at h
  · dsimp only at h
    split at h
    · rename_i hc
      cases h
      rw [Rp] at rx ry
      subst rx ry
      exact ⟨_, _, rfl, rfl, hc, q _ H (Same.refl H) rp1⟩
    · cases h
  · cases h
theorem r2_I0 {k : Int → Int → Int} : R2Ok K true (rI0 fun i j => .int (k i j)) (i2 fun i j => some (.int (k i j))) := by
  intro S S' H x y dx dy d Q hn hS rx ry h q
  unfold i2 at h
  split at h
  · cases h
    rw [Rp] at rx ry
    subst rx ry
    exact ⟨_, _, rfl, rfl, q _ H (Same.refl H) rp1⟩
  · cases h
theorem r2_B0 {k : Int → Int → Bool} : R2Ok K true (rI0 fun i j => .bl (k i j)) (i2 fun i j => some (.bool (k i j))) := by
  intro S S' H x y dx dy d Q hn hS rx ry h q
  unfold i2 at h
  split at h
  · cases h
    rw [Rp] at rx ry
    subst rx ry
    exact ⟨_, _, rfl, rfl, q _ H (Same.refl H) rpb⟩
  · cases h
instance : DecidableRel CMul := fun i j => by unfold CMul; infer_instance
instance : DecidableRel CDiv := fun i j => by unfold CDiv; infer_instance
instance : DecidableRel CPow := fun i j => by unfold CPow; infer_instance
def subD : PyData → PyData → Option PyData := i2 fun i j => some (.int (i - j))
def mulD : PyData → PyData → Option PyData := i2 fun i j => if CMul i j then some (.int (i * j)) else none
def divD : PyData → PyData → Option PyData := i2 fun i j => if CDiv i j then some (.int (i / j)) else none
def modD : PyData → PyData → Option PyData := i2 fun i j => if 0 < j then some (.int (i % j)) else none
def powD : PyData → PyData → Option PyData := i2 fun i j => if CPow i j then some (.int (i ^ j.toNat)) else none
theorem ce_sub (ha : PE X a (tE X.K c f)) (hb : PE X b (tE X.K c g)) : PE X (.BinOp a .Sub b pos) (tE X.K true (e2 subD f g)) := ce_op op_sub r2_I0 ha hb
theorem ce_mul (ha : PE X a (tE X.K c f)) (hb : PE X b (tE X.K c g)) : PE X (.BinOp a .Mult b pos) (tE X.K true (e2 mulD f g)) := ce_op op_mul r2_I ha hb
theorem ce_div (ha : PE X a (tE X.K c f)) (hb : PE X b (tE X.K c g)) : PE X (.BinOp a .FloorDiv b pos) (tE X.K true (e2 divD f g)) := ce_op op_fdiv r2_I ha hb
theorem ce_mod (ha : PE X a (tE X.K c f)) (hb : PE X b (tE X.K c g)) : PE X (.BinOp a .Mod b pos) (tE X.K true (e2 modD f g)) := ce_op op_mod r2_I ha hb
theorem ce_pow (ha : PE X a (tE X.K c f)) (hb : PE X b (tE X.K c g)) : PE X (.BinOp a .Pow b pos) (tE X.K true (e2 powD f g)) := ce_op op_pow r2_I ha hb
def negD : PyData → Option PyData
  | .int i => some (.int (-i))
  | _ => none
def e1 (h : PyData → Option PyData) (f : En → Option PyData) : En → Option PyData := fun env => match f env with
  | some d => h d
  | none => none
theorem ce_neg (ha : PE X a (tE X.K c f)) : PE X (.UnaryOp .USub a pos) (tE X.K true (e1 negD f)) := pe_w (pe_un un_neg ha) fun σ H Q ⟨S0, H0, A, env, d, E, hf, q⟩ => by
  unfold e1 at hf
  split at hf
  · rename_i x hx
    cases x with
    | int i =>
      cases hf
      refine ⟨S0, H0, A, env, _, E, hx, fun v H1 s r => ?_⟩
      rw [Rp] at r
      subst r
      exact ⟨_, rfl, q _ H1 s rp1⟩
    | _ => cases hf
  · cases hf

/-! ### comparisons -/
def ltD : PyData → PyData → Option PyData := i2 fun i j => some (.bool (decide (i < j)))
def leD : PyData → PyData → Option PyData := i2 fun i j => some (.bool (decide (i ≤ j)))
def gtD : PyData → PyData → Option PyData := i2 fun i j => some (.bool (decide (j < i)))
def geD : PyData → PyData → Option PyData := i2 fun i j => some (.bool (decide (j ≤ i)))
theorem ce_lt (ha : PE X a (tE X.K c f)) (hb : PE X b (tE X.K c g)) : PE X (.Compare a [.Lt] [b] pos) (tE X.K true (e2 ltD f g)) := ce_cmp op_lt r2_B0 ha hb (nomark _)
theorem ce_le (ha : PE X a (tE X.K c f)) (hb : PE X b (tE X.K c g)) : PE X (.Compare a [.LtE] [b] pos) (tE X.K true (e2 leD f g)) := ce_cmp op_le r2_B0 ha hb (nomark _)
theorem ce_gt (ha : PE X a (tE X.K c f)) (hb : PE X b (tE X.K c g)) : PE X (.Compare a [.Gt] [b] pos) (tE X.K true (e2 gtD f g)) := ce_cmp op_gt r2_B0 ha hb (nomark _)
theorem ce_ge (ha : PE X a (tE X.K c f)) (hb : PE X b (tE X.K c g)) : PE X (.Compare a [.GtE] [b] pos) (tE X.K true (e2 geD f g)) := ce_cmp op_ge r2_B0 ha hb (nomark _)
def eqD : PyData → PyData → Option PyData := fun x y => if (SeqAt.shaped x && SeqAt.shaped y) = true then some (.bool (PyData.eqv x y)) else none
def neD : PyData → PyData → Option PyData := fun x y => if (SeqAt.shaped x && SeqAt.shaped y) = true then some (.bool (!PyData.eqv x y)) else none
theorem r2_eq : R2Ok K true (rEqD K) eqD := by
  intro S S' H x y dx dy d Q hn hS rx ry h q
  unfold eqD at h
  split at h
  · rename_i hs
    rw [Bool.and_eq_true] at hs
    cases h
    exact ⟨dx, dy, rx.dp hs.1, ry.dp hs.2, hs.1, hs.2, q _ H (Same.refl H) rpb⟩
  · cases h
theorem r2_ne : R2Ok K true (rNeD K) neD := by
  intro S S' H x y dx dy d Q hn hS rx ry h q
  unfold neD at h
  split at h
  · rename_i hs
    rw [Bool.and_eq_true] at hs
    cases h
    exact ⟨dx, dy, rx.dp hs.1, ry.dp hs.2, hs.1, hs.2, q _ H (Same.refl H) rpb⟩
  · cases h
theorem ce_eq (hu : X.A.units + 64 < cLine) (ha : PE X a (tE X.K c f)) (hb : PE X b (tE X.K c g)) : PE X (.Compare a [.Eq] [b] pos) (tE X.K true (e2 eqD f g)) := ce_cmp (op_eqD hu) r2_eq ha hb (nomark _)
theorem ce_ne (hu : X.A.units + 64 < cLine) (ha : PE X a (tE X.K c f)) (hb : PE X b (tE X.K c g)) : PE X (.Compare a [.NotEq] [b] pos) (tE X.K true (e2 neD f g)) := ce_cmp (op_neD hu) r2_ne ha hb (nomark _)
def noneB : PyData → Bool
  | .none => true
  | _ => false
def isD : PyData → PyData → Option PyData
  | x, .none => some (.bool (noneB x))
  | _, _ => none
def isntD : PyData → PyData → Option PyData
  | x, .none => some (.bool (!noneB x))
  | _, _ => none
theorem noneB_rp {S : Addr → Prop} {H : Hp} {d : PyData} {v : V} (r : Rp K S H d v) : decide (v = .non) = noneB d := by
  cases d with
  | none => rw [Rp] at r; subst r; rfl
  | bool k => rw [Rp] at r; subst r; rfl
  | int k => rw [Rp] at r; subst r; rfl
  | str k => rw [Rp] at r; subst r; rfl
  | list ds => rw [Rp] at r; obtain ⟨a, xs, rfl, _⟩ := r; rfl
  | tuple ds => rw [Rp] at r; obtain ⟨a, xs, rfl, _⟩ := r; rfl
  | dict k => rw [Rp] at r; obtain ⟨a, od, rfl, _⟩ := r; rfl
theorem r2_is : R2Ok K true (fun x y H Q => y = .non ∧ Q (.bl (decide (x = .non))) H) isD := by
  intro S S' H x y dx dy d Q hn hS rx ry h q
  unfold isD at h
  split at h
  · cases h
    rw [Rp] at ry
    exact ⟨ry, by rw [noneB_rp rx]; exact q _ H (Same.refl H) rpb⟩
  · cases h
theorem r2_isnt : R2Ok K true (fun x y H Q => y = .non ∧ Q (.bl (!decide (x = .non))) H) isntD := by
  intro S S' H x y dx dy d Q hn hS rx ry h q
  unfold isntD at h
  split at h
  · cases h
    rw [Rp] at ry
    exact ⟨ry, by rw [noneB_rp rx]; exact q _ H (Same.refl H) rpb⟩
  · cases h
theorem ce_is (ha : PE X a (tE X.K c f)) (hb : PE X b (tE X.K c g)) : PE X (.Compare a [.Is] [b] pos) (tE X.K true (e2 isD f g)) := ce_cmp op_isN r2_is ha hb (nomark _)
theorem ce_isnt (ha : PE X a (tE X.K c f)) (hb : PE X b (tE X.K c g)) : PE X (.Compare a [.IsNot] [b] pos) (tE X.K true (e2 isntD f g)) := ce_cmp op_notN r2_isnt ha hb (nomark _)
/-! in: a list of data of any depth -/
def inD : PyData → PyData → Option PyData
  | x, .list ds => if (SeqAt.shaped x && SeqAt.shaped (.list ds)) = true then some (.bool (ds.any fun z => PyData.eqv z x)) else none
  | _, _ => none
def notInD : PyData → PyData → Option PyData
  | x, .list ds => if (SeqAt.shaped x && SeqAt.shaped (.list ds)) = true then some (.bool (!ds.any fun z => PyData.eqv z x)) else none
  | _, _ => none
theorem r2_in : R2Ok K true (rInD K) inD := by
  intro S S' H x y dx dy d Q hn hS rx ry h q
  unfold inD at h
  split at h
  · split at h
    · rename_i hs
      rw [Bool.and_eq_true] at hs
      cases h
      exact ⟨_, _, rx.dp hs.1, ry.dp hs.2, hs.1, hs.2, q _ H (Same.refl H) rpb⟩
    · cases h
  · cases h
theorem r2_notIn : R2Ok K true (rNotInD K) notInD := by
  intro S S' H x y dx dy d Q hn hS rx ry h q
  unfold notInD at h
  split at h
  · split at h
    · rename_i hs
      rw [Bool.and_eq_true] at hs
      cases h
      exact ⟨_, _, rx.dp hs.1, ry.dp hs.2, hs.1, hs.2, q _ H (Same.refl H) rpb⟩
    · cases h
  · cases h
theorem ce_in (hu : X.A.units + 65 < cLine) (ha : PE X a (tE X.K c f)) (hb : PE X b (tE X.K c g)) (hm : behindInMarks .In b = false) : PE X (.Compare a [.In] [b] pos) (tE X.K true (e2 inD f g)) := ce_cmp (op_inD hu) r2_in ha hb hm
theorem ce_notIn (hu : X.A.units + 65 < cLine) (ha : PE X a (tE X.K c f)) (hb : PE X b (tE X.K c g)) (hm : behindInMarks .NotIn b = false) : PE X (.Compare a [.NotIn] [b] pos) (tE X.K true (e2 notInD f g)) := ce_cmp (op_notInD hu) r2_notIn ha hb hm
/-! chains of ints: a < b < c -/
def chI (k1 k2 : Int → Int → Bool) (f g h : En → Option PyData) : En → Option PyData := fun env => match f env with
  | some (.int i) => match g env with
    | some (.int j) => if k1 i j = true then (match h env with
      | some (.int m) => some (.bool (k2 j m))
      | _ => none) else some (.bool false)
    | _ => none
  | _ => none
theorem ce_chain {k1 k2 : Int → Int → Bool} {h : En → Option PyData} (he : PE X e (tChain (rI0 fun i j => .bl (k1 i j)) (rI0 fun i j => .bl (k2 i j)) (tE X.K c f) (tE X.K c1 g) (tE X.K c2 h))) : PE X e (tE X.K true (chI k1 k2 f g h)) := pe_w he fun σ H Q ⟨S0, H0, A, env, d, E, hf, q⟩ => by
  unfold chI at hf
  split at hf
  · rename_i i hi
    split at hf
    · rename_i j hj
      refine ⟨S0, H0, A, env, _, E, hi, fun v H1 s1 r1 => ⟨S0, H0, A, env, _, E.grow s1, hj, fun u H2 s2 r2 => ?_⟩⟩
      rw [Rp] at r1 r2
      subst r1 r2
      refine ⟨i, j, rfl, rfl, k1 i j, rfl, ?_⟩
      by_cases hk : k1 i j = true
      · rw [if_pos hk] at hf
        rw [hk, if_pos rfl]
        split at hf
        · rename_i m hm
          cases hf
          refine ⟨S0, H0, A, env, _, (E.grow s1).grow s2, hm, fun w H3 s3 r3 => ?_⟩
          rw [Rp] at r3
          subst r3
          exact ⟨j, m, rfl, rfl, q _ H3 ((s1.trans s2).trans s3) rpb⟩
        · cases hf
      · rw [if_neg hk] at hf
        cases hf
        rw [if_neg hk]
        have e : k1 i j = false := by cases z : k1 i j with
          | true => exact absurd z hk
          | false => rfl
        exact q _ H2 (s1.trans s2) rpb
    · cases hf
  · cases hf

/-! ### items, slices -/
def ixG (x k : PyData) : Option PyData := match k with
  | .int i => match x with
    | .list ds => atI ds i
    | .tuple ds => atI ds i
    | .str z => if z.length ≤ 1000000 then (atI z.cps.toList i).map fun c => .str ⟨#[c]⟩ else none
    | _ => none
  | _ => none
theorem atI_rp {S : Addr → Prop} {H : Hp} {ds : List PyData} {xs : List V} {i : Int} {d : PyData} (r : RpA K S H ds xs) (h : atI ds i = some d) : ∃ v, atI xs i = some v ∧ Rp K S H d v := by
  unfold atI at h ⊢
  rw [r.length]
  cases hj : ixN ds.length i with
  | none => rw [hj] at h; cases h
  | some j =>
    rw [hj] at h
    exact r.get h
theorem r2_ix : R2Ok K false (rIx K) ixG := by
  intro S S' H x y dx dy d Q hn hS rx ry h q
  have hS' : S' = S := hS.elim (fun z => nomatch z) id
  subst hS'
  unfold ixG at h
  split at h
  · rename_i i
    rw [Rp] at ry
    subst ry
    split at h
    · rw [Rp] at rx
      obtain ⟨l, us, rfl, h1, r1⟩ := rx
      obtain ⟨v, e1, e2⟩ := atI_rp r1 h
      exact .inl ⟨l, us, i, v, rfl, rfl, h1.sq, e1, q v H (Same.refl H) e2⟩
    · rw [Rp] at rx
      obtain ⟨l, us, rfl, h1, r1⟩ := rx
      obtain ⟨v, e1, e2⟩ := atI_rp r1 h
      exact .inr (.inl ⟨l, us, i, v, rfl, rfl, live_t h1, e1, q v H (Same.refl H) e2⟩)
    · rename_i z
      split at h
      · rename_i hl
        rw [Rp] at rx
        subst rx
        cases hc : atI z.cps.toList i with
        | none => rw [hc] at h; cases h
        | some k =>
          rw [hc] at h
          cases h
          exact .inr (.inr ⟨z, i, k, rfl, rfl, sz6 hl, hc, q _ H (Same.refl H) rps⟩)
      · cases h
    · cases h
  · cases h
theorem ce_ix (ha : PE X a (tE X.K c f)) (hb : PE X b (tE X.K c g)) (hs : PlainIx b) : PE X (.Subscript a b pos) (tE X.K c (e2 ixG f g)) := pe_w (pe_ix ix_seq ha hb hs) fun _ _ _ q => e2_run r2_ix (.inr rfl) q
/-- x[k], x owned: a clean item -/
def eIxO (i : Nat) (g : En → Option PyData) : En → Option PyData := fun env => match env[i]? with
  | some (.own ds) => match g env with
    | some (.int k) => atI ds k
    | _ => none
  | _ => none
theorem ce_ixO {i : Nat} (ha : PE X a (tVar i)) (hb : PE X b (tE X.K c g)) (hs : PlainIx b) : PE X (.Subscript a b pos) (tE X.K true (eIxO i g)) := pe_w (pe_ix ix_seq ha hb hs) fun σ H Q ⟨S0, H0, A, env, d, E, hf, q⟩ => by
  unfold eIxO at hf
  split at hf
  · rename_i ds hi
    split at hf
    · rename_i k hk
      rcases E.sl i _ hi with z | ⟨v, h1, l, us, rfl, ha, hh, r⟩
      · cases z
      refine ⟨_, h1, S0, H0, A, env, _, E, hk, fun u H1 s1 r1 => ?_⟩
      rw [Rp] at r1
      subst r1
      obtain ⟨v, e1, e2⟩ := atI_rp (r.grow s1) hf
      exact .inl ⟨l, us, k, v, rfl, rfl, .inl (.inl (s1 _ _ hh)), e1, q v H1 s1 (Rp.wide (fun _ z => sc_cl z) e2)⟩
    · cases hf
  · cases hf
def tOp' (K : PySem.W.Frag) (f : En → Option (Option Int)) : TO := fun σ H Q => ∃ S0 H0 A env o, EnvOk K S0 H0 A H σ env ∧ f env = some o ∧ ∀ H', Same H H' → Q o H'
def oNone : En → Option (Option Int) := fun _ => some none
def oSome (f : En → Option PyData) : En → Option (Option Int) := fun env => match f env with
  | some (.int i) => some (some i)
  | _ => none
theorem co_none : PO X none (tOp' X.K oNone) := ⟨fun pins s σ H Q I ⟨S0, H0, A, env, o, E, hf, q⟩ => (po_none).run pins s σ H Q I (by cases hf; exact q H (Same.refl H))⟩
theorem co_some (h : PE X e (tE X.K c f)) : PO X (some e) (tOp' X.K (oSome f)) := ⟨fun pins s σ H Q I ⟨S0, H0, A, env, o, E, hf, q⟩ => (po_some h).run pins s σ H Q I (by
  unfold oSome at hf
  split at hf
  · rename_i i hi
    cases hf
    refine ⟨S0, H0, A, env, _, E, hi, fun v H1 s r => ?_⟩
    rw [Rp] at r
    exact ⟨i, r, q H1 s⟩
  · cases hf)⟩
def cutL {α : Type} (xs : List α) (lo hi : Option Int) : List α := (xs.drop (HT.sIx xs.length 0 lo)).take (HT.sIx xs.length xs.length hi - HT.sIx xs.length 0 lo)
def rSlX (K : PySem.W.Frag) : V → Option Int → Option Int → Hp → VK → Prop := fun x lo hi H Q => (∃ a xs, x = .ref a ∧ SqL K H a xs ∧ ∀ p, H p = none → Q (.ref p) (upd H p (.lst (cutV xs lo hi)))) ∨ rSlA K x lo hi H Q ∨ rSlS x lo hi H Q
theorem sl_X : SlR X (rSlX X.K) := by
  intro pins s σ H x v vl vu lo hi sl Q I rx hs pl pu h
  rcases h with h | h | h
  · exact sl_list pins s σ H x v vl vu lo hi sl Q I rx hs pl pu h
  · exact sl_tupA pins s σ H x v vl vu lo hi sl Q I rx hs pl pu h
  · exact sl_str pins s σ H x v vl vu lo hi sl Q I rx hs pl pu h
def slG (x : PyData) (lo hi : Option Int) : Option PyData := match x with
  | .list ds => some (.list (cutL ds lo hi))
  | .tuple ds => some (.tuple (cutL ds lo hi))
  | .str z => if z.length ≤ 1000000 then some (.str (cutS z lo hi)) else none
  | _ => none
theorem cut_rp {S : Addr → Prop} {H : Hp} {ds : List PyData} {xs : List V} (r : RpA K S H ds xs) (lo hi : Option Int) : RpA K S H (cutL ds lo hi) (cutV xs lo hi) := by
  unfold cutL cutV
  rw [r.length]
  exact (r.drop _).take _
theorem cut_whole {ds : List PyData} {lo hi : Option Int} (h : HT.sIx ds.length 0 lo = 0 ∧ HT.sIx ds.length ds.length hi = ds.length) : cutL ds lo hi = ds := by
  unfold cutL
  rw [h.1, h.2]
  simp
def eSl (f : En → Option PyData) (l h : En → Option (Option Int)) : En → Option PyData := fun env => match f env with
  | some x => match l env with
    | some lo => match h env with
      | some hi => slG x lo hi
      | none => none
    | none => none
  | none => none
theorem ce_sl {lo hi : Option Expr} {p2 : Pos} {l h : En → Option (Option Int)} (ha : PE X a (tE X.K c f)) (hl : PO X lo (tOp' X.K l)) (hh : PO X hi (tOp' X.K h)) : PE X (.Subscript a (.Slice lo hi none p2) pos) (tE X.K c (eSl f l h)) := pe_w (pe_slice sl_X ha hl hh) fun σ H Q ⟨S0, H0, A, env, d, E, hf, q⟩ => by
  unfold eSl at hf
  split at hf
  · rename_i x hx
    split at hf
    · rename_i lo' hlo
      split at hf
      · rename_i hi' hhi
        refine ⟨S0, H0, A, env, x, E, hx, fun v H1 s1 r1 => ⟨S0, H0, A, env, lo', E.grow s1, hlo, fun H2 s2 => ⟨S0, H0, A, env, hi', (E.grow s1).grow s2, hhi, fun H3 s3 => ?_⟩⟩⟩
        have sm := (s1.trans s2).trans s3
        have r3 := (r1.grow s2).grow s3
        unfold slG at hf
        split at hf
        · cases hf
          rw [Rp] at r3
          obtain ⟨m, us, rfl, k, r⟩ := r3
          refine .inl ⟨m, us, rfl, k.sq, fun p hp => q _ _ (sm.trans (same_new hp)) ?_⟩
          rw [Rp]
          exact ⟨p, _, rfl, .inl ⟨sc_new (E.grow sm) hp, .inl upd_same⟩, (cut_rp r _ _).grow (same_new hp)⟩
        · cases hf
          have r3' := r3
          rw [Rp] at r3
          obtain ⟨m, us, rfl, k, r⟩ := r3
          refine .inr (.inl ⟨m, us, rfl, live_t k, fun w => ?_, fun _ p hp => q _ _ (sm.trans (same_new hp)) ?_⟩)
          · rw [r.length] at w
            rw [cut_whole w] at q
            exact q _ H3 sm r3'
          · rw [Rp]
            exact ⟨p, _, rfl, upd_same, (cut_rp r _ _).grow (same_new hp)⟩
        · split at hf
          · rename_i z hz
            cases hf
            rw [Rp] at r3
            subst r3
            exact .inr (.inr ⟨z, rfl, sz6 hz, q _ H3 sm rps⟩)
          · cases hf
        · cases hf
      · cases hf
    · cases hf
  · cases hf
end
end Mir

namespace Mir
open PySem PySem.Spec PyProof.Rows L2
theorem hu65 {k : Nat} {A : Around} (r : Room k A) : A.units + 65 < cLine := by
  have := r.un
  omega
abbrev tNilE : TE := tC .non
section
variable {X : Cx} {a b e : Expr} {es : List Expr} {pos p : Pos} {st : Stmt} {c c1 c2 : Bool} {f g : En → Option PyData} {fa : En → Option (List PyData)} {fb : En → Option Bool} {K : PySem.W.Frag}
theorem ct_chain {k1 k2 : Int → Int → Bool} {h : En → Option PyData} (he : PT X e (tTest (tChain (rI0 fun i j => .bl (k1 i j)) (rI0 fun i j => .bl (k2 i j)) (tE X.K c f) (tE X.K c1 g) (tE X.K c2 h)))) : PT X e (tT X.K (t1 (chI k1 k2 f g h))) := pt_w he fun σ H Q ⟨S0, H0, A, env, d, E, hf, q⟩ => by
  have hf := t1_some hf
  unfold chI at hf
  split at hf
  · rename_i i hi
    split at hf
    · rename_i j hj
      refine ⟨S0, H0, A, env, _, E, hi, fun v H1 s1 r1 => ⟨S0, H0, A, env, _, E.grow s1, hj, fun u H2 s2 r2 => ?_⟩⟩
      rw [Rp] at r1 r2
      subst r1 r2
      refine ⟨i, j, rfl, rfl, k1 i j, rfl, ?_⟩
      by_cases hk : k1 i j = true
      · rw [if_pos hk] at hf
        rw [hk, if_pos rfl]
        split at hf
        · rename_i m hm
          cases hf
          refine ⟨S0, H0, A, env, _, (E.grow s1).grow s2, hm, fun w H3 s3 r3 => ?_⟩
          rw [Rp] at r3
          subst r3
          exact ⟨j, m, rfl, rfl, _, rfl, q H3 ((s1.trans s2).trans s3)⟩
        · cases hf
      · rw [if_neg hk] at hf
        cases hf
        rw [if_neg hk]
        exact ⟨_, rfl, q H2 (s1.trans s2)⟩
    · cases hf
  · cases hf
theorem ce_l' {t : TE} (h : ∀ σ H Q, tF K c fa σ H Q → t σ H Q) {σ : L2.St} {H : Hp} {Q : VK} (q : tE K c (eL fa) σ H Q) : t σ H Q := by
  obtain ⟨S0, H0, A, env, d, E, hf, q⟩ := q
  unfold eL at hf
  cases hd : fa env with
  | none => rw [hd] at hf; cases hf
  | some ds =>
    rw [hd] at hf
    cases hf
    refine h _ _ _ ⟨S0, H0, A, env, ds, E, hd, fun p xs H' hn s hp r => q _ H' s ?_⟩
    rw [Rp]
    exact ⟨p, xs, rfl, .inl ⟨sc_new E hn, .inl hp⟩, r.wide fun _ z => z.1⟩
theorem cs_lcV {i : Nat} {c : Bool} {f : En → Option (List PyData)} {g : PyData → En → Option En} {ga : En → Option Bool} {fe : En → Option PyData} {is : List Nat} (h : PS X st (tAsg (tLc (tI X.K c f) (tG X.K is g) (tT X.K ga) (tE X.K true fe) is) (gName i))) : PS X st (tS X.K (sSet i (eL (fCmp is f g ga fe)))) :=
  ps_w h fun D σ H q => ce_l' (c := true) (fun _ _ _ z => lc_run (fun _ _ _ z => z) z) (set_run q)
theorem cs_lcV1 {i : Nat} {c : Bool} {f : En → Option (List PyData)} {g : PyData → En → Option En} {fe : En → Option PyData} {is : List Nat} (h : PS X st (tAsg (tLc (tI X.K c f) (tG X.K is g) tYes (tE X.K true fe) is) (gName i))) : PS X st (tS X.K (sSet i (eL (fCmp is f g tYes' fe)))) :=
  ps_w h fun D σ H q => ce_l' (c := true) (fun _ _ _ z => lc_run (fun _ _ _ z => yes_run z) z) (set_run q)
end
/-! any, all, sum -/
def boolsD : List PyData → Option (List Bool)
  | [] => some []
  | .bool i :: ds => match boolsD ds with
    | some ns => some (i :: ns)
    | none => none
  | _ :: _ => none
theorem boolsD_rp {K : PySem.W.Frag} {S : Addr → Prop} {H : Hp} : ∀ {ds : List PyData} {ns : List Bool} {xs : List V}, boolsD ds = some ns → RpA K S H ds xs → xs = ns.map V.bl
  | [], ns, xs, h, r => by
    rw [RpA] at r
    cases h
    exact r
  | .bool i :: ds, ns, xs, h, r => by
    rw [RpA] at r
    obtain ⟨v, r', rfl, h1, h2⟩ := r
    rw [Rp] at h1
    simp only [boolsD] at h
    split at h
    · rename_i ms hm
      cases h
      have e1 := boolsD_rp hm h2
      subst h1
      rw [e1]; rfl
    · cases h
  | .none :: _, _, _, h, _ => by cases h
  | .str _ :: _, _, _, h, _ => by cases h
  | .int _ :: _, _, _, h, _ => by cases h
  | .list _ :: _, _, _, h, _ => by cases h
  | .tuple _ :: _, _, _, h, _ => by cases h
  | .dict _ :: _, _, _, h, _ => by cases h
theorem boolsD_map : ∀ ns : List Bool, boolsD (ns.map PyData.bool) = some ns
  | [] => rfl
  | n :: ns => by
    show (match boolsD (ns.map PyData.bool) with | some ns => some (n :: ns) | none => none) = _
    rw [boolsD_map ns]
def anyA : List PyData → Option PyData
  | [.list ds] => (boolsD ds).map fun bs => .bool (bs.any id)
  | _ => none
def allA : List PyData → Option PyData
  | [.list ds] => (boolsD ds).map fun bs => .bool (bs.all id)
  | _ => none
def sumA : List PyData → Option PyData
  | [.list ds] => (intsD ds).map fun ns => .int ns.sum
  | _ => none
theorem cr_any' {K : PySem.W.Frag} : CROk K true (rAny K) anyA := by
  intro S S' H vs ds d Q _ _ r h q
  unfold anyA at h
  split at h
  · obtain ⟨v, rfl, r1⟩ := r.one
    rw [Rp] at r1
    obtain ⟨a, xs, rfl, hs, ra⟩ := r1
    rename_i es
    cases hb : boolsD es with
    | none => rw [hb] at h; cases h
    | some bs =>
      rw [hb] at h
      cases h
      have e1 := boolsD_rp hb ra
      subst e1
      exact ⟨a, bs, rfl, hs.sq, q _ H (Same.refl H) rpb⟩
  · cases h
theorem cr_all' {K : PySem.W.Frag} : CROk K true (rAll K) allA := by
  intro S S' H vs ds d Q _ _ r h q
  unfold allA at h
  split at h
  · obtain ⟨v, rfl, r1⟩ := r.one
    rw [Rp] at r1
    obtain ⟨a, xs, rfl, hs, ra⟩ := r1
    rename_i es
    cases hb : boolsD es with
    | none => rw [hb] at h; cases h
    | some bs =>
      rw [hb] at h
      cases h
      have e1 := boolsD_rp hb ra
      subst e1
      exact ⟨a, bs, rfl, hs.sq, q _ H (Same.refl H) rpb⟩
  · cases h
theorem cr_sum' {K : PySem.W.Frag} : CROk K true (rSum K) sumA := by
  intro S S' H vs ds d Q _ _ r h q
  unfold sumA at h
  split at h
  · obtain ⟨v, rfl, r1⟩ := r.one
    rw [Rp] at r1
    obtain ⟨a, xs, rfl, hs, ra⟩ := r1
    rename_i es
    cases hb : intsD es with
    | none => rw [hb] at h; cases h
    | some ns =>
      rw [hb] at h
      cases h
      obtain ⟨e1, _⟩ := intsD_rp hb ra
      subst e1
      exact ⟨a, ns, rfl, hs.sq, q _ H (Same.refl H) rp1⟩
  · cases h
/-- the law's own end -/
theorem ints_rp {K : PySem.W.Frag} {S : Addr → Prop} {H : Hp} : ∀ ns : List Int, RpA K S H (ns.map PyData.int) (ns.map V.int)
  | [] => RpA.nil
  | n :: ns => RpA.cons rp1 (ints_rp ns)
theorem law_end {K : PySem.W.Frag} {H : Hp} {a : Addr} {ns : List Int} {g : List PyData → Option PyData} {E : XK} (h : SqL K H a (ns.map V.int)) (e : g [.list (ns.map .int)] = some (.bool true)) : spF K g [.ref a] H (fun v _ => v = .bl true) E := by
  refine ⟨fun _ => True, _, _, RpA.cons ?_ RpA.nil, e, fun v H' _ r => by rw [Rp] at r; exact r⟩
  rw [Rp]
  exact ⟨a, _, rfl, LsAt.of trivial h, ints_rp ns⟩
end Mir

namespace Mir
open PySem PySem.Spec PyProof.Rows L2
/-! ### enumerate over a tuple -/
theorem called_any {c : Value} {M : Model} {A : Around} {E : Value → Shared → Prop} {s : Shared} {Q : Bool → Shared → Prop} (h : ∀ b, Q b s) : wpAny M A (Builtin.SmallTypes.calledThroughType c) Q E s :=
  wpAny_bind (wpAny_stack_any fun st => wpAny_pure (h _))
theorem meets_enumT {v : Value} {o : Obj} {HH : Heap → Prop} (B : Begins v o HH) :
    Meets (Builtin.«enumerate.__new__» { pos := [Value.type "enumerate", v] }) fun x R s =>
      HH s.heap ∧ R (Except.ok (Flow.ret (Value.ref (s.heap.push o).objs.size)))
        { heap := (s.heap.push o).push { cls := Value.type "enumerate", data := Data.fields #[Value.none, Value.bool false, Value.ref s.heap.objs.size, rawInt 0, Value.none, Value.none] },
          gens := s.gens, drawn := s.drawn, toks := s.toks, os := s.os } := by
  refine Meets.of_wp fun prog w A R s h => ?_
  obtain ⟨hp, g, d, tk, os⟩ := s
  obtain ⟨h1, h⟩ := h
  have hsub := sub_enumerate
  refine wpAny_bind (wpAny_bind (wpAny_pure (wpAny_ite_false (by decide) (wpAny_bind (wpAny_of_eq hsub (wpAny_ite_false (by decide) (wpAny_pure (wpAny_ite_true (by decide) (wpAny_bind (called_any fun sh => ?_))))))))))
  have key : wpAny (model prog w) A.in1 (do
      let x ← pyIter v
      let y ← Builtin.SmallTypes.newRecord (Value.type "enumerate") (Builtin.SmallTypes.ownedTupleFields ++ [x, rawInt 0, Value.none, Value.none])
      ret y) (fun fin s' => ∃ v, fin = Fin.done (Flow.ret v) ∧ R (Except.ok (Flow.ret v)) s') (fun e s' => R (Except.error e) s') { heap := hp, gens := g, drawn := d, toks := tk, os := os } := by
    refine wpAny_bind (B.iter prog w _ _ _ _ h1 (wpAny_bind ?_))
    exact wpAny_bind (wpAny_alloc (wpAny_pure (wpAny_pure ⟨_, rfl, h⟩)))
  cases sh
  · exact wpAny_ite_false (by decide) (wpAny_bind (wpAny_of_eq (show _ = pure (v, none) from rfl) key))
  · exact wpAny_ite_true (by decide) (wpAny_bind (wpAny_of_eq (show _ = pure (v, none) from rfl) key))
theorem call_enumT {prog : Program} {w : World} {A : Around} {E : Value → Shared → Prop} {s : Shared} {v : Value} {o : Obj} {HH : Heap → Prop} {Q : Value → Shared → Prop} (B : Begins v o HH) (h1 : HH s.heap)
    (h : ∀ h' : Heap, IsEnum h' (s.heap.objs.size + 1) s.heap.objs.size 0 Value.none → h'.get? s.heap.objs.size = some o → h'.objs.size = s.heap.objs.size + 2 → (∀ (b : Addr) (o : Obj), s.heap.get? b = some o → h'.get? b = some o) →
      Q (Value.ref (s.heap.objs.size + 1)) { heap := h', gens := s.gens, drawn := s.drawn, toks := s.toks, os := s.os }) :
    wpAny (model prog w) A (call (Value.type "enumerate") [v]) Q E s := by
  refine callType_new F.called_enumerate (by decide) (F.typeCall_enumerate_1 v) (F.newCall_enumerate_1 v) (fun obj => F.args_object_init_2 obj v) F.entry_enumerate_new (meets_enumT B) ⟨h1, ?_⟩
  have hz := Heap.size_push s.heap o
  have he := Heap.get?_push_size (s.heap.push o) (o := { cls := Value.type "enumerate", data := Data.fields #[Value.none, Value.bool false, Value.ref s.heap.objs.size, rawInt 0, Value.none, Value.none] }) rfl
  rw [hz] at he
  show _ ∧ _
  rw [hz]
  refine ⟨⟨_, he, rfl⟩, h _ he (Heap.get?_push_of_some _ (Heap.get?_push_size s.heap B.free)) ?_ fun b o' x => Heap.get?_push_of_some _ (Heap.get?_push_of_some _ x)⟩
  rw [Heap.size_push, hz]

def IteT (K : PySem.W.Frag) (a : Addr) (n : Nat) : It where
  go := fun i H => ∃ xs x, SqT K H a xs ∧ xs.length = n ∧ xs[i]? = some x
  yld := fun i H v H' => ∃ T x, v = .ref T ∧ H T = none ∧ H' = upd H T (.tup [.int (i : Nat), x]) ∧ ∀ xs : List V, SqT K H a xs → xs[i]? = some x
  stop := fun i H => ∃ xs, SqT K H a xs ∧ xs.length = n ∧ n ≤ i
theorem turn_enumT {P : Program} {w : World} {K : PySem.W.Frag} {elts : List Expr} {kk : Nat} {tpos : Pos} (a e it : Addr) (n : Nat) :
    Turn P w K (.Tuple elts kk tpos) (IteT K a n) [e, it] e fun i h => (∃ old, IsEnum h e it (i : Nat) old) ∧ h.IsTupleIter it a i ∧ e ≠ it ∧ i ≤ n where
  mem := by simp
  obj := by
    rintro i h ⟨⟨old, he⟩, ⟨o, ho, hc, hd⟩, hne, hn⟩ b hb
    have e' : b = e ∨ b = it := by simpa using hb
    rcases e' with z | z
    · rw [z]; exact ⟨_, he, fun v q => nomatch q⟩
    · rw [z]; exact ⟨o, ho, fun v q => by rw [hd] at q; cases q⟩
  keep := by
    rintro i h h' ⟨⟨old, he⟩, hi, hne, hn⟩ k
    exact ⟨⟨old, k e (by simp) _ he⟩, Heap.IsTupleIter.at hi fun o q => k it (by simp) o q, hne, hn⟩
  item := by
    intro X hP hw hK hc i pins s σ H E I hf st hg
    subst hP hw hK
    obtain ⟨⟨old, he⟩, hit, hne, hn⟩ := st
    obtain ⟨xs, x, hq, hln, hx⟩ := hg
    obtain ⟨its, rv, p, hz⟩ := I.tuple hq
    obtain ⟨u, hu, ru⟩ := rv.get hx
    have hel := Heap.lt_size he
    have hil : it < s.heap.objs.size := by obtain ⟨w, q, _⟩ := hit; exact Heap.lt_size q
    have pT : s.heap.IsTuple a its.toArray := p
    have hai : a ≠ it := by
      intro z
      subst z
      obtain ⟨o1, q1, q2, _⟩ := hit
      obtain ⟨o2, r1, r2, _⟩ := pT
      rw [q1] at r1
      cases r1
      exact absurd (Value.type.inj (q2.symm.trans r2)) (by decide)
    have hea : e ≠ a := by
      intro z
      subst z
      obtain ⟨o2, r1, r2, _⟩ := pT
      have he' : s.heap.get? e = some _ := he
      rw [he'] at r1
      cases r1
      exact absurd (Value.type.inj r2) (by decide)
    have hlt : i < xs.length := (List.getElem?_eq_some_iff.mp hx).1
    have hlv : its.length = xs.length := by have := rv.length; omega
    refine wpAny_pyNext_enum_itemD (fp := [it, a]) (n := its.toArray.size) (Draws.tuple (A := X.A.in1) (show X.A.in1.handled = none from I.ok.hd hc) it a hai its.toArray) he ⟨hit, pT⟩ (by simp; omega) hne (by simp; exact ⟨hne, hea⟩) fun u' h' tk hP' ho hS hT hsz hk => ?_
    obtain ⟨hit', pT'⟩ := hS
    have hu' : u' = u := by
      have h1 : its[i]? = some u' := by simpa using hP'
      rw [hu] at h1
      cases h1
      rfl
    subst hu'
    refine ⟨_, rfl, wpAny_letOwnedTupleGo_enum ho fun h'' he' sb => ?_⟩
    have hT2 := (sb.2 s.heap.objs.size (Nat.ne_of_gt hel)).trans hT
    have new : ObjOk X.prog X.w (upd H s.heap.objs.size (.tup [.int (i : Nat), x])) h'' s.heap.objs.size (.tup [.int (i : Nat), x]) :=
      ⟨by show (2 : Nat) ≤ sizeLine; decide, [Value.int (i : Nat) tk, u'], .cons ⟨tk, rfl⟩ (.cons ru .nil), ⟨_, hT2, rfl, 0, rfl⟩⟩
    have I1 := I.turnedNew (t' := tk + 1) (ch := [e, it]) (fun b ob hb q => (sb.2 b fun z => hb (by simp [z])).trans (hk b ob (fun z => hb (by simp [z])) (fun z => hb (by simp [z])) q)) hf (Nat.le_refl s.heap.objs.size) new
    refine ⟨.ref s.heap.objs.size, _, I1, rfl, ⟨_, x, rfl, I.hok.fresh (Nat.le_refl _), rfl, fun ys hy => by rw [I.tuple_inj hy hq]; exact hx⟩, ⟨⟨u', ?_⟩, Heap.IsTupleIter.at hit' fun o q => (sb.2 it (Ne.symm hne)).trans q, hne, by omega⟩, fun b hb => ?_⟩
    · show IsEnum h'' e it ((i + 1 : Nat) : Int) u'
      rw [show ((i + 1 : Nat) : Int) = (i : Nat) + 1 by omega]
      exact he'
    · have hb' : b < s.heap.objs.size := by
        have e' : b = e ∨ b = it := by simpa using hb
        rcases e' with z | z <;> (rw [z]; assumption)
      rw [upd_ne (Nat.ne_of_lt hb')]
      exact (hf b hb).1
  done := by
    intro X hP hw hK hc i pins s σ H E I hf st hg
    subst hP hw hK
    obtain ⟨⟨old, he⟩, hit, hne, hn⟩ := st
    obtain ⟨xs, hq, hln, hx⟩ := hg
    obtain ⟨its, rv, p, hz⟩ := I.tuple hq
    have pT : s.heap.IsTuple a its.toArray := p
    have hai : a ≠ it := by
      intro z
      subst z
      obtain ⟨o1, q1, q2, _⟩ := hit
      obtain ⟨o2, r1, r2, _⟩ := pT
      rw [q1] at r1
      cases r1
      exact absurd (Value.type.inj (q2.symm.trans r2)) (by decide)
    have hlv : its.length = xs.length := by have := rv.length; omega
    obtain ⟨f0, f1, f2, f3, f4, f5⟩ := hf it (by simp)
    have hin : its.toArray.size = i := by simp; omega
    refine wpAny_pyNext_enum_endD (fp := [it, a]) (n := its.toArray.size) (Draws.tuple (A := X.A.in1) (show X.A.in1.handled = none from I.ok.hd hc) it a hai its.toArray) he ⟨by rw [hin]; exact hit, pT⟩ fun h' eb => ⟨rfl, I.turned (fun b o hb q => eb b o hb q) f0 f1 f3 f4 f5⟩
  self := by
    rintro A i s Q E ⟨⟨old, he⟩, _⟩ h
    exact wpAny_pyIter_enum he h
def iEnumA (K : PySem.W.Frag) (ta : TA) : TI := fun σ H R => ta σ H fun vs H1 => ∃ a xs, vs = [.ref a] ∧ ((SqL K H1 a xs ∧ R (Ite K a) H1) ∨ (SqT K H1 a xs ∧ R (IteT K a xs.length) H1))
theorem pi_enumA {X : Cx} {e : Expr} {ta : TA} {p pos tpos : Pos} {elts : List Expr} {kk : Nat} (hg : Gl X "enumerate") (hm : X.mg "enumerate" = none) (ha : PA X [e] ta) (hs : starEach [e] X.env = [(false, eval e X.env)] := by rfl) :
    PI X (.Tuple elts kk tpos) (.Call (.Name "enumerate" p) [e] [] pos) (iEnumA X.K ta) := by
  constructor
  intro pins s σ H R I h
  refine Call_ (ld_blt I hg hm boot_enumerate (PyProof.Rows.callWith_type1 (thn (ha.run pos pins s σ H _ I h) ?_) (by rw [hs]; rfl)))
  rintro us s1 ⟨vs, H1, I1, r1, a, xs, rfl, q⟩
  cases r1 with
  | cons r rr =>
    cases rr
    cases r
    rcases q with ⟨hq, q⟩ | ⟨hq, q⟩
    · obtain ⟨its, rv, pl, hz⟩ := I1.list hq
      refine call_enumerate_list pl.isList fun h' he hi hsz hk => ?_
      refine wpAny_pyIter_enum he ⟨s1.heap.objs.size + 1, [s1.heap.objs.size + 1, s1.heap.objs.size], _, _, H1, rfl, I1.kept (t' := s1.toks) hk, turn_enum a _ _, ⟨⟨_, he⟩, hi, Nat.succ_ne_self _⟩, ?_, q⟩
      intro b hb
      have e' : b = s1.heap.objs.size + 1 ∨ b = s1.heap.objs.size := by simpa using hb
      have hb : s1.heap.objs.size ≤ b := by
        rcases e' with z | z
        · rw [z]; exact Nat.le_succ _
        · rw [z]; exact Nat.le_refl _
      exact I1.fpOk hb (I1.hok.fresh hb)
    · obtain ⟨its, rv, pl, hz⟩ := I1.tuple hq
      refine call_enumT (begins_tuple a its.toArray) (show s1.heap.IsTuple a its.toArray from pl) fun h' he hi hsz hk => ?_
      refine wpAny_pyIter_enum he ⟨s1.heap.objs.size + 1, [s1.heap.objs.size + 1, s1.heap.objs.size], _, _, H1, rfl, I1.kept (t' := s1.toks) hk, turn_enumT a _ _ xs.length, ⟨⟨_, he⟩, ⟨_, hi, rfl, rfl⟩, Nat.succ_ne_self _, Nat.zero_le _⟩, ?_, q⟩
      intro b hb
      have e' : b = s1.heap.objs.size + 1 ∨ b = s1.heap.objs.size := by simpa using hb
      have hb : s1.heap.objs.size ≤ b := by
        rcases e' with z | z
        · rw [z]; exact Nat.le_succ _
        · rw [z]; exact Nat.le_refl _
      exact I1.fpOk hb (I1.hok.fresh hb)

/-! ### enumerate, zip as readings -/
section
variable {K : PySem.W.Frag} {X : Cx} {tg iter : Expr}
def enumD : Nat → List PyData → List PyData
  | _, [] => []
  | k, d :: ds => .tuple [.int (k : Nat), d] :: enumD (k + 1) ds
theorem enumD_len : ∀ (ds : List PyData) (k : Nat), (enumD k ds).length = ds.length
  | [], _ => rfl
  | _ :: ds, k => by rw [enumD, List.length_cons, List.length_cons, enumD_len ds]
theorem enumD_get : ∀ (ds : List PyData) (k i : Nat) (d : PyData), (enumD k ds)[i]? = some d → ∃ x, ds[i]? = some x ∧ d = .tuple [.int ((k + i : Nat) : Int), x]
  | [], _, i, d, h => by simp [enumD] at h
  | x :: ds, k, 0, d, h => by
    simp [enumD] at h
    exact ⟨x, rfl, by rw [← h]; rfl⟩
  | x :: ds, k, i + 1, d, h => by
    rw [enumD, List.getElem?_cons_succ] at h
    obtain ⟨y, h1, h2⟩ := enumD_get ds (k + 1) i d h
    exact ⟨y, by simpa using h1, by rw [h2, show k + 1 + i = k + (i + 1) by omega]⟩
theorem pair_rp {S : Addr → Prop} {H : Hp} {T : Addr} {d e : PyData} {u v : V} (hT : H T = none) (h1 : Rp K S H d u) (h2 : Rp K S H e v) : Rp K S (upd H T (.tup [u, v])) (.tuple [d, e]) (.ref T) := by
  rw [Rp]
  exact ⟨T, [u, v], rfl, upd_same, RpA.cons (h1.grow (same_new hT)) (RpA.cons (h2.grow (same_new hT)) RpA.nil)⟩
theorem wk_enumL {a : Addr} {xs : List V} {ds : List PyData} {S : Addr → Prop} : Wk K (Ite K a) (fun H => SqL K H a xs ∧ RpA K S H ds xs) S (enumD 0 ds) where
  go := fun i H g l => by
    rw [enumD_len] at l
    exact ⟨xs, xs[i]'(by rw [g.2.length]; exact l), g.1, by rw [List.getElem?_eq_getElem]⟩
  yld := fun i H d x H' g e y => by
    obtain ⟨T, x', rfl, hT, rfl, hx⟩ := y
    obtain ⟨z, h1, rfl⟩ := enumD_get ds 0 i d e
    rw [Nat.zero_add]
    exact ⟨same_new hT, pair_rp hT (by rw [Rp]) (g.2.at h1 (hx xs g.1))⟩
  stop := fun i H g l => ⟨xs, g.1, by rw [g.2.length]; rw [enumD_len] at l; exact l⟩
theorem wk_enumT {a : Addr} {xs : List V} {ds : List PyData} {S : Addr → Prop} : Wk K (IteT K a xs.length) (fun H => H a = some (.tup xs) ∧ RpA K S H ds xs) S (enumD 0 ds) where
  go := fun i H g l => by
    rw [enumD_len] at l
    exact ⟨xs, xs[i]'(by rw [g.2.length]; exact l), live_t g.1, rfl, by rw [List.getElem?_eq_getElem]⟩
  yld := fun i H d x H' g e y => by
    obtain ⟨T, x', rfl, hT, rfl, hx⟩ := y
    obtain ⟨z, h1, rfl⟩ := enumD_get ds 0 i d e
    rw [Nat.zero_add]
    exact ⟨same_new hT, pair_rp hT (by rw [Rp]) (g.2.at h1 (hx xs (live_t g.1)))⟩
  stop := fun i H g l => ⟨xs, live_t g.1, rfl, by rw [g.2.length]; rw [enumD_len] at l; exact l⟩
def iEnm (fa : En → Option (List PyData)) : En → Option (List PyData) := fun env => match fa env with
  | some [.list ds] => some (enumD 0 ds)
  | some [.tuple ds] => some (enumD 0 ds)
  | _ => none
theorem ci_enum {fa : En → Option (List PyData)} (h : PI X tg iter (iEnumA X.K (tA X.K true fa))) : PI X tg iter (tI X.K true (iEnm fa)) := pi_w h fun σ H R ⟨S0, H0, A, env, ds, E, hf, q⟩ => by
  unfold iEnm at hf
  split at hf
  · rename_i es hd
    cases hf
    refine ⟨S0, H0, A, env, _, E, hd, fun vs H1 s r => ?_⟩
    obtain ⟨v, rfl, r1⟩ := r.one
    rw [Rp] at r1
    obtain ⟨a, xs, rfl, hs, ra⟩ := r1
    have ra' : RpA X.K (Cl S0 H0 A) H1 es xs := ra.wide fun _ z => cl_sc z
    exact ⟨a, xs, rfl, .inl ⟨hs.sq, q _ H1 _ s (fun H2 s2 => ⟨s2.seq hs.sq, ra'.sm s2⟩) (fun _ H2 f2 => ⟨hs.imp (fun z => fr_rd f2 (cl_sc z.1).2 z.2) id, ra'.fr (E.grow s) f2 fun _ z => z.2⟩) wk_enumL⟩⟩
  · rename_i es hd
    cases hf
    refine ⟨S0, H0, A, env, _, E, hd, fun vs H1 s r => ?_⟩
    obtain ⟨v, rfl, r1⟩ := r.one
    rw [Rp] at r1
    obtain ⟨a, xs, rfl, hs, ra⟩ := r1
    have ra' : RpA X.K (Cl S0 H0 A) H1 es xs := ra.wide fun _ z => cl_sc z
    exact ⟨a, xs, rfl, .inr ⟨live_t hs, q _ H1 _ s (fun H2 s2 => ⟨same_t s2 hs, ra'.sm s2⟩) (fun _ H2 f2 => ⟨fr_t (E.grow s) f2 hs, ra'.fr (E.grow s) f2 fun _ z => z.2⟩) wk_enumT⟩⟩
  · cases hf
def zipD : List PyData → List PyData → List PyData
  | d :: ds, e :: es => .tuple [d, e] :: zipD ds es
  | _, _ => []
theorem zipD_len : ∀ (ds es : List PyData), (zipD ds es).length = min ds.length es.length
  | [], [] => rfl
  | [], _ :: _ => by simp [zipD]
  | _ :: _, [] => by simp [zipD]
  | d :: ds, e :: es => by
    rw [zipD, List.length_cons, List.length_cons, List.length_cons, zipD_len ds es]
    omega
theorem zipD_get : ∀ (ds es : List PyData) (i : Nat) (d : PyData), (zipD ds es)[i]? = some d → ∃ x y, ds[i]? = some x ∧ es[i]? = some y ∧ d = .tuple [x, y]
  | [], [], i, d, h => by simp [zipD] at h
  | [], _ :: _, i, d, h => by simp [zipD] at h
  | _ :: _, [], i, d, h => by simp [zipD] at h
  | x :: ds, y :: es, 0, d, h => by
    simp [zipD] at h
    exact ⟨x, y, rfl, rfl, h.symm⟩
  | x :: ds, y :: es, i + 1, d, h => by
    rw [zipD, List.getElem?_cons_succ] at h
    obtain ⟨u, v, h1, h2, h3⟩ := zipD_get ds es i d h
    exact ⟨u, v, by simpa using h1, by simpa using h2, h3⟩
theorem wk_zipL {a b : Addr} {xs ys : List V} {ds es : List PyData} {S : Addr → Prop} : Wk K (Itz K a b) (fun H => (SqL K H a xs ∧ RpA K S H ds xs) ∧ SqL K H b ys ∧ RpA K S H es ys) S (zipD ds es) where
  go := fun i H g l => by
    rw [zipD_len] at l
    exact ⟨xs, ys, xs[i]'(by rw [g.1.2.length]; omega), ys[i]'(by rw [g.2.2.length]; omega), g.1.1, g.2.1, by rw [List.getElem?_eq_getElem], by rw [List.getElem?_eq_getElem]⟩
  yld := fun i H d x H' g e y => by
    obtain ⟨T, x', y', rfl, hT, rfl, hx, hy⟩ := y
    obtain ⟨u, v, h1, h2, rfl⟩ := zipD_get ds es i d e
    exact ⟨same_new hT, pair_rp hT (g.1.2.at h1 (hx xs g.1.1)) (g.2.2.at h2 (hy ys g.2.1))⟩
  stop := fun i H g l => ⟨xs, ys, g.1.1, g.2.1, by rw [g.1.2.length, g.2.2.length]; rw [zipD_len] at l; omega⟩
theorem wk_zipT {a b : Addr} {xs ys : List V} {ds es : List PyData} {S : Addr → Prop} : Wk K (RZ.ItzT K a b) (fun H => (H a = some (.tup xs) ∧ RpA K S H ds xs) ∧ H b = some (.tup ys) ∧ RpA K S H es ys) S (zipD ds es) where
  go := fun i H g l => by
    rw [zipD_len] at l
    exact ⟨xs, ys, xs[i]'(by rw [g.1.2.length]; omega), ys[i]'(by rw [g.2.2.length]; omega), live_t g.1.1, live_t g.2.1, by rw [List.getElem?_eq_getElem], by rw [List.getElem?_eq_getElem]⟩
  yld := fun i H d x H' g e y => by
    obtain ⟨T, x', y', rfl, hT, rfl, hx, hy⟩ := y
    obtain ⟨u, v, h1, h2, rfl⟩ := zipD_get ds es i d e
    exact ⟨same_new hT, pair_rp hT (g.1.2.at h1 (hx xs (live_t g.1.1))) (g.2.2.at h2 (hy ys (live_t g.2.1)))⟩
  stop := fun i H g l => ⟨xs, ys, live_t g.1.1, live_t g.2.1, by rw [g.1.2.length, g.2.2.length]; rw [zipD_len] at l; omega⟩
def iZp (fa : En → Option (List PyData)) : En → Option (List PyData) := fun env => match fa env with
  | some [.list ds, .list es] => some (zipD ds es)
  | some [.tuple ds, .tuple es] => some (zipD ds es)
  | _ => none
theorem ci_zip {fa : En → Option (List PyData)} (h : PI X tg iter (RZ.iZipA X.K (tA X.K true fa))) : PI X tg iter (tI X.K true (iZp fa)) := pi_w h fun σ H R ⟨S0, H0, A, env, ds, E, hf, q⟩ => by
  unfold iZp at hf
  split at hf
  · rename_i es fs hd
    cases hf
    refine ⟨S0, H0, A, env, _, E, hd, fun vs H1 s r => ?_⟩
    obtain ⟨v, u, rfl, r1, r2⟩ := r.two
    rw [Rp] at r1 r2
    obtain ⟨a, xs, rfl, hs, ra⟩ := r1
    obtain ⟨b, ys, rfl, ht, rb⟩ := r2
    have ra' : RpA X.K (Cl S0 H0 A) H1 es xs := ra.wide fun _ z => cl_sc z
    have rb' : RpA X.K (Cl S0 H0 A) H1 fs ys := rb.wide fun _ z => cl_sc z
    exact ⟨a, b, xs, ys, rfl, .inl ⟨hs.sq, ht.sq, q _ H1 _ s (fun H2 s2 => ⟨⟨s2.seq hs.sq, ra'.sm s2⟩, s2.seq ht.sq, rb'.sm s2⟩)
      (fun _ H2 f2 => ⟨⟨hs.imp (fun z => fr_rd f2 (cl_sc z.1).2 z.2) id, ra'.fr (E.grow s) f2 fun _ z => z.2⟩, ht.imp (fun z => fr_rd f2 (cl_sc z.1).2 z.2) id, rb'.fr (E.grow s) f2 fun _ z => z.2⟩) wk_zipL⟩⟩
  · rename_i es fs hd
    cases hf
    refine ⟨S0, H0, A, env, _, E, hd, fun vs H1 s r => ?_⟩
    obtain ⟨v, u, rfl, r1, r2⟩ := r.two
    rw [Rp] at r1 r2
    obtain ⟨a, xs, rfl, hs, ra⟩ := r1
    obtain ⟨b, ys, rfl, ht, rb⟩ := r2
    have ra' : RpA X.K (Cl S0 H0 A) H1 es xs := ra.wide fun _ z => cl_sc z
    have rb' : RpA X.K (Cl S0 H0 A) H1 fs ys := rb.wide fun _ z => cl_sc z
    exact ⟨a, b, xs, ys, rfl, .inr ⟨live_t hs, live_t ht, q _ H1 _ s (fun H2 s2 => ⟨⟨same_t s2 hs, ra'.sm s2⟩, same_t s2 ht, rb'.sm s2⟩)
      (fun _ H2 f2 => ⟨⟨fr_t (E.grow s) f2 hs, ra'.fr (E.grow s) f2 fun _ z => z.2⟩, fr_t (E.grow s) f2 ht, rb'.fr (E.grow s) f2 fun _ z => z.2⟩) wk_zipT⟩⟩
  · cases hf
end

/-! ### tuple * int, [x] * int, constants of the module -/
theorem mul_form (l : Addr) (u : Tok) : ∃ (X : Int → Sem PySem.Fin) (Z : Int → Array Value → Sem PySem.Fin), Builtin.«tuple.__mul__» { pos := [Value.ref l, Value.int 1 u] } =
    (asIndex (Value.int 1 u) >>= fun n => if (decide (n < -2 ^ 63) || decide (n ≥ 2 ^ 63)) = true then X n else
      (Builtin.Tuple.tupleItemsOf (Value.ref l) >>= fun xs => if (xs.isEmpty || n == 1) = true then (Builtin.Tuple.tupleIsExact (Value.ref l) >>= fun b => if b = true then (rule "tuple.repeat.same-object" >>= fun _ => ret (Value.ref l)) else Z n xs) else Z n xs)) := ⟨_, _, rfl⟩
theorem tuple_mul1 (l : Addr) (items : Array Value) (n : Nat) (dd : Option Addr) (sl : Array (Option Value)) (u : Tok) :
    Meets (Builtin.«tuple.__mul__» { pos := [Value.ref l, Value.int 1 u] }) fun x_1 R s =>
      s.heap.get? l = some { cls := Value.type "tuple", dict := dd, data := Data.seq items n, slots := sl } ∧ R (Except.ok (Flow.ret (Value.ref l))) s := by
  refine Meets.of_wp fun prog w A R s h => ?_
  obtain ⟨hp, g, d, tk, os⟩ := s
  obtain ⟨hl, h⟩ := h
  obtain ⟨X, Z, e⟩ := mul_form l u
  rw [e]
  refine wpAny_bind (wpAny_bind (wpAny_pure (wpAny_pure ?_)))
  refine wpAny_ite_false rfl ?_
  refine wpAny_bind (wpAny_bind (wpAny_bind (wpAny_load' hl (wpAny_pure (wpAny_pure ?_)))))
  refine wpAny_ite_true (by simp) ?_
  exact wpAny_bind (wpAny_bind (wpAny_bind (wpAny_loadPart' hl (wpAny_pure (wpAny_pure (wpAny_ite_true rfl (wpAny_bind (wpAny_rule (wpAny_pure ⟨_, rfl, h⟩)))))))))
def rRep1 (K : PySem.W.Frag) : R2 := fun x y H Q => ∃ l xs, x = .ref l ∧ y = .int 1 ∧ SqT K H l xs ∧ Q (.ref l) H
theorem op_rep1 {X : Cx} : OpR X (binaryOp .Mult) (rRep1 X.K) := by
  intro pins s σ H x y v u Q I rx ry h
  obtain ⟨l, xs, rfl, rfl, hT, q⟩ := h
  cases rx
  obtain ⟨t, rfl⟩ := ry
  obtain ⟨its, r, ⟨⟨c, dd, dt, sl⟩, ho, hc, n, hd⟩, hs⟩ := I.tuple hT
  dsimp only at hc hd
  subst hc
  subst hd
  exact wpAny_binaryOp_repeat_ref (by decide) ⟨_, ho, rfl⟩ (fun s' => typeIs_int s' 1 t) noFill_tuple_mul F.fills_int_mul F.slot_int_rmul repeat_tuple F.slot_int_index.lookup
    (call_meets F.slot_int_rmul (typeIs_int s 1 t) F.entry_int_rmul (F.args_int_rmul_2 (Value.int 1 t) (Value.ref l)) (int_rmul_tuple 1 t l its.toArray n dd sl)
      ⟨ho, rfl, ⟨_, ho, rfl⟩, call_meets F.slot_tuple_mul ⟨_, ho, rfl⟩ F.entry_tuple_mul (F.args_tuple_mul_2 (Value.ref l) (Value.int 1 t)) (tuple_mul1 l its.toArray n dd sl t) ⟨ho, ⟨.ref l, H, I, rfl, q⟩⟩⟩)

def rTm (K : PySem.W.Frag) : R2 := fun x y H Q => rRep1 K x y H Q ∨ rRepT K x y H Q
theorem op_tm {X : Cx} : OpR X (binaryOp .Mult) (rTm X.K) := by
  intro pins s σ H x y v u Q I rx ry h
  rcases h with h | h
  · exact op_rep1 pins s σ H x y v u Q I rx ry h
  · exact op_repT pins s σ H x y v u Q I rx ry h
def tmulD : PyData → PyData → Option PyData
  | .tuple ds, .int k => if k = 1 then some (.tuple ds) else if ds ≠ [] ∧ (2 ≤ k ∧ k ≤ 1000) ∧ ds.length ≤ 1000 then some (.tuple (List.replicate k.toNat ds).flatten) else none
  | _, _ => none
theorem RpA.rep {K : PySem.W.Frag} {S : Addr → Prop} {H : Hp} {ds : List PyData} {vs : List V} (h : RpA K S H ds vs) : ∀ n : Nat, RpA K S H (List.replicate n ds).flatten (List.replicate n vs).flatten
  | 0 => RpA.nil
  | n + 1 => by
    rw [List.replicate_succ, List.replicate_succ, List.flatten_cons, List.flatten_cons]
    exact h.append (RpA.rep h n)
theorem r2_tm {K : PySem.W.Frag} : R2Ok K false (rTm K) tmulD := by
  intro S S' H x y dx dy d Q hn hS rx ry h q
  have hS' : S' = S := hS.elim (fun z => nomatch z) id
  subst hS'
  cases dx with
  | tuple ds =>
   cases dy with
   | int k =>
    change (if k = 1 then some (.tuple ds) else if ds ≠ [] ∧ (2 ≤ k ∧ k ≤ 1000) ∧ ds.length ≤ 1000 then some (.tuple (List.replicate k.toNat ds).flatten) else none) = some d at h
    have rx0 := rx
    have ry1 : y = V.int k := by rw [Rp] at ry; exact ry
    have rx1 : ∃ a xs, x = .ref a ∧ H a = some (.tup xs) ∧ RpA K S' H ds xs := by rw [Rp] at rx; exact rx
    obtain ⟨a, xs, rfl, hs, ra⟩ := rx1
    subst ry1
    split at h
    · rename_i hk
      cases h
      subst hk
      exact .inl ⟨a, xs, rfl, rfl, live_t hs, q _ H (Same.refl H) rx0⟩
    · split at h
      · rename_i hc
        cases h
        refine .inr ⟨a, k, xs, rfl, rfl, live_t hs, fun e => hc.1 (List.eq_nil_of_length_eq_zero (by rw [← ra.length, e]; rfl)), hc.2.1.1, hc.2.1.2, by rw [ra.length]; exact hc.2.2, fun p hp => ?_⟩
        refine q _ _ (same_new hp) ?_
        rw [Rp]
        exact ⟨p, _, rfl, upd_same, (ra.rep _).grow (same_new hp)⟩
      · cases h
   | _ => cases h
  | _ => cases h
section
variable {X : Cx} {a b : Expr} {pos : Pos} {c : Bool} {f g : En → Option PyData}
theorem ce_tmul (ha : PE X a (tE X.K c f)) (hb : PE X b (tE X.K c g)) : PE X (.BinOp a .Mult b pos) (tE X.K c (e2 tmulD f g)) := ce_op op_tm r2_tm ha hb
def fRep (ff : En → Option (List PyData)) (g : En → Option PyData) : En → Option (List PyData) := fun env => match ff env with
  | some ds => match g env with
    | some (.int k) => if (-1000000 ≤ k ∧ k ≤ 1000000) ∧ ds.length * k.toNat ≤ 1000000 then some (List.replicate k.toNat ds).flatten else none
    | _ => none
  | none => none
theorem cf_rep {ff : En → Option (List PyData)} (ha : PE X a (tF X.K c ff)) (hb : PE X b (tE X.K true g)) : PE X (.BinOp a .Mult b pos) (tF X.K c (fRep ff g)) := pe_w (pe_op op_rep ha hb) fun σ H Q ⟨S0, H0, A, env, d, E, hf, q⟩ => by
  unfold fRep at hf
  split at hf
  · rename_i ds h1
    split at hf
    · rename_i k h2
      split at hf
      · rename_i hl
        cases hf
        refine ⟨S0, H0, A, env, _, E, h1, fun l us H1 hl1 s1 hl2 r1 => ⟨S0, H0, A, env, _, E.grow s1, h2, fun u H2 s2 r2 => ?_⟩⟩
        rw [Rp] at r2
        subst r2
        refine ⟨l, k, us, rfl, rfl, s2 _ _ hl2, by omega, by omega, by rw [r1.length]; exact sz6 hl.2, fun p hp => q p _ _ ((s1.trans s2).free hp) ((s1.trans s2).trans (same_new hp)) upd_same ?_⟩
        exact (((r1.rep _).grow s2).wide fun _ z => z.1).apart hp (same_new hp)
      · cases hf
    · cases hf
  · cases hf
end
end Mir

namespace Mir
open PySem PySem.Spec PyProof.Rows L2
/-! ### in over a tuple of plain values -/
def flatD : PyData → Bool
  | .none => true
  | .bool _ => true
  | .int _ => true
  | .str _ => true
  | _ => false
theorem flatD_rp {K : PySem.W.Frag} {S : Addr → Prop} {H : Hp} {d : PyData} {v : V} (h : flatD d = true) (r : Rp K S H d v) : flatV v = true := by
  cases d with
  | none => rw [Rp] at r; subst r; rfl
  | bool _ => rw [Rp] at r; subst r; rfl
  | int _ => rw [Rp] at r; subst r; rfl
  | str _ => rw [Rp] at r; subst r; rfl
  | list _ => cases h
  | tuple _ => cases h
  | dict _ => cases h
theorem eqD_V {K : PySem.W.Frag} {S : Addr → Prop} {H : Hp} {d e : PyData} {v u : V} (h : flatD d = true) (h' : flatD e = true) (r : Rp K S H d v) (r' : Rp K S H e u) : eqV v u = PyData.eqv d e := by
  cases d <;> cases e <;> first | (cases h; done) | (cases h'; done) | (rw [Rp] at r; rw [Rp] at r'; subst r; subst r'; simp [eqV, PyData.eqv])
theorem allflat_rp {K : PySem.W.Frag} {S : Addr → Prop} {H : Hp} : ∀ {ds : List PyData} {vs : List V}, ds.all flatD = true → RpA K S H ds vs → vs.all flatV = true
  | [], _, _, r => by rw [RpA] at r; subst r; rfl
  | d :: ds, _, h, r => by
    rw [RpA] at r
    obtain ⟨v, r', rfl, h1, h2⟩ := r
    rw [List.all_cons, Bool.and_eq_true] at h
    rw [List.all_cons, flatD_rp h.1 h1, allflat_rp h.2 h2]; rfl
theorem inV_rp {K : PySem.W.Frag} {S : Addr → Prop} {H : Hp} {x : PyData} {u : V} (hx : flatD x = true) (rx : Rp K S H x u) : ∀ {ds : List PyData} {vs : List V}, ds.all flatD = true → RpA K S H ds vs → inV u vs = ds.any fun z => PyData.eqv z x
  | [], _, _, r => by rw [RpA] at r; subst r; rfl
  | d :: ds, _, h, r => by
    rw [RpA] at r
    obtain ⟨v, r', rfl, h1, h2⟩ := r
    rw [List.all_cons, Bool.and_eq_true] at h
    have ih := inV_rp hx rx h.2 h2
    unfold inV at ih ⊢
    rw [List.any_cons, List.any_cons, ih, eqD_V h.1 hx h1 rx]
def inT (x : PyData) : PyData → Option PyData
  | .list ds => if (SeqAt.shaped x && SeqAt.shaped (.list ds)) = true then some (.bool (ds.any fun z => PyData.eqv z x)) else none
  | .tuple ds => if (flatD x && ds.all flatD) = true then some (.bool (ds.any fun z => PyData.eqv z x)) else none
  | _ => none
def notInT (x y : PyData) : Option PyData := match inT x y with
  | some (.bool b) => some (.bool (!b))
  | _ => none
theorem r2_inT {K : PySem.W.Frag} : R2Ok K true (fun x y H Q => rInD K x y H Q ∨ rIn K false x y H Q) inT := by
  intro S S' H x y dx dy d Q hn hS rx ry h q
  unfold inT at h
  split at h
  · split at h
    · rename_i hs
      rw [Bool.and_eq_true] at hs
      cases h
      exact .inl ⟨_, _, rx.dp hs.1, ry.dp hs.2, hs.1, hs.2, q _ H (Same.refl H) rpb⟩
    · cases h
  · split at h
    · rename_i hs
      rw [Bool.and_eq_true] at hs
      cases h
      rw [Rp] at ry
      obtain ⟨a, xs, rfl, ht, ra⟩ := ry
      refine .inr ⟨a, xs, rfl, .inr (live_t ht), flatD_rp hs.1 rx, allflat_rp hs.2 ra, ?_⟩
      show Q (.bl (inV x xs)) H
      rw [inV_rp hs.1 rx hs.2 ra]
      exact q _ H (Same.refl H) rpb
    · cases h
  · cases h
theorem r2_notInT {K : PySem.W.Frag} : R2Ok K true (fun x y H Q => rNotInD K x y H Q ∨ rIn K true x y H Q) notInT := by
  intro S S' H x y dx dy d Q hn hS rx ry h q
  unfold notInT inT at h
  split at h
  · rename_i b hb
    split at hb
    · split at hb
      · rename_i hs
        rw [Bool.and_eq_true] at hs
        cases hb
        cases h
        exact .inl ⟨_, _, rx.dp hs.1, ry.dp hs.2, hs.1, hs.2, q _ H (Same.refl H) rpb⟩
      · cases hb
    · split at hb
      · rename_i hs
        rw [Bool.and_eq_true] at hs
        cases hb
        cases h
        rw [Rp] at ry
        obtain ⟨a, xs, rfl, ht, ra⟩ := ry
        refine .inr ⟨a, xs, rfl, .inr (live_t ht), flatD_rp hs.1 rx, allflat_rp hs.2 ra, ?_⟩
        show Q (.bl (!inV x xs)) H
        rw [inV_rp hs.1 rx hs.2 ra]
        exact q _ H (Same.refl H) rpb
      · cases hb
    · cases hb
  · cases h
theorem op_inT {X : Cx} (hu : X.A.units + 65 < cLine) : OpR X (compareOp .In) (fun x y H Q => rInD X.K x y H Q ∨ rIn X.K false x y H Q) := OpR.or (op_inD hu) op_in_seq
theorem op_notInT {X : Cx} (hu : X.A.units + 65 < cLine) : OpR X (compareOp .NotIn) (fun x y H Q => rNotInD X.K x y H Q ∨ rIn X.K true x y H Q) := OpR.or (op_notInD hu) op_notIn_seq

/-! ### x[::k], k 1 or -1 -/
theorem places_back (n : Nat) : Builtin.Slice.slicePlaces ((n : Int) - 1) (-1) (-1) = n := by
  unfold Builtin.Slice.slicePlaces
  have h1 : ¬ ((-1 : Int) > 0) := by omega
  rw [if_neg h1, show (-(-1) : Int) = 1 from rfl]
  split <;> omega
theorem pick_back (xs : Array Value) : ((List.range xs.size).filterMap fun (m : Nat) => xs[((xs.size : Int) - 1 + (m : Int) * (-1)).toNat]?).toArray = xs.toList.reverse.toArray := by
  have e : ∀ m ∈ List.range xs.size, xs[((xs.size : Int) - 1 + (m : Int) * (-1)).toNat]? = xs.toList.reverse[m]? := fun m hm => by
    have hm' := List.mem_range.mp hm
    rw [show ((xs.size : Int) - 1 + (m : Int) * (-1)).toNat = xs.size - 1 - m by omega, List.getElem?_reverse (by rw [Array.length_toList]; exact hm'), Array.length_toList, Array.getElem?_toList]
  congr 1
  have fc : ∀ (l : List Nat), (∀ m ∈ l, xs[((xs.size : Int) - 1 + (m : Int) * (-1)).toNat]? = xs.toList.reverse[m]?) → (l.filterMap fun (m : Nat) => xs[((xs.size : Int) - 1 + (m : Int) * (-1)).toNat]?) = l.filterMap (xs.toList.reverse[·]?) := fun l => by
    induction l with
    | nil => intro _; rfl
    | cons a l ih =>
      intro h
      rw [List.filterMap_cons, List.filterMap_cons, ih fun m hm => h m (List.mem_cons_of_mem _ hm), h a List.mem_cons_self]
  rw [fc _ e]
  have q : ∀ (l : List Value) (k : Nat), k ≤ l.length → (List.range k).filterMap (l[·]?) = l.take k := fun l k => by
    induction k with
    | zero => intro _; rfl
    | succ k ih =>
      intro h
      rw [List.range_succ, List.filterMap_append, ih (by omega), List.take_succ]
      simp [List.getElem?_eq_getElem (show k < l.length by omega)]
  rw [q _ _ (by simp), List.take_of_length_le (by simp)]
section
variable {prog : Program} {w : World} {A : Around} {E : Value → Shared → Prop} {s : Shared}
theorem tup_back {t sl : Addr} {items : Array Value} {vs : Value} {Q : Value → Shared → Prop} (ht : IsTup s.heap t items) (hs : s.heap.IsSliceOf sl .none .none vs) (ps : IsPart vs (some (-1))) (hz : items.size ≤ sizeLine)
    (h : Q (.ref s.heap.objs.size) { s with heap := s.heap.push { cls := .type "tuple", data := .seq items.toList.reverse.toArray } }) : wpAny (model prog w) A (getItem (.ref t) (.ref sl)) Q E s := by
  have hk : sizeOk (.seq items.toList.reverse.toArray) := by
    show items.toList.reverse.toArray.size ≤ sizeLine
    simpa using hz
  obtain ⟨os, hos, hcs, hds⟩ := hs
  have hT : s.TypeIs (.ref sl) "slice" := ⟨os, hos, hcs⟩
  unfold getItem
  first | with_reducible refine wpAny_holding ?_ | skip
  first | refine wpAny_bind (wpAny_pure ?_) | skip
  refine wpAny_bind (wpAny_sequenceKey ht.typeIs (by decide) (wpAny_bind (wpAny_callSpecial?_slot (name := Str.ofString "__getitem__") ht.typeIs PyProof.Rows.slot_tuple_getitem (wpAny_call_entry PyProof.Rows.slot_tuple_getitem ht.typeIs entry_tuple_getitem ?_ (args_tuple_getitem _ _)))))
  show wpAny _ _ (Builtin.Tuple.tupleItemsOf (.ref t) >>= _) _ _ s
  refine wpAny_bind (tupleItemsOf_ ht (wpAny_bind (wpAny_typeOf hT ?_)))
  rw [if_pos (show (Value.type "slice" == Value.type "slice") = true from by decide)]
  refine wpAny_bind ?_
  unfold Builtin.Slice.sliceApplied Builtin.Slice.sliceFields
  refine wpAny_bind (wpAny_bind (wpAny_field hos hds (x := .none) rfl (wpAny_bind (wpAny_field hos hds (x := .none) rfl (wpAny_bind (wpAny_field hos hds (x := vs) rfl (wpAny_pure ?_)))))))
  refine wpAny_bind (HT.slicePart_ ps ?_)
  show wpAny _ _ (if ((-1 : Int) == 0) = true then _ else _) _ _ s
  rw [if_neg (show ¬ (((-1 : Int) == 0) = true) by decide)]
  refine wpAny_bind (HT.slicePart_ .none (wpAny_bind (HT.slicePart_ .none (wpAny_bind (wpAny_pure ?_)))))
  have e : Builtin.Slice.sliceAdjust none none (-1) (items.size : Int) = ((items.size : Int) - 1, -1) := rfl
  show wpAny _ _ (match Builtin.Slice.sliceAdjust none none (-1) (items.size : Int) with | (lo, hi) => pure (lo, (-1 : Int), Builtin.Slice.slicePlaces lo hi (-1))) _ _ s
  rw [e]
  show wpAny _ _ (pure ((items.size : Int) - 1, (-1 : Int), Builtin.Slice.slicePlaces ((items.size : Int) - 1) (-1) (-1))) _ _ s
  rw [places_back]
  refine wpAny_pure ?_
  have hno : ¬ (((items.size : Int) - 1 == 0 && (-1 : Int) == 1 && items.size == items.size) = true) := by
    rw [show ((-1 : Int) == 1) = false from rfl, Bool.and_false, Bool.false_and]
    exact Bool.false_ne_true
  show wpAny _ _ (if ((items.size : Int) - 1 == 0 && (-1 : Int) == 1 && items.size == items.size) = true then _ else _) _ _ s
  rw [if_neg hno, pick_back]
  first
    | exact wpAny_bind (m := Builtin.Tuple.tupleExact _) (wpAny_newObj_type (wpAny_pure ⟨_, rfl, wpAny_pure h⟩) hk)
    | exact wpAny_bind (wpAny_bind (m := Builtin.Tuple.tupleExact _) (wpAny_newObj_type (wpAny_pure (wpAny_pure ⟨_, rfl, wpAny_pure h⟩)) hk))
    | exact wpAny_bind (wpAny_bind (m := Builtin.Tuple.tupleExact _) (wpAny_newObj_type (wpAny_pure ⟨_, rfl, wpAny_pure h⟩) hk))
theorem tup_fwd {t sl : Addr} {items : Array Value} {vs : Value} {Q : Value → Shared → Prop} (ht : IsTup s.heap t items) (hs : s.heap.IsSliceOf sl .none .none vs) (ps : IsPart vs (some 1)) (h : Q (.ref t) s) : wpAny (model prog w) A (getItem (.ref t) (.ref sl)) Q E s := by
  obtain ⟨os, hos, hcs, hds⟩ := hs
  have hT : s.TypeIs (.ref sl) "slice" := ⟨os, hos, hcs⟩
  unfold getItem
  first | with_reducible refine wpAny_holding ?_ | skip
  first | refine wpAny_bind (wpAny_pure ?_) | skip
  refine wpAny_bind (wpAny_sequenceKey ht.typeIs (by decide) (wpAny_bind (wpAny_callSpecial?_slot (name := Str.ofString "__getitem__") ht.typeIs PyProof.Rows.slot_tuple_getitem (wpAny_call_entry PyProof.Rows.slot_tuple_getitem ht.typeIs entry_tuple_getitem ?_ (args_tuple_getitem _ _)))))
  show wpAny _ _ (Builtin.Tuple.tupleItemsOf (.ref t) >>= _) _ _ s
  refine wpAny_bind (tupleItemsOf_ ht (wpAny_bind (wpAny_typeOf hT ?_)))
  rw [if_pos (show (Value.type "slice" == Value.type "slice") = true from by decide)]
  refine wpAny_bind ?_
  unfold Builtin.Slice.sliceApplied Builtin.Slice.sliceFields
  refine wpAny_bind (wpAny_bind (wpAny_field hos hds (x := .none) rfl (wpAny_bind (wpAny_field hos hds (x := .none) rfl (wpAny_bind (wpAny_field hos hds (x := vs) rfl (wpAny_pure ?_)))))))
  refine wpAny_bind (HT.slicePart_ ps ?_)
  show wpAny _ _ (if ((1 : Int) == 0) = true then _ else _) _ _ s
  rw [if_neg (show ¬ (((1 : Int) == 0) = true) by decide)]
  refine wpAny_bind (HT.slicePart_ .none (wpAny_bind (HT.slicePart_ .none (wpAny_bind (wpAny_pure ?_)))))
  have e : Builtin.Slice.sliceAdjust none none 1 (items.size : Int) = (0, (items.size : Int)) := rfl
  show wpAny _ _ (match Builtin.Slice.sliceAdjust none none 1 (items.size : Int) with | (lo, hi) => pure (lo, (1 : Int), Builtin.Slice.slicePlaces lo hi 1)) _ _ s
  rw [e]
  show wpAny _ _ (pure ((0 : Int), (1 : Int), Builtin.Slice.slicePlaces ((0 : Nat) : Int) (items.size : Int) 1)) _ _ s
  rw [HT.places_gen, Nat.sub_zero]
  refine wpAny_pure ?_
  have hy : (((0 : Int) == 0 && (1 : Int) == 1 && items.size == items.size) = true) := by simp
  show wpAny _ _ (if ((0 : Int) == 0 && (1 : Int) == 1 && items.size == items.size) = true then _ else _) _ _ s
  rw [if_pos hy]
  refine wpAny_bind ?_
  show wpAny _ _ (typeOf (.ref t) >>= fun T => pure (T == .type "tuple")) _ _ s
  refine wpAny_bind (wpAny_typeOf ht.typeIs (wpAny_pure ?_))
  first | rw [if_pos (show (Value.type "tuple" == Value.type "tuple") = true from by decide)] | simp only [beq_self_eq_true, if_true]
  first
    | exact wpAny_bind (wpAny_rule (wpAny_pure ⟨_, rfl, wpAny_pure h⟩))
    | exact wpAny_bind (wpAny_rule (wpAny_bind (wpAny_pure (wpAny_pure ⟨_, rfl, wpAny_pure h⟩))))
end
def tRevS (K : PySem.W.Frag) (te : TE) (ts : TO) : TE := fun σ H Q => te σ H fun x H1 => ts σ H1 fun o H2 => ∃ a xs, x = .ref a ∧
  ((o = some (-1) ∧ ((SqL K H2 a xs ∧ ∀ p, H2 p = none → Q (.ref p) (upd H2 p (.lst xs.reverse))) ∨ (SqT K H2 a xs ∧ ∀ p, H2 p = none → Q (.ref p) (upd H2 p (.tup xs.reverse))))) ∨
   (o = some 1 ∧ SqT K H2 a xs ∧ Q (.ref a) H2))
section
variable {X : Cx} {e st : Expr} {te : TE} {ts : TO} {p3 pos : Pos} {c c1 : Bool} {f g : En → Option PyData}
theorem pe_revS (he : PE X e te) (hst : PO X (some st) ts) (hq : ∀ a b, subscripted (.Slice none none (some st) p3) false a b = operate [a, b] (getItem a b) := by intro a b; with_unfolding_all rfl) : PE X (.Subscript e (.Slice none none (some st) p3) pos) (tRevS X.K te ts) := by
  refine ⟨fun pins s σ H Q I h => Subscript_ (thn (he.run pins s σ H _ I h) fun v s1 ⟨x, H1, I1, r1, q1⟩ => ?_)⟩
  refine wpAny_Slice (thn (po_none.run pins s1 σ H1 (fun o H2 => o = none ∧ H2 = H1) I1 ⟨rfl, rfl⟩) fun vl s2 ⟨l, H2, I2, pl, el, e2⟩ => ?_)
  subst el e2
  refine thn (po_none.run pins s2 σ H2 (fun o H3 => o = none ∧ H3 = H2) I2 ⟨rfl, rfl⟩) fun vu s3 ⟨u, H3, I3, pu, eu, e3⟩ => ?_
  subst eu e3
  refine thn (hst.run pins s3 σ H3 _ I3 q1) fun vs s4 ⟨o, H4, I4, ps, a, xs, ex, q⟩ => ?_
  subst ex
  cases r1
  cases pl
  cases pu
  have I5 : Inv X pins σ H4 { s4 with heap := s4.heap.push { cls := .type "slice", data := .fields #[.none, .none, vs] } } := I4.kept (t' := s4.toks) fun b ob q => Heap.get?_push_of_some _ q
  show wpAny (model X.prog X.w) X.A (subscriptTail e (.Slice none none (some st) p3) (.ref a) (.ref s4.heap.objs.size)) (EP X pins σ Q) X.xe { s4 with heap := s4.heap.push { cls := .type "slice", data := .fields #[.none, .none, vs] } }
  rcases q with ⟨rfl, q⟩ | ⟨rfl, hx, q⟩
  · rcases q with ⟨hx, q⟩ | ⟨hx, q⟩
    · obtain ⟨its, r, ht, hz⟩ := I5.list hx
      have hlen := r.length
      refine tail_any (ops := [.ref a, .ref s4.heap.objs.size]) ht.isList.typeIs (PySem.slot_list_getitem.lookup) ?_ (hq _ _)
      refine wpAny_getItem_list_slice ht.isList (Heap.IsSliceOf.new _ _ _ vs) .none .none ps (by decide) ?_ (by rw [List.size_toArray]; omega)
      rw [PySem.W.krv_pick]
      exact ⟨.ref _, _, I5.laid (t' := s4.toks) (o := .lst xs.reverse) (fun b ob q => Heap.get?_push_of_some _ q) (Nat.le_refl _) ⟨by rw [List.length_reverse]; exact hz, _, 0, r.reverse, Heap.get?_push_size _ rfl⟩, rfl, q _ (I5.hok.fresh (Nat.le_refl _))⟩
    · obtain ⟨its, r, ht, hz⟩ := I5.tuple hx
      have hlen : its.toArray.size = xs.length := by rw [List.size_toArray]; exact r.length.symm
      refine tail_any (ops := [.ref a, .ref s4.heap.objs.size]) ht.typeIs (PyProof.Rows.slot_tuple_getitem.lookup) ?_ (hq _ _)
      refine tup_back ht (Heap.IsSliceOf.new _ _ _ vs) ps (by rw [hlen]; exact hz) ?_
      exact ⟨.ref _, _, I5.laid (t' := s4.toks) (o := .tup xs.reverse) (fun b ob q => Heap.get?_push_of_some _ q) (Nat.le_refl _) ⟨by rw [List.length_reverse]; exact hz, _, r.reverse, IsTup.new _ _⟩, rfl, q _ (I5.hok.fresh (Nat.le_refl _))⟩
  · obtain ⟨its, r, ht, hz⟩ := I5.tuple hx
    refine tail_any (ops := [.ref a, .ref s4.heap.objs.size]) ht.typeIs (PyProof.Rows.slot_tuple_getitem.lookup) ?_ (hq _ _)
    exact tup_fwd ht (Heap.IsSliceOf.new _ _ _ vs) ps ⟨.ref a, _, I5, rfl, q⟩
theorem RpA.reverse {K : PySem.W.Frag} {S : Addr → Prop} {H : Hp} : ∀ {ds : List PyData} {vs : List V}, RpA K S H ds vs → RpA K S H ds.reverse vs.reverse
  | [], _, r => by rw [RpA] at r; subst r; exact RpA.nil
  | d :: ds, _, r => by
    rw [RpA] at r
    obtain ⟨v, r', rfl, h1, h2⟩ := r
    rw [List.reverse_cons, List.reverse_cons]
    exact RpA.append (RpA.reverse h2) (RpA.cons h1 RpA.nil)
def revD (k : Int) : PyData → Option PyData
  | .tuple ds => if k = -1 then some (.tuple ds.reverse) else if k = 1 then some (.tuple ds) else none
  | .list ds => if k = -1 then some (.list ds.reverse) else none
  | _ => none
def eRev (f g : En → Option PyData) : En → Option PyData := fun env => match f env with
  | some d => match g env with
    | some (.int k) => revD k d
    | _ => none
  | none => none
theorem ce_rev (he : PE X e (tE X.K c f)) (hst : PE X st (tE X.K c1 g)) (hq : ∀ a b, subscripted (.Slice none none (some st) p3) false a b = operate [a, b] (getItem a b) := by intro a b; with_unfolding_all rfl) : PE X (.Subscript e (.Slice none none (some st) p3) pos) (tE X.K c (eRev f g)) :=
  pe_w (pe_revS he (po_some hst) hq) fun σ H Q ⟨S0, H0, A, env, d, E, hf, q⟩ => by
    unfold eRev at hf
    split at hf
    · rename_i x hx
      split at hf
      · rename_i k hk
        refine ⟨S0, H0, A, env, x, E, hx, fun v H1 s1 r1 => ?_⟩
        refine ⟨S0, H0, A, env, _, E.grow s1, hk, fun u H2 s2 r2 => ?_⟩
        rw [Rp] at r2
        subst r2
        refine ⟨_, rfl, ?_⟩
        have E2 := E.grow (s1.trans s2)
        have s12 := s1.trans s2
        cases x with
        | tuple ds =>
          have r3 := r1.grow s2
          rw [Rp] at r3
          obtain ⟨a, xs, rfl, ht, ra⟩ := r3
          unfold revD at hf
          refine ⟨a, xs, rfl, ?_⟩
          by_cases h1 : k = -1
          · simp only [h1, if_true] at hf
            cases hf
            refine .inl ⟨by rw [h1], .inr ⟨live_t ht, fun p hp => q _ _ (s12.trans (same_new hp)) ?_⟩⟩
            rw [Rp]
            exact ⟨p, _, rfl, upd_same, (RpA.reverse ra).grow (same_new hp)⟩
          · by_cases h2 : k = 1
            · simp only [h1, h2, if_true, if_false] at hf
              have hf' : some (PyData.tuple ds) = some d := by simpa using hf
              cases hf'
              refine .inr ⟨by rw [h2], live_t ht, q _ _ s12 ?_⟩
              rw [Rp]
              exact ⟨a, xs, rfl, ht, ra⟩
            · simp only [h1, h2, if_false] at hf
              cases hf
        | list ds =>
          have r3 := r1.grow s2
          rw [Rp] at r3
          obtain ⟨a, xs, rfl, ht, ra⟩ := r3
          unfold revD at hf
          refine ⟨a, xs, rfl, ?_⟩
          by_cases h1 : k = -1
          · simp only [h1, if_true] at hf
            cases hf
            refine .inl ⟨by rw [h1], .inl ⟨ht.sq, fun p hp => q _ _ (s12.trans (same_new hp)) ?_⟩⟩
            rw [Rp]
            exact ⟨p, _, rfl, .inl ⟨sc_new E2 hp, .inl upd_same⟩, (RpA.reverse ra).grow (same_new hp)⟩
          · simp only [h1, if_false] at hf
            cases hf
        | none => cases hf
        | bool _ => cases hf
        | int _ => cases hf
        | str _ => cases hf
        | dict _ => cases hf
      · cases hf
    · cases hf
end
end Mir

namespace Mir
open PySem PySem.Spec PyProof.Rows L2
section
variable {X : Cx} {e a b : Expr} {st : Stmt} {sts : List Stmt} {pos : Pos} {c c1 c2 : Bool} {f g : En → Option PyData} {fa : En → Option (List PyData)} {s : En → Out}
/-! ### one reading or the other -/
theorem pe_or {t u : TE} (h1 : PE X e t) (h2 : PE X e u) : PE X e (fun σ H Q => t σ H Q ∨ u σ H Q) := ⟨fun pins s σ H Q I q => q.elim (h1.run pins s σ H Q I) (h2.run pins s σ H Q I)⟩
theorem ps_or {t u : TS} (h1 : PS X st t) (h2 : PS X st u) : PS X st (fun D σ H => t D σ H ∨ u D σ H) := ⟨fun pins s σ H D I q => q.elim (h1.run pins s σ H D I) (h2.run pins s σ H D I)⟩
theorem pi_or {tg : Expr} {t u : TI} (h1 : PI X tg e t) (h2 : PI X tg e u) : PI X tg e (fun σ H R => t σ H R ∨ u σ H R) := ⟨fun pins s σ H R I q => q.elim (h1.run pins s σ H R I) (h2.run pins s σ H R I)⟩
theorem ps_lockP {t : TS} (h : PS X st t) : PS X st (fun D σ H => ∃ d u, H d = some u ∧ Mut (some u) ∧ ∀ od, t D σ (upd H d (.frz od u))) := ⟨fun pins s σ H D I ⟨d, u, hd, mu, q⟩ => by
  obtain ⟨od, I1⟩ := I.lock hd mu
  exact h.run pins s σ _ D I1 (q od)⟩
theorem pss_lockP {t : TS} (h : PSs X sts t) : PSs X sts (fun D σ H => t D σ H ∨ ∃ d u, H d = some u ∧ Mut (some u) ∧ ∀ od, t D σ (upd H d (.frz od u))) := ⟨fun pins s σ H D I q => by
  rcases q with q | ⟨d, u, hd, mu, q⟩
  · exact h.run pins s σ H D I q
  · obtain ⟨od, I1⟩ := I.lock hd mu
    exact h.run pins s σ _ D I1 (q od)⟩
/-- a list or a dict of the slot i is let go -/
def frzD (i : Nat) (env : En) : En := match env[i]? with
  | some (.own ds) => env.set i (.val (.list ds))
  | some (.ownT kvs) => env.set i (.val (.dict kvs))
  | some (.ownK kvs) => env.set i (.val (.dict kvs))
  | _ => env
theorem frzD_run {K : PySem.W.Frag} {s : En → Out} {i : Nat} {D : Ends} {σ : L2.St} {H : Hp} (h : tS K (fun env => s (frzD i env)) D σ H) : tS K s D σ H ∨ ∃ d u, H d = some u ∧ Mut (some u) ∧ ∀ od, tS K s D σ (upd H d (.frz od u)) := by
  obtain ⟨S0, H0, A, env, E, o⟩ := h
  have o' : OutOk K S0 H0 A H (s (frzD i env)) D := o
  unfold frzD at o'
  split at o'
  · rename_i ds hi
    left
    obtain ⟨A', E', w⟩ := E.frz i
    have e : frz i env = env.set i (.val (.list ds)) := by
      unfold frz
      rw [hi]
    rw [e] at E'
    exact ⟨S0, H0, A', _, E', OutOk.step o' Fr.refl fun a z => .inl (w a z)⟩
  · rename_i kvs hi
    right
    rcases E.sl i _ hi with z | ⟨v, h1, a, ws, rfl, ha, hh, r⟩
    · cases z
    refine ⟨a, _, hh, trivial, fun od => ?_⟩
    obtain ⟨hL, hT, hD⟩ := E.upd_mono (u1 := .frz od (.dT ws)) ha
    have q : Rp K (Cl S0 H0 A) (upd H a (.frz od (.dT ws))) (.dict kvs) (.ref a) := by
      rw [Rp]
      exact ⟨a, od, rfl, .inl ⟨ws, upd_same, RpD.mono hL hT hD _ _ _ _ r⟩⟩
    refine ⟨S0, H0, _, _, E.lockD hi rfl h1 ha hh q, OutOk.step o' (fun b u z n => ?_) fun b z => .inl z.1⟩
    rw [upd_ne (fun y => n (by rw [y]; exact ha))]; exact z
  · rename_i kvs hi
    right
    rcases E.sl i _ hi with z | ⟨v, h1, a, ws, rfl, ha, hh, r⟩
    · cases z
    refine ⟨a, _, hh, trivial, fun od => ?_⟩
    obtain ⟨hL, hT, hD⟩ := E.upd_mono (u1 := .frz od (.dK ws)) ha
    have q : Rp K (Cl S0 H0 A) (upd H a (.frz od (.dK ws))) (.dict kvs) (.ref a) := by
      rw [Rp]
      exact ⟨a, od, rfl, .inr ⟨ws, upd_same, RpD.mono hL hT hD _ _ _ _ r⟩⟩
    refine ⟨S0, H0, _, _, E.lockD hi rfl h1 ha hh q, OutOk.step o' (fun b u z n => ?_) fun b z => .inl z.1⟩
    rw [upd_ne (fun y => n (by rw [y]; exact ha))]; exact z
  · exact .inl ⟨S0, H0, A, env, E, o'⟩
theorem cs_frzD {i : Nat} (h : PS X st (tS X.K s)) : PS X st (tS X.K fun env => s (frzD i env)) := ps_w (ps_or h (ps_lockP h)) fun D σ H q => frzD_run q
theorem css_frzD {i : Nat} (h : PSs X sts (tS X.K s)) : PSs X sts (tS X.K fun env => s (frzD i env)) := pss_w (pss_lockP h) fun D σ H q => frzD_run q
/-! ### dicts: new ones -/
def sNewT (i : Nat) : En → Out := fun env => .nx (env.set i (.ownT []))
def sNewK (i : Nat) : En → Out := fun env => .nx (env.set i (.ownK []))
theorem cs_newT {i : Nat} (h : PS X st (tAsg tDNewT (gName i))) : PS X st (tS X.K (sNewT i)) := ps_w h fun D σ H ⟨S0, H0, A, env, E, o⟩ => fun p hp =>
  o _ _ _ (E.set_new (s0 := .ownT []) (same_new hp) hp upd_same rfl rfl ⟨p, [], rfl, .inr rfl, upd_same, by rw [RpD]⟩) (Fr.of_same (same_new hp)) fun a z => z.imp id fun e => by rw [e]; exact hp
theorem cs_newK {i : Nat} (h : PS X st (tAsg tDNewK (gName i))) : PS X st (tS X.K (sNewK i)) := ps_w h fun D σ H ⟨S0, H0, A, env, E, o⟩ => fun p hp =>
  o _ _ _ (E.set_new (s0 := .ownK []) (same_new hp) hp upd_same rfl rfl ⟨p, [], rfl, .inr rfl, upd_same, by rw [RpD]⟩) (Fr.of_same (same_new hp)) fun a z => z.imp id fun e => by rw [e]; exact hp
end
/-! ### keys, entries -/
def keysOf : List PyData → Option (List Key)
  | [] => some []
  | .int i :: ds => match keysOf ds with
    | some ks => some (.inl i :: ks)
    | none => none
  | .str x :: ds => match keysOf ds with
    | some ks => some (.inr x :: ks)
    | none => none
  | _ :: _ => none
def kT : PyData → Option (List Key)
  | .tuple ds => keysOf ds
  | _ => none
def kK : PyData → Option Key
  | .int i => some (.inl i)
  | .str x => some (.inr x)
  | _ => none
theorem keysOf_map : ∀ ks : List Key, keysOf (ks.map kdD) = some ks
  | [] => rfl
  | .inl i :: ks => by
    show (match keysOf (ks.map kdD) with | some ks => some (Sum.inl i :: ks) | none => none) = _
    rw [keysOf_map ks]
  | .inr x :: ks => by
    show (match keysOf (ks.map kdD) with | some ks => some (Sum.inr x :: ks) | none => none) = _
    rw [keysOf_map ks]
theorem kT_kd (k : List Key) : kT (kdT k) = some k := keysOf_map k
theorem kK_kd (k : Key) : kK (kdD k) = some k := by cases k <;> rfl
theorem keys_rp {K : PySem.W.Frag} {S : Addr → Prop} {H : Hp} : ∀ {ds : List PyData} {ks : List Key} {xs : List V}, keysOf ds = some ks → RpA K S H ds xs → xs = ks.map kV ∧ ds = ks.map kdD
  | [], ks, xs, h, r => by
    cases h
    rw [RpA] at r
    subst r
    exact ⟨rfl, rfl⟩
  | d :: ds, ks, xs, h, r => by
    rw [RpA] at r
    obtain ⟨v, r', rfl, h1, h2⟩ := r
    cases d with
    | int i =>
      simp only [keysOf] at h
      split at h
      · rename_i ks' hk
        cases h
        obtain ⟨e1, e2⟩ := keys_rp hk h2
        rw [Rp] at h1
        subst h1
        exact ⟨by rw [e1]; rfl, by rw [e2]; rfl⟩
      · cases h
    | str i =>
      simp only [keysOf] at h
      split at h
      · rename_i ks' hk
        cases h
        obtain ⟨e1, e2⟩ := keys_rp hk h2
        rw [Rp] at h1
        subst h1
        exact ⟨by rw [e1]; rfl, by rw [e2]; rfl⟩
      · cases h
    | none => cases h
    | bool _ => cases h
    | list _ => cases h
    | tuple _ => cases h
    | dict _ => cases h
section
variable {κ : Type} [DecidableEq κ]
def getD' (kk : PyData → Option κ) (kvs : List (PyData × PyData)) (k : κ) : Option PyData := (kvs.find? fun p => decide (kk p.1 = some k)).map (·.2)
def putD (kd : κ → PyData) (kk : PyData → Option κ) (kvs : List (PyData × PyData)) (k : κ) (d : PyData) : List (PyData × PyData) :=
  if (kvs.any fun p => decide (kk p.1 = some k)) = true then kvs.map (fun p => if kk p.1 = some k then (p.1, d) else p) else kvs ++ [(kd k, d)]
variable {K : PySem.W.Frag} {S : Addr → Prop} {H : Hp} {kd : κ → PyData} {kk : PyData → Option κ}
theorem RpD.get (hk : ∀ k, kk (kd k) = some k) {k : κ} : ∀ {kvs : List (PyData × PyData)} {ws : List (κ × V)} {d : PyData}, RpD K S H κ kd kvs ws → getD' kk kvs k = some d → ∃ v, valV ws k = some v ∧ Rp K S H d v
  | [], _, _, _, h => by cases h
  | (a, x) :: kvs, _, d, r, h => by
    rw [RpD] at r
    obtain ⟨q, v, ws, rfl, rfl, h1, h2⟩ := r
    unfold getD' at h
    rw [List.find?_cons] at h
    by_cases e : q = k
    · subst e
      simp only [hk, decide_true, Option.map_some, Option.some.injEq] at h
      subst h
      exact ⟨v, valV_pos rfl, h1⟩
    · have e' : decide (kk (kd q) = some k) = false := by simp [hk, e]
      simp only [e'] at h
      obtain ⟨v', g1, g2⟩ := RpD.get hk h2 (show getD' kk kvs k = some d from h)
      exact ⟨v', by rw [valV_neg e]; exact g1, g2⟩
theorem RpD.none (hk : ∀ k, kk (kd k) = some k) {k : κ} : ∀ {kvs : List (PyData × PyData)} {ws : List (κ × V)}, RpD K S H κ kd kvs ws → (valV ws k).isSome = (getD' kk kvs k).isSome
  | [], _, r => by rw [RpD] at r; subst r; rfl
  | (a, x) :: kvs, _, r => by
    rw [RpD] at r
    obtain ⟨q, v, ws, rfl, rfl, h1, h2⟩ := r
    unfold getD'
    rw [List.find?_cons]
    by_cases e : q = k
    · subst e
      simp only [hk, decide_true, Option.map_some]
      rw [valV_pos rfl]; rfl
    · have e' : decide (kk (kd q) = some k) = false := by simp [hk, e]
      simp only [e']
      rw [valV_neg e]
      exact RpD.none hk h2
theorem RpD.any (hk : ∀ k, kk (kd k) = some k) {k : κ} : ∀ {kvs : List (PyData × PyData)} {ws : List (κ × V)}, RpD K S H κ kd kvs ws → (ws.any fun kv => decide (kv.1 = k)) = kvs.any fun p => decide (kk p.1 = some k)
  | [], _, r => by rw [RpD] at r; subst r; rfl
  | (a, x) :: kvs, _, r => by
    rw [RpD] at r
    obtain ⟨q, v, ws, rfl, rfl, h1, h2⟩ := r
    rw [List.any_cons, List.any_cons, RpD.any hk h2]
    simp only [hk, Option.some.injEq]
theorem RpD.repl (hk : ∀ k, kk (kd k) = some k) {k : κ} {d : PyData} {v : V} (hd : Rp K S H d v) : ∀ {kvs : List (PyData × PyData)} {ws : List (κ × V)}, RpD K S H κ kd kvs ws → RpD K S H κ kd (kvs.map fun p => if kk p.1 = some k then (p.1, d) else p) (ws.map fun kv => if kv.1 = k then (kv.1, v) else kv)
  | [], _, r => by rw [RpD] at r; subst r; rw [List.map_nil, List.map_nil, RpD]
  | (a, x) :: kvs, _, r => by
    rw [RpD] at r
    obtain ⟨q, u, ws, rfl, rfl, h1, h2⟩ := r
    rw [List.map_cons, List.map_cons]
    have ih := RpD.repl (k := k) hk hd h2
    by_cases e : q = k
    · subst e
      simp only [hk, if_true]
      rw [RpD]
      exact ⟨q, v, _, rfl, rfl, hd, ih⟩
    · have e' : ¬ kk (kd q) = some k := by simp [hk, e]
      simp only [e', e, if_false]
      rw [RpD]
      exact ⟨q, u, _, rfl, rfl, h1, ih⟩
theorem RpD.snoc {k : κ} {d : PyData} {v : V} (hd : Rp K S H d v) : ∀ {kvs : List (PyData × PyData)} {ws : List (κ × V)}, RpD K S H κ kd kvs ws → RpD K S H κ kd (kvs ++ [(kd k, d)]) (ws ++ [(k, v)])
  | [], _, r => by
    rw [RpD] at r
    subst r
    rw [List.nil_append, List.nil_append, RpD]
    exact ⟨k, v, [], rfl, rfl, hd, by rw [RpD]⟩
  | (a, x) :: kvs, _, r => by
    rw [RpD] at r
    obtain ⟨q, u, ws, rfl, rfl, h1, h2⟩ := r
    rw [List.cons_append, List.cons_append, RpD]
    exact ⟨q, u, _, rfl, rfl, h1, RpD.snoc hd h2⟩
theorem RpD.put (hk : ∀ k, kk (kd k) = some k) {k : κ} {d : PyData} {v : V} (hd : Rp K S H d v) {kvs : List (PyData × PyData)} {ws : List (κ × V)} (r : RpD K S H κ kd kvs ws) : RpD K S H κ kd (putD kd kk kvs k d) (putK ws k v) := by
  unfold putD putK
  rw [r.any hk]
  split
  · exact r.repl hk hd
  · exact r.snoc hd
theorem RpD.len : ∀ {kvs : List (PyData × PyData)} {ws : List (κ × V)}, RpD K S H κ kd kvs ws → ws.length = kvs.length
  | [], _, r => by rw [RpD] at r; subst r; rfl
  | (a, x) :: kvs, _, r => by
    rw [RpD] at r
    obtain ⟨q, v, ws, rfl, rfl, h1, h2⟩ := r
    rw [List.length_cons, List.length_cons, RpD.len h2]
theorem RpD.at : ∀ {kvs : List (PyData × PyData)} {ws : List (κ × V)} {i : Nat} {p : PyData × PyData}, RpD K S H κ kd kvs ws → kvs[i]? = some p → ∃ q v, ws[i]? = some (q, v) ∧ p.1 = kd q
  | [], _, _, _, _, e => by simp at e
  | (a, x) :: kvs, _, i, p, r, e => by
    rw [RpD] at r
    obtain ⟨q, v, ws, rfl, rfl, h1, h2⟩ := r
    cases i with
    | zero =>
      simp at e
      subst e
      exact ⟨q, v, rfl, rfl⟩
    | succ i => exact RpD.at (i := i) h2 (by simpa using e)
end
/-! ### d[k], k in d -/
section
variable {X : Cx} {e a b : Expr} {st : Stmt} {sts : List Stmt} {pos : Pos} {c c1 c2 : Bool} {f g : En → Option PyData} {fa : En → Option (List PyData)} {s : En → Out}
def dGet (kvs : List (PyData × PyData)) (k : PyData) : Option PyData := match kT k with
  | some q => getD' kT kvs q
  | none => match kK k with
    | some q => getD' kK kvs q
    | none => none
theorem kT_kK {d : PyData} {q : List Key} (h : kT d = some q) : kK d = none := by
  cases d <;> first | rfl | cases h
theorem key_rp {K : PySem.W.Frag} {S : Addr → Prop} {H : Hp} {k : PyData} {q : List Key} {y : V} (h : kT k = some q) (r : Rp K S H k y) : ∃ b, y = .ref b ∧ H b = some (.tup (q.map kV)) := by
  cases k with
  | tuple ds =>
    rw [Rp] at r
    obtain ⟨b, xs, rfl, hb, ra⟩ := r
    obtain ⟨e, _⟩ := keys_rp (show keysOf ds = some q from h) ra
    exact ⟨b, rfl, by rw [← e]; exact hb⟩
  | none => cases h
  | bool _ => cases h
  | int _ => cases h
  | str _ => cases h
  | list _ => cases h
  | dict _ => cases h
theorem keyK_rp {K : PySem.W.Frag} {S : Addr → Prop} {H : Hp} {k : PyData} {q : Key} {y : V} (h : kK k = some q) (r : Rp K S H k y) : y = kV q := by
  cases k with
  | int i => cases h; rw [Rp] at r; subst r; rfl
  | str i => cases h; rw [Rp] at r; subst r; rfl
  | none => cases h
  | bool _ => cases h
  | tuple _ => cases h
  | list _ => cases h
  | dict _ => cases h
theorem e2_ev' {k : PyData → PyData → Option PyData} {env : En} {x y d : PyData} (h1 : f env = some x) (h2 : g env = some y) (h3 : k x y = some d) : e2 k f g env = some d := by
  unfold e2
  rw [h1, h2]
  exact h3
/-- what a dict's data say is what it holds -/
theorem dget_rp {K : PySem.W.Frag} {S S' : Addr → Prop} {H : Hp} {kvs : List (PyData × PyData)} {k d : PyData} {x y : V} (rx : Rp K S H (.dict kvs) x) (ry : Rp K S' H k y) (h : dGet kvs k = some d) : ∃ a v, x = .ref a ∧ DGet H a y (some v) ∧ Rp K S H d v := by
  rw [Rp] at rx
  obtain ⟨a, od, rfl, q⟩ := rx
  unfold dGet at h
  rcases q with ⟨ws, hw, r⟩ | ⟨ws, hw, r⟩
  · split at h
    · rename_i q hq
      obtain ⟨v, g1, g2⟩ := r.get kT_kd h
      obtain ⟨b, rfl, hb⟩ := key_rp hq ry
      exact ⟨a, v, rfl, .inr ⟨ws, q, b, .inr ⟨od, hw⟩, rfl, hb, g1.symm⟩, g2⟩
    · exfalso
      have no : ∀ {l : List (PyData × PyData)} {ws : List (List Key × V)} (z : Key), RpD K S H (List Key) kdT l ws → getD' kK l z = none := fun {l} => by
        induction l with
        | nil => intro _ _ _; rfl
        | cons p l ih =>
          intro ws z r
          obtain ⟨pk, pd⟩ := p
          rw [RpD] at r
          obtain ⟨q, v, ws', rfl, rfl, _, h2⟩ := r
          unfold getD'
          rw [List.find?_cons]
          have : decide (kK (kdT q) = some z) = false := by simp [kdT, kK]
          simp only [this]
          exact ih z h2
      split at h
      · rw [no _ r] at h; cases h
      · cases h
  · split at h
    · exfalso
      rename_i q hq
      have no : ∀ {l : List (PyData × PyData)} {ws : List (Key × V)} (z : List Key), RpD K S H Key kdD l ws → getD' kT l z = none := fun {l} => by
        induction l with
        | nil => intro _ _ _; rfl
        | cons p l ih =>
          intro ws z r
          obtain ⟨pk, pd⟩ := p
          rw [RpD] at r
          obtain ⟨q, v, ws', rfl, rfl, _, h2⟩ := r
          unfold getD'
          rw [List.find?_cons]
          have : decide (kT (kdD q) = some z) = false := by cases q <;> simp [kdD, kT]
          simp only [this]
          exact ih z h2
      rw [no _ r] at h; cases h
    · split at h
      · rename_i q hq
        obtain ⟨v, g1, g2⟩ := r.get kK_kd h
        rw [keyK_rp hq ry]
        exact ⟨a, v, rfl, .inl ⟨ws, q, .inr ⟨od, hw⟩, rfl, g1.symm⟩, g2⟩
      · cases h
/-- x[k], x a list, a tuple or a dict that was let go -/
def ixU (x k : PyData) : Option PyData := match x with
  | .dict kvs => dGet kvs k
  | _ => ixG x k
theorem ce_ixU (hu : X.A.units + 1 < cLine) (ha : PE X a (tE X.K c f)) (hb : PE X b (tE X.K c g)) (hs : PlainIx b) (hs' : NoSl b) : PE X (.Subscript a b pos) (tE X.K c (e2 ixU f g)) := pe_w (pe_or (ce_ix ha hb hs) (pe_dget hu ha hb hs')) fun σ H Q ⟨S0, H0, A, env, d, E, hf, q⟩ => by
  obtain ⟨x, k, h1, h2, h3⟩ := e2_some hf
  by_cases hx : ∃ kvs, x = .dict kvs
  · right
    obtain ⟨kvs, rfl⟩ := hx
    refine ⟨S0, H0, A, env, _, E, h1, fun v H1 s1 r1 => ⟨S0, H0, A, env, k, E.grow s1, h2, fun u H2 s2 r2 => ?_⟩⟩
    obtain ⟨p, v', rfl, g1, g2⟩ := dget_rp (r1.grow s2) r2 (show dGet kvs k = some d from h3)
    exact ⟨p, v', rfl, g1, q _ _ (s1.trans s2) g2⟩
  · left
    refine ⟨S0, H0, A, env, d, E, ?_, q⟩
    refine e2_ev' h1 h2 ?_
    cases x with
    | dict kvs => exact absurd ⟨kvs, rfl⟩ hx
    | none => exact h3
    | bool _ => exact h3
    | int _ => exact h3
    | str _ => exact h3
    | list _ => exact h3
    | tuple _ => exact h3
/-- d[k], d an owned dict -/
def eGetO (i : Nat) (g : En → Option PyData) : En → Option PyData := fun env => match env[i]? with
  | some (.ownT kvs) => match g env with
    | some k => match kT k with
      | some q => getD' kT kvs q
      | none => none
    | none => none
  | some (.ownK kvs) => match g env with
    | some k => match kK k with
      | some q => getD' kK kvs q
      | none => none
    | none => none
  | _ => none
theorem ce_getO {i : Nat} (hu : X.A.units + 1 < cLine) (ha : PE X a (tVar i)) (hb : PE X b (tE X.K c1 g)) (hs' : NoSl b) : PE X (.Subscript a b pos) (tE X.K c (eGetO i g)) := pe_w (pe_dget hu ha hb hs') fun σ H Q ⟨S0, H0, A, env, d, E, hf, q⟩ => by
  unfold eGetO at hf
  split at hf
  · rename_i kvs hi
    rcases E.sl i _ hi with z | ⟨v, h1, p, ws, rfl, ha, hh, r⟩
    · cases z
    split at hf
    · rename_i k hk
      split at hf
      · rename_i y hy
        refine ⟨_, h1, S0, H0, A, env, k, E, hk, fun u H2 s2 r2 => ?_⟩
        obtain ⟨v, g1, g2⟩ := r.get kT_kd hf
        obtain ⟨b, rfl, hb⟩ := key_rp hy r2
        exact ⟨p, v, rfl, .inr ⟨ws, y, b, .inl (s2 _ _ hh), rfl, hb, g1.symm⟩, q _ _ s2 ((g2.grow s2).wide fun _ z => sc_cl z)⟩
      · cases hf
    · cases hf
  · rename_i kvs hi
    rcases E.sl i _ hi with z | ⟨v, h1, p, ws, rfl, ha, hh, r⟩
    · cases z
    split at hf
    · rename_i k hk
      split at hf
      · rename_i y hy
        refine ⟨_, h1, S0, H0, A, env, k, E, hk, fun u H2 s2 r2 => ?_⟩
        obtain ⟨v, g1, g2⟩ := r.get kK_kd hf
        rw [keyK_rp hy r2]
        exact ⟨p, v, rfl, .inl ⟨ws, y, .inl (s2 _ _ hh), rfl, g1.symm⟩, q _ _ s2 ((g2.grow s2).wide fun _ z => sc_cl z)⟩
      · cases hf
    · cases hf
  · cases hf
/-- d[k] = v, d an owned dict -/
def sPutD (i : Nat) (fk f : En → Option PyData) : En → Out := fun env => match f env with
  | some d => match fk env with
    | some k => match env[i]? with
      | some (.ownT kvs) => match kT k with
        | some q => if kvs.length < 1000000 then .nx (env.set i (.ownT (putD kdT kT kvs q d))) else .bad
        | none => .bad
      | some (.ownK kvs) => match kK k with
        | some q => if kvs.length < 1000000 then .nx (env.set i (.ownK (putD kdD kK kvs q d))) else .bad
        | none => .bad
      | _ => .bad
    | none => .bad
  | none => .bad
theorem cs_putD {i : Nat} {fk : En → Option PyData} (h : PS X st (sDPut (tVar i) (tE X.K c fk) (tE X.K true f))) : PS X st (tS X.K (sPutD i fk f)) := ps_w h fun D σ H ⟨S0, H0, A, env, E, o⟩ => by
  unfold sPutD at o
  split at o
  · rename_i d hd
    refine ⟨S0, H0, A, env, d, E, hd, fun v H1 s1 r1 => ?_⟩
    split at o
    · rename_i k hk
      split at o
      · rename_i kvs hi
        rcases E.sl i _ hi with z | ⟨v', h1, p, ws, rfl, ha, hh, r⟩
        · cases z
        split at o
        · rename_i y hy
          split at o
          · rename_i hl
            refine ⟨_, h1, S0, H0, A, env, k, E.grow s1, hk, fun u H2 s2 r2 => ?_⟩
            obtain ⟨b, rfl, hb⟩ := key_rp hy r2
            have s12 := s1.trans s2
            have E2 := E.grow s12
            obtain ⟨hL, hT, hD⟩ := E2.upd_mono (u1 := .dT (putK ws y v)) ha
            refine ⟨p, _, rfl, .inr ⟨ws, y, b, s12 _ _ hh, rfl, hb, by rw [r.len]; exact Nat.lt_of_lt_of_le hl (by decide), rfl⟩, ?_⟩
            refine o A _ σ (E2.mutG hi rfl rfl h1 ha (s12 _ _ hh) rfl rfl ⟨p, _, rfl, ha, upd_same, RpD.mono hL hT hD _ _ _ _ ((r.grow s12).put kT_kd ((r1.wide fun _ z => cl_sc z).grow s2))⟩) (fun b u e n => ?_) Sb.refl
            rw [upd_ne (fun z => n (by rw [z]; exact ha))]
            exact s12 _ _ e
          · exact o.elim
        · exact o.elim
      · rename_i kvs hi
        rcases E.sl i _ hi with z | ⟨v', h1, p, ws, rfl, ha, hh, r⟩
        · cases z
        split at o
        · rename_i y hy
          split at o
          · rename_i hl
            refine ⟨_, h1, S0, H0, A, env, k, E.grow s1, hk, fun u H2 s2 r2 => ?_⟩
            have eu := keyK_rp hy r2
            subst eu
            have s12 := s1.trans s2
            have E2 := E.grow s12
            obtain ⟨hL, hT, hD⟩ := E2.upd_mono (u1 := .dK (putK ws y v)) ha
            refine ⟨p, _, rfl, .inl ⟨ws, y, s12 _ _ hh, rfl, by rw [r.len]; exact Nat.lt_of_lt_of_le hl (by decide), rfl⟩, ?_⟩
            refine o A _ σ (E2.mutG hi rfl rfl h1 ha (s12 _ _ hh) rfl rfl ⟨p, _, rfl, ha, upd_same, RpD.mono hL hT hD _ _ _ _ ((r.grow s12).put kK_kd ((r1.wide fun _ z => cl_sc z).grow s2))⟩) (fun b u e n => ?_) Sb.refl
            rw [upd_ne (fun z => n (by rw [z]; exact ha))]
            exact s12 _ _ e
          · exact o.elim
        · exact o.elim
      · exact o.elim
    · exact o.elim
  · exact o.elim
/-! ### for k in d -/
theorem wk_keysT {K : PySem.W.Frag} {a : Addr} {od : Obj} {ws : List (List Key × V)} {kvs : List (PyData × PyData)} {S0 S : Addr → Prop} {H0 : Hp} (r : RpD K S0 H0 (List Key) kdT kvs ws) : Wk K (Itkt a od ws) (fun H => H a = some (.frz od (.dT ws))) S (kvs.map (·.1)) where
  go := fun i H g l => ⟨g, by rw [r.len]; simpa using l⟩
  yld := fun i H d x H' g e y => by
    obtain ⟨rfl, k, v, p, h1, rfl, h2⟩ := y
    refine ⟨Same.refl _, ?_⟩
    rw [List.getElem?_map] at e
    cases hk : kvs[i]? with
    | none => rw [hk] at e; cases e
    | some pr =>
      rw [hk] at e
      cases e
      obtain ⟨q', v', h3, h4⟩ := r.at hk
      rw [h1] at h3
      cases h3
      show Rp K S H' pr.1 _
      rw [h4]
      unfold kdT
      rw [Rp]
      refine ⟨p, _, rfl, h2, ?_⟩
      have rk : ∀ ks : List Key, RpA K S H' (ks.map kdD) (ks.map kV) := fun ks => by
        induction ks with
        | nil => exact RpA.nil
        | cons z ks ih => exact RpA.cons (by cases z <;> (show Rp K S H' _ _; simp only [kdD, kV]; rw [Rp])) ih
      exact rk k
  stop := fun i H g l => ⟨g, by rw [r.len]; simpa using l⟩
theorem wk_keysK {K : PySem.W.Frag} {a : Addr} {od : Obj} {ws : List (Key × V)} {kvs : List (PyData × PyData)} {S0 S : Addr → Prop} {H0 : Hp} (r : RpD K S0 H0 Key kdD kvs ws) : Wk K (Itk a od ws) (fun H => H a = some (.frz od (.dK ws))) S (kvs.map (·.1)) where
  go := fun i H g l => ⟨g, by rw [r.len]; simpa using l⟩
  yld := fun i H d x H' g e y => by
    obtain ⟨rfl, k, v, h1, rfl⟩ := y
    refine ⟨Same.refl _, ?_⟩
    rw [List.getElem?_map] at e
    cases hk : kvs[i]? with
    | none => rw [hk] at e; cases e
    | some pr =>
      rw [hk] at e
      cases e
      obtain ⟨q', v', h3, h4⟩ := r.at hk
      rw [h1] at h3
      cases h3
      show Rp K S H' pr.1 _
      rw [h4]
      cases k <;> (simp only [kdD, kV]; rw [Rp])
  stop := fun i H g l => ⟨g, by rw [r.len]; simpa using l⟩
def iSeqU (f : En → Option PyData) : En → Option (List PyData) := fun env => match f env with
  | some (.list ds) => some ds
  | some (.tuple ds) => some ds
  | some (.dict kvs) => some (kvs.map (·.1))
  | _ => none
theorem ci_seqU {tg iter : Expr} {f : En → Option PyData} (h : PE X iter (tE X.K true f)) : PI X tg iter (tI X.K true (iSeqU f)) := pi_w (pi_or (ci_seq h) (pi_keys h)) fun σ H R ⟨S0, H0, A, env, ds, E, hf, q⟩ => by
  unfold iSeqU at hf
  split at hf
  · rename_i es hd
    exact .inl ⟨S0, H0, A, env, ds, E, by unfold iSeq; rw [hd]; exact hf, q⟩
  · rename_i es hd
    exact .inl ⟨S0, H0, A, env, ds, E, by unfold iSeq; rw [hd]; exact hf, q⟩
  · rename_i kvs hd
    cases hf
    refine .inr ⟨S0, H0, A, env, _, E, hd, fun v H1 s r => ?_⟩
    rw [Rp] at r
    obtain ⟨a, od, rfl, z⟩ := r
    have E1 := E.grow s
    refine ⟨a, od, rfl, ?_⟩
    rcases z with ⟨ws, hw, r⟩ | ⟨ws, hw, r⟩
    · exact .inr ⟨ws, hw, q _ H1 _ s (fun H2 s2 => s2 _ _ hw) (fun _ H2 f2 => f2 a _ hw fun z => E1.no_frz rfl z hw) (wk_keysT r)⟩
    · exact .inl ⟨ws, hw, q _ H1 _ s (fun H2 s2 => s2 _ _ hw) (fun _ H2 f2 => f2 a _ hw fun z => E1.no_frz rfl z hw) (wk_keysK r)⟩
  · cases hf
/-! ### a display with written keys -/
def trsOf (K : PySem.W.Frag) (ps : List (Str × (En → Option PyData))) : List (TE × TE) := ps.map fun p => (tC (.str p.1), tE K true p.2)
def valsE : List (Str × (En → Option PyData)) → En → Option (List (Key × PyData))
  | [], _ => some []
  | (k, f) :: ps, env => match f env with
    | some d => match valsE ps env with
      | some ds => some ((.inr k, d) :: ds)
      | none => none
    | none => none
def mkD (ps : List (Key × PyData)) : List (PyData × PyData) := ps.foldl (fun acc kv => putD kdD kK acc kv.1 kv.2) []
/-- the new dict's entries stand apart from it -/
inductive Ents (K : PySem.W.Frag) (S : Addr → Prop) (H : Hp) : List (Key × PyData) → List (V × V) → Prop
  | nil : Ents K S H [] []
  | cons {k : Key} {d : PyData} {v : V} {ps : List (Key × PyData)} {vs : List (V × V)} : Rp K S H d v → Ents K S H ps vs → Ents K S H ((k, d) :: ps) ((kV k, v) :: vs)
theorem Ents.kv {K : PySem.W.Frag} {S : Addr → Prop} {H : Hp} {ps : List (Key × PyData)} {vs : List (V × V)} (h : Ents K S H ps vs) : ∃ ws : List (Key × V), vs = ws.map (fun kv => (kV kv.1, kv.2)) ∧ ws.length = ps.length ∧ ∀ {acc : List (PyData × PyData)} {aw : List (Key × V)}, RpD K S H Key kdD acc aw → RpD K S H Key kdD (ps.foldl (fun acc kv => putD kdD kK acc kv.1 kv.2) acc) (mergeK aw ws) := by
  induction h with
  | nil => exact ⟨[], rfl, rfl, fun r => r⟩
  | @cons k d v ps vs r _ ih =>
    obtain ⟨ws, e, l, f⟩ := ih
    refine ⟨(k, v) :: ws, by rw [e]; rfl, by rw [List.length_cons, List.length_cons, l], fun {acc aw} ra => ?_⟩
    exact f (ra.put kK_kd r)
theorem pairs_run {K : PySem.W.Frag} {S0 : Addr → Prop} {H0 : Hp} {A : Addr → Prop} {env : En} {σ : L2.St} : ∀ {ps : List (Str × (En → Option PyData))} {H1 : Hp} {ds : List (Key × PyData)} {Q : List (V × V) → Hp → Prop}, EnvOk K S0 H0 A H1 σ env → valsE ps env = some ds →
    (∀ vs H2, Same H1 H2 → Ents K (Cl S0 H0 A) H2 ds vs → Q vs H2) → tPairs (trsOf K ps) σ H1 Q
  | [], H1, ds, Q, E, h, q => by
    cases h
    exact q [] H1 (Same.refl _) .nil
  | (k, f) :: ps, H1, ds, Q, E, h, q => by
    simp only [valsE] at h
    split at h
    · rename_i d hd
      split at h
      · rename_i ds' hds
        cases h
        show tPairs ((tC (.str k), tE K true f) :: trsOf K ps) σ H1 Q
        refine ⟨S0, H0, A, env, d, E, hd, fun v H2 s2 r2 => ?_⟩
        refine pairs_run (E.grow s2) hds fun vs H3 s3 en => ?_
        exact q _ H3 (s2.trans s3) (.cons ((r2.wide fun _ z => cl_sc z).grow s3) en)
      · cases h
    · cases h
def sDisp (i : Nat) (ps : List (Str × (En → Option PyData))) : En → Out := fun env => match valsE ps env with
  | some ds => if ds.length ≤ 15 then .nx (env.set i (.ownK (mkD ds))) else .bad
  | none => .bad
theorem cs_disp {i : Nat} {ps : List (Str × (En → Option PyData))} (h : PS X st (tAsg (tDisp (trsOf X.K ps)) (gName i))) : PS X st (tS X.K (sDisp i ps)) := ps_w h fun D σ H ⟨S0, H0, A, env, E, o⟩ => fun p hp => by
  unfold sDisp at o
  split at o
  · rename_i ds hds
    split at o
    · rename_i hl
      refine pairs_run (E.grow (same_new hp)) hds fun vs H2 s2 en => ?_
      obtain ⟨ws, rfl, wl, f⟩ := en.kv
      have hp2 : H2 p = some (.dK []) := s2 _ _ upd_same
      refine ⟨hp2, ws, rfl, by rw [wl]; exact hl, ?_⟩
      have sH : Same H (upd H2 p (.dK (mergeK [] ws))) := fun b u z => by
        rw [upd_ne (ne_of_none z hp)]
        exact s2 _ _ ((same_new hp) _ _ z)
      have r := f (acc := []) (aw := []) (by rw [RpD])
      obtain ⟨k1, k2, k3⟩ := upd_monoD (S := Cl S0 H0 A) (u1 := .dK (mergeK [] ws)) hp2 rfl
      have r' : RpD X.K (fun a => Cl S0 H0 A a ∧ a ≠ p) H2 Key kdD (mkD ds) (mergeK [] ws) := RpD.mono (fun a xs z y => ⟨⟨z, fun e => by
        rw [e] at y
        rcases y with y | ⟨_, y⟩ <;> (rw [hp2] at y; cases y)⟩, y⟩) (fun _ _ z => z) (fun _ _ _ z => z) _ _ _ _ r
      refine o _ _ _ (E.set_new (s0 := .ownK (mkD ds)) sH hp upd_same rfl rfl ⟨p, _, rfl, .inr rfl, upd_same, RpD.mono k1 k2 k3 _ _ _ _ r'⟩) (Fr.of_same sH) fun a z => z.imp id fun e => by rw [e]; exact hp
    · exact o.elim
  · exact o.elim
theorem hu1 {k : Nat} {A : Around} (r : Room k A) : A.units + 1 < cLine := by
  have := hu65 r
  omega
/-! ### k in d -/
def inU (k x : PyData) : Option PyData := match x with
  | .dict kvs => match kvs with
    | [] => none
    | (p, _) :: _ => match kT p with
      | some _ => match kT k with
        | some q => some (.bool (getD' kT kvs q).isSome)
        | none => none
      | none => match kK k with
        | some q => some (.bool (getD' kK kvs q).isSome)
        | none => none
  | _ => inT k x
end
end Mir

/-! Exc1: the class Refused(BookError) with super().__init__(what); self.what = what: made, raised, its field read -/
namespace PySem
namespace RfX
open PySem.W PySem.Calls PyProof.Rows PySem.HandSPX
def iA : Arguments := { posonlyargs := [], args := [{ arg := "self", annotation := none, pos := ⟨6, 17, 6, 21⟩ }, { arg := "what", annotation := none, pos := ⟨6, 23, 6, 27⟩ }], vararg := none, kwonlyargs := [], kw_defaults := [], kwarg := none, defaults := [] }
def iB : List Stmt := [.Expr (.Call (.Attribute (.Call (.Name "super" ⟨7, 8, 7, 13⟩) [] [] ⟨7, 8, 7, 15⟩) "__init__" ⟨7, 8, 7, 24⟩) [.Name "what" ⟨7, 25, 7, 29⟩] [] ⟨7, 8, 7, 30⟩) ⟨7, 8, 7, 30⟩, .Assign [.Attribute (.Name "self" ⟨8, 8, 8, 12⟩) "what" ⟨8, 8, 8, 17⟩] (.Name "what" ⟨8, 20, 8, 24⟩) ⟨8, 8, 8, 24⟩]
def iS : Scope := { kind := .function, names := [(PySem.Str.ofString "self", .local), (PySem.Str.ofString "what", .local), (PySem.Str.ofString "__class__", .free), (PySem.Str.ofString "super", .globalImplicit)], isGenerator := false, isCoroutine := false, more := [] }
/-- what the written part says of Refused, at C, and of its __init__, at fI -/
structure RfTxt (prog : Program) (K : Frag) (mg : Str → Option Value) (C fI : Addr) : Prop where
  gC : mg "Refused" = some (.ref C)
  cls : ∃ nm q N bs bm sn sub ab col dd k0 k1 k2 k3 k5, K.lookup C = some (excClassObj nm q C N bs bm true sn sub ab col dd k0 k1 k2 k3 k5 "ValueError.__new__") ∧ refsVE bm = true
  sa : findIn K (.ref C) "__setattr__" = some (some (.builtin "object.__setattr__"))
  ga : findIn K (.ref C) "__getattribute__" = some (some (.builtin "BaseException.__getattribute__"))
  gg : findIn K (.ref C) "__getattr__" = some none
  noN : findIn K (.ref C) "what" = some none
  iC : findIn K (.ref C) "__init__" = some (some (.ref fI))
  tC : typeIn K (.ref fI) = some (.type "function")
  kC : keepIn K (.ref C) = true
  exC : subIn K (.ref C) (.type "BaseException") = some true
  tyC : typeIn K (.ref C) = some (.type "type")
  hdC : hasDictIn K C = true
  te : exmOne K (.ref C) (.ref C) = some true
  sup : mg "super" = none
  opq : nsIn K cStatics "thirdparty.any" = some none
  sIn : ks_superIn K C C "__init__" = some (some (.builtin "ValueError.__init__"))
  hB : subIn K (.ref C) (.type "ValueError") = some true
  mro : mroIn K C (.ref C) = some true
  top : (prog.main.scope.names.lookup ("super" : Str)).isSome = false
  fn : ∃ (oc : Value) (od : Option Addr) (doc pm : Value) (an : Option Addr) (cda cc : Addr) (ct : Value) (osl : Array (Option Value)) (vs : Array Value) (file : Str) (tf : Tok) (c1 c2 : Value) (d1 d2 : Option Addr) (s1 s2 : Array (Option Value)),
    K.lookup fI = some ⟨oc, od, .func (fnX "__init__" "Refused.__init__" iA iB iS [("__class__", cc)] .none .none doc pm an (.ref cda) ct), osl⟩ ∧ codeIn K (.ref cda) "Refused.__init__" = true ∧
    K.lookup cda = some ⟨c1, d1, .fields vs, s1⟩ ∧ vs[2]? = some (.str file tf) ∧ ((prog.main.file : Str) == file) = true ∧ K.lookup cc = some ⟨c2, d2, .cell (some (.ref C)), s2⟩
theorem one_size (v : Value) : [v].length ≤ sizeLine := by
  rw [sizeLine_eq]
  exact (by decide : 1 ≤ 16777216)
/-- what __init__ leaves of a fresh exception at x -/
structure InitEnd (h h' : Heap) (x C dx t1 : Addr) (v : Value) : Prop where
  keep : ∀ b o, b ≠ x → h.get? b = some o → h'.get? b = some o
  obj : h'.get? x = some { cls := .ref C, dict := some dx, data := .fields #[.ref t1, .none, .none, .none, .bool false, .none] }
  dbig : h.objs.size ≤ dx
  dne : dx ≠ x
  ns : h'.Ns1 dx (fun y => if y = "what" then some v else none)
/-- a made one -/
structure OwnMade (h h' : Heap) (e C d : Addr) (v : Value) : Prop where
  keep : ∀ b o, h.get? b = some o → h'.get? b = some o
  new : h.objs.size ≤ e
  obj : ∃ oe vs, h'.get? e = some oe ∧ oe.cls = .ref C ∧ oe.dict = some d ∧ oe.data = .fields vs ∧ vs[1]? = some .none
  dbig : h.objs.size ≤ d
  dne : d ≠ e
  ns : h'.Ns1 d (fun y => if y = "what" then some v else none)
section
variable {prog : Program} {w : World} {A : Around} {E : Value → Shared → Prop} {R : Result → Shared → Prop} {s : Shared} {K : Frag} {mg : Str → Option Value} {C fI : Addr}
theorem rf_init (T : RfTxt prog K mg C fI) {x t0 : Addr} {v : Value} (X : K.In s.heap) (G : s.heap.Ns mainGlobals mg) (B : ∃ mb, s.heap.Ns builtinsNs mb ∧ ∀ x : Str, x ≠ "__name__" → mb x = bootBuiltins x) (hlim : s.heap.NoLimit) (hx : s.heap.get? x = some (excO C t0)) (hnx : K.lookup x = none) (hroom : A.depth < recursionLimit)
    (hq : ∀ h' tk dx t1, InitEnd s.heap h' x C dx t1 v → R (.ok (.ret .none)) { s with heap := h', toks := tk }) :
    codeAny (model prog w) A (.call (.ref fI) ⟨[.ref x, v], []⟩) R s := by
  obtain ⟨oc, od, doc, pm, an, cda, cc, ct, osl, vs, file, tf, c1, c2, d1, d2, s1, s2, ho, hcd, hcode, hvs, hfile, hcell⟩ := T.fn
  obtain ⟨nm, q, N, bs, bm, sn, sub, ab, col, dd, k0, k1, k2, k3, k5, hC, hbm⟩ := T.cls
  have hcl : clsIn K C = some { name := nm, bases := bs, mro := .ref C :: bm, ns := N, qualname := q, hasDict := true, slotNames := sn, subclasses := sub, abstract := ab, collection := col, hasDel := false } := by unfold clsIn; rw [hC] <;> rfl
  refine ks_codeAny_call_defAt (binds := [("self", .ref x), ("what", v)]) hroom (X _ _ ho) rfl hlim (codeRec_of X hcd) rfl (BindsTo.of_eq (by first | rfl | with_unfolding_all rfl)) (show ∀ y ∈ iS.names, y.2 ≠ NameKind.cell from by decide +kernel) (fun y hy => by
    rcases List.mem_cons.mp hy with rfl | hy
    · kernel_rfl
    rcases List.mem_cons.mp hy with rfl | hy
    · kernel_rfl
    cases hy) (fun h₁ hn hk => ?_) rfl rfl rfl
  have X₁ : K.In h₁ := X.keeps hk
  have hx₁ := hk _ _ hx
  have hL : s.heap.objs.size ≠ x := Nat.ne_of_gt (Heap.lt_size hx)
  have G₁ := G.keeps hk
  obtain ⟨mb, b1, b2⟩ := B
  have b1 := b1.keeps hk
  have hne : x ≠ C := fun e => by
    have z := X _ _ hC
    rw [← e, hx] at z
    cases z
  show wpAt _ _ _ (execs (_ :: _) _) _ _ _
  refine ks_wpAt_execs_cons (ks_wpAt_Expr_any (ks_wpAt_MethodCall ?_))
  have hCat := X₁ _ _ hC
  refine ks_wpAt_super_base (ar := { arg := "self", annotation := none, pos := ⟨6, 17, 6, 21⟩ }) (env := ksEnv "Refused.__init__" iS s.heap.objs.size fI (.ref cda) cc) (by kernel_rfl) (by kernel_rfl) (by decide +kernel) rfl (X₁ _ _ ho) rfl (by kernel_rfl) rfl (X₁ _ _ hcode) rfl hvs hfile T.top ?_
  refine ks_loadName_global rfl (by kernel_rfl) (loadGlobal_builtin (env := ksEnv "Refused.__init__" iS s.heap.objs.size fI (.ref cda) cc) G₁ T.sup b1 ((b2 _ (by decide +kernel)).trans (by first | boot_by_name | rfl | kernel_rfl)) ⟨rfl, ?_⟩)
  refine wpAny_loadName_free rfl (by kernel_rfl) (by kernel_rfl) ⟨_, X₁ _ _ hcell, rfl⟩ ?_
  refine wpAny_loadName_local (v := .ref x) rfl (by kernel_rfl) hn (by kernel_rfl) ?_
  refine ks_wpAny_isType_cls hCat rfl ⟨rfl, ?_⟩
  refine ks_wpAny_call_super hCat rfl hx₁ rfl (fun c e => by cases e) (looks_mroIn X₁ T.mro) (fun h₂ hso k₂ => ?_)
  have X₂ : K.In h₂ := X₁.keeps k₂
  have hx₂ := k₂ _ _ hx₁
  have hn₂ := hn.keeps k₂
  have I₂ : InstAt h₂ x (excO C t0) C none := ⟨hx₂, rfl, rfl, trivial⟩
  have hm := T.sIn
  unfold ks_superIn at hm
  rw [hcl] at hm
  refine kxs_getMethod kxs_ValueError (l₀ := .ref C :: bm) hso (looks_opaque X₂ T.opq) (fun A Q E s k q => wpAny_bind ((looks_clsIn X₂ hcl) A _ E s k (wpAny_pure q))) rfl X₂ hm (I₂.type.andThen (looks_subIn X₂ T.hB)) hne (by decide +kernel) ?_
  have k₃ : ∀ b o, h₂.get? b = some o → (h₂.push (kxs_mw "ValueError.__init__" x)).get? b = some o := fun b o e => Heap.get?_push_of_some _ e
  have hu : (h₂.push (kxs_mw "ValueError.__init__" x)).get? h₂.objs.size = some (kxs_mw "ValueError.__init__" x) := Heap.get?_push_at rfl rfl
  refine kxs_callWith (i := "ValueError.__init__") (x := x) (by kernel_rfl) ?_
  refine evalArgs_plain (spliced_cons ?_)
  have hn₃ := hn₂.keeps k₃
  refine wpAny_Name (env := ksEnv "Refused.__init__" iS s.heap.objs.size fI (.ref cda) cc) (wpAny_loadName_local (v := v) rfl (by kernel_rfl) hn₃ (by kernel_rfl) ?_) (by decide +kernel)
  refine spliced_nil ⟨hu, ?_⟩
  have hC₃ := k₃ _ _ (k₂ _ _ hCat)
  have hx₃ := k₃ _ _ hx₂
  refine wpAny_call (codeAny_of_tree (show wpAny _ _ (callAny (.ref h₂.objs.size) ⟨[v], []⟩) _ _ _ from ?_))
  simp only [callAny]
  refine wpAny_bind (wpAny_load hu ?_)
  simp only [kxs_mw, show ((Value.type "method-wrapper" == Value.type "method") || (Value.type "method-wrapper" == Value.type "builtin_function_or_method") || (Value.type "method-wrapper" == Value.type "method-wrapper")) = true by decide, if_true]
  refine KFB.if_so (by decide) (wpAny_bind (check_bound_init F.excBase_ValueError.toExcCallFacts hC₃ hx₃ rfl (wpAny_bind (wpAny_pure (wpAny_pure ⟨plainId_quiet F.excBase_ValueError.init.plain _, codeAny_builtin F.excBase_ValueError.initEntry ?_⟩)))))
  refine exc_init_tree (cls := .ref C) (t0 := t0) (dv := none) (c2 := .none) (c3 := .none) (b4 := .bool false) hx₃ (one_size v) fun h₄ k₄ hx₄ ht₄ => ?_
  have hn₄ : h₄.Ns s.heap.objs.size (fun y => [(("self" : Str), Value.ref x), (("what" : Str), v)].reverse.lookup y) := by
    obtain ⟨oL, es, ep, e1, r⟩ := hn₃
    exact ⟨oL, es, ep, k₄ _ _ (fun z => hL z) e1, r⟩
  have old : ∀ b o, b ≠ x → s.heap.get? b = some o → h₄.get? b = some o := fun b o nb e => k₄ b o nb (k₃ _ _ (k₂ _ _ (hk _ _ e)))
  have X₄ : K.In h₄ := fun b o e => old b o (fun z => by rw [z, hnx] at e; cases e) (X _ _ e)
  refine wpAt_of_wpAny (wpAny_execs_cons (plainObj_wpAny_Assign_Attribute ?_))
  refine wpAny_Name (env := ksEnv "Refused.__init__" iS s.heap.objs.size fI (.ref cda) cc) (wpAny_loadName_local (v := v) rfl (by kernel_rfl) hn₄ (by kernel_rfl) ?_) (by decide +kernel)
  refine wpAny_Name (env := ksEnv "Refused.__init__" iS s.heap.objs.size fI (.ref cda) cc) (wpAny_loadName_local (v := .ref x) rfl (by kernel_rfl) hn₄ (by kernel_rfl) ?_) (by decide +kernel)
  refine set_plain X₄ (od := none) ⟨hx₄, rfl, rfl, trivial⟩ T.sa ?_
  refine exc_osa X₄ hx₄ hcl (show refsVE (.ref C :: bm) = true from hbm) rfl T.noN (fun h₅ tk₅ dx k₅ dn dne hx₅ hn₅ => ?_)
  show wpAny _ _ (execs _ _) _ _ _
  refine wpAny_execs_nil (hq h₅ tk₅ dx _ ⟨fun b o hb e => k₅ b o hb (old b o hb e), hx₅, ?_, dne, hn₅⟩)
  obtain ⟨oL, es, ep, e1, r⟩ := hn₄
  exact Nat.le_of_lt (Nat.lt_of_lt_of_le (Heap.lt_size e1) dn)
theorem rf_made (T : RfTxt prog K mg C fI) {v : Value} (X : K.In s.heap) (G : s.heap.Ns mainGlobals mg) (B : ∃ mb, s.heap.Ns builtinsNs mb ∧ ∀ x : Str, x ≠ "__name__" → mb x = bootBuiltins x) (hlim : s.heap.NoLimit) (hroom : A.depth + 1 < recursionLimit)
    (hq : ∀ h' tk e d, OwnMade s.heap h' e C d v → R (.ok (.ret (.ref e))) { s with heap := h', toks := tk }) :
    codeAny (model prog w) A (.call (.ref C) ⟨[v], []⟩) R s := by
  obtain ⟨nm, q, N, bs, bm, sn, sub, ab, col, dd, k0, k1, k2, k3, k5, hC, hbm⟩ := T.cls
  obtain ⟨hp, g, dr, tk, os⟩ := s
  have k : ∀ b o, hp.get? b = some o → ((hp.push (kdv_tup [v])).push (excO C hp.objs.size)).get? b = some o := fun b o e => Heap.get?_push_of_some _ (Heap.get?_push_of_some _ e)
  have hget : ((hp.push (kdv_tup [v])).push (excO C hp.objs.size)).get? (hp.objs.size + 1) = some (excO C hp.objs.size) := by heap_get
  have hnx : K.lookup (hp.objs.size + 1) = none := by
    cases e : K.lookup (hp.objs.size + 1) with
    | none => rfl
    | some o =>
      have z : hp.get? (hp.objs.size + 1) = some o := X _ _ e
      exact absurd (Nat.lt_of_succ_lt (Heap.lt_size z)) (Nat.lt_irrefl _)
  obtain ⟨mb, b1, b2⟩ := B
  refine call_own F.excBase_ValueError (fun X => refsVE_contains X bm hbm) (X _ _ hC) (looks_findIn X T.iC) (fun self => bind_fn X self T.tC) (one_size v) ?_
  refine rf_init (s := ⟨(hp.push (kdv_tup [v])).push (excO C hp.objs.size), g, dr, tk, os⟩) T (X.keeps k) (G.keeps k) ⟨mb, b1.keeps k, b2⟩ (hlim.keeps k) hget hnx ?_ fun h' tk' dx t1 ⟨k', hx, dn, dne, hns⟩ => ?_
  · show A.depth + 1 < recursionLimit
    exact hroom
  · have old : ∀ b o, hp.get? b = some o → h'.get? b = some o := fun b o e => k' b o (Nat.ne_of_lt (Nat.lt_succ_of_lt (Heap.lt_size e))) (k b o e)
    have z : hp.objs.size + 1 + 1 ≤ dx := by
      first
        | (simpa only [Heap.size_push] using dn)
        | exact dn
        | (have q := dn; rw [Heap.size_push, Heap.size_push] at q; exact q)
    exact ⟨rfl, hq h' tk' (hp.objs.size + 1) dx ⟨old, Nat.le_succ _, ⟨_, _, hx, rfl, rfl, rfl, rfl⟩, Nat.le_trans (Nat.le_trans (Nat.le_succ _) (Nat.le_succ _)) z, dne, hns⟩⟩
end
end RfX
end PySem
namespace L2
open PySem PySem.Spec PyProof.Rows
theorem relO_rf {v : V} {v' : Value} (r : RelV v v') (f : Str) : RelO (List.lookup f [(("what" : Str), v)]) (if f = "what" then some v' else none) := by
  by_cases hw : f = "what"
  · subst hw
    rw [if_pos rfl]
    have q : List.lookup ("what" : Str) [(("what" : Str), v)] = some v := by simp [List.lookup]
    rw [q]
    exact r
  · rw [if_neg hw]
    have qw : (f == ("what" : Str)) = false := by simpa using hw
    have q2 : List.lookup f [(("what" : Str), v)] = none := by simp [List.lookup, qw]
    rw [q2]
    trivial
section
variable {X : Cx} {C fI : Addr}
/-- Refused(e) -/
def tMkRf (C : Addr) (ta : TA) : St → Hp → XK → Prop := fun σ H Q => ta σ H fun vs H1 => ∃ v, vs = [v] ∧ ∀ d, H1 d = none → Q (.ref C) (some d) (upd H1 d (.xd [(("what" : Str), v)]))
theorem pmk_rf {a : Expr} {ta : TA} {p pos : Pos} {k : Nat} (T : PySem.RfX.RfTxt X.prog X.K X.mg C fI) (hr : Room k X.A) (ha : PA X [a] ta) (hg : Gl X "Refused" := by rfl)
    (he : starEach (a :: []) X.env = (false, eval a X.env) :: starEach [] X.env := by rfl) (hpl : (backTo pos (starEach [] X.env)).any (·.1) = false := by rfl) :
    PMk X (.Call (.Name "Refused" p) [a] [] pos) (tMkRf C ta) := by
  intro pins s σ H Q I h
  refine wpAny_Call_Name_kw (ld_glob I hg T.gC ?_)
  refine PySem.W.callWith_K (h₀ := X.base) I.ok.mod.kin T.kC (thn (ha.run pos pins s σ H _ I h) fun us s1 hh => ?_) he hpl
  obtain ⟨vs, H1, I1, r1, v, ev, q1⟩ := hh
  subst ev
  refine ⟨I1.kIn, ?_⟩
  cases r1 with
  | cons rv rn =>
    rename_i v' us'
    cases rn
    show wpAny _ _ (call (.ref C) [v']) _ _ _
    have hlim := I1.nolimit
    have hG := I1.mod.glob.keeps I1.bk
    obtain ⟨mb, hb1, hb2⟩ := I1.mod.blt
    have hB := hb1.keeps I1.bk
    obtain ⟨hp, g, dr, tk, os⟩ := s1
    refine wpAny_call (PySem.RfX.rf_made T I1.kIn hG ⟨mb, hB, hb2⟩ hlim (by have := hr.dp; omega) fun h' tk' e d M => ?_)
    show MkP X pins σ Q (.ref e) ⟨h', g, dr, tk', os⟩
    obtain ⟨oe, fv, hoe, hc, hd, hdat, h1⟩ := M.obj
    have hns := M.ns
    obtain ⟨G', g1, g2⟩ := restrict h' fun b => decide (b ≠ e)
    have gk : ∀ b, b ≠ e → G'.get? b = h'.get? b := fun b hb => g1 b (decide_eq_true hb)
    have ge : G'.get? e = none := g2 e (by simp)
    have old : ∀ b o, hp.get? b = some o → G'.get? b = some o := fun b o q => (gk b (Nat.ne_of_lt (Nat.lt_of_lt_of_le (Heap.lt_size q) M.new))).trans (M.keep b o q)
    have ob : ObjOk X.prog X.w (upd H1 d (.xd [(("what" : Str), v)])) G' d (.xd [(("what" : Str), v)]) :=
      ⟨_, hns.at (fun o q => (gk d M.dne).trans q), fun f => relO_rf rv f⟩
    have J : Inv X pins σ (upd H1 d (.xd [(("what" : Str), v)])) ⟨G', g, dr, tk', os⟩ := I1.laid (t' := tk') old M.dbig ob
    refine ⟨e, oe, fv, ⟨G', g, dr, tk', os⟩, _, .ref C, some d, rfl, J, fun b o q => ?_, ge, hoe, ⟨hc, hd⟩, hdat, h1, ?_, rfl, I1.bare, raises_own T.exC T.tyC, q1 d (I1.hok.fresh M.dbig)⟩
    · by_cases hb : b = e
      · have q' : G'.get? b = some o := q
        rw [hb, ge] at q'; cases q'
      · exact (gk b hb).symm.trans q
    · rw [upd_ne (Ne.symm M.dne)]
      exact I1.hok.fresh M.new
/-- raise Refused(e) -/
def tRaiseRf (C : Addr) (W : WX) (ta : TA) : TS := fun _ σ H => tMkRf C ta σ H fun cls d H' => W cls d σ H'
theorem ps_raiseRf {a : Expr} {ta : TA} {W : WX} {p pos pos2 : Pos} {k : Nat} (hc : X.calm = true) (T : PySem.RfX.RfTxt X.prog X.K X.mg C fI) (hr : Room k X.A) (tk : Takes X W) (ha : PA X [a] ta) (hg : Gl X "Refused" := by rfl)
    (he : starEach (a :: []) X.env = (false, eval a X.env) :: starEach [] X.env := by rfl) (hpl : (backTo pos (starEach [] X.env)).any (·.1) = false := by rfl) :
    PS X (.Raise (some (.Call (.Name "Refused" p) [a] [] pos)) none pos2) (tRaiseRf C W ta) := ps_raise hc tk (pmk_rf T hr ha hg he hpl)
/-- e.what, e the exception that the suite holds (at a; its class cls, its dict d) -/
def tByRf (C : Addr) (a : Addr) (cls : Value) (d : Option Addr) (te : TE) : TE := fun σ H Q => te σ H fun x H1 => x = .ref a ∧ cls = .ref C ∧ ∃ (dd : Addr) (v : V), d = some dd ∧ H1 dd = some (.xd [(("what" : Str), v)]) ∧ Q v H1
theorem pe_byRf {a : Addr} {oe : Obj} {cls : Value} {d : Option Addr} {pn : List (Addr × Obj)} {e : Expr} {te : TE} {pos : Pos} (T : PySem.RfX.RfTxt X.prog X.K X.mg C fI) (hz : Zc cls d oe) (hf : ∃ vs, oe.data = .fields vs) (he : PE (X.suite a ((a, oe) :: pn)) e te)
    (hb : attributeBase e "what" X.env (eval e X.env) = eval e X.env := by rfl) :
    PE (X.suite a ((a, oe) :: pn)) (.Attribute e "what" pos) (tByRf C a cls d te) := by
  refine ⟨fun pins s σ H Q I h => ?_⟩
  refine attr_of hb (thn (he.run pins s σ H _ I h) fun u s1 hh => ?_)
  obtain ⟨x, H1, I1, rx, ex, ec, dd, v, ed, ea, q⟩ := hh
  subst ex
  obtain rfl : u = Value.ref a := rx
  subst ec
  subst ed
  obtain ⟨ha, _⟩ := I1.pin (a, oe) (List.mem_append_left _ List.mem_cons_self)
  obtain ⟨vs, hd⟩ := hf
  have hx : ObjOk X.prog X.w H1 s1.heap dd (.xd [(("what" : Str), v)]) := I1.hok dd _ ea
  obtain ⟨mA, hns, hr⟩ := hx
  obtain ⟨od, ho, hl⟩ := lookIn_ns hns
  have l : List.lookup ("what" : Str) [(("what" : Str), v)] = some v := by simp [List.lookup]
  obtain ⟨u, hu, ru⟩ := RelO.some_of (v := v) (o := mA "what") (by rw [← l]; exact hr "what")
  have J : PySem.W.InstAt s1.heap a oe C (some od) := ⟨ha, hz.1, by unfold PySem.W.notCls; rw [hd] <;> rfl, by rw [hz.2]; exact ho⟩
  exact HandSPX.exc_get I1.kIn J T.ga T.gg T.exC (PySem.W.findObj_own T.hdC T.noN rfl (by rw [hl, hu])) (handed_of ru) ⟨v, H1, I1.tok _, ru, q⟩
end
theorem exm_selfR {K : PySem.W.Frag} {S : Addr} (h1 : PySem.W.subIn K (.ref S) (.type "BaseException") = some true) (h2 : PySem.W.isClsIn K S = true) (h3 : PySem.W.typeIn K (.ref S) = some (.type "type")) (h4 : PySem.W.subIn K (.ref S) (.ref S) = some true) :
    PySem.W.exmOne K (.ref S) (.ref S) = some true := by
  have e1 : (PySem.W.subIn K (.ref S) (.type "BaseException") == some true) = true := by rw [h1] <;> rfl
  have e2 : ((PySem.W.clsIn K S).isSome && PySem.W.typeIn K (.ref S) == some (.type "type")) = true := by
    have h2' : (PySem.W.clsIn K S).isSome = true := h2
    rw [h2', h3] <;> rfl
  show (if (PySem.W.subIn K (.ref S) (.type "BaseException") == some true) = true then (if ((PySem.W.clsIn K S).isSome && PySem.W.typeIn K (.ref S) == some (.type "type")) = true then PySem.W.subIn K (.ref S) (.ref S) else none) else none) = some true
  rw [if_pos e1, if_pos e2]
  exact h4
end L2

/-! Exc2: defs that may raise Refused, told on data -/
namespace Mir
open PySem PySem.Spec PyProof.Rows L2
abbrev xdW (v : V) : HO := .xd [(("what" : Str), v)]
/-- what a def that may raise gives -/
inductive Rz where
  | ok (d : PyData)
  | ex (d : PyData)
inductive RzA where
  | ok (ds : List PyData)
  | ex (d : PyData)
inductive OutX where
  | nx (e : En)
  | bk (e : En)
  | ct (e : En)
  | rt (d : PyData)
  | rs (e : En) (d : PyData)
  | bad
def OutOkX (K : PySem.W.Frag) (C : Addr) (W : WX) (S0 : Addr → Prop) (H0 : Hp) (A : Addr → Prop) (H : Hp) (o : OutX) (D : Ends) : Prop := match o with
  | .nx e => OutOk K S0 H0 A H (.nx e) D
  | .bk e => OutOk K S0 H0 A H (.bk e) D
  | .ct e => OutOk K S0 H0 A H (.ct e) D
  | .rt d => OutOk K S0 H0 A H (.rt d) D
  | .rs e d => ∀ A' H' σ' dx v, EnvOk K S0 H0 A' H' σ' e → Fr A H H' → Sb A H A' → H' dx = some (xdW v) → Rp K (Cl S0 H0 A') H' d v → W (.ref C) (some dx) σ' H'
  | .bad => False
def tSX (K : PySem.W.Frag) (C : Addr) (W : WX) (f : En → OutX) : TS := fun D σ H => ∃ S0 H0 A env, EnvOk K S0 H0 A H σ env ∧ OutOkX K C W S0 H0 A H (f env) D
def upO : Out → OutX
  | .nx e => .nx e
  | .bk e => .bk e
  | .ct e => .ct e
  | .rt d => .rt d
  | .bad => .bad
def up (s : En → Out) : En → OutX := fun env => upO (s env)
section
variable {K : PySem.W.Frag} {C : Addr} {W : WX} {S0 S : Addr → Prop} {H0 H H' H'' : Hp} {A A' A'' : Addr → Prop} {σ : L2.St} {env : En} {D : Ends}
theorem OutOkX.step {o : OutX} (h : OutOkX K C W S0 H0 A H o D) (f : Fr A H H') (s : Sb A H A') : OutOkX K C W S0 H0 A' H' o D := by
  cases o with
  | nx e => exact OutOk.step (o := .nx e) h f s
  | bk e => exact OutOk.step (o := .bk e) h f s
  | ct e => exact OutOk.step (o := .ct e) h f s
  | rt d => exact OutOk.step (o := .rt d) h f s
  | rs e d => exact fun A2 H2 σ2 dx v E f2 s2 hx r => h A2 H2 σ2 dx v E (f.trans s f2) (Sb.trans f s s2) hx r
  | bad => exact h
theorem up_ok {o : Out} (h : OutOkX K C W S0 H0 A H (upO o) D) : OutOk K S0 H0 A H o D := by cases o <;> exact h
end
section
variable {X : Cx} {C fI : Addr} {W : WX} {e a b : Expr} {es : List Expr} {st : Stmt} {sts : List Stmt} {pos pos' : Pos} {c c1 c2 : Bool} {f : En → Option PyData} {fa : En → Option (List PyData)} {fx : En → Option Rz} {s t : En → OutX} {ga : En → Option Bool}
/-! ### statements -/
theorem sx_up {s : En → Out} (h : PS X st (tS X.K s)) : PS X st (tSX X.K C W (up s)) := ps_w h fun D σ H ⟨S0, H0, A, env, E, o⟩ => ⟨S0, H0, A, env, E, up_ok o⟩
def xNil : En → OutX := fun env => .nx env
def xSeq (s t : En → OutX) : En → OutX := fun env => match s env with
  | .nx e => t e
  | .bk e => .bk e
  | .ct e => .ct e
  | .rt d => .rt d
  | .rs e d => .rs e d
  | .bad => .bad
theorem sx_nil : PSs X [] (tSX X.K C W xNil) := pss_w pss_nil fun D σ H ⟨S0, H0, A, env, E, o⟩ => o A H σ E Fr.refl Sb.refl
theorem sx_one (h1 : PS X st (tSX X.K C W s)) : PSs X [st] (tSX X.K C W s) := pss_one h1
theorem sx_cons (h1 : PS X st (tSX X.K C W s)) (h2 : PSs X sts (tSX X.K C W t)) : PSs X (st :: sts) (tSX X.K C W (xSeq s t)) := pss_w (pss_cons h1 h2) fun D σ H ⟨S0, H0, A, env, E, o⟩ => by
  refine ⟨S0, H0, A, env, E, ?_⟩
  unfold xSeq at o
  cases hs : s env with
  | nx e =>
    rw [hs] at o
    exact fun A' H' σ' E' f' b' => ⟨S0, H0, A', e, E', OutOkX.step o f' b'⟩
  | bk e => rw [hs] at o; exact o
  | ct e => rw [hs] at o; exact o
  | rt d => rw [hs] at o; exact o
  | rs e d => rw [hs] at o; exact o
  | bad => rw [hs] at o; exact o
theorem sx_frz {i : Nat} (h : PS X st (tSX X.K C W s)) : PS X st (tSX X.K C W fun env => s (frz i env)) := ps_w h fun D σ H ⟨S0, H0, A, env, E, o⟩ => by
  obtain ⟨A', E', w⟩ := E.frz i
  exact ⟨S0, H0, A', _, E', OutOkX.step o Fr.refl fun a z => .inl (w a z)⟩
def xIf (ga : En → Option Bool) (s t : En → OutX) : En → OutX := fun env => match ga env with
  | some true => s env
  | some false => t env
  | none => .bad
theorem sx_if {a b : List Stmt} (hc : PT X e (tT X.K ga)) (ha : PSs X a (tSX X.K C W s)) (hb : PSs X b (tSX X.K C W t)) : PS X (.If e a b pos) (tSX X.K C W (xIf ga s t)) := ps_w (ps_if hc ha hb) fun D σ H ⟨S0, H0, A, env, E, o⟩ => by
  unfold xIf at o
  cases hd : ga env with
  | none => rw [hd] at o; exact o.elim
  | some k =>
    rw [hd] at o
    refine ⟨S0, H0, A, env, k, E, hd, fun H' sm => ?_⟩
    cases k with
    | true => exact iteT <| ⟨S0, H0, A, env, E.grow sm, OutOkX.step o (Fr.of_same sm) Sb.refl⟩
    | false => exact iteF <| ⟨S0, H0, A, env, E.grow sm, OutOkX.step o (Fr.of_same sm) Sb.refl⟩
def loopX (g : PyData → En → Option En) (b : En → OutX) : List PyData → En → OutX
  | [], e => .nx e
  | d :: ds, e => match g d e with
    | none => .bad
    | some e1 => match b e1 with
      | .nx e2 => loopX g b ds e2
      | .ct e2 => loopX g b ds e2
      | .bk e2 => .nx e2
      | .rt v => .rt v
      | .rs e2 v => .rs e2 v
      | .bad => .bad
def xFor (f : En → Option (List PyData)) (g : PyData → En → Option En) (b : En → OutX) : En → OutX := fun env => match f env with
  | some ds => loopX g b ds env
  | none => .bad
theorem forX_run {K : PySem.W.Frag} {σ : L2.St} {H : Hp} {f : En → Option (List PyData)} {g : PyData → En → Option En} {b : En → OutX} {vs : List Nat} {D : Ends} (h : tSX K C W (xFor f g b) D σ H) : tFor (tI K true f) (tG K vs g) (tSX K C W b) D σ H := by
  obtain ⟨S0, H0, A, env, E, o⟩ := h
  unfold xFor at o
  cases hd : f env with
  | none => rw [hd] at o; exact o.elim
  | some ds =>
    rw [hd] at o
    refine ⟨S0, H0, A, env, ds, E, hd, fun J H1 G s _ gF wk => ?_⟩
    refine ⟨fun i m σ' H' => m = ds.length - i ∧ i ≤ ds.length ∧ ∃ A' env', EnvOk K S0 H0 A' H' σ' env' ∧ Fr A H1 H' ∧ Sb A H1 A' ∧ OutOkX K C W S0 H0 A' H' (loopX g b (ds.drop i) env') D,
      ⟨_, rfl, Nat.zero_le _, A, env, E.grow s, Fr.refl, Sb.refl, OutOkX.step o (Fr.of_same s) Sb.refl⟩, ?_⟩
    rintro i m σ' H' ⟨rfl, hi, A', env', E', f', b', o'⟩
    by_cases hlt : i < ds.length
    · have hdr : ds.drop i = ds[i] :: ds.drop (i + 1) := List.drop_eq_getElem_cons hlt
      rw [hdr] at o'
      refine .inr ⟨wk.go i H' (gF rfl H' f') hlt, fun σ2 H2 => ∃ A2 e2, EnvOk K S0 H0 A2 H2 σ2 e2 ∧ Fr A H1 H2 ∧ Sb A H1 A2 ∧ OutOkX K C W S0 H0 A2 H2 (loopX g b (ds.drop (i + 1)) e2) D, ?_, fun x Hx y => ?_⟩
      · rintro σ2 H2 ⟨A2, e2, z⟩
        exact ⟨ds.length - (i + 1), by omega, rfl, hlt, A2, e2, z⟩
      · obtain ⟨sx, rx⟩ := wk.yld i H' _ x Hx (gF rfl H' f') (List.getElem?_eq_getElem hlt) y
        have rx' : Rp K (Cl S0 H0 A') Hx ds[i] x := rx.wide fun a z => ⟨z.1.1, fun y => by
          rcases b' a y with k | k
          · exact z.1.2 k
          · exact z.2 k⟩
        simp only [loopX] at o'
        cases hg : g ds[i] env' with
        | none => rw [hg] at o'; exact o'.elim
        | some e1 =>
          rw [hg] at o'
          refine ⟨S0, H0, A', env', _, e1, E'.grow sx, rx', hg, fun σ1 E1 _ => ⟨S0, H0, A', e1, E1, ?_⟩⟩
          have fs : Fr A' H' Hx := Fr.of_same sx
          cases hb : b e1 with
          | nx e2 =>
            simp only [hb] at o'
            exact fun A2 H2 σ2 E2 f2 b2 => ⟨A2, e2, E2, f'.trans b' (fs.trans Sb.refl f2), Sb.trans f' b' (Sb.trans fs Sb.refl b2), OutOkX.step o' (fs.trans Sb.refl f2) (Sb.trans fs Sb.refl b2)⟩
          | ct e2 =>
            simp only [hb] at o'
            exact fun A2 H2 σ2 E2 f2 b2 => ⟨A2, e2, E2, f'.trans b' (fs.trans Sb.refl f2), Sb.trans f' b' (Sb.trans fs Sb.refl b2), OutOkX.step o' (fs.trans Sb.refl f2) (Sb.trans fs Sb.refl b2)⟩
          | bk e2 =>
            simp only [hb] at o'
            exact fun A2 H2 σ2 E2 f2 b2 => o' A2 H2 σ2 E2 (fs.trans Sb.refl f2) (Sb.trans fs Sb.refl b2)
          | rt v => simp only [hb] at o'; exact o'
          | rs e2 v =>
            simp only [hb] at o'
            exact fun A2 H2 σ2 dx u E2 f2 b2 hx r => o' A2 H2 σ2 dx u E2 (fs.trans Sb.refl f2) (Sb.trans fs Sb.refl b2) hx r
          | bad => simp only [hb] at o'; exact o'
    · have hdr : ds.drop i = [] := List.drop_eq_nil_of_le (by omega)
      rw [hdr] at o'
      exact .inl ⟨wk.stop i H' (gF rfl H' f') (by omega), o' A' H' σ' E' Fr.refl Sb.refl⟩
theorem sx_for {tg iter : Expr} {f : En → Option (List PyData)} {g : PyData → En → Option En} {b : En → OutX} {vs : List Nat} {body : List Stmt} (hp : PassesOwn (model X.prog X.w) X.A X.env X.xe) (hc : X.calm = true) (hi : PI X tg iter (tI X.K true f)) (hg : PG X tg (tG X.K vs g)) (hb : PSs X body (tSX X.K C W b)) (hs : ∀ x, foldedSetIterable iter X.env x = pure x := by intro _; rfl) :
    PS X (.For tg iter body [] pos) (tSX X.K C W (xFor f g b)) := ps_w (ps_for hp hc hi hg hb hs) fun _ _ _ q => forX_run q
/-- raise Refused(e) -/
def xRaise (f : En → Option PyData) : En → OutX := fun env => match f env with
  | some d => .rs env d
  | none => .bad
theorem sx_raise (h : PS X st (tRaiseRf C W (tCons (tE X.K true f) tNil))) : PS X st (tSX X.K C W (xRaise f)) := ps_w h fun D σ H ⟨S0, H0, A, env, E, o⟩ => by
  unfold xRaise at o
  cases hd : f env with
  | none => rw [hd] at o; exact o.elim
  | some d =>
    rw [hd] at o
    refine ⟨S0, H0, A, env, d, E, hd, fun v H1 s1 r1 => ⟨v, rfl, fun dx hdx => ?_⟩⟩
    exact o A _ σ dx v (E.grow (s1.trans (same_new hdx))) (Fr.of_same (s1.trans (same_new hdx))) Sb.refl upd_same ((r1.wide fun _ z => cl_sc z).grow (same_new hdx))
/-! ### expressions that may raise -/
def tX (K : PySem.W.Frag) (C : Addr) (W : WX) (c : Bool) (f : En → Option Rz) : TE := fun σ H Q => ∃ S0 H0 A env r, EnvOk K S0 H0 A H σ env ∧ f env = some r ∧ match r with
  | .ok d => ∀ v H', Same H H' → Rp K (SC c S0 H0 A) H' d v → Q v H'
  | .ex d => ∀ dx v H', Same H H' → H' dx = some (xdW v) → Rp K (SC true S0 H0 A) H' d v → W (.ref C) (some dx) σ H'
def tAX (K : PySem.W.Frag) (C : Addr) (W : WX) (c : Bool) (f : En → Option RzA) : TA := fun σ H Q => ∃ S0 H0 A env r, EnvOk K S0 H0 A H σ env ∧ f env = some r ∧ match r with
  | .ok ds => ∀ vs H', Same H H' → RpA K (SC c S0 H0 A) H' ds vs → Q vs H'
  | .ex d => ∀ dx v H', Same H H' → H' dx = some (xdW v) → Rp K (SC true S0 H0 A) H' d v → W (.ref C) (some dx) σ H'
def spX (K : PySem.W.Frag) (C : Addr) (g : List PyData → Option Rz) : Sp := fun vs H Q E => ∃ S ds r, RpA K S H ds vs ∧ g ds = some r ∧ match r with
  | .ok d => ∀ v H', Same H H' → Rp K (Bd S H) H' d v → Q v H'
  | .ex d => ∀ dx v H', Same H H' → H' dx = some (xdW v) → Rp K (Bd S H) H' d v → E (.ref C) (some dx) H'
def xOk (f : En → Option PyData) : En → Option Rz := fun env => (f env).map .ok
theorem xe_ok (h : PE X e (tE X.K c f)) : PE X e (tX X.K C W c (xOk f)) := pe_w h fun σ H Q ⟨S0, H0, A, env, r, E, hf, q⟩ => by
  unfold xOk at hf
  cases hd : f env with
  | none => rw [hd] at hf; cases hf
  | some d => rw [hd] at hf; cases hf; exact ⟨S0, H0, A, env, d, E, hd, q⟩
def xaOk (fa : En → Option (List PyData)) : En → Option RzA := fun env => (fa env).map .ok
theorem xa_ok (h : PA X es (tA X.K c fa)) : PA X es (tAX X.K C W c (xaOk fa)) := pa_w h fun σ H Q ⟨S0, H0, A, env, r, E, hf, q⟩ => by
  unfold xaOk at hf
  cases hd : fa env with
  | none => rw [hd] at hf; cases hf
  | some d => rw [hd] at hf; cases hf; exact ⟨S0, H0, A, env, d, E, hd, q⟩
/-- the first argument may raise, the others not -/
def xaCons (fx : En → Option Rz) (fa : En → Option (List PyData)) : En → Option RzA := fun env => match fx env with
  | some (.ok d) => match fa env with
    | some ds => some (.ok (d :: ds))
    | none => none
  | some (.ex d) => some (.ex d)
  | none => none
theorem xa_cons (ha : PE X e (tX X.K C W c fx)) (hr : PA X es (tA X.K c fa)) (hs : starEach (e :: es) X.env = (false, eval e X.env) :: starEach es X.env := by rfl) : PA X (e :: es) (tAX X.K C W c (xaCons fx fa)) := pa_w (pa_cons ha hr hs) fun σ H Q ⟨S0, H0, A, env, r, E, hf, q⟩ => by
  unfold xaCons at hf
  split at hf
  · rename_i d hd
    split at hf
    · rename_i ds hds
      cases hf
      exact ⟨S0, H0, A, env, .ok d, E, hd, fun v H1 s1 r1 => ⟨S0, H0, A, env, ds, E.grow s1, hds, fun vs H2 s2 r2 => q _ H2 (s1.trans s2) (RpA.cons (r1.grow s2) r2)⟩⟩
    · cases hf
  · rename_i d hd
    cases hf
    exact ⟨S0, H0, A, env, .ex d, E, hd, q⟩
  · cases hf
/-- a call of a def that may raise -/
def xCall (g : List PyData → Option Rz) (fa : En → Option RzA) : En → Option Rz := fun env => match fa env with
  | some (.ok ds) => g ds
  | some (.ex d) => some (.ex d)
  | none => none
theorem xe_call {gd : List PyData → Option Rz} {fa : En → Option RzA} (h : PE X e (tCallS (spX X.K C gd) (WE W) (tAX X.K C W true fa))) : PE X e (tX X.K C W c (xCall gd fa)) := pe_w h fun σ H Q ⟨S0, H0, A, env, r, En, hf, q⟩ => by
  unfold xCall at hf
  split at hf
  · rename_i ds hd
    refine ⟨S0, H0, A, env, .ok ds, En, hd, fun vs H1 s1 r1 => ⟨Cl S0 H0 A, ds, r, r1.wide fun _ z => cl_sc z, hf, ?_⟩⟩
    cases r with
    | ok d => exact fun v H2 s2 r2 => q v H2 (s1.trans s2) (r2.wide fun _ z => bd_sc (En.grow s1) z)
    | ex d => exact fun dx v H2 s2 hx r2 => q dx v H2 (s1.trans s2) hx (r2.wide fun _ z => bd_sc (En.grow s1) z)
  · rename_i d hd
    cases hf
    exact ⟨S0, H0, A, env, .ex d, En, hd, q⟩
  · cases hf
/-- a call of a def that raises nothing, of arguments the first of which may -/
def xCall0 (g : List PyData → Option PyData) (fa : En → Option RzA) : En → Option Rz := fun env => match fa env with
  | some (.ok ds) => (g ds).map .ok
  | some (.ex d) => some (.ex d)
  | none => none
theorem xe_call0 {gd : List PyData → Option PyData} {fa : En → Option RzA} {E0 : XK} (h : PE X e (tCall (spF X.K gd) [] E0 (tAX X.K C W true fa))) : PE X e (tX X.K C W c (xCall0 gd fa)) := pe_w h fun σ H Q ⟨S0, H0, A, env, r, En, hf, q⟩ => by
  unfold xCall0 at hf
  split at hf
  · rename_i ds hd
    refine ⟨S0, H0, A, env, .ok ds, En, hd, fun vs H1 s1 r1 => ?_⟩
    cases hg : gd ds with
    | none => rw [hg] at hf; cases hf
    | some d =>
      rw [hg] at hf
      cases hf
      show spF X.K gd (vs ++ []) H1 Q E0
      rw [List.append_nil]
      exact ⟨Cl S0 H0 A, ds, d, r1.wide fun _ z => cl_sc z, hg, fun v H2 s2 r2 => q v H2 (s1.trans s2) (r2.wide fun _ z => bd_sc (En.grow s1) z)⟩
  · rename_i d hd
    cases hf
    exact ⟨S0, H0, A, env, .ex d, En, hd, q⟩
  · cases hf
/-- a built-in of such arguments -/
theorem xe_cb {sc : Bool} {r : List V → Hp → VK → Prop} {h : List PyData → Option PyData} {fa : En → Option RzA} (R : CROk X.K sc r h) (he : PE X e (tCB r (tAX X.K C W c1 fa))) (hc : sc = true ∨ c2 = c1 := by first | exact .inl rfl | exact .inr rfl) : PE X e (tX X.K C W c2 (xCall0 h fa)) := pe_w he fun σ H Q ⟨S0, H0, A, env, z, E, hf, q⟩ => by
  unfold xCall0 at hf
  split at hf
  · rename_i ds hd
    refine ⟨S0, H0, A, env, .ok ds, E, hd, fun vs H1 s1 r1 => ?_⟩
    cases hg : h ds with
    | none => rw [hg] at hf; cases hf
    | some d =>
      rw [hg] at hf
      cases hf
      exact R (SC c1 S0 H0 A) (SC c2 S0 H0 A) H1 vs ds d Q (fun p hp => sc_new (E.grow s1) hp) (hc.imp id fun z => by rw [z]) r1 hg fun v H2 s2 r2 => q v H2 (s1.trans s2) r2
  · rename_i d hd
    cases hf
    exact ⟨S0, H0, A, env, .ex d, E, hd, q⟩
  · cases hf
/-- x op y, y may raise -/
def x2 (h : PyData → PyData → Option PyData) (f : En → Option PyData) (g : En → Option Rz) : En → Option Rz := fun env => match f env with
  | some x => match g env with
    | some (.ok y) => (h x y).map .ok
    | some (.ex d) => some (.ex d)
    | none => none
  | none => none
theorem xe_op {op : Operator} {r : R2} {h : PyData → PyData → Option PyData} {sc : Bool} {g : En → Option Rz} (ho : OpR X (binaryOp op) r) (R : R2Ok X.K sc r h) (ha : PE X a (tE X.K c1 f)) (hb : PE X b (tX X.K C W c1 g)) (hc : sc = true ∨ c2 = c1 := by first | exact .inl rfl | exact .inr rfl) :
    PE X (.BinOp a op b pos) (tX X.K C W c2 (x2 h f g)) := pe_w (pe_op ho ha hb) fun σ H Q ⟨S0, H0, A, env, z, E, hf, q⟩ => by
  unfold x2 at hf
  split at hf
  · rename_i x hx
    refine ⟨S0, H0, A, env, x, E, hx, fun v H1 s1 r1 => ?_⟩
    split at hf
    · rename_i y hy
      refine ⟨S0, H0, A, env, .ok y, E.grow s1, hy, fun u H2 s2 r2 => ?_⟩
      cases hg : h x y with
      | none => rw [hg] at hf; cases hf
      | some d =>
        rw [hg] at hf
        cases hf
        exact R (SC c1 S0 H0 A) (SC c2 S0 H0 A) H2 v u x y d Q (fun p hp => sc_new (E.grow (s1.trans s2)) hp) (hc.imp id fun z => by rw [z]) (r1.grow s2) r2 hg fun z H3 s3 r3 => q z H3 ((s1.trans s2).trans s3) r3
    · rename_i d hd
      cases hf
      exact ⟨S0, H0, A, env, .ex d, E.grow s1, hd, fun dx v H2 s2 hx r2 => q dx v H2 (s1.trans s2) hx r2⟩
    · cases hf
  · cases hf
/-- [e], e may raise -/
def xLst (fa : En → Option RzA) : En → Option Rz := fun env => match fa env with
  | some (.ok ds) => if ds.length ≤ 1000000 then some (.ok (.list ds)) else none
  | some (.ex d) => some (.ex d)
  | none => none
theorem xe_lst {fa : En → Option RzA} (h : PA X es (tAX X.K C W c fa)) : PE X (.List es pos) (tX X.K C W c (xLst fa)) := pe_w (pe_lst h) fun σ H Q ⟨S0, H0, A, env, r, E, hf, q⟩ => by
  unfold xLst at hf
  split at hf
  · rename_i ds hd
    split at hf
    · rename_i hl
      cases hf
      refine ⟨S0, H0, A, env, .ok ds, E, hd, fun vs H1 s1 r1 => ⟨by rw [r1.length]; exact sz6 hl, fun p hp => q _ _ (s1.trans (same_new hp)) ?_⟩⟩
      rw [Rp]
      exact ⟨p, vs, rfl, .inl ⟨sc_new (E.grow s1) hp, .inl upd_same⟩, r1.grow (same_new hp)⟩
    · cases hf
  · rename_i d hd
    cases hf
    exact ⟨S0, H0, A, env, .ex d, E, hd, q⟩
  · cases hf
/-- list(e), e may raise -/
def xList (g : En → Option Rz) : En → Option Rz := fun env => match g env with
  | some (.ok (.list ds)) => some (.ok (.list ds))
  | some (.ok (.tuple ds)) => some (.ok (.list ds))
  | some (.ex d) => some (.ex d)
  | _ => none
theorem xe_list {g : En → Option Rz} (h : PE X e (tCB (fun xs H Q => ∃ p ys, xs = [.ref p] ∧ (SqL X.K H p ys ∨ SqT X.K H p ys) ∧ ∀ l, H l = none → Q (.ref l) (upd H l (.lst ys))) (tCons (tX X.K C W true g) tNil))) : PE X e (tX X.K C W c (xList g)) := pe_w h fun σ H Q ⟨S0, H0, A, env, r, E, hf, q⟩ => by
  unfold xList at hf
  split at hf
  · rename_i ds hd
    cases hf
    refine ⟨S0, H0, A, env, _, E, hd, fun v H1 s1 r1 => ?_⟩
    rw [Rp] at r1
    obtain ⟨p, xs, rfl, hs, ra⟩ := r1
    refine ⟨p, xs, rfl, .inl hs.sq, fun l hl => q _ _ (s1.trans (same_new hl)) ?_⟩
    rw [Rp]
    exact ⟨l, xs, rfl, .inl ⟨sc_new (E.grow s1) hl, .inl upd_same⟩, (ra.wide fun _ z => sc_cl (cl_sc z)).grow (same_new hl)⟩
  · rename_i ds hd
    cases hf
    refine ⟨S0, H0, A, env, _, E, hd, fun v H1 s1 r1 => ?_⟩
    rw [Rp] at r1
    obtain ⟨p, xs, rfl, hs, ra⟩ := r1
    refine ⟨p, xs, rfl, .inr (live_t hs), fun l hl => q _ _ (s1.trans (same_new hl)) ?_⟩
    rw [Rp]
    exact ⟨l, xs, rfl, .inl ⟨sc_new (E.grow s1) hl, .inl upd_same⟩, (ra.wide fun _ z => sc_cl (cl_sc z)).grow (same_new hl)⟩
  · rename_i d hd
    cases hf
    exact ⟨S0, H0, A, env, .ex d, E, hd, q⟩
  · cases hf
/-! ### statements of such expressions -/
theorem rs_of {K : PySem.W.Frag} {S0 : Addr → Prop} {H0 H H' : Hp} {A : Addr → Prop} {σ : L2.St} {env : En} {D : Ends} {d : PyData} (E : EnvOk K S0 H0 A H σ env) (o : OutOkX K C W S0 H0 A H (.rs env d) D) {dx : Addr} {v : V} (s : Same H H') (hx : H' dx = some (xdW v)) (r : Rp K (SC true S0 H0 A) H' d v) : W (.ref C) (some dx) σ H' :=
  o A H' σ dx v (E.grow s) (Fr.of_same s) Sb.refl hx (r.wide fun _ z => cl_sc z)
def xSet (i : Nat) (fx : En → Option Rz) : En → OutX := fun env => match fx env with
  | some (.ok d) => .nx (env.set i (.val d))
  | some (.ex d) => .rs env d
  | none => .bad
theorem sx_set {i : Nat} (h : PS X st (tAsg (tX X.K C W true fx) (gName i))) : PS X st (tSX X.K C W (xSet i fx)) := ps_w h fun D σ H ⟨S0, H0, A, env, E, o⟩ => by
  unfold xSet at o
  split at o
  · rename_i d hd
    exact ⟨S0, H0, A, env, _, E, hd, fun v H' s r => o A H' _ ((E.grow s).set_val (r.wide fun _ z => cl_sc z)) (Fr.of_same s) Sb.refl⟩
  · rename_i d hd
    exact ⟨S0, H0, A, env, _, E, hd, fun dx v H' s hx r => rs_of E o s hx r⟩
  · exact o.elim
def xUnp (fx : En → Option Rz) (g : PyData → En → Option En) : En → OutX := fun env => match fx env with
  | some (.ok d) => match g d env with
    | some e => .nx e
    | none => .bad
  | some (.ex d) => .rs env d
  | none => .bad
theorem sx_unp {g : PyData → En → Option En} {vs : List Nat} (h : PS X st (tAsg (tX X.K C W true fx) (tG X.K vs g))) : PS X st (tSX X.K C W (xUnp fx g)) := ps_w h fun D σ H ⟨S0, H0, A, env, E, o⟩ => by
  unfold xUnp at o
  split at o
  · rename_i d hd
    split at o
    · rename_i e hg
      exact ⟨S0, H0, A, env, _, E, hd, fun v H1 s r => ⟨S0, H0, A, env, d, e, E.grow s, r.wide fun _ z => cl_sc z, hg, fun σ' E' _ => o A H1 σ' E' (Fr.of_same s) Sb.refl⟩⟩
    · exact o.elim
  · rename_i d hd
    exact ⟨S0, H0, A, env, _, E, hd, fun dx v H' s hx r => rs_of E o s hx r⟩
  · exact o.elim
def xRet (fx : En → Option Rz) : En → OutX := fun env => match fx env with
  | some (.ok d) => .rt d
  | some (.ex d) => .rs env d
  | none => .bad
theorem sx_ret (h : PE X e (tX X.K C W true fx)) : PS X (.Return (some e) pos) (tSX X.K C W (xRet fx)) := ps_w (ps_ret h) fun D σ H ⟨S0, H0, A, env, E, o⟩ => by
  unfold xRet at o
  split at o
  · rename_i d hd
    exact ⟨S0, H0, A, env, _, E, hd, fun v H' sm r => o v H' (E.same.trans sm) (r.wide fun _ z => (cl_sc z).1)⟩
  · rename_i d hd
    exact ⟨S0, H0, A, env, _, E, hd, fun dx v H' s hx r => rs_of E o s hx r⟩
  · exact o.elim
/-! ### try .. except Refused as e -/
def wipeO (i : Nat) : Out → Out
  | .nx e => .nx (e.set i .un)
  | .bk e => .bk (e.set i .un)
  | .ct e => .ct (e.set i .un)
  | .rt d => .rt d
  | .bad => .bad
open Classical in
noncomputable def sTry (i : Nat) (body : En → OutX) (suite : Addr → Addr → En → Out) : En → Out := fun env => match body env with
  | .nx e => .nx e
  | .bk e => .bk e
  | .ct e => .ct e
  | .rt d => .rt d
  | .bad => .bad
  | .rs e d => if h : ∃ o, ∀ a dd, wipeO i (suite a dd (e.set i (.exc a dd d))) = o then Classical.choose h else .bad
theorem EnvOk.set_exc {K : PySem.W.Frag} {S0 : Addr → Prop} {H0 H : Hp} {A : Addr → Prop} {σ : L2.St} {env : En} (E : EnvOk K S0 H0 A H σ env) {i : Nat} {a dd : Addr} {d : PyData} {u : V} (h1 : H dd = some (xdW u)) (h2 : Rp K (Cl S0 H0 A) H d u) : EnvOk K S0 H0 A H (σ.set i (some (.ref a))) (env.set i (.exc a dd d)) where
  len := by simp [E.len]
  sl := fun j s q => by
    rcases set_get q with ⟨rfl, l, rfl⟩ | ⟨n, q⟩
    · exact .inr ⟨_, set_self (by rw [E.len]; exact l), rfl, u, h1, h2⟩
    · rw [set_other n]
      exact E.sl j s q
  dis := fun j k s t b q1 q2 o1 o2 q3 q4 => by
    rcases set_get q1 with ⟨_, _, z⟩ | ⟨n1, q1⟩
    · subst z; cases o1
    rcases set_get q2 with ⟨_, _, z⟩ | ⟨n2, q2⟩
    · subst z; cases o2
    rw [set_other n1] at q3
    rw [set_other n2] at q4
    exact E.dis j k s t b q1 q2 o1 o2 q3 q4
  tr := E.tr
  nw := E.nw
  same := E.same
theorem pss_ex {ι : Type} {P : ι → Prop} {t : ι → TS} (h : ∀ i, P i → PSs X sts (t i)) : PSs X sts (fun D σ H => ∃ i, P i ∧ t i D σ H) := ⟨fun pins s σ H D I ⟨i, p, q⟩ => (h i p).run pins s σ H D I q⟩
/-- what the suite's text does to data, the exception at a, its dict at dd -/
def tsE (K : PySem.W.Frag) (C : Addr) (suite : Addr → Addr → En → Out) : Addr → Value → Option Addr → TS := fun a cls dx D σ H => ∃ dd, (cls = .ref C ∧ dx = some dd) ∧ tS K (suite a dd) D σ H
open Classical in
theorem cs_tryAs {i : Nat} {body : En → OutX} {suite : Addr → Addr → En → Out} {Wout : WX} (T : PySem.RfX.RfTxt X.prog X.K X.mg C fI) (h : PS X st (fun D σ H => tSX X.K C (wAs X.K (.ref C) i (tsE X.K C suite) Wout D) body D σ H)) : PS X st (tS X.K (sTry i body suite)) := ps_w h fun D σ H ⟨S0, H0, A, env, E, o⟩ => by
  refine ⟨S0, H0, A, env, E, ?_⟩
  unfold sTry at o
  cases hb : body env with
  | nx e => rw [hb] at o; exact o
  | bk e => rw [hb] at o; exact o
  | ct e => rw [hb] at o; exact o
  | rt d => rw [hb] at o; exact o
  | bad => rw [hb] at o; exact o
  | rs e d =>
    rw [hb] at o
    intro A' H' σ' dx v E' f' b' hx r
    refine ⟨true, T.te, fun _ a ha => ?_, fun q => nomatch q⟩
    replace o : OutOk X.K S0 H0 A H (if h : ∃ o, ∀ a dd, wipeO i (suite a dd (e.set i (.exc a dd d))) = o then Classical.choose h else .bad) D := o
    split at o
    · rename_i hex
      have hch := Classical.choose_spec hex a dx
      refine ⟨dx, ⟨rfl, rfl⟩, S0, H0, A', _, E'.set_exc (a := a) (dd := dx) hx r, ?_⟩
      have o' := OutOk.step o f' b'
      rw [← hch] at o'
      cases hs : suite a dx (e.set i (.exc a dx d)) with
      | nx e2 =>
        rw [hs] at o'
        exact fun A2 H2 σ2 E2 f2 b2 => o' A2 H2 _ (E2.un i none) f2 b2
      | bk e2 =>
        rw [hs] at o'
        exact fun A2 H2 σ2 E2 f2 b2 => o' A2 H2 _ (E2.un i none) f2 b2
      | ct e2 =>
        rw [hs] at o'
        exact fun A2 H2 σ2 E2 f2 b2 => o' A2 H2 _ (E2.un i none) f2 b2
      | rt v2 => rw [hs] at o'; exact o'
      | bad => rw [hs] at o'; exact o'.elim
    · exact o.elim
/-- try .. except Refused, without a name -/
def sTry0 (body : En → OutX) (suite : En → Out) : En → Out := fun env => match body env with
  | .nx e => .nx e
  | .bk e => .bk e
  | .ct e => .ct e
  | .rt d => .rt d
  | .bad => .bad
  | .rs e _ => suite e
theorem cs_try0 {body : En → OutX} {suite : En → Out} {Wout : WX} (T : PySem.RfX.RfTxt X.prog X.K X.mg C fI) (h : PS X st (fun D σ H => tSX X.K C (wOnly X.K (.ref C) (fun _ _ _ => tS X.K suite) Wout D) body D σ H)) : PS X st (tS X.K (sTry0 body suite)) := ps_w h fun D σ H ⟨S0, H0, A, env, E, o⟩ => by
  refine ⟨S0, H0, A, env, E, ?_⟩
  unfold sTry0 at o
  cases hb : body env with
  | nx e => rw [hb] at o; exact o
  | bk e => rw [hb] at o; exact o
  | ct e => rw [hb] at o; exact o
  | rt d => rw [hb] at o; exact o
  | bad => rw [hb] at o; exact o
  | rs e d =>
    rw [hb] at o
    intro A' H' σ' dx v E' f' b' hx r
    exact ⟨true, T.te, fun _ a ha => ⟨S0, H0, A', e, E', OutOk.step o f' b'⟩, fun q => nomatch q⟩
open Classical in
theorem sTry_ev {i : Nat} {body : En → OutX} {suite : Addr → Addr → En → Out} {env e : En} {d : PyData} {o : Out} (h1 : body env = .rs e d) (h2 : ∀ a dd, wipeO i (suite a dd (e.set i (.exc a dd d))) = o) : sTry i body suite env = o := by
  unfold sTry
  rw [h1]
  have hex : ∃ o, ∀ a dd, wipeO i (suite a dd (e.set i (.exc a dd d))) = o := ⟨o, h2⟩
  show (if h : _ then Classical.choose h else .bad) = o
  rw [dif_pos hex]
  rw [← Classical.choose_spec hex 0 0, h2]
/-- e.what -/
def eWhat (i : Nat) (a dd : Addr) : En → Option PyData := fun env => match env[i]? with
  | some (.exc a' dd' d) => if a' = a ∧ dd' = dd then some d else none
  | _ => none
theorem ce_what {i : Nat} {a dd : Addr} {oe : Obj} {cls : Value} {dx : Option Addr} {pn : List (Addr × Obj)} (T : PySem.RfX.RfTxt X.prog X.K X.mg C fI) (hz : Zc cls dx oe) (hf : ∃ vs, oe.data = .fields vs) (h1 : cls = .ref C) (h2 : dx = some dd) (he : PE (X.suite a ((a, oe) :: pn)) e (tVar i))
    (hb : attributeBase e "what" X.env (eval e X.env) = eval e X.env := by rfl) : PE (X.suite a ((a, oe) :: pn)) (.Attribute e "what" pos) (tE X.K true (eWhat i a dd)) := pe_w (pe_byRf T hz hf he hb) fun σ H Q ⟨S0, H0, A, env, d, E, hd, q⟩ => by
  unfold eWhat at hd
  split at hd
  · rename_i a' dd' d' hi
    split at hd
    · rename_i hh
      cases hd
      obtain ⟨rfl, rfl⟩ := hh
      rcases E.sl i _ hi with z | ⟨v, k1, rfl, u, k2, k3⟩
      · cases z
      exact ⟨_, k1, rfl, h1, dd', u, h2, k2, q u H (Same.refl H) (k3.wide fun _ z => sc_cl z)⟩
    · cases hd
  · cases hd
end
/-! ### a def -/
def outDX : OutX → Option Rz
  | .rt d => some (.ok d)
  | .nx _ => some (.ok .none)
  | .rs _ d => some (.ex d)
  | _ => none
def gDefX (np nN : Nat) (fB : En → OutX) : List PyData → Option Rz := fun ds => if ds.length = np then outDX (fB (env0 nN ds)) else none
section
variable {K : PySem.W.Frag} {P : Program} {w : World} {mg : Str → Option Value} {base : Heap} {C : Addr}
theorem start_ok {N : List Str} {ds : List PyData} {vs : List V} {S : Addr → Prop} {H : Hp} (r : RpA K S H ds vs) : EnvOk K S H (fun _ => False) H (L2.start N vs) (env0 N.length ds) := by
  have h : spF K (gDef ds.length N.length fun _ => .rt .none) vs H (fun _ _ => True) (fun _ _ _ => True) := ⟨S, ds, .none, r, by unfold gDef; rw [if_pos rfl]; rfl, fun _ _ _ _ => trivial⟩
  refine ⟨?_, fun i s e => ?_, fun i j es fs a e1 _ o1 => ?_, fun _ z => z.elim, fun _ z => z.elim, Same.refl H⟩
  · simp [L2.start, env0, r.length]
  · unfold env0 at e
    by_cases hi : i < ds.length
    · rw [List.getElem?_append_left (by simpa using hi), List.getElem?_map, List.getElem?_eq_getElem hi] at e
      cases e
      obtain ⟨v, e1, e2⟩ := r.get (List.getElem?_eq_getElem hi)
      refine .inr ⟨v, ?_, e2.wide fun a z => ⟨.inl z, fun y => y⟩⟩
      unfold L2.start
      rw [List.getElem?_append_left (by simpa [r.length] using hi), List.getElem?_map, e1]
      rfl
    · rw [List.getElem?_append_right (by simpa using Nat.le_of_not_lt hi)] at e
      exact .inl (List.eq_of_mem_replicate (List.mem_of_getElem? e))
  · exfalso
    unfold env0 at e1
    by_cases hi : i < ds.length
    · rw [List.getElem?_append_left (by simpa using hi), List.getElem?_map, List.getElem?_eq_getElem hi] at e1
      cases e1
      cases o1
    · rw [List.getElem?_append_right (by simpa using Nat.le_of_not_lt hi)] at e1
      cases (List.eq_of_mem_replicate (List.mem_of_getElem? e1))
      cases o1
theorem def_runX {N : List Str} {np : Nat} {fB : En → OutX} {vs : List V} {H : Hp} {Q : VK} {E : XK} (h : spX K C (gDefX np N.length fB) vs H Q E) : tSX K C (fun cls d _ H => E cls d H) fB { nx := fun _ H' => Q .non H', rt := Q } (L2.start N vs) H := by
  obtain ⟨S, ds, z, r, hg, q⟩ := h
  unfold gDefX at hg
  split at hg
  · refine ⟨S, H, fun _ => False, env0 N.length ds, start_ok r, ?_⟩
    cases ho : fB (env0 N.length ds) with
    | rt v => rw [ho] at hg; cases hg; exact q
    | nx e => rw [ho] at hg; cases hg; exact fun A' H' σ' E' _ _ => q _ H' E'.same (by rw [Rp])
    | bk e => rw [ho] at hg; cases hg
    | ct e => rw [ho] at hg; cases hg
    | rs e d => rw [ho] at hg; cases hg; exact fun A' H' σ' dx v E' _ _ hx r => q dx v H' E'.same hx (r.wide fun _ z => z.1)
    | bad => rw [ho] at hg; cases hg
  · cases hg
theorem fn_okX {x qual : Str} {st : Stmt} {f : Addr} {fd : FuncData} {N ps : List Str} {k np nN : Nat} {fB : En → OutX} {g : List PyData → Option Rz} (F : Fun K x qual st f fd) (S : FnScope N ps (defScope st)) (hp : np = ps.length) (hN : nN = N.length) (hg : g = gDefX np nN fB)
    (hb : ∀ (cdv : Value) (A : Around) (outer : List Env) (s : Shared) (H : Hp) (E : XK), Room k (A.deeper (envOfC qual (defScope st) s.heap.objs.size f cdv)) → PSs (cxOf (L2.CX P w) P w K mg base N qual (defScope st) f cdv A outer s H E) (defBody st) (tSX K C (fun cls d _ H => E cls d H) fB)) :
    FnOk P w K mg base (L2.CX P w) (k + 1) f fd ps (spX K C g) := by
  subst hp hN hg
  refine F.okX S (fun vs H Q E h => ?_) fun cdv A outer s H vs Q E hr h => ⟨_, hb cdv A outer s H E hr, def_runX h⟩
  obtain ⟨S', ds, d, r, hg, _⟩ := h
  unfold gDefX at hg
  split at hg
  · rw [r.length]; assumption
  · cases hg
end
end Mir

namespace Mir
open PySem PySem.Spec PyProof.Rows L2
section
variable {X : Cx} {e a b : Expr} {st : Stmt} {pos p : Pos} {c c1 c2 : Bool} {f g : En → Option PyData} {x : Str}
/-! ### a dict of the module with text keys and text values -/
def eKd (tab : List (Str × Str)) (g : En → Option PyData) : En → Option PyData := fun env => match g env with
  | some (.str z) => (tab.find? fun q => decide (q.1 = z)).map fun q => .str q.2
  | _ => none
theorem ce_kd {tab : List (Str × Str)} {d : Addr} (hg : Gl X x) (hm : X.mg x = some (.ref d)) (D : ∀ q ∈ tab, KDct X.K X.w d q.1 (.str q.2)) (hb : PE X b (tE X.K c1 g)) (hs : PlainIx b) (hd : (x == ("__debug__" : Str)) = false := by decide) : PE X (.Subscript (.Name x p) b pos) (tE X.K true (eKd tab g)) :=
  pe_w (pe_ix ix_kdict (pe_glob (v := .ref d) hg hm rfl hd) hb hs) fun σ H Q ⟨S0, H0, A, env, z, E, hf, q⟩ => by
    unfold eKd at hf
    split at hf
    · rename_i y hy
      cases hk : tab.find? fun q => decide (q.1 = y) with
      | none => rw [hk] at hf; cases hf
      | some r =>
        rw [hk] at hf
        cases hf
        have h1 := List.find?_some hk
        have h2 := List.mem_of_find?_eq_some hk
        refine ⟨S0, H0, A, env, _, E, hy, fun u H1 s1 r1 => ?_⟩
        rw [Rp] at r1
        have e1 : r.1 = y := by simpa using h1
        exact ⟨d, y, .str r.2, rfl, r1, e1 ▸ D r h2, q _ H1 s1 rps⟩
    · cases hf
/-! ### x.bit_length() -/
def bitsD : PyData → Option PyData
  | .int i => some (.int (Builtin.Int.intBits i : Nat))
  | _ => none
theorem ce_bits (h : PE X e (tBits (tE X.K c1 f))) : PE X e (tE X.K c (e1 bitsD f)) := pe_w h fun σ H Q ⟨S0, H0, A, env, d, E, hf, q⟩ => by
  unfold e1 at hf
  split at hf
  · rename_i x hx
    refine ⟨S0, H0, A, env, _, E, hx, fun v H1 s1 r1 => ?_⟩
    cases x with
    | int i =>
      rw [Rp] at r1
      cases hf
      exact ⟨i, r1, q _ H1 s1 (by rw [Rp])⟩
    | _ => cases hf
  · cases hf
/-! ### a def that may raise, called where it doesn't -/
def eCallNR (g : List PyData → Option Rz) (fa : En → Option (List PyData)) : En → Option PyData := fun env => match fa env with
  | some ds => match g ds with
    | some (.ok d) => some d
    | _ => none
  | none => none
theorem ce_callNR {C : Addr} {gd : List PyData → Option Rz} {fa : En → Option (List PyData)} (h : PE X e (tCallS (spX X.K C gd) (WE fun _ _ _ _ => False) (tA X.K true fa))) : PE X e (tE X.K c (eCallNR gd fa)) := pe_w h fun σ H Q ⟨S0, H0, A, env, r, En, hf, q⟩ => by
  unfold eCallNR at hf
  split at hf
  · rename_i ds hd
    split at hf
    · rename_i d hg
      cases hf
      exact ⟨S0, H0, A, env, ds, En, hd, fun vs H1 s1 r1 => ⟨Cl S0 H0 A, ds, .ok _, r1.wide fun _ z => cl_sc z, hg, fun v H2 s2 r2 => q v H2 (s1.trans s2) (r2.wide fun _ z => bd_sc (En.grow s1) z)⟩⟩
    · cases hf
  · cases hf
/-! ### a, b = x, y -/
def sPar (i j : Nat) (fa : En → Option (List PyData)) : En → Out := fun env => match fa env with
  | some [d1, d2] => .nx ((env.set i (.val d1)).set j (.val d2))
  | _ => .bad
theorem cs_par {i j : Nat} {fa : En → Option (List PyData)} (h : PS X st (tPar i j (tA X.K true fa))) : PS X st (tS X.K (sPar i j fa)) := ps_w h fun D σ H ⟨S0, H0, A, env, E, o⟩ => by
  unfold sPar at o
  split at o
  · rename_i d1 d2 hd
    refine ⟨S0, H0, A, env, _, E, hd, fun vs H1 s1 r1 => ?_⟩
    obtain ⟨v, u, rfl, r2, r3⟩ := r1.two
    exact ⟨v, u, rfl, o A H1 _ (((E.grow s1).set_val (r2.wide fun _ z => cl_sc z)).set_val (r3.wide fun _ z => cl_sc z)) (Fr.of_same s1) Sb.refl⟩
  · exact o.elim
/-! ### max over a tuple -/
def rMxT (K : PySem.W.Frag) (k : Int → List Int → Int) : List V → Hp → VK → Prop := fun vs H Q => ∃ a n ns, vs = [.ref a] ∧ SqT K H a ((n :: ns).map V.int) ∧ Q (.int (k n ns)) H
theorem call_mxT (hc : X.calm = true) (hu : X.A.units + 64 < cLine) : CallR X (.builtin "max") (rMxT X.K mxI) := by
  intro pins s σ H vs us Q I r h
  obtain ⟨a, n, ns, rfl, hs, q⟩ := h
  obtain ⟨its, rv, hl, _⟩ := I.tuple hs
  rw [Vals.ref1 r]
  obtain ⟨as, ra⟩ := readsInts (h := s.heap) rv
  refine PySem.W.max_tuple_data (I.ok.hd hc) hl (by rw [List.toList_toArray]; exact ra) (alike_ints (n :: ns)) (by rw [show PyData.int n :: ns.map PyData.int = (n :: ns).map PyData.int from rfl, depth_ints]; omega) fun i v h' tk bs hi rr k => ?_
  rw [PySem.W.maxD_ints] at rr
  obtain ⟨t, rfl⟩ := reads_int rr
  exact ⟨.int _, H, I.kept (t' := tk) k, ⟨_, rfl⟩, by rw [mxI_max]; exact q⟩
def mxTA (k : Int → List Int → Int) : List PyData → Option PyData
  | [.tuple ds] => match intsD ds with
    | some (n :: ns) => some (.int (k n ns))
    | _ => none
  | _ => none
theorem cr_mxT {K : PySem.W.Frag} {k : Int → List Int → Int} : CROk K true (rMxT K k) (mxTA k) := by
  intro S S' H vs ds d Q _ _ r h q
  unfold mxTA at h
  split at h
  · replace r := r.one
    obtain ⟨v, rfl, r⟩ := r
    rw [Rp] at r
    obtain ⟨a, xs, rfl, hs, ra⟩ := r
    split at h
    · rename_i n ns hi
      cases h
      obtain ⟨e1, _⟩ := intsD_rp hi ra
      subst e1
      exact ⟨a, n, ns, rfl, live_t hs, q _ H (Same.refl H) rp1⟩
    · cases h
  · cases h
end
end Mir

/-! Mir11: a def handed over as the first argument, and called by its local name -/
namespace Mir
open PySem PySem.Spec PyProof.Rows L2
section
variable {K : PySem.W.Frag} {P : Program} {w : World} {mg : Str → Option Value} {base : Heap} {C : Addr}
def env1 (a : Addr) (nN : Nat) (ds : List PyData) : En := .fn a :: env0 (nN - 1) ds
def gDef1 (a : Addr) (np nN : Nat) (fB : En → Out) : List PyData → Option PyData := fun ds => if ds.length = np then outD (fB (env1 a nN ds)) else none
def sp1 (a : Addr) (sp : Sp) : Sp := fun vs H Q E => ∃ us, vs = .ref a :: us ∧ sp us H Q E
theorem EnvOk.cons_fn {S : Addr → Prop} {H : Hp} {σ : L2.St} {env : En} {a : Addr} (E : EnvOk K S H (fun _ => False) H σ env) (no : ∀ s ∈ env, ow s = false) : EnvOk K S H (fun _ => False) H (some (.ref a) :: σ) (.fn a :: env) where
  len := by simp [E.len]
  sl := fun i s h => by
    cases i with
    | zero => cases h; exact .inr ⟨_, rfl, rfl⟩
    | succ i => exact E.sl i s h
  dis := fun i j s t b h1 h2 o1 o2 _ _ => by
    exfalso
    cases i with
    | zero => cases h1; cases o1
    | succ i =>
      have := no s (List.mem_of_getElem? h1)
      rw [this] at o1
      cases o1
  tr := fun _ z => z.elim
  nw := fun _ z => z.elim
  same := E.same
theorem env0_ow (nN : Nat) (ds : List PyData) : ∀ s ∈ env0 nN ds, ow s = false := fun s h => by
  unfold env0 at h
  rcases List.mem_append.mp h with h | h
  · obtain ⟨d, _, rfl⟩ := List.mem_map.mp h
    rfl
  · rw [List.eq_of_mem_replicate h]
    rfl
theorem start_ok1 {N : List Str} {ds : List PyData} {us : List V} {S : Addr → Prop} {H : Hp} {a : Addr} (hN : N ≠ []) (r : RpA K S H ds us) : EnvOk K S H (fun _ => False) H (L2.start N (.ref a :: us)) (env1 a N.length ds) := by
  cases N with
  | nil => exact absurd rfl hN
  | cons x N =>
    have e : L2.start (x :: N) (.ref a :: us) = some (.ref a) :: L2.start N us := by
      unfold L2.start
      rw [List.map_cons, List.length_cons, List.length_cons, Nat.add_sub_add_right]
      rfl
    rw [e]
    exact (start_ok (N := N) r).cons_fn (env0_ow _ _)
theorem def_run1 {N : List Str} {np : Nat} {fB : En → Out} {vs : List V} {H : Hp} {Q : VK} {E : XK} {a : Addr} (hN : N ≠ []) (h : sp1 a (spF K (gDef1 a np N.length fB)) vs H Q E) : tS K fB { nx := fun _ H' => Q .non H', rt := Q } (L2.start N vs) H := by
  obtain ⟨us, rfl, S, ds, d, r, hg, q⟩ := h
  unfold gDef1 at hg
  split at hg
  · refine ⟨S, H, fun _ => False, env1 a N.length ds, start_ok1 hN r, ?_⟩
    cases ho : fB (env1 a N.length ds) with
    | rt v =>
      rw [ho] at hg
      cases hg
      exact q
    | nx e =>
      rw [ho] at hg
      cases hg
      exact fun A' H' σ' E' _ _ => q _ H' E'.same (by rw [Rp])
    | bk e => rw [ho] at hg; cases hg
    | ct e => rw [ho] at hg; cases hg
    | bad => rw [ho] at hg; cases hg
  · cases hg
theorem fn_ok1 {x qual : Str} {st : Stmt} {f a : Addr} {fd : FuncData} {N ps : List Str} {k np nN : Nat} {fB : En → Out} {g : List PyData → Option PyData} (F : Fun K x qual st f fd) (S : FnScope N ps (defScope st)) (hp : np + 1 = ps.length) (hN : nN = N.length) (hn : N ≠ []) (hg : g = gDef1 a np nN fB)
    (hb : ∀ (cdv : Value) (A : Around) (outer : List Env) (s : Shared) (H : Hp) (E : XK), Room k (A.deeper (envOfC qual (defScope st) s.heap.objs.size f cdv)) → PSs (cxOf CX0 P w K mg base N qual (defScope st) f cdv A outer s H E).nox (defBody st) (tS K fB)) :
    FnOk P w K mg base CX0 (k + 1) f fd ps (sp1 a (spF K g)) := by
  subst hN hg
  refine F.ok S (fun vs H Q E h => ?_) fun cdv A outer s H vs Q E hr h => ⟨_, hb cdv A outer s H E hr, def_run1 hn h⟩
  obtain ⟨us, rfl, S', ds, d, r, hg, _⟩ := h
  unfold gDef1 at hg
  split at hg
  · rw [List.length_cons, r.length, ← hp]; omega
  · cases hg
open Classical in
/-- whatever the address -/
noncomputable def gAll (g : Addr → List PyData → Option PyData) : List PyData → Option PyData := fun ds => if h : ∃ d, ∀ a, g a ds = some d then some (Classical.choose h) else none
theorem gAll_of {g : Addr → List PyData → Option PyData} {ds : List PyData} {d : PyData} (h : gAll g ds = some d) (a : Addr) : g a ds = some d := by
  unfold gAll at h
  split at h
  · rename_i hx
    cases h
    exact Classical.choose_spec hx a
  · cases h
theorem gAll_ev {g : Addr → List PyData → Option PyData} {ds : List PyData} {d : PyData} (h : ∀ a, g a ds = some d) : gAll g ds = some d := by
  have hx : ∃ d, ∀ a, g a ds = some d := ⟨d, h⟩
  unfold gAll
  rw [dif_pos hx, ← Classical.choose_spec hx 0, h]
theorem fn_imp1 {k : Nat} {f a : Addr} {fd : FuncData} {ps : List Str} {g : Addr → List PyData → Option PyData} (F : FnOk P w K mg base CX0 k f fd ps (sp1 a (spF K (g a)))) : FnOk P w K mg base CX0 k f fd ps (sp1 a (spF K (gAll g))) :=
  F.imp fun vs H Q E ⟨us, e, S, ds, d, r, hg, q⟩ => ⟨us, e, S, ds, d, r, gAll_of hg a, q⟩
end
section
variable {X : Cx} {CX : CXT} {k i : Nat} {f a : Addr} {fd : FuncData} {ps : List Str} {sp : Sp} {x : Str} {p pos : Pos} {e : Expr} {es : List Expr} {t : TA} {c : Bool} {fa : En → Option (List PyData)} {gd : List PyData → Option PyData}
/-- h(def, ..) -/
theorem ce_call1 {E0 : XK} (h : PE X e (tCall (sp1 a (spF X.K gd)) [] E0 (tCons (tC (.ref a)) (tA X.K true fa)))) : PE X e (tE X.K c (eCall gd fa)) := pe_w h fun σ H Q q => by
  have z := call_run (E := E0) q
  obtain ⟨S0, H0, A, env, ds, En, hd, q⟩ := z
  refine ⟨S0, H0, A, env, ds, En, hd, fun vs H1 s1 r1 => ?_⟩
  exact ⟨vs ++ [], rfl, q vs H1 s1 r1⟩
/-- the def in slot i, called; it may raise -/
def tCallLS (i : Nat) (f : Addr) (sp : Sp) (E : L2.St → XK) (t : TA) : TE := fun σ H Q => σ[i]? = some (some (.ref f)) ∧ t σ H fun vs H1 => sp vs H1 Q (E σ)
theorem pe_callLS {E : L2.St → XK} (F : FnOk X.prog X.w X.K X.mg X.base CX k f fd ps sp) (hr : Room k X.A) (hN : X.N[i]? = some x) (hv : Vis X.env.scope x) (hk : PySem.W.keepIn X.K (.ref f) = true) (hb : Binds X.K fd ps []) (hx : ∀ σ, PassesAt CX X σ (E σ)) (ha : PA X (e :: es) t)
    (hdb : (x == ("__debug__" : Str)) = false := by decide) (hcd : (x == ("__classdict__" : Str)) = false := by decide)
    (he : starEach (e :: es) X.env = (false, eval e X.env) :: starEach es X.env := by rfl) (hpl : (backTo pos (starEach es X.env)).any (·.1) = false := by rfl) : PE X (.Call (.Name x p) (e :: es) [] pos) (tCallLS i f sp E t) := by
  refine ⟨fun pins s σ H Q I h => ?_⟩
  obtain ⟨hs, ht⟩ := h
  refine wpAny_Call_Name_kw (thn ((pe_var (pos := p) hN hv hdb hcd).run pins s σ H (fun v H1 => v = .ref f ∧ H1 = H) I ⟨.ref f, hs, rfl, rfl⟩) fun u s1 ⟨v, H1, I1, r1, q1⟩ => ?_)
  obtain ⟨rfl, rfl⟩ := q1
  cases r1
  refine PySem.W.callWith_K (h₀ := X.base) I.ok.mod.kin hk (thn (ha.run pos pins s1 σ _ _ I1 ht) fun us s2 ⟨vs, H2, I2, r, q⟩ => ⟨I2.kIn, ?_⟩) he hpl
  exact run_fnS F hr hb (hx σ) I2 r q
def xCallF (i : Nat) (a : Addr) (g : List PyData → Option Rz) (fa : En → Option RzA) : En → Option Rz := fun env => match env[i]? with
  | some (.fn b) => if b = a then xCall g fa env else none
  | _ => none
theorem xe_callF {C : Addr} {W : WX} {gx : List PyData → Option Rz} {fx : En → Option RzA} (hs : PE X e (tCallLS i a (spX X.K C gx) (WE W) (tAX X.K C W true fx))) : PE X e (tX X.K C W c (xCallF i a gx fx)) := pe_w hs fun σ H Q ⟨S0, H0, A, env, r, En, hf, q⟩ => by
  unfold xCallF at hf
  split at hf
  · rename_i b hb
    split at hf
    · rename_i e
      subst e
      have h1 : σ[i]? = some (some (.ref b)) := by
        rcases En.sl i _ hb with z | ⟨v, h1, h2⟩
        · cases z
        · rw [h1, (show v = .ref b from h2)]
      refine ⟨h1, ?_⟩
      unfold xCall at hf
      split at hf
      · rename_i ds hd
        refine ⟨S0, H0, A, env, .ok ds, En, hd, fun vs H1 s1 r1 => ⟨Cl S0 H0 A, ds, r, r1.wide fun _ z => cl_sc z, hf, ?_⟩⟩
        cases r with
        | ok d => exact fun v H2 s2 r2 => q v H2 (s1.trans s2) (r2.wide fun _ z => bd_sc (En.grow s1) z)
        | ex d => exact fun dx v H2 s2 hx r2 => q dx v H2 (s1.trans s2) hx (r2.wide fun _ z => bd_sc (En.grow s1) z)
      · rename_i d hd
        cases hf
        exact ⟨S0, H0, A, env, .ex d, En, hd, q⟩
      · cases hf
    · cases hf
  · cases hf
end
end Mir

/-! Mir12: x.extend(y), y any list that is told as data -/
namespace Mir
open PySem PySem.Spec PyProof.Rows L2
theorem sub_list_tuple' : isSubtype (.type "list") (.type "tuple") = pure false := by rw [isSubtype_type]; kernel_rfl
theorem list_extend_any (l : Addr) (items : Array Value) (n : Nat) (b : Addr) (items2 : Array Value) (n2 : Nat) (sl : Array (Option Value)) (hc0 : ¬(!items.isEmpty && Builtin.List.listTooLong (items.size + items2.size)) = true) (hc1 : items.size ≤ sizeLine) (hs2 : items.size + items2.size ≤ sizeLine + 1) :
    Meets (Builtin.«list.extend» ⟨[.ref l, .ref b], []⟩) (fun _ R s => s.heap.get? l = some { cls := .type "list", dict := none, data := .seq items n, slots := #[] } ∧ s.heap.get? b = some { cls := .type "list", dict := none, data := .seq items2 n2, slots := sl } ∧ R (.ok (.ret Value.none)) { s with heap := s.heap.update l (Obj.mapSeq fun x => x ++ items2), toks := s.toks }) :=
  .of_wp fun prog w A R s h => by
    obtain ⟨hp, g, d, tk, os⟩ := s; obtain ⟨hl, hb, h⟩ := h; have f1 := AutoSeq1.idx_int; have f2 := AutoSeq1.sub_tuple_tuple; have f3 := AutoSeq1.sub_list_list; have f4 := AutoSeq1.sub_tuple_list; have f5 := AutoSeq1.sub_list_tuple;
    have hz' : (items ++ items2).size ≤ sizeLine + 1 := by rw [Array.size_append]; exact hs2
    wp_walk using (wpAny_updateSeq hl rfl (hz := hc1) (_hz' := hz')), wpAny_loadPart' hl, wpAny_loadPart' hb; exact ⟨_, rfl, h⟩
def rExtA (K : PySem.W.Frag) : V → List V → Hp → VK → Prop := fun x vs H Q => ∃ l b xs zs, x = .ref l ∧ vs = [.ref b] ∧ H l = some (.lst xs) ∧ SqL K H b zs ∧ xs.length + zs.length ≤ sizeLine ∧ Q .non (upd H l (.lst (xs ++ zs)))
section
variable {X : Cx} {st : Stmt} {f : En → Option PyData}
theorem mt_extA : MtM X "list.extend" (rExtA X.K) := by
  intro pins s σ H x vs v us Q I rx rv h
  obtain ⟨l, b, xs, zs, rfl, rfl, hH, hB, hz, q⟩ := h
  cases rx
  obtain ⟨u, rfl, ru⟩ := rv.one
  cases ru
  obtain ⟨z, its, n, r, hl, e⟩ := I.lstM hH
  obtain ⟨its2, r2, ⟨⟨cls, dd, data, sl⟩, n2, e2, hc, hd, hs⟩, z2⟩ := I.list hB
  simp only at hc hd hs
  subst hc hd hs
  have hl2 := r2.length
  have hsz : its.toArray.size + its2.toArray.size ≤ sizeLine := by rw [List.size_toArray, List.size_toArray]; omega
  have hlong : ¬ (!its.toArray.isEmpty && Builtin.List.listTooLong (its.toArray.size + its2.toArray.size)) = true := by
    rw [notLongL hsz, Bool.and_false]
    exact Bool.false_ne_true
  refine call_meets F.slot_list_extend ⟨_, e, rfl⟩ F.entry_list_extend (F.args_list_extend_2 _ _)
    (list_extend_any l its.toArray n b its2.toArray n2 sl hlong (by rw [List.size_toArray]; omega) (by omega)) ⟨e, e2, ?_⟩
  refine ⟨.non, _, I.lset (its' := its ++ its2) hH e (by simp) (r.append r2) ?_, rfl, q⟩
  rw [List.length_append]
  omega
def sExt (i : Nat) (f : En → Option PyData) : En → Out := fun env => match f env with
  | some (.list es) => match env[i]? with
    | some (.own ds) => if ds.length + es.length < 1000000 then .nx (env.set i (.own (ds ++ es))) else .bad
    | _ => .bad
  | _ => .bad
theorem cs_ext {i : Nat} (h : PS X st (tDrop (tBM X.K "list" (rExtA X.K) (tVar i) (tCons (tE X.K true f) tNil)))) : PS X st (tS X.K (sExt i f)) := ps_w h fun D σ H ⟨S0, H0, A, env, E, o⟩ => by
  unfold sExt at o
  split at o
  · rename_i es hd
    split at o
    · rename_i ds hi
      split at o
      · rename_i hl
        rcases E.sl i _ hi with z | ⟨v, h1, a, xs, rfl, ha, hh, r⟩
        · cases z
        refine ⟨_, h1, .inl ⟨rfl, xs, .inl (.inl hh)⟩, S0, H0, A, env, _, E, hd, fun v H' s r' => ?_⟩
        have E' := E.grow s
        rw [Rp] at r'
        obtain ⟨b, zs, rfl, hb, rz⟩ := r'
        refine ⟨a, b, xs, zs, rfl, rfl, s _ _ hh, hb.sq, ?_, ?_⟩
        · rw [r.length, rz.length]
          exact Nat.le_of_lt (Nat.lt_of_lt_of_le hl (by decide))
        · have q := RpA.append (r.grow s) (rz.wide fun _ z => cl_sc z)
          refine o A _ σ (E'.mut hi h1 ha (s _ _ hh) q) (fun b u e n => ?_) Sb.refl
          have nb : b ≠ a := fun z => n (z ▸ ha)
          rw [upd_ne nb]
          exact s _ _ e
      · exact o.elim
    · exact o.elim
  · exact o.elim
end
end Mir

/-! Mir13: min(xs, key=def), told on data; the order of data -/
namespace Mir
open PySem PySem.Spec PyProof.Rows L2

/-- what a search for the least by a def needs, the state told by the best so far; Bk: an item has been drawn -/
structure LeastRun (pg : Program) (wd : World) (Ar : Around) (fd S I : Addr) (len : Nat) (C0 : Shared → Prop) (D0 : Shared → Value → Prop) (Cj : Nat → Shared → Value → Value → Prop)
    (Ej : Shared → Value → Prop) (Bk : Nat → Shared → Value → Value → Value → Prop) : Prop where
  put : ∀ j s b k up, Cj j s b k → Cj j { s with heap := s.heap.update S up, toks := s.toks } b k
  putE : ∀ s b up, Ej s b → Ej { s with heap := s.heap.update S up, toks := s.toks } b
  draw0 : ∀ s o (Qx : Option Value → Shared → Prop) (Ex : Value → Shared → Prop), C0 s → s.heap.get? S = some o → (∀ x t, D0 t x → t.heap.get? S = some o → Qx (some x) t) → wpAny (model pg wd) Ar (pyNext (.ref I)) Qx Ex s
  first : ∀ s x o (Qx : Value → Shared → Prop) (Ex : Value → Shared → Prop), D0 s x → s.heap.get? S = some o → (∀ v, o.data ≠ .cell v) → (∀ k t, Cj 0 t x k → t.heap.get? S = some o → Qx k t) → wpAny (model pg wd) Ar (call (.ref fd) [x]) Qx Ex s
  draw : ∀ j s b kb o (Qx : Option Value → Shared → Prop) (Ex : Value → Shared → Prop), j + 1 < len → Cj j s b kb → s.heap.get? S = some o → (∀ x t, Bk j t b kb x → t.heap.get? S = some o → Qx (some x) t) → wpAny (model pg wd) Ar (pyNext (.ref I)) Qx Ex s
  stop : ∀ j s b kb o (Qx : Option Value → Shared → Prop) (Ex : Value → Shared → Prop), j + 1 = len → Cj j s b kb → s.heap.get? S = some o → (∀ t, Ej t b → t.heap.get? S = some o → Qx none t) → wpAny (model pg wd) Ar (pyNext (.ref I)) Qx Ex s
  next : ∀ j s b kb x o (Qx : Value → Shared → Prop) (Ex : Value → Shared → Prop), j + 1 < len → Bk j s b kb x → s.heap.get? S = some o → (∀ v, o.data ≠ .cell v) →
    (∀ k t, t.heap.get? S = some o → (∀ (Qy : Value → Shared → Prop) (Ey : Value → Shared → Prop), (∀ r, (r = true → Cj (j + 1) t x k) → (r = false → Cj (j + 1) t b kb) → Qy (.bool r) t) → wpAny (model pg wd) Ar (richCompare .Lt k kb) Qy Ey t) → Qx k t) →
    wpAny (model pg wd) Ar (call (.ref fd) [x]) Qx Ex s

section
variable {pg : Program} {wd : World} {Ar : Around} {fd S I : Addr} {len : Nat} {C0 : Shared → Prop} {D0 : Shared → Value → Prop} {Cj : Nat → Shared → Value → Value → Prop} {Ej : Shared → Value → Prop}
  {Bk : Nat → Shared → Value → Value → Value → Prop} {Rs : Result → Shared → Prop}
theorem nm_loop : (toString "min" ++ toString ".loop" : String) = "min.loop" := by decide
theorem least_loop (L : LeastRun pg wd Ar.in1 fd S I len C0 D0 Cj Ej Bk) (kws : List (Str × Value)) : ∀ (rest j : Nat) (s : Shared) (b kb : Value) (c : Nat),
    len - (j + 1) = rest → j + 1 ≤ len → Cj j s b kb → s.heap.get? S = some { cls := .type "list", dict := none, data := .seq #[b, kb] c, slots := #[] } → (∀ b' t, Ej t b' → Rs (.ok (.ret b')) t) →
    codeAny (model pg wd) Ar (.builtin "min.loop" ⟨[.ref I, (.ref fd), .ref S], kws⟩) Rs s
  | 0, j, s, b, kb, c, e0, hj, hC, hS, hR => by
    refine codeAny_builtin F.entry_min_loop ?_
    rw [Around.under_plainId F.plain_min_loop _]
    refine wpAny_bind (wpAny_seqItems hS rfl ?_)
    refine wpAny_bind (wpAny_tryCatch (L.stop j s b kb _ _ _ (by omega) hC hS fun t hE hS1 => ?_))
    refine wpAny_bind ?_
    refine wpAny_updateSeq hS1 rfl (wpAny_bind (wpAny_letGo (wpAny_pure ?_)))
    exact hR b _ (L.putE _ _ _ hE)
  | rest + 1, j, s, b, kb, c, e0, hj, hC, hS, hR => by
    have hlt : j + 1 < len := by omega
    refine codeAny_builtin F.entry_min_loop ?_
    rw [Around.under_plainId F.plain_min_loop _]
    refine wpAny_bind (wpAny_seqItems hS rfl ?_)
    refine wpAny_bind (wpAny_tryCatch (L.draw j s b kb _ _ _ hlt hC hS fun x t hD hS1 => ?_))
    refine wpAny_bind (wpAny_tryCatch (wpAny_holding (L.next j t b kb x _ _ _ hlt hD hS1 (fun v z => by cases z) fun k t2 hS2 hB => ?_)))
    refine wpAny_bind (wpAny_tryCatch (wpAny_holding (wpAny_bind (hB _ _ fun r ht hf => ?_))))
    refine wpAny_bind (wpAny_holding (wpAny_truthy_bool ?_))
    refine wpAny_bind (wpAny_letGo (wpAny_pure ?_))
    cases r with
    | true =>
      simp only [if_true]
      refine wpAny_bind ?_
      refine wpAny_updateSeq hS2 rfl (wpAny_bind (wpAny_letGo ?_))
      rw [nm_loop]
      exact wpAny_pure ⟨plainId_quiet F.plain_min_loop _, least_loop L kws rest (j + 1) _ x k _ (by omega) hlt (L.put _ _ _ _ _ (ht rfl)) (Heap.get?_update_self _ hS2 rfl) hR⟩
    | false =>
      simp only [Bool.false_eq_true, if_false]
      refine wpAny_bind (wpAny_letGo ?_)
      rw [nm_loop]
      exact wpAny_pure ⟨plainId_quiet F.plain_min_loop _, least_loop L kws rest (j + 1) _ b kb c (by omega) hlt (hf rfl) hS2 hR⟩
theorem least_first (L : LeastRun pg wd Ar.in1 fd S I len C0 D0 Cj Ej Bk) (kws : List (Str × Value)) (hn : 0 < len) {s : Shared} {c : Nat} (hC : C0 s)
    (hS : s.heap.get? S = some { cls := .type "list", dict := none, data := .seq #[] c, slots := #[] }) (hR : ∀ b' t, Ej t b' → Rs (.ok (.ret b')) t) :
    codeAny (model pg wd) Ar (.builtin "min.loop" ⟨[.ref I, (.ref fd), .ref S], kws⟩) Rs s := by
  refine codeAny_builtin F.entry_min_loop ?_
  rw [Around.under_plainId F.plain_min_loop _]
  refine wpAny_bind (wpAny_seqItems hS rfl ?_)
  refine wpAny_bind (wpAny_tryCatch (L.draw0 s _ _ _ hC hS fun x t hD hS1 => ?_))
  refine wpAny_bind (wpAny_tryCatch (wpAny_holding (L.first t x _ _ _ hD hS1 (fun v z => by cases z) fun k t2 hC2 hS2 => ?_)))
  refine wpAny_bind ?_
  refine wpAny_updateSeq hS2 rfl ?_
  rw [nm_loop]
  exact wpAny_pure ⟨plainId_quiet F.plain_min_loop _, least_loop L kws _ 0 _ x k _ rfl hn (L.put _ _ _ _ _ hC2) (Heap.get?_update_self _ hS2 rfl) hR⟩
theorem call_least {x : Value} {Qx : Value → Shared → Prop} {Ex : Value → Shared → Prop} {s : Shared}
    (h : wpAny (model pg wd) Ar.in1 (pyIter x) (fun it t => ∃ I len C0 D0 Cj Ej Bk, it = .ref I ∧ 0 < len ∧ LeastRun pg wd Ar.in1 fd t.heap.objs.size I len C0 D0 Cj Ej Bk ∧
      C0 { t with heap := t.heap.push { cls := .type "list", data := .seq #[] 0 }, toks := t.toks } ∧ ∀ b' t', Ej t' b' → Qx b' t') Ex s) :
    wpAny (model pg wd) Ar (call (.builtin "min") [x] [(Str.ofString "key", .ref fd)]) Qx Ex s := by
  refine PyProof.Rows.kmk_tree F.kind_min F.plain_min F.entry_min (PyProof.Rows.kmk_min_key _ _) ?_
  refine wpAny_bind (wpAny_of_eq (show Builtin.Builtins.bindParams "min" ["key", "default"] 0 ⟨[], [(Str.ofString "key", Value.ref fd)]⟩ = pure [some (Value.ref fd), none] from rfl) ?_)
  refine wpAny_bind (wpAny_pure ?_)
  refine wpAny_bind (wpAny_mono h (fun it t ht => ?_) fun _ _ z => z)
  obtain ⟨I, len, C0, D0, Cj, Ej, Bk, rfl, hn, L, hC, hQ⟩ := ht
  refine wpAny_bind (wpAny_newObj_type ?_)
  rw [nm_loop]
  exact wpAny_pure ⟨plainId_quiet F.plain_min_loop _, least_first L _ hn hC (Heap.get?_push_size _ rfl) hQ⟩
end

section
variable {X : Cx} {k : Nat} {f : Addr} {fd : FuncData} {ps : List Str} {g : List PyData → Option PyData} {pins : List (Addr × Obj)} {σ : L2.St} {H H1 : Hp} {s : Shared} {S I l : Addr} {i : Nat}
/-- the state in the midst of the search: the walk over the list at l stands at i, S holds the best -/
structure Mid (X : Cx) (pins : List (Addr × Obj)) (σ : L2.St) (H : Hp) (S I l : Addr) (i : Nat) (H1 : Hp) (s : Shared) : Prop where
  inv : Inv X pins σ H1 s
  same : Same H H1
  fS : FpOk X pins H1 S
  fI : FpOk X pins H1 I
  ne : S ≠ I
  it : s.heap.IsListIter I l i
theorem Mid.put (M : Mid X pins σ H S I l i H1 s) (up : Obj → Obj) : Mid X pins σ H S I l i H1 { s with heap := s.heap.update S up, toks := s.toks } := by
  obtain ⟨f0, f1, f2, f3, f4, f5⟩ := id M.fS
  refine ⟨M.inv.turned (it := S) (fun b o hb e => (Heap.get?_update_other _ _ (Ne.symm hb)).trans e) f0 f1 f3 f4 f5, M.same, M.fS, M.fI, M.ne, ?_⟩
  obtain ⟨o, e, z⟩ := M.it
  exact ⟨o, (Heap.get?_update_other _ _ M.ne).trans e, z⟩
/-- the next item -/
theorem Mid.draw {xs : List V} {Qx : Option Value → Shared → Prop} {Ex : Value → Shared → Prop} (M : Mid X pins σ H S I l i H1 s) (hh : X.A.handled = none) (hl : SqL X.K H l xs) (hi : i ≤ xs.length) {o : Obj} (hS : s.heap.get? S = some o)
    (h1 : ∀ x xv t, xs[i]? = some xv → RelV xv x → Mid X pins σ H S I l (i + 1) H1 t → t.heap.get? S = some o → Qx (some x) t) (h2 : i = xs.length → ∀ t, Inv X pins σ H1 t → t.heap.get? S = some o → Qx none t) : wpAny (model X.prog X.w) X.A.in1 (pyNext (.ref I)) Qx Ex s := by
  obtain ⟨its, rv, hls, _⟩ := M.inv.list (M.same.seq hl)
  have hls' := hls.isList
  obtain ⟨f0, f1, f2, f3, f4, f5⟩ := id M.fI
  have hne : l ≠ I := by
    rintro rfl
    obtain ⟨oI, e1, e2, e3⟩ := M.it
    obtain ⟨oL, e4, e5, e6⟩ := hls'
    rw [e1] at e4; cases e4
    obtain ⟨w, e6⟩ := e6
    rw [e3] at e6; cases e6
  have W := (Walks.list (prog := X.prog) (w := X.w) (A := X.A.in1) hh I l hne its.toArray).toS
  have en : its.toArray.size = xs.length := by rw [List.size_toArray, ← rv.length]
  have mov : ∀ t, Moved [I] (fun a b => b = a) s t → Inv X pins σ H1 t ∧ t.heap.get? S = some o := fun t mv => by
    have z : t = { s with heap := t.heap, toks := t.toks } := by
      obtain ⟨hp, ge, d, tk, os⟩ := t
      have h1 : ge = s.gens := mv.gens
      have h2 : d = s.drawn := mv.drawn
      have h3 : os = s.os := mv.os
      subst h1 h2 h3
      rfl
    refine ⟨?_, mv.heap _ _ (fun q => M.ne (List.mem_singleton.mp q)) hS⟩
    rw [z]
    exact M.inv.turned (it := I) (fun b ob hb e => mv.heap b ob (fun q => hb (List.mem_singleton.mp q)) e) f0 f1 f3 f4 f5
  by_cases e : i = xs.length
  · refine W.done s _ _ ?_ fun t mv => ?_
    · rw [en, ← e]; exact ⟨M.it, hls'⟩
    · obtain ⟨I2, S2⟩ := mov t mv
      exact h2 e t I2 S2
  · refine W.item i s _ _ (by rw [en]; omega) ⟨M.it, hls'⟩ fun x t hx st mv => ?_
    obtain ⟨I2, S2⟩ := mov t mv
    have hx' : its[i]? = some x := by simpa using hx
    obtain ⟨xv, e1⟩ : ∃ xv, xs[i]? = some xv := ⟨_, List.getElem?_eq_getElem (by omega)⟩
    obtain ⟨u, e2, r1⟩ := rv.get e1
    rw [hx'] at e2; cases e2
    exact h1 x xv t e1 r1 ⟨I2, M.same, M.fS, M.fI, M.ne, st.1⟩ S2
theorem Mid.call (M : Mid X pins σ H S I l i H1 s) (F : FnOk X.prog X.w X.K X.mg X.base CX0 k f fd ps (spF X.K g)) (hr : Room (k + 1) X.A) (hb : Binds X.K fd ps []) {U : Addr → Prop} {x : Value} {xv : V} {d kd : PyData} (rel : RelV xv x) (r : Rp X.K U H1 d xv) (hg : g [d] = some kd)
    {o : Obj} (hS : s.heap.get? S = some o) (no : ∀ v, o.data ≠ .cell v) {Qx : Value → Shared → Prop} {Ex : Value → Shared → Prop}
    (h : ∀ kx t H2 kv, Mid X pins σ H S I l i H2 t → Same H1 H2 → RelV kv kx → Rp X.K (fun _ => True) H2 kd kv → t.heap.get? S = some o → Qx kx t) : wpAny (model X.prog X.w) X.A.in1 (call (.ref f) [x]) Qx Ex s := by
  obtain ⟨oI, eI, cI, dI⟩ := id M.it
  have I1 : Inv X (pins ++ pinsAt [S, I] s.heap) σ H1 s := M.inv.pinned (fun b hb => by
    rcases List.mem_cons.mp hb with rfl | hb
    · exact M.fS
    · rw [List.mem_singleton.mp hb]; exact M.fI) (fun b hb => by
    rcases List.mem_cons.mp hb with rfl | hb
    · exact ⟨o, hS, no⟩
    · rw [List.mem_singleton.mp hb]; exact ⟨oI, eI, fun v z => by rw [dI] at z; cases z⟩)
  have sp : spF X.K g [xv] H1 (fun v H' => Same H1 H' ∧ Rp X.K (fun _ => True) H' kd v) (fun _ _ _ => False) := ⟨U, [d], kd, RpA.cons r RpA.nil, hg, fun v H' s1 r1 => ⟨s1, r1.wide fun _ _ => trivial⟩⟩
  have hlen : ([x] : List Value).length = ps.length := (F.len _ _ _ _ sp)
  have b := hb s [x] I1.kIn (by rw [List.append_nil]; exact hlen)
  rw [List.append_nil] at b
  have e0 := I1.env0
  refine wpAny_call (codeAny_mono (F.run X.A.in1 X.stack s H1 ⟨[x], []⟩ [x] [xv] _ (fun _ _ _ => False) hr.in1 ⟨e0.frames, e0.mod, e0.bs, e0.bsz, e0.funs, e0.frf, e0.hok, e0.bare⟩ b (.cons rel .nil) sp) fun q t hq => ?_)
  cases q with
  | error e => exact False.elim hq
  | ok fl =>
    cases fl with
    | ret u =>
      obtain ⟨v, H2, I2, rv, s2, r2⟩ := I1.after hq
      have pS := I2.pin (S, o) (List.mem_append_right _ (List.mem_append_right _ (mem_pinsAt List.mem_cons_self hS)))
      have pI := I2.pin (I, oI) (List.mem_append_right _ (List.mem_append_right _ (mem_pinsAt (List.mem_cons_of_mem _ List.mem_cons_self) eI)))
      exact h u t H2 v ⟨I2.unpinned, M.same.trans s2, ⟨pS.2.1, M.fS.2⟩, ⟨pI.2.1, M.fI.2⟩, M.ne, ⟨oI, pI.1, cI, dI⟩⟩ s2 rv r2 pS.1
    | next => exact False.elim hq
    | brk => exact False.elim hq
    | cont => exact False.elim hq
/-! the first of the least keys -/
def stK (m q : PyData × PyData) : PyData × PyData := if PySem.W.dataLt q.2 m.2 = true then q else m
def lstK (m : PyData × PyData) (qs : List (PyData × PyData)) : PyData × PyData := qs.foldl stK m
def keyOk (q : PyData × PyData) : Bool := noD q.2 && decide (q.2.depth ≤ 60)
/-- the keys compare with one another -/
def keysOk (qs : List (PyData × PyData)) : Prop := (∀ q ∈ qs, keyOk q = true ∧ q.2 ≠ .none) ∧ ∀ q ∈ qs, ∀ q' ∈ qs, PySem.W.alike q.2 q'.2 = true
theorem stK_mem {m q : PyData × PyData} {qs : List (PyData × PyData)} (h1 : m ∈ qs) (h2 : q ∈ qs) : stK m q ∈ qs := by
  unfold stK
  split
  · exact h2
  · exact h1
def bestK (qs : List (PyData × PyData)) : Nat → PyData × PyData
  | 0 => qs.getD 0 (.none, .none)
  | j + 1 => stK (bestK qs j) (qs.getD (j + 1) (.none, .none))
theorem bestK_mem {qs : List (PyData × PyData)} : ∀ {j : Nat}, j < qs.length → bestK qs j ∈ qs
  | 0, h => by unfold bestK; rw [List.getD_eq_getElem?_getD, List.getElem?_eq_getElem h]; exact List.getElem_mem h
  | j + 1, h => by
    unfold bestK
    refine stK_mem (bestK_mem (by omega)) ?_
    rw [List.getD_eq_getElem?_getD, List.getElem?_eq_getElem h]; exact List.getElem_mem h
def rMinK (X : Cx) (f : Addr) (g : List PyData → Option PyData) : List V → List V → Hp → VK → Prop := fun vs zs H Q => ∃ a xs U qs, vs = [.ref a] ∧ zs = [.ref f] ∧ SqL X.K H a xs ∧ RpA X.K U H (qs.map (·.1)) xs ∧ (∀ q ∈ qs, g [q.1] = some q.2) ∧ keysOk qs ∧ 0 < qs.length ∧
  ∀ v H', Same H H' → Rp X.K U H' (bestK qs (qs.length - 1)).1 v → Q v H'
theorem Rp.reads (I : Inv X pins σ H s) {U : Addr → Prop} {d : PyData} {v : V} {u : Value} (r : Rp X.K U H d v) (n : noD d = true) (rel : RelV v u) : ∃ as, Reads s.heap u d as := Dp.reads I d v u (Rp.dp0 d v n r) rel
theorem call_minK (F : FnOk X.prog X.w X.K X.mg X.base CX0 k f fd ps (spF X.K g)) (hr : Room (k + 1) X.A) (hb : Binds X.K fd ps []) : CallRK X (.builtin "min") [Str.ofString "key"] (rMinK X f g) := by
  intro pins s σ H vs zs us ws Q I0 r rz h
  obtain ⟨l, xs, U, qs, rfl, rfl, hl, ra, hg, ⟨k1, k2⟩, hn, q⟩ := h
  obtain ⟨its, rv, hls, _⟩ := I0.list hl
  rw [Vals.ref1 r, Vals.ref1 rz]
  have hh := hr.hd
  have lq : xs.length = qs.length := by rw [ra.length, List.length_map]
  have item : ∀ {H1 : Hp} {i : Nat} {xv : V}, Same H H1 → xs[i]? = some xv → Rp X.K U H1 (qs.getD i (.none, .none)).1 xv ∧ qs.getD i (.none, .none) ∈ qs := fun {H1 i xv} s1 e => by
    have hi : i < qs.length := by
      obtain ⟨z, _⟩ := List.getElem?_eq_some_iff.mp e
      omega
    rw [List.getD_eq_getElem?_getD, List.getElem?_eq_getElem hi]
    obtain ⟨v, e1, r1⟩ := ra.get (i := i) (d := qs[i].1) (by rw [List.getElem?_map, List.getElem?_eq_getElem hi]; rfl)
    rw [e] at e1; cases e1
    exact ⟨r1.grow s1, List.getElem_mem hi⟩
  refine call_least (x := .ref l) (fd := f) ?_
  refine PySem.W.iter_listW (A := X.A.in1) hh hls.isList fun t et W st hfp hw hk => ?_
  have I1 : Inv X pins σ H t := by rw [et]; exact I0.kept (t' := s.toks) fun b o e => Heap.get?_push_of_some _ e
  have szs : s.heap.objs.size + 1 = t.heap.objs.size := by rw [et]; exact (Heap.size_push ..).symm
  refine ⟨s.heap.objs.size, qs.length, fun s' => ∃ H1, Mid X pins σ H t.heap.objs.size s.heap.objs.size l 0 H1 s', fun s' x => ∃ H1 xv, Mid X pins σ H t.heap.objs.size s.heap.objs.size l 1 H1 s' ∧ RelV xv x ∧ xs[0]? = some xv,
    fun j s' b kb => ∃ H1 bv kv, Mid X pins σ H t.heap.objs.size s.heap.objs.size l (j + 1) H1 s' ∧ RelV bv b ∧ RelV kv kb ∧ j < qs.length ∧ Rp X.K U H1 (bestK qs j).1 bv ∧ Rp X.K (fun _ => True) H1 (bestK qs j).2 kv,
    fun s' b => ∃ H1 bv, Inv X pins σ H1 s' ∧ Same H H1 ∧ FpOk X pins H1 t.heap.objs.size ∧ RelV bv b ∧ Rp X.K U H1 (bestK qs (qs.length - 1)).1 bv,
    fun j s' b kb x => ∃ H1 bv kv xv, Mid X pins σ H t.heap.objs.size s.heap.objs.size l (j + 2) H1 s' ∧ RelV bv b ∧ RelV kv kb ∧ RelV xv x ∧ xs[j + 1]? = some xv ∧ Rp X.K U H1 (bestK qs j).1 bv ∧ Rp X.K (fun _ => True) H1 (bestK qs j).2 kv, rfl, hn,
    { put := ?_, putE := ?_, draw0 := ?_, first := ?_, draw := ?_, stop := ?_, next := ?_ }, ?_, ?_⟩
  · rintro j s' b kb up ⟨H1, bv, kv, M, z⟩
    exact ⟨H1, bv, kv, M.put up, z⟩
  · rintro s' b up ⟨H1, bv, I2, s2, fS, z⟩
    obtain ⟨f0, f1, f2, f3, f4, f5⟩ := id fS
    exact ⟨H1, bv, I2.turned (fun b o hb e => (Heap.get?_update_other _ _ (Ne.symm hb)).trans e) f0 f1 f3 f4 f5, s2, fS, z⟩
  · rintro s' o Qx Ex ⟨H1, M⟩ hS hq
    refine M.draw hh hl (Nat.zero_le _) hS (fun x xv t' e1 r1 M1 S1 => hq x t' ⟨H1, xv, M1, r1, e1⟩ S1) fun e => absurd e (by omega)
  · rintro s' x o Qx Ex ⟨H1, xv, M, rx, e1⟩ hS no hq
    obtain ⟨r1, m1⟩ := item M.same e1
    refine M.call F hr hb rx r1 (hg _ m1) hS no fun kx t' H2 kv M2 s2 rk r2 S2 => hq kx t' ⟨H2, xv, kv, M2, rx, rk, hn, r1.grow s2, r2⟩ S2
  · rintro j s' b kb o Qx Ex hj ⟨H1, bv, kv, M, rb, rk, hj', r1, r2⟩ hS hq
    exact M.draw hh hl (by omega) hS (fun x xv t' e1 rx M1 S1 => hq x t' ⟨H1, bv, kv, xv, M1, rb, rk, rx, e1, r1, r2⟩ S1) fun e => absurd e (by omega)
  · rintro j s' b kb o Qx Ex hj ⟨H1, bv, kv, M, rb, rk, hj', r1, r2⟩ hS hq
    refine M.draw hh hl (by omega) hS (fun x xv t' e1 => ?_) fun _ t' I2 S2 => hq t' ⟨H1, bv, I2, M.same, M.fS, rb, ?_⟩ S2
    · rw [List.getElem?_eq_none (by omega)] at e1; cases e1
    · rw [show qs.length - 1 = j by omega]; exact r1
  · rintro j s' b kb x o Qx Ex hj ⟨H1, bv, kv, xv, M, rb, rk, rx, e1, r1, r2⟩ hS no hq
    obtain ⟨ri, mi⟩ := item M.same e1
    refine M.call F hr hb rx ri (hg _ mi) hS no fun kx t' H2 kxv M2 s2 rkx rkd S2 => hq kx t' S2 fun Qy Ey hy => ?_
    have mb : bestK qs j ∈ qs := bestK_mem (by omega)
    obtain ⟨⟨y1, y2⟩, y3⟩ := (k1 _ mi).imp_left fun z => by simpa [keyOk] using z
    obtain ⟨⟨y4, y5⟩, y6⟩ := (k1 _ mb).imp_left fun z => by simpa [keyOk] using z
    obtain ⟨as1, w1⟩ := rkd.reads M2.inv y1 rkx
    obtain ⟨as2, w2⟩ := (r2.grow s2).reads M2.inv y4 rk
    refine PySem.W.rcLt_alike _ _ X.A.in1 t' kx kb _ _ w1 w2 (k2 _ mi _ mb) y3 ?_ X.prog X.w Ey Qy (hy _ (fun e => ?_) fun e => ?_)
    · have := hr.un
      have := Nat.min_le_left (qs.getD (j + 1) (PyData.none, PyData.none)).2.depth (bestK qs j).2.depth
      show X.A.units + 1 + _ < _
      omega
    · have eb : bestK qs (j + 1) = qs.getD (j + 1) (.none, .none) := by unfold bestK stK; rw [if_pos e]
      exact ⟨H2, xv, kxv, M2, rx, rkx, hj, by rw [eb]; exact ri.grow s2, by rw [eb]; exact rkd⟩
    · have eb : bestK qs (j + 1) = bestK qs j := by
        show stK _ _ = _
        unfold stK; rw [if_neg (by rw [e]; exact Bool.false_ne_true)]
      exact ⟨H2, bv, kv, M2, rb, rk, hj, by rw [eb]; exact r1.grow s2, by rw [eb]; exact r2.grow s2⟩
  · refine ⟨H, I1.kept (t' := t.toks) fun b o e => Heap.get?_push_of_some _ e, Same.refl H, I1.fpOk (Nat.le_refl _) (I1.hok.fresh (Nat.le_refl _)), I0.fpOk (Nat.le_refl _) (I0.hok.fresh (Nat.le_refl _)), fun z => by have z' : (t.heap.objs.size : Nat) = s.heap.objs.size := z; omega, ?_⟩
    obtain ⟨o, e, z⟩ := st.1
    exact ⟨o, Heap.get?_push_of_some _ e, z⟩
  · rintro b' t' ⟨H1, bv, I2, s2, _, rb, r1⟩
    exact ⟨bv, H1, I2, rb, q bv H1 s2 r1⟩
end
/-! told on data -/
section
variable {X : Cx} {k : Nat} {f : Addr} {fd : FuncData} {ps : List Str} {gd : List PyData → Option PyData} {e : Expr} {c c1 : Bool} {fe : En → Option PyData}
def keysD (g : List PyData → Option PyData) : List PyData → Option (List (PyData × PyData))
  | [] => some []
  | d :: ds => match g [d] with
    | some kd => (keysD g ds).map ((d, kd) :: ·)
    | none => none
theorem keysD_spec {g : List PyData → Option PyData} : ∀ {ds : List PyData} {qs : List (PyData × PyData)}, keysD g ds = some qs → qs.map (·.1) = ds ∧ ∀ q ∈ qs, g [q.1] = some q.2
  | [], qs, h => by
    cases h
    exact ⟨rfl, fun _ z => nomatch z⟩
  | d :: ds, qs, h => by
    unfold keysD at h
    split at h
    · rename_i kd hk
      cases e : keysD g ds with
      | none => rw [e] at h; cases h
      | some r =>
        rw [e] at h
        cases h
        obtain ⟨h1, h2⟩ := keysD_spec e
        refine ⟨by rw [List.map_cons, h1], fun q hq => ?_⟩
        rcases List.mem_cons.mp hq with rfl | hq
        · exact hk
        · exact h2 q hq
    · cases h
/-- what all keys look like -/
def keysB (qs : List (PyData × PyData)) : Bool := qs.all fun q => keyOk q && (match q.2 with | .none => false | _ => true) && qs.all fun q' => PySem.W.alike q.2 q'.2
theorem keysB_ok {qs : List (PyData × PyData)} (h : keysB qs = true) : keysOk qs := by
  unfold keysB at h
  rw [List.all_eq_true] at h
  refine ⟨fun q hq => ?_, fun q hq q' hq' => ?_⟩
  · have := h q hq
    rw [Bool.and_eq_true, Bool.and_eq_true] at this
    refine ⟨this.1.1, fun z => ?_⟩
    rw [z] at this
    exact absurd this.1.2 Bool.false_ne_true
  · have := h q hq
    rw [Bool.and_eq_true, List.all_eq_true] at this
    exact this.2 q' hq'
def eMinK (g : List PyData → Option PyData) (f : En → Option PyData) : En → Option PyData := fun env => match f env with
  | some (.list ds) => match keysD g ds with
    | some qs => if keysB qs = true ∧ 0 < qs.length then some (bestK qs (qs.length - 1)).1 else none
    | none => none
  | _ => none
theorem ce_minK (h : PE X e (tCKw (rMinK X f gd) (tCons (tE X.K c fe) tNil) (tCons (tC (.ref f)) tNil))) : PE X e (tE X.K c (eMinK gd fe)) := pe_w h fun σ H Q ⟨S0, H0, A, env, d, E, hf, q⟩ => by
  unfold eMinK at hf
  split at hf
  · rename_i ds hd
    split at hf
    · rename_i qs hq
      split at hf
      · rename_i hk
        cases hf
        refine ⟨S0, H0, A, env, _, E, hd, fun v H1 s r => ?_⟩
        rw [Rp] at r
        obtain ⟨a, xs, rfl, hs, ra⟩ := r
        obtain ⟨m1, m2⟩ := keysD_spec hq
        exact ⟨a, xs, _, qs, rfl, rfl, hs.sq, by rw [m1]; exact ra, m2, keysB_ok hk.1, hk.2, fun v H2 s2 r2 => q v H2 (s.trans s2) r2⟩
      · cases hf
    · cases hf
  · cases hf
end
end Mir
namespace Mir
open PySem PySem.Spec PyProof.Rows L2
/-! a < b, data of any alike kind -/
section
variable {X : Cx} {K : PySem.W.Frag}
def ltOk (x y : PyData) : Bool := noD x && noD y && PySem.W.alike x y && (match x with | .none => false | _ => true) && decide (x.depth ≤ 60)
def ltU (x y : PyData) : Option PyData := if ltOk x y = true then some (.bool (PySem.W.dataLt x y)) else none
def rLtU (K : PySem.W.Frag) : R2 := fun x y H Q => ∃ S S' d e, Rp K S H d x ∧ Rp K S' H e y ∧ ltOk d e = true ∧ Q (.bl (PySem.W.dataLt d e)) H
theorem op_ltU (hu : X.A.units + 64 < cLine) : OpR X (compareOp .Lt) (rLtU X.K) := by
  intro pins s σ H x y v u Q I rx ry h
  obtain ⟨S, S', d, e, r1, r2, ok, q⟩ := h
  unfold ltOk at ok
  rw [Bool.and_eq_true, Bool.and_eq_true, Bool.and_eq_true, Bool.and_eq_true] at ok
  obtain ⟨⟨⟨⟨n1, n2⟩, al⟩, nn⟩, dp⟩ := ok
  obtain ⟨as, w1⟩ := r1.reads I n1 rx
  obtain ⟨bs, w2⟩ := r2.reads I n2 ry
  refine PySem.W.lt_data w1 w2 al (fun z => by rw [z] at nn; exact absurd nn Bool.false_ne_true) ?_ ⟨.bl _, H, I, rfl, q⟩
  have := of_decide_eq_true dp
  have := Nat.min_le_left d.depth e.depth
  omega
theorem r2_ltU : R2Ok K true (rLtU K) ltU := by
  intro S S' H x y dx dy d Q hn hS rx ry h q
  unfold ltU at h
  split at h
  · rename_i hk
    cases h
    exact ⟨_, _, dx, dy, rx, ry, hk, q _ H (Same.refl H) rpb⟩
  · cases h
end
end Mir

/-! Mir14: texts: walked, split, written, read; a tuple of texts of the module -/
namespace Mir
open PySem PySem.Spec PyProof.Rows L2
section
variable {X : Cx} {K : PySem.W.Frag} {a b e tg iter : Expr} {pos apos : Pos} {c c1 c2 : Bool} {f g : En → Option PyData} {fa : En → Option (List PyData)}
/-! ### a text, sign by sign -/
def sgD (n : Nat) : PyData := .str ⟨#[n]⟩
def sgsD (x : Str) : List PyData := x.cps.toList.map sgD
theorem wk_str {x : Str} {S : Addr → Prop} : Wk K (Its x) (fun _ => True) S (sgsD x) where
  go := fun i H _ h => by
    unfold sgsD at h
    rw [List.length_map, Array.length_toList] at h
    exact h
  yld := fun i H d v H' _ h ⟨e, n, h1, h2⟩ => by
    subst e h2
    unfold sgsD at h
    rw [List.getElem?_map, Array.getElem?_toList, h1] at h
    cases h
    exact ⟨Same.refl _, by unfold sgD; rw [Rp]⟩
  stop := fun i H _ h => by
    unfold sgsD at h
    rw [List.length_map, Array.length_toList] at h
    exact h
def iStrD (f : En → Option PyData) : En → Option (List PyData) := fun env => match f env with
  | some (.str x) => some (sgsD x)
  | _ => none
theorem ci_str {f : En → Option PyData} (h : PE X iter (tE X.K c1 f)) : PI X tg iter (tI X.K c (iStrD f)) := pi_w (pi_str h) fun σ H R ⟨S0, H0, A, env, ds, E, hf, q⟩ => by
  unfold iStrD at hf
  split at hf
  · rename_i x hd
    cases hf
    refine ⟨S0, H0, A, env, _, E, hd, fun v H1 s r => ?_⟩
    rw [Rp] at r
    subst r
    exact ⟨x, rfl, q _ H1 _ s (fun _ _ => trivial) (fun _ _ _ => trivial) wk_str⟩
  · cases hf
/-! ### one sign in a text; else as ever -/
def inX (x y : PyData) : Option PyData := match y with
  | .str z => (match x with
    | .str w => (match w.cps.toList with
      | [n] => some (.bool (decide (n ∈ z.cps.toList)))
      | _ => none)
    | _ => none)
  | .tuple ds => if (SeqAt.shaped x && SeqAt.shaped (.tuple ds)) = true then some (.bool (ds.any fun z => PyData.eqv z x)) else none
  | _ => inT x y
def notInX (x y : PyData) : Option PyData := match y with
  | .str z => (match x with
    | .str w => (match w.cps.toList with
      | [n] => some (.bool (!decide (n ∈ z.cps.toList)))
      | _ => none)
    | _ => none)
  | .tuple ds => if (SeqAt.shaped x && SeqAt.shaped (.tuple ds)) = true then some (.bool (!ds.any fun z => PyData.eqv z x)) else none
  | _ => notInT x y
def rTupD (K : PySem.W.Frag) (neg : Bool) : R2 := fun x y H Q => ∃ d ds, Dp K H x d ∧ Dp K H y (.tuple ds) ∧ SeqAt.shaped d = true ∧ SeqAt.shaped (.tuple ds) = true ∧ Q (.bl (if neg then !ds.any fun z => PyData.eqv z d else ds.any fun z => PyData.eqv z d)) H
theorem op_inTupD (hu : X.A.units + 65 < cLine) : OpR X (compareOp .In) (rTupD X.K false) := by
  intro pins s σ H x y v u Q I rx ry h
  obtain ⟨d, ds, hd, he, sd, se, q⟩ := h
  obtain ⟨as, r1⟩ := Dp.reads I d x v hd rx
  obtain ⟨bs, r2⟩ := Dp.reads I (.tuple ds) y u he ry
  exact SeqAt.in_tuple_reads r2 r1 (SeqAt.canLay_of_shaped se) (SeqAt.canLay_of_shaped sd) (room_in_shaped sd hu) ⟨.bl _, H, I, rfl, q⟩
theorem op_notInTupD (hu : X.A.units + 65 < cLine) : OpR X (compareOp .NotIn) (rTupD X.K true) := by
  intro pins s σ H x y v u Q I rx ry h
  obtain ⟨d, ds, hd, he, sd, se, q⟩ := h
  obtain ⟨as, r1⟩ := Dp.reads I d x v hd rx
  obtain ⟨bs, r2⟩ := Dp.reads I (.tuple ds) y u he ry
  exact SeqAt.notIn_tuple_reads r2 r1 (SeqAt.canLay_of_shaped se) (SeqAt.canLay_of_shaped sd) (room_in_shaped sd hu) ⟨.bl _, H, I, rfl, q⟩
def rSign : R2 := fun x y H Q => ∃ (c : Nat) (z : Str), x = .str ⟨#[c]⟩ ∧ y = .str z ∧ Q (.bl (decide (c ∈ z.cps.toList))) H
def rNotSign : R2 := fun x y H Q => ∃ (c : Nat) (z : Str), x = .str ⟨#[c]⟩ ∧ y = .str z ∧ Q (.bl (!decide (c ∈ z.cps.toList))) H
theorem op_inX (hu : X.A.units + 65 < cLine) : OpR X (compareOp .In) (fun x y H Q => ((rInD X.K x y H Q ∨ rIn X.K false x y H Q) ∨ rTupD X.K false x y H Q) ∨ rSign x y H Q) := OpR.or (OpR.or (op_inT hu) (op_inTupD hu)) op_in_sign
theorem op_notInX (hu : X.A.units + 65 < cLine) : OpR X (compareOp .NotIn) (fun x y H Q => ((rNotInD X.K x y H Q ∨ rIn X.K true x y H Q) ∨ rTupD X.K true x y H Q) ∨ rNotSign x y H Q) := OpR.or (OpR.or (op_notInT hu) (op_notInTupD hu)) op_notIn_sign
theorem one_of {w : Str} {n : Nat} (h : w.cps.toList = [n]) : w = ⟨#[n]⟩ := by
  cases w with
  | mk cps =>
    congr 1
    exact Array.toList_inj.mp h
theorem r2_inX : R2Ok K true (fun x y H Q => ((rInD K x y H Q ∨ rIn K false x y H Q) ∨ rTupD K false x y H Q) ∨ rSign x y H Q) inX := by
  intro S S' H x y dx dy d Q hn hS rx ry h q
  cases dy with
  | str z =>
    cases dx with
    | str w =>
      have h' : (match w.cps.toList with
        | [n] => some (PyData.bool (decide (n ∈ z.cps.toList)))
        | _ => none) = some d := h
      rw [Rp] at rx ry
      subst rx ry
      split at h'
      · rename_i n hw
        cases h'
        exact .inr ⟨n, z, by rw [one_of hw], rfl, q _ H (Same.refl H) rpb⟩
      · cases h'
    | none => cases h
    | bool _ => cases h
    | int _ => cases h
    | list _ => cases h
    | tuple _ => cases h
    | dict _ => cases h
  | none => exact .inl (.inl (r2_inT S S' H x y dx _ d Q hn hS rx ry h q))
  | bool _ => exact .inl (.inl (r2_inT S S' H x y dx _ d Q hn hS rx ry h q))
  | int _ => exact .inl (.inl (r2_inT S S' H x y dx _ d Q hn hS rx ry h q))
  | list _ => exact .inl (.inl (r2_inT S S' H x y dx _ d Q hn hS rx ry h q))
  | tuple ds =>
    have h' : (if (SeqAt.shaped dx && SeqAt.shaped (.tuple ds)) = true then some (PyData.bool (ds.any fun z => PyData.eqv z dx)) else none) = some d := h
    split at h'
    · rename_i hs
      rw [Bool.and_eq_true] at hs
      cases h'
      exact .inl (.inr ⟨dx, ds, rx.dp hs.1, ry.dp hs.2, hs.1, hs.2, q _ H (Same.refl H) rpb⟩)
    · cases h'
  | dict _ => exact .inl (.inl (r2_inT S S' H x y dx _ d Q hn hS rx ry h q))
theorem r2_notInX : R2Ok K true (fun x y H Q => ((rNotInD K x y H Q ∨ rIn K true x y H Q) ∨ rTupD K true x y H Q) ∨ rNotSign x y H Q) notInX := by
  intro S S' H x y dx dy d Q hn hS rx ry h q
  cases dy with
  | str z =>
    cases dx with
    | str w =>
      have h' : (match w.cps.toList with
        | [n] => some (PyData.bool (!decide (n ∈ z.cps.toList)))
        | _ => none) = some d := h
      rw [Rp] at rx ry
      subst rx ry
      split at h'
      · rename_i n hw
        cases h'
        exact .inr ⟨n, z, by rw [one_of hw], rfl, q _ H (Same.refl H) rpb⟩
      · cases h'
    | none => cases h
    | bool _ => cases h
    | int _ => cases h
    | list _ => cases h
    | tuple _ => cases h
    | dict _ => cases h
  | none => exact .inl (.inl (r2_notInT S S' H x y dx _ d Q hn hS rx ry h q))
  | bool _ => exact .inl (.inl (r2_notInT S S' H x y dx _ d Q hn hS rx ry h q))
  | int _ => exact .inl (.inl (r2_notInT S S' H x y dx _ d Q hn hS rx ry h q))
  | list _ => exact .inl (.inl (r2_notInT S S' H x y dx _ d Q hn hS rx ry h q))
  | tuple ds =>
    have h' : (if (SeqAt.shaped dx && SeqAt.shaped (.tuple ds)) = true then some (PyData.bool (!ds.any fun z => PyData.eqv z dx)) else none) = some d := h
    split at h'
    · rename_i hs
      rw [Bool.and_eq_true] at hs
      cases h'
      exact .inl (.inr ⟨dx, ds, rx.dp hs.1, ry.dp hs.2, hs.1, hs.2, q _ H (Same.refl H) rpb⟩)
    · cases h'
  | dict _ => exact .inl (.inl (r2_notInT S S' H x y dx _ d Q hn hS rx ry h q))
/-! ### str(i), int(text) -/
def strA : List PyData → Option PyData
  | [.int i] => if i.natAbs.log2 < 1920 then some (.str (toString i)) else none
  | _ => none
theorem cr_strI : CROk K true (fun xs H Q => ∃ i, xs = [.int i] ∧ i.natAbs.log2 < 1920 ∧ Q (.str (toString i)) H) strA := by
  intro S S' H vs ds d Q _ _ r h q
  unfold strA at h
  split at h
  · split at h
    · rename_i hz
      cases h
      obtain ⟨v, rfl, r1⟩ := r.one
      rw [Rp] at r1
      subst r1
      exact ⟨_, rfl, hz, q _ H (Same.refl H) (by rw [Rp])⟩
    · cases h
  · cases h
def intSA : List PyData → Option PyData
  | [.str a] => if a.length ≤ 640 then (PySem.intText? a).map .int else none
  | _ => none
theorem cr_intS : CROk K true (fun xs H Q => ∃ a n, xs = [.str a] ∧ PySem.intText? a = some n ∧ a.length ≤ 640 ∧ Q (.int n) H) intSA := by
  intro S S' H vs ds d Q _ _ r h q
  unfold intSA at h
  split at h
  · split at h
    · rename_i hz
      obtain ⟨n, hn, rfl⟩ := Option.map_eq_some_iff.mp h
      obtain ⟨v, rfl, r1⟩ := r.one
      rw [Rp] at r1
      subst r1
      exact ⟨_, n, rfl, hn, hz, q _ H (Same.refl H) rp1⟩
    · cases h
  · cases h
/-! ### s.split(t), s.endswith(t) -/
def fSplit (f g : En → Option PyData) : En → Option (List PyData) := fun env => match f env with
  | some (.str x) => (match g env with
    | some (.str y) => if (y.length == 0) = false ∧ x.length ≤ 1000000 then some ((Txt.split x y).map .str) else none
    | _ => none)
  | _ => none
theorem RpA.strs {S : Addr → Prop} {H : Hp} : ∀ xs : List Str, RpA K S H (xs.map PyData.str) (xs.map V.str)
  | [] => RpA.nil
  | x :: xs => RpA.cons (by rw [Rp]) (RpA.strs xs)
theorem cf_split (h : PE X e (tM1 (fun x xs H Q => ∃ a b, x = .str a ∧ xs = [.str b] ∧ (b.length == 0) = false ∧ a.length + 2 ≤ sizeLine ∧ rNewStrs (Txt.split a b) H Q) (tE X.K c1 f) (tE X.K c2 g))) : PE X e (tF X.K c (fSplit f g)) := pe_w h fun σ H Q ⟨S0, H0, A, env, ds, E, hf, q⟩ => by
  unfold fSplit at hf
  split at hf
  · rename_i x hx
    split at hf
    · rename_i y hy
      split at hf
      · rename_i hz
        cases hf
        refine ⟨S0, H0, A, env, _, E, hx, fun v H1 s r => ?_⟩
        rw [Rp] at r
        subst r
        refine ⟨⟨_, rfl⟩, S0, H0, A, env, _, E.grow s, hy, fun u H2 s2 r2 => ?_⟩
        rw [Rp] at r2
        subst r2
        refine ⟨_, _, rfl, rfl, hz.1, Nat.le_trans (Nat.add_le_add_right hz.2 2) (by decide), fun p hp => ?_⟩
        exact q p _ _ ((s.trans s2).free hp) ((s.trans s2).trans (same_new hp)) upd_same (RpA.strs _)
      · cases hf
    · cases hf
  · cases hf
def eEnds (f g : En → Option PyData) : En → Option PyData := fun env => match f env with
  | some (.str x) => (match g env with
    | some (.str y) => some (.bool (Txt.endswith x y))
    | _ => none)
  | _ => none
theorem ce_ends (h : PE X e (tM1 (fun x xs H Q => ∃ a b, x = .str a ∧ xs = [.str b] ∧ Q (.bl (Txt.endswith a b)) H) (tE X.K c1 f) (tE X.K c2 g))) : PE X e (tE X.K c (eEnds f g)) := pe_w h fun σ H Q ⟨S0, H0, A, env, d, E, hf, q⟩ => by
  unfold eEnds at hf
  split at hf
  · rename_i x hx
    split at hf
    · rename_i y hy
      cases hf
      refine ⟨S0, H0, A, env, _, E, hx, fun v H1 s r => ?_⟩
      rw [Rp] at r
      subst r
      refine ⟨⟨_, rfl⟩, S0, H0, A, env, _, E.grow s, hy, fun u H2 s2 r2 => ?_⟩
      rw [Rp] at r2
      subst r2
      exact ⟨_, _, rfl, rfl, q _ H2 (s.trans s2) rpb⟩
    · cases hf
  · cases hf
/-! ### f'..' -/
def fmtD : PyData → Option Str
  | .str y => if y.length ≤ 1000000 then some y else none
  | .int i => if i.natAbs.log2 < 1920 then some (toString i) else none
  | _ => none
def eFmt (f : En → Option PyData) : En → Option PyData := fun env => ((f env).bind fmtD).map .str
theorem ce_fmt (h : PE X e (tFmt (tE X.K c1 f))) : PE X e (tE X.K c (eFmt f)) := pe_w h fun σ H Q ⟨S0, H0, A, env, d, E, hf, q⟩ => by
  unfold eFmt at hf
  cases hx : f env with
  | none => rw [hx] at hf; cases hf
  | some x =>
    rw [hx] at hf
    refine ⟨S0, H0, A, env, _, E, hx, fun v H1 s r => ?_⟩
    cases x with
    | str y =>
      rw [Rp] at r
      subst r
      simp only [Option.bind_some, fmtD] at hf
      split at hf
      · rename_i hz
        cases hf
        exact .inl ⟨y, rfl, sz6 hz, q _ H1 s (by rw [Rp])⟩
      · cases hf
    | int i =>
      rw [Rp] at r
      subst r
      simp only [Option.bind_some, fmtD] at hf
      split at hf
      · rename_i hz
        cases hf
        exact .inr ⟨i, rfl, hz, q _ H1 s (by rw [Rp])⟩
      · cases hf
    | none => cases hf
    | bool _ => cases hf
    | list _ => cases hf
    | tuple _ => cases hf
    | dict _ => cases hf
def joinE : List (En → Option PyData) → Str → En → Option Str
  | [], acc, _ => some acc
  | f :: fs, acc, env => match f env with
    | some (.str y) => if (acc ++ y).length ≤ 1000000 then joinE fs (acc ++ y) env else none
    | _ => none
def eFs (fs : List (En → Option PyData)) : En → Option PyData := fun env => (joinE fs Str.empty env).map .str
theorem joins_run {σ : L2.St} {S0 A : Addr → Prop} {H0 : Hp} {env : En} {Q : Str → Hp → Prop} : ∀ {fs : List (En → Option PyData)} {acc out : Str} {H : Hp}, EnvOk K S0 H0 A H σ env → joinE fs acc env = some out → (∀ H', Same H H' → Q out H') → tJs (fs.map fun f => tE K true f) acc σ H Q
  | [], acc, out, H, E, h, q => by
    cases h
    exact q H (Same.refl H)
  | f :: fs, acc, out, H, E, h, q => by
    unfold joinE at h
    split at h
    · rename_i y hy
      split at h
      · rename_i hz
        refine ⟨S0, H0, A, env, _, E, hy, fun v H1 s r => ?_⟩
        rw [Rp] at r
        subst r
        exact ⟨y, rfl, sz6 hz, joins_run (E.grow s) h fun H' s' => q H' (s.trans s')⟩
      · cases h
    · cases h
theorem ce_fs {fs : List (En → Option PyData)} (h : PE X e (fun σ H Q => tJs (fs.map fun f => tE X.K true f) Str.empty σ H fun out H1 => Q (.str out) H1)) : PE X e (tE X.K c (eFs fs)) := pe_w h fun σ H Q ⟨S0, H0, A, env, d, E, hf, q⟩ => by
  unfold eFs at hf
  obtain ⟨out, ho, rfl⟩ := Option.map_eq_some_iff.mp hf
  exact joins_run E ho fun H' s => q _ H' s (by rw [Rp])
/-! ### a statement that is never reached -/
def sNever : En → Out := fun _ => .bad
theorem cs_never {st : Stmt} : PS X st (tS X.K sNever) := ⟨fun pins s σ H D I q => by obtain ⟨_, _, _, _, _, o⟩ := q; exact o.elim⟩
/-! ### a tuple of texts of the module -/
def KTup (K : PySem.W.Frag) (z : Addr) (xs : List Str) : Prop := ∃ (o : Obj) (its : Array Value) (n : Nat), K.lookup z = some o ∧ o.cls = .type "tuple" ∧ o.data = .seq its n ∧ its.size ≤ sizeLine ∧ Vals (xs.map V.str) its.toList
theorem KTup.sq {z : Addr} {xs : List Str} {H : Hp} (h : KTup K z xs) : SqT K H z (xs.map V.str) := .inr h
def eInG (neg : Bool) (xs : List Str) (f : En → Option PyData) : En → Option PyData := fun env => match f env with
  | some (.str y) => some (.bool (if neg then !decide (y ∈ xs) else decide (y ∈ xs)))
  | _ => none
theorem inV_strs (y : Str) : ∀ xs : List Str, inV (.str y) (xs.map V.str) = decide (y ∈ xs)
  | [] => rfl
  | x :: xs => by
    have ih := inV_strs y xs
    unfold inV at ih ⊢
    rw [List.map_cons, List.any_cons, ih]
    have e : eqV (.str x) (.str y) = decide (x = y) := by
      show (x == y) = decide (x = y)
      by_cases h : x = y
      · subst h; simp
      · rw [decide_eq_false h]; simpa using h
    rw [e]
    by_cases h : x = y
    · subst h; simp
    · have h' : ¬ y = x := fun z => h z.symm
      simp [h, h']
theorem flat_strs : ∀ xs : List Str, (xs.map V.str).all flatV = true
  | [] => rfl
  | x :: xs => by rw [List.map_cons, List.all_cons, flat_strs xs]; rfl
theorem in_run {neg : Bool} {z : Addr} {xs : List Str} (hz : KTup K z xs) {σ : L2.St} {H : Hp} {Q : VK} (q : tE K c (eInG neg xs f) σ H Q) : tOp (rIn K neg) (tE K c1 f) (tC (.ref z)) σ H Q := by
  obtain ⟨S0, H0, A, env, d, E, hf, q⟩ := q
  unfold eInG at hf
  split at hf
  · rename_i y hy
    cases hf
    refine ⟨S0, H0, A, env, _, E, hy, fun v H1 s r => ?_⟩
    rw [Rp] at r
    subst r
    refine ⟨z, xs.map V.str, rfl, .inr hz.sq, rfl, flat_strs xs, ?_⟩
    rw [inV_strs]
    have h := q (.bl (if neg then !decide (y ∈ xs) else decide (y ∈ xs))) H1 s rpb
    cases neg <;> exact h
  · cases hf
theorem ce_inG {neg : Bool} {z : Addr} {xs : List Str} {op : CmpOp} (hz : KTup X.K z xs) (ho : OpR X (compareOp op) (rIn X.K neg)) (ha : PE X a (tE X.K c1 f)) (hb : PE X b (tC (.ref z))) (hm : behindInMarks op b = false) : PE X (.Compare a [op] [b] pos) (tE X.K c (eInG neg xs f)) :=
  pe_w (pe_cmpR ho ha hb hm) fun _ _ _ q => in_run hz q
theorem ct_inG {neg : Bool} {z : Addr} {xs : List Str} {op : CmpOp} (hz : KTup X.K z xs) (ho : OpR X (compareOp op) (rIn X.K neg)) (ha : PE X a (tE X.K c1 f)) (hb : PE X b (tC (.ref z))) (hm : behindInMarks op b = false) : PT X (.Compare a [op] [b] pos) (tT X.K (t1 (eInG neg xs f))) :=
  pt_w (pt_cmpR ho ha hb hm) fun _ _ _ q => t1_run (c := true) (fun _ q => in_run hz q) q
theorem idx_first {y : Str} : ∀ (xs : List Str) (m : Nat), m < xs.idxOf y → xs[m]? ≠ some y
  | [], m, h, _ => by simp at h
  | x :: xs, m, h, e => by
    rw [List.idxOf_cons] at h
    cases hb : x == y with
    | true => rw [hb] at h; simp at h
    | false =>
      rw [hb] at h
      cases m with
      | zero =>
        have e' : x = y := by simpa using e
        rw [e'] at hb
        simp at hb
      | succ m => exact idx_first xs m (by simpa using h) (by simpa using e)
def eIdxG (xs : List Str) (f : En → Option PyData) : En → Option PyData := fun env => match f env with
  | some (.str y) => if y ∈ xs then some (.int (xs.idxOf y : Nat)) else none
  | _ => none
theorem tup_index_run {z : Addr} {xs : List Str} (hz : KTup K z xs) (ht : ∃ o, K.lookup z = some o ∧ o.cls = .type "tuple" ∧ o.dict = none) {σ : L2.St} {H : Hp} {Q : VK} (q : tE K c (eIdxG xs f) σ H Q) :
    tBM K "tuple" (fun x ys H Q => ∃ p, ∃ ws : List Str, ∃ z j, x = .ref p ∧ ys = [.str z] ∧ SqT K H p (ws.map V.str) ∧ ws[j]? = some z ∧ (∀ m, m < j → ws[m]? ≠ some z) ∧ Q (.int (j : Nat)) H) (tC (.ref z)) (tCons (tE K c1 f) tNil) σ H Q := by
  obtain ⟨S0, H0, A, env, d, E, hf, q⟩ := q
  unfold eIdxG at hf
  split at hf
  · rename_i y hy
    split at hf
    · rename_i hm
      cases hf
      refine ⟨.inr (.inl ⟨rfl, ht⟩), S0, H0, A, env, _, E, hy, fun v H1 s r => ?_⟩
      rw [Rp] at r
      subst r
      have hl : xs.idxOf y < xs.length := List.idxOf_lt_length_iff.mpr hm
      refine ⟨z, xs, y, xs.idxOf y, rfl, rfl, hz.sq, ?_, fun m hm' e => ?_, q _ H1 s rp1⟩
      · rw [List.getElem?_eq_getElem hl, List.getElem_idxOf hl]
      · exact idx_first xs m hm' e
    · cases hf
  · cases hf
theorem ce_idxG {z : Addr} {xs : List Str} (hz : KTup X.K z xs) (ht : ∃ o, X.K.lookup z = some o ∧ o.cls = .type "tuple" ∧ o.dict = none) (h : PE X e (tBM X.K "tuple" (fun x ys H Q => ∃ p, ∃ ws : List Str, ∃ z j, x = .ref p ∧ ys = [.str z] ∧ SqT X.K H p (ws.map V.str) ∧ ws[j]? = some z ∧ (∀ m, m < j → ws[m]? ≠ some z) ∧ Q (.int (j : Nat)) H) (tC (.ref z)) (tCons (tE X.K c1 f) tNil))) :
    PE X e (tE X.K c (eIdxG xs f)) := pe_w h fun _ _ _ q => tup_index_run hz ht q
/-- the tuple itself, walked -/
def iG (xs : List Str) : En → Option (List PyData) := fun _ => some (xs.map .str)
theorem wk_tupK {z : Addr} {xs : List Str} (hz : KTup K z xs) {S : Addr → Prop} : Wk K (Itt K z) (fun _ => True) S (xs.map PyData.str) where
  go := fun i H _ h => ⟨xs.map V.str, (xs.map V.str)[i]'(by simpa using h), hz.sq, by rw [List.getElem?_eq_getElem]⟩
  yld := fun i H d v H' _ h ⟨e, y⟩ => by
    subst e
    exact ⟨Same.refl _, (RpA.strs (K := K) (S := S) (H := H') xs).at h (y _ hz.sq)⟩
  stop := fun i H _ h => ⟨xs.map V.str, hz.sq, by simpa using h⟩
theorem ci_G {z : Addr} {xs : List Str} (hz : KTup X.K z xs) (h : PE X iter (tC (.ref z))) : PI X tg iter (tI X.K c (iG xs)) := pi_w (pi_tup h) fun σ H R ⟨S0, H0, A, env, ds, E, hf, q⟩ => by
  cases hf
  exact ⟨z, rfl, ⟨_, hz.sq⟩, q _ H _ (Same.refl H) (fun _ _ => trivial) (fun _ _ _ => trivial) (wk_tupK hz)⟩
end
end Mir
namespace Mir
open PySem PySem.Spec PyProof.Rows L2
section
variable {X : Cx} {K : PySem.W.Frag}
def gtU (x y : PyData) : Option PyData := if ltOk x y = true then some (.bool (PySem.W.dataLt y x)) else none
def rGtU (K : PySem.W.Frag) : R2 := fun x y H Q => ∃ S S' d e, Rp K S H d x ∧ Rp K S' H e y ∧ ltOk d e = true ∧ Q (.bl (PySem.W.dataLt e d)) H
theorem op_gtU (hu : X.A.units + 64 < cLine) : OpR X (compareOp .Gt) (rGtU X.K) := by
  intro pins s σ H x y v u Q I rx ry h
  obtain ⟨S, S', d, e, r1, r2, ok, q⟩ := h
  unfold ltOk at ok
  rw [Bool.and_eq_true, Bool.and_eq_true, Bool.and_eq_true, Bool.and_eq_true] at ok
  obtain ⟨⟨⟨⟨n1, n2⟩, al⟩, nn⟩, dp⟩ := ok
  obtain ⟨as, w1⟩ := r1.reads I n1 rx
  obtain ⟨bs, w2⟩ := r2.reads I n2 ry
  refine PySem.W.gt_data w1 w2 al (fun z => by rw [z] at nn; exact absurd nn Bool.false_ne_true) ?_ ⟨.bl _, H, I, rfl, q⟩
  have := of_decide_eq_true dp
  have := Nat.min_le_left d.depth e.depth
  omega
theorem r2_gtU : R2Ok K true (rGtU K) gtU := by
  intro S S' H x y dx dy d Q hn hS rx ry h q
  unfold gtU at h
  split at h
  · rename_i hk
    cases h
    exact ⟨_, _, dx, dy, rx, ry, hk, q _ H (Same.refl H) rpb⟩
  · cases h
end
end Mir

/-! Exc4: isinstance(e, T) of the exception that a suite holds -/
namespace Mir
open PySem PySem.Spec PyProof.Rows L2
/-- what the written part says of the class, for isinstance -/
structure KitEx (K : PySem.W.Frag) (C : Addr) : Prop where
  cl : (PySem.W.clsIn K C).isSome = true
  ha : PySem.W.findIn K (.ref C) "__class__" = some (some (.builtin "object.__class__"))
  hn : PySem.W.specialIn K (.builtin "object.__class__") "__get__" = some (some (.builtin "getset_descriptor.__get__"))
  tk : PySem.W.takesIn K (.builtin "object.__class__") = some true
  hm : PySem.W.mroIn K C (.type "object") = some true
section
variable {X : Cx} {C fI : Addr} {e b : Expr} {pos p : Pos} {c : Bool}
def rIsiEx (K : PySem.W.Frag) (C a : Addr) (dx : Option Addr) : List V → Hp → VK → Prop := fun xs H Q => ∃ (cv : V) (u : Value) (dd : Addr) (v : V), xs = [.ref a, cv] ∧ ClsV cv u ∧ PySem.W.kitOne K (.ref C) u = some true ∧ dx = some dd ∧ H dd = some (xdW v) ∧ Q (.bl true) H
theorem call_isiEx {a : Addr} {oe : Obj} {cls : Value} {dx : Option Addr} {pn : List (Addr × Obj)} (T : PySem.RfX.RfTxt X.prog X.K X.mg C fI) (KX : KitEx X.K C) (hz : Zc cls dx oe) (hf : ∃ vs, oe.data = .fields vs) (h1 : cls = .ref C) :
    CallR (X.suite a ((a, oe) :: pn)) (.builtin "isinstance") (rIsiEx X.K C a dx) := by
  intro pins s σ H xs us Q I r h
  obtain ⟨cv, u, dd, v, rfl, k, kt, ed, ea, q⟩ := h
  obtain ⟨u1, u2, rfl, r1, r2⟩ := vals2 r
  cases (show u1 = Value.ref a from r1)
  have e2 := k.eq r2
  subst e2
  subst h1
  subst ed
  obtain ⟨hp, _⟩ := I.pin (a, oe) (List.mem_append_left _ List.mem_cons_self)
  obtain ⟨vs, hd⟩ := hf
  have hx : ObjOk X.prog X.w H s.heap dd (xdW v) := I.hok dd _ ea
  obtain ⟨mA, hns, hr⟩ := hx
  obtain ⟨od, ho, hl⟩ := lookIn_ns hns
  have J : PySem.W.InstAt s.heap a oe C (some od) := ⟨hp, hz.1, by unfold PySem.W.notCls; rw [hd] <;> rfl, by rw [hz.2]; exact ho⟩
  exact PySem.W.kia_one (PySem.W.kitx_exc KX.cl T.ga T.gg T.exC KX.ha KX.hn KX.tk KX.hm) I.kIn J kt (fun z => nomatch z) fun tk => ⟨.bl true, H, I.tok tk, rfl, q⟩
def eIsiEx (i : Nat) (a dd : Addr) : En → Option PyData := fun env => match env[i]? with
  | some (.exc a' dd' _) => if a' = a ∧ dd' = dd then some (.bool true) else none
  | _ => none
theorem ce_isiEx {i : Nat} {a dd : Addr} {dx : Option Addr} {cv : V} {u : Value} (h2 : dx = some dd) (ck : ClsV cv u) (kt : PySem.W.kitOne X.K (.ref C) u = some true) (he : PE X e (tCB (rIsiEx X.K C a dx) (tCons (tVar i) (tCons (tC cv) tNil)))) : PE X e (tE X.K c (eIsiEx i a dd)) := pe_w he fun σ H Q ⟨S0, H0, A, env, d, E, hd, q⟩ => by
  unfold eIsiEx at hd
  split at hd
  · rename_i a' dd' d' hi
    split at hd
    · rename_i hh
      cases hd
      obtain ⟨rfl, rfl⟩ := hh
      rcases E.sl i _ hi with z | ⟨v, k1, rfl, w, k2, k3⟩
      · cases z
      exact ⟨_, k1, cv, u, dd', w, rfl, ck, kt, h2, k2, q _ H (Same.refl H) rpb⟩
    · cases hd
  · cases hd
end
end Mir

namespace Mir
open PySem PySem.Spec PyProof.Rows L2
/-! ### data of ints, of texts -/
theorem intsD_map : ∀ ns : List Int, intsD (ns.map PyData.int) = some ns
  | [] => rfl
  | n :: ns => by
    show (match intsD (ns.map PyData.int) with | some ns => some (n :: ns) | none => none) = _
    rw [intsD_map ns]
theorem strsD_map : ∀ ns : List Str, strsD (ns.map PyData.str) = some ns
  | [] => rfl
  | n :: ns => by
    show (match strsD (ns.map PyData.str) with | some ns => some (n :: ns) | none => none) = _
    rw [strsD_map ns]
/-- a comprehension whose element is k of each item, kept where p -/
theorem compF_filter {g : PyData → En → Option En} {ga : En → Option Bool} {fe : En → Option PyData} {env : En} {p : PyData → Bool} {k : PyData → PyData} : ∀ {ds : List PyData},
    (∀ d ∈ ds, ∃ e1, g d env = some e1 ∧ ga e1 = some (p d) ∧ (p d = true → fe e1 = some (k d))) → compF g ga fe env ds = some ((ds.filter p).map k)
  | [], _ => rfl
  | d :: ds, h => by
    obtain ⟨e1, h1, h2, h3⟩ := h d List.mem_cons_self
    have ih := compF_filter (ds := ds) fun x hx => h x (List.mem_cons_of_mem _ hx)
    simp only [compF, h1, h2]
    cases hp : p d with
    | true =>
      rw [hp] at h3
      simp only [h3 rfl, ih, List.filter_cons, hp, if_true, List.map_cons]
    | false =>
      simp only [ih, List.filter_cons, hp, Bool.false_eq_true, if_false]
theorem compF_map {g : PyData → En → Option En} {fe : En → Option PyData} {env : En} {k : PyData → PyData} {ds : List PyData} (h : ∀ d ∈ ds, ∃ e1, g d env = some e1 ∧ fe e1 = some (k d)) : compF g tYes' fe env ds = some (ds.map k) := by
  have q := compF_filter (g := g) (ga := tYes') (fe := fe) (env := env) (p := fun _ => true) (k := k) (ds := ds) fun d hd => by
    obtain ⟨e1, h1, h2⟩ := h d hd
    exact ⟨e1, h1, rfl, fun _ => h2⟩
  rw [q, List.filter_eq_self.mpr (fun _ _ => rfl)]
theorem compF_mapS {α : Type} {g : PyData → En → Option En} {fe : En → Option PyData} {env : En} {c : α → PyData} {k : α → PyData} : ∀ {xs : List α}, (∀ x ∈ xs, ∃ e1, g (c x) env = some e1 ∧ fe e1 = some (k x)) → compF g tYes' fe env (xs.map c) = some (xs.map k)
  | [], _ => rfl
  | x :: xs, h => by
    obtain ⟨e1, h1, h2⟩ := h x List.mem_cons_self
    have ih := compF_mapS (xs := xs) fun y hy => h y (List.mem_cons_of_mem _ hy)
    show compF g tYes' fe env (c x :: xs.map c) = _
    simp only [compF, h1, tYes', h2]
    rw [ih]
    rfl
/-! ### joined texts -/
def jl (ws : List Str) : Nat := (Txt.join (" " : Str) ws).length
theorem spc_len : ((" " : Str)).length = 1 := by decide +kernel
theorem len_app (x y : Str) : (x ++ y).length = x.length + y.length := by
  show (x.cps ++ y.cps).size = x.cps.size + y.cps.size
  simp
theorem jl_nil : jl [] = 0 := by
  unfold jl
  rw [TL.join_eq]
  rfl
theorem jl_one (w : Str) : jl [w] = w.length := by
  unfold jl
  rw [TL.join_eq]
  rfl
theorem jl_cons (w y : Str) (r : List Str) : jl (w :: y :: r) = w.length + 1 + jl (y :: r) := by
  unfold jl
  rw [TL.join_eq, TL.join_eq]
  show (w ++ (" " : Str) ++ Str.join (" " : Str) (y :: r)).length = _
  rw [len_app, len_app, spc_len]
theorem jl_snoc : ∀ (l : List Str) (w : Str), l ≠ [] → jl (l ++ [w]) = jl l + 1 + w.length
  | [], _, h => absurd rfl h
  | [x], w, _ => by
    show jl (x :: w :: []) = _
    rw [jl_cons, jl_one, jl_one]
  | x :: y :: r, w, _ => by
    show jl (x :: y :: (r ++ [w])) = _
    have ih := jl_snoc (y :: r) w (by simp)
    rw [jl_cons, jl_cons]
    rw [show jl (y :: (r ++ [w])) = jl (y :: r) + 1 + w.length from ih]
    omega
theorem jl_le : ∀ (l : List Str), (∀ w ∈ l, w.length ≤ 8) → jl l ≤ 9 * l.length
  | [], _ => by rw [jl_nil]; exact Nat.zero_le _
  | [x], h => by
    rw [jl_one]
    have := h x List.mem_cons_self
    simp
    omega
  | x :: y :: r, h => by
    rw [jl_cons]
    have h1 := h x List.mem_cons_self
    have h2 := jl_le (y :: r) fun w hw => h w (List.mem_cons_of_mem _ hw)
    rw [List.length_cons]
    omega
theorem word_le_jl : ∀ (l : List Str) (w : Str), w ∈ l → w.length ≤ jl l
  | [], _, h => by cases h
  | [x], w, h => by
    rw [jl_one]
    rw [List.mem_singleton.mp h]
    exact Nat.le_refl _
  | x :: y :: r, w, h => by
    rw [jl_cons]
    rcases List.mem_cons.mp h with h | h
    · subst h; omega
    · have := word_le_jl (y :: r) w h
      omega
/-! ### texts in tuples compared -/
theorem eqv_strs : ∀ xs ys : List Str, PyData.eqvAll (xs.map PyData.str) (ys.map PyData.str) = decide (xs = ys)
  | [], [] => by simp [PyData.eqvAll]
  | [], y :: ys => by simp [PyData.eqvAll]
  | x :: xs, [] => by simp [PyData.eqvAll]
  | x :: xs, y :: ys => by
    simp only [List.map_cons, PyData.eqvAll, PyData.eqv, eqv_strs xs ys]
    by_cases h : x = y
    · subst h
      simp
    · simp [h]
theorem lay_strs : ∀ xs : List Str, (∀ x ∈ xs, PyData.strOk x = true) → PyData.canLayAll0 (xs.map PyData.str) = true
  | [], _ => by simp [PyData.canLayAll0]
  | x :: xs, h => by
    simp only [List.map_cons, PyData.canLayAll0, PyData.canLay0, h x List.mem_cons_self, lay_strs xs (fun y hy => h y (List.mem_cons_of_mem _ hy)), Bool.and_self]
theorem depth_strs : ∀ xs : List Str, PyData.depthAll (xs.map PyData.str) = 0
  | [] => by simp [PyData.depthAll]
  | x :: xs => by simp [PyData.depthAll, PyData.depth, depth_strs xs]
theorem shaped_strs (xs : List Str) (h : ∀ x ∈ xs, PyData.strOk x = true) : SeqAt.shaped (.tuple (xs.map PyData.str)) = true := by
  unfold SeqAt.shaped
  simp [PyData.canLay0, lay_strs xs h, PyData.depth, depth_strs]
theorem shaped_int (i : Int) : SeqAt.shaped (.int i) = true := by
  unfold SeqAt.shaped
  simp [PyData.canLay0, PyData.depth]
theorem shaped_none : SeqAt.shaped .none = true := by
  unfold SeqAt.shaped
  simp [PyData.canLay0, PyData.depth]
theorem shaped_bool (i : Bool) : SeqAt.shaped (.bool i) = true := by
  unfold SeqAt.shaped
  simp [PyData.canLay0, PyData.depth]
theorem eqD_int (i j : Int) : eqD (.int i) (.int j) = some (.bool (decide (i = j))) := by
  unfold eqD
  rw [shaped_int, shaped_int]
  simp only [Bool.and_self, if_true, PyData.eqv]
  congr 2
theorem neD_int (i j : Int) : neD (.int i) (.int j) = some (.bool (!decide (i = j))) := by
  unfold neD
  rw [shaped_int, shaped_int]
  simp only [Bool.and_self, if_true, PyData.eqv]
  congr 3
theorem eqD_strs (xs ys : List Str) (h : ∀ x ∈ xs, PyData.strOk x = true) (h' : ∀ x ∈ ys, PyData.strOk x = true) : eqD (.tuple (xs.map PyData.str)) (.tuple (ys.map PyData.str)) = some (.bool (decide (xs = ys))) := by
  unfold eqD
  rw [shaped_strs xs h, shaped_strs ys h']
  simp only [Bool.and_self, if_true, PyData.eqv, eqv_strs]
theorem addD_tup {xs ys : List PyData} (h : xs.length + ys.length ≤ 1000000) : addD (.tuple xs) (.tuple ys) = some (.tuple (xs ++ ys)) := by
  simp only [addD, h, if_true]
theorem addD_list {xs ys : List PyData} (h : xs.length + ys.length ≤ 1000000) : addD (.list xs) (.list ys) = some (.list (xs ++ ys)) := by
  simp only [addD, h, if_true]
theorem addD_str {x y : Str} (h : x.length + y.length ≤ 1000000) : addD (.str x) (.str y) = some (.str (x ++ y)) := by
  simp only [addD, h, if_true]
/-! ### loops by a word -/
theorem loop_ix {g : PyData → En → Option En} {b : En → Out} (P : Nat → En → Prop) : ∀ (ds : List PyData) (k : Nat) (e : En), (∀ (j : Nat) d e, ds[j]? = some d → P (k + j) e → ∃ e1, g d e = some e1 ∧ ∃ e2, (b e1 = .nx e2 ∨ b e1 = .ct e2) ∧ P (k + j + 1) e2) → P k e → ∃ e', loopF g b ds e = .nx e' ∧ P (k + ds.length) e'
  | [], k, e, _, h => ⟨e, rfl, h⟩
  | d :: ds, k, e, st, h => by
    obtain ⟨e1, h1, e2, h2, h3⟩ := st 0 d e rfl h
    obtain ⟨e', h4, h5⟩ := loop_ix P ds (k + 1) e2 (fun j d' e' hj hp => by
      have hp' : P (k + (j + 1)) e' := by rw [show k + (j + 1) = k + 1 + j by omega]; exact hp
      have := st (j + 1) d' e' (by simpa using hj) hp'
      rw [show k + (j + 1) + 1 = k + 1 + j + 1 by omega] at this
      exact this) h3
    refine ⟨e', ?_, by rw [List.length_cons, show k + (ds.length + 1) = k + 1 + ds.length by omega]; exact h5⟩
    rcases h2 with h2 | h2 <;> (simp only [loopF, h1, h2]; exact h4)
theorem loop_rng {g : PyData → En → Option En} {b : En → Out} (P : Nat → En → Prop) {lo : Int} {n : Nat} {e : En} (st : ∀ (j : Nat) e, j < n → P j e → ∃ e1, g (.int (lo + (j : Nat))) e = some e1 ∧ ∃ e2, (b e1 = .nx e2 ∨ b e1 = .ct e2) ∧ P (j + 1) e2) (h : P 0 e) : ∃ e', loopF g b (rngD lo n) e = .nx e' ∧ P n e' := by
  obtain ⟨e', h1, h2⟩ := loop_ix P (rngD lo n) 0 e (fun j d e hj hp => by
    have hd := rng_get hj
    obtain ⟨l, _⟩ := List.getElem?_eq_some_iff.mp hj
    rw [rng_len] at l
    subst hd
    rw [Nat.zero_add] at hp ⊢
    exact st j e l hp) h
  rw [rng_len, Nat.zero_add] at h2
  exact ⟨e', h1, h2⟩
theorem atI_map {α : Type} (f : α → PyData) (xs : List α) (j : Nat) (x : α) (h : xs[j]? = some x) : atI (xs.map f) (j : Int) = some (f x) := atI_nat (by rw [List.getElem?_map, h]; rfl)
theorem noL_ints : ∀ ns : List Int, noLA (ns.map PyData.int) = true
  | [] => rfl
  | n :: ns => by
    show (noL (.int n) && noLA (ns.map PyData.int)) = true
    rw [noL_ints ns]; rfl
theorem sSeq_nx {s t : En → Out} {env e : En} (h : s env = .nx e) : sSeq s t env = t e := by
  unfold sSeq
  rw [h]
theorem sSeq_rt {s t : En → Out} {env : En} {d : PyData} (h : s env = .rt d) : sSeq s t env = .rt d := by
  unfold sSeq
  rw [h]
theorem addD_int (i j : Int) : addD (.int i) (.int j) = some (.int (i + j)) := rfl
theorem subD_int (i j : Int) : subD (.int i) (.int j) = some (.int (i - j)) := rfl
theorem mulD_int {i j : Int} (h : CMul i j) : mulD (.int i) (.int j) = some (.int (i * j)) := if_pos h
theorem modD_int {i j : Int} (h : 0 < j) : modD (.int i) (.int j) = some (.int (i % j)) := if_pos h
theorem divD_int {i j : Int} (h : CDiv i j) : divD (.int i) (.int j) = some (.int (i / j)) := if_pos h
theorem powD_int {i j : Int} (h : CPow i j) : powD (.int i) (.int j) = some (.int (i ^ j.toNat)) := if_pos h
theorem ltD_int (i j : Int) : ltD (.int i) (.int j) = some (.bool (decide (i < j))) := rfl
theorem leD_int (i j : Int) : leD (.int i) (.int j) = some (.bool (decide (i ≤ j))) := rfl
theorem gtD_int (i j : Int) : gtD (.int i) (.int j) = some (.bool (decide (j < i))) := rfl
theorem geD_int (i j : Int) : geD (.int i) (.int j) = some (.bool (decide (j ≤ i))) := rfl
/-! a draw, its numbers kept as letters -/
theorem draw_s1 (a b M : Int) (c' m k : Int) (n : Nat) (ds : List Int) (w y : Sl) (k1 : CMul c' a) (k2 : CMul k b) (k3 : 0 < M) (hm : (c' * a + k * b) % M = m) :
    (sSet 5 (e2 modD (eCall intA (aCons (e2 addD (e2 mulD (eVar 0) (eC (.int a))) (e2 mulD (eVar 4) (eC (.int b)))) aNil)) (eC (.int M)))) [.val (.int c'), .val (.int n), .own (ds.map .int), w, .val (.int k), y] = .nx [.val (.int c'), .val (.int n), .own (ds.map .int), w, .val (.int k), .val (.int m)] := by
  have k1 := mulD_int k1
  have k2 := mulD_int k2
  have k5 := modD_int (i := c' * a + k * b) k3
  rw [hm] at k5
  simp only [sSet, e2, eCall, aCons, aNil, intA, eC, eVar, List.getElem?_cons_zero, List.getElem?_cons_succ, List.set_cons_zero, List.set_cons_succ, addD_int, k1, k2, k5]
theorem draw_s2 (a M L : Int) (c' m k : Int) (n : Nat) (ds : List Int) (w : Sl) (hl : ds.length < 1000000) (k3 : CMul c' a) (k4 : CMul m m) (k6 : 0 < M) :
    (sApp 2 (e2 modD (eCall intA (aCons (e2 addD (e2 addD (e2 mulD (eVar 5) (eVar 5)) (e2 mulD (eVar 0) (eC (.int a)))) (eVar 4)) aNil)) (eC (.int M)))) [.val (.int c'), .val (.int n), .own (ds.map .int), w, .val (.int k), .val (.int m)] = .nx [.val (.int c'), .val (.int n), .own ((ds ++ [(m * m + c' * a + k) % M]).map .int), w, .val (.int k), .val (.int m)] := by
  have k3 := mulD_int k3
  have k4 := mulD_int k4
  have k6 := modD_int (i := m * m + c' * a + k) k6
  simp only [sApp, e2, eCall, aCons, aNil, intA, eC, eVar, List.getElem?_cons_zero, List.getElem?_cons_succ, addD_int, k3, k4, k6, List.length_map, hl, if_true, List.set_cons_zero, List.set_cons_succ, List.map_append, List.map_cons, List.map_nil]
theorem draw_s1' (a b M : Int) (c' m k : Int) (n : Nat) (ds : List Int) (w y : Sl) (k1 : CMul c' a) (k2 : CMul k b) (k3 : 0 < M) (hm : (c' * a + k * b) % M = m) :
    (sSet 5 (e2 modD (e2 addD (e2 mulD (eVar 0) (eC (.int a))) (e2 mulD (eVar 4) (eC (.int b)))) (eC (.int M)))) [.val (.int c'), .val (.int n), .own (ds.map .int), w, .val (.int k), y] = .nx [.val (.int c'), .val (.int n), .own (ds.map .int), w, .val (.int k), .val (.int m)] := by
  have k1 := mulD_int k1
  have k2 := mulD_int k2
  have k5 := modD_int (i := c' * a + k * b) k3
  rw [hm] at k5
  simp only [sSet, e2, eC, eVar, List.getElem?_cons_zero, List.getElem?_cons_succ, List.set_cons_zero, List.set_cons_succ, addD_int, k1, k2, k5]
theorem draw_s2' (a M L : Int) (c' m k : Int) (n : Nat) (ds : List Int) (w : Sl) (hl : ds.length < 1000000) (k3 : CMul c' a) (k4 : CMul m m) (k6 : 0 < M) :
    (sApp 2 (e2 modD (e2 addD (e2 addD (e2 mulD (eVar 5) (eVar 5)) (e2 mulD (eVar 0) (eC (.int a)))) (eVar 4)) (eC (.int M)))) [.val (.int c'), .val (.int n), .own (ds.map .int), w, .val (.int k), .val (.int m)] = .nx [.val (.int c'), .val (.int n), .own ((ds ++ [(m * m + c' * a + k) % M]).map .int), w, .val (.int k), .val (.int m)] := by
  have k3 := mulD_int k3
  have k4 := mulD_int k4
  have k6 := modD_int (i := m * m + c' * a + k) k6
  simp only [sApp, e2, eC, eVar, List.getElem?_cons_zero, List.getElem?_cons_succ, addD_int, k3, k4, k6, List.length_map, hl, if_true, List.set_cons_zero, List.set_cons_succ, List.map_append, List.map_cons, List.map_nil]
theorem draw_t (M : Int) (c' : Int) (n : Nat) (ds : List Int) (w x y : Sl) (hl : ds.length < 1000000) (k1 : 0 < M) (k2 : M < 1073741824) :
    sSeq (sApp 2 (e2 modD (eCall intA (aCons (eVar 0) aNil)) (eC (.int M)))) (sSet 0 (e2 divD (eVar 0) (eC (.int M)))) [.val (.int c'), .val (.int n), .own (ds.map .int), w, x, y] = .nx [.val (.int (c' / M)), .val (.int n), .own ((ds ++ [c' % M]).map .int), w, x, y] := by
  have h1 := modD_int (i := c') k1
  have h2 := divD_int (i := c') (j := M) ⟨k1, k2⟩
  simp only [sSeq, sApp, sSet, e2, eCall, aCons, aNil, intA, eC, eVar, List.getElem?_cons_zero, List.getElem?_cons_succ, List.set_cons_zero, List.set_cons_succ, h1, h2, hl, if_true, List.length_map, List.map_append, List.map_cons, List.map_nil]
theorem draw_t' (M : Int) (c' : Int) (n : Nat) (ds : List Int) (w x y : Sl) (hl : ds.length < 1000000) (k1 : 0 < M) (k2 : M < 1073741824) :
    sSeq (sApp 2 (e2 modD (eVar 0) (eC (.int M)))) (sSet 0 (e2 divD (eVar 0) (eC (.int M)))) [.val (.int c'), .val (.int n), .own (ds.map .int), w, x, y] = .nx [.val (.int (c' / M)), .val (.int n), .own ((ds ++ [c' % M]).map .int), w, x, y] := by
  have h1 := modD_int (i := c') k1
  have h2 := divD_int (i := c') (j := M) ⟨k1, k2⟩
  simp only [sSeq, sApp, sSet, e2, eC, eVar, List.getElem?_cons_zero, List.getElem?_cons_succ, List.set_cons_zero, List.set_cons_succ, h1, h2, hl, if_true, List.length_map, List.map_append, List.map_cons, List.map_nil]
theorem sIf_t {ga : En → Option Bool} {s t : En → Out} {env : En} (h : ga env = some true) : sIf ga s t env = s env := by
  unfold sIf
  rw [h]
theorem sIf_f {ga : En → Option Bool} {s t : En → Out} {env : En} (h : ga env = some false) : sIf ga s t env = t env := by
  unfold sIf
  rw [h]
theorem iR1_ev {fa : En → Option (List PyData)} {env : En} {N : Int} (h : fa env = some [.int N]) (h1 : N < 1000000) (h2 : -1000000 < N) : iR1 fa env = some (rngD 0 N.toNat) := by
  unfold iR1
  rw [h]
  exact if_pos ⟨h1, h2⟩
theorem iR2_ev {fa : En → Option (List PyData)} {env : En} {M N : Int} (h : fa env = some [.int M, .int N]) (h1 : N < 1000000000) (h2 : -1000000000 < N) (h3 : M < 1000000000) (h4 : -1000000000 < M) : iR2 fa env = some (rngD M (N - M).toNat) := by
  unfold iR2
  rw [h]
  exact if_pos ⟨⟨h1, h2⟩, h3, h4⟩
/-- a loop that may be left by a return -/
theorem loop_any {g : PyData → En → Option En} {b : En → Out} (P : Nat → En → Prop) (Q : PyData → Prop) : ∀ (ds : List PyData) (k : Nat) (e : En), (∀ (j : Nat) d e, ds[j]? = some d → P (k + j) e → ∃ e1, g d e = some e1 ∧ ((∃ e2, (b e1 = .nx e2 ∨ b e1 = .ct e2) ∧ P (k + j + 1) e2) ∨ ∃ v, b e1 = .rt v ∧ Q v)) → P k e →
    (∃ e', loopF g b ds e = .nx e' ∧ P (k + ds.length) e') ∨ ∃ v, loopF g b ds e = .rt v ∧ Q v
  | [], k, e, _, h => .inl ⟨e, rfl, h⟩
  | d :: ds, k, e, st, h => by
    obtain ⟨e1, h1, h2⟩ := st 0 d e rfl h
    rcases h2 with ⟨e2, h2, h3⟩ | ⟨v, h2, h3⟩
    · have ih := loop_any P Q ds (k + 1) e2 (fun j d' e' hj hp => by
        have hp' : P (k + (j + 1)) e' := by rw [show k + (j + 1) = k + 1 + j by omega]; exact hp
        have := st (j + 1) d' e' (by simpa using hj) hp'
        rw [show k + (j + 1) + 1 = k + 1 + j + 1 by omega] at this
        exact this) h3
      have e0 : loopF g b (d :: ds) e = loopF g b ds e2 := by
        rcases h2 with h2 | h2 <;> simp only [loopF, h1, h2]
      rw [e0, List.length_cons, show k + (ds.length + 1) = k + 1 + ds.length by omega]
      exact ih
    · exact .inr ⟨v, by simp only [loopF, h1, h2], h3⟩
theorem loop_rngA {g : PyData → En → Option En} {b : En → Out} (P : Nat → En → Prop) (Q : PyData → Prop) {lo : Int} {n : Nat} {e : En} (st : ∀ (j : Nat) e, j < n → P j e → ∃ e1, g (.int (lo + (j : Nat))) e = some e1 ∧ ((∃ e2, (b e1 = .nx e2 ∨ b e1 = .ct e2) ∧ P (j + 1) e2) ∨ ∃ v, b e1 = .rt v ∧ Q v)) (h : P 0 e) :
    (∃ e', loopF g b (rngD lo n) e = .nx e' ∧ P n e') ∨ ∃ v, loopF g b (rngD lo n) e = .rt v ∧ Q v := by
  have := loop_any P Q (rngD lo n) 0 e (fun j d e hj hp => by
    have hd := rng_get hj
    obtain ⟨l, _⟩ := List.getElem?_eq_some_iff.mp hj
    rw [rng_len] at l
    subst hd
    rw [Nat.zero_add] at hp ⊢
    exact st j e l hp) h
  rw [rng_len, Nat.zero_add] at this
  exact this
/-! evaluation, step by step -/
section
variable {env env' : En} {f g h : En → Option PyData} {fa : En → Option (List PyData)} {x y d : PyData} {ds : List PyData}
theorem e2_ev {k : PyData → PyData → Option PyData} (h1 : f env = some x) (h2 : g env = some y) (h3 : k x y = some d) : e2 k f g env = some d := by
  unfold e2
  rw [h1, h2]
  exact h3
theorem aCons_ev (h1 : f env = some x) (h2 : fa env = some ds) : aCons f fa env = some (x :: ds) := by
  unfold aCons
  rw [h1, h2]
theorem aNil_ev : aNil env = some [] := rfl
theorem eCall_ev {k : List PyData → Option PyData} (h1 : fa env = some ds) (h2 : k ds = some d) : eCall k fa env = some d := by
  unfold eCall
  rw [h1]
  exact h2
theorem sSet_ev {i : Nat} (h1 : f env = some d) : sSet i f env = .nx (env.set i (.val d)) := by
  unfold sSet
  rw [h1]
theorem sOwn_ev {i : Nat} (h1 : fa env = some ds) : sOwn i fa env = .nx (env.set i (.own ds)) := by
  unfold sOwn
  rw [h1]
theorem sRet_ev (h1 : f env = some d) : sRet f env = .rt d := by
  unfold sRet
  rw [h1]
theorem sApp_ev {i : Nat} (h1 : f env = some d) (h2 : env[i]? = some (.own ds)) (h3 : ds.length < 1000000) : sApp i f env = .nx (env.set i (.own (ds ++ [d]))) := by
  unfold sApp
  rw [h1, h2]
  exact if_pos h3
theorem sFor_ev {k : PyData → En → Option En} {b : En → Out} {o : Out} (h1 : fa env = some ds) (h2 : loopF k b ds env = o) : sFor fa k b env = o := by
  unfold sFor
  rw [h1]
  exact h2
theorem eL_ev (h1 : fa env = some ds) : eL fa env = some (.list ds) := by
  unfold eL
  rw [h1]
  rfl
theorem t1_ev {b : Bool} (h1 : f env = some (.bool b)) : t1 f env = some b := by
  unfold t1
  rw [h1]
theorem and_t {ga gb : En → Option Bool} {b : Bool} (h1 : ga env = some true) (h2 : gb env = some b) : tAnd' ga gb env = some b := by
  unfold tAnd'
  rw [h1]
  exact h2
theorem and_f {ga gb : En → Option Bool} (h1 : ga env = some false) : tAnd' ga gb env = some false := by
  unfold tAnd'
  rw [h1]
theorem or_t {ga gb : En → Option Bool} (h1 : ga env = some true) : tOr' ga gb env = some true := by
  unfold tOr'
  rw [h1]
theorem or_f {ga gb : En → Option Bool} {b : Bool} (h1 : ga env = some false) (h2 : gb env = some b) : tOr' ga gb env = some b := by
  unfold tOr'
  rw [h1]
  exact h2
theorem not_ev {ga : En → Option Bool} {b : Bool} (h1 : ga env = some b) : tNot' ga env = some (!b) := by
  unfold tNot'
  rw [h1]
  rfl
theorem eIf_t {ga : En → Option Bool} (h1 : ga env = some true) (h2 : f env = some d) : eIf ga f g env = some d := by
  unfold eIf
  rw [h1]
  exact h2
theorem eIf_f {ga : En → Option Bool} (h1 : ga env = some false) (h2 : g env = some d) : eIf ga f g env = some d := by
  unfold eIf
  rw [h1]
  exact h2
theorem eTup_ev (h1 : fa env = some ds) (h2 : ds.length ≤ 1000000) : eTup fa env = some (.tuple ds) := by
  unfold eTup
  rw [h1]
  exact if_pos h2
theorem fLst_ev (h1 : fa env = some ds) (h2 : ds.length ≤ 1000000) : fLst fa env = some ds := by
  unfold fLst
  rw [h1]
  exact if_pos h2
theorem fCmp_ev {is : List Nat} {k : PyData → En → Option En} {ga : En → Option Bool} {fe : En → Option PyData} {vs : List PyData} (h1 : fa env = some ds) (h2 : compF k ga fe (wipeE env is) ds = some vs) (h3 : vs.length ≤ 1000000) : fCmp is fa k ga fe env = some vs := by
  unfold fCmp
  simp only [h1, h2]
  exact if_pos h3
theorem eIsi_ev {T : String} {b : Bool} (h1 : f env = some d) (h2 : isiB T (tyD d) = some b) : eIsi T f env = some (.bool b) := by
  unfold eIsi
  rw [h1]
  simp only [h2]
  rfl
theorem tTr_ev {b : Bool} (h1 : f env = some d) (h2 : truD d = some b) : tTr f env = some b := by
  unfold tTr
  rw [h1]
  exact h2
theorem outD_rt {o : Out} (h : o = .rt d) : outD o = some d := by rw [h]; rfl
end
theorem gDef_ev {np nN : Nat} {fB : En → Out} {ds : List PyData} {d : PyData} (h1 : ds.length = np) (h2 : fB (env0 nN ds) = .rt d) : gDef np nN fB ds = some d := by
  unfold gDef
  rw [if_pos h1, h2]
  rfl
/-! draws read; pairs of ints -/
theorem dr_at {ds : List Int} {env : En} {i j : Nat} {k : Int} (h : eVar i env = some (.list (ds.map .int))) (hj : j < ds.length) (hk : k = (j : Nat)) : e2 ixG (eVar i) (eC (.int k)) env = some (.int (ds.getD j 0)) := by
  refine e2_ev h rfl ?_
  subst hk
  refine (atI_map PyData.int ds j (ds.getD j 0) ?_)
  simp [List.getD, hj]
theorem dr_int {ds : List Int} {env : En} {i j : Nat} {k : Int} (h : eVar i env = some (.list (ds.map .int))) (hj : j < ds.length) (hk : k = (j : Nat)) : eCall intA (aCons (e2 ixG (eVar i) (eC (.int k))) aNil) env = some (.int (ds.getD j 0)) :=
  eCall_ev (aCons_ev (dr_at h hj hk) aNil_ev) rfl
theorem dr_mod {ds : List Int} {env : En} {i j : Nat} {k m : Int} (h : eVar i env = some (.list (ds.map .int))) (hj : j < ds.length) (hk : k = (j : Nat)) (hm : 0 < m) : e2 modD (eCall intA (aCons (e2 ixG (eVar i) (eC (.int k))) aNil)) (eC (.int m)) env = some (.int (ds.getD j 0 % m)) :=
  e2_ev (dr_int h hj hk) rfl (modD_int hm)
theorem dr_mod' {ds : List Int} {env : En} {i j : Nat} {k m : Int} (h : eVar i env = some (.list (ds.map .int))) (hj : j < ds.length) (hk : k = (j : Nat)) (hm : 0 < m) : e2 modD (e2 ixG (eVar i) (eC (.int k))) (eC (.int m)) env = some (.int (ds.getD j 0 % m)) :=
  e2_ev (dr_at h hj hk) rfl (modD_int hm)
theorem mod_lt (x m : Int) (h : 0 < m) : 0 ≤ x % m ∧ x % m < m := ⟨Int.emod_nonneg _ (by omega), Int.emod_lt_of_pos _ h⟩
abbrev pr (p : Int × Int) : PyData := .tuple [.int p.1, .int p.2]
theorem shaped_pr (p : Int × Int) : SeqAt.shaped (pr p) = true := by
  unfold SeqAt.shaped
  simp [pr, PyData.canLay0, PyData.canLayAll0, PyData.depth, PyData.depthAll]
theorem lay_prs : ∀ ps : List (Int × Int), PyData.canLayAll0 (ps.map pr) = true ∧ PyData.depthAll (ps.map pr) ≤ 1
  | [] => by simp [PyData.canLayAll0, PyData.depthAll]
  | p :: ps => by
    obtain ⟨h1, h2⟩ := lay_prs ps
    simp only [List.map_cons, PyData.canLayAll0, PyData.depthAll, h1]
    simp [pr, PyData.canLay0, PyData.canLayAll0, PyData.depth, PyData.depthAll]
    omega
theorem shaped_prs (ps : List (Int × Int)) : SeqAt.shaped (.list (ps.map pr)) = true := by
  unfold SeqAt.shaped
  obtain ⟨h1, h2⟩ := lay_prs ps
  simp [PyData.canLay0, h1, PyData.depth]
  omega
theorem eqv_pr (p q : Int × Int) : PyData.eqv (pr p) (pr q) = decide (p = q) := by
  obtain ⟨a, b⟩ := p
  obtain ⟨c, d⟩ := q
  simp only [pr, PyData.eqv, PyData.eqvAll]
  by_cases h1 : a = c
  · by_cases h2 : b = d
    · simp [h1, h2]
    · simp [h1, h2]
  · simp [h1]
theorem any_pr (p : Int × Int) : ∀ ps : List (Int × Int), ((ps.map pr).any fun z => PyData.eqv z (pr p)) = decide (p ∈ ps)
  | [] => by simp
  | q :: ps => by
    rw [List.map_cons, List.any_cons, any_pr p ps, eqv_pr]
    by_cases h : q = p
    · simp [h]
    · have : ¬ p = q := fun e => h e.symm
      simp [h, this]
theorem inD_pr (p : Int × Int) (ps : List (Int × Int)) : inD (pr p) (.list (ps.map pr)) = some (.bool (decide (p ∈ ps))) := by
  unfold inD
  simp only [shaped_pr, shaped_prs, any_pr, Bool.and_self, if_true]
theorem notInD_pr (p : Int × Int) (ps : List (Int × Int)) : notInD (pr p) (.list (ps.map pr)) = some (.bool (!decide (p ∈ ps))) := by
  unfold notInD
  simp only [shaped_pr, shaped_prs, any_pr, Bool.and_self, if_true]
theorem eNot_ev {f : En → Option PyData} {env : En} {b : Bool} (h : f env = some (.bool b)) : eNot f env = some (.bool (!b)) := by
  unfold eNot
  rw [h]
theorem eN_ev {f : En → Option PyData} {env : En} {d : PyData} (h : f env = some d) (hn : noL d = true) : eN f env = some d := by
  unfold eN
  rw [h]
  exact if_pos hn
theorem eTupO_ev {i : Nat} {env : En} {ds : List PyData} (h : env[i]? = some (.own ds)) : eTupO i env = some (.tuple ds) := by
  unfold eTupO
  rw [h]
theorem eIxO_ev {i : Nat} {env : En} {ds : List PyData} {g : En → Option PyData} {k : Int} {d : PyData} (h : env[i]? = some (.own ds)) (h1 : g env = some (.int k)) (h2 : atI ds k = some d) : eIxO i g env = some d := by
  have e : eIxO i g env = (match g env with | some (.int k) => atI ds k | _ => none) := by
    unfold eIxO
    rw [h]
    all_goals rfl
  rw [e, h1]
  exact h2
theorem gDef_ev' {np nN : Nat} {fB : En → Out} {ds : List PyData} {d : PyData} (env : En) (h1 : ds.length = np) (h0 : env0 nN ds = env) (h2 : fB env = .rt d) : gDef np nN fB ds = some d := gDef_ev h1 (by rw [h0]; exact h2)
theorem neD_same {d : PyData} (h : SeqAt.shaped d = true) : neD d d = some (.bool false) := by
  unfold neD
  have h2 : d.canLay0 = true := by
    unfold SeqAt.shaped at h
    exact (Bool.and_eq_true _ _ ▸ h).1
  rw [h, SeqAt.eqv_refl d h2]
  rfl
theorem eqD_same {d : PyData} (h : SeqAt.shaped d = true) : eqD d d = some (.bool true) := by
  unfold eqD
  have h2 : d.canLay0 = true := by
    unfold SeqAt.shaped at h
    exact (Bool.and_eq_true _ _ ▸ h).1
  rw [h, SeqAt.eqv_refl d h2]
  rfl
theorem eAnd_t {f g : En → Option PyData} {env : En} {d : PyData} (h1 : f env = some (.bool true)) (h2 : g env = some d) : eAnd f g env = some d := by
  unfold eAnd
  rw [h1]
  exact h2
theorem eAnd_f {f g : En → Option PyData} {env : En} (h1 : f env = some (.bool false)) : eAnd f g env = some (.bool false) := by
  unfold eAnd
  rw [h1]
theorem sUnp_ev {f : En → Option PyData} {g : PyData → En → Option En} {env e : En} {d : PyData} (h1 : f env = some d) (h2 : g d env = some e) : sUnp f g env = .nx e := by
  unfold sUnp
  rw [h1]
  simp only [h2]
theorem iSeq_l {f : En → Option PyData} {env : En} {ds : List PyData} (h : f env = some (.list ds)) : iSeq f env = some ds := by
  unfold iSeq
  rw [h]
theorem iSeq_t {f : En → Option PyData} {env : En} {ds : List PyData} (h : f env = some (.tuple ds)) : iSeq f env = some ds := by
  unfold iSeq
  rw [h]
end Mir

/-! MathC: more meanings evaluated -/
namespace Mir
open PySem PySem.Spec PyProof.Rows L2
section
variable {f g : En → Option PyData} {fa : En → Option (List PyData)} {env : En} {ds : List PyData}
theorem cut_pre {ds : List PyData} (n : Nat) (h : n ≤ ds.length) : cutL ds none (some (n : Int)) = ds.take n := by
  unfold cutL
  rw [HT.sIx_none, HT.sIx_nat]
  simp [Nat.min_eq_left h]
theorem cut_post {ds : List PyData} (n : Nat) (h : n ≤ ds.length) : cutL ds (some (n : Int)) none = ds.drop n := by
  unfold cutL
  rw [HT.sIx_none, HT.sIx_nat, Nat.min_eq_left h]
  rw [List.take_of_length_le (by simp)]
theorem cut_mid {ds : List PyData} (m n : Nat) (h : m ≤ n) (h2 : n ≤ ds.length) : cutL ds (some (m : Int)) (some (n : Int)) = (ds.drop m).take (n - m) := by
  unfold cutL
  rw [HT.sIx_nat, HT.sIx_nat, Nat.min_eq_left h2, Nat.min_eq_left (Nat.le_trans h h2)]
theorem oSome_ev {k : Int} (h : g env = some (.int k)) : oSome g env = some (some k) := by
  unfold oSome
  rw [h]
theorem slT_pre {n : Nat} {k : Int} (h1 : f env = some (.tuple ds)) (h2 : g env = some (.int k)) (hk : k = (n : Nat)) (h3 : n ≤ ds.length) : eSl f oNone (oSome g) env = some (.tuple (ds.take n)) := by
  subst hk
  unfold eSl
  rw [h1, oSome_ev h2]
  show some (PyData.tuple (cutL ds none (some (n : Int)))) = _
  rw [cut_pre n h3]
theorem slT_post {n : Nat} {k : Int} (h1 : f env = some (.tuple ds)) (h2 : g env = some (.int k)) (hk : k = (n : Nat)) (h3 : n ≤ ds.length) : eSl f (oSome g) oNone env = some (.tuple (ds.drop n)) := by
  subst hk
  unfold eSl
  rw [h1, oSome_ev h2]
  show some (PyData.tuple (cutL ds (some (n : Int)) none)) = _
  rw [cut_post n h3]
theorem slL_pre {n : Nat} {k : Int} (h1 : f env = some (.list ds)) (h2 : g env = some (.int k)) (hk : k = (n : Nat)) (h3 : n ≤ ds.length) : eSl f oNone (oSome g) env = some (.list (ds.take n)) := by
  subst hk
  unfold eSl
  rw [h1, oSome_ev h2]
  show some (PyData.list (cutL ds none (some (n : Int)))) = _
  rw [cut_pre n h3]
theorem slL_post {n : Nat} {k : Int} (h1 : f env = some (.list ds)) (h2 : g env = some (.int k)) (hk : k = (n : Nat)) (h3 : n ≤ ds.length) : eSl f (oSome g) oNone env = some (.list (ds.drop n)) := by
  subst hk
  unfold eSl
  rw [h1, oSome_ev h2]
  show some (PyData.list (cutL ds (some (n : Int)) none)) = _
  rw [cut_post n h3]
theorem zipD_map {α β : Type} (u : α → PyData) (v : β → PyData) : ∀ (xs : List α) (ys : List β), zipD (xs.map u) (ys.map v) = (xs.zip ys).map fun q => .tuple [u q.1, v q.2]
  | [], _ => by simp [zipD]
  | _ :: _, [] => by simp [zipD]
  | x :: xs, y :: ys => by
    simp only [List.map_cons, zipD, List.zip_cons_cons]
    rw [zipD_map u v xs ys]
theorem sumA_ev {ns : List Int} (h : fa env = some [.list (ns.map .int)]) : eCall sumA fa env = some (.int ns.sum) := by
  unfold eCall
  rw [h]
  show (intsD (ns.map PyData.int)).map (fun ns => PyData.int ns.sum) = _
  rw [intsD_map]
  rfl
theorem loopF_step {g : PyData → En → Option En} {b : En → Out} {d : PyData} {ds : List PyData} {e e1 e2 : En} (h1 : g d e = some e1) (h2 : b e1 = .nx e2) : loopF g b (d :: ds) e = loopF g b ds e2 := by
  simp only [loopF, h1, h2]
theorem e1_ev {k : PyData → Option PyData} {d x : PyData} (h1 : f env = some x) (h2 : k x = some d) : e1 k f env = some d := by
  unfold e1
  rw [h1]
  exact h2
theorem ixG_t {j : Nat} {k : Int} {d : PyData} (h : ds[j]? = some d) (hk : k = (j : Nat)) : ixG (.tuple ds) (.int k) = some d := by subst hk; exact atI_nat h
theorem ixG_l {j : Nat} {k : Int} {d : PyData} (h : ds[j]? = some d) (hk : k = (j : Nat)) : ixG (.list ds) (.int k) = some d := by subst hk; exact atI_nat h
theorem len_l {i : En → Option PyData} (h : i env = some (.list ds)) : eCall lenA (aCons i aNil) env = some (.int (ds.length : Nat)) := by
  refine eCall_ev (aCons_ev h aNil_ev) ?_
  simp [lenA]
theorem len_t {i : En → Option PyData} (h : i env = some (.tuple ds)) : eCall lenA (aCons i aNil) env = some (.int (ds.length : Nat)) := by
  refine eCall_ev (aCons_ev h aNil_ev) ?_
  simp [lenA]
theorem eMinK_ev {gk : List PyData → Option PyData} {qs : List (PyData × PyData)} {d : PyData} (h1 : f env = some (.list (qs.map (·.1)))) (h2 : keysD gk (qs.map (·.1)) = some qs) (h3 : keysB qs = true) (h4 : 0 < qs.length) (h5 : (bestK qs (qs.length - 1)).1 = d) : eMinK gk f env = some d := by
  unfold eMinK
  rw [h1]
  simp only
  rw [h2]
  simp only
  rw [if_pos ⟨h3, h4⟩, h5]
theorem keysD_map {α : Type} {gk : List PyData → Option PyData} {u k : α → PyData} : ∀ {xs : List α}, (∀ x ∈ xs, gk [u x] = some (k x)) → keysD gk (xs.map u) = some (xs.map fun x => (u x, k x))
  | [], _ => rfl
  | x :: xs, h => by
    simp only [List.map_cons, keysD]
    rw [h x List.mem_cons_self, keysD_map fun y hy => h y (List.mem_cons_of_mem _ hy)]
    rfl
theorem keysB_map {α : Type} {u k : α → PyData} {xs : List α} (h1 : ∀ x ∈ xs, noD (k x) = true ∧ (k x).depth ≤ 60 ∧ k x ≠ .none) (h2 : ∀ x ∈ xs, ∀ y ∈ xs, PySem.W.alike (k x) (k y) = true) : keysB (xs.map fun x => (u x, k x)) = true := by
  unfold keysB
  rw [List.all_eq_true]
  intro q hq
  obtain ⟨x, hx, rfl⟩ := List.mem_map.mp hq
  obtain ⟨n1, n2, n3⟩ := h1 x hx
  rw [Bool.and_eq_true, Bool.and_eq_true, List.all_eq_true]
  refine ⟨⟨by simp [keyOk, n1, n2], ?_⟩, fun q' hq' => ?_⟩
  · show (match k x with | .none => false | _ => true) = true
    cases e : k x with
    | none => exact absurd e n3
    | _ => rfl
  · obtain ⟨y, hy, rfl⟩ := List.mem_map.mp hq'
    exact h2 x hx y hy
end
section
variable {κ : Type} [DecidableEq κ] {kd : κ → PyData} {kk : PyData → Option κ}
theorem getD_cons {k : κ} {p : PyData × PyData} {kvs : List (PyData × PyData)} : getD' kk (p :: kvs) k = if kk p.1 = some k then some p.2 else getD' kk kvs k := by
  unfold getD'
  rw [List.find?_cons]
  by_cases h : kk p.1 = some k
  · rw [if_pos h, decide_eq_true h]; rfl
  · rw [if_neg h, decide_eq_false h]
theorem get_app (hk : ∀ k, kk (kd k) = some k) {k q : κ} {d : PyData} : ∀ {kvs : List (PyData × PyData)}, (kvs.any fun p => decide (kk p.1 = some k)) = false → getD' kk (kvs ++ [(kd k, d)]) q = if q = k then some d else getD' kk kvs q
  | [], _ => by
    rw [List.nil_append, getD_cons]
    by_cases h : q = k
    · rw [if_pos h, if_pos (by rw [h]; exact hk k)]
    · rw [if_neg h, if_neg fun z => by rw [hk] at z; exact h (Option.some.inj z).symm]
  | p :: kvs, h => by
    rw [List.any_cons, Bool.or_eq_false_iff] at h
    have h1 : kk p.1 ≠ some k := of_decide_eq_false h.1
    rw [List.cons_append, getD_cons, getD_cons, get_app hk h.2]
    by_cases z : kk p.1 = some q
    · rw [if_pos z, if_pos z, if_neg fun e => h1 (by rw [z, e])]
    · rw [if_neg z, if_neg z]
theorem get_map {k q : κ} {d : PyData} : ∀ {kvs : List (PyData × PyData)}, getD' kk (kvs.map fun p => if kk p.1 = some k then (p.1, d) else p) q = if q = k then (if (kvs.any fun p => decide (kk p.1 = some k)) = true then some d else none) else getD' kk kvs q
  | [] => by
    by_cases h : q = k
    · rw [if_pos h]; rfl
    · rw [if_neg h]; rfl
  | p :: kvs => by
    rw [List.map_cons, getD_cons, get_map (kvs := kvs), getD_cons]
    by_cases z : kk p.1 = some k
    · rw [if_pos z]
      by_cases h : q = k
      · subst h; simp [z]
      · have h' : ¬ (some k = some q) := fun e => h (Option.some.inj e).symm
        simp [z, h, h']
    · rw [if_neg z]
      by_cases h : q = k
      · subst h
        rw [if_neg z, if_pos rfl, if_pos rfl, List.any_cons, decide_eq_false z, Bool.false_or]
      · simp [h]
theorem get_put (hk : ∀ k, kk (kd k) = some k) {k q : κ} {d : PyData} {kvs : List (PyData × PyData)} : getD' kk (putD kd kk kvs k d) q = if q = k then some d else getD' kk kvs q := by
  unfold putD
  by_cases h : (kvs.any fun p => decide (kk p.1 = some k)) = true
  · rw [if_pos h, get_map, if_pos h]
  · rw [if_neg h]
    exact get_app hk (by simpa using h)
theorem put_len {k : κ} {d : PyData} {kvs : List (PyData × PyData)} : (putD kd kk kvs k d).length ≤ kvs.length + 1 := by
  unfold putD
  split <;> simp
theorem getO_ev {i : Nat} {g : En → Option PyData} {env : En} {kvs : List (PyData × PyData)} {q : Key} {k d : PyData} (h1 : env[i]? = some (.ownK kvs)) (h2 : g env = some k) (h3 : kK k = some q) (h4 : getD' kK kvs q = some d) : eGetO i g env = some d := by
  unfold eGetO
  rw [h1]
  simp only
  rw [h2]
  simp only
  rw [h3]
  exact h4
theorem putK_ev {i : Nat} {fk f : En → Option PyData} {env : En} {kvs : List (PyData × PyData)} {q : Key} {k d : PyData} (h1 : f env = some d) (h2 : fk env = some k) (h3 : env[i]? = some (.ownK kvs)) (h4 : kK k = some q) (h5 : kvs.length < 1000000) : sPutD i fk f env = .nx (env.set i (.ownK (putD kdD kK kvs q d))) := by
  unfold sPutD
  rw [h1]
  simp only
  rw [h2]
  simp only
  rw [h3]
  simp only
  rw [h4]
  simp only
  rw [if_pos h5]
theorem chI_t {k1 k2 : Int → Int → Bool} {f g h : En → Option PyData} {env : En} {i j m : Int} (h1 : f env = some (.int i)) (h2 : g env = some (.int j)) (h3 : h env = some (.int m)) (h4 : k1 i j = true) : chI k1 k2 f g h env = some (.bool (k2 j m)) := by
  unfold chI
  rw [h1]
  simp only
  rw [h2]
  simp only
  rw [if_pos h4, h3]
end
/-! loops that look for the first that decides -/
section
theorem loop_find {α : Type} {g : PyData → En → Option En} {b : En → Out} (c : α → PyData) (o : α → Option PyData) (E : En → Prop) : ∀ (xs : List α) (e : En), E e →
    (∀ x ∈ xs, ∀ e, E e → ∃ e1, g (c x) e = some e1 ∧ match o x with | none => ∃ e2, b e1 = .nx e2 ∧ E e2 | some v => b e1 = .rt v) →
    match xs.findSome? o with | none => ∃ e', loopF g b (xs.map c) e = .nx e' ∧ E e' | some v => loopF g b (xs.map c) e = .rt v
  | [], e, he, _ => ⟨e, rfl, he⟩
  | x :: xs, e, he, h => by
    obtain ⟨e1, h1, h2⟩ := h x List.mem_cons_self e he
    rw [List.findSome?_cons]
    cases ho : o x with
    | some v =>
      rw [ho] at h2
      show loopF g b (c x :: xs.map c) e = .rt v
      simp only [loopF, h1, show b e1 = .rt v from h2]
    | none =>
      rw [ho] at h2
      obtain ⟨e2, h3, h4⟩ := h2
      have ih := loop_find c o E xs e2 h4 fun y hy => h y (List.mem_cons_of_mem _ hy)
      have st : loopF g b ((x :: xs).map c) e = loopF g b (xs.map c) e2 := by
        show loopF g b (c x :: xs.map c) e = _
        simp only [loopF, h1, h3]
      rw [st]
      exact ih
theorem rngD_map (lo : Int) (n : Nat) : rngD lo n = (List.range n).map fun k : Nat => PyData.int (lo + (k : Nat)) := rfl
theorem cond_find {α : Type} (p : α → Bool) (v : PyData) : ∀ xs : List α, xs.findSome? (fun x => if p x = true then some v else none) = if xs.any p = true then some v else none
  | [] => rfl
  | x :: xs => by
    rw [List.findSome?_cons, List.any_cons]
    cases h : p x with
    | true => simp
    | false => simpa using cond_find p v xs
end
end Mir

/-! MathT: texts: numbers written and read, rows of parts split again -/
namespace Mir
open PySem PySem.Spec PyProof.Rows L2
def num (n : Nat) : Str := Str.ofString (toString ((n : Nat) : Int))
theorem tl_num' (n : Nat) : TL.tl (num n) = TL.numL n := TL.tl_num n
theorem num_dig (n : Nat) : ∀ c ∈ TL.tl (num n), 48 ≤ c ∧ c ≤ 57 := fun c h => by rw [tl_num'] at h; exact TL.numL_digits n c h
theorem num_len {n : Nat} (h : n < 10000) : 1 ≤ (num n).length ∧ (num n).length ≤ 4 := by
  rw [TL.len_tl, tl_num']
  refine ⟨List.length_pos_iff.mpr (TL.numL_ne n), TL.numL_len (k := 4) (by decide) h⟩
theorem log_small {n : Nat} (h : n < 10000) : ((n : Nat) : Int).natAbs.log2 < 1920 := by
  rw [Int.natAbs_natCast]
  by_cases e : n = 0
  · subst e; decide
  · exact (Nat.log2_lt e).mpr (Nat.lt_of_lt_of_le h (by
      have : (10000 : Nat) ≤ 2 ^ 14 := by decide
      exact Nat.le_trans this (Nat.pow_le_pow_right (by decide) (by decide))))
section
variable {f g : En → Option PyData} {fa : En → Option (List PyData)} {env : En}
theorem strA_ev {n : Nat} {i : Int} (h : f env = some (.int i)) (hi : i = (n : Nat)) (hn : n < 10000) : eCall strA (aCons f aNil) env = some (.str (num n)) := by
  subst hi
  refine eCall_ev (aCons_ev h aNil_ev) ?_
  unfold strA
  simp only
  rw [if_pos (log_small hn)]
  rfl
theorem intSA_ev {n : Nat} (h : f env = some (.str (num n))) (hn : n < 10000) : eCall intSA (aCons f aNil) env = some (.int n) := by
  refine eCall_ev (aCons_ev h aNil_ev) ?_
  unfold intSA
  simp only
  have l := num_len hn
  rw [if_pos (by omega)]
  have e := TL.int_num (n := n) (by rw [← tl_num', ← TL.len_tl]; omega)
  rw [show intText? (num n) = some (n : Int) from e]
  rfl
/-- how a one-sign text ends a text -/
theorem ends1 {x : Str} {l : List Nat} {d c : Nat} (h : TL.tl x = l ++ [d]) : Txt.endswith x ⟨#[c]⟩ = (d == c) := by
  have ly : (⟨#[c]⟩ : Str).length = 1 := rfl
  have ty : TL.tl (⟨#[c]⟩ : Str) = [c] := rfl
  have lx : x.length = l.length + 1 := by rw [TL.len_tl, h]; simp
  have hp : TL.pre (TL.tl (⟨#[c]⟩ : Str)) ((TL.tl x).drop (x.length - 1)) = (d == c) := by
    rw [ty, h, lx]
    simp [TL.pre]
  have iff := TL.at_iff (x := x) (y := ⟨#[c]⟩) (by rw [ty]; simp) (x.length - 1)
  rw [hp] at iff
  unfold Txt.endswith
  rw [ly]
  have e1 : decide (0 + 1 ≤ x.length) = true := decide_eq_true (by omega)
  rw [e1, Bool.true_and]
  rw [Bool.eq_iff_iff, ← iff]
  exact ⟨fun z => ⟨by rw [ly]; omega, z⟩, fun z => z.2⟩
/-- x[:-1] -/
theorem cut_last {x : Str} {l : List Nat} {d : Nat} (h : TL.tl x = l ++ [d]) : TL.tl (cutS x none (some (-1))) = l := by
  have lx : x.length = l.length + 1 := by rw [TL.len_tl, h]; simp
  show ((TL.tl x).drop (HT.sIx x.length 0 none)).take (HT.sIx x.length x.length (some (-1)) - HT.sIx x.length 0 none) = l
  have e : HT.sIx x.length x.length (some (-1)) = l.length := by
    show (if (-1 : Int) < 0 then ((-1 : Int) + (x.length : Int)).toNat else min (-1 : Int).toNat x.length) = _
    rw [if_pos (by decide), lx]
    omega
  rw [e, HT.sIx_none, h]
  simp
theorem sgs_map (x : Str) : sgsD x = (TL.tl x).map sgD := rfl
theorem boolsM {α : Type} (p : α → Bool) : ∀ xs : List α, boolsD (xs.map fun x => PyData.bool (p x)) = some (xs.map p)
  | [] => rfl
  | x :: xs => by
    show (match boolsD (xs.map fun x => PyData.bool (p x)) with | some ns => some (p x :: ns) | none => none) = _
    rw [boolsM p xs]
    rfl
theorem allM {α : Type} {p : α → Bool} {xs : List α} (h : fa env = some [.list (xs.map fun x => .bool (p x))]) : eCall allA fa env = some (.bool (xs.all p)) := by
  refine eCall_ev h ?_
  show (boolsD (xs.map fun x => PyData.bool (p x))).map _ = _
  rw [boolsM]
  simp [List.all_map, Function.comp_def]
theorem anyM {α : Type} {p : α → Bool} {xs : List α} (h : fa env = some [.list (xs.map fun x => .bool (p x))]) : eCall anyA fa env = some (.bool (xs.any p)) := by
  refine eCall_ev h ?_
  show (boolsD (xs.map fun x => PyData.bool (p x))).map _ = _
  rw [boolsM]
  simp [List.any_map, Function.comp_def]
theorem inX_sign (n : Nat) (z : Str) : inX (sgD n) (.str z) = some (.bool (decide (n ∈ TL.tl z))) := rfl
theorem shaped_str {x : Str} (h : PyData.strOk x = true) : SeqAt.shaped (.str x) = true := by
  unfold SeqAt.shaped
  simp [PyData.canLay0, PyData.depth, h]
theorem strOk_of {x : Str} (h : ∀ c ∈ TL.tl x, c < 1000) : PyData.strOk x = true := by
  unfold PyData.strOk
  rw [← Array.all_toList, List.all_eq_true]
  intro c hc
  have := h c hc
  exact decide_eq_true (by omega)
theorem shaped_strL {xs : List Str} (h : ∀ x ∈ xs, PyData.strOk x = true) : SeqAt.shaped (.list (xs.map PyData.str)) = true := by
  unfold SeqAt.shaped
  simp [PyData.canLay0, lay_strs xs h, PyData.depth, depth_strs]
theorem num_ok (n : Nat) : PyData.strOk (num n) = true := strOk_of fun c h => by have := num_dig n c h; omega
/-- the lengths -/
theorem join_len (y : Str) : ∀ xs : List Str, (Txt.join y xs).length ≤ (xs.map (·.length)).sum + xs.length * y.length := by
  intro xs
  rw [TL.len_tl, TL.join_eq, TL.tl_join]
  have key : ∀ (ps : List (List Nat)), (TL.joinL (TL.tl y) ps).length ≤ (ps.map (·.length)).sum + ps.length * y.length := by
    intro ps
    induction ps with
    | nil => simp [TL.joinL]
    | cons p r ih =>
      cases r with
      | nil => simp [TL.joinL]
      | cons q r =>
        have e : TL.joinL (TL.tl y) (p :: q :: r) = p ++ (TL.tl y ++ TL.joinL (TL.tl y) (q :: r)) := rfl
        rw [e, List.length_append, List.length_append, ← TL.len_tl]
        rw [List.map_cons, List.sum_cons, List.length_cons, Nat.add_mul]
        omega
  have := key (xs.map TL.tl)
  rw [List.map_map, List.length_map] at this
  have e : xs.map ((fun x : List Nat => x.length) ∘ TL.tl) = xs.map (fun x : Str => x.length) := List.map_congr_left fun (x : Str) _ => (TL.len_tl x).symm
  rw [e] at this
  exact this
theorem join_mem {y : Str} {xs : List Str} {c : Nat} (h : c ∈ TL.tl (Txt.join y xs)) : c ∈ TL.tl y ∨ ∃ x ∈ xs, c ∈ TL.tl x := by
  rw [TL.join_eq, TL.tl_join] at h
  have key : ∀ (ps : List (List Nat)), c ∈ TL.joinL (TL.tl y) ps → c ∈ TL.tl y ∨ ∃ p ∈ ps, c ∈ p := by
    intro ps
    induction ps with
    | nil => intro h; simp [TL.joinL] at h
    | cons p r ih =>
      cases r with
      | nil => intro h; exact .inr ⟨p, List.mem_cons_self, h⟩
      | cons q r =>
        intro h
        have e : TL.joinL (TL.tl y) (p :: q :: r) = p ++ (TL.tl y ++ TL.joinL (TL.tl y) (q :: r)) := rfl
        rw [e, List.mem_append, List.mem_append] at h
        rcases h with h | h | h
        · exact .inr ⟨p, List.mem_cons_self, h⟩
        · exact .inl h
        · rcases ih h with h | ⟨z, h1, h2⟩
          · exact .inl h
          · exact .inr ⟨z, List.mem_cons_of_mem _ h1, h2⟩
  rcases key _ h with h | ⟨p, h1, h2⟩
  · exact .inl h
  · obtain ⟨x, hx, rfl⟩ := List.mem_map.mp h1
    exact .inr ⟨x, hx, h2⟩
theorem join_head {y x : Str} {xs : List Str} {c : Nat} {l : List Nat} (h : TL.tl x = c :: l) : ∃ l', TL.tl (Txt.join y (x :: xs)) = c :: l' := by
  rw [TL.join_eq, TL.tl_join]
  cases xs with
  | nil => exact ⟨l, h⟩
  | cons z xs =>
    have e : TL.joinL (TL.tl y) ((x :: z :: xs).map TL.tl) = TL.tl x ++ (TL.tl y ++ TL.joinL (TL.tl y) ((z :: xs).map TL.tl)) := rfl
    rw [e, h]
    exact ⟨_, rfl⟩
theorem eJoin_l {y : Str} {xs : List Str} (h1 : f env = some (.str y)) (h2 : g env = some (.list (xs.map .str))) (hl : (xs.map (·.length)).sum + xs.length * y.length ≤ 1000000) : eJoin f g env = some (.str (Txt.join y xs)) := by
  unfold eJoin
  refine e2_ev h1 h2 ?_
  show (match strsD (xs.map PyData.str) with | some (ys : List Str) => if (ys.map fun (z : Str) => z.length).sum + ys.length * y.length ≤ 1000000 then some (PyData.str (Txt.join y ys)) else none | none => none) = _
  rw [strsD_map]
  simp only
  rw [if_pos hl]
theorem fSplit_ev {x y : Str} (h1 : f env = some (.str x)) (h2 : g env = some (.str y)) (hy : (y.length == 0) = false) (hl : x.length ≤ 1000000) : fSplit f g env = some ((Txt.split x y).map .str) := by
  unfold fSplit
  rw [h1]
  simp only
  rw [h2]
  simp only
  rw [if_pos ⟨hy, hl⟩]
theorem eEnds_ev {x y : Str} (h1 : f env = some (.str x)) (h2 : g env = some (.str y)) : eEnds f g env = some (.bool (Txt.endswith x y)) := by
  unfold eEnds
  rw [h1]
  simp only
  rw [h2]
theorem eInG_ev {neg : Bool} {xs : List Str} {y : Str} (h : f env = some (.str y)) : eInG neg xs f env = some (.bool (if neg then !decide (y ∈ xs) else decide (y ∈ xs))) := by
  unfold eInG
  rw [h]
theorem fCat_ev' {a b : List PyData} (h1 : f env = some (.list a)) (h2 : g env = some (.list b)) (h3 : a.length + b.length ≤ 1000000) : fCat f g env = some (a ++ b) := by
  unfold fCat
  rw [h1]
  simp only
  rw [h2]
  simp only
  rw [if_pos h3]
end
end Mir

namespace Mir
open PySem PySem.Spec PyProof.Rows L2
theorem loopX_find {α : Type} {g : PyData → En → Option En} {b : En → OutX} (c : α → PyData) (o : α → Option PyData) (E : En → Prop) : ∀ (xs : List α) (e : En), E e →
    (∀ x ∈ xs, ∀ e, E e → ∃ e1, g (c x) e = some e1 ∧ match o x with | none => ∃ e2, b e1 = .nx e2 ∧ E e2 | some v => ∃ e2, b e1 = .rs e2 v) →
    match xs.findSome? o with | none => ∃ e', loopX g b (xs.map c) e = .nx e' ∧ E e' | some v => ∃ e2, loopX g b (xs.map c) e = .rs e2 v
  | [], e, he, _ => ⟨e, rfl, he⟩
  | x :: xs, e, he, h => by
    obtain ⟨e1, h1, h2⟩ := h x List.mem_cons_self e he
    rw [List.findSome?_cons]
    cases ho : o x with
    | some v =>
      rw [ho] at h2
      obtain ⟨e2, h3⟩ := h2
      exact ⟨e2, by
        show loopX g b (c x :: xs.map c) e = .rs e2 v
        simp only [loopX, h1, h3]⟩
    | none =>
      rw [ho] at h2
      obtain ⟨e2, h3, h4⟩ := h2
      have ih := loopX_find c o E xs e2 h4 fun y hy => h y (List.mem_cons_of_mem _ hy)
      have st : loopX g b ((x :: xs).map c) e = loopX g b (xs.map c) e2 := by
        show loopX g b (c x :: xs.map c) e = _
        simp only [loopX, h1, h3]
      rw [st]
      exact ih
section
variable {ga : En → Option Bool} {s t : En → OutX} {env e : En} {d : PyData}
theorem xSeq_nx' (h : s env = .nx e) : xSeq s t env = t e := by unfold xSeq; rw [h]
theorem xSeq_rs (h : s env = .rs e d) : xSeq s t env = .rs e d := by unfold xSeq; rw [h]
theorem xIf_t (h : ga env = some true) : xIf ga s t env = s env := by unfold xIf; rw [h]
theorem xIf_f (h : ga env = some false) : xIf ga s t env = t env := by unfold xIf; rw [h]
theorem up_nx {s : En → Out} (h : s env = .nx e) : up s env = .nx e := by unfold up; rw [h]; rfl
theorem xRaise_ev {f : En → Option PyData} (h : f env = some d) : xRaise f env = .rs env d := by unfold xRaise; rw [h]
theorem xFor_ev {f : En → Option (List PyData)} {g : PyData → En → Option En} {b : En → OutX} {ds : List PyData} {o : OutX} (h1 : f env = some ds) (h2 : loopX g b ds env = o) : xFor f g b env = o := by unfold xFor; rw [h1]; exact h2
end
end Mir

namespace K36
open PySem PySem.Spec PyProof.Rows L2 Mir
def topS (i : Nat) : Stmt := PySem.Challenge.pw_boundbook_k36_plans.main.body.getD i (.Pass ⟨0, 0, 0, 0⟩)
abbrev s_turn_layer : Stmt := topS 4
abbrev N_turn_layer : List Str := ["layer", "axis", "sheet", "row", "column", "is_mirrored", "is_turned"]
theorem sc_turn_layer : FnScope N_turn_layer ["layer", "axis"] (defScope s_turn_layer) := ⟨rfl, rfl, rfl, by decide +kernel, rfl, by decide +kernel, by decide +kernel⟩
abbrev s_sheet_packet : Stmt := topS 6
abbrev N_sheet_packet : List Str := ["number", "rows", "columns", "packet", "row", "column"]
theorem sc_sheet_packet : FnScope N_sheet_packet ["number", "rows", "columns"] (defScope s_sheet_packet) := ⟨rfl, rfl, rfl, by decide +kernel, rfl, by decide +kernel, by decide +kernel⟩
abbrev s_size_of : Stmt := topS 7
abbrev N_size_of : List Str := ["packet"]
theorem sc_size_of : FnScope N_size_of ["packet"] (defScope s_size_of) := ⟨rfl, rfl, rfl, by decide +kernel, rfl, by decide +kernel, by decide +kernel⟩
abbrev s_turn_cell : Stmt := topS 8
abbrev N_turn_cell : List Str := ["cell", "axis", "layers", "layer"]
theorem sc_turn_cell : FnScope N_turn_cell ["cell", "axis"] (defScope s_turn_cell) := ⟨rfl, rfl, rfl, by decide +kernel, rfl, by decide +kernel, by decide +kernel⟩
abbrev s_turn : Stmt := topS 9
abbrev N_turn : List Str := ["packet", "axis", "rows", "step", "cell", "row"]
theorem sc_turn : FnScope N_turn ["packet", "axis"] (defScope s_turn) := ⟨rfl, rfl, rfl, by decide +kernel, rfl, by decide +kernel, by decide +kernel⟩
abbrev s_is_inside : Stmt := topS 10
abbrev N_is_inside : List Str := ["packet", "edge", "line", "rows", "columns"]
theorem sc_is_inside : FnScope N_is_inside ["packet", "edge", "line"] (defScope s_is_inside) := ⟨rfl, rfl, rfl, by decide +kernel, rfl, by decide +kernel, by decide +kernel⟩
abbrev s_columns_from : Stmt := topS 11
abbrev N_columns_from : List Str := ["packet", "first", "behind", "row"]
theorem sc_columns_from : FnScope N_columns_from ["packet", "first", "behind"] (defScope s_columns_from) := ⟨rfl, rfl, rfl, by decide +kernel, rfl, by decide +kernel, by decide +kernel⟩
abbrev s_divide : Stmt := topS 12
abbrev N_divide : List Str := ["packet", "edge", "line", "rows", "columns"]
theorem sc_divide : FnScope N_divide ["packet", "edge", "line"] (defScope s_divide) := ⟨rfl, rfl, rfl, by decide +kernel, rfl, by decide +kernel, by decide +kernel⟩
abbrev s_cut : Stmt := topS 13
abbrev N_cut : List Str := ["packet", "edge", "line"]
theorem sc_cut : FnScope N_cut ["packet", "edge", "line"] (defScope s_cut) := ⟨rfl, rfl, rfl, by decide +kernel, rfl, by decide +kernel, by decide +kernel⟩
abbrev s_lay_row : Stmt := topS 14
abbrev N_lay_row : List Str := ["upper", "lower", "both", "above", "below"]
theorem sc_lay_row : FnScope N_lay_row ["upper", "lower"] (defScope s_lay_row) := ⟨rfl, rfl, rfl, by decide +kernel, rfl, by decide +kernel, by decide +kernel⟩
abbrev s_lay : Stmt := topS 15
abbrev N_lay : List Str := ["upper", "lower", "both", "above", "below"]
theorem sc_lay : FnScope N_lay ["upper", "lower"] (defScope s_lay) := ⟨rfl, rfl, rfl, by decide +kernel, rfl, by decide +kernel, by decide +kernel⟩
abbrev s_backwards : Stmt := topS 16
abbrev N_backwards : List Str := ["packet", "row"]
theorem sc_backwards : FnScope N_backwards ["packet"] (defScope s_backwards) := ⟨rfl, rfl, rfl, by decide +kernel, rfl, by decide +kernel, by decide +kernel⟩
abbrev s_lay_at : Stmt := topS 17
abbrev N_lay_at : List Str := ["part", "rest", "edge", "way", "upper", "lower"]
theorem sc_lay_at : FnScope N_lay_at ["part", "rest", "edge", "way"] (defScope s_lay_at) := ⟨rfl, rfl, rfl, by decide +kernel, rfl, by decide +kernel, by decide +kernel⟩
abbrev s_fold : Stmt := topS 18
abbrev N_fold : List Str := ["packet", "edge", "line", "way", "rest", "part", "axis"]
theorem sc_fold : FnScope N_fold ["packet", "edge", "line", "way"] (defScope s_fold) := ⟨rfl, rfl, rfl, by decide +kernel, rfl, by decide +kernel, by decide +kernel⟩
abbrev s_stack : Stmt := topS 19
abbrev N_stack : List Str := ["packet", "edge", "line", "way", "rest", "part"]
theorem sc_stack : FnScope N_stack ["packet", "edge", "line", "way"] (defScope s_stack) := ⟨rfl, rfl, rfl, by decide +kernel, rfl, by decide +kernel, by decide +kernel⟩
abbrev s_pile : Stmt := topS 20
abbrev N_pile : List Str := ["packets", "piled", "packet"]
theorem sc_pile : FnScope N_pile ["packets"] (defScope s_pile) := ⟨rfl, rfl, rfl, by decide +kernel, rfl, by decide +kernel, by decide +kernel⟩
abbrev s_sheets_of : Stmt := topS 23
abbrev N_sheets_of : List Str := ["plan", "instruction"]
theorem sc_sheets_of : FnScope N_sheets_of ["plan"] (defScope s_sheets_of) := ⟨rfl, rfl, rfl, by decide +kernel, rfl, by decide +kernel, by decide +kernel⟩
abbrev s_panel_count : Stmt := topS 24
abbrev N_panel_count : List Str := ["sizes", "rows", "columns"]
theorem sc_panel_count : FnScope N_panel_count ["sizes"] (defScope s_panel_count) := ⟨rfl, rfl, rfl, by decide +kernel, rfl, by decide +kernel, by decide +kernel⟩
abbrev s_work_packet : Stmt := topS 25
abbrev N_work_packet : List Str := ["packet", "instruction", "word", "edge", "line", "way"]
theorem sc_work_packet : FnScope N_work_packet ["packet", "instruction"] (defScope s_work_packet) := ⟨rfl, rfl, rfl, by decide +kernel, rfl, by decide +kernel, by decide +kernel⟩
abbrev s_take : Stmt := topS 26
abbrev N_take : List Str := ["packets", "index"]
theorem sc_take : FnScope N_take ["packets", "index"] (defScope s_take) := ⟨rfl, rfl, rfl, by decide +kernel, rfl, by decide +kernel, by decide +kernel⟩
abbrev s_pile_last : Stmt := topS 27
abbrev N_pile_last : List Str := ["packets", "count", "first"]
theorem sc_pile_last : FnScope N_pile_last ["packets", "count"] (defScope s_pile_last) := ⟨rfl, rfl, rfl, by decide +kernel, rfl, by decide +kernel, by decide +kernel⟩
abbrev s_work : Stmt := topS 28
abbrev N_work : List Str := ["packets", "instruction"]
theorem sc_work : FnScope N_work ["packets", "instruction"] (defScope s_work) := ⟨rfl, rfl, rfl, by decide +kernel, rfl, by decide +kernel, by decide +kernel⟩
abbrev s_carry_out : Stmt := topS 29
abbrev N_carry_out : List Str := ["plan", "packets", "sheet_count", "instruction"]
theorem sc_carry_out : FnScope N_carry_out ["plan"] (defScope s_carry_out) := ⟨rfl, rfl, rfl, by decide +kernel, rfl, by decide +kernel, by decide +kernel⟩
abbrev s_packets_left : Stmt := topS 30
abbrev N_packets_left : List Str := ["plan"]
theorem sc_packets_left : FnScope N_packets_left ["plan"] (defScope s_packets_left) := ⟨rfl, rfl, rfl, by decide +kernel, rfl, by decide +kernel, by decide +kernel⟩
abbrev s_is_single_cell : Stmt := topS 31
abbrev N_is_single_cell : List Str := ["packets", "packet"]
theorem sc_is_single_cell : FnScope N_is_single_cell ["packets"] (defScope s_is_single_cell) := ⟨rfl, rfl, rfl, by decide +kernel, rfl, by decide +kernel, by decide +kernel⟩
abbrev s_evaluate : Stmt := topS 32
abbrev N_evaluate : List Str := ["plan", "packets"]
theorem sc_evaluate : FnScope N_evaluate ["plan"] (defScope s_evaluate) := ⟨rfl, rfl, rfl, by decide +kernel, rfl, by decide +kernel, by decide +kernel⟩
abbrev s_is_complete : Stmt := topS 33
abbrev N_is_complete : List Str := ["plan", "packets"]
theorem sc_is_complete : FnScope N_is_complete ["plan"] (defScope s_is_complete) := ⟨rfl, rfl, rfl, by decide +kernel, rfl, by decide +kernel, by decide +kernel⟩
abbrev s_leaf_order : Stmt := topS 34
abbrev N_leaf_order : List Str := ["plan", "packets"]
theorem sc_leaf_order : FnScope N_leaf_order ["plan"] (defScope s_leaf_order) := ⟨rfl, rfl, rfl, by decide +kernel, rfl, by decide +kernel, by decide +kernel⟩
abbrev s_Lcell : Stmt := topS 36
abbrev N_Lcell : List Str := ["script", "k"]
theorem sc_Lcell : FnScope N_Lcell ["script", "k"] (defScope s_Lcell) := ⟨rfl, rfl, rfl, by decide +kernel, rfl, by decide +kernel, by decide +kernel⟩
abbrev s_Ldraws : Stmt := topS 37
abbrev N_Ldraws : List Str := ["cell", "count", "found", "is_wide", "k", "mixed"]
theorem sc_Ldraws : FnScope N_Ldraws ["cell", "count"] (defScope s_Ldraws) := ⟨rfl, rfl, rfl, by decide +kernel, rfl, by decide +kernel, by decide +kernel⟩
abbrev s_Lflip : Stmt := topS 38
abbrev N_Lflip : List Str := ["layer", "axis", "sheet", "row", "column", "is_mirrored", "is_turned"]
theorem sc_Lflip : FnScope N_Lflip ["layer", "axis"] (defScope s_Lflip) := ⟨rfl, rfl, rfl, by decide +kernel, rfl, by decide +kernel, by decide +kernel⟩
abbrev s_Lsheet : Stmt := topS 39
abbrev N_Lsheet : List Str := ["sheet", "rows", "columns", "cells", "k"]
theorem sc_Lsheet : FnScope N_Lsheet ["sheet", "rows", "columns"] (defScope s_Lsheet) := ⟨rfl, rfl, rfl, by decide +kernel, rfl, by decide +kernel, by decide +kernel⟩
abbrev s_Lturned : Stmt := topS 40
abbrev N_Lturned : List Str := ["packet", "axis", "rows", "columns", "cells", "made", "row", "column", "layers", "to_row", "to_column", "layer"]
theorem sc_Lturned : FnScope N_Lturned ["packet", "axis"] (defScope s_Lturned) := ⟨rfl, rfl, rfl, by decide +kernel, rfl, by decide +kernel, by decide +kernel⟩
abbrev s_Lregion : Stmt := topS 41
abbrev N_Lregion : List Str := ["packet", "top", "left", "rows", "columns", "made", "k"]
theorem sc_Lregion : FnScope N_Lregion ["packet", "top", "left", "rows", "columns"] (defScope s_Lregion) := ⟨rfl, rfl, rfl, by decide +kernel, rfl, by decide +kernel, by decide +kernel⟩
abbrev s_Lsplit : Stmt := topS 42
abbrev N_Lsplit : List Str := ["packet", "edge", "line", "rows", "columns", "cells"]
theorem sc_Lsplit : FnScope N_Lsplit ["packet", "edge", "line"] (defScope s_Lsplit) := ⟨rfl, rfl, rfl, by decide +kernel, rfl, by decide +kernel, by decide +kernel⟩
abbrev s_Llaid : Stmt := topS 43
abbrev N_Llaid : List Str := ["part", "rest", "edge", "way", "rows", "columns", "made", "k", "order", "piece", "down", "across", "row", "column", "place"]
theorem sc_Llaid : FnScope N_Llaid ["part", "rest", "edge", "way"] (defScope s_Llaid) := ⟨rfl, rfl, rfl, by decide +kernel, rfl, by decide +kernel, by decide +kernel⟩
abbrev s_Lmoved : Stmt := topS 44
abbrev N_Lmoved : List Str := ["packet", "step", "kind", "edge", "line", "way", "rest", "part"]
theorem sc_Lmoved : FnScope N_Lmoved ["packet", "step"] (defScope s_Lmoved) := ⟨rfl, rfl, rfl, by decide +kernel, rfl, by decide +kernel, by decide +kernel⟩
abbrev s_Linside : Stmt := topS 45
abbrev N_Linside : List Str := ["packet", "edge", "line"]
theorem sc_Linside : FnScope N_Linside ["packet", "edge", "line"] (defScope s_Linside) := ⟨rfl, rfl, rfl, by decide +kernel, rfl, by decide +kernel, by decide +kernel⟩
abbrev s_Ltuples : Stmt := topS 46
abbrev N_Ltuples : List Str := ["packet", "rows", "columns", "cells", "made", "row", "column"]
theorem sc_Ltuples : FnScope N_Ltuples ["packet"] (defScope s_Ltuples) := ⟨rfl, rfl, rfl, by decide +kernel, rfl, by decide +kernel, by decide +kernel⟩
abbrev s_Lstep : Stmt := topS 47
abbrev N_Lstep : List Str := ["draws", "kind", "edge"]
theorem sc_Lstep : FnScope N_Lstep ["draws"] (defScope s_Lstep) := ⟨rfl, rfl, rfl, by decide +kernel, rfl, by decide +kernel, by decide +kernel⟩
abbrev s_Lfinishing_steps : Stmt := topS 48
abbrev N_Lfinishing_steps : List Str := ["cell", "rows", "columns", "kinds", "draws", "steps", "at", "kind", "way", "is_across", "size", "line", "edges"]
theorem sc_Lfinishing_steps : FnScope N_Lfinishing_steps ["cell", "rows", "columns", "kinds"] (defScope s_Lfinishing_steps) := ⟨rfl, rfl, rfl, by decide +kernel, rfl, by decide +kernel, by decide +kernel⟩
abbrev s_Lcomplete_plan : Stmt := topS 49
abbrev N_Lcomplete_plan : List Str := ["script", "at", "kinds", "count", "plan", "k", "draws", "rows", "columns"]
theorem sc_Lcomplete_plan : FnScope N_Lcomplete_plan ["script", "at", "kinds"] (defScope s_Lcomplete_plan) := ⟨rfl, rfl, rfl, by decide +kernel, rfl, by decide +kernel, by decide +kernel⟩
abbrev s_Lpiled : Stmt := topS 50
abbrev N_Lpiled : List Str := ["upper", "lower", "made", "place"]
theorem sc_Lpiled : FnScope N_Lpiled ["upper", "lower"] (defScope s_Lpiled) := ⟨rfl, rfl, rfl, by decide +kernel, rfl, by decide +kernel, by decide +kernel⟩
abbrev s_Lperformed : Stmt := topS 51
abbrev N_Lperformed : List Str := ["packets", "sheets", "step", "kind", "chosen", "made", "packet", "rest", "part"]
theorem sc_Lperformed : FnScope N_Lperformed ["packets", "sheets", "step"] (defScope s_Lperformed) := ⟨rfl, rfl, rfl, by decide +kernel, rfl, by decide +kernel, by decide +kernel⟩
abbrev s_Lcarried : Stmt := topS 52
abbrev N_Lcarried : List Str := ["plan", "packets", "sheets", "step"]
theorem sc_Lcarried : FnScope N_Lcarried ["plan"] (defScope s_Lcarried) := ⟨rfl, rfl, rfl, by decide +kernel, rfl, by decide +kernel, by decide +kernel⟩
abbrev s_Lsheets : Stmt := topS 53
abbrev N_Lsheets : List Str := ["plan", "step"]
theorem sc_Lsheets : FnScope N_Lsheets ["plan"] (defScope s_Lsheets) := ⟨rfl, rfl, rfl, by decide +kernel, rfl, by decide +kernel, by decide +kernel⟩
abbrev s_Lany_step : Stmt := topS 54
abbrev N_Lany_step : List Str := ["cell", "draws", "kind"]
theorem sc_Lany_step : FnScope N_Lany_step ["cell"] (defScope s_Lany_step) := ⟨rfl, rfl, rfl, by decide +kernel, rfl, by decide +kernel, by decide +kernel⟩
abbrev s_Lasked__evaluate : Stmt := topS 55
abbrev N_Lasked__evaluate : List Str := ["function", "plan", "e"]
theorem sc_Lasked__evaluate : FnScope N_Lasked__evaluate ["function", "plan"] (defScope s_Lasked__evaluate) := ⟨rfl, rfl, rfl, by decide +kernel, rfl, by decide +kernel, by decide +kernel⟩
abbrev s_Lasked__is_complete : Stmt := topS 55
abbrev N_Lasked__is_complete : List Str := ["function", "plan", "e"]
theorem sc_Lasked__is_complete : FnScope N_Lasked__is_complete ["function", "plan"] (defScope s_Lasked__is_complete) := ⟨rfl, rfl, rfl, by decide +kernel, rfl, by decide +kernel, by decide +kernel⟩
abbrev s_Lasked__leaf_order : Stmt := topS 55
abbrev N_Lasked__leaf_order : List Str := ["function", "plan", "e"]
theorem sc_Lasked__leaf_order : FnScope N_Lasked__leaf_order ["function", "plan"] (defScope s_Lasked__leaf_order) := ⟨rfl, rfl, rfl, by decide +kernel, rfl, by decide +kernel, by decide +kernel⟩
abbrev s_law : Stmt := topS 56
abbrev N_law : List Str := ["script", "plan", "passed", "dues", "packets", "is_one", "leaves", "k", "rows", "columns", "packet"]
theorem sc_law : FnScope N_law ["script"] (defScope s_law) := ⟨rfl, rfl, rfl, by decide +kernel, rfl, by decide +kernel, by decide +kernel⟩
/-! ### what each def does to data -/
def f_turn_layer : En → Out := (sSeq (sUnp (eVar 0) (gT [2, 3, 4, 5, 6])) (sSeq (sIf (t1 (e2 neD (eVar 1) (eC (.str "horizontal")))) (sSet 5 (eNot (eVar 5))) sNil) (sSeq (sIf (t1 (e2 neD (eVar 1) (eC (.str "vertical")))) (sSet 6 (eNot (eVar 6))) sNil) (sRet (eTup (aCons (eVar 2) (aCons (eVar 3) (aCons (eVar 4) (aCons (eVar 5) (aCons (eVar 6) aNil))))))))))
def g_turn_layer : List PyData → Option PyData := gDef 2 7 f_turn_layer
def c_sheet_packet_1 : En → Option PyData := (eTup (aCons (eTup (aCons (eVar 0) (aCons (eVar 4) (aCons (eVar 5) (aCons (eC (.bool false)) (aCons (eC (.bool false)) aNil)))))) aNil))
def b_sheet_packet_1 : En → Out := (sApp 3 (eCall tupA (aCons (eL (fCmp [5] (iR1 (aCons (eVar 2) aNil)) (gVal 5) tYes' c_sheet_packet_1)) aNil)))
def f_sheet_packet : En → Out := (sSeq (sOwn 3 (fLst aNil)) (sSeq (sFor (iR1 (aCons (eVar 1) aNil)) (gVal 4) b_sheet_packet_1) (sRet (eTupO 3))))
def g_sheet_packet : List PyData → Option PyData := gDef 3 6 f_sheet_packet
def f_size_of : En → Out := (sRet (eTup (aCons (eCall lenA (aCons (eVar 0) aNil)) (aCons (eCall lenA (aCons (e2 ixG (eVar 0) (eC (.int 0))) aNil)) aNil))))
def g_size_of : List PyData → Option PyData := gDef 1 1 f_size_of
def c_turn_cell_1 : En → Option PyData := (eCall g_turn_layer (aCons (eVar 3) (aCons (eVar 1) aNil)))
def f_turn_cell : En → Out := (sSeq (sSet 2 (eCall tupA (aCons (eL (fCmp [3] (iSeq (eVar 0)) (gVal 3) tYes' c_turn_cell_1)) aNil))) (sRet (eIf (t1 (e2 eqD (eVar 1) (eC (.str "both")))) (eVar 2) (eRev (eVar 2) (e1 negD (eC (.int 1)))))))
def g_turn_cell : List PyData → Option PyData := gDef 2 4 f_turn_cell
def c_turn_1 : En → Option PyData := (eCall g_turn_cell (aCons (eVar 4) (aCons (eVar 1) aNil)))
def c_turn_2 : En → Option PyData := (eCall tupA (aCons (eL (fCmp [4] (iSeq (eRev (eVar 5) (eVar 3))) (gVal 4) tYes' c_turn_1)) aNil))
def f_turn : En → Out := (sSeq (sSet 2 (eIf (t1 (e2 eqD (eVar 1) (eC (.str "vertical")))) (eVar 0) (eRev (eVar 0) (e1 negD (eC (.int 1)))))) (sSeq (sSet 3 (eIf (t1 (e2 eqD (eVar 1) (eC (.str "horizontal")))) (eC (.int 1)) (e1 negD (eC (.int 1))))) (sRet (eCall tupA (aCons (eL (fCmp [5] (iSeq (eVar 2)) (gVal 5) tYes' c_turn_2)) aNil)))))
def g_turn : List PyData → Option PyData := gDef 2 6 f_turn
def f_is_inside : En → Out := (sSeq (sUnp (eCall g_size_of (aCons (eVar 0) aNil)) (gT [3, 4])) (sRet (e2 ltD (eVar 2) (eIf (t1 (e2 inT (eVar 1) (eTup (aCons (eC (.str "left")) (aCons (eC (.str "right")) aNil))))) (eVar 4) (eVar 3)))))
def g_is_inside : List PyData → Option PyData := gDef 3 5 f_is_inside
def c_columns_from_1 : En → Option PyData := (eSl (eVar 3) (oSome (eVar 1)) (oSome (eVar 2)))
def f_columns_from : En → Out := (sRet (eCall tupA (aCons (eL (fCmp [3] (iSeq (eVar 0)) (gVal 3) tYes' c_columns_from_1)) aNil)))
def g_columns_from : List PyData → Option PyData := gDef 3 4 f_columns_from
def f_divide : En → Out := (sSeq (sUnp (eCall g_size_of (aCons (eVar 0) aNil)) (gT [3, 4])) (sSeq (sIf (t1 (e2 eqD (eVar 1) (eC (.str "left")))) (sRet (eTup (aCons (eCall g_columns_from (aCons (eVar 0) (aCons (eVar 2) (aCons (eVar 4) aNil)))) (aCons (eCall g_columns_from (aCons (eVar 0) (aCons (eC (.int 0)) (aCons (eVar 2) aNil)))) aNil)))) sNil) (sSeq (sIf (t1 (e2 eqD (eVar 1) (eC (.str "right")))) (sRet (eTup (aCons (eCall g_columns_from (aCons (eVar 0) (aCons (eC (.int 0)) (aCons (e2 subD (eVar 4) (eVar 2)) aNil)))) (aCons (eCall g_columns_from (aCons (eVar 0) (aCons (e2 subD (eVar 4) (eVar 2)) (aCons (eVar 4) aNil)))) aNil)))) sNil) (sSeq (sIf (t1 (e2 eqD (eVar 1) (eC (.str "top")))) (sRet (eTup (aCons (eSl (eVar 0) (oSome (eVar 2)) oNone) (aCons (eSl (eVar 0) oNone (oSome (eVar 2))) aNil)))) sNil) (sRet (eTup (aCons (eSl (eVar 0) oNone (oSome (e2 subD (eVar 3) (eVar 2)))) (aCons (eSl (eVar 0) (oSome (e2 subD (eVar 3) (eVar 2))) oNone) aNil))))))))
def g_divide : List PyData → Option PyData := gDef 3 5 f_divide
def f_cut : En → OutX := (xSeq (xIf (tNot' (tTr (eCall g_is_inside (aCons (eVar 0) (aCons (eVar 1) (aCons (eVar 2) aNil)))))) (xRaise (eC (.str "line outside the packet"))) xNil) (up (sRet (eCall g_divide (aCons (eVar 0) (aCons (eVar 1) (aCons (eVar 2) aNil)))))))
def g_cut : List PyData → Option Rz := gDefX 3 3 f_cut
def c_lay_row_1 : En → Option PyData := (e2 addD (eVar 3) (eVar 4))
def f_lay_row : En → Out := (sSeq (sSet 2 (eCall tupA (aCons (eL (fCmp [3, 4] (iZp (aCons (eVar 0) (aCons (eVar 1) aNil))) (gT [3, 4]) tYes' c_lay_row_1)) aNil))) (sRet (e2 addD (e2 addD (eVar 2) (eSl (eVar 0) (oSome (eCall lenA (aCons (eVar 2) aNil))) oNone)) (eSl (eVar 1) (oSome (eCall lenA (aCons (eVar 2) aNil))) oNone))))
def g_lay_row : List PyData → Option PyData := gDef 2 5 f_lay_row
def c_lay_1 : En → Option PyData := (eCall g_lay_row (aCons (eVar 3) (aCons (eVar 4) aNil)))
def f_lay : En → Out := (sSeq (sSet 2 (eCall tupA (aCons (eL (fCmp [3, 4] (iZp (aCons (eVar 0) (aCons (eVar 1) aNil))) (gT [3, 4]) tYes' c_lay_1)) aNil))) (sRet (e2 addD (e2 addD (eVar 2) (eSl (eVar 0) (oSome (eCall lenA (aCons (eVar 2) aNil))) oNone)) (eSl (eVar 1) (oSome (eCall lenA (aCons (eVar 2) aNil))) oNone))))
def g_lay : List PyData → Option PyData := gDef 2 5 f_lay
def c_backwards_1 : En → Option PyData := (eRev (eVar 1) (e1 negD (eC (.int 1))))
def f_backwards : En → Out := (sRet (eCall tupA (aCons (eL (fCmp [1] (iSeq (eRev (eVar 0) (e1 negD (eC (.int 1))))) (gVal 1) tYes' c_backwards_1)) aNil)))
def g_backwards : List PyData → Option PyData := gDef 1 2 f_backwards
def f_lay_at : En → Out := (sSeq (sUnp (eIf (t1 (e2 eqD (eVar 3) (eC (.str "over")))) (eTup (aCons (eVar 0) (aCons (eVar 1) aNil))) (eTup (aCons (eVar 1) (aCons (eVar 0) aNil)))) (gT [4, 5])) (sSeq (sIf (t1 (e2 inT (eVar 2) (eTup (aCons (eC (.str "left")) (aCons (eC (.str "top")) aNil))))) (sRet (eCall g_lay (aCons (eVar 4) (aCons (eVar 5) aNil)))) sNil) (sRet (eCall g_backwards (aCons (eCall g_lay (aCons (eCall g_backwards (aCons (eVar 4) aNil)) (aCons (eCall g_backwards (aCons (eVar 5) aNil)) aNil))) aNil)))))
def g_lay_at : List PyData → Option PyData := gDef 4 6 f_lay_at
def f_fold : En → OutX := (xSeq (xUnp (xCall g_cut (xaOk (aCons (eVar 0) (aCons (eVar 1) (aCons (eVar 2) aNil))))) (gT [4, 5])) (xSeq (up (sSet 6 (eIf (t1 (e2 inT (eVar 1) (eTup (aCons (eC (.str "left")) (aCons (eC (.str "right")) aNil))))) (eC (.str "vertical")) (eC (.str "horizontal"))))) (up (sRet (eCall g_lay_at (aCons (eCall g_turn (aCons (eVar 5) (aCons (eVar 6) aNil))) (aCons (eVar 4) (aCons (eVar 1) (aCons (eVar 3) aNil)))))))))
def g_fold : List PyData → Option Rz := gDefX 4 7 f_fold
def f_stack : En → OutX := (xSeq (xUnp (xCall g_cut (xaOk (aCons (eVar 0) (aCons (eVar 1) (aCons (eVar 2) aNil))))) (gT [4, 5])) (up (sRet (eCall g_lay_at (aCons (eVar 5) (aCons (eVar 4) (aCons (eVar 1) (aCons (eVar 3) aNil))))))))
def g_stack : List PyData → Option Rz := gDefX 4 6 f_stack
def c_pile_1 : En → Option PyData := (e2 neD (eCall g_size_of (aCons (eVar 2) aNil)) (eCall g_size_of (aCons (e2 ixG (eVar 0) (eC (.int 0))) aNil)))
def b_pile_1 : En → Out := (sSet 1 (eCall g_lay (aCons (eVar 1) (aCons (eVar 2) aNil))))
def f_pile : En → OutX := (xSeq (xIf (t1 (eCall anyA (aCons (eL (fCmp [2] (iSeq (eVar 0)) (gVal 2) tYes' c_pile_1)) aNil))) (xRaise (eC (.str "packets differ in size"))) xNil) (xSeq (up (sSet 1 (e2 ixG (eVar 0) (eC (.int 0))))) (xSeq (up (sFor (iSeq (eSl (eVar 0) (oSome (eC (.int 1))) oNone)) (gVal 2) b_pile_1)) (up (sRet (eVar 1))))))
def g_pile : List PyData → Option Rz := gDefX 1 3 f_pile
def c_sheets_of_1 : En → Option PyData := (eTup (aCons (e2 ixG (eVar 1) (eC (.int 1))) (aCons (e2 ixG (eVar 1) (eC (.int 2))) aNil)))
def t_sheets_of_1 : En → Option Bool := (t1 (e2 eqD (e2 ixG (eVar 1) (eC (.int 0))) (eC (.str "sheet"))))
def f_sheets_of : En → Out := (sRet (eL (fCmp [1] (iSeq (eVar 0)) (gVal 1) t_sheets_of_1 c_sheets_of_1)))
def g_sheets_of : List PyData → Option PyData := gDef 1 2 f_sheets_of
def c_panel_count_1 : En → Option PyData := (e2 mulD (eVar 1) (eVar 2))
def f_panel_count : En → Out := (sRet (eCall sumA (aCons (eL (fCmp [1, 2] (iSeq (eVar 0)) (gT [1, 2]) tYes' c_panel_count_1)) aNil)))
def g_panel_count : List PyData → Option PyData := gDef 1 3 f_panel_count
def f_work_packet : En → OutX := (xSeq (xIf (t1 (e2 eqD (e2 ixG (eVar 1) (eC (.int 0))) (eC (.str "turn")))) (up (sRet (eL (fLst (aCons (eCall g_turn (aCons (eVar 0) (aCons (e2 ixG (eVar 1) (eC (.int 1))) aNil))) aNil))))) xNil) (xSeq (xIf (t1 (e2 eqD (e2 ixG (eVar 1) (eC (.int 0))) (eC (.str "cut")))) (xRet (xList (xCall g_cut (xaOk (aCons (eVar 0) (aCons (e2 ixG (eVar 1) (eC (.int 1))) (aCons (e2 ixG (eVar 1) (eC (.int 2))) aNil))))))) xNil) (xSeq (up (sUnp (eVar 1) (gT [2, 3, 4, 5]))) (xSeq (xIf (t1 (e2 eqD (eVar 2) (eC (.str "fold")))) (xRet (xLst (xaCons (xCall g_fold (xaOk (aCons (eVar 0) (aCons (eVar 3) (aCons (eVar 4) (aCons (eVar 5) aNil)))))) aNil))) xNil) (xRet (xLst (xaCons (xCall g_stack (xaOk (aCons (eVar 0) (aCons (eVar 3) (aCons (eVar 4) (aCons (eVar 5) aNil)))))) aNil)))))))
def g_work_packet : List PyData → Option Rz := gDefX 2 6 f_work_packet
def f_take : En → OutX := (xSeq (xIf (tNot' (t1 (chI (fun i j => decide (i ≤ j)) (fun i j => decide (i < j)) (eC (.int 0)) (eVar 1) (eCall lenA (aCons (eVar 0) aNil))))) (xRaise (eC (.str "no such packet"))) xNil) (up (sRet (eL (fCat (e2 addD (eSl (eVar 0) oNone (oSome (eVar 1))) (eSl (eVar 0) (oSome (e2 addD (eVar 1) (eC (.int 1)))) oNone)) (eL (fLst (aCons (e2 ixG (eVar 0) (eVar 1)) aNil))))))))
def g_take : List PyData → Option Rz := gDefX 2 2 f_take
def f_pile_last : En → OutX := (xSeq (xIf (t1 (e2 gtD (eVar 1) (eCall lenA (aCons (eVar 0) aNil)))) (xRaise (eC (.str "too few packets"))) xNil) (xSeq (up (sSet 2 (e2 subD (eCall lenA (aCons (eVar 0) aNil)) (eVar 1)))) (xRet (x2 addD (eSl (eVar 0) oNone (oSome (eVar 2))) (xLst (xaCons (xCall g_pile (xaOk (aCons (eSl (eVar 0) (oSome (eVar 2)) oNone) aNil))) aNil))))))
def g_pile_last : List PyData → Option Rz := gDefX 2 3 f_pile_last
def f_work : En → OutX := (xSeq (xIf (t1 (e2 eqD (e2 ixG (eVar 1) (eC (.int 0))) (eC (.str "take")))) (xRet (xCall g_take (xaOk (aCons (eVar 0) (aCons (e2 ixG (eVar 1) (eC (.int 1))) aNil))))) xNil) (xSeq (xIf (t1 (e2 eqD (e2 ixG (eVar 1) (eC (.int 0))) (eC (.str "pile")))) (xRet (xCall g_pile_last (xaOk (aCons (eVar 0) (aCons (e2 ixG (eVar 1) (eC (.int 1))) aNil))))) xNil) (xSeq (xIf (tNot' (tTr (eVar 0))) (xRaise (eC (.str "no packet"))) xNil) (xRet (x2 addD (eSl (eVar 0) oNone (oSome (e1 negD (eC (.int 1))))) (xCall g_work_packet (xaOk (aCons (e2 ixG (eVar 0) (e1 negD (eC (.int 1)))) (aCons (eVar 1) aNil)))))))))
def g_work : List PyData → Option Rz := gDefX 2 2 f_work
def b_carry_out_1 : En → OutX := (xIf (t1 (e2 eqD (e2 ixG (eVar 3) (eC (.int 0))) (eC (.str "sheet")))) (xSeq (up (sSet 1 (eL (fCat (eVar 1) (eL (fLst (aCons (eCall g_sheet_packet (aCons (eVar 2) (aCons (e2 ixG (eVar 3) (eC (.int 1))) (aCons (e2 ixG (eVar 3) (eC (.int 2))) aNil)))) aNil))))))) (up (sAug 2 (· + ·) (eC (.int 1))))) (xSet 1 (xCall g_work (xaOk (aCons (eVar 1) (aCons (eVar 3) aNil))))))
def f_carry_out : En → OutX := (xSeq (up (sSet 1 (eL (fLst aNil)))) (xSeq (up (sSet 2 (eC (.int 0)))) (xSeq (xFor (iSeq (eVar 0)) (gVal 3) b_carry_out_1) (up (sRet (eVar 1))))))
def g_carry_out : List PyData → Option Rz := gDefX 1 4 f_carry_out
def y_packets_left_1 : En → OutX := (xRet (xCall g_carry_out (xaOk (aCons (eVar 0) aNil))))
def u_packets_left_1 : En → Out := (sRet (eC .none))
def f_packets_left : En → OutX := (xSeq (xIf (t1 (e2 gtD (eCall g_panel_count (aCons (eCall g_sheets_of (aCons (eVar 0) aNil)) aNil)) (eC (.int 64)))) (xRaise (eC (.str "too many panels"))) xNil) (up (sTry0 y_packets_left_1 u_packets_left_1)))
def g_packets_left : List PyData → Option Rz := gDefX 1 1 f_packets_left
def c_is_single_cell_1 : En → Option PyData := (eCall g_size_of (aCons (eVar 1) aNil))
def f_is_single_cell : En → Out := (sRet (e2 eqD (eL (fCmp [1] (iSeq (eVar 0)) (gVal 1) tYes' c_is_single_cell_1)) (eL (fLst (aCons (eTup (aCons (eC (.int 1)) (aCons (eC (.int 1)) aNil))) aNil)))))
def g_is_single_cell : List PyData → Option PyData := gDef 1 2 f_is_single_cell
def f_evaluate : En → OutX := (xSeq (xSet 1 (xCall g_packets_left (xaOk (aCons (eVar 0) aNil)))) (xSeq (xIf (t1 (e2 isD (eVar 1) (eC .none))) (xRaise (eC (.str "plan fails"))) xNil) (up (sRet (eVar 1)))))
def g_evaluate : List PyData → Option Rz := gDefX 1 2 f_evaluate
def f_is_complete : En → OutX := (xSeq (xSet 1 (xCall g_packets_left (xaOk (aCons (eVar 0) aNil)))) (up (sRet (eAnd (e2 isntD (eVar 1) (eC .none)) (eCall g_is_single_cell (aCons (eVar 1) aNil))))))
def g_is_complete : List PyData → Option Rz := gDefX 1 2 f_is_complete
def f_leaf_order : En → OutX := (xSeq (xSet 1 (xCall g_evaluate (xaOk (aCons (eVar 0) aNil)))) (xSeq (xIf (tNot' (tTr (eCall g_is_single_cell (aCons (eVar 1) aNil)))) (xRaise (eC (.str "plan is not complete"))) xNil) (up (sRet (e2 ixG (e2 ixG (e2 ixG (eVar 1) (eC (.int 0))) (eC (.int 0))) (eC (.int 0)))))))
def g_leaf_order : List PyData → Option Rz := gDefX 1 2 f_leaf_order
def f_Lcell : En → Out := (sSeq (sIf (t1 (e2 ltD (eVar 1) (eCall lenA (aCons (eVar 0) aNil)))) (sRet (e2 ixG (eVar 0) (eVar 1))) sNil) (sRet (eC (.int 0))))
def g_Lcell : List PyData → Option PyData := gDef 2 2 f_Lcell
def b_Ldraws_1 : En → Out := (sIf (tTr (eVar 3)) (sSeq (sApp 2 (e2 modD (eVar 0) (eC (.int 1009)))) (sSet 0 (e2 divD (eVar 0) (eC (.int 1009))))) (sSeq (sSet 5 (e2 modD (e2 addD (e2 mulD (eVar 0) (eC (.int 48271))) (e2 mulD (eVar 4) (eC (.int 69621)))) (eC (.int 2147483647)))) (sApp 2 (e2 modD (e2 addD (e2 addD (e2 mulD (eVar 5) (eVar 5)) (e2 mulD (eVar 0) (eC (.int 31)))) (eVar 4)) (eC (.int 1000003))))))
def f_Ldraws : En → Out := (sSeq (sOwn 2 (fLst aNil)) (sSeq (sSet 3 (e2 geD (eVar 0) (e2 powD (eC (.int 10)) (eC (.int 18))))) (sSeq (sFor (iR1 (aCons (eVar 1) aNil)) (gVal 4) b_Ldraws_1) (fun env => (sRet (eVar 2)) (frz 2 env)))))
def g_Ldraws : List PyData → Option PyData := gDef 2 6 f_Ldraws
def f_Lflip : En → Out := (sSeq (sUnp (eVar 0) (gT [2, 3, 4, 5, 6])) (sSeq (sIf (t1 (e2 inT (eVar 1) (eTup (aCons (eC (.str "vertical")) (aCons (eC (.str "both")) aNil))))) (sSet 5 (eNot (eVar 5))) sNil) (sSeq (sIf (t1 (e2 inT (eVar 1) (eTup (aCons (eC (.str "horizontal")) (aCons (eC (.str "both")) aNil))))) (sSet 6 (eNot (eVar 6))) sNil) (sRet (eTup (aCons (eVar 2) (aCons (eVar 3) (aCons (eVar 4) (aCons (eVar 5) (aCons (eVar 6) aNil))))))))))
def g_Lflip : List PyData → Option PyData := gDef 2 7 f_Lflip
def b_Lsheet_1 : En → Out := (sPutD 3 (eTup (aCons (e2 divD (eVar 4) (eVar 2)) (aCons (e2 modD (eVar 4) (eVar 2)) aNil))) (eL (fLst (aCons (eTup (aCons (eVar 0) (aCons (e2 divD (eVar 4) (eVar 2)) (aCons (e2 modD (eVar 4) (eVar 2)) (aCons (eC (.bool false)) (aCons (eC (.bool false)) aNil)))))) aNil))))
def f_Lsheet : En → Out := (sSeq (sNewT 3) (sSeq (sFor (iR1 (aCons (e2 mulD (eVar 1) (eVar 2)) aNil)) (gVal 4) b_Lsheet_1) (fun env => (sRet (eTup (aCons (eVar 1) (aCons (eVar 2) (aCons (eVar 3) aNil))))) (frzD 3 env))))
def g_Lsheet : List PyData → Option PyData := gDef 3 5 f_Lsheet
def c_Lturned_1 : En → Option PyData := (eCall g_Lflip (aCons (eVar 11) (aCons (eVar 1) aNil)))
def b_Lturned_1 : En → Out := (sSeq (sSet 8 (eL (fCmp [11] (iSeqU (e2 ixU (eVar 4) (eTup (aCons (eVar 6) (aCons (eVar 7) aNil))))) (gVal 11) tYes' c_Lturned_1))) (sSeq (sSet 9 (eIf (t1 (e2 eqD (eVar 1) (eC (.str "vertical")))) (eVar 6) (e2 subD (e2 subD (eVar 2) (eC (.int 1))) (eVar 6)))) (sSeq (sSet 10 (eIf (t1 (e2 eqD (eVar 1) (eC (.str "horizontal")))) (eVar 7) (e2 subD (e2 subD (eVar 3) (eC (.int 1))) (eVar 7)))) (sPutD 5 (eTup (aCons (eVar 9) (aCons (eVar 10) aNil))) (eIf (t1 (e2 eqD (eVar 1) (eC (.str "both")))) (eVar 8) (eRev (eVar 8) (e1 negD (eC (.int 1)))))))))
def f_Lturned : En → Out := (sSeq (sUnp (eVar 0) (gT [2, 3, 4])) (sSeq (sNewT 5) (sSeq (sFor (iSeqU (eVar 4)) (gT [6, 7]) b_Lturned_1) (fun env => (sRet (eTup (aCons (eVar 2) (aCons (eVar 3) (aCons (eVar 5) aNil))))) (frzD 5 env)))))
def g_Lturned : List PyData → Option PyData := gDef 2 12 f_Lturned
def b_Lregion_1 : En → Out := (sPutD 5 (eTup (aCons (e2 divD (eVar 6) (eVar 4)) (aCons (e2 modD (eVar 6) (eVar 4)) aNil))) (e2 ixU (e2 ixU (eVar 0) (eC (.int 2))) (eTup (aCons (e2 addD (eVar 1) (e2 divD (eVar 6) (eVar 4))) (aCons (e2 addD (eVar 2) (e2 modD (eVar 6) (eVar 4))) aNil)))))
def f_Lregion : En → Out := (sSeq (sNewT 5) (sSeq (sFor (iR1 (aCons (e2 mulD (eVar 3) (eVar 4)) aNil)) (gVal 6) b_Lregion_1) (fun env => (sRet (eTup (aCons (eVar 3) (aCons (eVar 4) (aCons (eVar 5) aNil))))) (frzD 5 env))))
def g_Lregion : List PyData → Option PyData := gDef 5 7 f_Lregion
def f_Lsplit : En → Out := (sSeq (sUnp (eVar 0) (gT [3, 4, 5])) (sSeq (sIf (t1 (e2 eqD (eVar 1) (eC (.str "left")))) (sRet (eTup (aCons (eCall g_Lregion (aCons (eVar 0) (aCons (eC (.int 0)) (aCons (eVar 2) (aCons (eVar 3) (aCons (e2 subD (eVar 4) (eVar 2)) aNil)))))) (aCons (eCall g_Lregion (aCons (eVar 0) (aCons (eC (.int 0)) (aCons (eC (.int 0)) (aCons (eVar 3) (aCons (eVar 2) aNil)))))) aNil)))) sNil) (sSeq (sIf (t1 (e2 eqD (eVar 1) (eC (.str "right")))) (sRet (eTup (aCons (eCall g_Lregion (aCons (eVar 0) (aCons (eC (.int 0)) (aCons (eC (.int 0)) (aCons (eVar 3) (aCons (e2 subD (eVar 4) (eVar 2)) aNil)))))) (aCons (eCall g_Lregion (aCons (eVar 0) (aCons (eC (.int 0)) (aCons (e2 subD (eVar 4) (eVar 2)) (aCons (eVar 3) (aCons (eVar 2) aNil)))))) aNil)))) sNil) (sSeq (sIf (t1 (e2 eqD (eVar 1) (eC (.str "top")))) (sRet (eTup (aCons (eCall g_Lregion (aCons (eVar 0) (aCons (eVar 2) (aCons (eC (.int 0)) (aCons (e2 subD (eVar 3) (eVar 2)) (aCons (eVar 4) aNil)))))) (aCons (eCall g_Lregion (aCons (eVar 0) (aCons (eC (.int 0)) (aCons (eC (.int 0)) (aCons (eVar 2) (aCons (eVar 4) aNil)))))) aNil)))) sNil) (sRet (eTup (aCons (eCall g_Lregion (aCons (eVar 0) (aCons (eC (.int 0)) (aCons (eC (.int 0)) (aCons (e2 subD (eVar 3) (eVar 2)) (aCons (eVar 4) aNil)))))) (aCons (eCall g_Lregion (aCons (eVar 0) (aCons (e2 subD (eVar 3) (eVar 2)) (aCons (eC (.int 0)) (aCons (eVar 2) (aCons (eVar 4) aNil)))))) aNil))))))))
def g_Lsplit : List PyData → Option PyData := gDef 3 6 f_Lsplit
def b_Llaid_1 : En → Out := (sPutD 6 (eTup (aCons (e2 divD (eVar 7) (eVar 5)) (aCons (e2 modD (eVar 7) (eVar 5)) aNil))) (eL (fLst aNil)))
def b_Llaid_2 : En → Out := (sSeq (sSet 14 (eTup (aCons (e2 addD (eVar 12) (eVar 10)) (aCons (e2 addD (eVar 13) (eVar 11)) aNil)))) (sPutD 6 (eVar 14) (e2 addD (eGetO 6 (eVar 14)) (e2 ixU (e2 ixU (eVar 9) (eC (.int 2))) (eTup (aCons (eVar 12) (aCons (eVar 13) aNil)))))))
def b_Llaid_3 : En → Out := (sSeq (sSet 10 (eIf (t1 (e2 eqD (eVar 2) (eC (.str "bottom")))) (e2 subD (eVar 4) (e2 ixU (eVar 9) (eC (.int 0)))) (eC (.int 0)))) (sSeq (sSet 11 (eIf (t1 (e2 eqD (eVar 2) (eC (.str "right")))) (e2 subD (eVar 5) (e2 ixU (eVar 9) (eC (.int 1)))) (eC (.int 0)))) (sFor (iSeqU (e2 ixU (eVar 9) (eC (.int 2)))) (gT [12, 13]) b_Llaid_2)))
def f_Llaid : En → Out := (sSeq (sSet 4 (eCall mx2 (aCons (e2 ixU (eVar 0) (eC (.int 0))) (aCons (e2 ixU (eVar 1) (eC (.int 0))) aNil)))) (sSeq (sSet 5 (eCall mx2 (aCons (e2 ixU (eVar 0) (eC (.int 1))) (aCons (e2 ixU (eVar 1) (eC (.int 1))) aNil)))) (sSeq (sNewT 6) (sSeq (sFor (iR1 (aCons (e2 mulD (eVar 4) (eVar 5)) aNil)) (gVal 7) b_Llaid_1) (sSeq (sSet 8 (eIf (t1 (e2 eqD (eVar 3) (eC (.str "over")))) (eL (fLst (aCons (eVar 0) (aCons (eVar 1) aNil)))) (eL (fLst (aCons (eVar 1) (aCons (eVar 0) aNil)))))) (sSeq (sFor (iSeqU (eVar 8)) (gVal 9) b_Llaid_3) (fun env => (sRet (eTup (aCons (eVar 4) (aCons (eVar 5) (aCons (eVar 6) aNil))))) (frzD 6 env))))))))
def g_Llaid : List PyData → Option PyData := gDef 4 15 f_Llaid
def f_Lmoved : En → Out := (sSeq (sUnp (eVar 1) (gT [2, 3, 4, 5])) (sSeq (sUnp (eCall g_Lsplit (aCons (eVar 0) (aCons (eVar 3) (aCons (eVar 4) aNil)))) (gT [6, 7])) (sSeq (sIf (t1 (e2 eqD (eVar 2) (eC (.str "fold")))) (sSet 7 (eCall g_Lturned (aCons (eVar 7) (aCons (eIf (t1 (e2 inT (eVar 3) (eTup (aCons (eC (.str "left")) (aCons (eC (.str "right")) aNil))))) (eC (.str "vertical")) (eC (.str "horizontal"))) aNil)))) sNil) (sRet (eCall g_Llaid (aCons (eVar 7) (aCons (eVar 6) (aCons (eVar 3) (aCons (eVar 5) aNil)))))))))
def g_Lmoved : List PyData → Option PyData := gDef 2 8 f_Lmoved
def f_Linside : En → Out := (sRet (e2 ltD (eVar 2) (eIf (t1 (e2 inT (eVar 1) (eTup (aCons (eC (.str "left")) (aCons (eC (.str "right")) aNil))))) (e2 ixG (eVar 0) (eC (.int 1))) (e2 ixG (eVar 0) (eC (.int 0))))))
def g_Linside : List PyData → Option PyData := gDef 3 3 f_Linside
def c_Ltuples_1 : En → Option PyData := (eCall tupA (aCons (e2 ixU (eVar 3) (eTup (aCons (eVar 5) (aCons (eVar 6) aNil)))) aNil))
def b_Ltuples_1 : En → Out := (sApp 4 (eCall tupA (aCons (eL (fCmp [6] (iR1 (aCons (eVar 2) aNil)) (gVal 6) tYes' c_Ltuples_1)) aNil)))
def f_Ltuples : En → Out := (sSeq (sUnp (eVar 0) (gT [1, 2, 3])) (sSeq (sOwn 4 (fLst aNil)) (sSeq (sFor (iR1 (aCons (eVar 1) aNil)) (gVal 5) b_Ltuples_1) (sRet (eTupO 4)))))
def g_Ltuples : List PyData → Option PyData := gDef 1 7 f_Ltuples
def f_Lstep : En → Out := (sSeq (sSet 1 (e2 ixG (eL (fLst (aCons (eC (.str "fold")) (aCons (eC (.str "stack")) (aCons (eC (.str "fold")) (aCons (eC (.str "turn")) aNil)))))) (e2 modD (e2 ixG (eVar 0) (eC (.int 0))) (eC (.int 4))))) (sSeq (sIf (t1 (e2 eqD (eVar 1) (eC (.str "turn")))) (sRet (eTup (aCons (eC (.str "turn")) (aCons (e2 ixG (eL (fLst (aCons (eC (.str "vertical")) (aCons (eC (.str "horizontal")) (aCons (eC (.str "both")) aNil))))) (e2 modD (e2 ixG (eVar 0) (eC (.int 1))) (eC (.int 3)))) aNil)))) sNil) (sSeq (sSet 2 (e2 ixG (eL (fLst (aCons (eC (.str "left")) (aCons (eC (.str "right")) (aCons (eC (.str "top")) (aCons (eC (.str "bottom")) aNil)))))) (e2 modD (e2 ixG (eVar 0) (eC (.int 1))) (eC (.int 4))))) (sRet (eTup (aCons (eVar 1) (aCons (eVar 2) (aCons (e2 addD (eC (.int 1)) (e2 modD (e2 ixG (eVar 0) (eC (.int 2))) (eC (.int 3)))) (aCons (e2 ixG (eL (fLst (aCons (eC (.str "over")) (aCons (eC (.str "under")) aNil)))) (e2 modD (e2 ixG (eVar 0) (eC (.int 3))) (eC (.int 2)))) aNil)))))))))
def g_Lstep : List PyData → Option PyData := gDef 1 3 f_Lstep
def b_Lfinishing_steps_1 : En → Out := (sSeq (sSet 7 (e2 ixG (eVar 3) (e2 modD (e2 ixG (eVar 4) (eVar 6)) (eCall lenA (aCons (eVar 3) aNil))))) (sSeq (sSet 8 (e2 ixG (eL (fLst (aCons (eC (.str "over")) (aCons (eC (.str "under")) aNil)))) (e2 modD (e2 ixG (eVar 4) (e2 addD (eVar 6) (eC (.int 1)))) (eC (.int 2))))) (sSeq (sSet 9 (eAnd (e2 gtD (eVar 2) (eC (.int 1))) (eOr (e2 eqD (eVar 1) (eC (.int 1))) (e2 eqD (e2 modD (e2 ixG (eVar 4) (e2 addD (eVar 6) (eC (.int 2)))) (eC (.int 2))) (eC (.int 0)))))) (sSeq (sSet 10 (eIf (tTr (eVar 9)) (eVar 2) (eVar 1))) (sSeq (sSet 11 (e2 addD (eC (.int 1)) (e2 modD (e2 ixG (eVar 4) (e2 addD (eVar 6) (eC (.int 3)))) (e2 subD (eVar 10) (eC (.int 1)))))) (sSeq (sSet 12 (eIf (tTr (eVar 9)) (eL (fLst (aCons (eC (.str "left")) (aCons (eC (.str "right")) aNil)))) (eL (fLst (aCons (eC (.str "top")) (aCons (eC (.str "bottom")) aNil)))))) (sSeq (sApp 5 (eTup (aCons (eVar 7) (aCons (e2 ixG (eVar 12) (e2 modD (e2 ixG (eVar 4) (e2 addD (eVar 6) (eC (.int 4)))) (eC (.int 2)))) (aCons (eVar 11) (aCons (eVar 8) aNil)))))) (sSeq (sIf (t1 (e2 eqD (e2 modD (e2 ixG (eVar 4) (e2 addD (eVar 6) (eC (.int 1)))) (eC (.int 5))) (eC (.int 0)))) (sApp 5 (eTup (aCons (eC (.str "turn")) (aCons (e2 ixG (eL (fLst (aCons (eC (.str "vertical")) (aCons (eC (.str "horizontal")) (aCons (eC (.str "both")) aNil))))) (e2 modD (e2 ixG (eVar 4) (e2 addD (eVar 6) (eC (.int 3)))) (eC (.int 3)))) aNil)))) sNil) (sSeq (sIf (tTr (eVar 9)) (sSet 2 (eCall mx2 (aCons (eVar 11) (aCons (e2 subD (eVar 10) (eVar 11)) aNil)))) (sSet 1 (eCall mx2 (aCons (eVar 11) (aCons (e2 subD (eVar 10) (eVar 11)) aNil))))) (sSet 6 (e2 addD (eVar 6) (eC (.int 5)))))))))))))
def w_Lfinishing_steps_1 : En → Option Bool := (t1 (e2 gtD (e2 mulD (eVar 1) (eVar 2)) (eC (.int 1))))
def f_Lfinishing_steps : En → Out := (sSeq (sSet 4 (eCall g_Ldraws (aCons (eVar 0) (aCons (eC (.int 40)) aNil)))) (sSeq (sOwn 5 (fLst aNil)) (sSeq (sSet 6 (eC (.int 0))) (sSeq (whlF w_Lfinishing_steps_1 b_Lfinishing_steps_1 6) (fun env => (sRet (eVar 5)) (frz 5 env))))))
def g_Lfinishing_steps : List PyData → Option PyData := gDef 4 13 f_Lfinishing_steps
def b_Lcomplete_plan_1 : En → Out := (sSeq (sSet 6 (eCall g_Ldraws (aCons (eCall g_Lcell (aCons (eVar 0) (aCons (e2 addD (e2 addD (eVar 1) (eC (.int 1))) (eVar 5)) aNil))) (aCons (eC (.int 2)) aNil)))) (sSeq (sSet 7 (e2 addD (eC (.int 1)) (e2 modD (e2 ixG (eVar 6) (eC (.int 0))) (eC (.int 3))))) (sSeq (sSet 8 (e2 addD (eC (.int 1)) (e2 modD (e2 ixG (eVar 6) (eC (.int 1))) (eC (.int 3))))) (sSeq (sApp 4 (eTup (aCons (eC (.str "sheet")) (aCons (eVar 7) (aCons (eVar 8) aNil))))) (fun env => (sOwn 4 (fCat (eVar 4) (eCall g_Lfinishing_steps (aCons (eCall g_Lcell (aCons (eVar 0) (aCons (e2 addD (e2 addD (eVar 1) (eC (.int 3))) (eVar 5)) aNil))) (aCons (eVar 7) (aCons (eVar 8) (aCons (eVar 2) aNil))))))) (frz 4 env))))))
def f_Lcomplete_plan : En → Out := (sSeq (sSet 3 (e2 addD (eC (.int 1)) (e2 modD (eCall g_Lcell (aCons (eVar 0) (aCons (eVar 1) aNil))) (eC (.int 2))))) (sSeq (sOwn 4 (fLst aNil)) (sSeq (sFor (iR1 (aCons (eVar 3) aNil)) (gVal 5) b_Lcomplete_plan_1) (fun env => (sRet (eIf (t1 (e2 eqD (eVar 3) (eC (.int 2)))) (eL (fCat (eVar 4) (eL (fLst (aCons (eTup (aCons (eC (.str "pile")) (aCons (eC (.int 2)) aNil))) aNil))))) (eVar 4))) (frz 4 env)))))
def g_Lcomplete_plan : List PyData → Option PyData := gDef 3 9 f_Lcomplete_plan
def b_Lpiled_1 : En → Out := (sPutD 2 (eVar 3) (e2 addD (e2 ixU (e2 ixU (eVar 0) (eC (.int 2))) (eVar 3)) (e2 ixU (e2 ixU (eVar 1) (eC (.int 2))) (eVar 3))))
def f_Lpiled : En → Out := (sSeq (sNewT 2) (sSeq (sFor (iSeqU (e2 ixU (eVar 0) (eC (.int 2)))) (gVal 3) b_Lpiled_1) (fun env => (sRet (eTup (aCons (e2 ixU (eVar 0) (eC (.int 0))) (aCons (e2 ixU (eVar 0) (eC (.int 1))) (aCons (eVar 2) aNil))))) (frzD 2 env))))
def g_Lpiled : List PyData → Option PyData := gDef 2 4 f_Lpiled
def b_Lperformed_1 : En → Out := (sSeq (sIf (t1 (e2 neD (eSl (eVar 6) oNone (oSome (eC (.int 2)))) (eSl (eVar 5) oNone (oSome (eC (.int 2)))))) (sRet (eC (.str "packets differ in size"))) sNil) (sSet 5 (eCall g_Lpiled (aCons (eVar 5) (aCons (eVar 6) aNil)))))
def f_Lperformed : En → Out := (sSeq (sSet 3 (e2 ixG (eVar 2) (eC (.int 0)))) (sSeq (sIf (t1 (e2 eqD (eVar 3) (eC (.str "sheet")))) (sRet (eL (fCat (eVar 0) (eL (fLst (aCons (eCall g_Lsheet (aCons (eVar 1) (aCons (e2 ixG (eVar 2) (eC (.int 1))) (aCons (e2 ixG (eVar 2) (eC (.int 2))) aNil)))) aNil)))))) sNil) (sSeq (sIf (t1 (e2 eqD (eVar 3) (eC (.str "take")))) (sSeq (sIf (t1 (e2 geD (e2 ixG (eVar 2) (eC (.int 1))) (eCall lenA (aCons (eVar 0) aNil)))) (sRet (eC (.str "no such packet"))) sNil) (sRet (eL (fCat (e2 addD (eSl (eVar 0) oNone (oSome (e2 ixG (eVar 2) (eC (.int 1))))) (eSl (eVar 0) (oSome (e2 addD (e2 ixG (eVar 2) (eC (.int 1))) (eC (.int 1)))) oNone)) (eL (fLst (aCons (e2 ixG (eVar 0) (e2 ixG (eVar 2) (eC (.int 1)))) aNil))))))) sNil) (sSeq (sIf (t1 (e2 eqD (eVar 3) (eC (.str "pile")))) (sSeq (sIf (t1 (e2 gtD (e2 ixG (eVar 2) (eC (.int 1))) (eCall lenA (aCons (eVar 0) aNil)))) (sRet (eC (.str "too few packets"))) sNil) (sSeq (sSet 4 (eSl (eVar 0) (oSome (e2 subD (eCall lenA (aCons (eVar 0) aNil)) (e2 ixG (eVar 2) (eC (.int 1))))) oNone)) (sSeq (sSet 5 (e2 ixG (eVar 4) (eC (.int 0)))) (sSeq (sFor (iSeq (eSl (eVar 4) (oSome (eC (.int 1))) oNone)) (gVal 6) b_Lperformed_1) (sRet (eL (fCat (eSl (eVar 0) oNone (oSome (e2 subD (eCall lenA (aCons (eVar 0) aNil)) (e2 ixG (eVar 2) (eC (.int 1)))))) (eL (fLst (aCons (eVar 5) aNil)))))))))) sNil) (sSeq (sIf (t1 (e2 eqD (eCall lenA (aCons (eVar 0) aNil)) (eC (.int 0)))) (sRet (eC (.str "no packet"))) sNil) (sSeq (sIf (t1 (e2 eqD (eVar 3) (eC (.str "turn")))) (sRet (eL (fCat (eSl (eVar 0) oNone (oSome (e1 negD (eC (.int 1))))) (eL (fLst (aCons (eCall g_Lturned (aCons (e2 ixG (eVar 0) (e1 negD (eC (.int 1)))) (aCons (e2 ixG (eVar 2) (eC (.int 1))) aNil))) aNil)))))) sNil) (sSeq (sIf (tNot' (tTr (eCall g_Linside (aCons (e2 ixG (eVar 0) (e1 negD (eC (.int 1)))) (aCons (e2 ixG (eVar 2) (eC (.int 1))) (aCons (e2 ixG (eVar 2) (eC (.int 2))) aNil)))))) (sRet (eC (.str "line outside the packet"))) sNil) (sSeq (sIf (t1 (e2 eqD (eVar 3) (eC (.str "cut")))) (sSeq (sUnp (eCall g_Lsplit (aCons (e2 ixG (eVar 0) (e1 negD (eC (.int 1)))) (aCons (e2 ixG (eVar 2) (eC (.int 1))) (aCons (e2 ixG (eVar 2) (eC (.int 2))) aNil)))) (gT [7, 8])) (sRet (eL (fCat (eSl (eVar 0) oNone (oSome (e1 negD (eC (.int 1))))) (eL (fLst (aCons (eVar 7) (aCons (eVar 8) aNil)))))))) sNil) (sRet (eL (fCat (eSl (eVar 0) oNone (oSome (e1 negD (eC (.int 1))))) (eL (fLst (aCons (eCall g_Lmoved (aCons (e2 ixG (eVar 0) (e1 negD (eC (.int 1)))) (aCons (eVar 2) aNil))) aNil))))))))))))))
def g_Lperformed : List PyData → Option PyData := gDef 3 9 f_Lperformed
def b_Lcarried_1 : En → Out := (sSeq (sSet 1 (eCall g_Lperformed (aCons (eVar 1) (aCons (eVar 2) (aCons (eVar 3) aNil))))) (sSeq (sIf (t1 (eIsi "str" (eVar 1))) (sRet (eVar 1)) sNil) (sSet 2 (e2 addD (eVar 2) (eCall intA (aCons (e2 eqD (e2 ixG (eVar 3) (eC (.int 0))) (eC (.str "sheet"))) aNil))))))
def f_Lcarried : En → Out := (sSeq (sSet 1 (eL (fLst aNil))) (sSeq (sSet 2 (eC (.int 0))) (sSeq (sFor (iSeq (eVar 0)) (gVal 3) b_Lcarried_1) (sRet (eVar 1)))))
def g_Lcarried : List PyData → Option PyData := gDef 1 4 f_Lcarried
def c_Lsheets_1 : En → Option PyData := (eSl (eVar 1) (oSome (eC (.int 1))) oNone)
def t_Lsheets_1 : En → Option Bool := (t1 (e2 eqD (e2 ixG (eVar 1) (eC (.int 0))) (eC (.str "sheet"))))
def f_Lsheets : En → Out := (sRet (eL (fCmp [1] (iSeq (eVar 0)) (gVal 1) t_Lsheets_1 c_Lsheets_1)))
def g_Lsheets : List PyData → Option PyData := gDef 1 2 f_Lsheets
def f_Lany_step : En → Out := (sSeq (sSet 1 (eCall g_Ldraws (aCons (eVar 0) (aCons (eC (.int 5)) aNil)))) (sSeq (sSet 2 (e2 modD (e2 ixG (eVar 1) (eC (.int 4))) (eC (.int 10)))) (sSeq (sIf (t1 (e2 ltD (eVar 2) (eC (.int 4)))) (sSeq (sIf (t1 (e2 eqD (e2 modD (e2 ixG (eVar 1) (eC (.int 0))) (eC (.int 30))) (eC (.int 7)))) (sRet (eTup (aCons (eC (.str "sheet")) (aCons (e2 addD (eC (.int 5)) (e2 modD (e2 ixG (eVar 1) (eC (.int 1))) (eC (.int 4)))) (aCons (e2 addD (eC (.int 6)) (e2 modD (e2 ixG (eVar 1) (eC (.int 2))) (eC (.int 3)))) aNil))))) sNil) (sRet (eTup (aCons (eC (.str "sheet")) (aCons (e2 addD (eC (.int 1)) (e2 modD (e2 ixG (eVar 1) (eC (.int 1))) (eC (.int 3)))) (aCons (e2 addD (eC (.int 1)) (e2 modD (e2 ixG (eVar 1) (eC (.int 2))) (eC (.int 3)))) aNil)))))) sNil) (sSeq (sIf (t1 (e2 eqD (eVar 2) (eC (.int 4)))) (sRet (eTup (aCons (eC (.str "take")) (aCons (e2 modD (e2 ixG (eVar 1) (eC (.int 1))) (eC (.int 3))) aNil)))) sNil) (sSeq (sIf (t1 (e2 eqD (eVar 2) (eC (.int 5)))) (sRet (eTup (aCons (eC (.str "pile")) (aCons (e2 addD (eC (.int 2)) (e2 modD (e2 ixG (eVar 1) (eC (.int 1))) (eC (.int 2)))) aNil)))) sNil) (sSeq (sIf (t1 (e2 eqD (eVar 2) (eC (.int 6)))) (sRet (eTup (aCons (eC (.str "cut")) (aCons (e2 ixG (eL (fLst (aCons (eC (.str "left")) (aCons (eC (.str "right")) (aCons (eC (.str "top")) (aCons (eC (.str "bottom")) aNil)))))) (e2 modD (e2 ixG (eVar 1) (eC (.int 1))) (eC (.int 4)))) (aCons (e2 addD (eC (.int 1)) (e2 modD (e2 ixG (eVar 1) (eC (.int 2))) (eC (.int 2)))) aNil))))) sNil) (sRet (eCall g_Lstep (aCons (eVar 1) aNil)))))))))
def g_Lany_step : List PyData → Option PyData := gDef 1 3 f_Lany_step
noncomputable def y_Lasked__evaluate_1 (fa : Addr) : En → OutX := (xRet (xCallF 0 fa g_evaluate (xaOk (aCons (eVar 1) aNil))))
noncomputable def u_Lasked__evaluate_1 (fa : Addr) (a dd : Addr) : En → Out := (sRet (eWhat 2 a dd))
noncomputable def f_Lasked__evaluate (fa : Addr) : En → Out := (sTry 2 (y_Lasked__evaluate_1 fa) (u_Lasked__evaluate_1 fa))
noncomputable def g_Lasked__evaluate : List PyData → Option PyData := gAll fun fa => gDef1 fa 1 3 (f_Lasked__evaluate fa)
noncomputable def y_Lasked__is_complete_1 (fa : Addr) : En → OutX := (xRet (xCallF 0 fa g_is_complete (xaOk (aCons (eVar 1) aNil))))
noncomputable def u_Lasked__is_complete_1 (fa : Addr) (a dd : Addr) : En → Out := (sRet (eWhat 2 a dd))
noncomputable def f_Lasked__is_complete (fa : Addr) : En → Out := (sTry 2 (y_Lasked__is_complete_1 fa) (u_Lasked__is_complete_1 fa))
noncomputable def g_Lasked__is_complete : List PyData → Option PyData := gAll fun fa => gDef1 fa 1 3 (f_Lasked__is_complete fa)
noncomputable def y_Lasked__leaf_order_1 (fa : Addr) : En → OutX := (xRet (xCallF 0 fa g_leaf_order (xaOk (aCons (eVar 1) aNil))))
noncomputable def u_Lasked__leaf_order_1 (fa : Addr) (a dd : Addr) : En → Out := (sRet (eWhat 2 a dd))
noncomputable def f_Lasked__leaf_order (fa : Addr) : En → Out := (sTry 2 (y_Lasked__leaf_order_1 fa) (u_Lasked__leaf_order_1 fa))
noncomputable def g_Lasked__leaf_order : List PyData → Option PyData := gAll fun fa => gDef1 fa 1 3 (f_Lasked__leaf_order fa)
noncomputable def c_law_1 : En → Option PyData := (eCall g_Lany_step (aCons (eCall g_Lcell (aCons (eVar 0) (aCons (e2 addD (eC (.int 1)) (eVar 7)) aNil))) aNil))
noncomputable def c_law_2 : En → Option PyData := (e2 mulD (eVar 8) (eVar 9))
noncomputable def c_law_3 : En → Option PyData := (eCall g_Ltuples (aCons (eVar 10) aNil))
noncomputable def f_law : En → Out := (sSeq (sSet 1 (eL (fCmp [7] (iR1 (aCons (e2 modD (eCall g_Lcell (aCons (eVar 0) (aCons (eC (.int 0)) aNil))) (eC (.int 11))) aNil)) (gVal 7) tYes' c_law_1))) (sSeq (sIf (t1 (e2 eqD (e2 modD (e2 divD (eCall g_Lcell (aCons (eVar 0) (aCons (eC (.int 0)) aNil))) (eC (.int 11))) (eC (.int 3))) (eC (.int 0)))) (sSet 1 (eCall g_Lcomplete_plan (aCons (eVar 0) (aCons (eC (.int 12)) (aCons (eL (fLst (aCons (eC (.str "fold")) (aCons (eC (.str "stack")) aNil)))) aNil))))) sNil) (sSeq (sSet 2 (eL (fList (eVar 1)))) (sSeq (sIf (tOr' (t1 (e2 neD (eCall g_sheets_of (aCons (eVar 2) aNil)) (eCall g_Lsheets (aCons (eVar 1) aNil)))) (t1 (e2 neD (eVar 2) (eVar 1)))) (sRet (eC (.bool false))) sNil) (sSeq (sIf (t1 (e2 gtD (eCall sumA (aCons (eL (fCmp [8, 9] (iSeqU (eCall g_Lsheets (aCons (eVar 1) aNil))) (gT [8, 9]) tYes' c_law_2)) aNil)) (eC (.int 64)))) (sSet 3 (eL (fLst (aCons (eC (.str "too many panels")) (aCons (eC (.str "too many panels")) (aCons (eC (.str "too many panels")) aNil)))))) (sSeq (sSet 4 (eCall g_Lcarried (aCons (eVar 1) aNil))) (sSeq (sSet 3 (eL (fLst (aCons (eC (.str "plan fails")) (aCons (eC (.bool false)) (aCons (eC (.str "plan fails")) aNil)))))) (sIf (tNot' (t1 (eIsi "str" (eVar 4)))) (sSeq (sSet 5 (eAnd (e2 eqD (eCall lenA (aCons (eVar 4) aNil)) (eC (.int 1))) (e2 eqD (eSl (e2 ixU (eVar 4) (eC (.int 0))) oNone (oSome (eC (.int 2)))) (eTup (aCons (eC (.int 1)) (aCons (eC (.int 1)) aNil)))))) (sSeq (sSet 6 (eIf (tTr (eVar 5)) (eCall tupA (aCons (e2 ixU (e2 ixU (e2 ixU (eVar 4) (eC (.int 0))) (eC (.int 2))) (eTup (aCons (eC (.int 0)) (aCons (eC (.int 0)) aNil)))) aNil)) (eC (.str "plan is not complete")))) (sSet 3 (eL (fLst (aCons (eL (fCmp [10] (iSeqU (eVar 4)) (gVal 10) tYes' c_law_3)) (aCons (eVar 5) (aCons (eVar 6) aNil)))))))) sNil)))) (sRet (e2 eqD (eL (fLst (aCons (eCall g_Lasked__evaluate (aCons (eVar 2) aNil)) (aCons (eCall g_Lasked__is_complete (aCons (eVar 2) aNil)) (aCons (eCall g_Lasked__leaf_order (aCons (eVar 2) aNil)) aNil))))) (eVar 3))))))))
noncomputable def g_law : List PyData → Option PyData := gDef 1 11 f_law
/-! ### the text does so -/
section
variable {P : Program} {w : World} {K : PySem.W.Frag} {mg : Str → Option Value} {base : Heap}
theorem ok_turn_layer {f : Addr} {fd : FuncData} (F : Fun K "turn_layer" "turn_layer" s_turn_layer f fd)  : FnOk P w K mg base CX0 1 f fd ["layer", "axis"] (spF K g_turn_layer) := by
  refine fn_ok (k := 0) (fB := f_turn_layer) (np := 2) (nN := 7) F sc_turn_layer rfl rfl rfl fun cdv A outer s H E hr => ?_
  have nd : N_turn_layer.Nodup := sc_turn_layer.nd
  exact ((cs_cons (cs_unp (ps_asg (ce_var (i := 0) (pv 0)) (cg_tup (is := [2, 3, 4, 5, 6]) (pg_tup rfl (pgs_cons (pg_name (i := 2) nd rfl (by first | exact Or.inl rfl | exact Or.inr rfl)) (pgs_cons (pg_name (i := 3) nd rfl (by first | exact Or.inl rfl | exact Or.inr rfl)) (pgs_cons (pg_name (i := 4) nd rfl (by first | exact Or.inl rfl | exact Or.inr rfl)) (pgs_cons (pg_name (i := 5) nd rfl (by first | exact Or.inl rfl | exact Or.inr rfl)) (pgs_cons (pg_name (i := 6) nd rfl (by first | exact Or.inl rfl | exact Or.inr rfl)) pgs_nil)))))))))
    (cs_cons (cs_if (ct_cmp (op_neD hr.units) r2_ne (ce_var (i := 1) (pv 1)) ce_str (nomark _))
    (cs_one (cs_set (ps_set (i := 5) nd rfl (by first | exact Or.inl rfl | exact Or.inr rfl) (ce_not (ce_var (i := 5) (pv 5))))))
    cs_nil)
    (cs_cons (cs_if (ct_cmp (op_neD hr.units) r2_ne (ce_var (i := 1) (pv 1)) ce_str (nomark _))
    (cs_one (cs_set (ps_set (i := 6) nd rfl (by first | exact Or.inl rfl | exact Or.inr rfl) (ce_not (ce_var (i := 6) (pv 6))))))
    cs_nil)
    (cs_one (cs_ret (ce_tup (ca_cons (ce_var (i := 2) (pv 2)) (ca_cons (ce_var (i := 3) (pv 3)) (ca_cons (ce_var (i := 4) (pv 4)) (ca_cons (ce_var (i := 5) (pv 5)) (ca_cons (ce_var (i := 6) (pv 6)) ca_nil))))))))))))
theorem ok_sheet_packet {f : Addr} {fd : FuncData} (F : Fun K "sheet_packet" "sheet_packet" s_sheet_packet f fd) (m_range : mg "range" = none) (m_tuple : mg "tuple" = none) : FnOk P w K mg base CX0 1 f fd ["number", "rows", "columns"] (spF K g_sheet_packet) := by
  refine fn_ok (k := 0) (fB := f_sheet_packet) (np := 3) (nN := 6) F sc_sheet_packet rfl rfl rfl fun cdv A outer s H E hr => ?_
  have nd : N_sheet_packet.Nodup := sc_sheet_packet.nd
  exact ((cs_cons (cs_own (ps_set (i := 3) nd rfl (by first | exact Or.inl rfl | exact Or.inr rfl) (cf_lst (c := true) ca_nil)))
    (cs_cons (cs_for PassesOwn.never (by rfl) (ci_r1 (pi_range1 (by rfl) m_range (ca_cons (ce_var (i := 1) (pv 1)) ca_nil))) (cg_name (pg_name (i := 4) nd rfl (by first | exact Or.inl rfl | exact Or.inr rfl)))
    (cs_one (cs_app (ps_expr (pe_bm PySem.F.plainAttrs_list PySem.F.slot_list_append PySem.F.type_list_append mt_append (pv 3) (pa_cons (ce_cb (c2 := true) cr_tup (pe_callTy call_tuple_of (by rfl) m_tuple (by decide +kernel) (ca_cons (ce_l (c := true) (cf_lc1 (c2 := true) (pe_lc (own := [("column", 5)]) (by rfl) nd (ci_r1 (pi_range1 (by rfl) m_range (ca_cons (ce_var (i := 2) (pv 2)) ca_nil))) (blkOk_by (own := [("column", 5)]) (N := N_sheet_packet) (sc := defScope s_sheet_packet) (by decide +kernel)) (fun _ _ _ _ _ => (cg_name (pg_name (i := 5) nd rfl (by first | exact Or.inl rfl | exact Or.inr rfl)))) (fun _ _ _ _ _ => pts_nil) (fun _ _ _ _ _ => (ce_tup (ca_cons (ce_tup (ca_cons (ce_var (i := 0) (pv 0)) (ca_cons (ce_var (i := 4) (pv 4)) (ca_cons (ce_var (i := 5) (pv 5)) (ca_cons ce_bl (ca_cons ce_bl ca_nil)))))) ca_nil)))))) ca_nil))) pa_nil))))))
    (cs_one (cs_ret (ce_tupO (i := 3) (pe_callTy call_tuple_of (by rfl) m_tuple (by decide +kernel) (pa_cons (pv 3) pa_nil))))))))
theorem ok_size_of {f : Addr} {fd : FuncData} (F : Fun K "size_of" "size_of" s_size_of f fd) (m_len : mg "len" = none) : FnOk P w K mg base CX0 1 f fd ["packet"] (spF K g_size_of) := by
  refine fn_ok (k := 0) (fB := f_size_of) (np := 1) (nN := 1) F sc_size_of rfl rfl rfl fun cdv A outer s H E hr => ?_
  have nd : N_size_of.Nodup := sc_size_of.nd
  exact ((cs_one (cs_ret (ce_tup (ca_cons (ce_cb (c2 := true) cr_len (pe_callB call_len (by rfl) m_len boot_len (ca_cons (ce_var (i := 0) (pv 0)) ca_nil))) (ca_cons (ce_cb (c2 := true) cr_len (pe_callB call_len (by rfl) m_len boot_len (ca_cons (ce_ix (ce_var (i := 0) (pv 0)) ce_int (fun _ _ => rfl)) ca_nil))) ca_nil))))))
theorem ok_turn_cell {f : Addr} {fd : FuncData} (F : Fun K "turn_cell" "turn_cell" s_turn_cell f fd) {a_turn_layer : Addr} {d_turn_layer : FuncData} (G_turn_layer : FnOk P w K mg base CX0 1 a_turn_layer d_turn_layer ["layer", "axis"] (spF K g_turn_layer)) (M_turn_layer : mg "turn_layer" = some (.ref a_turn_layer)) (k_turn_layer : PySem.W.keepIn K (.ref a_turn_layer) = true) (b_turn_layer : Binds K d_turn_layer ["layer", "axis"] []) (m_tuple : mg "tuple" = none) : FnOk P w K mg base CX0 2 f fd ["cell", "axis"] (spF K g_turn_cell) := by
  refine fn_ok (k := 1) (fB := f_turn_cell) (np := 2) (nN := 4) F sc_turn_cell rfl rfl rfl fun cdv A outer s H E hr => ?_
  have nd : N_turn_cell.Nodup := sc_turn_cell.nd
  exact ((cs_cons (cs_set (ps_set (i := 2) nd rfl (by first | exact Or.inl rfl | exact Or.inr rfl) (ce_cb (c2 := true) cr_tup (pe_callTy call_tuple_of (by rfl) m_tuple (by decide +kernel) (ca_cons (ce_l (c := true) (cf_lc1 (c2 := true) (pe_lc (own := [("layer", 3)]) (by rfl) nd (ci_seq (ce_var (i := 0) (pv 0))) (blkOk_by (own := [("layer", 3)]) (N := N_turn_cell) (sc := defScope s_turn_cell) (by decide +kernel)) (fun _ _ _ _ _ => (cg_name (pg_name (i := 3) nd rfl (by first | exact Or.inl rfl | exact Or.inr rfl)))) (fun _ _ _ _ _ => pts_nil) (fun _ _ _ _ _ => (ce_call (c := true) (pe_call G_turn_layer (hr.mono (by decide)) (by rfl) M_turn_layer k_turn_layer b_turn_layer .nil pass0 (ca_cons (ce_var (i := 3) (pv 3)) (ca_cons (ce_var (i := 1) (pv 1)) ca_nil)))))))) ca_nil)))))
    (cs_one (cs_ret (ce_if (ct_cmp (op_eqD hr.units) r2_eq (ce_var (i := 1) (pv 1)) ce_str (nomark _)) (ce_var (i := 2) (pv 2)) (ce_rev (ce_var (i := 2) (pv 2)) (ce_neg ce_int)))))))
theorem ok_turn {f : Addr} {fd : FuncData} (F : Fun K "turn" "turn" s_turn f fd) {a_turn_cell : Addr} {d_turn_cell : FuncData} (G_turn_cell : FnOk P w K mg base CX0 2 a_turn_cell d_turn_cell ["cell", "axis"] (spF K g_turn_cell)) (M_turn_cell : mg "turn_cell" = some (.ref a_turn_cell)) (k_turn_cell : PySem.W.keepIn K (.ref a_turn_cell) = true) (b_turn_cell : Binds K d_turn_cell ["cell", "axis"] []) (m_tuple : mg "tuple" = none) : FnOk P w K mg base CX0 3 f fd ["packet", "axis"] (spF K g_turn) := by
  refine fn_ok (k := 2) (fB := f_turn) (np := 2) (nN := 6) F sc_turn rfl rfl rfl fun cdv A outer s H E hr => ?_
  have nd : N_turn.Nodup := sc_turn.nd
  exact ((cs_cons (cs_set (ps_set (i := 2) nd rfl (by first | exact Or.inl rfl | exact Or.inr rfl) (ce_if (ct_cmp (op_eqD hr.units) r2_eq (ce_var (i := 1) (pv 1)) ce_str (nomark _)) (ce_var (i := 0) (pv 0)) (ce_rev (ce_var (i := 0) (pv 0)) (ce_neg ce_int)))))
    (cs_cons (cs_set (ps_set (i := 3) nd rfl (by first | exact Or.inl rfl | exact Or.inr rfl) (ce_if (ct_cmp (op_eqD hr.units) r2_eq (ce_var (i := 1) (pv 1)) ce_str (nomark _)) ce_int (ce_neg ce_int))))
    (cs_one (cs_ret (ce_cb (c2 := true) cr_tup (pe_callTy call_tuple_of (by rfl) m_tuple (by decide +kernel) (ca_cons (ce_l (c := true) (cf_lc1 (c2 := true) (pe_lc (own := [("row", 5)]) (by rfl) nd (ci_seq (ce_var (i := 2) (pv 2))) (blkOk_by (own := [("row", 5)]) (N := N_turn) (sc := defScope s_turn) (by decide +kernel)) (fun _ _ _ _ _ => (cg_name (pg_name (i := 5) nd rfl (by first | exact Or.inl rfl | exact Or.inr rfl)))) (fun _ _ _ _ _ => pts_nil) (fun _ _ _ _ _ => (ce_cb (c2 := true) cr_tup (pe_callTy call_tuple_of (by rfl) m_tuple (by decide +kernel) (ca_cons (ce_l (c := true) (cf_lc1 (c2 := true) (pe_lc (own := [("cell", 4)]) (by rfl) nd (ci_seq (ce_rev (ce_var (i := 5) (pv 5)) (ce_var (i := 3) (pv 3)))) (by exact blkOk_by (by kernel_rfl)) (fun _ _ _ _ _ => (cg_name (pg_name (i := 4) nd rfl (by first | exact Or.inl rfl | exact Or.inr rfl)))) (fun _ _ _ _ _ => pts_nil) (fun _ _ _ _ _ => (ce_call (c := true) (pe_call G_turn_cell (hr.mono (by decide)) (by rfl) M_turn_cell k_turn_cell b_turn_cell .nil pass0 (ca_cons (ce_var (i := 4) (pv 4)) (ca_cons (ce_var (i := 1) (pv 1)) ca_nil)))))))) ca_nil))))))) ca_nil))))))))
theorem ok_is_inside {f : Addr} {fd : FuncData} (F : Fun K "is_inside" "is_inside" s_is_inside f fd) {a_size_of : Addr} {d_size_of : FuncData} (G_size_of : FnOk P w K mg base CX0 1 a_size_of d_size_of ["packet"] (spF K g_size_of)) (M_size_of : mg "size_of" = some (.ref a_size_of)) (k_size_of : PySem.W.keepIn K (.ref a_size_of) = true) (b_size_of : Binds K d_size_of ["packet"] []) : FnOk P w K mg base CX0 2 f fd ["packet", "edge", "line"] (spF K g_is_inside) := by
  refine fn_ok (k := 1) (fB := f_is_inside) (np := 3) (nN := 5) F sc_is_inside rfl rfl rfl fun cdv A outer s H E hr => ?_
  have nd : N_is_inside.Nodup := sc_is_inside.nd
  exact ((cs_cons (cs_unp (ps_asg (ce_call (c := true) (pe_call G_size_of (hr.mono (by decide)) (by rfl) M_size_of k_size_of b_size_of .nil pass0 (ca_cons (ce_var (i := 0) (pv 0)) ca_nil))) (cg_tup (is := [3, 4]) (pg_tup rfl (pgs_cons (pg_name (i := 3) nd rfl (by first | exact Or.inl rfl | exact Or.inr rfl)) (pgs_cons (pg_name (i := 4) nd rfl (by first | exact Or.inl rfl | exact Or.inr rfl)) pgs_nil))))))
    (cs_one (cs_ret (ce_cmp op_lt r2_B0 (ce_var (i := 2) (pv 2)) (ce_if (ct_cmp (op_inT (hu65 hr)) r2_inT (ce_var (i := 1) (pv 1)) (ce_tup (ca_cons ce_str (ca_cons ce_str ca_nil))) (by rfl)) (ce_var (i := 4) (pv 4)) (ce_var (i := 3) (pv 3))) (nomark _))))))
theorem ok_columns_from {f : Addr} {fd : FuncData} (F : Fun K "columns_from" "columns_from" s_columns_from f fd) (m_tuple : mg "tuple" = none) : FnOk P w K mg base CX0 1 f fd ["packet", "first", "behind"] (spF K g_columns_from) := by
  refine fn_ok (k := 0) (fB := f_columns_from) (np := 3) (nN := 4) F sc_columns_from rfl rfl rfl fun cdv A outer s H E hr => ?_
  have nd : N_columns_from.Nodup := sc_columns_from.nd
  exact ((cs_one (cs_ret (ce_cb (c2 := true) cr_tup (pe_callTy call_tuple_of (by rfl) m_tuple (by decide +kernel) (ca_cons (ce_l (c := true) (cf_lc1 (c2 := true) (pe_lc (own := [("row", 3)]) (by rfl) nd (ci_seq (ce_var (i := 0) (pv 0))) (blkOk_by (own := [("row", 3)]) (N := N_columns_from) (sc := defScope s_columns_from) (by decide +kernel)) (fun _ _ _ _ _ => (cg_name (pg_name (i := 3) nd rfl (by first | exact Or.inl rfl | exact Or.inr rfl)))) (fun _ _ _ _ _ => pts_nil) (fun _ _ _ _ _ => (ce_sl (ce_var (i := 3) (pv 3)) (co_some (ce_var (i := 1) (pv 1))) (co_some (ce_var (i := 2) (pv 2)))))))) ca_nil))))))
theorem ok_divide {f : Addr} {fd : FuncData} (F : Fun K "divide" "divide" s_divide f fd) {a_size_of : Addr} {d_size_of : FuncData} (G_size_of : FnOk P w K mg base CX0 1 a_size_of d_size_of ["packet"] (spF K g_size_of)) (M_size_of : mg "size_of" = some (.ref a_size_of)) (k_size_of : PySem.W.keepIn K (.ref a_size_of) = true) (b_size_of : Binds K d_size_of ["packet"] []) {a_columns_from : Addr} {d_columns_from : FuncData} (G_columns_from : FnOk P w K mg base CX0 1 a_columns_from d_columns_from ["packet", "first", "behind"] (spF K g_columns_from)) (M_columns_from : mg "columns_from" = some (.ref a_columns_from)) (k_columns_from : PySem.W.keepIn K (.ref a_columns_from) = true) (b_columns_from : Binds K d_columns_from ["packet", "first", "behind"] []) : FnOk P w K mg base CX0 2 f fd ["packet", "edge", "line"] (spF K g_divide) := by
  refine fn_ok (k := 1) (fB := f_divide) (np := 3) (nN := 5) F sc_divide rfl rfl rfl fun cdv A outer s H E hr => ?_
  have nd : N_divide.Nodup := sc_divide.nd
  exact ((cs_cons (cs_unp (ps_asg (ce_call (c := true) (pe_call G_size_of (hr.mono (by decide)) (by rfl) M_size_of k_size_of b_size_of .nil pass0 (ca_cons (ce_var (i := 0) (pv 0)) ca_nil))) (cg_tup (is := [3, 4]) (pg_tup rfl (pgs_cons (pg_name (i := 3) nd rfl (by first | exact Or.inl rfl | exact Or.inr rfl)) (pgs_cons (pg_name (i := 4) nd rfl (by first | exact Or.inl rfl | exact Or.inr rfl)) pgs_nil))))))
    (cs_cons (cs_if (ct_cmp (op_eqD hr.units) r2_eq (ce_var (i := 1) (pv 1)) ce_str (nomark _))
    (cs_one (cs_ret (ce_tup (ca_cons (ce_call (c := true) (pe_call G_columns_from (hr.mono (by decide)) (by rfl) M_columns_from k_columns_from b_columns_from .nil pass0 (ca_cons (ce_var (i := 0) (pv 0)) (ca_cons (ce_var (i := 2) (pv 2)) (ca_cons (ce_var (i := 4) (pv 4)) ca_nil))))) (ca_cons (ce_call (c := true) (pe_call G_columns_from (hr.mono (by decide)) (by rfl) M_columns_from k_columns_from b_columns_from .nil pass0 (ca_cons (ce_var (i := 0) (pv 0)) (ca_cons ce_int (ca_cons (ce_var (i := 2) (pv 2)) ca_nil))))) ca_nil)))))
    cs_nil)
    (cs_cons (cs_if (ct_cmp (op_eqD hr.units) r2_eq (ce_var (i := 1) (pv 1)) ce_str (nomark _))
    (cs_one (cs_ret (ce_tup (ca_cons (ce_call (c := true) (pe_call G_columns_from (hr.mono (by decide)) (by rfl) M_columns_from k_columns_from b_columns_from .nil pass0 (ca_cons (ce_var (i := 0) (pv 0)) (ca_cons ce_int (ca_cons (ce_sub (ce_var (i := 4) (pv 4)) (ce_var (i := 2) (pv 2))) ca_nil))))) (ca_cons (ce_call (c := true) (pe_call G_columns_from (hr.mono (by decide)) (by rfl) M_columns_from k_columns_from b_columns_from .nil pass0 (ca_cons (ce_var (i := 0) (pv 0)) (ca_cons (ce_sub (ce_var (i := 4) (pv 4)) (ce_var (i := 2) (pv 2))) (ca_cons (ce_var (i := 4) (pv 4)) ca_nil))))) ca_nil)))))
    cs_nil)
    (cs_cons (cs_if (ct_cmp (op_eqD hr.units) r2_eq (ce_var (i := 1) (pv 1)) ce_str (nomark _))
    (cs_one (cs_ret (ce_tup (ca_cons (ce_sl (ce_var (i := 0) (pv 0)) (co_some (ce_var (i := 2) (pv 2))) co_none) (ca_cons (ce_sl (ce_var (i := 0) (pv 0)) co_none (co_some (ce_var (i := 2) (pv 2)))) ca_nil)))))
    cs_nil)
    (cs_one (cs_ret (ce_tup (ca_cons (ce_sl (ce_var (i := 0) (pv 0)) co_none (co_some (ce_sub (ce_var (i := 3) (pv 3)) (ce_var (i := 2) (pv 2))))) (ca_cons (ce_sl (ce_var (i := 0) (pv 0)) (co_some (ce_sub (ce_var (i := 3) (pv 3)) (ce_var (i := 2) (pv 2)))) co_none) ca_nil))))))))))
theorem ok_cut {f : Addr} {fd : FuncData} (F : Fun K "cut" "cut" s_cut f fd) {C fI : Addr} (T : PySem.RfX.RfTxt P K mg C fI) {a_is_inside : Addr} {d_is_inside : FuncData} (G_is_inside : FnOk P w K mg base CX0 2 a_is_inside d_is_inside ["packet", "edge", "line"] (spF K g_is_inside)) (M_is_inside : mg "is_inside" = some (.ref a_is_inside)) (k_is_inside : PySem.W.keepIn K (.ref a_is_inside) = true) (b_is_inside : Binds K d_is_inside ["packet", "edge", "line"] []) {a_divide : Addr} {d_divide : FuncData} (G_divide : FnOk P w K mg base CX0 2 a_divide d_divide ["packet", "edge", "line"] (spF K g_divide)) (M_divide : mg "divide" = some (.ref a_divide)) (k_divide : PySem.W.keepIn K (.ref a_divide) = true) (b_divide : Binds K d_divide ["packet", "edge", "line"] []) : FnOk P w K mg base (L2.CX P w) 4 f fd ["packet", "edge", "line"] (spX K C g_cut) := by
  refine fn_okX (k := 3) (fB := f_cut) (np := 3) (nN := 3) F sc_cut rfl rfl rfl fun cdv A outer s H E hr => ?_
  have nd : N_cut.Nodup := sc_cut.nd
  exact ((sx_cons (sx_if (ct_not (ct_tru (ce_call (c := true) (pe_call G_is_inside (hr.mono (by decide)) (by rfl) M_is_inside k_is_inside b_is_inside .nil pass0 (ca_cons (ce_var (i := 0) (pv 0)) (ca_cons (ce_var (i := 1) (pv 1)) (ca_cons (ce_var (i := 2) (pv 2)) ca_nil))))) (by intro _; rfl)))
    (sx_one (sx_raise (ps_raiseRf (by rfl) T hr (takes_of rfl rfl rfl rfl) (by exact (pa_cons ce_str pa_nil)))))
    sx_nil)
    (sx_one (sx_up (cs_ret (ce_call (c := true) (pe_call G_divide (hr.mono (by decide)) (by rfl) M_divide k_divide b_divide .nil pass0 (ca_cons (ce_var (i := 0) (pv 0)) (ca_cons (ce_var (i := 1) (pv 1)) (ca_cons (ce_var (i := 2) (pv 2)) ca_nil))))))))))
theorem ok_lay_row {f : Addr} {fd : FuncData} (F : Fun K "lay_row" "lay_row" s_lay_row f fd) (m_zip : mg "zip" = none) (m_tuple : mg "tuple" = none) (m_len : mg "len" = none) : FnOk P w K mg base CX0 1 f fd ["upper", "lower"] (spF K g_lay_row) := by
  refine fn_ok (k := 0) (fB := f_lay_row) (np := 2) (nN := 5) F sc_lay_row rfl rfl rfl fun cdv A outer s H E hr => ?_
  have nd : N_lay_row.Nodup := sc_lay_row.nd
  exact ((cs_cons (cs_set (ps_set (i := 2) nd rfl (by first | exact Or.inl rfl | exact Or.inr rfl) (ce_cb (c2 := true) cr_tup (pe_callTy call_tuple_of (by rfl) m_tuple (by decide +kernel) (ca_cons (ce_l (c := true) (cf_lc1 (c2 := true) (pe_lc (own := [("above", 3), ("below", 4)]) (by rfl) nd (ci_zip (RZ.pi_zipA (by rfl) m_zip (ca_cons (ce_var (i := 0) (pv 0)) (ca_cons (ce_var (i := 1) (pv 1)) ca_nil)))) (blkOk_by (own := [("above", 3), ("below", 4)]) (N := N_lay_row) (sc := defScope s_lay_row) (by decide +kernel)) (fun _ _ _ _ _ => (cg_tup (is := [3, 4]) (pg_tup rfl (pgs_cons (pg_name (i := 3) nd rfl (by first | exact Or.inl rfl | exact Or.inr rfl)) (pgs_cons (pg_name (i := 4) nd rfl (by first | exact Or.inl rfl | exact Or.inr rfl)) pgs_nil))))) (fun _ _ _ _ _ => pts_nil) (fun _ _ _ _ _ => (ce_add (ce_var (i := 3) (pv 3)) (ce_var (i := 4) (pv 4))))))) ca_nil)))))
    (cs_one (cs_ret (ce_add (ce_add (ce_var (i := 2) (pv 2)) (ce_sl (ce_var (i := 0) (pv 0)) (co_some (ce_cb (c2 := true) cr_len (pe_callB call_len (by rfl) m_len boot_len (ca_cons (ce_var (i := 2) (pv 2)) ca_nil)))) co_none)) (ce_sl (ce_var (i := 1) (pv 1)) (co_some (ce_cb (c2 := true) cr_len (pe_callB call_len (by rfl) m_len boot_len (ca_cons (ce_var (i := 2) (pv 2)) ca_nil)))) co_none))))))
theorem ok_lay {f : Addr} {fd : FuncData} (F : Fun K "lay" "lay" s_lay f fd) {a_lay_row : Addr} {d_lay_row : FuncData} (G_lay_row : FnOk P w K mg base CX0 1 a_lay_row d_lay_row ["upper", "lower"] (spF K g_lay_row)) (M_lay_row : mg "lay_row" = some (.ref a_lay_row)) (k_lay_row : PySem.W.keepIn K (.ref a_lay_row) = true) (b_lay_row : Binds K d_lay_row ["upper", "lower"] []) (m_zip : mg "zip" = none) (m_tuple : mg "tuple" = none) (m_len : mg "len" = none) : FnOk P w K mg base CX0 2 f fd ["upper", "lower"] (spF K g_lay) := by
  refine fn_ok (k := 1) (fB := f_lay) (np := 2) (nN := 5) F sc_lay rfl rfl rfl fun cdv A outer s H E hr => ?_
  have nd : N_lay.Nodup := sc_lay.nd
  exact ((cs_cons (cs_set (ps_set (i := 2) nd rfl (by first | exact Or.inl rfl | exact Or.inr rfl) (ce_cb (c2 := true) cr_tup (pe_callTy call_tuple_of (by rfl) m_tuple (by decide +kernel) (ca_cons (ce_l (c := true) (cf_lc1 (c2 := true) (pe_lc (own := [("above", 3), ("below", 4)]) (by rfl) nd (ci_zip (RZ.pi_zipA (by rfl) m_zip (ca_cons (ce_var (i := 0) (pv 0)) (ca_cons (ce_var (i := 1) (pv 1)) ca_nil)))) (blkOk_by (own := [("above", 3), ("below", 4)]) (N := N_lay) (sc := defScope s_lay) (by decide +kernel)) (fun _ _ _ _ _ => (cg_tup (is := [3, 4]) (pg_tup rfl (pgs_cons (pg_name (i := 3) nd rfl (by first | exact Or.inl rfl | exact Or.inr rfl)) (pgs_cons (pg_name (i := 4) nd rfl (by first | exact Or.inl rfl | exact Or.inr rfl)) pgs_nil))))) (fun _ _ _ _ _ => pts_nil) (fun _ _ _ _ _ => (ce_call (c := true) (pe_call G_lay_row (hr.mono (by decide)) (by rfl) M_lay_row k_lay_row b_lay_row .nil pass0 (ca_cons (ce_var (i := 3) (pv 3)) (ca_cons (ce_var (i := 4) (pv 4)) ca_nil)))))))) ca_nil)))))
    (cs_one (cs_ret (ce_add (ce_add (ce_var (i := 2) (pv 2)) (ce_sl (ce_var (i := 0) (pv 0)) (co_some (ce_cb (c2 := true) cr_len (pe_callB call_len (by rfl) m_len boot_len (ca_cons (ce_var (i := 2) (pv 2)) ca_nil)))) co_none)) (ce_sl (ce_var (i := 1) (pv 1)) (co_some (ce_cb (c2 := true) cr_len (pe_callB call_len (by rfl) m_len boot_len (ca_cons (ce_var (i := 2) (pv 2)) ca_nil)))) co_none))))))
theorem ok_backwards {f : Addr} {fd : FuncData} (F : Fun K "backwards" "backwards" s_backwards f fd) (m_tuple : mg "tuple" = none) : FnOk P w K mg base CX0 1 f fd ["packet"] (spF K g_backwards) := by
  refine fn_ok (k := 0) (fB := f_backwards) (np := 1) (nN := 2) F sc_backwards rfl rfl rfl fun cdv A outer s H E hr => ?_
  have nd : N_backwards.Nodup := sc_backwards.nd
  exact ((cs_one (cs_ret (ce_cb (c2 := true) cr_tup (pe_callTy call_tuple_of (by rfl) m_tuple (by decide +kernel) (ca_cons (ce_l (c := true) (cf_lc1 (c2 := true) (pe_lc (own := [("row", 1)]) (by rfl) nd (ci_seq (ce_rev (ce_var (i := 0) (pv 0)) (ce_neg ce_int))) (blkOk_by (own := [("row", 1)]) (N := N_backwards) (sc := defScope s_backwards) (by decide +kernel)) (fun _ _ _ _ _ => (cg_name (pg_name (i := 1) nd rfl (by first | exact Or.inl rfl | exact Or.inr rfl)))) (fun _ _ _ _ _ => pts_nil) (fun _ _ _ _ _ => (ce_rev (ce_var (i := 1) (pv 1)) (ce_neg ce_int)))))) ca_nil))))))
theorem ok_lay_at {f : Addr} {fd : FuncData} (F : Fun K "lay_at" "lay_at" s_lay_at f fd) {a_lay : Addr} {d_lay : FuncData} (G_lay : FnOk P w K mg base CX0 2 a_lay d_lay ["upper", "lower"] (spF K g_lay)) (M_lay : mg "lay" = some (.ref a_lay)) (k_lay : PySem.W.keepIn K (.ref a_lay) = true) (b_lay : Binds K d_lay ["upper", "lower"] []) {a_backwards : Addr} {d_backwards : FuncData} (G_backwards : FnOk P w K mg base CX0 1 a_backwards d_backwards ["packet"] (spF K g_backwards)) (M_backwards : mg "backwards" = some (.ref a_backwards)) (k_backwards : PySem.W.keepIn K (.ref a_backwards) = true) (b_backwards : Binds K d_backwards ["packet"] []) : FnOk P w K mg base CX0 3 f fd ["part", "rest", "edge", "way"] (spF K g_lay_at) := by
  refine fn_ok (k := 2) (fB := f_lay_at) (np := 4) (nN := 6) F sc_lay_at rfl rfl rfl fun cdv A outer s H E hr => ?_
  have nd : N_lay_at.Nodup := sc_lay_at.nd
  exact ((cs_cons (cs_unp (ps_asg (ce_if (ct_cmp (op_eqD hr.units) r2_eq (ce_var (i := 3) (pv 3)) ce_str (nomark _)) (ce_tup (ca_cons (ce_var (i := 0) (pv 0)) (ca_cons (ce_var (i := 1) (pv 1)) ca_nil))) (ce_tup (ca_cons (ce_var (i := 1) (pv 1)) (ca_cons (ce_var (i := 0) (pv 0)) ca_nil)))) (cg_tup (is := [4, 5]) (pg_tup rfl (pgs_cons (pg_name (i := 4) nd rfl (by first | exact Or.inl rfl | exact Or.inr rfl)) (pgs_cons (pg_name (i := 5) nd rfl (by first | exact Or.inl rfl | exact Or.inr rfl)) pgs_nil))))))
    (cs_cons (cs_if (ct_cmp (op_inT (hu65 hr)) r2_inT (ce_var (i := 2) (pv 2)) (ce_tup (ca_cons ce_str (ca_cons ce_str ca_nil))) (by rfl))
    (cs_one (cs_ret (ce_call (c := true) (pe_call G_lay (hr.mono (by decide)) (by rfl) M_lay k_lay b_lay .nil pass0 (ca_cons (ce_var (i := 4) (pv 4)) (ca_cons (ce_var (i := 5) (pv 5)) ca_nil))))))
    cs_nil)
    (cs_one (cs_ret (ce_call (c := true) (pe_call G_backwards (hr.mono (by decide)) (by rfl) M_backwards k_backwards b_backwards .nil pass0 (ca_cons (ce_call (c := true) (pe_call G_lay (hr.mono (by decide)) (by rfl) M_lay k_lay b_lay .nil pass0 (ca_cons (ce_call (c := true) (pe_call G_backwards (hr.mono (by decide)) (by rfl) M_backwards k_backwards b_backwards .nil pass0 (ca_cons (ce_var (i := 4) (pv 4)) ca_nil))) (ca_cons (ce_call (c := true) (pe_call G_backwards (hr.mono (by decide)) (by rfl) M_backwards k_backwards b_backwards .nil pass0 (ca_cons (ce_var (i := 5) (pv 5)) ca_nil))) ca_nil)))) ca_nil))))))))
theorem ok_fold {f : Addr} {fd : FuncData} (F : Fun K "fold" "fold" s_fold f fd) {C fI : Addr} (T : PySem.RfX.RfTxt P K mg C fI) {a_cut : Addr} {d_cut : FuncData} (G_cut : FnOk P w K mg base (L2.CX P w) 4 a_cut d_cut ["packet", "edge", "line"] (spX K C g_cut)) (M_cut : mg "cut" = some (.ref a_cut)) (k_cut : PySem.W.keepIn K (.ref a_cut) = true) (b_cut : Binds K d_cut ["packet", "edge", "line"] []) {a_lay_at : Addr} {d_lay_at : FuncData} (G_lay_at : FnOk P w K mg base CX0 3 a_lay_at d_lay_at ["part", "rest", "edge", "way"] (spF K g_lay_at)) (M_lay_at : mg "lay_at" = some (.ref a_lay_at)) (k_lay_at : PySem.W.keepIn K (.ref a_lay_at) = true) (b_lay_at : Binds K d_lay_at ["part", "rest", "edge", "way"] []) {a_turn : Addr} {d_turn : FuncData} (G_turn : FnOk P w K mg base CX0 3 a_turn d_turn ["packet", "axis"] (spF K g_turn)) (M_turn : mg "turn" = some (.ref a_turn)) (k_turn : PySem.W.keepIn K (.ref a_turn) = true) (b_turn : Binds K d_turn ["packet", "axis"] []) : FnOk P w K mg base (L2.CX P w) 6 f fd ["packet", "edge", "line", "way"] (spX K C g_fold) := by
  refine fn_okX (k := 5) (fB := f_fold) (np := 4) (nN := 7) F sc_fold rfl rfl rfl fun cdv A outer s H E hr => ?_
  have nd : N_fold.Nodup := sc_fold.nd
  exact ((sx_cons (sx_unp (ps_asg (xe_call (c := true) (pe_callS G_cut (hr.mono (by decide)) (by rfl) M_cut k_cut b_cut (fun σ => passAt (takes_of rfl rfl rfl rfl) σ) (xa_ok (ca_cons (ce_var (i := 0) (pv 0)) (ca_cons (ce_var (i := 1) (pv 1)) (ca_cons (ce_var (i := 2) (pv 2)) ca_nil)))))) (cg_tup (is := [4, 5]) (pg_tup rfl (pgs_cons (pg_name (i := 4) nd rfl (by first | exact Or.inl rfl | exact Or.inr rfl)) (pgs_cons (pg_name (i := 5) nd rfl (by first | exact Or.inl rfl | exact Or.inr rfl)) pgs_nil))))))
    (sx_cons (sx_up (cs_set (ps_set (i := 6) nd rfl (by first | exact Or.inl rfl | exact Or.inr rfl) (ce_if (ct_cmp (op_inT (hu65 hr)) r2_inT (ce_var (i := 1) (pv 1)) (ce_tup (ca_cons ce_str (ca_cons ce_str ca_nil))) (by rfl)) ce_str ce_str))))
    (sx_one (sx_up (cs_ret (ce_call (c := true) (pe_call G_lay_at (hr.mono (by decide)) (by rfl) M_lay_at k_lay_at b_lay_at .nil pass0 (ca_cons (ce_call (c := true) (pe_call G_turn (hr.mono (by decide)) (by rfl) M_turn k_turn b_turn .nil pass0 (ca_cons (ce_var (i := 5) (pv 5)) (ca_cons (ce_var (i := 6) (pv 6)) ca_nil)))) (ca_cons (ce_var (i := 4) (pv 4)) (ca_cons (ce_var (i := 1) (pv 1)) (ca_cons (ce_var (i := 3) (pv 3)) ca_nil))))))))))))
theorem ok_stack {f : Addr} {fd : FuncData} (F : Fun K "stack" "stack" s_stack f fd) {C fI : Addr} (T : PySem.RfX.RfTxt P K mg C fI) {a_cut : Addr} {d_cut : FuncData} (G_cut : FnOk P w K mg base (L2.CX P w) 4 a_cut d_cut ["packet", "edge", "line"] (spX K C g_cut)) (M_cut : mg "cut" = some (.ref a_cut)) (k_cut : PySem.W.keepIn K (.ref a_cut) = true) (b_cut : Binds K d_cut ["packet", "edge", "line"] []) {a_lay_at : Addr} {d_lay_at : FuncData} (G_lay_at : FnOk P w K mg base CX0 3 a_lay_at d_lay_at ["part", "rest", "edge", "way"] (spF K g_lay_at)) (M_lay_at : mg "lay_at" = some (.ref a_lay_at)) (k_lay_at : PySem.W.keepIn K (.ref a_lay_at) = true) (b_lay_at : Binds K d_lay_at ["part", "rest", "edge", "way"] []) : FnOk P w K mg base (L2.CX P w) 6 f fd ["packet", "edge", "line", "way"] (spX K C g_stack) := by
  refine fn_okX (k := 5) (fB := f_stack) (np := 4) (nN := 6) F sc_stack rfl rfl rfl fun cdv A outer s H E hr => ?_
  have nd : N_stack.Nodup := sc_stack.nd
  exact ((sx_cons (sx_unp (ps_asg (xe_call (c := true) (pe_callS G_cut (hr.mono (by decide)) (by rfl) M_cut k_cut b_cut (fun σ => passAt (takes_of rfl rfl rfl rfl) σ) (xa_ok (ca_cons (ce_var (i := 0) (pv 0)) (ca_cons (ce_var (i := 1) (pv 1)) (ca_cons (ce_var (i := 2) (pv 2)) ca_nil)))))) (cg_tup (is := [4, 5]) (pg_tup rfl (pgs_cons (pg_name (i := 4) nd rfl (by first | exact Or.inl rfl | exact Or.inr rfl)) (pgs_cons (pg_name (i := 5) nd rfl (by first | exact Or.inl rfl | exact Or.inr rfl)) pgs_nil))))))
    (sx_one (sx_up (cs_ret (ce_call (c := true) (pe_call G_lay_at (hr.mono (by decide)) (by rfl) M_lay_at k_lay_at b_lay_at .nil pass0 (ca_cons (ce_var (i := 5) (pv 5)) (ca_cons (ce_var (i := 4) (pv 4)) (ca_cons (ce_var (i := 1) (pv 1)) (ca_cons (ce_var (i := 3) (pv 3)) ca_nil)))))))))))
theorem ok_pile {f : Addr} {fd : FuncData} (F : Fun K "pile" "pile" s_pile f fd) {C fI : Addr} (T : PySem.RfX.RfTxt P K mg C fI) {a_size_of : Addr} {d_size_of : FuncData} (G_size_of : FnOk P w K mg base CX0 1 a_size_of d_size_of ["packet"] (spF K g_size_of)) (M_size_of : mg "size_of" = some (.ref a_size_of)) (k_size_of : PySem.W.keepIn K (.ref a_size_of) = true) (b_size_of : Binds K d_size_of ["packet"] []) {a_lay : Addr} {d_lay : FuncData} (G_lay : FnOk P w K mg base CX0 2 a_lay d_lay ["upper", "lower"] (spF K g_lay)) (M_lay : mg "lay" = some (.ref a_lay)) (k_lay : PySem.W.keepIn K (.ref a_lay) = true) (b_lay : Binds K d_lay ["upper", "lower"] []) (m_any : mg "any" = none) : FnOk P w K mg base (L2.CX P w) 4 f fd ["packets"] (spX K C g_pile) := by
  refine fn_okX (k := 3) (fB := f_pile) (np := 1) (nN := 3) F sc_pile rfl rfl rfl fun cdv A outer s H E hr => ?_
  have nd : N_pile.Nodup := sc_pile.nd
  exact ((sx_cons (sx_if (ct_val (ce_cb (c2 := true) cr_any' (pe_callB (cr_any rfl) (by rfl) m_any (by decide +kernel) (ca_cons (ce_l (c := true) (cf_lc1 (c2 := true) (pe_lc (own := [("packet", 2)]) (by rfl) nd (ci_seq (ce_var (i := 0) (pv 0))) (blkOk_by (own := [("packet", 2)]) (N := N_pile) (sc := defScope s_pile) (by decide +kernel)) (fun _ _ _ _ _ => (cg_name (pg_name (i := 2) nd rfl (by first | exact Or.inl rfl | exact Or.inr rfl)))) (fun _ _ _ _ _ => pts_nil) (fun _ _ _ _ _ => (ce_cmp (op_neD hr.units) r2_ne (ce_call (c := true) (pe_call G_size_of (hr.mono (by decide)) (by rfl) M_size_of k_size_of b_size_of .nil pass0 (ca_cons (ce_var (i := 2) (pv 2)) ca_nil))) (ce_call (c := true) (pe_call G_size_of (hr.mono (by decide)) (by rfl) M_size_of k_size_of b_size_of .nil pass0 (ca_cons (ce_ix (ce_var (i := 0) (pv 0)) ce_int (fun _ _ => rfl)) ca_nil))) (nomark _)))))) ca_nil))))
    (sx_one (sx_raise (ps_raiseRf (by rfl) T hr (takes_of rfl rfl rfl rfl) (by exact (pa_cons ce_str pa_nil)))))
    sx_nil)
    (sx_cons (sx_up (cs_set (ps_set (i := 1) nd rfl (by first | exact Or.inl rfl | exact Or.inr rfl) (ce_ix (ce_var (i := 0) (pv 0)) ce_int (fun _ _ => rfl)))))
    (sx_cons (sx_up (cs_for (passes_of rfl) (by rfl) (ci_seq (ce_sl (ce_var (i := 0) (pv 0)) (co_some ce_int) co_none)) (cg_name (pg_name (i := 2) nd rfl (by first | exact Or.inl rfl | exact Or.inr rfl)))
    (cs_one (cs_set (ps_set (i := 1) nd rfl (by first | exact Or.inl rfl | exact Or.inr rfl) (ce_call (c := true) (pe_call G_lay (hr.mono (by decide)) (by rfl) M_lay k_lay b_lay .nil pass0 (ca_cons (ce_var (i := 1) (pv 1)) (ca_cons (ce_var (i := 2) (pv 2)) ca_nil)))))))))
    (sx_one (sx_up (cs_ret (ce_var (i := 1) (pv 1)))))))))
theorem ok_sheets_of {f : Addr} {fd : FuncData} (F : Fun K "sheets_of" "sheets_of" s_sheets_of f fd)  : FnOk P w K mg base CX0 1 f fd ["plan"] (spF K g_sheets_of) := by
  refine fn_ok (k := 0) (fB := f_sheets_of) (np := 1) (nN := 2) F sc_sheets_of rfl rfl rfl fun cdv A outer s H E hr => ?_
  have nd : N_sheets_of.Nodup := sc_sheets_of.nd
  exact ((cs_one (cs_ret (ce_l (c := true) (cf_lc (c2 := true) (pe_lc (own := [("instruction", 1)]) (by rfl) nd (ci_seq (ce_var (i := 0) (pv 0))) (blkOk_by (own := [("instruction", 1)]) (N := N_sheets_of) (sc := defScope s_sheets_of) (by decide +kernel)) (fun _ _ _ _ _ => (cg_name (pg_name (i := 1) nd rfl (by first | exact Or.inl rfl | exact Or.inr rfl)))) (fun _ _ _ _ _ => (pts_one (ct_cmp (op_eqD hr.units) r2_eq (ce_ix (ce_var (i := 1) (pv 1)) ce_int (fun _ _ => rfl)) ce_str (nomark _)))) (fun _ _ _ _ _ => (ce_tup (ca_cons (ce_ix (ce_var (i := 1) (pv 1)) ce_int (fun _ _ => rfl)) (ca_cons (ce_ix (ce_var (i := 1) (pv 1)) ce_int (fun _ _ => rfl)) ca_nil))))))))))
theorem ok_panel_count {f : Addr} {fd : FuncData} (F : Fun K "panel_count" "panel_count" s_panel_count f fd) (m_sum : mg "sum" = none) : FnOk P w K mg base CX0 1 f fd ["sizes"] (spF K g_panel_count) := by
  refine fn_ok (k := 0) (fB := f_panel_count) (np := 1) (nN := 3) F sc_panel_count rfl rfl rfl fun cdv A outer s H E hr => ?_
  have nd : N_panel_count.Nodup := sc_panel_count.nd
  exact ((cs_one (cs_ret (ce_cb (c2 := true) cr_sum' (pe_callB (cr_sum rfl) (by rfl) m_sum (by decide +kernel) (ca_cons (ce_l (c := true) (cf_lc1 (c2 := true) (pe_lc (own := [("rows", 1), ("columns", 2)]) (by rfl) nd (ci_seq (ce_var (i := 0) (pv 0))) (blkOk_by (own := [("rows", 1), ("columns", 2)]) (N := N_panel_count) (sc := defScope s_panel_count) (by decide +kernel)) (fun _ _ _ _ _ => (cg_tup (is := [1, 2]) (pg_tup rfl (pgs_cons (pg_name (i := 1) nd rfl (by first | exact Or.inl rfl | exact Or.inr rfl)) (pgs_cons (pg_name (i := 2) nd rfl (by first | exact Or.inl rfl | exact Or.inr rfl)) pgs_nil))))) (fun _ _ _ _ _ => pts_nil) (fun _ _ _ _ _ => (ce_mul (ce_var (i := 1) (pv 1)) (ce_var (i := 2) (pv 2))))))) ca_nil))))))
theorem ok_work_packet {f : Addr} {fd : FuncData} (F : Fun K "work_packet" "work_packet" s_work_packet f fd) {C fI : Addr} (T : PySem.RfX.RfTxt P K mg C fI) {a_turn : Addr} {d_turn : FuncData} (G_turn : FnOk P w K mg base CX0 3 a_turn d_turn ["packet", "axis"] (spF K g_turn)) (M_turn : mg "turn" = some (.ref a_turn)) (k_turn : PySem.W.keepIn K (.ref a_turn) = true) (b_turn : Binds K d_turn ["packet", "axis"] []) {a_cut : Addr} {d_cut : FuncData} (G_cut : FnOk P w K mg base (L2.CX P w) 4 a_cut d_cut ["packet", "edge", "line"] (spX K C g_cut)) (M_cut : mg "cut" = some (.ref a_cut)) (k_cut : PySem.W.keepIn K (.ref a_cut) = true) (b_cut : Binds K d_cut ["packet", "edge", "line"] []) {a_fold : Addr} {d_fold : FuncData} (G_fold : FnOk P w K mg base (L2.CX P w) 6 a_fold d_fold ["packet", "edge", "line", "way"] (spX K C g_fold)) (M_fold : mg "fold" = some (.ref a_fold)) (k_fold : PySem.W.keepIn K (.ref a_fold) = true) (b_fold : Binds K d_fold ["packet", "edge", "line", "way"] []) {a_stack : Addr} {d_stack : FuncData} (G_stack : FnOk P w K mg base (L2.CX P w) 6 a_stack d_stack ["packet", "edge", "line", "way"] (spX K C g_stack)) (M_stack : mg "stack" = some (.ref a_stack)) (k_stack : PySem.W.keepIn K (.ref a_stack) = true) (b_stack : Binds K d_stack ["packet", "edge", "line", "way"] []) (m_list : mg "list" = none) : FnOk P w K mg base (L2.CX P w) 8 f fd ["packet", "instruction"] (spX K C g_work_packet) := by
  refine fn_okX (k := 7) (fB := f_work_packet) (np := 2) (nN := 6) F sc_work_packet rfl rfl rfl fun cdv A outer s H E hr => ?_
  have nd : N_work_packet.Nodup := sc_work_packet.nd
  exact ((sx_cons (sx_if (ct_cmp (op_eqD hr.units) r2_eq (ce_ix (ce_var (i := 1) (pv 1)) ce_int (fun _ _ => rfl)) ce_str (nomark _))
    (sx_one (sx_up (cs_ret (ce_l (c := true) (cf_lst (c := true) (ca_cons (ce_call (c := true) (pe_call G_turn (hr.mono (by decide)) (by rfl) M_turn k_turn b_turn .nil pass0 (ca_cons (ce_var (i := 0) (pv 0)) (ca_cons (ce_ix (ce_var (i := 1) (pv 1)) ce_int (fun _ _ => rfl)) ca_nil)))) ca_nil))))))
    sx_nil)
    (sx_cons (sx_if (ct_cmp (op_eqD hr.units) r2_eq (ce_ix (ce_var (i := 1) (pv 1)) ce_int (fun _ _ => rfl)) ce_str (nomark _))
    (sx_one (sx_ret (xe_list (c := true) (pe_callTy call_list_of (by rfl) m_list (by decide +kernel) (pa_cons (xe_call (c := true) (pe_callS G_cut (hr.mono (by decide)) (by rfl) M_cut k_cut b_cut (fun σ => passAt (takes_of rfl rfl rfl rfl) σ) (xa_ok (ca_cons (ce_var (i := 0) (pv 0)) (ca_cons (ce_ix (ce_var (i := 1) (pv 1)) ce_int (fun _ _ => rfl)) (ca_cons (ce_ix (ce_var (i := 1) (pv 1)) ce_int (fun _ _ => rfl)) ca_nil)))))) pa_nil)))))
    sx_nil)
    (sx_cons (sx_up (cs_unp (ps_asg (ce_var (i := 1) (pv 1)) (cg_tup (is := [2, 3, 4, 5]) (pg_tup rfl (pgs_cons (pg_name (i := 2) nd rfl (by first | exact Or.inl rfl | exact Or.inr rfl)) (pgs_cons (pg_name (i := 3) nd rfl (by first | exact Or.inl rfl | exact Or.inr rfl)) (pgs_cons (pg_name (i := 4) nd rfl (by first | exact Or.inl rfl | exact Or.inr rfl)) (pgs_cons (pg_name (i := 5) nd rfl (by first | exact Or.inl rfl | exact Or.inr rfl)) pgs_nil)))))))))
    (sx_cons (sx_if (ct_cmp (op_eqD hr.units) r2_eq (ce_var (i := 2) (pv 2)) ce_str (nomark _))
    (sx_one (sx_ret (xe_lst (c := true) (xa_cons (xe_call (c := true) (pe_callS G_fold (hr.mono (by decide)) (by rfl) M_fold k_fold b_fold (fun σ => passAt (takes_of rfl rfl rfl rfl) σ) (xa_ok (ca_cons (ce_var (i := 0) (pv 0)) (ca_cons (ce_var (i := 3) (pv 3)) (ca_cons (ce_var (i := 4) (pv 4)) (ca_cons (ce_var (i := 5) (pv 5)) ca_nil))))))) ca_nil))))
    sx_nil)
    (sx_one (sx_ret (xe_lst (c := true) (xa_cons (xe_call (c := true) (pe_callS G_stack (hr.mono (by decide)) (by rfl) M_stack k_stack b_stack (fun σ => passAt (takes_of rfl rfl rfl rfl) σ) (xa_ok (ca_cons (ce_var (i := 0) (pv 0)) (ca_cons (ce_var (i := 3) (pv 3)) (ca_cons (ce_var (i := 4) (pv 4)) (ca_cons (ce_var (i := 5) (pv 5)) ca_nil))))))) ca_nil)))))))))
theorem ok_take {f : Addr} {fd : FuncData} (F : Fun K "take" "take" s_take f fd) {C fI : Addr} (T : PySem.RfX.RfTxt P K mg C fI) (m_len : mg "len" = none) : FnOk P w K mg base (L2.CX P w) 3 f fd ["packets", "index"] (spX K C g_take) := by
  refine fn_okX (k := 2) (fB := f_take) (np := 2) (nN := 2) F sc_take rfl rfl rfl fun cdv A outer s H E hr => ?_
  have nd : N_take.Nodup := sc_take.nd
  exact ((sx_cons (sx_if (ct_not (ct_chain (c := true) (c1 := true) (c2 := true) (pt_chain op_le op_lt ce_int (ce_var (i := 1) (pv 1)) (ce_cb (c2 := true) cr_len (pe_callB call_len (by rfl) m_len boot_len (ca_cons (ce_var (i := 0) (pv 0)) ca_nil))))))
    (sx_one (sx_raise (ps_raiseRf (by rfl) T hr (takes_of rfl rfl rfl rfl) (by exact (pa_cons ce_str pa_nil)))))
    sx_nil)
    (sx_one (sx_up (cs_ret (ce_l (c := true) (cf_cat (c := true) (ce_add (ce_sl (ce_var (i := 0) (pv 0)) co_none (co_some (ce_var (i := 1) (pv 1)))) (ce_sl (ce_var (i := 0) (pv 0)) (co_some (ce_add (ce_var (i := 1) (pv 1)) ce_int)) co_none)) (ce_l (c := true) (cf_lst (c := true) (ca_cons (ce_ix (ce_var (i := 0) (pv 0)) (ce_var (i := 1) (pv 1)) (fun _ _ => rfl)) ca_nil))))))))))
theorem ok_pile_last {f : Addr} {fd : FuncData} (F : Fun K "pile_last" "pile_last" s_pile_last f fd) {C fI : Addr} (T : PySem.RfX.RfTxt P K mg C fI) {a_pile : Addr} {d_pile : FuncData} (G_pile : FnOk P w K mg base (L2.CX P w) 4 a_pile d_pile ["packets"] (spX K C g_pile)) (M_pile : mg "pile" = some (.ref a_pile)) (k_pile : PySem.W.keepIn K (.ref a_pile) = true) (b_pile : Binds K d_pile ["packets"] []) (m_len : mg "len" = none) : FnOk P w K mg base (L2.CX P w) 6 f fd ["packets", "count"] (spX K C g_pile_last) := by
  refine fn_okX (k := 5) (fB := f_pile_last) (np := 2) (nN := 3) F sc_pile_last rfl rfl rfl fun cdv A outer s H E hr => ?_
  have nd : N_pile_last.Nodup := sc_pile_last.nd
  exact ((sx_cons (sx_if (ct_cmp op_gt r2_B0 (ce_var (i := 1) (pv 1)) (ce_cb (c2 := true) cr_len (pe_callB call_len (by rfl) m_len boot_len (ca_cons (ce_var (i := 0) (pv 0)) ca_nil))) (nomark _))
    (sx_one (sx_raise (ps_raiseRf (by rfl) T hr (takes_of rfl rfl rfl rfl) (by exact (pa_cons ce_str pa_nil)))))
    sx_nil)
    (sx_cons (sx_up (cs_set (ps_set (i := 2) nd rfl (by first | exact Or.inl rfl | exact Or.inr rfl) (ce_sub (ce_cb (c2 := true) cr_len (pe_callB call_len (by rfl) m_len boot_len (ca_cons (ce_var (i := 0) (pv 0)) ca_nil))) (ce_var (i := 1) (pv 1))))))
    (sx_one (sx_ret (xe_op (c1 := true) (c2 := true) op_addX r2_add (ce_sl (ce_var (i := 0) (pv 0)) co_none (co_some (ce_var (i := 2) (pv 2)))) (xe_lst (c := true) (xa_cons (xe_call (c := true) (pe_callS G_pile (hr.mono (by decide)) (by rfl) M_pile k_pile b_pile (fun σ => passAt (takes_of rfl rfl rfl rfl) σ) (xa_ok (ca_cons (ce_sl (ce_var (i := 0) (pv 0)) (co_some (ce_var (i := 2) (pv 2))) co_none) ca_nil)))) ca_nil))))))))
theorem ok_work {f : Addr} {fd : FuncData} (F : Fun K "work" "work" s_work f fd) {C fI : Addr} (T : PySem.RfX.RfTxt P K mg C fI) {a_take : Addr} {d_take : FuncData} (G_take : FnOk P w K mg base (L2.CX P w) 3 a_take d_take ["packets", "index"] (spX K C g_take)) (M_take : mg "take" = some (.ref a_take)) (k_take : PySem.W.keepIn K (.ref a_take) = true) (b_take : Binds K d_take ["packets", "index"] []) {a_pile_last : Addr} {d_pile_last : FuncData} (G_pile_last : FnOk P w K mg base (L2.CX P w) 6 a_pile_last d_pile_last ["packets", "count"] (spX K C g_pile_last)) (M_pile_last : mg "pile_last" = some (.ref a_pile_last)) (k_pile_last : PySem.W.keepIn K (.ref a_pile_last) = true) (b_pile_last : Binds K d_pile_last ["packets", "count"] []) {a_work_packet : Addr} {d_work_packet : FuncData} (G_work_packet : FnOk P w K mg base (L2.CX P w) 8 a_work_packet d_work_packet ["packet", "instruction"] (spX K C g_work_packet)) (M_work_packet : mg "work_packet" = some (.ref a_work_packet)) (k_work_packet : PySem.W.keepIn K (.ref a_work_packet) = true) (b_work_packet : Binds K d_work_packet ["packet", "instruction"] []) : FnOk P w K mg base (L2.CX P w) 10 f fd ["packets", "instruction"] (spX K C g_work) := by
  refine fn_okX (k := 9) (fB := f_work) (np := 2) (nN := 2) F sc_work rfl rfl rfl fun cdv A outer s H E hr => ?_
  have nd : N_work.Nodup := sc_work.nd
  exact ((sx_cons (sx_if (ct_cmp (op_eqD hr.units) r2_eq (ce_ix (ce_var (i := 1) (pv 1)) ce_int (fun _ _ => rfl)) ce_str (nomark _))
    (sx_one (sx_ret (xe_call (c := true) (pe_callS G_take (hr.mono (by decide)) (by rfl) M_take k_take b_take (fun σ => passAt (takes_of rfl rfl rfl rfl) σ) (xa_ok (ca_cons (ce_var (i := 0) (pv 0)) (ca_cons (ce_ix (ce_var (i := 1) (pv 1)) ce_int (fun _ _ => rfl)) ca_nil)))))))
    sx_nil)
    (sx_cons (sx_if (ct_cmp (op_eqD hr.units) r2_eq (ce_ix (ce_var (i := 1) (pv 1)) ce_int (fun _ _ => rfl)) ce_str (nomark _))
    (sx_one (sx_ret (xe_call (c := true) (pe_callS G_pile_last (hr.mono (by decide)) (by rfl) M_pile_last k_pile_last b_pile_last (fun σ => passAt (takes_of rfl rfl rfl rfl) σ) (xa_ok (ca_cons (ce_var (i := 0) (pv 0)) (ca_cons (ce_ix (ce_var (i := 1) (pv 1)) ce_int (fun _ _ => rfl)) ca_nil)))))))
    sx_nil)
    (sx_cons (sx_if (ct_not (ct_tru (ce_var (i := 0) (pv 0)) (by intro _; rfl)))
    (sx_one (sx_raise (ps_raiseRf (by rfl) T hr (takes_of rfl rfl rfl rfl) (by exact (pa_cons ce_str pa_nil)))))
    sx_nil)
    (sx_one (sx_ret (xe_op (c1 := true) (c2 := true) op_addX r2_add (ce_sl (ce_var (i := 0) (pv 0)) co_none (co_some (ce_neg ce_int))) (xe_call (c := true) (pe_callS G_work_packet (hr.mono (by decide)) (by rfl) M_work_packet k_work_packet b_work_packet (fun σ => passAt (takes_of rfl rfl rfl rfl) σ) (xa_ok (ca_cons (ce_ix (ce_var (i := 0) (pv 0)) (ce_neg ce_int) (fun _ _ => rfl)) (ca_cons (ce_var (i := 1) (pv 1)) ca_nil))))))))))))
theorem ok_carry_out {f : Addr} {fd : FuncData} (F : Fun K "carry_out" "carry_out" s_carry_out f fd) {C fI : Addr} (T : PySem.RfX.RfTxt P K mg C fI) {a_sheet_packet : Addr} {d_sheet_packet : FuncData} (G_sheet_packet : FnOk P w K mg base CX0 1 a_sheet_packet d_sheet_packet ["number", "rows", "columns"] (spF K g_sheet_packet)) (M_sheet_packet : mg "sheet_packet" = some (.ref a_sheet_packet)) (k_sheet_packet : PySem.W.keepIn K (.ref a_sheet_packet) = true) (b_sheet_packet : Binds K d_sheet_packet ["number", "rows", "columns"] []) {a_work : Addr} {d_work : FuncData} (G_work : FnOk P w K mg base (L2.CX P w) 10 a_work d_work ["packets", "instruction"] (spX K C g_work)) (M_work : mg "work" = some (.ref a_work)) (k_work : PySem.W.keepIn K (.ref a_work) = true) (b_work : Binds K d_work ["packets", "instruction"] []) : FnOk P w K mg base (L2.CX P w) 12 f fd ["plan"] (spX K C g_carry_out) := by
  refine fn_okX (k := 11) (fB := f_carry_out) (np := 1) (nN := 4) F sc_carry_out rfl rfl rfl fun cdv A outer s H E hr => ?_
  have nd : N_carry_out.Nodup := sc_carry_out.nd
  exact ((sx_cons (sx_up (cs_set (ps_set (i := 1) nd rfl (by first | exact Or.inl rfl | exact Or.inr rfl) (ce_l (c := true) (cf_lst (c := true) ca_nil)))))
    (sx_cons (sx_up (cs_set (ps_set (i := 2) nd rfl (by first | exact Or.inl rfl | exact Or.inr rfl) ce_int)))
    (sx_cons (sx_for (passes_of rfl) (by rfl) (ci_seq (ce_var (i := 0) (pv 0))) (cg_name (pg_name (i := 3) nd rfl (by first | exact Or.inl rfl | exact Or.inr rfl)))
    (sx_one (sx_if (ct_cmp (op_eqD hr.units) r2_eq (ce_ix (ce_var (i := 3) (pv 3)) ce_int (fun _ _ => rfl)) ce_str (nomark _))
    (sx_cons (sx_up (cs_set (ps_set (i := 1) nd rfl (by first | exact Or.inl rfl | exact Or.inr rfl) (ce_l (c := true) (cf_cat (c := true) (ce_var (i := 1) (pv 1)) (ce_l (c := true) (cf_lst (c := true) (ca_cons (ce_call (c := true) (pe_call G_sheet_packet (hr.mono (by decide)) (by rfl) M_sheet_packet k_sheet_packet b_sheet_packet .nil pass0 (ca_cons (ce_var (i := 2) (pv 2)) (ca_cons (ce_ix (ce_var (i := 3) (pv 3)) ce_int (fun _ _ => rfl)) (ca_cons (ce_ix (ce_var (i := 3) (pv 3)) ce_int (fun _ _ => rfl)) ca_nil))))) ca_nil))))))))
    (sx_one (sx_up (cs_aug (ps_aug (i := 2) nd rfl (by first | exact Or.inl rfl | exact Or.inr rfl) ce_int ip_add)))))
    (sx_one (sx_set (ps_set (i := 1) nd rfl (by first | exact Or.inl rfl | exact Or.inr rfl) (xe_call (c := true) (pe_callS G_work (hr.mono (by decide)) (by rfl) M_work k_work b_work (fun σ => passAt (takes_of rfl rfl rfl rfl) σ) (xa_ok (ca_cons (ce_var (i := 1) (pv 1)) (ca_cons (ce_var (i := 3) (pv 3)) ca_nil)))))))))))
    (sx_one (sx_up (cs_ret (ce_var (i := 1) (pv 1)))))))))
theorem ok_packets_left {f : Addr} {fd : FuncData} (F : Fun K "packets_left" "packets_left" s_packets_left f fd) {C fI : Addr} (T : PySem.RfX.RfTxt P K mg C fI) {a_panel_count : Addr} {d_panel_count : FuncData} (G_panel_count : FnOk P w K mg base CX0 1 a_panel_count d_panel_count ["sizes"] (spF K g_panel_count)) (M_panel_count : mg "panel_count" = some (.ref a_panel_count)) (k_panel_count : PySem.W.keepIn K (.ref a_panel_count) = true) (b_panel_count : Binds K d_panel_count ["sizes"] []) {a_sheets_of : Addr} {d_sheets_of : FuncData} (G_sheets_of : FnOk P w K mg base CX0 1 a_sheets_of d_sheets_of ["plan"] (spF K g_sheets_of)) (M_sheets_of : mg "sheets_of" = some (.ref a_sheets_of)) (k_sheets_of : PySem.W.keepIn K (.ref a_sheets_of) = true) (b_sheets_of : Binds K d_sheets_of ["plan"] []) {a_carry_out : Addr} {d_carry_out : FuncData} (G_carry_out : FnOk P w K mg base (L2.CX P w) 12 a_carry_out d_carry_out ["plan"] (spX K C g_carry_out)) (M_carry_out : mg "carry_out" = some (.ref a_carry_out)) (k_carry_out : PySem.W.keepIn K (.ref a_carry_out) = true) (b_carry_out : Binds K d_carry_out ["plan"] []) (g_MOST_PANELS : mg "MOST_PANELS" = some (.int 64 t_MOST_PANELS)) : FnOk P w K mg base (L2.CX P w) 14 f fd ["plan"] (spX K C g_packets_left) := by
  refine fn_okX (k := 13) (fB := f_packets_left) (np := 1) (nN := 1) F sc_packets_left rfl rfl rfl fun cdv A outer s H E hr => ?_
  have nd : N_packets_left.Nodup := sc_packets_left.nd
  exact ((sx_cons (sx_if (ct_cmp op_gt r2_B0 (ce_call (c := true) (pe_call G_panel_count (hr.mono (by decide)) (by rfl) M_panel_count k_panel_count b_panel_count .nil pass0 (ca_cons (ce_call (c := true) (pe_call G_sheets_of (hr.mono (by decide)) (by rfl) M_sheets_of k_sheets_of b_sheets_of .nil pass0 (ca_cons (ce_var (i := 0) (pv 0)) ca_nil))) ca_nil))) (ce_c (v := .int 64) (pe_glob (by rfl) g_MOST_PANELS ⟨_, rfl⟩) fun _ _ => by rw [Rp]) (nomark _))
    (sx_one (sx_raise (ps_raiseRf (by rfl) T hr (takes_of rfl rfl rfl rfl) (by exact (pa_cons ce_str pa_nil)))))
    sx_nil)
    (sx_one (sx_up (cs_try0 (body := y_packets_left_1) (suite := u_packets_left_1) (Wout := fun _ _ _ _ => False) T (ps_try_only (tb := fun W => tSX _ C W y_packets_left_1) (ts := fun _ _ _ => tS _ u_packets_left_1) (Wout := fun _ _ _ _ => False) rfl rfl ⟨rfl, by decide, Or.inl T.gC⟩ takes0 (fun W pn xe tk po => (sx_one (sx_ret (xe_call (c := true) (pe_callS G_carry_out (hr.mono (by decide)) (by rfl) M_carry_out k_carry_out b_carry_out (fun σ => passAt tk σ) (xa_ok (ca_cons (ce_var (i := 0) (pv 0)) ca_nil)))))))
    (fun a oe cls d pn hz hf => (cs_one (cs_ret ce_non)))))))))
theorem ok_is_single_cell {f : Addr} {fd : FuncData} (F : Fun K "is_single_cell" "is_single_cell" s_is_single_cell f fd) {a_size_of : Addr} {d_size_of : FuncData} (G_size_of : FnOk P w K mg base CX0 1 a_size_of d_size_of ["packet"] (spF K g_size_of)) (M_size_of : mg "size_of" = some (.ref a_size_of)) (k_size_of : PySem.W.keepIn K (.ref a_size_of) = true) (b_size_of : Binds K d_size_of ["packet"] []) : FnOk P w K mg base CX0 2 f fd ["packets"] (spF K g_is_single_cell) := by
  refine fn_ok (k := 1) (fB := f_is_single_cell) (np := 1) (nN := 2) F sc_is_single_cell rfl rfl rfl fun cdv A outer s H E hr => ?_
  have nd : N_is_single_cell.Nodup := sc_is_single_cell.nd
  exact ((cs_one (cs_ret (ce_cmp (op_eqD hr.units) r2_eq (ce_l (c := true) (cf_lc1 (c2 := true) (pe_lc (own := [("packet", 1)]) (by rfl) nd (ci_seq (ce_var (i := 0) (pv 0))) (blkOk_by (own := [("packet", 1)]) (N := N_is_single_cell) (sc := defScope s_is_single_cell) (by decide +kernel)) (fun _ _ _ _ _ => (cg_name (pg_name (i := 1) nd rfl (by first | exact Or.inl rfl | exact Or.inr rfl)))) (fun _ _ _ _ _ => pts_nil) (fun _ _ _ _ _ => (ce_call (c := true) (pe_call G_size_of (hr.mono (by decide)) (by rfl) M_size_of k_size_of b_size_of .nil pass0 (ca_cons (ce_var (i := 1) (pv 1)) ca_nil))))))) (ce_l (c := true) (cf_lst (c := true) (ca_cons (ce_tup (ca_cons ce_int (ca_cons ce_int ca_nil))) ca_nil))) (nomark _)))))
theorem ok_evaluate {f : Addr} {fd : FuncData} (F : Fun K "evaluate" "evaluate" s_evaluate f fd) {C fI : Addr} (T : PySem.RfX.RfTxt P K mg C fI) {a_packets_left : Addr} {d_packets_left : FuncData} (G_packets_left : FnOk P w K mg base (L2.CX P w) 14 a_packets_left d_packets_left ["plan"] (spX K C g_packets_left)) (M_packets_left : mg "packets_left" = some (.ref a_packets_left)) (k_packets_left : PySem.W.keepIn K (.ref a_packets_left) = true) (b_packets_left : Binds K d_packets_left ["plan"] []) : FnOk P w K mg base (L2.CX P w) 16 f fd ["plan"] (spX K C g_evaluate) := by
  refine fn_okX (k := 15) (fB := f_evaluate) (np := 1) (nN := 2) F sc_evaluate rfl rfl rfl fun cdv A outer s H E hr => ?_
  have nd : N_evaluate.Nodup := sc_evaluate.nd
  exact ((sx_cons (sx_set (ps_set (i := 1) nd rfl (by first | exact Or.inl rfl | exact Or.inr rfl) (xe_call (c := true) (pe_callS G_packets_left (hr.mono (by decide)) (by rfl) M_packets_left k_packets_left b_packets_left (fun σ => passAt (takes_of rfl rfl rfl rfl) σ) (xa_ok (ca_cons (ce_var (i := 0) (pv 0)) ca_nil))))))
    (sx_cons (sx_if (ct_cmp op_isN r2_is (ce_var (i := 1) (pv 1)) ce_non (nomark _))
    (sx_one (sx_raise (ps_raiseRf (by rfl) T hr (takes_of rfl rfl rfl rfl) (by exact (pa_cons ce_str pa_nil)))))
    sx_nil)
    (sx_one (sx_up (cs_ret (ce_var (i := 1) (pv 1))))))))
theorem ok_is_complete {f : Addr} {fd : FuncData} (F : Fun K "is_complete" "is_complete" s_is_complete f fd) {C fI : Addr} (T : PySem.RfX.RfTxt P K mg C fI) {a_packets_left : Addr} {d_packets_left : FuncData} (G_packets_left : FnOk P w K mg base (L2.CX P w) 14 a_packets_left d_packets_left ["plan"] (spX K C g_packets_left)) (M_packets_left : mg "packets_left" = some (.ref a_packets_left)) (k_packets_left : PySem.W.keepIn K (.ref a_packets_left) = true) (b_packets_left : Binds K d_packets_left ["plan"] []) {a_is_single_cell : Addr} {d_is_single_cell : FuncData} (G_is_single_cell : FnOk P w K mg base CX0 2 a_is_single_cell d_is_single_cell ["packets"] (spF K g_is_single_cell)) (M_is_single_cell : mg "is_single_cell" = some (.ref a_is_single_cell)) (k_is_single_cell : PySem.W.keepIn K (.ref a_is_single_cell) = true) (b_is_single_cell : Binds K d_is_single_cell ["packets"] []) : FnOk P w K mg base (L2.CX P w) 16 f fd ["plan"] (spX K C g_is_complete) := by
  refine fn_okX (k := 15) (fB := f_is_complete) (np := 1) (nN := 2) F sc_is_complete rfl rfl rfl fun cdv A outer s H E hr => ?_
  have nd : N_is_complete.Nodup := sc_is_complete.nd
  exact ((sx_cons (sx_set (ps_set (i := 1) nd rfl (by first | exact Or.inl rfl | exact Or.inr rfl) (xe_call (c := true) (pe_callS G_packets_left (hr.mono (by decide)) (by rfl) M_packets_left k_packets_left b_packets_left (fun σ => passAt (takes_of rfl rfl rfl rfl) σ) (xa_ok (ca_cons (ce_var (i := 0) (pv 0)) ca_nil))))))
    (sx_one (sx_up (cs_ret (ce_and (ce_cmp op_notN r2_isnt (ce_var (i := 1) (pv 1)) ce_non (nomark _)) (ce_one (ce_call (c := true) (pe_call G_is_single_cell (hr.mono (by decide)) (by rfl) M_is_single_cell k_is_single_cell b_is_single_cell .nil pass0 (ca_cons (ce_var (i := 1) (pv 1)) ca_nil))))))))))
theorem ok_leaf_order {f : Addr} {fd : FuncData} (F : Fun K "leaf_order" "leaf_order" s_leaf_order f fd) {C fI : Addr} (T : PySem.RfX.RfTxt P K mg C fI) {a_evaluate : Addr} {d_evaluate : FuncData} (G_evaluate : FnOk P w K mg base (L2.CX P w) 16 a_evaluate d_evaluate ["plan"] (spX K C g_evaluate)) (M_evaluate : mg "evaluate" = some (.ref a_evaluate)) (k_evaluate : PySem.W.keepIn K (.ref a_evaluate) = true) (b_evaluate : Binds K d_evaluate ["plan"] []) {a_is_single_cell : Addr} {d_is_single_cell : FuncData} (G_is_single_cell : FnOk P w K mg base CX0 2 a_is_single_cell d_is_single_cell ["packets"] (spF K g_is_single_cell)) (M_is_single_cell : mg "is_single_cell" = some (.ref a_is_single_cell)) (k_is_single_cell : PySem.W.keepIn K (.ref a_is_single_cell) = true) (b_is_single_cell : Binds K d_is_single_cell ["packets"] []) : FnOk P w K mg base (L2.CX P w) 18 f fd ["plan"] (spX K C g_leaf_order) := by
  refine fn_okX (k := 17) (fB := f_leaf_order) (np := 1) (nN := 2) F sc_leaf_order rfl rfl rfl fun cdv A outer s H E hr => ?_
  have nd : N_leaf_order.Nodup := sc_leaf_order.nd
  exact ((sx_cons (sx_set (ps_set (i := 1) nd rfl (by first | exact Or.inl rfl | exact Or.inr rfl) (xe_call (c := true) (pe_callS G_evaluate (hr.mono (by decide)) (by rfl) M_evaluate k_evaluate b_evaluate (fun σ => passAt (takes_of rfl rfl rfl rfl) σ) (xa_ok (ca_cons (ce_var (i := 0) (pv 0)) ca_nil))))))
    (sx_cons (sx_if (ct_not (ct_tru (ce_call (c := true) (pe_call G_is_single_cell (hr.mono (by decide)) (by rfl) M_is_single_cell k_is_single_cell b_is_single_cell .nil pass0 (ca_cons (ce_var (i := 1) (pv 1)) ca_nil))) (by intro _; rfl)))
    (sx_one (sx_raise (ps_raiseRf (by rfl) T hr (takes_of rfl rfl rfl rfl) (by exact (pa_cons ce_str pa_nil)))))
    sx_nil)
    (sx_one (sx_up (cs_ret (ce_ix (ce_ix (ce_ix (ce_var (i := 1) (pv 1)) ce_int (fun _ _ => rfl)) ce_int (fun _ _ => rfl)) ce_int (fun _ _ => rfl))))))))
theorem ok_Lcell {f : Addr} {fd : FuncData} (F : Fun K "_law_cell" "_law_cell" s_Lcell f fd) (m_len : mg "len" = none) : FnOk P w K mg base CX0 1 f fd ["script", "k"] (spF K g_Lcell) := by
  refine fn_ok (k := 0) (fB := f_Lcell) (np := 2) (nN := 2) F sc_Lcell rfl rfl rfl fun cdv A outer s H E hr => ?_
  have nd : N_Lcell.Nodup := sc_Lcell.nd
  exact ((cs_cons (cs_if (ct_cmp op_lt r2_B0 (ce_var (i := 1) (pv 1)) (ce_cb (c2 := true) cr_len (pe_callB call_len (by rfl) m_len boot_len (ca_cons (ce_var (i := 0) (pv 0)) ca_nil))) (nomark _))
    (cs_one (cs_ret (ce_ix (ce_var (i := 0) (pv 0)) (ce_var (i := 1) (pv 1)) (fun _ _ => rfl))))
    cs_nil)
    (cs_one (cs_ret ce_int))))
theorem ok_Ldraws {f : Addr} {fd : FuncData} (F : Fun K "_law_draws" "_law_draws" s_Ldraws f fd) (m_range : mg "range" = none) : FnOk P w K mg base CX0 1 f fd ["cell", "count"] (spF K g_Ldraws) := by
  refine fn_ok (k := 0) (fB := f_Ldraws) (np := 2) (nN := 6) F sc_Ldraws rfl rfl rfl fun cdv A outer s H E hr => ?_
  have nd : N_Ldraws.Nodup := sc_Ldraws.nd
  exact ((cs_cons (cs_own (ps_set (i := 2) nd rfl (by first | exact Or.inl rfl | exact Or.inr rfl) (cf_lst (c := true) ca_nil)))
    (cs_cons (cs_set (ps_set (i := 3) nd rfl (by first | exact Or.inl rfl | exact Or.inr rfl) (ce_cmp op_ge r2_B0 (ce_var (i := 0) (pv 0)) (ce_pow ce_int ce_int) (nomark _))))
    (cs_cons (cs_for PassesOwn.never (by rfl) (ci_r1 (pi_range1 (by rfl) m_range (ca_cons (ce_var (i := 1) (pv 1)) ca_nil))) (cg_name (pg_name (i := 4) nd rfl (by first | exact Or.inl rfl | exact Or.inr rfl)))
    (cs_one (cs_if (ct_tru (ce_var (i := 3) (pv 3)) (by intro _; rfl))
    (cs_cons (cs_app (ps_expr (pe_bm PySem.F.plainAttrs_list PySem.F.slot_list_append PySem.F.type_list_append mt_append (pv 2) (pa_cons (ce_mod (ce_var (i := 0) (pv 0)) ce_int) pa_nil))))
    (cs_one (cs_set (ps_set (i := 0) nd rfl (by first | exact Or.inl rfl | exact Or.inr rfl) (ce_div (ce_var (i := 0) (pv 0)) ce_int)))))
    (cs_cons (cs_set (ps_set (i := 5) nd rfl (by first | exact Or.inl rfl | exact Or.inr rfl) (ce_mod (ce_add (ce_mul (ce_var (i := 0) (pv 0)) ce_int) (ce_mul (ce_var (i := 4) (pv 4)) ce_int)) ce_int)))
    (cs_one (cs_app (ps_expr (pe_bm PySem.F.plainAttrs_list PySem.F.slot_list_append PySem.F.type_list_append mt_append (pv 2) (pa_cons (ce_mod (ce_add (ce_add (ce_mul (ce_var (i := 5) (pv 5)) (ce_var (i := 5) (pv 5))) (ce_mul (ce_var (i := 0) (pv 0)) ce_int)) (ce_var (i := 4) (pv 4))) ce_int) pa_nil)))))))))
    (cs_one (cs_frz (i := 2) (cs_ret (ce_var (i := 2) (pv 2)))))))))
theorem ok_Lflip {f : Addr} {fd : FuncData} (F : Fun K "_law_flip" "_law_flip" s_Lflip f fd)  : FnOk P w K mg base CX0 1 f fd ["layer", "axis"] (spF K g_Lflip) := by
  refine fn_ok (k := 0) (fB := f_Lflip) (np := 2) (nN := 7) F sc_Lflip rfl rfl rfl fun cdv A outer s H E hr => ?_
  have nd : N_Lflip.Nodup := sc_Lflip.nd
  exact ((cs_cons (cs_unp (ps_asg (ce_var (i := 0) (pv 0)) (cg_tup (is := [2, 3, 4, 5, 6]) (pg_tup rfl (pgs_cons (pg_name (i := 2) nd rfl (by first | exact Or.inl rfl | exact Or.inr rfl)) (pgs_cons (pg_name (i := 3) nd rfl (by first | exact Or.inl rfl | exact Or.inr rfl)) (pgs_cons (pg_name (i := 4) nd rfl (by first | exact Or.inl rfl | exact Or.inr rfl)) (pgs_cons (pg_name (i := 5) nd rfl (by first | exact Or.inl rfl | exact Or.inr rfl)) (pgs_cons (pg_name (i := 6) nd rfl (by first | exact Or.inl rfl | exact Or.inr rfl)) pgs_nil)))))))))
    (cs_cons (cs_if (ct_cmp (op_inT (hu65 hr)) r2_inT (ce_var (i := 1) (pv 1)) (ce_tup (ca_cons ce_str (ca_cons ce_str ca_nil))) (by rfl))
    (cs_one (cs_set (ps_set (i := 5) nd rfl (by first | exact Or.inl rfl | exact Or.inr rfl) (ce_not (ce_var (i := 5) (pv 5))))))
    cs_nil)
    (cs_cons (cs_if (ct_cmp (op_inT (hu65 hr)) r2_inT (ce_var (i := 1) (pv 1)) (ce_tup (ca_cons ce_str (ca_cons ce_str ca_nil))) (by rfl))
    (cs_one (cs_set (ps_set (i := 6) nd rfl (by first | exact Or.inl rfl | exact Or.inr rfl) (ce_not (ce_var (i := 6) (pv 6))))))
    cs_nil)
    (cs_one (cs_ret (ce_tup (ca_cons (ce_var (i := 2) (pv 2)) (ca_cons (ce_var (i := 3) (pv 3)) (ca_cons (ce_var (i := 4) (pv 4)) (ca_cons (ce_var (i := 5) (pv 5)) (ca_cons (ce_var (i := 6) (pv 6)) ca_nil))))))))))))
theorem ok_Lsheet {f : Addr} {fd : FuncData} (F : Fun K "_law_sheet" "_law_sheet" s_Lsheet f fd) (m_range : mg "range" = none) : FnOk P w K mg base CX0 1 f fd ["sheet", "rows", "columns"] (spF K g_Lsheet) := by
  refine fn_ok (k := 0) (fB := f_Lsheet) (np := 3) (nN := 5) F sc_Lsheet rfl rfl rfl fun cdv A outer s H E hr => ?_
  have nd : N_Lsheet.Nodup := sc_Lsheet.nd
  exact ((cs_cons (cs_newT (ps_set (i := 3) nd rfl (by first | exact Or.inl rfl | exact Or.inr rfl) pe_dnewT))
    (cs_cons (cs_for PassesOwn.never (by rfl) (ci_r1 (pi_range1 (by rfl) m_range (ca_cons (ce_mul (ce_var (i := 1) (pv 1)) (ce_var (i := 2) (pv 2))) ca_nil))) (cg_name (pg_name (i := 4) nd rfl (by first | exact Or.inl rfl | exact Or.inr rfl)))
    (cs_one (cs_putD (c := true) (i := 3) (ps_dput (hu1 hr) (pv 3) (ce_tup (ca_cons (ce_div (ce_var (i := 4) (pv 4)) (ce_var (i := 2) (pv 2))) (ca_cons (ce_mod (ce_var (i := 4) (pv 4)) (ce_var (i := 2) (pv 2))) ca_nil))) (ce_l (c := true) (cf_lst (c := true) (ca_cons (ce_tup (ca_cons (ce_var (i := 0) (pv 0)) (ca_cons (ce_div (ce_var (i := 4) (pv 4)) (ce_var (i := 2) (pv 2))) (ca_cons (ce_mod (ce_var (i := 4) (pv 4)) (ce_var (i := 2) (pv 2))) (ca_cons ce_bl (ca_cons ce_bl ca_nil)))))) ca_nil))) (by rfl)))))
    (cs_one (cs_frzD (i := 3) (cs_ret (ce_tup (ca_cons (ce_var (i := 1) (pv 1)) (ca_cons (ce_var (i := 2) (pv 2)) (ca_cons (ce_var (i := 3) (pv 3)) ca_nil))))))))))
theorem ok_Lturned {f : Addr} {fd : FuncData} (F : Fun K "_law_turned" "_law_turned" s_Lturned f fd) {a_Lflip : Addr} {d_Lflip : FuncData} (G_Lflip : FnOk P w K mg base CX0 1 a_Lflip d_Lflip ["layer", "axis"] (spF K g_Lflip)) (M_Lflip : mg "_law_flip" = some (.ref a_Lflip)) (k_Lflip : PySem.W.keepIn K (.ref a_Lflip) = true) (b_Lflip : Binds K d_Lflip ["layer", "axis"] []) : FnOk P w K mg base CX0 2 f fd ["packet", "axis"] (spF K g_Lturned) := by
  refine fn_ok (k := 1) (fB := f_Lturned) (np := 2) (nN := 12) F sc_Lturned rfl rfl rfl fun cdv A outer s H E hr => ?_
  have nd : N_Lturned.Nodup := sc_Lturned.nd
  exact ((cs_cons (cs_unp (ps_asg (ce_var (i := 0) (pv 0)) (cg_tup (is := [2, 3, 4]) (pg_tup rfl (pgs_cons (pg_name (i := 2) nd rfl (by first | exact Or.inl rfl | exact Or.inr rfl)) (pgs_cons (pg_name (i := 3) nd rfl (by first | exact Or.inl rfl | exact Or.inr rfl)) (pgs_cons (pg_name (i := 4) nd rfl (by first | exact Or.inl rfl | exact Or.inr rfl)) pgs_nil)))))))
    (cs_cons (cs_newT (ps_set (i := 5) nd rfl (by first | exact Or.inl rfl | exact Or.inr rfl) pe_dnewT))
    (cs_cons (cs_for PassesOwn.never (by rfl) (ci_seqU (ce_var (i := 4) (pv 4))) (cg_tup (is := [6, 7]) (pg_tup rfl (pgs_cons (pg_name (i := 6) nd rfl (by first | exact Or.inl rfl | exact Or.inr rfl)) (pgs_cons (pg_name (i := 7) nd rfl (by first | exact Or.inl rfl | exact Or.inr rfl)) pgs_nil))))
    (cs_cons (cs_lcV1 (ps_setLc (i := 8) (own := [("layer", 11)]) rfl nd rfl rfl (sw_true rfl rfl rfl (by decide +kernel)) (ci_seqU (ce_ixU (hu1 hr) (ce_var (i := 4) (pv 4)) (ce_tup (ca_cons (ce_var (i := 6) (pv 6)) (ca_cons (ce_var (i := 7) (pv 7)) ca_nil))) (fun _ _ => rfl) (fun _ _ => rfl))) (blkOk_by (own := [("layer", 11)]) (N := N_Lturned) (sc := defScope s_Lturned) (by decide +kernel)) (fun _ _ _ _ _ => (cg_name (pg_name (i := 11) nd rfl (by first | exact Or.inl rfl | exact Or.inr rfl)))) (fun _ _ _ _ _ => pts_nil) (fun _ _ _ _ _ => (ce_call (c := true) (pe_call G_Lflip (hr.mono (by decide)) (by rfl) M_Lflip k_Lflip b_Lflip .nil pass0 (ca_cons (ce_var (i := 11) (pv 11)) (ca_cons (ce_var (i := 1) (pv 1)) ca_nil)))))))
    (cs_cons (cs_set (ps_set (i := 9) nd rfl (by first | exact Or.inl rfl | exact Or.inr rfl) (ce_if (ct_cmp (op_eqD hr.units) r2_eq (ce_var (i := 1) (pv 1)) ce_str (nomark _)) (ce_var (i := 6) (pv 6)) (ce_sub (ce_sub (ce_var (i := 2) (pv 2)) ce_int) (ce_var (i := 6) (pv 6))))))
    (cs_cons (cs_set (ps_set (i := 10) nd rfl (by first | exact Or.inl rfl | exact Or.inr rfl) (ce_if (ct_cmp (op_eqD hr.units) r2_eq (ce_var (i := 1) (pv 1)) ce_str (nomark _)) (ce_var (i := 7) (pv 7)) (ce_sub (ce_sub (ce_var (i := 3) (pv 3)) ce_int) (ce_var (i := 7) (pv 7))))))
    (cs_one (cs_putD (c := true) (i := 5) (ps_dput (hu1 hr) (pv 5) (ce_tup (ca_cons (ce_var (i := 9) (pv 9)) (ca_cons (ce_var (i := 10) (pv 10)) ca_nil))) (ce_if (ct_cmp (op_eqD hr.units) r2_eq (ce_var (i := 1) (pv 1)) ce_str (nomark _)) (ce_var (i := 8) (pv 8)) (ce_rev (ce_var (i := 8) (pv 8)) (ce_neg ce_int))) (by rfl))))))))
    (cs_one (cs_frzD (i := 5) (cs_ret (ce_tup (ca_cons (ce_var (i := 2) (pv 2)) (ca_cons (ce_var (i := 3) (pv 3)) (ca_cons (ce_var (i := 5) (pv 5)) ca_nil)))))))))))
theorem ok_Lregion {f : Addr} {fd : FuncData} (F : Fun K "_law_region" "_law_region" s_Lregion f fd) (m_range : mg "range" = none) : FnOk P w K mg base CX0 1 f fd ["packet", "top", "left", "rows", "columns"] (spF K g_Lregion) := by
  refine fn_ok (k := 0) (fB := f_Lregion) (np := 5) (nN := 7) F sc_Lregion rfl rfl rfl fun cdv A outer s H E hr => ?_
  have nd : N_Lregion.Nodup := sc_Lregion.nd
  exact ((cs_cons (cs_newT (ps_set (i := 5) nd rfl (by first | exact Or.inl rfl | exact Or.inr rfl) pe_dnewT))
    (cs_cons (cs_for PassesOwn.never (by rfl) (ci_r1 (pi_range1 (by rfl) m_range (ca_cons (ce_mul (ce_var (i := 3) (pv 3)) (ce_var (i := 4) (pv 4))) ca_nil))) (cg_name (pg_name (i := 6) nd rfl (by first | exact Or.inl rfl | exact Or.inr rfl)))
    (cs_one (cs_putD (c := true) (i := 5) (ps_dput (hu1 hr) (pv 5) (ce_tup (ca_cons (ce_div (ce_var (i := 6) (pv 6)) (ce_var (i := 4) (pv 4))) (ca_cons (ce_mod (ce_var (i := 6) (pv 6)) (ce_var (i := 4) (pv 4))) ca_nil))) (ce_ixU (hu1 hr) (ce_ixU (hu1 hr) (ce_var (i := 0) (pv 0)) ce_int (fun _ _ => rfl) (fun _ _ => rfl)) (ce_tup (ca_cons (ce_add (ce_var (i := 1) (pv 1)) (ce_div (ce_var (i := 6) (pv 6)) (ce_var (i := 4) (pv 4)))) (ca_cons (ce_add (ce_var (i := 2) (pv 2)) (ce_mod (ce_var (i := 6) (pv 6)) (ce_var (i := 4) (pv 4)))) ca_nil))) (fun _ _ => rfl) (fun _ _ => rfl)) (by rfl)))))
    (cs_one (cs_frzD (i := 5) (cs_ret (ce_tup (ca_cons (ce_var (i := 3) (pv 3)) (ca_cons (ce_var (i := 4) (pv 4)) (ca_cons (ce_var (i := 5) (pv 5)) ca_nil))))))))))
theorem ok_Lsplit {f : Addr} {fd : FuncData} (F : Fun K "_law_split" "_law_split" s_Lsplit f fd) {a_Lregion : Addr} {d_Lregion : FuncData} (G_Lregion : FnOk P w K mg base CX0 1 a_Lregion d_Lregion ["packet", "top", "left", "rows", "columns"] (spF K g_Lregion)) (M_Lregion : mg "_law_region" = some (.ref a_Lregion)) (k_Lregion : PySem.W.keepIn K (.ref a_Lregion) = true) (b_Lregion : Binds K d_Lregion ["packet", "top", "left", "rows", "columns"] []) : FnOk P w K mg base CX0 2 f fd ["packet", "edge", "line"] (spF K g_Lsplit) := by
  refine fn_ok (k := 1) (fB := f_Lsplit) (np := 3) (nN := 6) F sc_Lsplit rfl rfl rfl fun cdv A outer s H E hr => ?_
  have nd : N_Lsplit.Nodup := sc_Lsplit.nd
  exact ((cs_cons (cs_unp (ps_asg (ce_var (i := 0) (pv 0)) (cg_tup (is := [3, 4, 5]) (pg_tup rfl (pgs_cons (pg_name (i := 3) nd rfl (by first | exact Or.inl rfl | exact Or.inr rfl)) (pgs_cons (pg_name (i := 4) nd rfl (by first | exact Or.inl rfl | exact Or.inr rfl)) (pgs_cons (pg_name (i := 5) nd rfl (by first | exact Or.inl rfl | exact Or.inr rfl)) pgs_nil)))))))
    (cs_cons (cs_if (ct_cmp (op_eqD hr.units) r2_eq (ce_var (i := 1) (pv 1)) ce_str (nomark _))
    (cs_one (cs_ret (ce_tup (ca_cons (ce_call (c := true) (pe_call G_Lregion (hr.mono (by decide)) (by rfl) M_Lregion k_Lregion b_Lregion .nil pass0 (ca_cons (ce_var (i := 0) (pv 0)) (ca_cons ce_int (ca_cons (ce_var (i := 2) (pv 2)) (ca_cons (ce_var (i := 3) (pv 3)) (ca_cons (ce_sub (ce_var (i := 4) (pv 4)) (ce_var (i := 2) (pv 2))) ca_nil))))))) (ca_cons (ce_call (c := true) (pe_call G_Lregion (hr.mono (by decide)) (by rfl) M_Lregion k_Lregion b_Lregion .nil pass0 (ca_cons (ce_var (i := 0) (pv 0)) (ca_cons ce_int (ca_cons ce_int (ca_cons (ce_var (i := 3) (pv 3)) (ca_cons (ce_var (i := 2) (pv 2)) ca_nil))))))) ca_nil)))))
    cs_nil)
    (cs_cons (cs_if (ct_cmp (op_eqD hr.units) r2_eq (ce_var (i := 1) (pv 1)) ce_str (nomark _))
    (cs_one (cs_ret (ce_tup (ca_cons (ce_call (c := true) (pe_call G_Lregion (hr.mono (by decide)) (by rfl) M_Lregion k_Lregion b_Lregion .nil pass0 (ca_cons (ce_var (i := 0) (pv 0)) (ca_cons ce_int (ca_cons ce_int (ca_cons (ce_var (i := 3) (pv 3)) (ca_cons (ce_sub (ce_var (i := 4) (pv 4)) (ce_var (i := 2) (pv 2))) ca_nil))))))) (ca_cons (ce_call (c := true) (pe_call G_Lregion (hr.mono (by decide)) (by rfl) M_Lregion k_Lregion b_Lregion .nil pass0 (ca_cons (ce_var (i := 0) (pv 0)) (ca_cons ce_int (ca_cons (ce_sub (ce_var (i := 4) (pv 4)) (ce_var (i := 2) (pv 2))) (ca_cons (ce_var (i := 3) (pv 3)) (ca_cons (ce_var (i := 2) (pv 2)) ca_nil))))))) ca_nil)))))
    cs_nil)
    (cs_cons (cs_if (ct_cmp (op_eqD hr.units) r2_eq (ce_var (i := 1) (pv 1)) ce_str (nomark _))
    (cs_one (cs_ret (ce_tup (ca_cons (ce_call (c := true) (pe_call G_Lregion (hr.mono (by decide)) (by rfl) M_Lregion k_Lregion b_Lregion .nil pass0 (ca_cons (ce_var (i := 0) (pv 0)) (ca_cons (ce_var (i := 2) (pv 2)) (ca_cons ce_int (ca_cons (ce_sub (ce_var (i := 3) (pv 3)) (ce_var (i := 2) (pv 2))) (ca_cons (ce_var (i := 4) (pv 4)) ca_nil))))))) (ca_cons (ce_call (c := true) (pe_call G_Lregion (hr.mono (by decide)) (by rfl) M_Lregion k_Lregion b_Lregion .nil pass0 (ca_cons (ce_var (i := 0) (pv 0)) (ca_cons ce_int (ca_cons ce_int (ca_cons (ce_var (i := 2) (pv 2)) (ca_cons (ce_var (i := 4) (pv 4)) ca_nil))))))) ca_nil)))))
    cs_nil)
    (cs_one (cs_ret (ce_tup (ca_cons (ce_call (c := true) (pe_call G_Lregion (hr.mono (by decide)) (by rfl) M_Lregion k_Lregion b_Lregion .nil pass0 (ca_cons (ce_var (i := 0) (pv 0)) (ca_cons ce_int (ca_cons ce_int (ca_cons (ce_sub (ce_var (i := 3) (pv 3)) (ce_var (i := 2) (pv 2))) (ca_cons (ce_var (i := 4) (pv 4)) ca_nil))))))) (ca_cons (ce_call (c := true) (pe_call G_Lregion (hr.mono (by decide)) (by rfl) M_Lregion k_Lregion b_Lregion .nil pass0 (ca_cons (ce_var (i := 0) (pv 0)) (ca_cons (ce_sub (ce_var (i := 3) (pv 3)) (ce_var (i := 2) (pv 2))) (ca_cons ce_int (ca_cons (ce_var (i := 2) (pv 2)) (ca_cons (ce_var (i := 4) (pv 4)) ca_nil))))))) ca_nil))))))))))
theorem ok_Llaid {f : Addr} {fd : FuncData} (F : Fun K "_law_laid" "_law_laid" s_Llaid f fd) (m_max : mg "max" = none) (m_range : mg "range" = none) : FnOk P w K mg base CX0 1 f fd ["part", "rest", "edge", "way"] (spF K g_Llaid) := by
  refine fn_ok (k := 0) (fB := f_Llaid) (np := 4) (nN := 15) F sc_Llaid rfl rfl rfl fun cdv A outer s H E hr => ?_
  have nd : N_Llaid.Nodup := sc_Llaid.nd
  exact ((cs_cons (cs_set (ps_set (i := 4) nd rfl (by first | exact Or.inl rfl | exact Or.inr rfl) (ce_cb (c2 := true) cr_mx2 (pe_callB (call_max2 rfl) (by rfl) m_max (by decide +kernel) (ca_cons (ce_ixU (hu1 hr) (ce_var (i := 0) (pv 0)) ce_int (fun _ _ => rfl) (fun _ _ => rfl)) (ca_cons (ce_ixU (hu1 hr) (ce_var (i := 1) (pv 1)) ce_int (fun _ _ => rfl) (fun _ _ => rfl)) ca_nil))))))
    (cs_cons (cs_set (ps_set (i := 5) nd rfl (by first | exact Or.inl rfl | exact Or.inr rfl) (ce_cb (c2 := true) cr_mx2 (pe_callB (call_max2 rfl) (by rfl) m_max (by decide +kernel) (ca_cons (ce_ixU (hu1 hr) (ce_var (i := 0) (pv 0)) ce_int (fun _ _ => rfl) (fun _ _ => rfl)) (ca_cons (ce_ixU (hu1 hr) (ce_var (i := 1) (pv 1)) ce_int (fun _ _ => rfl) (fun _ _ => rfl)) ca_nil))))))
    (cs_cons (cs_newT (ps_set (i := 6) nd rfl (by first | exact Or.inl rfl | exact Or.inr rfl) pe_dnewT))
    (cs_cons (cs_for PassesOwn.never (by rfl) (ci_r1 (pi_range1 (by rfl) m_range (ca_cons (ce_mul (ce_var (i := 4) (pv 4)) (ce_var (i := 5) (pv 5))) ca_nil))) (cg_name (pg_name (i := 7) nd rfl (by first | exact Or.inl rfl | exact Or.inr rfl)))
    (cs_one (cs_putD (c := true) (i := 6) (ps_dput (hu1 hr) (pv 6) (ce_tup (ca_cons (ce_div (ce_var (i := 7) (pv 7)) (ce_var (i := 5) (pv 5))) (ca_cons (ce_mod (ce_var (i := 7) (pv 7)) (ce_var (i := 5) (pv 5))) ca_nil))) (ce_l (c := true) (cf_lst (c := true) ca_nil)) (by rfl)))))
    (cs_cons (cs_set (ps_set (i := 8) nd rfl (by first | exact Or.inl rfl | exact Or.inr rfl) (ce_if (ct_cmp (op_eqD hr.units) r2_eq (ce_var (i := 3) (pv 3)) ce_str (nomark _)) (ce_l (c := true) (cf_lst (c := true) (ca_cons (ce_var (i := 0) (pv 0)) (ca_cons (ce_var (i := 1) (pv 1)) ca_nil)))) (ce_l (c := true) (cf_lst (c := true) (ca_cons (ce_var (i := 1) (pv 1)) (ca_cons (ce_var (i := 0) (pv 0)) ca_nil)))))))
    (cs_cons (cs_for PassesOwn.never (by rfl) (ci_seqU (ce_var (i := 8) (pv 8))) (cg_name (pg_name (i := 9) nd rfl (by first | exact Or.inl rfl | exact Or.inr rfl)))
    (cs_cons (cs_set (ps_set (i := 10) nd rfl (by first | exact Or.inl rfl | exact Or.inr rfl) (ce_if (ct_cmp (op_eqD hr.units) r2_eq (ce_var (i := 2) (pv 2)) ce_str (nomark _)) (ce_sub (ce_var (i := 4) (pv 4)) (ce_ixU (hu1 hr) (ce_var (i := 9) (pv 9)) ce_int (fun _ _ => rfl) (fun _ _ => rfl))) ce_int)))
    (cs_cons (cs_set (ps_set (i := 11) nd rfl (by first | exact Or.inl rfl | exact Or.inr rfl) (ce_if (ct_cmp (op_eqD hr.units) r2_eq (ce_var (i := 2) (pv 2)) ce_str (nomark _)) (ce_sub (ce_var (i := 5) (pv 5)) (ce_ixU (hu1 hr) (ce_var (i := 9) (pv 9)) ce_int (fun _ _ => rfl) (fun _ _ => rfl))) ce_int)))
    (cs_one (cs_for PassesOwn.never (by rfl) (ci_seqU (ce_ixU (hu1 hr) (ce_var (i := 9) (pv 9)) ce_int (fun _ _ => rfl) (fun _ _ => rfl))) (cg_tup (is := [12, 13]) (pg_tup rfl (pgs_cons (pg_name (i := 12) nd rfl (by first | exact Or.inl rfl | exact Or.inr rfl)) (pgs_cons (pg_name (i := 13) nd rfl (by first | exact Or.inl rfl | exact Or.inr rfl)) pgs_nil))))
    (cs_cons (cs_set (ps_set (i := 14) nd rfl (by first | exact Or.inl rfl | exact Or.inr rfl) (ce_tup (ca_cons (ce_add (ce_var (i := 12) (pv 12)) (ce_var (i := 10) (pv 10))) (ca_cons (ce_add (ce_var (i := 13) (pv 13)) (ce_var (i := 11) (pv 11))) ca_nil)))))
    (cs_one (cs_putD (c := true) (i := 6) (ps_dput (hu1 hr) (pv 6) (ce_var (i := 14) (pv 14)) (ce_add (ce_getO (c := true) (i := 6) (hu1 hr) (pv 6) (ce_var (i := 14) (pv 14)) (fun _ _ => rfl)) (ce_ixU (hu1 hr) (ce_ixU (hu1 hr) (ce_var (i := 9) (pv 9)) ce_int (fun _ _ => rfl) (fun _ _ => rfl)) (ce_tup (ca_cons (ce_var (i := 12) (pv 12)) (ca_cons (ce_var (i := 13) (pv 13)) ca_nil))) (fun _ _ => rfl) (fun _ _ => rfl))) (by rfl))))))))))
    (cs_one (cs_frzD (i := 6) (cs_ret (ce_tup (ca_cons (ce_var (i := 4) (pv 4)) (ca_cons (ce_var (i := 5) (pv 5)) (ca_cons (ce_var (i := 6) (pv 6)) ca_nil))))))))))))))
theorem ok_Lmoved {f : Addr} {fd : FuncData} (F : Fun K "_law_moved" "_law_moved" s_Lmoved f fd) {a_Lsplit : Addr} {d_Lsplit : FuncData} (G_Lsplit : FnOk P w K mg base CX0 2 a_Lsplit d_Lsplit ["packet", "edge", "line"] (spF K g_Lsplit)) (M_Lsplit : mg "_law_split" = some (.ref a_Lsplit)) (k_Lsplit : PySem.W.keepIn K (.ref a_Lsplit) = true) (b_Lsplit : Binds K d_Lsplit ["packet", "edge", "line"] []) {a_Lturned : Addr} {d_Lturned : FuncData} (G_Lturned : FnOk P w K mg base CX0 2 a_Lturned d_Lturned ["packet", "axis"] (spF K g_Lturned)) (M_Lturned : mg "_law_turned" = some (.ref a_Lturned)) (k_Lturned : PySem.W.keepIn K (.ref a_Lturned) = true) (b_Lturned : Binds K d_Lturned ["packet", "axis"] []) {a_Llaid : Addr} {d_Llaid : FuncData} (G_Llaid : FnOk P w K mg base CX0 1 a_Llaid d_Llaid ["part", "rest", "edge", "way"] (spF K g_Llaid)) (M_Llaid : mg "_law_laid" = some (.ref a_Llaid)) (k_Llaid : PySem.W.keepIn K (.ref a_Llaid) = true) (b_Llaid : Binds K d_Llaid ["part", "rest", "edge", "way"] []) : FnOk P w K mg base CX0 3 f fd ["packet", "step"] (spF K g_Lmoved) := by
  refine fn_ok (k := 2) (fB := f_Lmoved) (np := 2) (nN := 8) F sc_Lmoved rfl rfl rfl fun cdv A outer s H E hr => ?_
  have nd : N_Lmoved.Nodup := sc_Lmoved.nd
  exact ((cs_cons (cs_unp (ps_asg (ce_var (i := 1) (pv 1)) (cg_tup (is := [2, 3, 4, 5]) (pg_tup rfl (pgs_cons (pg_name (i := 2) nd rfl (by first | exact Or.inl rfl | exact Or.inr rfl)) (pgs_cons (pg_name (i := 3) nd rfl (by first | exact Or.inl rfl | exact Or.inr rfl)) (pgs_cons (pg_name (i := 4) nd rfl (by first | exact Or.inl rfl | exact Or.inr rfl)) (pgs_cons (pg_name (i := 5) nd rfl (by first | exact Or.inl rfl | exact Or.inr rfl)) pgs_nil))))))))
    (cs_cons (cs_unp (ps_asg (ce_call (c := true) (pe_call G_Lsplit (hr.mono (by decide)) (by rfl) M_Lsplit k_Lsplit b_Lsplit .nil pass0 (ca_cons (ce_var (i := 0) (pv 0)) (ca_cons (ce_var (i := 3) (pv 3)) (ca_cons (ce_var (i := 4) (pv 4)) ca_nil))))) (cg_tup (is := [6, 7]) (pg_tup rfl (pgs_cons (pg_name (i := 6) nd rfl (by first | exact Or.inl rfl | exact Or.inr rfl)) (pgs_cons (pg_name (i := 7) nd rfl (by first | exact Or.inl rfl | exact Or.inr rfl)) pgs_nil))))))
    (cs_cons (cs_if (ct_cmp (op_eqD hr.units) r2_eq (ce_var (i := 2) (pv 2)) ce_str (nomark _))
    (cs_one (cs_set (ps_set (i := 7) nd rfl (by first | exact Or.inl rfl | exact Or.inr rfl) (ce_call (c := true) (pe_call G_Lturned (hr.mono (by decide)) (by rfl) M_Lturned k_Lturned b_Lturned .nil pass0 (ca_cons (ce_var (i := 7) (pv 7)) (ca_cons (ce_if (ct_cmp (op_inT (hu65 hr)) r2_inT (ce_var (i := 3) (pv 3)) (ce_tup (ca_cons ce_str (ca_cons ce_str ca_nil))) (by rfl)) ce_str ce_str) ca_nil)))))))
    cs_nil)
    (cs_one (cs_ret (ce_call (c := true) (pe_call G_Llaid (hr.mono (by decide)) (by rfl) M_Llaid k_Llaid b_Llaid .nil pass0 (ca_cons (ce_var (i := 7) (pv 7)) (ca_cons (ce_var (i := 6) (pv 6)) (ca_cons (ce_var (i := 3) (pv 3)) (ca_cons (ce_var (i := 5) (pv 5)) ca_nil))))))))))))
theorem ok_Linside {f : Addr} {fd : FuncData} (F : Fun K "_law_inside" "_law_inside" s_Linside f fd)  : FnOk P w K mg base CX0 1 f fd ["packet", "edge", "line"] (spF K g_Linside) := by
  refine fn_ok (k := 0) (fB := f_Linside) (np := 3) (nN := 3) F sc_Linside rfl rfl rfl fun cdv A outer s H E hr => ?_
  have nd : N_Linside.Nodup := sc_Linside.nd
  exact ((cs_one (cs_ret (ce_cmp op_lt r2_B0 (ce_var (i := 2) (pv 2)) (ce_if (ct_cmp (op_inT (hu65 hr)) r2_inT (ce_var (i := 1) (pv 1)) (ce_tup (ca_cons ce_str (ca_cons ce_str ca_nil))) (by rfl)) (ce_ix (ce_var (i := 0) (pv 0)) ce_int (fun _ _ => rfl)) (ce_ix (ce_var (i := 0) (pv 0)) ce_int (fun _ _ => rfl))) (nomark _)))))
theorem ok_Ltuples {f : Addr} {fd : FuncData} (F : Fun K "_law_tuples" "_law_tuples" s_Ltuples f fd) (m_range : mg "range" = none) (m_tuple : mg "tuple" = none) : FnOk P w K mg base CX0 1 f fd ["packet"] (spF K g_Ltuples) := by
  refine fn_ok (k := 0) (fB := f_Ltuples) (np := 1) (nN := 7) F sc_Ltuples rfl rfl rfl fun cdv A outer s H E hr => ?_
  have nd : N_Ltuples.Nodup := sc_Ltuples.nd
  exact ((cs_cons (cs_unp (ps_asg (ce_var (i := 0) (pv 0)) (cg_tup (is := [1, 2, 3]) (pg_tup rfl (pgs_cons (pg_name (i := 1) nd rfl (by first | exact Or.inl rfl | exact Or.inr rfl)) (pgs_cons (pg_name (i := 2) nd rfl (by first | exact Or.inl rfl | exact Or.inr rfl)) (pgs_cons (pg_name (i := 3) nd rfl (by first | exact Or.inl rfl | exact Or.inr rfl)) pgs_nil)))))))
    (cs_cons (cs_own (ps_set (i := 4) nd rfl (by first | exact Or.inl rfl | exact Or.inr rfl) (cf_lst (c := true) ca_nil)))
    (cs_cons (cs_for PassesOwn.never (by rfl) (ci_r1 (pi_range1 (by rfl) m_range (ca_cons (ce_var (i := 1) (pv 1)) ca_nil))) (cg_name (pg_name (i := 5) nd rfl (by first | exact Or.inl rfl | exact Or.inr rfl)))
    (cs_one (cs_app (ps_expr (pe_bm PySem.F.plainAttrs_list PySem.F.slot_list_append PySem.F.type_list_append mt_append (pv 4) (pa_cons (ce_cb (c2 := true) cr_tup (pe_callTy call_tuple_of (by rfl) m_tuple (by decide +kernel) (ca_cons (ce_l (c := true) (cf_lc1 (c2 := true) (pe_lc (own := [("column", 6)]) (by rfl) nd (ci_r1 (pi_range1 (by rfl) m_range (ca_cons (ce_var (i := 2) (pv 2)) ca_nil))) (blkOk_by (own := [("column", 6)]) (N := N_Ltuples) (sc := defScope s_Ltuples) (by decide +kernel)) (fun _ _ _ _ _ => (cg_name (pg_name (i := 6) nd rfl (by first | exact Or.inl rfl | exact Or.inr rfl)))) (fun _ _ _ _ _ => pts_nil) (fun _ _ _ _ _ => (ce_cb (c2 := true) cr_tup (pe_callTy call_tuple_of (by rfl) m_tuple (by decide +kernel) (ca_cons (ce_ixU (hu1 hr) (ce_var (i := 3) (pv 3)) (ce_tup (ca_cons (ce_var (i := 5) (pv 5)) (ca_cons (ce_var (i := 6) (pv 6)) ca_nil))) (fun _ _ => rfl) (fun _ _ => rfl)) ca_nil))))))) ca_nil))) pa_nil))))))
    (cs_one (cs_ret (ce_tupO (i := 4) (pe_callTy call_tuple_of (by rfl) m_tuple (by decide +kernel) (pa_cons (pv 4) pa_nil)))))))))
theorem ok_Lstep {f : Addr} {fd : FuncData} (F : Fun K "_law_step" "_law_step" s_Lstep f fd)  : FnOk P w K mg base CX0 1 f fd ["draws"] (spF K g_Lstep) := by
  refine fn_ok (k := 0) (fB := f_Lstep) (np := 1) (nN := 3) F sc_Lstep rfl rfl rfl fun cdv A outer s H E hr => ?_
  have nd : N_Lstep.Nodup := sc_Lstep.nd
  exact ((cs_cons (cs_set (ps_set (i := 1) nd rfl (by first | exact Or.inl rfl | exact Or.inr rfl) (ce_ix (ce_l (c := true) (cf_lst (c := true) (ca_cons ce_str (ca_cons ce_str (ca_cons ce_str (ca_cons ce_str ca_nil)))))) (ce_mod (ce_ix (ce_var (i := 0) (pv 0)) ce_int (fun _ _ => rfl)) ce_int) (fun _ _ => rfl))))
    (cs_cons (cs_if (ct_cmp (op_eqD hr.units) r2_eq (ce_var (i := 1) (pv 1)) ce_str (nomark _))
    (cs_one (cs_ret (ce_tup (ca_cons ce_str (ca_cons (ce_ix (ce_l (c := true) (cf_lst (c := true) (ca_cons ce_str (ca_cons ce_str (ca_cons ce_str ca_nil))))) (ce_mod (ce_ix (ce_var (i := 0) (pv 0)) ce_int (fun _ _ => rfl)) ce_int) (fun _ _ => rfl)) ca_nil)))))
    cs_nil)
    (cs_cons (cs_set (ps_set (i := 2) nd rfl (by first | exact Or.inl rfl | exact Or.inr rfl) (ce_ix (ce_l (c := true) (cf_lst (c := true) (ca_cons ce_str (ca_cons ce_str (ca_cons ce_str (ca_cons ce_str ca_nil)))))) (ce_mod (ce_ix (ce_var (i := 0) (pv 0)) ce_int (fun _ _ => rfl)) ce_int) (fun _ _ => rfl))))
    (cs_one (cs_ret (ce_tup (ca_cons (ce_var (i := 1) (pv 1)) (ca_cons (ce_var (i := 2) (pv 2)) (ca_cons (ce_add ce_int (ce_mod (ce_ix (ce_var (i := 0) (pv 0)) ce_int (fun _ _ => rfl)) ce_int)) (ca_cons (ce_ix (ce_l (c := true) (cf_lst (c := true) (ca_cons ce_str (ca_cons ce_str ca_nil)))) (ce_mod (ce_ix (ce_var (i := 0) (pv 0)) ce_int (fun _ _ => rfl)) ce_int) (fun _ _ => rfl)) ca_nil)))))))))))
theorem ok_Lfinishing_steps {f : Addr} {fd : FuncData} (F : Fun K "_law_finishing_steps" "_law_finishing_steps" s_Lfinishing_steps f fd) {a_Ldraws : Addr} {d_Ldraws : FuncData} (G_Ldraws : FnOk P w K mg base CX0 1 a_Ldraws d_Ldraws ["cell", "count"] (spF K g_Ldraws)) (M_Ldraws : mg "_law_draws" = some (.ref a_Ldraws)) (k_Ldraws : PySem.W.keepIn K (.ref a_Ldraws) = true) (b_Ldraws : Binds K d_Ldraws ["cell", "count"] []) (m_len : mg "len" = none) (m_max : mg "max" = none) : FnOk P w K mg base CX0 2 f fd ["cell", "rows", "columns", "kinds"] (spF K g_Lfinishing_steps) := by
  refine fn_ok (k := 1) (fB := f_Lfinishing_steps) (np := 4) (nN := 13) F sc_Lfinishing_steps rfl rfl rfl fun cdv A outer s H E hr => ?_
  have nd : N_Lfinishing_steps.Nodup := sc_Lfinishing_steps.nd
  exact ((cs_cons (cs_set (ps_set (i := 4) nd rfl (by first | exact Or.inl rfl | exact Or.inr rfl) (ce_call (c := true) (pe_call G_Ldraws (hr.mono (by decide)) (by rfl) M_Ldraws k_Ldraws b_Ldraws .nil pass0 (ca_cons (ce_var (i := 0) (pv 0)) (ca_cons ce_int ca_nil))))))
    (cs_cons (cs_own (ps_set (i := 5) nd rfl (by first | exact Or.inl rfl | exact Or.inr rfl) (cf_lst (c := true) ca_nil)))
    (cs_cons (cs_set (ps_set (i := 6) nd rfl (by first | exact Or.inl rfl | exact Or.inr rfl) ce_int))
    (cs_cons (cs_while 6 PassesOwn.never (ct_cmp op_gt r2_B0 (ce_mul (ce_var (i := 1) (pv 1)) (ce_var (i := 2) (pv 2))) ce_int (nomark _))
    (cs_cons (cs_set (ps_set (i := 7) nd rfl (by first | exact Or.inl rfl | exact Or.inr rfl) (ce_ix (ce_var (i := 3) (pv 3)) (ce_mod (ce_ix (ce_var (i := 4) (pv 4)) (ce_var (i := 6) (pv 6)) (fun _ _ => rfl)) (ce_cb (c2 := true) cr_len (pe_callB call_len (by rfl) m_len boot_len (ca_cons (ce_var (i := 3) (pv 3)) ca_nil)))) (fun _ _ => rfl))))
    (cs_cons (cs_set (ps_set (i := 8) nd rfl (by first | exact Or.inl rfl | exact Or.inr rfl) (ce_ix (ce_l (c := true) (cf_lst (c := true) (ca_cons ce_str (ca_cons ce_str ca_nil)))) (ce_mod (ce_ix (ce_var (i := 4) (pv 4)) (ce_add (ce_var (i := 6) (pv 6)) ce_int) (fun _ _ => rfl)) ce_int) (fun _ _ => rfl))))
    (cs_cons (cs_set (ps_set (i := 9) nd rfl (by first | exact Or.inl rfl | exact Or.inr rfl) (ce_and (ce_cmp op_gt r2_B0 (ce_var (i := 2) (pv 2)) ce_int (nomark _)) (ce_one (ce_or (ce_cmp (op_eqD hr.units) r2_eq (ce_var (i := 1) (pv 1)) ce_int (nomark _)) (ce_one (ce_cmp (op_eqD hr.units) r2_eq (ce_mod (ce_ix (ce_var (i := 4) (pv 4)) (ce_add (ce_var (i := 6) (pv 6)) ce_int) (fun _ _ => rfl)) ce_int) ce_int (nomark _))))))))
    (cs_cons (cs_set (ps_set (i := 10) nd rfl (by first | exact Or.inl rfl | exact Or.inr rfl) (ce_if (ct_tru (ce_var (i := 9) (pv 9)) (by intro _; rfl)) (ce_var (i := 2) (pv 2)) (ce_var (i := 1) (pv 1)))))
    (cs_cons (cs_set (ps_set (i := 11) nd rfl (by first | exact Or.inl rfl | exact Or.inr rfl) (ce_add ce_int (ce_mod (ce_ix (ce_var (i := 4) (pv 4)) (ce_add (ce_var (i := 6) (pv 6)) ce_int) (fun _ _ => rfl)) (ce_sub (ce_var (i := 10) (pv 10)) ce_int)))))
    (cs_cons (cs_set (ps_set (i := 12) nd rfl (by first | exact Or.inl rfl | exact Or.inr rfl) (ce_if (ct_tru (ce_var (i := 9) (pv 9)) (by intro _; rfl)) (ce_l (c := true) (cf_lst (c := true) (ca_cons ce_str (ca_cons ce_str ca_nil)))) (ce_l (c := true) (cf_lst (c := true) (ca_cons ce_str (ca_cons ce_str ca_nil)))))))
    (cs_cons (cs_app (ps_expr (pe_bm PySem.F.plainAttrs_list PySem.F.slot_list_append PySem.F.type_list_append mt_append (pv 5) (pa_cons (ce_tup (ca_cons (ce_var (i := 7) (pv 7)) (ca_cons (ce_ix (ce_var (i := 12) (pv 12)) (ce_mod (ce_ix (ce_var (i := 4) (pv 4)) (ce_add (ce_var (i := 6) (pv 6)) ce_int) (fun _ _ => rfl)) ce_int) (fun _ _ => rfl)) (ca_cons (ce_var (i := 11) (pv 11)) (ca_cons (ce_var (i := 8) (pv 8)) ca_nil))))) pa_nil))))
    (cs_cons (cs_if (ct_cmp (op_eqD hr.units) r2_eq (ce_mod (ce_ix (ce_var (i := 4) (pv 4)) (ce_add (ce_var (i := 6) (pv 6)) ce_int) (fun _ _ => rfl)) ce_int) ce_int (nomark _))
    (cs_one (cs_app (ps_expr (pe_bm PySem.F.plainAttrs_list PySem.F.slot_list_append PySem.F.type_list_append mt_append (pv 5) (pa_cons (ce_tup (ca_cons ce_str (ca_cons (ce_ix (ce_l (c := true) (cf_lst (c := true) (ca_cons ce_str (ca_cons ce_str (ca_cons ce_str ca_nil))))) (ce_mod (ce_ix (ce_var (i := 4) (pv 4)) (ce_add (ce_var (i := 6) (pv 6)) ce_int) (fun _ _ => rfl)) ce_int) (fun _ _ => rfl)) ca_nil))) pa_nil)))))
    cs_nil)
    (cs_cons (cs_if (ct_tru (ce_var (i := 9) (pv 9)) (by intro _; rfl))
    (cs_one (cs_set (ps_set (i := 2) nd rfl (by first | exact Or.inl rfl | exact Or.inr rfl) (ce_cb (c2 := true) cr_mx2 (pe_callB (call_max2 rfl) (by rfl) m_max (by decide +kernel) (ca_cons (ce_var (i := 11) (pv 11)) (ca_cons (ce_sub (ce_var (i := 10) (pv 10)) (ce_var (i := 11) (pv 11))) ca_nil)))))))
    (cs_one (cs_set (ps_set (i := 1) nd rfl (by first | exact Or.inl rfl | exact Or.inr rfl) (ce_cb (c2 := true) cr_mx2 (pe_callB (call_max2 rfl) (by rfl) m_max (by decide +kernel) (ca_cons (ce_var (i := 11) (pv 11)) (ca_cons (ce_sub (ce_var (i := 10) (pv 10)) (ce_var (i := 11) (pv 11))) ca_nil))))))))
    (cs_one (cs_set (ps_set (i := 6) nd rfl (by first | exact Or.inl rfl | exact Or.inr rfl) (ce_add (ce_var (i := 6) (pv 6)) ce_int))))))))))))))
    (cs_one (cs_frz (i := 5) (cs_ret (ce_var (i := 5) (pv 5))))))))))
theorem ok_Lcomplete_plan {f : Addr} {fd : FuncData} (F : Fun K "_law_complete_plan" "_law_complete_plan" s_Lcomplete_plan f fd) {a_Lcell : Addr} {d_Lcell : FuncData} (G_Lcell : FnOk P w K mg base CX0 1 a_Lcell d_Lcell ["script", "k"] (spF K g_Lcell)) (M_Lcell : mg "_law_cell" = some (.ref a_Lcell)) (k_Lcell : PySem.W.keepIn K (.ref a_Lcell) = true) (b_Lcell : Binds K d_Lcell ["script", "k"] []) {a_Ldraws : Addr} {d_Ldraws : FuncData} (G_Ldraws : FnOk P w K mg base CX0 1 a_Ldraws d_Ldraws ["cell", "count"] (spF K g_Ldraws)) (M_Ldraws : mg "_law_draws" = some (.ref a_Ldraws)) (k_Ldraws : PySem.W.keepIn K (.ref a_Ldraws) = true) (b_Ldraws : Binds K d_Ldraws ["cell", "count"] []) {a_Lfinishing_steps : Addr} {d_Lfinishing_steps : FuncData} (G_Lfinishing_steps : FnOk P w K mg base CX0 2 a_Lfinishing_steps d_Lfinishing_steps ["cell", "rows", "columns", "kinds"] (spF K g_Lfinishing_steps)) (M_Lfinishing_steps : mg "_law_finishing_steps" = some (.ref a_Lfinishing_steps)) (k_Lfinishing_steps : PySem.W.keepIn K (.ref a_Lfinishing_steps) = true) (b_Lfinishing_steps : Binds K d_Lfinishing_steps ["cell", "rows", "columns", "kinds"] []) (m_range : mg "range" = none) : FnOk P w K mg base CX0 3 f fd ["script", "at", "kinds"] (spF K g_Lcomplete_plan) := by
  refine fn_ok (k := 2) (fB := f_Lcomplete_plan) (np := 3) (nN := 9) F sc_Lcomplete_plan rfl rfl rfl fun cdv A outer s H E hr => ?_
  have nd : N_Lcomplete_plan.Nodup := sc_Lcomplete_plan.nd
  exact ((cs_cons (cs_set (ps_set (i := 3) nd rfl (by first | exact Or.inl rfl | exact Or.inr rfl) (ce_add ce_int (ce_mod (ce_call (c := true) (pe_call G_Lcell (hr.mono (by decide)) (by rfl) M_Lcell k_Lcell b_Lcell .nil pass0 (ca_cons (ce_var (i := 0) (pv 0)) (ca_cons (ce_var (i := 1) (pv 1)) ca_nil)))) ce_int))))
    (cs_cons (cs_own (ps_set (i := 4) nd rfl (by first | exact Or.inl rfl | exact Or.inr rfl) (cf_lst (c := true) ca_nil)))
    (cs_cons (cs_for PassesOwn.never (by rfl) (ci_r1 (pi_range1 (by rfl) m_range (ca_cons (ce_var (i := 3) (pv 3)) ca_nil))) (cg_name (pg_name (i := 5) nd rfl (by first | exact Or.inl rfl | exact Or.inr rfl)))
    (cs_cons (cs_set (ps_set (i := 6) nd rfl (by first | exact Or.inl rfl | exact Or.inr rfl) (ce_call (c := true) (pe_call G_Ldraws (hr.mono (by decide)) (by rfl) M_Ldraws k_Ldraws b_Ldraws .nil pass0 (ca_cons (ce_call (c := true) (pe_call G_Lcell (hr.mono (by decide)) (by rfl) M_Lcell k_Lcell b_Lcell .nil pass0 (ca_cons (ce_var (i := 0) (pv 0)) (ca_cons (ce_add (ce_add (ce_var (i := 1) (pv 1)) ce_int) (ce_var (i := 5) (pv 5))) ca_nil)))) (ca_cons ce_int ca_nil))))))
    (cs_cons (cs_set (ps_set (i := 7) nd rfl (by first | exact Or.inl rfl | exact Or.inr rfl) (ce_add ce_int (ce_mod (ce_ix (ce_var (i := 6) (pv 6)) ce_int (fun _ _ => rfl)) ce_int))))
    (cs_cons (cs_set (ps_set (i := 8) nd rfl (by first | exact Or.inl rfl | exact Or.inr rfl) (ce_add ce_int (ce_mod (ce_ix (ce_var (i := 6) (pv 6)) ce_int (fun _ _ => rfl)) ce_int))))
    (cs_cons (cs_app (ps_expr (pe_bm PySem.F.plainAttrs_list PySem.F.slot_list_append PySem.F.type_list_append mt_append (pv 4) (pa_cons (ce_tup (ca_cons ce_str (ca_cons (ce_var (i := 7) (pv 7)) (ca_cons (ce_var (i := 8) (pv 8)) ca_nil)))) pa_nil))))
    (cs_one (cs_frz (i := 4) (cs_own (ps_set (i := 4) nd rfl (by first | exact Or.inl rfl | exact Or.inr rfl) (cf_cat (c := true) (ce_var (i := 4) (pv 4)) (ce_call (c := true) (pe_call G_Lfinishing_steps (hr.mono (by decide)) (by rfl) M_Lfinishing_steps k_Lfinishing_steps b_Lfinishing_steps .nil pass0 (ca_cons (ce_call (c := true) (pe_call G_Lcell (hr.mono (by decide)) (by rfl) M_Lcell k_Lcell b_Lcell .nil pass0 (ca_cons (ce_var (i := 0) (pv 0)) (ca_cons (ce_add (ce_add (ce_var (i := 1) (pv 1)) ce_int) (ce_var (i := 5) (pv 5))) ca_nil)))) (ca_cons (ce_var (i := 7) (pv 7)) (ca_cons (ce_var (i := 8) (pv 8)) (ca_cons (ce_var (i := 2) (pv 2)) ca_nil))))))))))))))))
    (cs_one (cs_frz (i := 4) (cs_ret (ce_if (ct_cmp (op_eqD hr.units) r2_eq (ce_var (i := 3) (pv 3)) ce_int (nomark _)) (ce_l (c := true) (cf_cat (c := true) (ce_var (i := 4) (pv 4)) (ce_l (c := true) (cf_lst (c := true) (ca_cons (ce_tup (ca_cons ce_str (ca_cons ce_int ca_nil))) ca_nil))))) (ce_var (i := 4) (pv 4))))))))))
theorem ok_Lpiled {f : Addr} {fd : FuncData} (F : Fun K "_law_piled" "_law_piled" s_Lpiled f fd)  : FnOk P w K mg base CX0 1 f fd ["upper", "lower"] (spF K g_Lpiled) := by
  refine fn_ok (k := 0) (fB := f_Lpiled) (np := 2) (nN := 4) F sc_Lpiled rfl rfl rfl fun cdv A outer s H E hr => ?_
  have nd : N_Lpiled.Nodup := sc_Lpiled.nd
  exact ((cs_cons (cs_newT (ps_set (i := 2) nd rfl (by first | exact Or.inl rfl | exact Or.inr rfl) pe_dnewT))
    (cs_cons (cs_for PassesOwn.never (by rfl) (ci_seqU (ce_ixU (hu1 hr) (ce_var (i := 0) (pv 0)) ce_int (fun _ _ => rfl) (fun _ _ => rfl))) (cg_name (pg_name (i := 3) nd rfl (by first | exact Or.inl rfl | exact Or.inr rfl)))
    (cs_one (cs_putD (c := true) (i := 2) (ps_dput (hu1 hr) (pv 2) (ce_var (i := 3) (pv 3)) (ce_add (ce_ixU (hu1 hr) (ce_ixU (hu1 hr) (ce_var (i := 0) (pv 0)) ce_int (fun _ _ => rfl) (fun _ _ => rfl)) (ce_var (i := 3) (pv 3)) (fun _ _ => rfl) (fun _ _ => rfl)) (ce_ixU (hu1 hr) (ce_ixU (hu1 hr) (ce_var (i := 1) (pv 1)) ce_int (fun _ _ => rfl) (fun _ _ => rfl)) (ce_var (i := 3) (pv 3)) (fun _ _ => rfl) (fun _ _ => rfl))) (by rfl)))))
    (cs_one (cs_frzD (i := 2) (cs_ret (ce_tup (ca_cons (ce_ixU (hu1 hr) (ce_var (i := 0) (pv 0)) ce_int (fun _ _ => rfl) (fun _ _ => rfl)) (ca_cons (ce_ixU (hu1 hr) (ce_var (i := 0) (pv 0)) ce_int (fun _ _ => rfl) (fun _ _ => rfl)) (ca_cons (ce_var (i := 2) (pv 2)) ca_nil))))))))))
theorem ok_Lperformed {f : Addr} {fd : FuncData} (F : Fun K "_law_performed" "_law_performed" s_Lperformed f fd) {a_Lsheet : Addr} {d_Lsheet : FuncData} (G_Lsheet : FnOk P w K mg base CX0 1 a_Lsheet d_Lsheet ["sheet", "rows", "columns"] (spF K g_Lsheet)) (M_Lsheet : mg "_law_sheet" = some (.ref a_Lsheet)) (k_Lsheet : PySem.W.keepIn K (.ref a_Lsheet) = true) (b_Lsheet : Binds K d_Lsheet ["sheet", "rows", "columns"] []) {a_Lpiled : Addr} {d_Lpiled : FuncData} (G_Lpiled : FnOk P w K mg base CX0 1 a_Lpiled d_Lpiled ["upper", "lower"] (spF K g_Lpiled)) (M_Lpiled : mg "_law_piled" = some (.ref a_Lpiled)) (k_Lpiled : PySem.W.keepIn K (.ref a_Lpiled) = true) (b_Lpiled : Binds K d_Lpiled ["upper", "lower"] []) {a_Lturned : Addr} {d_Lturned : FuncData} (G_Lturned : FnOk P w K mg base CX0 2 a_Lturned d_Lturned ["packet", "axis"] (spF K g_Lturned)) (M_Lturned : mg "_law_turned" = some (.ref a_Lturned)) (k_Lturned : PySem.W.keepIn K (.ref a_Lturned) = true) (b_Lturned : Binds K d_Lturned ["packet", "axis"] []) {a_Linside : Addr} {d_Linside : FuncData} (G_Linside : FnOk P w K mg base CX0 1 a_Linside d_Linside ["packet", "edge", "line"] (spF K g_Linside)) (M_Linside : mg "_law_inside" = some (.ref a_Linside)) (k_Linside : PySem.W.keepIn K (.ref a_Linside) = true) (b_Linside : Binds K d_Linside ["packet", "edge", "line"] []) {a_Lsplit : Addr} {d_Lsplit : FuncData} (G_Lsplit : FnOk P w K mg base CX0 2 a_Lsplit d_Lsplit ["packet", "edge", "line"] (spF K g_Lsplit)) (M_Lsplit : mg "_law_split" = some (.ref a_Lsplit)) (k_Lsplit : PySem.W.keepIn K (.ref a_Lsplit) = true) (b_Lsplit : Binds K d_Lsplit ["packet", "edge", "line"] []) {a_Lmoved : Addr} {d_Lmoved : FuncData} (G_Lmoved : FnOk P w K mg base CX0 3 a_Lmoved d_Lmoved ["packet", "step"] (spF K g_Lmoved)) (M_Lmoved : mg "_law_moved" = some (.ref a_Lmoved)) (k_Lmoved : PySem.W.keepIn K (.ref a_Lmoved) = true) (b_Lmoved : Binds K d_Lmoved ["packet", "step"] []) (m_len : mg "len" = none) : FnOk P w K mg base CX0 4 f fd ["packets", "sheets", "step"] (spF K g_Lperformed) := by
  refine fn_ok (k := 3) (fB := f_Lperformed) (np := 3) (nN := 9) F sc_Lperformed rfl rfl rfl fun cdv A outer s H E hr => ?_
  have nd : N_Lperformed.Nodup := sc_Lperformed.nd
  exact ((cs_cons (cs_set (ps_set (i := 3) nd rfl (by first | exact Or.inl rfl | exact Or.inr rfl) (ce_ix (ce_var (i := 2) (pv 2)) ce_int (fun _ _ => rfl))))
    (cs_cons (cs_if (ct_cmp (op_eqD hr.units) r2_eq (ce_var (i := 3) (pv 3)) ce_str (nomark _))
    (cs_one (cs_ret (ce_l (c := true) (cf_cat (c := true) (ce_var (i := 0) (pv 0)) (ce_l (c := true) (cf_lst (c := true) (ca_cons (ce_call (c := true) (pe_call G_Lsheet (hr.mono (by decide)) (by rfl) M_Lsheet k_Lsheet b_Lsheet .nil pass0 (ca_cons (ce_var (i := 1) (pv 1)) (ca_cons (ce_ix (ce_var (i := 2) (pv 2)) ce_int (fun _ _ => rfl)) (ca_cons (ce_ix (ce_var (i := 2) (pv 2)) ce_int (fun _ _ => rfl)) ca_nil))))) ca_nil)))))))
    cs_nil)
    (cs_cons (cs_if (ct_cmp (op_eqD hr.units) r2_eq (ce_var (i := 3) (pv 3)) ce_str (nomark _))
    (cs_cons (cs_if (ct_cmp op_ge r2_B0 (ce_ix (ce_var (i := 2) (pv 2)) ce_int (fun _ _ => rfl)) (ce_cb (c2 := true) cr_len (pe_callB call_len (by rfl) m_len boot_len (ca_cons (ce_var (i := 0) (pv 0)) ca_nil))) (nomark _))
    (cs_one (cs_ret ce_str))
    cs_nil)
    (cs_one (cs_ret (ce_l (c := true) (cf_cat (c := true) (ce_add (ce_sl (ce_var (i := 0) (pv 0)) co_none (co_some (ce_ix (ce_var (i := 2) (pv 2)) ce_int (fun _ _ => rfl)))) (ce_sl (ce_var (i := 0) (pv 0)) (co_some (ce_add (ce_ix (ce_var (i := 2) (pv 2)) ce_int (fun _ _ => rfl)) ce_int)) co_none)) (ce_l (c := true) (cf_lst (c := true) (ca_cons (ce_ix (ce_var (i := 0) (pv 0)) (ce_ix (ce_var (i := 2) (pv 2)) ce_int (fun _ _ => rfl)) (fun _ _ => rfl)) ca_nil))))))))
    cs_nil)
    (cs_cons (cs_if (ct_cmp (op_eqD hr.units) r2_eq (ce_var (i := 3) (pv 3)) ce_str (nomark _))
    (cs_cons (cs_if (ct_cmp op_gt r2_B0 (ce_ix (ce_var (i := 2) (pv 2)) ce_int (fun _ _ => rfl)) (ce_cb (c2 := true) cr_len (pe_callB call_len (by rfl) m_len boot_len (ca_cons (ce_var (i := 0) (pv 0)) ca_nil))) (nomark _))
    (cs_one (cs_ret ce_str))
    cs_nil)
    (cs_cons (cs_set (ps_set (i := 4) nd rfl (by first | exact Or.inl rfl | exact Or.inr rfl) (ce_sl (ce_var (i := 0) (pv 0)) (co_some (ce_sub (ce_cb (c2 := true) cr_len (pe_callB call_len (by rfl) m_len boot_len (ca_cons (ce_var (i := 0) (pv 0)) ca_nil))) (ce_ix (ce_var (i := 2) (pv 2)) ce_int (fun _ _ => rfl)))) co_none)))
    (cs_cons (cs_set (ps_set (i := 5) nd rfl (by first | exact Or.inl rfl | exact Or.inr rfl) (ce_ix (ce_var (i := 4) (pv 4)) ce_int (fun _ _ => rfl))))
    (cs_cons (cs_for PassesOwn.never (by rfl) (ci_seq (ce_sl (ce_var (i := 4) (pv 4)) (co_some ce_int) co_none)) (cg_name (pg_name (i := 6) nd rfl (by first | exact Or.inl rfl | exact Or.inr rfl)))
    (cs_cons (cs_if (ct_cmp (op_neD hr.units) r2_ne (ce_sl (ce_var (i := 6) (pv 6)) co_none (co_some ce_int)) (ce_sl (ce_var (i := 5) (pv 5)) co_none (co_some ce_int)) (nomark _))
    (cs_one (cs_ret ce_str))
    cs_nil)
    (cs_one (cs_set (ps_set (i := 5) nd rfl (by first | exact Or.inl rfl | exact Or.inr rfl) (ce_call (c := true) (pe_call G_Lpiled (hr.mono (by decide)) (by rfl) M_Lpiled k_Lpiled b_Lpiled .nil pass0 (ca_cons (ce_var (i := 5) (pv 5)) (ca_cons (ce_var (i := 6) (pv 6)) ca_nil)))))))))
    (cs_one (cs_ret (ce_l (c := true) (cf_cat (c := true) (ce_sl (ce_var (i := 0) (pv 0)) co_none (co_some (ce_sub (ce_cb (c2 := true) cr_len (pe_callB call_len (by rfl) m_len boot_len (ca_cons (ce_var (i := 0) (pv 0)) ca_nil))) (ce_ix (ce_var (i := 2) (pv 2)) ce_int (fun _ _ => rfl))))) (ce_l (c := true) (cf_lst (c := true) (ca_cons (ce_var (i := 5) (pv 5)) ca_nil)))))))))))
    cs_nil)
    (cs_cons (cs_if (ct_cmp (op_eqD hr.units) r2_eq (ce_cb (c2 := true) cr_len (pe_callB call_len (by rfl) m_len boot_len (ca_cons (ce_var (i := 0) (pv 0)) ca_nil))) ce_int (nomark _))
    (cs_one (cs_ret ce_str))
    cs_nil)
    (cs_cons (cs_if (ct_cmp (op_eqD hr.units) r2_eq (ce_var (i := 3) (pv 3)) ce_str (nomark _))
    (cs_one (cs_ret (ce_l (c := true) (cf_cat (c := true) (ce_sl (ce_var (i := 0) (pv 0)) co_none (co_some (ce_neg ce_int))) (ce_l (c := true) (cf_lst (c := true) (ca_cons (ce_call (c := true) (pe_call G_Lturned (hr.mono (by decide)) (by rfl) M_Lturned k_Lturned b_Lturned .nil pass0 (ca_cons (ce_ix (ce_var (i := 0) (pv 0)) (ce_neg ce_int) (fun _ _ => rfl)) (ca_cons (ce_ix (ce_var (i := 2) (pv 2)) ce_int (fun _ _ => rfl)) ca_nil)))) ca_nil)))))))
    cs_nil)
    (cs_cons (cs_if (ct_not (ct_tru (ce_call (c := true) (pe_call G_Linside (hr.mono (by decide)) (by rfl) M_Linside k_Linside b_Linside .nil pass0 (ca_cons (ce_ix (ce_var (i := 0) (pv 0)) (ce_neg ce_int) (fun _ _ => rfl)) (ca_cons (ce_ix (ce_var (i := 2) (pv 2)) ce_int (fun _ _ => rfl)) (ca_cons (ce_ix (ce_var (i := 2) (pv 2)) ce_int (fun _ _ => rfl)) ca_nil))))) (by intro _; rfl)))
    (cs_one (cs_ret ce_str))
    cs_nil)
    (cs_cons (cs_if (ct_cmp (op_eqD hr.units) r2_eq (ce_var (i := 3) (pv 3)) ce_str (nomark _))
    (cs_cons (cs_unp (ps_asg (ce_call (c := true) (pe_call G_Lsplit (hr.mono (by decide)) (by rfl) M_Lsplit k_Lsplit b_Lsplit .nil pass0 (ca_cons (ce_ix (ce_var (i := 0) (pv 0)) (ce_neg ce_int) (fun _ _ => rfl)) (ca_cons (ce_ix (ce_var (i := 2) (pv 2)) ce_int (fun _ _ => rfl)) (ca_cons (ce_ix (ce_var (i := 2) (pv 2)) ce_int (fun _ _ => rfl)) ca_nil))))) (cg_tup (is := [7, 8]) (pg_tup rfl (pgs_cons (pg_name (i := 7) nd rfl (by first | exact Or.inl rfl | exact Or.inr rfl)) (pgs_cons (pg_name (i := 8) nd rfl (by first | exact Or.inl rfl | exact Or.inr rfl)) pgs_nil))))))
    (cs_one (cs_ret (ce_l (c := true) (cf_cat (c := true) (ce_sl (ce_var (i := 0) (pv 0)) co_none (co_some (ce_neg ce_int))) (ce_l (c := true) (cf_lst (c := true) (ca_cons (ce_var (i := 7) (pv 7)) (ca_cons (ce_var (i := 8) (pv 8)) ca_nil)))))))))
    cs_nil)
    (cs_one (cs_ret (ce_l (c := true) (cf_cat (c := true) (ce_sl (ce_var (i := 0) (pv 0)) co_none (co_some (ce_neg ce_int))) (ce_l (c := true) (cf_lst (c := true) (ca_cons (ce_call (c := true) (pe_call G_Lmoved (hr.mono (by decide)) (by rfl) M_Lmoved k_Lmoved b_Lmoved .nil pass0 (ca_cons (ce_ix (ce_var (i := 0) (pv 0)) (ce_neg ce_int) (fun _ _ => rfl)) (ca_cons (ce_var (i := 2) (pv 2)) ca_nil)))) ca_nil))))))))))))))))
theorem ok_Lcarried {f : Addr} {fd : FuncData} (F : Fun K "_law_carried" "_law_carried" s_Lcarried f fd) {a_Lperformed : Addr} {d_Lperformed : FuncData} (G_Lperformed : FnOk P w K mg base CX0 4 a_Lperformed d_Lperformed ["packets", "sheets", "step"] (spF K g_Lperformed)) (M_Lperformed : mg "_law_performed" = some (.ref a_Lperformed)) (k_Lperformed : PySem.W.keepIn K (.ref a_Lperformed) = true) (b_Lperformed : Binds K d_Lperformed ["packets", "sheets", "step"] []) (m_isinstance : mg "isinstance" = none) (m_str : mg "str" = none) (m_int : mg "int" = none) : FnOk P w K mg base CX0 5 f fd ["plan"] (spF K g_Lcarried) := by
  refine fn_ok (k := 4) (fB := f_Lcarried) (np := 1) (nN := 4) F sc_Lcarried rfl rfl rfl fun cdv A outer s H E hr => ?_
  have nd : N_Lcarried.Nodup := sc_Lcarried.nd
  exact ((cs_cons (cs_set (ps_set (i := 1) nd rfl (by first | exact Or.inl rfl | exact Or.inr rfl) (ce_l (c := true) (cf_lst (c := true) ca_nil))))
    (cs_cons (cs_set (ps_set (i := 2) nd rfl (by first | exact Or.inl rfl | exact Or.inr rfl) ce_int))
    (cs_cons (cs_for PassesOwn.never (by rfl) (ci_seq (ce_var (i := 0) (pv 0))) (cg_name (pg_name (i := 3) nd rfl (by first | exact Or.inl rfl | exact Or.inr rfl)))
    (cs_cons (cs_set (ps_set (i := 1) nd rfl (by first | exact Or.inl rfl | exact Or.inr rfl) (ce_call (c := true) (pe_call G_Lperformed (hr.mono (by decide)) (by rfl) M_Lperformed k_Lperformed b_Lperformed .nil pass0 (ca_cons (ce_var (i := 1) (pv 1)) (ca_cons (ce_var (i := 2) (pv 2)) (ca_cons (ce_var (i := 3) (pv 3)) ca_nil)))))))
    (cs_cons (cs_if (ct_val (ce_isi (T := "str") (pe_callB call_isi (by rfl) m_isinstance (by decide +kernel) (pa_cons (ce_var (i := 1) (pv 1)) (pa_cons (pe_bltn (v := .ty "str") (by rfl) m_str (by decide +kernel) rfl) pa_nil)))))
    (cs_one (cs_ret (ce_var (i := 1) (pv 1))))
    cs_nil)
    (cs_one (cs_set (ps_set (i := 2) nd rfl (by first | exact Or.inl rfl | exact Or.inr rfl) (ce_add (ce_var (i := 2) (pv 2)) (ce_cb (c2 := true) cr_int (pe_callTy call_int1 (by rfl) m_int (by decide +kernel) (ca_cons (ce_cmp (op_eqD hr.units) r2_eq (ce_ix (ce_var (i := 3) (pv 3)) ce_int (fun _ _ => rfl)) ce_str (nomark _)) ca_nil))))))))))
    (cs_one (cs_ret (ce_var (i := 1) (pv 1))))))))
theorem ok_Lsheets {f : Addr} {fd : FuncData} (F : Fun K "_law_sheets" "_law_sheets" s_Lsheets f fd)  : FnOk P w K mg base CX0 1 f fd ["plan"] (spF K g_Lsheets) := by
  refine fn_ok (k := 0) (fB := f_Lsheets) (np := 1) (nN := 2) F sc_Lsheets rfl rfl rfl fun cdv A outer s H E hr => ?_
  have nd : N_Lsheets.Nodup := sc_Lsheets.nd
  exact ((cs_one (cs_ret (ce_l (c := true) (cf_lc (c2 := true) (pe_lc (own := [("step", 1)]) (by rfl) nd (ci_seq (ce_var (i := 0) (pv 0))) (blkOk_by (own := [("step", 1)]) (N := N_Lsheets) (sc := defScope s_Lsheets) (by decide +kernel)) (fun _ _ _ _ _ => (cg_name (pg_name (i := 1) nd rfl (by first | exact Or.inl rfl | exact Or.inr rfl)))) (fun _ _ _ _ _ => (pts_one (ct_cmp (op_eqD hr.units) r2_eq (ce_ix (ce_var (i := 1) (pv 1)) ce_int (fun _ _ => rfl)) ce_str (nomark _)))) (fun _ _ _ _ _ => (ce_sl (ce_var (i := 1) (pv 1)) (co_some ce_int) co_none))))))))
theorem ok_Lany_step {f : Addr} {fd : FuncData} (F : Fun K "_law_any_step" "_law_any_step" s_Lany_step f fd) {a_Ldraws : Addr} {d_Ldraws : FuncData} (G_Ldraws : FnOk P w K mg base CX0 1 a_Ldraws d_Ldraws ["cell", "count"] (spF K g_Ldraws)) (M_Ldraws : mg "_law_draws" = some (.ref a_Ldraws)) (k_Ldraws : PySem.W.keepIn K (.ref a_Ldraws) = true) (b_Ldraws : Binds K d_Ldraws ["cell", "count"] []) {a_Lstep : Addr} {d_Lstep : FuncData} (G_Lstep : FnOk P w K mg base CX0 1 a_Lstep d_Lstep ["draws"] (spF K g_Lstep)) (M_Lstep : mg "_law_step" = some (.ref a_Lstep)) (k_Lstep : PySem.W.keepIn K (.ref a_Lstep) = true) (b_Lstep : Binds K d_Lstep ["draws"] []) : FnOk P w K mg base CX0 2 f fd ["cell"] (spF K g_Lany_step) := by
  refine fn_ok (k := 1) (fB := f_Lany_step) (np := 1) (nN := 3) F sc_Lany_step rfl rfl rfl fun cdv A outer s H E hr => ?_
  have nd : N_Lany_step.Nodup := sc_Lany_step.nd
  exact ((cs_cons (cs_set (ps_set (i := 1) nd rfl (by first | exact Or.inl rfl | exact Or.inr rfl) (ce_call (c := true) (pe_call G_Ldraws (hr.mono (by decide)) (by rfl) M_Ldraws k_Ldraws b_Ldraws .nil pass0 (ca_cons (ce_var (i := 0) (pv 0)) (ca_cons ce_int ca_nil))))))
    (cs_cons (cs_set (ps_set (i := 2) nd rfl (by first | exact Or.inl rfl | exact Or.inr rfl) (ce_mod (ce_ix (ce_var (i := 1) (pv 1)) ce_int (fun _ _ => rfl)) ce_int)))
    (cs_cons (cs_if (ct_cmp op_lt r2_B0 (ce_var (i := 2) (pv 2)) ce_int (nomark _))
    (cs_cons (cs_if (ct_cmp (op_eqD hr.units) r2_eq (ce_mod (ce_ix (ce_var (i := 1) (pv 1)) ce_int (fun _ _ => rfl)) ce_int) ce_int (nomark _))
    (cs_one (cs_ret (ce_tup (ca_cons ce_str (ca_cons (ce_add ce_int (ce_mod (ce_ix (ce_var (i := 1) (pv 1)) ce_int (fun _ _ => rfl)) ce_int)) (ca_cons (ce_add ce_int (ce_mod (ce_ix (ce_var (i := 1) (pv 1)) ce_int (fun _ _ => rfl)) ce_int)) ca_nil))))))
    cs_nil)
    (cs_one (cs_ret (ce_tup (ca_cons ce_str (ca_cons (ce_add ce_int (ce_mod (ce_ix (ce_var (i := 1) (pv 1)) ce_int (fun _ _ => rfl)) ce_int)) (ca_cons (ce_add ce_int (ce_mod (ce_ix (ce_var (i := 1) (pv 1)) ce_int (fun _ _ => rfl)) ce_int)) ca_nil)))))))
    cs_nil)
    (cs_cons (cs_if (ct_cmp (op_eqD hr.units) r2_eq (ce_var (i := 2) (pv 2)) ce_int (nomark _))
    (cs_one (cs_ret (ce_tup (ca_cons ce_str (ca_cons (ce_mod (ce_ix (ce_var (i := 1) (pv 1)) ce_int (fun _ _ => rfl)) ce_int) ca_nil)))))
    cs_nil)
    (cs_cons (cs_if (ct_cmp (op_eqD hr.units) r2_eq (ce_var (i := 2) (pv 2)) ce_int (nomark _))
    (cs_one (cs_ret (ce_tup (ca_cons ce_str (ca_cons (ce_add ce_int (ce_mod (ce_ix (ce_var (i := 1) (pv 1)) ce_int (fun _ _ => rfl)) ce_int)) ca_nil)))))
    cs_nil)
    (cs_cons (cs_if (ct_cmp (op_eqD hr.units) r2_eq (ce_var (i := 2) (pv 2)) ce_int (nomark _))
    (cs_one (cs_ret (ce_tup (ca_cons ce_str (ca_cons (ce_ix (ce_l (c := true) (cf_lst (c := true) (ca_cons ce_str (ca_cons ce_str (ca_cons ce_str (ca_cons ce_str ca_nil)))))) (ce_mod (ce_ix (ce_var (i := 1) (pv 1)) ce_int (fun _ _ => rfl)) ce_int) (fun _ _ => rfl)) (ca_cons (ce_add ce_int (ce_mod (ce_ix (ce_var (i := 1) (pv 1)) ce_int (fun _ _ => rfl)) ce_int)) ca_nil))))))
    cs_nil)
    (cs_one (cs_ret (ce_call (c := true) (pe_call G_Lstep (hr.mono (by decide)) (by rfl) M_Lstep k_Lstep b_Lstep .nil pass0 (ca_cons (ce_var (i := 1) (pv 1)) ca_nil))))))))))))
theorem ok_Lasked__evaluate {f : Addr} {fd : FuncData} (F : Fun K "_law_asked" "_law_asked" s_Lasked__evaluate f fd) {C fI : Addr} (T : PySem.RfX.RfTxt P K mg C fI) {a_evaluate : Addr} {d_evaluate : FuncData} (G_evaluate : FnOk P w K mg base (L2.CX P w) 16 a_evaluate d_evaluate ["plan"] (spX K C g_evaluate)) (M_evaluate : mg "evaluate" = some (.ref a_evaluate)) (k_evaluate : PySem.W.keepIn K (.ref a_evaluate) = true) (b_evaluate : Binds K d_evaluate ["plan"] []) : FnOk P w K mg base CX0 18 f fd ["function", "plan"] (sp1 a_evaluate (spF K g_Lasked__evaluate)) := by
  refine fn_imp1 (fn_ok1 (k := 17) (fB := f_Lasked__evaluate a_evaluate) (np := 1) (nN := 3) F sc_Lasked__evaluate rfl rfl (by decide) rfl fun cdv A outer s H E hr => ?_)
  have nd : N_Lasked__evaluate.Nodup := sc_Lasked__evaluate.nd
  exact ((cs_one (cs_tryAs (i := 2) (body := (y_Lasked__evaluate_1 a_evaluate)) (suite := (u_Lasked__evaluate_1 a_evaluate)) (Wout := fun _ _ _ _ => False) T (ps_try_as (i := 2) (tb := fun W => tSX _ C W (y_Lasked__evaluate_1 a_evaluate)) (ts := tsE _ C (u_Lasked__evaluate_1 a_evaluate)) (Wout := fun _ _ _ _ => False) rfl rfl nd rfl rfl ⟨rfl, by decide, Or.inl T.gC⟩ takes0 (fun W pn xe tk po => (sx_one (sx_ret (xe_callF (c := true) (pe_callLS (i := 0) G_evaluate (hr.mono (by decide)) (by rfl) (by exact Or.inl rfl) k_evaluate b_evaluate (fun σ => passAt tk σ) (xa_ok (ca_cons (ce_var (i := 1) (pv 1)) ca_nil)))))))
    (fun a oe cls d pn hz hf => pss_ex fun dd hh => (cs_one (cs_ret (ce_what (i := 2) T hz hf hh.1 hh.2 (pv 2)))))))))
theorem ok_Lasked__is_complete {f : Addr} {fd : FuncData} (F : Fun K "_law_asked" "_law_asked" s_Lasked__is_complete f fd) {C fI : Addr} (T : PySem.RfX.RfTxt P K mg C fI) {a_is_complete : Addr} {d_is_complete : FuncData} (G_is_complete : FnOk P w K mg base (L2.CX P w) 16 a_is_complete d_is_complete ["plan"] (spX K C g_is_complete)) (M_is_complete : mg "is_complete" = some (.ref a_is_complete)) (k_is_complete : PySem.W.keepIn K (.ref a_is_complete) = true) (b_is_complete : Binds K d_is_complete ["plan"] []) : FnOk P w K mg base CX0 18 f fd ["function", "plan"] (sp1 a_is_complete (spF K g_Lasked__is_complete)) := by
  refine fn_imp1 (fn_ok1 (k := 17) (fB := f_Lasked__is_complete a_is_complete) (np := 1) (nN := 3) F sc_Lasked__is_complete rfl rfl (by decide) rfl fun cdv A outer s H E hr => ?_)
  have nd : N_Lasked__is_complete.Nodup := sc_Lasked__is_complete.nd
  exact ((cs_one (cs_tryAs (i := 2) (body := (y_Lasked__is_complete_1 a_is_complete)) (suite := (u_Lasked__is_complete_1 a_is_complete)) (Wout := fun _ _ _ _ => False) T (ps_try_as (i := 2) (tb := fun W => tSX _ C W (y_Lasked__is_complete_1 a_is_complete)) (ts := tsE _ C (u_Lasked__is_complete_1 a_is_complete)) (Wout := fun _ _ _ _ => False) rfl rfl nd rfl rfl ⟨rfl, by decide, Or.inl T.gC⟩ takes0 (fun W pn xe tk po => (sx_one (sx_ret (xe_callF (c := true) (pe_callLS (i := 0) G_is_complete (hr.mono (by decide)) (by rfl) (by exact Or.inl rfl) k_is_complete b_is_complete (fun σ => passAt tk σ) (xa_ok (ca_cons (ce_var (i := 1) (pv 1)) ca_nil)))))))
    (fun a oe cls d pn hz hf => pss_ex fun dd hh => (cs_one (cs_ret (ce_what (i := 2) T hz hf hh.1 hh.2 (pv 2)))))))))
theorem ok_Lasked__leaf_order {f : Addr} {fd : FuncData} (F : Fun K "_law_asked" "_law_asked" s_Lasked__leaf_order f fd) {C fI : Addr} (T : PySem.RfX.RfTxt P K mg C fI) {a_leaf_order : Addr} {d_leaf_order : FuncData} (G_leaf_order : FnOk P w K mg base (L2.CX P w) 18 a_leaf_order d_leaf_order ["plan"] (spX K C g_leaf_order)) (M_leaf_order : mg "leaf_order" = some (.ref a_leaf_order)) (k_leaf_order : PySem.W.keepIn K (.ref a_leaf_order) = true) (b_leaf_order : Binds K d_leaf_order ["plan"] []) : FnOk P w K mg base CX0 20 f fd ["function", "plan"] (sp1 a_leaf_order (spF K g_Lasked__leaf_order)) := by
  refine fn_imp1 (fn_ok1 (k := 19) (fB := f_Lasked__leaf_order a_leaf_order) (np := 1) (nN := 3) F sc_Lasked__leaf_order rfl rfl (by decide) rfl fun cdv A outer s H E hr => ?_)
  have nd : N_Lasked__leaf_order.Nodup := sc_Lasked__leaf_order.nd
  exact ((cs_one (cs_tryAs (i := 2) (body := (y_Lasked__leaf_order_1 a_leaf_order)) (suite := (u_Lasked__leaf_order_1 a_leaf_order)) (Wout := fun _ _ _ _ => False) T (ps_try_as (i := 2) (tb := fun W => tSX _ C W (y_Lasked__leaf_order_1 a_leaf_order)) (ts := tsE _ C (u_Lasked__leaf_order_1 a_leaf_order)) (Wout := fun _ _ _ _ => False) rfl rfl nd rfl rfl ⟨rfl, by decide, Or.inl T.gC⟩ takes0 (fun W pn xe tk po => (sx_one (sx_ret (xe_callF (c := true) (pe_callLS (i := 0) G_leaf_order (hr.mono (by decide)) (by rfl) (by exact Or.inl rfl) k_leaf_order b_leaf_order (fun σ => passAt tk σ) (xa_ok (ca_cons (ce_var (i := 1) (pv 1)) ca_nil)))))))
    (fun a oe cls d pn hz hf => pss_ex fun dd hh => (cs_one (cs_ret (ce_what (i := 2) T hz hf hh.1 hh.2 (pv 2)))))))))
theorem ok_law {f : Addr} {fd : FuncData} (F : Fun K "law" "law" s_law f fd) {C fI : Addr} (T : PySem.RfX.RfTxt P K mg C fI) {a_Lcell : Addr} {d_Lcell : FuncData} (G_Lcell : FnOk P w K mg base CX0 1 a_Lcell d_Lcell ["script", "k"] (spF K g_Lcell)) (M_Lcell : mg "_law_cell" = some (.ref a_Lcell)) (k_Lcell : PySem.W.keepIn K (.ref a_Lcell) = true) (b_Lcell : Binds K d_Lcell ["script", "k"] []) {a_Lany_step : Addr} {d_Lany_step : FuncData} (G_Lany_step : FnOk P w K mg base CX0 2 a_Lany_step d_Lany_step ["cell"] (spF K g_Lany_step)) (M_Lany_step : mg "_law_any_step" = some (.ref a_Lany_step)) (k_Lany_step : PySem.W.keepIn K (.ref a_Lany_step) = true) (b_Lany_step : Binds K d_Lany_step ["cell"] []) {a_Lcomplete_plan : Addr} {d_Lcomplete_plan : FuncData} (G_Lcomplete_plan : FnOk P w K mg base CX0 3 a_Lcomplete_plan d_Lcomplete_plan ["script", "at", "kinds"] (spF K g_Lcomplete_plan)) (M_Lcomplete_plan : mg "_law_complete_plan" = some (.ref a_Lcomplete_plan)) (k_Lcomplete_plan : PySem.W.keepIn K (.ref a_Lcomplete_plan) = true) (b_Lcomplete_plan : Binds K d_Lcomplete_plan ["script", "at", "kinds"] []) {a_sheets_of : Addr} {d_sheets_of : FuncData} (G_sheets_of : FnOk P w K mg base CX0 1 a_sheets_of d_sheets_of ["plan"] (spF K g_sheets_of)) (M_sheets_of : mg "sheets_of" = some (.ref a_sheets_of)) (k_sheets_of : PySem.W.keepIn K (.ref a_sheets_of) = true) (b_sheets_of : Binds K d_sheets_of ["plan"] []) {a_Lsheets : Addr} {d_Lsheets : FuncData} (G_Lsheets : FnOk P w K mg base CX0 1 a_Lsheets d_Lsheets ["plan"] (spF K g_Lsheets)) (M_Lsheets : mg "_law_sheets" = some (.ref a_Lsheets)) (k_Lsheets : PySem.W.keepIn K (.ref a_Lsheets) = true) (b_Lsheets : Binds K d_Lsheets ["plan"] []) {a_Lcarried : Addr} {d_Lcarried : FuncData} (G_Lcarried : FnOk P w K mg base CX0 5 a_Lcarried d_Lcarried ["plan"] (spF K g_Lcarried)) (M_Lcarried : mg "_law_carried" = some (.ref a_Lcarried)) (k_Lcarried : PySem.W.keepIn K (.ref a_Lcarried) = true) (b_Lcarried : Binds K d_Lcarried ["plan"] []) {a_Ltuples : Addr} {d_Ltuples : FuncData} (G_Ltuples : FnOk P w K mg base CX0 1 a_Ltuples d_Ltuples ["packet"] (spF K g_Ltuples)) (M_Ltuples : mg "_law_tuples" = some (.ref a_Ltuples)) (k_Ltuples : PySem.W.keepIn K (.ref a_Ltuples) = true) (b_Ltuples : Binds K d_Ltuples ["packet"] []) {a_leaf_order : Addr} {d_leaf_order : FuncData} (G_leaf_order : FnOk P w K mg base (L2.CX P w) 18 a_leaf_order d_leaf_order ["plan"] (spX K C g_leaf_order)) (M_leaf_order : mg "leaf_order" = some (.ref a_leaf_order)) (k_leaf_order : PySem.W.keepIn K (.ref a_leaf_order) = true) (b_leaf_order : Binds K d_leaf_order ["plan"] []) {a_Lasked__leaf_order : Addr} {d_Lasked__leaf_order : FuncData} (G_Lasked__leaf_order : FnOk P w K mg base CX0 20 a_Lasked__leaf_order d_Lasked__leaf_order ["function", "plan"] (sp1 a_leaf_order (spF K g_Lasked__leaf_order))) (M_Lasked__leaf_order : mg "_law_asked" = some (.ref a_Lasked__leaf_order)) (k_Lasked__leaf_order : PySem.W.keepIn K (.ref a_Lasked__leaf_order) = true) (b_Lasked__leaf_order : Binds K d_Lasked__leaf_order ["function", "plan"] []) {a_is_complete : Addr} {d_is_complete : FuncData} (G_is_complete : FnOk P w K mg base (L2.CX P w) 16 a_is_complete d_is_complete ["plan"] (spX K C g_is_complete)) (M_is_complete : mg "is_complete" = some (.ref a_is_complete)) (k_is_complete : PySem.W.keepIn K (.ref a_is_complete) = true) (b_is_complete : Binds K d_is_complete ["plan"] []) {a_Lasked__is_complete : Addr} {d_Lasked__is_complete : FuncData} (G_Lasked__is_complete : FnOk P w K mg base CX0 18 a_Lasked__is_complete d_Lasked__is_complete ["function", "plan"] (sp1 a_is_complete (spF K g_Lasked__is_complete))) (M_Lasked__is_complete : mg "_law_asked" = some (.ref a_Lasked__is_complete)) (k_Lasked__is_complete : PySem.W.keepIn K (.ref a_Lasked__is_complete) = true) (b_Lasked__is_complete : Binds K d_Lasked__is_complete ["function", "plan"] []) {a_evaluate : Addr} {d_evaluate : FuncData} (G_evaluate : FnOk P w K mg base (L2.CX P w) 16 a_evaluate d_evaluate ["plan"] (spX K C g_evaluate)) (M_evaluate : mg "evaluate" = some (.ref a_evaluate)) (k_evaluate : PySem.W.keepIn K (.ref a_evaluate) = true) (b_evaluate : Binds K d_evaluate ["plan"] []) {a_Lasked__evaluate : Addr} {d_Lasked__evaluate : FuncData} (G_Lasked__evaluate : FnOk P w K mg base CX0 18 a_Lasked__evaluate d_Lasked__evaluate ["function", "plan"] (sp1 a_evaluate (spF K g_Lasked__evaluate))) (M_Lasked__evaluate : mg "_law_asked" = some (.ref a_Lasked__evaluate)) (k_Lasked__evaluate : PySem.W.keepIn K (.ref a_Lasked__evaluate) = true) (b_Lasked__evaluate : Binds K d_Lasked__evaluate ["function", "plan"] []) (m_range : mg "range" = none) (m_list : mg "list" = none) (m_sum : mg "sum" = none) (m_isinstance : mg "isinstance" = none) (m_str : mg "str" = none) (m_len : mg "len" = none) (m_tuple : mg "tuple" = none) : FnOk P w K mg base CX0 21 f fd ["script"] (spF K g_law) := by
  refine fn_ok (k := 20) (fB := f_law) (np := 1) (nN := 11) F sc_law rfl rfl rfl fun cdv A outer s H E hr => ?_
  have nd : N_law.Nodup := sc_law.nd
  exact ((cs_cons (cs_lcV1 (ps_setLc (i := 1) (own := [("k", 7)]) rfl nd rfl rfl (sw_true rfl rfl rfl (by decide +kernel)) (ci_r1 (pi_range1 (by rfl) m_range (ca_cons (ce_mod (ce_call (c := true) (pe_call G_Lcell (hr.mono (by decide)) (by rfl) M_Lcell k_Lcell b_Lcell .nil pass0 (ca_cons (ce_var (i := 0) (pv 0)) (ca_cons ce_int ca_nil)))) ce_int) ca_nil))) (blkOk_by (own := [("k", 7)]) (N := N_law) (sc := defScope s_law) (by decide +kernel)) (fun _ _ _ _ _ => (cg_name (pg_name (i := 7) nd rfl (by first | exact Or.inl rfl | exact Or.inr rfl)))) (fun _ _ _ _ _ => pts_nil) (fun _ _ _ _ _ => (ce_call (c := true) (pe_call G_Lany_step (hr.mono (by decide)) (by rfl) M_Lany_step k_Lany_step b_Lany_step .nil pass0 (ca_cons (ce_call (c := true) (pe_call G_Lcell (hr.mono (by decide)) (by rfl) M_Lcell k_Lcell b_Lcell .nil pass0 (ca_cons (ce_var (i := 0) (pv 0)) (ca_cons (ce_add ce_int (ce_var (i := 7) (pv 7))) ca_nil)))) ca_nil))))))
    (cs_cons (cs_if (ct_cmp (op_eqD hr.units) r2_eq (ce_mod (ce_div (ce_call (c := true) (pe_call G_Lcell (hr.mono (by decide)) (by rfl) M_Lcell k_Lcell b_Lcell .nil pass0 (ca_cons (ce_var (i := 0) (pv 0)) (ca_cons ce_int ca_nil)))) ce_int) ce_int) ce_int (nomark _))
    (cs_one (cs_set (ps_set (i := 1) nd rfl (by first | exact Or.inl rfl | exact Or.inr rfl) (ce_call (c := true) (pe_call G_Lcomplete_plan (hr.mono (by decide)) (by rfl) M_Lcomplete_plan k_Lcomplete_plan b_Lcomplete_plan .nil pass0 (ca_cons (ce_var (i := 0) (pv 0)) (ca_cons ce_int (ca_cons (ce_l (c := true) (cf_lst (c := true) (ca_cons ce_str (ca_cons ce_str ca_nil)))) ca_nil))))))))
    cs_nil)
    (cs_cons (cs_set (ps_set (i := 2) nd rfl (by first | exact Or.inl rfl | exact Or.inr rfl) (ce_l (c := true) (cf_list (c := true) (pe_callTy call_list_of (by rfl) m_list (by decide +kernel) (pa_cons (ce_var (i := 1) (pv 1)) pa_nil))))))
    (cs_cons (cs_if (PW.pt (cw_or (ct_cmp (op_neD hr.units) r2_ne (ce_call (c := true) (pe_call G_sheets_of (hr.mono (by decide)) (by rfl) M_sheets_of k_sheets_of b_sheets_of .nil pass0 (ca_cons (ce_var (i := 2) (pv 2)) ca_nil))) (ce_call (c := true) (pe_call G_Lsheets (hr.mono (by decide)) (by rfl) M_Lsheets k_Lsheets b_Lsheets .nil pass0 (ca_cons (ce_var (i := 1) (pv 1)) ca_nil))) (nomark _)) (cw_or1 (ct_cmp (op_neD hr.units) r2_ne (ce_var (i := 2) (pv 2)) (ce_var (i := 1) (pv 1)) (nomark _)))))
    (cs_one (cs_ret ce_bl))
    cs_nil)
    (cs_cons (cs_if (ct_cmp op_gt r2_B0 (ce_cb (c2 := true) cr_sum' (pe_callB (cr_sum rfl) (by rfl) m_sum (by decide +kernel) (ca_cons (ce_l (c := true) (cf_lc1 (c2 := true) (pe_lc (own := [("rows", 8), ("columns", 9)]) (by rfl) nd (ci_seqU (ce_call (c := true) (pe_call G_Lsheets (hr.mono (by decide)) (by rfl) M_Lsheets k_Lsheets b_Lsheets .nil pass0 (ca_cons (ce_var (i := 1) (pv 1)) ca_nil)))) (blkOk_by (own := [("rows", 8), ("columns", 9)]) (N := N_law) (sc := defScope s_law) (by decide +kernel)) (fun _ _ _ _ _ => (cg_tup (is := [8, 9]) (pg_tup rfl (pgs_cons (pg_name (i := 8) nd rfl (by first | exact Or.inl rfl | exact Or.inr rfl)) (pgs_cons (pg_name (i := 9) nd rfl (by first | exact Or.inl rfl | exact Or.inr rfl)) pgs_nil))))) (fun _ _ _ _ _ => pts_nil) (fun _ _ _ _ _ => (ce_mul (ce_var (i := 8) (pv 8)) (ce_var (i := 9) (pv 9))))))) ca_nil))) ce_int (nomark _))
    (cs_one (cs_set (ps_set (i := 3) nd rfl (by first | exact Or.inl rfl | exact Or.inr rfl) (ce_l (c := true) (cf_lst (c := true) (ca_cons ce_str (ca_cons ce_str (ca_cons ce_str ca_nil))))))))
    (cs_cons (cs_set (ps_set (i := 4) nd rfl (by first | exact Or.inl rfl | exact Or.inr rfl) (ce_call (c := true) (pe_call G_Lcarried (hr.mono (by decide)) (by rfl) M_Lcarried k_Lcarried b_Lcarried .nil pass0 (ca_cons (ce_var (i := 1) (pv 1)) ca_nil)))))
    (cs_cons (cs_set (ps_set (i := 3) nd rfl (by first | exact Or.inl rfl | exact Or.inr rfl) (ce_l (c := true) (cf_lst (c := true) (ca_cons ce_str (ca_cons ce_bl (ca_cons ce_str ca_nil)))))))
    (cs_one (cs_if (ct_not (ct_val (ce_isi (T := "str") (pe_callB call_isi (by rfl) m_isinstance (by decide +kernel) (pa_cons (ce_var (i := 4) (pv 4)) (pa_cons (pe_bltn (v := .ty "str") (by rfl) m_str (by decide +kernel) rfl) pa_nil))))))
    (cs_cons (cs_set (ps_set (i := 5) nd rfl (by first | exact Or.inl rfl | exact Or.inr rfl) (ce_and (ce_cmp (op_eqD hr.units) r2_eq (ce_cb (c2 := true) cr_len (pe_callB call_len (by rfl) m_len boot_len (ca_cons (ce_var (i := 4) (pv 4)) ca_nil))) ce_int (nomark _)) (ce_one (ce_cmp (op_eqD hr.units) r2_eq (ce_sl (ce_ixU (hu1 hr) (ce_var (i := 4) (pv 4)) ce_int (fun _ _ => rfl) (fun _ _ => rfl)) co_none (co_some ce_int)) (ce_tup (ca_cons ce_int (ca_cons ce_int ca_nil))) (nomark _))))))
    (cs_cons (cs_set (ps_set (i := 6) nd rfl (by first | exact Or.inl rfl | exact Or.inr rfl) (ce_if (ct_tru (ce_var (i := 5) (pv 5)) (by intro _; rfl)) (ce_cb (c2 := true) cr_tup (pe_callTy call_tuple_of (by rfl) m_tuple (by decide +kernel) (ca_cons (ce_ixU (hu1 hr) (ce_ixU (hu1 hr) (ce_ixU (hu1 hr) (ce_var (i := 4) (pv 4)) ce_int (fun _ _ => rfl) (fun _ _ => rfl)) ce_int (fun _ _ => rfl) (fun _ _ => rfl)) (ce_tup (ca_cons ce_int (ca_cons ce_int ca_nil))) (fun _ _ => rfl) (fun _ _ => rfl)) ca_nil))) ce_str)))
    (cs_one (cs_set (ps_set (i := 3) nd rfl (by first | exact Or.inl rfl | exact Or.inr rfl) (ce_l (c := true) (cf_lst (c := true) (ca_cons (ce_l (c := true) (cf_lc1 (c2 := true) (pe_lc (own := [("packet", 10)]) (by rfl) nd (ci_seqU (ce_var (i := 4) (pv 4))) (blkOk_by (own := [("packet", 10)]) (N := N_law) (sc := defScope s_law) (by decide +kernel)) (fun _ _ _ _ _ => (cg_name (pg_name (i := 10) nd rfl (by first | exact Or.inl rfl | exact Or.inr rfl)))) (fun _ _ _ _ _ => pts_nil) (fun _ _ _ _ _ => (ce_call (c := true) (pe_call G_Ltuples (hr.mono (by decide)) (by rfl) M_Ltuples k_Ltuples b_Ltuples .nil pass0 (ca_cons (ce_var (i := 10) (pv 10)) ca_nil))))))) (ca_cons (ce_var (i := 5) (pv 5)) (ca_cons (ce_var (i := 6) (pv 6)) ca_nil))))))))))
    cs_nil)))))
    (cs_one (cs_ret (ce_cmp (op_eqD hr.units) r2_eq (ce_l (c := true) (cf_lst (c := true) (ca_cons (ce_call1 (c := true) (E0 := fun _ _ _ => False) (pe_call G_Lasked__evaluate (hr.mono (by decide)) (by rfl) M_Lasked__evaluate k_Lasked__evaluate b_Lasked__evaluate .nil pass0 (pa_cons (pe_glob (by rfl) M_evaluate rfl) (ca_cons (ce_var (i := 2) (pv 2)) ca_nil)))) (ca_cons (ce_call1 (c := true) (E0 := fun _ _ _ => False) (pe_call G_Lasked__is_complete (hr.mono (by decide)) (by rfl) M_Lasked__is_complete k_Lasked__is_complete b_Lasked__is_complete .nil pass0 (pa_cons (pe_glob (by rfl) M_is_complete rfl) (ca_cons (ce_var (i := 2) (pv 2)) ca_nil)))) (ca_cons (ce_call1 (c := true) (E0 := fun _ _ _ => False) (pe_call G_Lasked__leaf_order (hr.mono (by decide)) (by rfl) M_Lasked__leaf_order k_Lasked__leaf_order b_Lasked__leaf_order .nil pass0 (pa_cons (pe_glob (by rfl) M_leaf_order rfl) (ca_cons (ce_var (i := 2) (pv 2)) ca_nil)))) ca_nil))))) (ce_var (i := 3) (pv 3)) (nomark _))))))))))
end
/-! ### the end -/
theorem all_mk {l : PySem.W.OpenLaw} {w : World} {K : PySem.W.Frag} {h : Heap} {mg : Str → Option Value} {fa : Addr} (X : K.In h) (G : h.Ns mainGlobals mg) (hfa : mg "law" = some (.ref fa))
    {f_turn_layer : Addr} {od_turn_layer an_turn_layer : Option Addr} {sl_turn_layer : Array (Option Value)} {oc_turn_layer kV_turn_layer dc_turn_layer pm_turn_layer cd_turn_layer ct_turn_layer : Value}
    (a_turn_layer : PySem.W.nsIn K mainGlobals "turn_layer" = some (some (.ref f_turn_layer))) (l_turn_layer : K.lookup f_turn_layer = some ⟨oc_turn_layer, od_turn_layer, .func (PySem.W.fnOf "turn_layer" "turn_layer" (defArgs s_turn_layer) (defBody s_turn_layer) (defScope s_turn_layer) .none kV_turn_layer dc_turn_layer pm_turn_layer an_turn_layer cd_turn_layer ct_turn_layer), sl_turn_layer⟩) (c_turn_layer : PySem.W.codeIn K cd_turn_layer "turn_layer" = true) (k_turn_layer : PySem.W.keepIn K (.ref f_turn_layer) = true)
    {f_sheet_packet : Addr} {od_sheet_packet an_sheet_packet : Option Addr} {sl_sheet_packet : Array (Option Value)} {oc_sheet_packet kV_sheet_packet dc_sheet_packet pm_sheet_packet cd_sheet_packet ct_sheet_packet : Value}
    (a_sheet_packet : PySem.W.nsIn K mainGlobals "sheet_packet" = some (some (.ref f_sheet_packet))) (l_sheet_packet : K.lookup f_sheet_packet = some ⟨oc_sheet_packet, od_sheet_packet, .func (PySem.W.fnOf "sheet_packet" "sheet_packet" (defArgs s_sheet_packet) (defBody s_sheet_packet) (defScope s_sheet_packet) .none kV_sheet_packet dc_sheet_packet pm_sheet_packet an_sheet_packet cd_sheet_packet ct_sheet_packet), sl_sheet_packet⟩) (c_sheet_packet : PySem.W.codeIn K cd_sheet_packet "sheet_packet" = true) (k_sheet_packet : PySem.W.keepIn K (.ref f_sheet_packet) = true)
    {f_size_of : Addr} {od_size_of an_size_of : Option Addr} {sl_size_of : Array (Option Value)} {oc_size_of kV_size_of dc_size_of pm_size_of cd_size_of ct_size_of : Value}
    (a_size_of : PySem.W.nsIn K mainGlobals "size_of" = some (some (.ref f_size_of))) (l_size_of : K.lookup f_size_of = some ⟨oc_size_of, od_size_of, .func (PySem.W.fnOf "size_of" "size_of" (defArgs s_size_of) (defBody s_size_of) (defScope s_size_of) .none kV_size_of dc_size_of pm_size_of an_size_of cd_size_of ct_size_of), sl_size_of⟩) (c_size_of : PySem.W.codeIn K cd_size_of "size_of" = true) (k_size_of : PySem.W.keepIn K (.ref f_size_of) = true)
    {f_turn_cell : Addr} {od_turn_cell an_turn_cell : Option Addr} {sl_turn_cell : Array (Option Value)} {oc_turn_cell kV_turn_cell dc_turn_cell pm_turn_cell cd_turn_cell ct_turn_cell : Value}
    (a_turn_cell : PySem.W.nsIn K mainGlobals "turn_cell" = some (some (.ref f_turn_cell))) (l_turn_cell : K.lookup f_turn_cell = some ⟨oc_turn_cell, od_turn_cell, .func (PySem.W.fnOf "turn_cell" "turn_cell" (defArgs s_turn_cell) (defBody s_turn_cell) (defScope s_turn_cell) .none kV_turn_cell dc_turn_cell pm_turn_cell an_turn_cell cd_turn_cell ct_turn_cell), sl_turn_cell⟩) (c_turn_cell : PySem.W.codeIn K cd_turn_cell "turn_cell" = true) (k_turn_cell : PySem.W.keepIn K (.ref f_turn_cell) = true)
    {f_turn : Addr} {od_turn an_turn : Option Addr} {sl_turn : Array (Option Value)} {oc_turn kV_turn dc_turn pm_turn cd_turn ct_turn : Value}
    (a_turn : PySem.W.nsIn K mainGlobals "turn" = some (some (.ref f_turn))) (l_turn : K.lookup f_turn = some ⟨oc_turn, od_turn, .func (PySem.W.fnOf "turn" "turn" (defArgs s_turn) (defBody s_turn) (defScope s_turn) .none kV_turn dc_turn pm_turn an_turn cd_turn ct_turn), sl_turn⟩) (c_turn : PySem.W.codeIn K cd_turn "turn" = true) (k_turn : PySem.W.keepIn K (.ref f_turn) = true)
    {f_is_inside : Addr} {od_is_inside an_is_inside : Option Addr} {sl_is_inside : Array (Option Value)} {oc_is_inside kV_is_inside dc_is_inside pm_is_inside cd_is_inside ct_is_inside : Value}
    (a_is_inside : PySem.W.nsIn K mainGlobals "is_inside" = some (some (.ref f_is_inside))) (l_is_inside : K.lookup f_is_inside = some ⟨oc_is_inside, od_is_inside, .func (PySem.W.fnOf "is_inside" "is_inside" (defArgs s_is_inside) (defBody s_is_inside) (defScope s_is_inside) .none kV_is_inside dc_is_inside pm_is_inside an_is_inside cd_is_inside ct_is_inside), sl_is_inside⟩) (c_is_inside : PySem.W.codeIn K cd_is_inside "is_inside" = true) (k_is_inside : PySem.W.keepIn K (.ref f_is_inside) = true)
    {f_columns_from : Addr} {od_columns_from an_columns_from : Option Addr} {sl_columns_from : Array (Option Value)} {oc_columns_from kV_columns_from dc_columns_from pm_columns_from cd_columns_from ct_columns_from : Value}
    (a_columns_from : PySem.W.nsIn K mainGlobals "columns_from" = some (some (.ref f_columns_from))) (l_columns_from : K.lookup f_columns_from = some ⟨oc_columns_from, od_columns_from, .func (PySem.W.fnOf "columns_from" "columns_from" (defArgs s_columns_from) (defBody s_columns_from) (defScope s_columns_from) .none kV_columns_from dc_columns_from pm_columns_from an_columns_from cd_columns_from ct_columns_from), sl_columns_from⟩) (c_columns_from : PySem.W.codeIn K cd_columns_from "columns_from" = true) (k_columns_from : PySem.W.keepIn K (.ref f_columns_from) = true)
    {f_divide : Addr} {od_divide an_divide : Option Addr} {sl_divide : Array (Option Value)} {oc_divide kV_divide dc_divide pm_divide cd_divide ct_divide : Value}
    (a_divide : PySem.W.nsIn K mainGlobals "divide" = some (some (.ref f_divide))) (l_divide : K.lookup f_divide = some ⟨oc_divide, od_divide, .func (PySem.W.fnOf "divide" "divide" (defArgs s_divide) (defBody s_divide) (defScope s_divide) .none kV_divide dc_divide pm_divide an_divide cd_divide ct_divide), sl_divide⟩) (c_divide : PySem.W.codeIn K cd_divide "divide" = true) (k_divide : PySem.W.keepIn K (.ref f_divide) = true)
    {f_cut : Addr} {od_cut an_cut : Option Addr} {sl_cut : Array (Option Value)} {oc_cut kV_cut dc_cut pm_cut cd_cut ct_cut : Value}
    (a_cut : PySem.W.nsIn K mainGlobals "cut" = some (some (.ref f_cut))) (l_cut : K.lookup f_cut = some ⟨oc_cut, od_cut, .func (PySem.W.fnOf "cut" "cut" (defArgs s_cut) (defBody s_cut) (defScope s_cut) .none kV_cut dc_cut pm_cut an_cut cd_cut ct_cut), sl_cut⟩) (c_cut : PySem.W.codeIn K cd_cut "cut" = true) (k_cut : PySem.W.keepIn K (.ref f_cut) = true)
    {f_lay_row : Addr} {od_lay_row an_lay_row : Option Addr} {sl_lay_row : Array (Option Value)} {oc_lay_row kV_lay_row dc_lay_row pm_lay_row cd_lay_row ct_lay_row : Value}
    (a_lay_row : PySem.W.nsIn K mainGlobals "lay_row" = some (some (.ref f_lay_row))) (l_lay_row : K.lookup f_lay_row = some ⟨oc_lay_row, od_lay_row, .func (PySem.W.fnOf "lay_row" "lay_row" (defArgs s_lay_row) (defBody s_lay_row) (defScope s_lay_row) .none kV_lay_row dc_lay_row pm_lay_row an_lay_row cd_lay_row ct_lay_row), sl_lay_row⟩) (c_lay_row : PySem.W.codeIn K cd_lay_row "lay_row" = true) (k_lay_row : PySem.W.keepIn K (.ref f_lay_row) = true)
    {f_lay : Addr} {od_lay an_lay : Option Addr} {sl_lay : Array (Option Value)} {oc_lay kV_lay dc_lay pm_lay cd_lay ct_lay : Value}
    (a_lay : PySem.W.nsIn K mainGlobals "lay" = some (some (.ref f_lay))) (l_lay : K.lookup f_lay = some ⟨oc_lay, od_lay, .func (PySem.W.fnOf "lay" "lay" (defArgs s_lay) (defBody s_lay) (defScope s_lay) .none kV_lay dc_lay pm_lay an_lay cd_lay ct_lay), sl_lay⟩) (c_lay : PySem.W.codeIn K cd_lay "lay" = true) (k_lay : PySem.W.keepIn K (.ref f_lay) = true)
    {f_backwards : Addr} {od_backwards an_backwards : Option Addr} {sl_backwards : Array (Option Value)} {oc_backwards kV_backwards dc_backwards pm_backwards cd_backwards ct_backwards : Value}
    (a_backwards : PySem.W.nsIn K mainGlobals "backwards" = some (some (.ref f_backwards))) (l_backwards : K.lookup f_backwards = some ⟨oc_backwards, od_backwards, .func (PySem.W.fnOf "backwards" "backwards" (defArgs s_backwards) (defBody s_backwards) (defScope s_backwards) .none kV_backwards dc_backwards pm_backwards an_backwards cd_backwards ct_backwards), sl_backwards⟩) (c_backwards : PySem.W.codeIn K cd_backwards "backwards" = true) (k_backwards : PySem.W.keepIn K (.ref f_backwards) = true)
    {f_lay_at : Addr} {od_lay_at an_lay_at : Option Addr} {sl_lay_at : Array (Option Value)} {oc_lay_at kV_lay_at dc_lay_at pm_lay_at cd_lay_at ct_lay_at : Value}
    (a_lay_at : PySem.W.nsIn K mainGlobals "lay_at" = some (some (.ref f_lay_at))) (l_lay_at : K.lookup f_lay_at = some ⟨oc_lay_at, od_lay_at, .func (PySem.W.fnOf "lay_at" "lay_at" (defArgs s_lay_at) (defBody s_lay_at) (defScope s_lay_at) .none kV_lay_at dc_lay_at pm_lay_at an_lay_at cd_lay_at ct_lay_at), sl_lay_at⟩) (c_lay_at : PySem.W.codeIn K cd_lay_at "lay_at" = true) (k_lay_at : PySem.W.keepIn K (.ref f_lay_at) = true)
    {f_fold : Addr} {od_fold an_fold : Option Addr} {sl_fold : Array (Option Value)} {oc_fold kV_fold dc_fold pm_fold cd_fold ct_fold : Value}
    (a_fold : PySem.W.nsIn K mainGlobals "fold" = some (some (.ref f_fold))) (l_fold : K.lookup f_fold = some ⟨oc_fold, od_fold, .func (PySem.W.fnOf "fold" "fold" (defArgs s_fold) (defBody s_fold) (defScope s_fold) .none kV_fold dc_fold pm_fold an_fold cd_fold ct_fold), sl_fold⟩) (c_fold : PySem.W.codeIn K cd_fold "fold" = true) (k_fold : PySem.W.keepIn K (.ref f_fold) = true)
    {f_stack : Addr} {od_stack an_stack : Option Addr} {sl_stack : Array (Option Value)} {oc_stack kV_stack dc_stack pm_stack cd_stack ct_stack : Value}
    (a_stack : PySem.W.nsIn K mainGlobals "stack" = some (some (.ref f_stack))) (l_stack : K.lookup f_stack = some ⟨oc_stack, od_stack, .func (PySem.W.fnOf "stack" "stack" (defArgs s_stack) (defBody s_stack) (defScope s_stack) .none kV_stack dc_stack pm_stack an_stack cd_stack ct_stack), sl_stack⟩) (c_stack : PySem.W.codeIn K cd_stack "stack" = true) (k_stack : PySem.W.keepIn K (.ref f_stack) = true)
    {f_pile : Addr} {od_pile an_pile : Option Addr} {sl_pile : Array (Option Value)} {oc_pile kV_pile dc_pile pm_pile cd_pile ct_pile : Value}
    (a_pile : PySem.W.nsIn K mainGlobals "pile" = some (some (.ref f_pile))) (l_pile : K.lookup f_pile = some ⟨oc_pile, od_pile, .func (PySem.W.fnOf "pile" "pile" (defArgs s_pile) (defBody s_pile) (defScope s_pile) .none kV_pile dc_pile pm_pile an_pile cd_pile ct_pile), sl_pile⟩) (c_pile : PySem.W.codeIn K cd_pile "pile" = true) (k_pile : PySem.W.keepIn K (.ref f_pile) = true)
    {f_sheets_of : Addr} {od_sheets_of an_sheets_of : Option Addr} {sl_sheets_of : Array (Option Value)} {oc_sheets_of kV_sheets_of dc_sheets_of pm_sheets_of cd_sheets_of ct_sheets_of : Value}
    (a_sheets_of : PySem.W.nsIn K mainGlobals "sheets_of" = some (some (.ref f_sheets_of))) (l_sheets_of : K.lookup f_sheets_of = some ⟨oc_sheets_of, od_sheets_of, .func (PySem.W.fnOf "sheets_of" "sheets_of" (defArgs s_sheets_of) (defBody s_sheets_of) (defScope s_sheets_of) .none kV_sheets_of dc_sheets_of pm_sheets_of an_sheets_of cd_sheets_of ct_sheets_of), sl_sheets_of⟩) (c_sheets_of : PySem.W.codeIn K cd_sheets_of "sheets_of" = true) (k_sheets_of : PySem.W.keepIn K (.ref f_sheets_of) = true)
    {f_panel_count : Addr} {od_panel_count an_panel_count : Option Addr} {sl_panel_count : Array (Option Value)} {oc_panel_count kV_panel_count dc_panel_count pm_panel_count cd_panel_count ct_panel_count : Value}
    (a_panel_count : PySem.W.nsIn K mainGlobals "panel_count" = some (some (.ref f_panel_count))) (l_panel_count : K.lookup f_panel_count = some ⟨oc_panel_count, od_panel_count, .func (PySem.W.fnOf "panel_count" "panel_count" (defArgs s_panel_count) (defBody s_panel_count) (defScope s_panel_count) .none kV_panel_count dc_panel_count pm_panel_count an_panel_count cd_panel_count ct_panel_count), sl_panel_count⟩) (c_panel_count : PySem.W.codeIn K cd_panel_count "panel_count" = true) (k_panel_count : PySem.W.keepIn K (.ref f_panel_count) = true)
    {f_work_packet : Addr} {od_work_packet an_work_packet : Option Addr} {sl_work_packet : Array (Option Value)} {oc_work_packet kV_work_packet dc_work_packet pm_work_packet cd_work_packet ct_work_packet : Value}
    (a_work_packet : PySem.W.nsIn K mainGlobals "work_packet" = some (some (.ref f_work_packet))) (l_work_packet : K.lookup f_work_packet = some ⟨oc_work_packet, od_work_packet, .func (PySem.W.fnOf "work_packet" "work_packet" (defArgs s_work_packet) (defBody s_work_packet) (defScope s_work_packet) .none kV_work_packet dc_work_packet pm_work_packet an_work_packet cd_work_packet ct_work_packet), sl_work_packet⟩) (c_work_packet : PySem.W.codeIn K cd_work_packet "work_packet" = true) (k_work_packet : PySem.W.keepIn K (.ref f_work_packet) = true)
    {f_take : Addr} {od_take an_take : Option Addr} {sl_take : Array (Option Value)} {oc_take kV_take dc_take pm_take cd_take ct_take : Value}
    (a_take : PySem.W.nsIn K mainGlobals "take" = some (some (.ref f_take))) (l_take : K.lookup f_take = some ⟨oc_take, od_take, .func (PySem.W.fnOf "take" "take" (defArgs s_take) (defBody s_take) (defScope s_take) .none kV_take dc_take pm_take an_take cd_take ct_take), sl_take⟩) (c_take : PySem.W.codeIn K cd_take "take" = true) (k_take : PySem.W.keepIn K (.ref f_take) = true)
    {f_pile_last : Addr} {od_pile_last an_pile_last : Option Addr} {sl_pile_last : Array (Option Value)} {oc_pile_last kV_pile_last dc_pile_last pm_pile_last cd_pile_last ct_pile_last : Value}
    (a_pile_last : PySem.W.nsIn K mainGlobals "pile_last" = some (some (.ref f_pile_last))) (l_pile_last : K.lookup f_pile_last = some ⟨oc_pile_last, od_pile_last, .func (PySem.W.fnOf "pile_last" "pile_last" (defArgs s_pile_last) (defBody s_pile_last) (defScope s_pile_last) .none kV_pile_last dc_pile_last pm_pile_last an_pile_last cd_pile_last ct_pile_last), sl_pile_last⟩) (c_pile_last : PySem.W.codeIn K cd_pile_last "pile_last" = true) (k_pile_last : PySem.W.keepIn K (.ref f_pile_last) = true)
    {f_work : Addr} {od_work an_work : Option Addr} {sl_work : Array (Option Value)} {oc_work kV_work dc_work pm_work cd_work ct_work : Value}
    (a_work : PySem.W.nsIn K mainGlobals "work" = some (some (.ref f_work))) (l_work : K.lookup f_work = some ⟨oc_work, od_work, .func (PySem.W.fnOf "work" "work" (defArgs s_work) (defBody s_work) (defScope s_work) .none kV_work dc_work pm_work an_work cd_work ct_work), sl_work⟩) (c_work : PySem.W.codeIn K cd_work "work" = true) (k_work : PySem.W.keepIn K (.ref f_work) = true)
    {f_carry_out : Addr} {od_carry_out an_carry_out : Option Addr} {sl_carry_out : Array (Option Value)} {oc_carry_out kV_carry_out dc_carry_out pm_carry_out cd_carry_out ct_carry_out : Value}
    (a_carry_out : PySem.W.nsIn K mainGlobals "carry_out" = some (some (.ref f_carry_out))) (l_carry_out : K.lookup f_carry_out = some ⟨oc_carry_out, od_carry_out, .func (PySem.W.fnOf "carry_out" "carry_out" (defArgs s_carry_out) (defBody s_carry_out) (defScope s_carry_out) .none kV_carry_out dc_carry_out pm_carry_out an_carry_out cd_carry_out ct_carry_out), sl_carry_out⟩) (c_carry_out : PySem.W.codeIn K cd_carry_out "carry_out" = true) (k_carry_out : PySem.W.keepIn K (.ref f_carry_out) = true)
    {f_packets_left : Addr} {od_packets_left an_packets_left : Option Addr} {sl_packets_left : Array (Option Value)} {oc_packets_left kV_packets_left dc_packets_left pm_packets_left cd_packets_left ct_packets_left : Value}
    (a_packets_left : PySem.W.nsIn K mainGlobals "packets_left" = some (some (.ref f_packets_left))) (l_packets_left : K.lookup f_packets_left = some ⟨oc_packets_left, od_packets_left, .func (PySem.W.fnOf "packets_left" "packets_left" (defArgs s_packets_left) (defBody s_packets_left) (defScope s_packets_left) .none kV_packets_left dc_packets_left pm_packets_left an_packets_left cd_packets_left ct_packets_left), sl_packets_left⟩) (c_packets_left : PySem.W.codeIn K cd_packets_left "packets_left" = true) (k_packets_left : PySem.W.keepIn K (.ref f_packets_left) = true)
    {f_is_single_cell : Addr} {od_is_single_cell an_is_single_cell : Option Addr} {sl_is_single_cell : Array (Option Value)} {oc_is_single_cell kV_is_single_cell dc_is_single_cell pm_is_single_cell cd_is_single_cell ct_is_single_cell : Value}
    (a_is_single_cell : PySem.W.nsIn K mainGlobals "is_single_cell" = some (some (.ref f_is_single_cell))) (l_is_single_cell : K.lookup f_is_single_cell = some ⟨oc_is_single_cell, od_is_single_cell, .func (PySem.W.fnOf "is_single_cell" "is_single_cell" (defArgs s_is_single_cell) (defBody s_is_single_cell) (defScope s_is_single_cell) .none kV_is_single_cell dc_is_single_cell pm_is_single_cell an_is_single_cell cd_is_single_cell ct_is_single_cell), sl_is_single_cell⟩) (c_is_single_cell : PySem.W.codeIn K cd_is_single_cell "is_single_cell" = true) (k_is_single_cell : PySem.W.keepIn K (.ref f_is_single_cell) = true)
    {f_evaluate : Addr} {od_evaluate an_evaluate : Option Addr} {sl_evaluate : Array (Option Value)} {oc_evaluate kV_evaluate dc_evaluate pm_evaluate cd_evaluate ct_evaluate : Value}
    (a_evaluate : PySem.W.nsIn K mainGlobals "evaluate" = some (some (.ref f_evaluate))) (l_evaluate : K.lookup f_evaluate = some ⟨oc_evaluate, od_evaluate, .func (PySem.W.fnOf "evaluate" "evaluate" (defArgs s_evaluate) (defBody s_evaluate) (defScope s_evaluate) .none kV_evaluate dc_evaluate pm_evaluate an_evaluate cd_evaluate ct_evaluate), sl_evaluate⟩) (c_evaluate : PySem.W.codeIn K cd_evaluate "evaluate" = true) (k_evaluate : PySem.W.keepIn K (.ref f_evaluate) = true)
    {f_is_complete : Addr} {od_is_complete an_is_complete : Option Addr} {sl_is_complete : Array (Option Value)} {oc_is_complete kV_is_complete dc_is_complete pm_is_complete cd_is_complete ct_is_complete : Value}
    (a_is_complete : PySem.W.nsIn K mainGlobals "is_complete" = some (some (.ref f_is_complete))) (l_is_complete : K.lookup f_is_complete = some ⟨oc_is_complete, od_is_complete, .func (PySem.W.fnOf "is_complete" "is_complete" (defArgs s_is_complete) (defBody s_is_complete) (defScope s_is_complete) .none kV_is_complete dc_is_complete pm_is_complete an_is_complete cd_is_complete ct_is_complete), sl_is_complete⟩) (c_is_complete : PySem.W.codeIn K cd_is_complete "is_complete" = true) (k_is_complete : PySem.W.keepIn K (.ref f_is_complete) = true)
    {f_leaf_order : Addr} {od_leaf_order an_leaf_order : Option Addr} {sl_leaf_order : Array (Option Value)} {oc_leaf_order kV_leaf_order dc_leaf_order pm_leaf_order cd_leaf_order ct_leaf_order : Value}
    (a_leaf_order : PySem.W.nsIn K mainGlobals "leaf_order" = some (some (.ref f_leaf_order))) (l_leaf_order : K.lookup f_leaf_order = some ⟨oc_leaf_order, od_leaf_order, .func (PySem.W.fnOf "leaf_order" "leaf_order" (defArgs s_leaf_order) (defBody s_leaf_order) (defScope s_leaf_order) .none kV_leaf_order dc_leaf_order pm_leaf_order an_leaf_order cd_leaf_order ct_leaf_order), sl_leaf_order⟩) (c_leaf_order : PySem.W.codeIn K cd_leaf_order "leaf_order" = true) (k_leaf_order : PySem.W.keepIn K (.ref f_leaf_order) = true)
    {f_Lcell : Addr} {od_Lcell an_Lcell : Option Addr} {sl_Lcell : Array (Option Value)} {oc_Lcell kV_Lcell dc_Lcell pm_Lcell cd_Lcell ct_Lcell : Value}
    (a_Lcell : PySem.W.nsIn K mainGlobals "_law_cell" = some (some (.ref f_Lcell))) (l_Lcell : K.lookup f_Lcell = some ⟨oc_Lcell, od_Lcell, .func (PySem.W.fnOf "_law_cell" "_law_cell" (defArgs s_Lcell) (defBody s_Lcell) (defScope s_Lcell) .none kV_Lcell dc_Lcell pm_Lcell an_Lcell cd_Lcell ct_Lcell), sl_Lcell⟩) (c_Lcell : PySem.W.codeIn K cd_Lcell "_law_cell" = true) (k_Lcell : PySem.W.keepIn K (.ref f_Lcell) = true)
    {f_Ldraws : Addr} {od_Ldraws an_Ldraws : Option Addr} {sl_Ldraws : Array (Option Value)} {oc_Ldraws kV_Ldraws dc_Ldraws pm_Ldraws cd_Ldraws ct_Ldraws : Value}
    (a_Ldraws : PySem.W.nsIn K mainGlobals "_law_draws" = some (some (.ref f_Ldraws))) (l_Ldraws : K.lookup f_Ldraws = some ⟨oc_Ldraws, od_Ldraws, .func (PySem.W.fnOf "_law_draws" "_law_draws" (defArgs s_Ldraws) (defBody s_Ldraws) (defScope s_Ldraws) .none kV_Ldraws dc_Ldraws pm_Ldraws an_Ldraws cd_Ldraws ct_Ldraws), sl_Ldraws⟩) (c_Ldraws : PySem.W.codeIn K cd_Ldraws "_law_draws" = true) (k_Ldraws : PySem.W.keepIn K (.ref f_Ldraws) = true)
    {f_Lflip : Addr} {od_Lflip an_Lflip : Option Addr} {sl_Lflip : Array (Option Value)} {oc_Lflip kV_Lflip dc_Lflip pm_Lflip cd_Lflip ct_Lflip : Value}
    (a_Lflip : PySem.W.nsIn K mainGlobals "_law_flip" = some (some (.ref f_Lflip))) (l_Lflip : K.lookup f_Lflip = some ⟨oc_Lflip, od_Lflip, .func (PySem.W.fnOf "_law_flip" "_law_flip" (defArgs s_Lflip) (defBody s_Lflip) (defScope s_Lflip) .none kV_Lflip dc_Lflip pm_Lflip an_Lflip cd_Lflip ct_Lflip), sl_Lflip⟩) (c_Lflip : PySem.W.codeIn K cd_Lflip "_law_flip" = true) (k_Lflip : PySem.W.keepIn K (.ref f_Lflip) = true)
    {f_Lsheet : Addr} {od_Lsheet an_Lsheet : Option Addr} {sl_Lsheet : Array (Option Value)} {oc_Lsheet kV_Lsheet dc_Lsheet pm_Lsheet cd_Lsheet ct_Lsheet : Value}
    (a_Lsheet : PySem.W.nsIn K mainGlobals "_law_sheet" = some (some (.ref f_Lsheet))) (l_Lsheet : K.lookup f_Lsheet = some ⟨oc_Lsheet, od_Lsheet, .func (PySem.W.fnOf "_law_sheet" "_law_sheet" (defArgs s_Lsheet) (defBody s_Lsheet) (defScope s_Lsheet) .none kV_Lsheet dc_Lsheet pm_Lsheet an_Lsheet cd_Lsheet ct_Lsheet), sl_Lsheet⟩) (c_Lsheet : PySem.W.codeIn K cd_Lsheet "_law_sheet" = true) (k_Lsheet : PySem.W.keepIn K (.ref f_Lsheet) = true)
    {f_Lturned : Addr} {od_Lturned an_Lturned : Option Addr} {sl_Lturned : Array (Option Value)} {oc_Lturned kV_Lturned dc_Lturned pm_Lturned cd_Lturned ct_Lturned : Value}
    (a_Lturned : PySem.W.nsIn K mainGlobals "_law_turned" = some (some (.ref f_Lturned))) (l_Lturned : K.lookup f_Lturned = some ⟨oc_Lturned, od_Lturned, .func (PySem.W.fnOf "_law_turned" "_law_turned" (defArgs s_Lturned) (defBody s_Lturned) (defScope s_Lturned) .none kV_Lturned dc_Lturned pm_Lturned an_Lturned cd_Lturned ct_Lturned), sl_Lturned⟩) (c_Lturned : PySem.W.codeIn K cd_Lturned "_law_turned" = true) (k_Lturned : PySem.W.keepIn K (.ref f_Lturned) = true)
    {f_Lregion : Addr} {od_Lregion an_Lregion : Option Addr} {sl_Lregion : Array (Option Value)} {oc_Lregion kV_Lregion dc_Lregion pm_Lregion cd_Lregion ct_Lregion : Value}
    (a_Lregion : PySem.W.nsIn K mainGlobals "_law_region" = some (some (.ref f_Lregion))) (l_Lregion : K.lookup f_Lregion = some ⟨oc_Lregion, od_Lregion, .func (PySem.W.fnOf "_law_region" "_law_region" (defArgs s_Lregion) (defBody s_Lregion) (defScope s_Lregion) .none kV_Lregion dc_Lregion pm_Lregion an_Lregion cd_Lregion ct_Lregion), sl_Lregion⟩) (c_Lregion : PySem.W.codeIn K cd_Lregion "_law_region" = true) (k_Lregion : PySem.W.keepIn K (.ref f_Lregion) = true)
    {f_Lsplit : Addr} {od_Lsplit an_Lsplit : Option Addr} {sl_Lsplit : Array (Option Value)} {oc_Lsplit kV_Lsplit dc_Lsplit pm_Lsplit cd_Lsplit ct_Lsplit : Value}
    (a_Lsplit : PySem.W.nsIn K mainGlobals "_law_split" = some (some (.ref f_Lsplit))) (l_Lsplit : K.lookup f_Lsplit = some ⟨oc_Lsplit, od_Lsplit, .func (PySem.W.fnOf "_law_split" "_law_split" (defArgs s_Lsplit) (defBody s_Lsplit) (defScope s_Lsplit) .none kV_Lsplit dc_Lsplit pm_Lsplit an_Lsplit cd_Lsplit ct_Lsplit), sl_Lsplit⟩) (c_Lsplit : PySem.W.codeIn K cd_Lsplit "_law_split" = true) (k_Lsplit : PySem.W.keepIn K (.ref f_Lsplit) = true)
    {f_Llaid : Addr} {od_Llaid an_Llaid : Option Addr} {sl_Llaid : Array (Option Value)} {oc_Llaid kV_Llaid dc_Llaid pm_Llaid cd_Llaid ct_Llaid : Value}
    (a_Llaid : PySem.W.nsIn K mainGlobals "_law_laid" = some (some (.ref f_Llaid))) (l_Llaid : K.lookup f_Llaid = some ⟨oc_Llaid, od_Llaid, .func (PySem.W.fnOf "_law_laid" "_law_laid" (defArgs s_Llaid) (defBody s_Llaid) (defScope s_Llaid) .none kV_Llaid dc_Llaid pm_Llaid an_Llaid cd_Llaid ct_Llaid), sl_Llaid⟩) (c_Llaid : PySem.W.codeIn K cd_Llaid "_law_laid" = true) (k_Llaid : PySem.W.keepIn K (.ref f_Llaid) = true)
    {f_Lmoved : Addr} {od_Lmoved an_Lmoved : Option Addr} {sl_Lmoved : Array (Option Value)} {oc_Lmoved kV_Lmoved dc_Lmoved pm_Lmoved cd_Lmoved ct_Lmoved : Value}
    (a_Lmoved : PySem.W.nsIn K mainGlobals "_law_moved" = some (some (.ref f_Lmoved))) (l_Lmoved : K.lookup f_Lmoved = some ⟨oc_Lmoved, od_Lmoved, .func (PySem.W.fnOf "_law_moved" "_law_moved" (defArgs s_Lmoved) (defBody s_Lmoved) (defScope s_Lmoved) .none kV_Lmoved dc_Lmoved pm_Lmoved an_Lmoved cd_Lmoved ct_Lmoved), sl_Lmoved⟩) (c_Lmoved : PySem.W.codeIn K cd_Lmoved "_law_moved" = true) (k_Lmoved : PySem.W.keepIn K (.ref f_Lmoved) = true)
    {f_Linside : Addr} {od_Linside an_Linside : Option Addr} {sl_Linside : Array (Option Value)} {oc_Linside kV_Linside dc_Linside pm_Linside cd_Linside ct_Linside : Value}
    (a_Linside : PySem.W.nsIn K mainGlobals "_law_inside" = some (some (.ref f_Linside))) (l_Linside : K.lookup f_Linside = some ⟨oc_Linside, od_Linside, .func (PySem.W.fnOf "_law_inside" "_law_inside" (defArgs s_Linside) (defBody s_Linside) (defScope s_Linside) .none kV_Linside dc_Linside pm_Linside an_Linside cd_Linside ct_Linside), sl_Linside⟩) (c_Linside : PySem.W.codeIn K cd_Linside "_law_inside" = true) (k_Linside : PySem.W.keepIn K (.ref f_Linside) = true)
    {f_Ltuples : Addr} {od_Ltuples an_Ltuples : Option Addr} {sl_Ltuples : Array (Option Value)} {oc_Ltuples kV_Ltuples dc_Ltuples pm_Ltuples cd_Ltuples ct_Ltuples : Value}
    (a_Ltuples : PySem.W.nsIn K mainGlobals "_law_tuples" = some (some (.ref f_Ltuples))) (l_Ltuples : K.lookup f_Ltuples = some ⟨oc_Ltuples, od_Ltuples, .func (PySem.W.fnOf "_law_tuples" "_law_tuples" (defArgs s_Ltuples) (defBody s_Ltuples) (defScope s_Ltuples) .none kV_Ltuples dc_Ltuples pm_Ltuples an_Ltuples cd_Ltuples ct_Ltuples), sl_Ltuples⟩) (c_Ltuples : PySem.W.codeIn K cd_Ltuples "_law_tuples" = true) (k_Ltuples : PySem.W.keepIn K (.ref f_Ltuples) = true)
    {f_Lstep : Addr} {od_Lstep an_Lstep : Option Addr} {sl_Lstep : Array (Option Value)} {oc_Lstep kV_Lstep dc_Lstep pm_Lstep cd_Lstep ct_Lstep : Value}
    (a_Lstep : PySem.W.nsIn K mainGlobals "_law_step" = some (some (.ref f_Lstep))) (l_Lstep : K.lookup f_Lstep = some ⟨oc_Lstep, od_Lstep, .func (PySem.W.fnOf "_law_step" "_law_step" (defArgs s_Lstep) (defBody s_Lstep) (defScope s_Lstep) .none kV_Lstep dc_Lstep pm_Lstep an_Lstep cd_Lstep ct_Lstep), sl_Lstep⟩) (c_Lstep : PySem.W.codeIn K cd_Lstep "_law_step" = true) (k_Lstep : PySem.W.keepIn K (.ref f_Lstep) = true)
    {f_Lfinishing_steps : Addr} {od_Lfinishing_steps an_Lfinishing_steps : Option Addr} {sl_Lfinishing_steps : Array (Option Value)} {oc_Lfinishing_steps kV_Lfinishing_steps dc_Lfinishing_steps pm_Lfinishing_steps cd_Lfinishing_steps ct_Lfinishing_steps : Value}
    (a_Lfinishing_steps : PySem.W.nsIn K mainGlobals "_law_finishing_steps" = some (some (.ref f_Lfinishing_steps))) (l_Lfinishing_steps : K.lookup f_Lfinishing_steps = some ⟨oc_Lfinishing_steps, od_Lfinishing_steps, .func (PySem.W.fnOf "_law_finishing_steps" "_law_finishing_steps" (defArgs s_Lfinishing_steps) (defBody s_Lfinishing_steps) (defScope s_Lfinishing_steps) .none kV_Lfinishing_steps dc_Lfinishing_steps pm_Lfinishing_steps an_Lfinishing_steps cd_Lfinishing_steps ct_Lfinishing_steps), sl_Lfinishing_steps⟩) (c_Lfinishing_steps : PySem.W.codeIn K cd_Lfinishing_steps "_law_finishing_steps" = true) (k_Lfinishing_steps : PySem.W.keepIn K (.ref f_Lfinishing_steps) = true)
    {f_Lcomplete_plan : Addr} {od_Lcomplete_plan an_Lcomplete_plan : Option Addr} {sl_Lcomplete_plan : Array (Option Value)} {oc_Lcomplete_plan kV_Lcomplete_plan dc_Lcomplete_plan pm_Lcomplete_plan cd_Lcomplete_plan ct_Lcomplete_plan : Value}
    (a_Lcomplete_plan : PySem.W.nsIn K mainGlobals "_law_complete_plan" = some (some (.ref f_Lcomplete_plan))) (l_Lcomplete_plan : K.lookup f_Lcomplete_plan = some ⟨oc_Lcomplete_plan, od_Lcomplete_plan, .func (PySem.W.fnOf "_law_complete_plan" "_law_complete_plan" (defArgs s_Lcomplete_plan) (defBody s_Lcomplete_plan) (defScope s_Lcomplete_plan) .none kV_Lcomplete_plan dc_Lcomplete_plan pm_Lcomplete_plan an_Lcomplete_plan cd_Lcomplete_plan ct_Lcomplete_plan), sl_Lcomplete_plan⟩) (c_Lcomplete_plan : PySem.W.codeIn K cd_Lcomplete_plan "_law_complete_plan" = true) (k_Lcomplete_plan : PySem.W.keepIn K (.ref f_Lcomplete_plan) = true)
    {f_Lpiled : Addr} {od_Lpiled an_Lpiled : Option Addr} {sl_Lpiled : Array (Option Value)} {oc_Lpiled kV_Lpiled dc_Lpiled pm_Lpiled cd_Lpiled ct_Lpiled : Value}
    (a_Lpiled : PySem.W.nsIn K mainGlobals "_law_piled" = some (some (.ref f_Lpiled))) (l_Lpiled : K.lookup f_Lpiled = some ⟨oc_Lpiled, od_Lpiled, .func (PySem.W.fnOf "_law_piled" "_law_piled" (defArgs s_Lpiled) (defBody s_Lpiled) (defScope s_Lpiled) .none kV_Lpiled dc_Lpiled pm_Lpiled an_Lpiled cd_Lpiled ct_Lpiled), sl_Lpiled⟩) (c_Lpiled : PySem.W.codeIn K cd_Lpiled "_law_piled" = true) (k_Lpiled : PySem.W.keepIn K (.ref f_Lpiled) = true)
    {f_Lperformed : Addr} {od_Lperformed an_Lperformed : Option Addr} {sl_Lperformed : Array (Option Value)} {oc_Lperformed kV_Lperformed dc_Lperformed pm_Lperformed cd_Lperformed ct_Lperformed : Value}
    (a_Lperformed : PySem.W.nsIn K mainGlobals "_law_performed" = some (some (.ref f_Lperformed))) (l_Lperformed : K.lookup f_Lperformed = some ⟨oc_Lperformed, od_Lperformed, .func (PySem.W.fnOf "_law_performed" "_law_performed" (defArgs s_Lperformed) (defBody s_Lperformed) (defScope s_Lperformed) .none kV_Lperformed dc_Lperformed pm_Lperformed an_Lperformed cd_Lperformed ct_Lperformed), sl_Lperformed⟩) (c_Lperformed : PySem.W.codeIn K cd_Lperformed "_law_performed" = true) (k_Lperformed : PySem.W.keepIn K (.ref f_Lperformed) = true)
    {f_Lcarried : Addr} {od_Lcarried an_Lcarried : Option Addr} {sl_Lcarried : Array (Option Value)} {oc_Lcarried kV_Lcarried dc_Lcarried pm_Lcarried cd_Lcarried ct_Lcarried : Value}
    (a_Lcarried : PySem.W.nsIn K mainGlobals "_law_carried" = some (some (.ref f_Lcarried))) (l_Lcarried : K.lookup f_Lcarried = some ⟨oc_Lcarried, od_Lcarried, .func (PySem.W.fnOf "_law_carried" "_law_carried" (defArgs s_Lcarried) (defBody s_Lcarried) (defScope s_Lcarried) .none kV_Lcarried dc_Lcarried pm_Lcarried an_Lcarried cd_Lcarried ct_Lcarried), sl_Lcarried⟩) (c_Lcarried : PySem.W.codeIn K cd_Lcarried "_law_carried" = true) (k_Lcarried : PySem.W.keepIn K (.ref f_Lcarried) = true)
    {f_Lsheets : Addr} {od_Lsheets an_Lsheets : Option Addr} {sl_Lsheets : Array (Option Value)} {oc_Lsheets kV_Lsheets dc_Lsheets pm_Lsheets cd_Lsheets ct_Lsheets : Value}
    (a_Lsheets : PySem.W.nsIn K mainGlobals "_law_sheets" = some (some (.ref f_Lsheets))) (l_Lsheets : K.lookup f_Lsheets = some ⟨oc_Lsheets, od_Lsheets, .func (PySem.W.fnOf "_law_sheets" "_law_sheets" (defArgs s_Lsheets) (defBody s_Lsheets) (defScope s_Lsheets) .none kV_Lsheets dc_Lsheets pm_Lsheets an_Lsheets cd_Lsheets ct_Lsheets), sl_Lsheets⟩) (c_Lsheets : PySem.W.codeIn K cd_Lsheets "_law_sheets" = true) (k_Lsheets : PySem.W.keepIn K (.ref f_Lsheets) = true)
    {f_Lany_step : Addr} {od_Lany_step an_Lany_step : Option Addr} {sl_Lany_step : Array (Option Value)} {oc_Lany_step kV_Lany_step dc_Lany_step pm_Lany_step cd_Lany_step ct_Lany_step : Value}
    (a_Lany_step : PySem.W.nsIn K mainGlobals "_law_any_step" = some (some (.ref f_Lany_step))) (l_Lany_step : K.lookup f_Lany_step = some ⟨oc_Lany_step, od_Lany_step, .func (PySem.W.fnOf "_law_any_step" "_law_any_step" (defArgs s_Lany_step) (defBody s_Lany_step) (defScope s_Lany_step) .none kV_Lany_step dc_Lany_step pm_Lany_step an_Lany_step cd_Lany_step ct_Lany_step), sl_Lany_step⟩) (c_Lany_step : PySem.W.codeIn K cd_Lany_step "_law_any_step" = true) (k_Lany_step : PySem.W.keepIn K (.ref f_Lany_step) = true)
    {f_Lasked__evaluate : Addr} {od_Lasked__evaluate an_Lasked__evaluate : Option Addr} {sl_Lasked__evaluate : Array (Option Value)} {oc_Lasked__evaluate kV_Lasked__evaluate dc_Lasked__evaluate pm_Lasked__evaluate cd_Lasked__evaluate ct_Lasked__evaluate : Value}
    (a_Lasked__evaluate : PySem.W.nsIn K mainGlobals "_law_asked" = some (some (.ref f_Lasked__evaluate))) (l_Lasked__evaluate : K.lookup f_Lasked__evaluate = some ⟨oc_Lasked__evaluate, od_Lasked__evaluate, .func (PySem.W.fnOf "_law_asked" "_law_asked" (defArgs s_Lasked__evaluate) (defBody s_Lasked__evaluate) (defScope s_Lasked__evaluate) .none kV_Lasked__evaluate dc_Lasked__evaluate pm_Lasked__evaluate an_Lasked__evaluate cd_Lasked__evaluate ct_Lasked__evaluate), sl_Lasked__evaluate⟩) (c_Lasked__evaluate : PySem.W.codeIn K cd_Lasked__evaluate "_law_asked" = true) (k_Lasked__evaluate : PySem.W.keepIn K (.ref f_Lasked__evaluate) = true)
    {f_Lasked__is_complete : Addr} {od_Lasked__is_complete an_Lasked__is_complete : Option Addr} {sl_Lasked__is_complete : Array (Option Value)} {oc_Lasked__is_complete kV_Lasked__is_complete dc_Lasked__is_complete pm_Lasked__is_complete cd_Lasked__is_complete ct_Lasked__is_complete : Value}
    (a_Lasked__is_complete : PySem.W.nsIn K mainGlobals "_law_asked" = some (some (.ref f_Lasked__is_complete))) (l_Lasked__is_complete : K.lookup f_Lasked__is_complete = some ⟨oc_Lasked__is_complete, od_Lasked__is_complete, .func (PySem.W.fnOf "_law_asked" "_law_asked" (defArgs s_Lasked__is_complete) (defBody s_Lasked__is_complete) (defScope s_Lasked__is_complete) .none kV_Lasked__is_complete dc_Lasked__is_complete pm_Lasked__is_complete an_Lasked__is_complete cd_Lasked__is_complete ct_Lasked__is_complete), sl_Lasked__is_complete⟩) (c_Lasked__is_complete : PySem.W.codeIn K cd_Lasked__is_complete "_law_asked" = true) (k_Lasked__is_complete : PySem.W.keepIn K (.ref f_Lasked__is_complete) = true)
    {f_Lasked__leaf_order : Addr} {od_Lasked__leaf_order an_Lasked__leaf_order : Option Addr} {sl_Lasked__leaf_order : Array (Option Value)} {oc_Lasked__leaf_order kV_Lasked__leaf_order dc_Lasked__leaf_order pm_Lasked__leaf_order cd_Lasked__leaf_order ct_Lasked__leaf_order : Value}
    (a_Lasked__leaf_order : PySem.W.nsIn K mainGlobals "_law_asked" = some (some (.ref f_Lasked__leaf_order))) (l_Lasked__leaf_order : K.lookup f_Lasked__leaf_order = some ⟨oc_Lasked__leaf_order, od_Lasked__leaf_order, .func (PySem.W.fnOf "_law_asked" "_law_asked" (defArgs s_Lasked__leaf_order) (defBody s_Lasked__leaf_order) (defScope s_Lasked__leaf_order) .none kV_Lasked__leaf_order dc_Lasked__leaf_order pm_Lasked__leaf_order an_Lasked__leaf_order cd_Lasked__leaf_order ct_Lasked__leaf_order), sl_Lasked__leaf_order⟩) (c_Lasked__leaf_order : PySem.W.codeIn K cd_Lasked__leaf_order "_law_asked" = true) (k_Lasked__leaf_order : PySem.W.keepIn K (.ref f_Lasked__leaf_order) = true)
    {f_law : Addr} {od_law an_law : Option Addr} {sl_law : Array (Option Value)} {oc_law kV_law dc_law pm_law cd_law ct_law : Value}
    (a_law : PySem.W.nsIn K mainGlobals "law" = some (some (.ref f_law))) (l_law : K.lookup f_law = some ⟨oc_law, od_law, .func (PySem.W.fnOf "law" "law" (defArgs s_law) (defBody s_law) (defScope s_law) .none kV_law dc_law pm_law an_law cd_law ct_law), sl_law⟩) (c_law : PySem.W.codeIn K cd_law "law" = true) (k_law : PySem.W.keepIn K (.ref f_law) = true)
    (z_range : PySem.W.nsIn K mainGlobals "range" = some none)
    (z_tuple : PySem.W.nsIn K mainGlobals "tuple" = some none)
    (z_len : PySem.W.nsIn K mainGlobals "len" = some none)
    (z_zip : PySem.W.nsIn K mainGlobals "zip" = some none)
    (z_any : PySem.W.nsIn K mainGlobals "any" = some none)
    (z_sum : PySem.W.nsIn K mainGlobals "sum" = some none)
    (z_list : PySem.W.nsIn K mainGlobals "list" = some none)
    (z_max : PySem.W.nsIn K mainGlobals "max" = some none)
    (z_isinstance : PySem.W.nsIn K mainGlobals "isinstance" = some none)
    (z_str : PySem.W.nsIn K mainGlobals "str" = some none)
    (z_int : PySem.W.nsIn K mainGlobals "int" = some none)
    (y_MOST_PANELS : PySem.W.nsIn K mainGlobals "MOST_PANELS" = some (some (.int 64 t_MOST_PANELS)))
    {C fI : Addr} {Cnm Cq : Str} {CN : Addr} {Cbs Cbm : List Value} {Csn : List Str} {Csub : List Value} {Cab : Bool} {Ccol : Option Bool} {Cdd : Option Addr} {Ck0 Ck1 Ck2 Ck3 Ck5 : Option Value}
    {Ioc Idoc Ipm Ict : Value} {Iod Ian : Option Addr} {Ida Icc : Addr} {Isl : Array (Option Value)} {Ivs : Array Value} {Ifile : Str} {Itf : Tok} {Ic1 Ic2 : Value} {Id1 Id2 : Option Addr} {Is1 Is2 : Array (Option Value)}
    (qgC : PySem.W.nsIn K mainGlobals "Refused" = some (some (.ref C))) (qcls : K.lookup C = some (excClassObj Cnm Cq C CN Cbs Cbm true Csn Csub Cab Ccol Cdd Ck0 Ck1 Ck2 Ck3 Ck5 "ValueError.__new__")) (qbm : PySem.HandSPX.refsVE Cbm = true)
    (qsa : PySem.W.findIn K (.ref C) "__setattr__" = some (some (.builtin "object.__setattr__"))) (qga : PySem.W.findIn K (.ref C) "__getattribute__" = some (some (.builtin "BaseException.__getattribute__"))) (qgg : PySem.W.findIn K (.ref C) "__getattr__" = some none) (qnoN : PySem.W.findIn K (.ref C) "what" = some none)
    (qiC : PySem.W.findIn K (.ref C) "__init__" = some (some (.ref fI))) (qtC : PySem.W.typeIn K (.ref fI) = some (.type "function")) (qkC : PySem.W.keepIn K (.ref C) = true) (qexC : PySem.W.subIn K (.ref C) (.type "BaseException") = some true) (qtyC : PySem.W.typeIn K (.ref C) = some (.type "type")) (qhdC : PySem.W.hasDictIn K C = true)
    (qic : PySem.W.isClsIn K C = true) (qsC : PySem.W.subIn K (.ref C) (.ref C) = some true) (qsup : PySem.W.nsIn K mainGlobals "super" = some none) (qopq : PySem.W.nsIn K cStatics "thirdparty.any" = some none) (qsIn : PySem.W.ks_superIn K C C "__init__" = some (some (.builtin "ValueError.__init__"))) (qhB : PySem.W.subIn K (.ref C) (.type "ValueError") = some true)
    (qmro : PySem.W.mroIn K C (.ref C) = some true) (qtop : (l.prog.main.scope.names.lookup ("super" : Str)).isSome = false)
    (qfn : K.lookup fI = some ⟨Ioc, Iod, .func (PySem.W.fnX "__init__" "Refused.__init__" PySem.RfX.iA PySem.RfX.iB PySem.RfX.iS [("__class__", Icc)] .none .none Idoc Ipm Ian (.ref Ida) Ict), Isl⟩) (qcd : PySem.W.codeIn K (.ref Ida) "Refused.__init__" = true)
    (qco : K.lookup Ida = some ⟨Ic1, Id1, .fields Ivs, Is1⟩) (qvs : Ivs[2]? = some (.str Ifile Itf)) (qfile : ((l.prog.main.file : Str) == Ifile) = true) (qcell : K.lookup Icc = some ⟨Ic2, Id2, .cell (some (.ref C)), Is2⟩)
    : ∃ fd : FuncData, (∀ (s : Shared) (v : Value), BindsTo s fd ⟨[v], []⟩ [("script", v)]) ∧ ∀ base : Heap, K.In base → base.Ns mainGlobals mg → FnOk l.prog w K mg base CX0 21 fa fd ["script"] (spF K g_law) := by
  have e := hfa.symm.trans (PySem.W.mg_of X G a_law)
  cases e
  have F_turn_layer := fun_mk (st := s_turn_layer) l_turn_layer c_turn_layer k_turn_layer
  have b_turn_layer := F_turn_layer.binds (ps := ["layer", "axis"]) fun _ _ _ _ _ _ us hl => match us, hl with | [_, _], _ => rfl
  have F_sheet_packet := fun_mk (st := s_sheet_packet) l_sheet_packet c_sheet_packet k_sheet_packet
  have b_sheet_packet := F_sheet_packet.binds (ps := ["number", "rows", "columns"]) fun _ _ _ _ _ _ us hl => match us, hl with | [_, _, _], _ => rfl
  have F_size_of := fun_mk (st := s_size_of) l_size_of c_size_of k_size_of
  have b_size_of := F_size_of.binds (ps := ["packet"]) fun _ _ _ _ _ _ us hl => match us, hl with | [_], _ => rfl
  have F_turn_cell := fun_mk (st := s_turn_cell) l_turn_cell c_turn_cell k_turn_cell
  have b_turn_cell := F_turn_cell.binds (ps := ["cell", "axis"]) fun _ _ _ _ _ _ us hl => match us, hl with | [_, _], _ => rfl
  have F_turn := fun_mk (st := s_turn) l_turn c_turn k_turn
  have b_turn := F_turn.binds (ps := ["packet", "axis"]) fun _ _ _ _ _ _ us hl => match us, hl with | [_, _], _ => rfl
  have F_is_inside := fun_mk (st := s_is_inside) l_is_inside c_is_inside k_is_inside
  have b_is_inside := F_is_inside.binds (ps := ["packet", "edge", "line"]) fun _ _ _ _ _ _ us hl => match us, hl with | [_, _, _], _ => rfl
  have F_columns_from := fun_mk (st := s_columns_from) l_columns_from c_columns_from k_columns_from
  have b_columns_from := F_columns_from.binds (ps := ["packet", "first", "behind"]) fun _ _ _ _ _ _ us hl => match us, hl with | [_, _, _], _ => rfl
  have F_divide := fun_mk (st := s_divide) l_divide c_divide k_divide
  have b_divide := F_divide.binds (ps := ["packet", "edge", "line"]) fun _ _ _ _ _ _ us hl => match us, hl with | [_, _, _], _ => rfl
  have F_cut := fun_mk (st := s_cut) l_cut c_cut k_cut
  have b_cut := F_cut.binds (ps := ["packet", "edge", "line"]) fun _ _ _ _ _ _ us hl => match us, hl with | [_, _, _], _ => rfl
  have F_lay_row := fun_mk (st := s_lay_row) l_lay_row c_lay_row k_lay_row
  have b_lay_row := F_lay_row.binds (ps := ["upper", "lower"]) fun _ _ _ _ _ _ us hl => match us, hl with | [_, _], _ => rfl
  have F_lay := fun_mk (st := s_lay) l_lay c_lay k_lay
  have b_lay := F_lay.binds (ps := ["upper", "lower"]) fun _ _ _ _ _ _ us hl => match us, hl with | [_, _], _ => rfl
  have F_backwards := fun_mk (st := s_backwards) l_backwards c_backwards k_backwards
  have b_backwards := F_backwards.binds (ps := ["packet"]) fun _ _ _ _ _ _ us hl => match us, hl with | [_], _ => rfl
  have F_lay_at := fun_mk (st := s_lay_at) l_lay_at c_lay_at k_lay_at
  have b_lay_at := F_lay_at.binds (ps := ["part", "rest", "edge", "way"]) fun _ _ _ _ _ _ us hl => match us, hl with | [_, _, _, _], _ => rfl
  have F_fold := fun_mk (st := s_fold) l_fold c_fold k_fold
  have b_fold := F_fold.binds (ps := ["packet", "edge", "line", "way"]) fun _ _ _ _ _ _ us hl => match us, hl with | [_, _, _, _], _ => rfl
  have F_stack := fun_mk (st := s_stack) l_stack c_stack k_stack
  have b_stack := F_stack.binds (ps := ["packet", "edge", "line", "way"]) fun _ _ _ _ _ _ us hl => match us, hl with | [_, _, _, _], _ => rfl
  have F_pile := fun_mk (st := s_pile) l_pile c_pile k_pile
  have b_pile := F_pile.binds (ps := ["packets"]) fun _ _ _ _ _ _ us hl => match us, hl with | [_], _ => rfl
  have F_sheets_of := fun_mk (st := s_sheets_of) l_sheets_of c_sheets_of k_sheets_of
  have b_sheets_of := F_sheets_of.binds (ps := ["plan"]) fun _ _ _ _ _ _ us hl => match us, hl with | [_], _ => rfl
  have F_panel_count := fun_mk (st := s_panel_count) l_panel_count c_panel_count k_panel_count
  have b_panel_count := F_panel_count.binds (ps := ["sizes"]) fun _ _ _ _ _ _ us hl => match us, hl with | [_], _ => rfl
  have F_work_packet := fun_mk (st := s_work_packet) l_work_packet c_work_packet k_work_packet
  have b_work_packet := F_work_packet.binds (ps := ["packet", "instruction"]) fun _ _ _ _ _ _ us hl => match us, hl with | [_, _], _ => rfl
  have F_take := fun_mk (st := s_take) l_take c_take k_take
  have b_take := F_take.binds (ps := ["packets", "index"]) fun _ _ _ _ _ _ us hl => match us, hl with | [_, _], _ => rfl
  have F_pile_last := fun_mk (st := s_pile_last) l_pile_last c_pile_last k_pile_last
  have b_pile_last := F_pile_last.binds (ps := ["packets", "count"]) fun _ _ _ _ _ _ us hl => match us, hl with | [_, _], _ => rfl
  have F_work := fun_mk (st := s_work) l_work c_work k_work
  have b_work := F_work.binds (ps := ["packets", "instruction"]) fun _ _ _ _ _ _ us hl => match us, hl with | [_, _], _ => rfl
  have F_carry_out := fun_mk (st := s_carry_out) l_carry_out c_carry_out k_carry_out
  have b_carry_out := F_carry_out.binds (ps := ["plan"]) fun _ _ _ _ _ _ us hl => match us, hl with | [_], _ => rfl
  have F_packets_left := fun_mk (st := s_packets_left) l_packets_left c_packets_left k_packets_left
  have b_packets_left := F_packets_left.binds (ps := ["plan"]) fun _ _ _ _ _ _ us hl => match us, hl with | [_], _ => rfl
  have F_is_single_cell := fun_mk (st := s_is_single_cell) l_is_single_cell c_is_single_cell k_is_single_cell
  have b_is_single_cell := F_is_single_cell.binds (ps := ["packets"]) fun _ _ _ _ _ _ us hl => match us, hl with | [_], _ => rfl
  have F_evaluate := fun_mk (st := s_evaluate) l_evaluate c_evaluate k_evaluate
  have b_evaluate := F_evaluate.binds (ps := ["plan"]) fun _ _ _ _ _ _ us hl => match us, hl with | [_], _ => rfl
  have F_is_complete := fun_mk (st := s_is_complete) l_is_complete c_is_complete k_is_complete
  have b_is_complete := F_is_complete.binds (ps := ["plan"]) fun _ _ _ _ _ _ us hl => match us, hl with | [_], _ => rfl
  have F_leaf_order := fun_mk (st := s_leaf_order) l_leaf_order c_leaf_order k_leaf_order
  have b_leaf_order := F_leaf_order.binds (ps := ["plan"]) fun _ _ _ _ _ _ us hl => match us, hl with | [_], _ => rfl
  have F_Lcell := fun_mk (st := s_Lcell) l_Lcell c_Lcell k_Lcell
  have b_Lcell := F_Lcell.binds (ps := ["script", "k"]) fun _ _ _ _ _ _ us hl => match us, hl with | [_, _], _ => rfl
  have F_Ldraws := fun_mk (st := s_Ldraws) l_Ldraws c_Ldraws k_Ldraws
  have b_Ldraws := F_Ldraws.binds (ps := ["cell", "count"]) fun _ _ _ _ _ _ us hl => match us, hl with | [_, _], _ => rfl
  have F_Lflip := fun_mk (st := s_Lflip) l_Lflip c_Lflip k_Lflip
  have b_Lflip := F_Lflip.binds (ps := ["layer", "axis"]) fun _ _ _ _ _ _ us hl => match us, hl with | [_, _], _ => rfl
  have F_Lsheet := fun_mk (st := s_Lsheet) l_Lsheet c_Lsheet k_Lsheet
  have b_Lsheet := F_Lsheet.binds (ps := ["sheet", "rows", "columns"]) fun _ _ _ _ _ _ us hl => match us, hl with | [_, _, _], _ => rfl
  have F_Lturned := fun_mk (st := s_Lturned) l_Lturned c_Lturned k_Lturned
  have b_Lturned := F_Lturned.binds (ps := ["packet", "axis"]) fun _ _ _ _ _ _ us hl => match us, hl with | [_, _], _ => rfl
  have F_Lregion := fun_mk (st := s_Lregion) l_Lregion c_Lregion k_Lregion
  have b_Lregion := F_Lregion.binds (ps := ["packet", "top", "left", "rows", "columns"]) fun _ _ _ _ _ _ us hl => match us, hl with | [_, _, _, _, _], _ => rfl
  have F_Lsplit := fun_mk (st := s_Lsplit) l_Lsplit c_Lsplit k_Lsplit
  have b_Lsplit := F_Lsplit.binds (ps := ["packet", "edge", "line"]) fun _ _ _ _ _ _ us hl => match us, hl with | [_, _, _], _ => rfl
  have F_Llaid := fun_mk (st := s_Llaid) l_Llaid c_Llaid k_Llaid
  have b_Llaid := F_Llaid.binds (ps := ["part", "rest", "edge", "way"]) fun _ _ _ _ _ _ us hl => match us, hl with | [_, _, _, _], _ => rfl
  have F_Lmoved := fun_mk (st := s_Lmoved) l_Lmoved c_Lmoved k_Lmoved
  have b_Lmoved := F_Lmoved.binds (ps := ["packet", "step"]) fun _ _ _ _ _ _ us hl => match us, hl with | [_, _], _ => rfl
  have F_Linside := fun_mk (st := s_Linside) l_Linside c_Linside k_Linside
  have b_Linside := F_Linside.binds (ps := ["packet", "edge", "line"]) fun _ _ _ _ _ _ us hl => match us, hl with | [_, _, _], _ => rfl
  have F_Ltuples := fun_mk (st := s_Ltuples) l_Ltuples c_Ltuples k_Ltuples
  have b_Ltuples := F_Ltuples.binds (ps := ["packet"]) fun _ _ _ _ _ _ us hl => match us, hl with | [_], _ => rfl
  have F_Lstep := fun_mk (st := s_Lstep) l_Lstep c_Lstep k_Lstep
  have b_Lstep := F_Lstep.binds (ps := ["draws"]) fun _ _ _ _ _ _ us hl => match us, hl with | [_], _ => rfl
  have F_Lfinishing_steps := fun_mk (st := s_Lfinishing_steps) l_Lfinishing_steps c_Lfinishing_steps k_Lfinishing_steps
  have b_Lfinishing_steps := F_Lfinishing_steps.binds (ps := ["cell", "rows", "columns", "kinds"]) fun _ _ _ _ _ _ us hl => match us, hl with | [_, _, _, _], _ => rfl
  have F_Lcomplete_plan := fun_mk (st := s_Lcomplete_plan) l_Lcomplete_plan c_Lcomplete_plan k_Lcomplete_plan
  have b_Lcomplete_plan := F_Lcomplete_plan.binds (ps := ["script", "at", "kinds"]) fun _ _ _ _ _ _ us hl => match us, hl with | [_, _, _], _ => rfl
  have F_Lpiled := fun_mk (st := s_Lpiled) l_Lpiled c_Lpiled k_Lpiled
  have b_Lpiled := F_Lpiled.binds (ps := ["upper", "lower"]) fun _ _ _ _ _ _ us hl => match us, hl with | [_, _], _ => rfl
  have F_Lperformed := fun_mk (st := s_Lperformed) l_Lperformed c_Lperformed k_Lperformed
  have b_Lperformed := F_Lperformed.binds (ps := ["packets", "sheets", "step"]) fun _ _ _ _ _ _ us hl => match us, hl with | [_, _, _], _ => rfl
  have F_Lcarried := fun_mk (st := s_Lcarried) l_Lcarried c_Lcarried k_Lcarried
  have b_Lcarried := F_Lcarried.binds (ps := ["plan"]) fun _ _ _ _ _ _ us hl => match us, hl with | [_], _ => rfl
  have F_Lsheets := fun_mk (st := s_Lsheets) l_Lsheets c_Lsheets k_Lsheets
  have b_Lsheets := F_Lsheets.binds (ps := ["plan"]) fun _ _ _ _ _ _ us hl => match us, hl with | [_], _ => rfl
  have F_Lany_step := fun_mk (st := s_Lany_step) l_Lany_step c_Lany_step k_Lany_step
  have b_Lany_step := F_Lany_step.binds (ps := ["cell"]) fun _ _ _ _ _ _ us hl => match us, hl with | [_], _ => rfl
  have F_Lasked__evaluate := fun_mk (st := s_Lasked__evaluate) l_Lasked__evaluate c_Lasked__evaluate k_Lasked__evaluate
  have b_Lasked__evaluate := F_Lasked__evaluate.binds (ps := ["function", "plan"]) fun _ _ _ _ _ _ us hl => match us, hl with | [_, _], _ => rfl
  have F_Lasked__is_complete := fun_mk (st := s_Lasked__is_complete) l_Lasked__is_complete c_Lasked__is_complete k_Lasked__is_complete
  have b_Lasked__is_complete := F_Lasked__is_complete.binds (ps := ["function", "plan"]) fun _ _ _ _ _ _ us hl => match us, hl with | [_, _], _ => rfl
  have F_Lasked__leaf_order := fun_mk (st := s_Lasked__leaf_order) l_Lasked__leaf_order c_Lasked__leaf_order k_Lasked__leaf_order
  have b_Lasked__leaf_order := F_Lasked__leaf_order.binds (ps := ["function", "plan"]) fun _ _ _ _ _ _ us hl => match us, hl with | [_, _], _ => rfl
  have F_law := fun_mk (st := s_law) l_law c_law k_law
  have b_law := F_law.binds (ps := ["script"]) fun _ _ _ _ _ _ us hl => match us, hl with | [_], _ => rfl
  have T : PySem.RfX.RfTxt l.prog K mg C fI :=
    { gC := PySem.W.mg_of X G qgC, cls := ⟨Cnm, Cq, CN, Cbs, Cbm, Csn, Csub, Cab, Ccol, Cdd, Ck0, Ck1, Ck2, Ck3, Ck5, qcls, qbm⟩, sa := qsa, ga := qga, gg := qgg, noN := qnoN, iC := qiC, tC := qtC, kC := qkC, exC := qexC, tyC := qtyC, hdC := qhdC, te := L2.exm_selfR qexC qic qtyC qsC, sup := PySem.W.mg_none_of X G qsup, opq := qopq, sIn := qsIn, hB := qhB, mro := qmro, top := qtop,
      fn := ⟨_, _, _, _, _, _, _, _, _, _, _, _, _, _, _, _, _, _, qfn, qcd, qco, qvs, qfile, qcell⟩ }
  refine ⟨PySem.W.fnOf "law" "law" (defArgs s_law) (defBody s_law) (defScope s_law) .none kV_law dc_law pm_law an_law cd_law ct_law, fun s v => .of_eq rfl, fun base _ _ => ?_⟩
  have H_turn_layer := ok_turn_layer (P := l.prog) (w := w) (mg := mg) (base := base) F_turn_layer
  have H_sheet_packet := ok_sheet_packet (P := l.prog) (w := w) (mg := mg) (base := base) F_sheet_packet (PySem.W.mg_none_of X G z_range) (PySem.W.mg_none_of X G z_tuple)
  have H_size_of := ok_size_of (P := l.prog) (w := w) (mg := mg) (base := base) F_size_of (PySem.W.mg_none_of X G z_len)
  have H_turn_cell := ok_turn_cell (P := l.prog) (w := w) (mg := mg) (base := base) F_turn_cell H_turn_layer (PySem.W.mg_of X G a_turn_layer) k_turn_layer b_turn_layer (PySem.W.mg_none_of X G z_tuple)
  have H_turn := ok_turn (P := l.prog) (w := w) (mg := mg) (base := base) F_turn H_turn_cell (PySem.W.mg_of X G a_turn_cell) k_turn_cell b_turn_cell (PySem.W.mg_none_of X G z_tuple)
  have H_is_inside := ok_is_inside (P := l.prog) (w := w) (mg := mg) (base := base) F_is_inside H_size_of (PySem.W.mg_of X G a_size_of) k_size_of b_size_of
  have H_columns_from := ok_columns_from (P := l.prog) (w := w) (mg := mg) (base := base) F_columns_from (PySem.W.mg_none_of X G z_tuple)
  have H_divide := ok_divide (P := l.prog) (w := w) (mg := mg) (base := base) F_divide H_size_of (PySem.W.mg_of X G a_size_of) k_size_of b_size_of H_columns_from (PySem.W.mg_of X G a_columns_from) k_columns_from b_columns_from
  have H_cut := ok_cut (P := l.prog) (w := w) (mg := mg) (base := base) F_cut T H_is_inside (PySem.W.mg_of X G a_is_inside) k_is_inside b_is_inside H_divide (PySem.W.mg_of X G a_divide) k_divide b_divide
  have H_lay_row := ok_lay_row (P := l.prog) (w := w) (mg := mg) (base := base) F_lay_row (PySem.W.mg_none_of X G z_zip) (PySem.W.mg_none_of X G z_tuple) (PySem.W.mg_none_of X G z_len)
  have H_lay := ok_lay (P := l.prog) (w := w) (mg := mg) (base := base) F_lay H_lay_row (PySem.W.mg_of X G a_lay_row) k_lay_row b_lay_row (PySem.W.mg_none_of X G z_zip) (PySem.W.mg_none_of X G z_tuple) (PySem.W.mg_none_of X G z_len)
  have H_backwards := ok_backwards (P := l.prog) (w := w) (mg := mg) (base := base) F_backwards (PySem.W.mg_none_of X G z_tuple)
  have H_lay_at := ok_lay_at (P := l.prog) (w := w) (mg := mg) (base := base) F_lay_at H_lay (PySem.W.mg_of X G a_lay) k_lay b_lay H_backwards (PySem.W.mg_of X G a_backwards) k_backwards b_backwards
  have H_fold := ok_fold (P := l.prog) (w := w) (mg := mg) (base := base) F_fold T H_cut (PySem.W.mg_of X G a_cut) k_cut b_cut H_lay_at (PySem.W.mg_of X G a_lay_at) k_lay_at b_lay_at H_turn (PySem.W.mg_of X G a_turn) k_turn b_turn
  have H_stack := ok_stack (P := l.prog) (w := w) (mg := mg) (base := base) F_stack T H_cut (PySem.W.mg_of X G a_cut) k_cut b_cut H_lay_at (PySem.W.mg_of X G a_lay_at) k_lay_at b_lay_at
  have H_pile := ok_pile (P := l.prog) (w := w) (mg := mg) (base := base) F_pile T H_size_of (PySem.W.mg_of X G a_size_of) k_size_of b_size_of H_lay (PySem.W.mg_of X G a_lay) k_lay b_lay (PySem.W.mg_none_of X G z_any)
  have H_sheets_of := ok_sheets_of (P := l.prog) (w := w) (mg := mg) (base := base) F_sheets_of
  have H_panel_count := ok_panel_count (P := l.prog) (w := w) (mg := mg) (base := base) F_panel_count (PySem.W.mg_none_of X G z_sum)
  have H_work_packet := ok_work_packet (P := l.prog) (w := w) (mg := mg) (base := base) F_work_packet T H_turn (PySem.W.mg_of X G a_turn) k_turn b_turn H_cut (PySem.W.mg_of X G a_cut) k_cut b_cut H_fold (PySem.W.mg_of X G a_fold) k_fold b_fold H_stack (PySem.W.mg_of X G a_stack) k_stack b_stack (PySem.W.mg_none_of X G z_list)
  have H_take := ok_take (P := l.prog) (w := w) (mg := mg) (base := base) F_take T (PySem.W.mg_none_of X G z_len)
  have H_pile_last := ok_pile_last (P := l.prog) (w := w) (mg := mg) (base := base) F_pile_last T H_pile (PySem.W.mg_of X G a_pile) k_pile b_pile (PySem.W.mg_none_of X G z_len)
  have H_work := ok_work (P := l.prog) (w := w) (mg := mg) (base := base) F_work T H_take (PySem.W.mg_of X G a_take) k_take b_take H_pile_last (PySem.W.mg_of X G a_pile_last) k_pile_last b_pile_last H_work_packet (PySem.W.mg_of X G a_work_packet) k_work_packet b_work_packet
  have H_carry_out := ok_carry_out (P := l.prog) (w := w) (mg := mg) (base := base) F_carry_out T H_sheet_packet (PySem.W.mg_of X G a_sheet_packet) k_sheet_packet b_sheet_packet H_work (PySem.W.mg_of X G a_work) k_work b_work
  have H_packets_left := ok_packets_left (P := l.prog) (w := w) (mg := mg) (base := base) F_packets_left T H_panel_count (PySem.W.mg_of X G a_panel_count) k_panel_count b_panel_count H_sheets_of (PySem.W.mg_of X G a_sheets_of) k_sheets_of b_sheets_of H_carry_out (PySem.W.mg_of X G a_carry_out) k_carry_out b_carry_out (PySem.W.mg_of X G y_MOST_PANELS)
  have H_is_single_cell := ok_is_single_cell (P := l.prog) (w := w) (mg := mg) (base := base) F_is_single_cell H_size_of (PySem.W.mg_of X G a_size_of) k_size_of b_size_of
  have H_evaluate := ok_evaluate (P := l.prog) (w := w) (mg := mg) (base := base) F_evaluate T H_packets_left (PySem.W.mg_of X G a_packets_left) k_packets_left b_packets_left
  have H_is_complete := ok_is_complete (P := l.prog) (w := w) (mg := mg) (base := base) F_is_complete T H_packets_left (PySem.W.mg_of X G a_packets_left) k_packets_left b_packets_left H_is_single_cell (PySem.W.mg_of X G a_is_single_cell) k_is_single_cell b_is_single_cell
  have H_leaf_order := ok_leaf_order (P := l.prog) (w := w) (mg := mg) (base := base) F_leaf_order T H_evaluate (PySem.W.mg_of X G a_evaluate) k_evaluate b_evaluate H_is_single_cell (PySem.W.mg_of X G a_is_single_cell) k_is_single_cell b_is_single_cell
  have H_Lcell := ok_Lcell (P := l.prog) (w := w) (mg := mg) (base := base) F_Lcell (PySem.W.mg_none_of X G z_len)
  have H_Ldraws := ok_Ldraws (P := l.prog) (w := w) (mg := mg) (base := base) F_Ldraws (PySem.W.mg_none_of X G z_range)
  have H_Lflip := ok_Lflip (P := l.prog) (w := w) (mg := mg) (base := base) F_Lflip
  have H_Lsheet := ok_Lsheet (P := l.prog) (w := w) (mg := mg) (base := base) F_Lsheet (PySem.W.mg_none_of X G z_range)
  have H_Lturned := ok_Lturned (P := l.prog) (w := w) (mg := mg) (base := base) F_Lturned H_Lflip (PySem.W.mg_of X G a_Lflip) k_Lflip b_Lflip
  have H_Lregion := ok_Lregion (P := l.prog) (w := w) (mg := mg) (base := base) F_Lregion (PySem.W.mg_none_of X G z_range)
  have H_Lsplit := ok_Lsplit (P := l.prog) (w := w) (mg := mg) (base := base) F_Lsplit H_Lregion (PySem.W.mg_of X G a_Lregion) k_Lregion b_Lregion
  have H_Llaid := ok_Llaid (P := l.prog) (w := w) (mg := mg) (base := base) F_Llaid (PySem.W.mg_none_of X G z_max) (PySem.W.mg_none_of X G z_range)
  have H_Lmoved := ok_Lmoved (P := l.prog) (w := w) (mg := mg) (base := base) F_Lmoved H_Lsplit (PySem.W.mg_of X G a_Lsplit) k_Lsplit b_Lsplit H_Lturned (PySem.W.mg_of X G a_Lturned) k_Lturned b_Lturned H_Llaid (PySem.W.mg_of X G a_Llaid) k_Llaid b_Llaid
  have H_Linside := ok_Linside (P := l.prog) (w := w) (mg := mg) (base := base) F_Linside
  have H_Ltuples := ok_Ltuples (P := l.prog) (w := w) (mg := mg) (base := base) F_Ltuples (PySem.W.mg_none_of X G z_range) (PySem.W.mg_none_of X G z_tuple)
  have H_Lstep := ok_Lstep (P := l.prog) (w := w) (mg := mg) (base := base) F_Lstep
  have H_Lfinishing_steps := ok_Lfinishing_steps (P := l.prog) (w := w) (mg := mg) (base := base) F_Lfinishing_steps H_Ldraws (PySem.W.mg_of X G a_Ldraws) k_Ldraws b_Ldraws (PySem.W.mg_none_of X G z_len) (PySem.W.mg_none_of X G z_max)
  have H_Lcomplete_plan := ok_Lcomplete_plan (P := l.prog) (w := w) (mg := mg) (base := base) F_Lcomplete_plan H_Lcell (PySem.W.mg_of X G a_Lcell) k_Lcell b_Lcell H_Ldraws (PySem.W.mg_of X G a_Ldraws) k_Ldraws b_Ldraws H_Lfinishing_steps (PySem.W.mg_of X G a_Lfinishing_steps) k_Lfinishing_steps b_Lfinishing_steps (PySem.W.mg_none_of X G z_range)
  have H_Lpiled := ok_Lpiled (P := l.prog) (w := w) (mg := mg) (base := base) F_Lpiled
  have H_Lperformed := ok_Lperformed (P := l.prog) (w := w) (mg := mg) (base := base) F_Lperformed H_Lsheet (PySem.W.mg_of X G a_Lsheet) k_Lsheet b_Lsheet H_Lpiled (PySem.W.mg_of X G a_Lpiled) k_Lpiled b_Lpiled H_Lturned (PySem.W.mg_of X G a_Lturned) k_Lturned b_Lturned H_Linside (PySem.W.mg_of X G a_Linside) k_Linside b_Linside H_Lsplit (PySem.W.mg_of X G a_Lsplit) k_Lsplit b_Lsplit H_Lmoved (PySem.W.mg_of X G a_Lmoved) k_Lmoved b_Lmoved (PySem.W.mg_none_of X G z_len)
  have H_Lcarried := ok_Lcarried (P := l.prog) (w := w) (mg := mg) (base := base) F_Lcarried H_Lperformed (PySem.W.mg_of X G a_Lperformed) k_Lperformed b_Lperformed (PySem.W.mg_none_of X G z_isinstance) (PySem.W.mg_none_of X G z_str) (PySem.W.mg_none_of X G z_int)
  have H_Lsheets := ok_Lsheets (P := l.prog) (w := w) (mg := mg) (base := base) F_Lsheets
  have H_Lany_step := ok_Lany_step (P := l.prog) (w := w) (mg := mg) (base := base) F_Lany_step H_Ldraws (PySem.W.mg_of X G a_Ldraws) k_Ldraws b_Ldraws H_Lstep (PySem.W.mg_of X G a_Lstep) k_Lstep b_Lstep
  have H_Lasked__evaluate := ok_Lasked__evaluate (P := l.prog) (w := w) (mg := mg) (base := base) F_Lasked__evaluate T H_evaluate (PySem.W.mg_of X G a_evaluate) k_evaluate b_evaluate
  have H_Lasked__is_complete := ok_Lasked__is_complete (P := l.prog) (w := w) (mg := mg) (base := base) F_Lasked__is_complete T H_is_complete (PySem.W.mg_of X G a_is_complete) k_is_complete b_is_complete
  have H_Lasked__leaf_order := ok_Lasked__leaf_order (P := l.prog) (w := w) (mg := mg) (base := base) F_Lasked__leaf_order T H_leaf_order (PySem.W.mg_of X G a_leaf_order) k_leaf_order b_leaf_order
  have H_law := ok_law (P := l.prog) (w := w) (mg := mg) (base := base) F_law T H_Lcell (PySem.W.mg_of X G a_Lcell) k_Lcell b_Lcell H_Lany_step (PySem.W.mg_of X G a_Lany_step) k_Lany_step b_Lany_step H_Lcomplete_plan (PySem.W.mg_of X G a_Lcomplete_plan) k_Lcomplete_plan b_Lcomplete_plan H_sheets_of (PySem.W.mg_of X G a_sheets_of) k_sheets_of b_sheets_of H_Lsheets (PySem.W.mg_of X G a_Lsheets) k_Lsheets b_Lsheets H_Lcarried (PySem.W.mg_of X G a_Lcarried) k_Lcarried b_Lcarried H_Ltuples (PySem.W.mg_of X G a_Ltuples) k_Ltuples b_Ltuples H_leaf_order (PySem.W.mg_of X G a_leaf_order) k_leaf_order b_leaf_order H_Lasked__leaf_order (PySem.W.mg_of X G a_Lasked__leaf_order) k_Lasked__leaf_order b_Lasked__leaf_order H_is_complete (PySem.W.mg_of X G a_is_complete) k_is_complete b_is_complete H_Lasked__is_complete (PySem.W.mg_of X G a_Lasked__is_complete) k_Lasked__is_complete b_Lasked__is_complete H_evaluate (PySem.W.mg_of X G a_evaluate) k_evaluate b_evaluate H_Lasked__evaluate (PySem.W.mg_of X G a_Lasked__evaluate) k_Lasked__evaluate b_Lasked__evaluate (PySem.W.mg_none_of X G z_range) (PySem.W.mg_none_of X G z_list) (PySem.W.mg_none_of X G z_sum) (PySem.W.mg_none_of X G z_isinstance) (PySem.W.mg_none_of X G z_str) (PySem.W.mg_none_of X G z_len) (PySem.W.mg_none_of X G z_tuple)
  exact H_law
end K36

namespace K36
open PySem PySem.Spec PyProof.Rows L2 Mir
theorem xSeq_nx {s t : En → OutX} {env e : En} (h : s env = .nx e) : xSeq s t env = t e := by
  unfold xSeq
  rw [h]
/-! the law's draws -/
theorem cell_ev (ns : List Int) (k : Nat) : g_Lcell [.list (ns.map .int), .int k] = some (.int (ns.getD k 0)) := by
  show outD (f_Lcell [.val (.list (ns.map .int)), .val (.int k)]) = _
  by_cases h : k < ns.length
  · have e1 : atI (ns.map PyData.int) (k : Int) = some (.int (ns.getD k 0)) := atI_map _ _ _ _ (by simp [List.getD, h])
    simp [f_Lcell, sSeq, sIf, t1, e2, eVar, eCall, aCons, aNil, lenA, ltD, i2, h, sRet, ixG, e1, outD]
  · have e1 : ns.getD k 0 = 0 := by simp [List.getD, List.getElem?_eq_none (Nat.le_of_not_lt h)]
    simp [f_Lcell, sSeq, sIf, t1, e2, eVar, eCall, aCons, aNil, lenA, ltD, i2, h, sRet, ixG, e1, outD, sNil, eC]
theorem pow18 : ∃ z : Int, powD (.int 10) (.int 18) = some (.int z) := by
  refine ⟨10 ^ (18 : Int).toNat, ?_⟩
  show (if CPow 10 18 then some (PyData.int (10 ^ (18 : Int).toNat)) else none) = _
  rw [if_pos ⟨by decide, by decide, by decide⟩]
theorem z1 (c z : Int) (n : Nat) (hp : powD (.int 10) (.int 18) = some (.int z)) : sSet 3 (e2 geD (eVar 0) (e2 powD (eC (.int 10)) (eC (.int 18)))) [.val (.int c), .val (.int n), .own [], .un, .un, .un] = .nx [.val (.int c), .val (.int n), .own [], .val (.bool (decide (z ≤ c))), .un, .un] := sSet_ev (e2_ev rfl (e2_ev rfl rfl hp) (geD_int c z))
theorem z2 (c z : Int) (n : Nat) (hn : n ≤ 1000) : iR1 (aCons (eVar 1) aNil) [.val (.int c), .val (.int n), .own [], .val (.bool (decide (z ≤ c))), .un, .un] = some (rngD 0 n) := by
    have := iR1_ev (fa := aCons (eVar 1) aNil) (env := [.val (.int c), .val (.int n), .own [], .val (.bool (decide (z ≤ c))), .un, .un]) (N := n) rfl (by omega) (by omega)
    rw [Int.toNat_natCast] at this
    exact this
theorem z3 (c z c' : Int) (n : Nat) (hn : n ≤ 1000) (ds : List Int) (x y : Sl) (h1 : loopF (gVal 4) b_Ldraws_1 (rngD 0 n) [.val (.int c), .val (.int n), .own [], .val (.bool (decide (z ≤ c))), .un, .un] = .nx [.val (.int c'), .val (.int n), .own (ds.map PyData.int), .val (.bool (decide (z ≤ c))), x, y])
 (hp : powD (.int 10) (.int 18) = some (.int z)) : f_Ldraws [.val (.int c), .val (.int n), .un, .un, .un, .un] = .rt (.list (ds.map PyData.int)) := by
    have k1 : sOwn 2 (fLst aNil) [.val (.int c), .val (.int n), .un, .un, .un, .un] = .nx [.val (.int c), .val (.int n), .own [], .un, .un, .un] := rfl
    unfold f_Ldraws
    rw [sSeq_nx k1, sSeq_nx (z1 c z n hp), sSeq_nx (sFor_ev (z2 c z n hn) h1)]
    rfl
theorem z4 (c : Int) (n : Nat) (ds : List Int) (this : f_Ldraws [.val (.int c), .val (.int n), .un, .un, .un, .un] = .rt (.list (ds.map PyData.int))) : g_Ldraws [.int c, .int n] = some (.list (ds.map PyData.int)) := gDef_ev (fB := f_Ldraws) rfl this
theorem draws_key (c : Int) (n : Nat) (hn : n ≤ 1000) (wide : Bool) : ∃ (c' : Int) (ds : List Int) (x y : Sl), loopF (gVal 4) b_Ldraws_1 (rngD 0 n) [.val (.int c), .val (.int n), .own [], .val (.bool wide), .un, .un] = .nx [.val (.int c'), .val (.int n), .own (ds.map .int), .val (.bool wide), x, y] ∧ ds.length = n ∧ ∀ d ∈ ds, 0 ≤ d ∧ d < 1000003 := by
  have key : ∃ e', loopF (gVal 4) b_Ldraws_1 (rngD 0 n) [.val (.int c), .val (.int n), .own [], .val (.bool wide), .un, .un] = .nx e' ∧
      (∃ (c' : Int) (ds : List Int) (x y : Sl), e' = [.val (.int c'), .val (.int n), .own (ds.map .int), .val (.bool wide), x, y] ∧ ds.length = n ∧ ∀ d ∈ ds, 0 ≤ d ∧ d < 1000003) := by
    refine loop_rng (fun j e => ∃ (c' : Int) (ds : List Int) (x y : Sl), e = [.val (.int c'), .val (.int n), .own (ds.map .int), .val (.bool wide), x, y] ∧ ds.length = j ∧ ∀ d ∈ ds, 0 ≤ d ∧ d < 1000003) ?_ ⟨c, [], .un, .un, rfl, rfl, fun d h => by cases h⟩
    rintro j e hj ⟨c', ds, x, y, rfl, hd, hb⟩
    obtain ⟨k, hk⟩ : ∃ k : Int, k = 0 + (j : Nat) := ⟨_, rfl⟩
    have hk1 : 0 ≤ k ∧ k < 1000 := by omega
    rw [← hk]
    refine ⟨[.val (.int c'), .val (.int n), .own (ds.map .int), .val (.bool wide), .val (.int k), y], rfl, ?_⟩
    have hl : ds.length < 1000000 := by omega
    cases wide with
    | true =>
      refine ⟨_, .inl (show b_Ldraws_1 _ = .nx [.val (.int (c' / 1009)), .val (.int n), .own ((ds ++ [c' % 1009]).map .int), .val (.bool true), .val (.int k), y] from ?_), c' / 1009, ds ++ [c' % 1009], .val (.int k), y, rfl, by simp [hd], ?_⟩
      · unfold b_Ldraws_1
        rw [sIf_t (by rfl)]
        exact draw_t' 1009 c' n ds _ _ y hl (by decide) (by decide)
      · intro d h
        rcases List.mem_append.mp h with h | h
        · exact hb d h
        · rw [List.mem_singleton.mp h]
          have h1 := Int.emod_nonneg c' (show (1009 : Int) ≠ 0 by decide)
          have h2 := Int.emod_lt_of_pos c' (show (0 : Int) < 1009 by decide)
          omega
    | false =>
      obtain ⟨m, hm⟩ : ∃ m : Int, (c' * 48271 + k * 69621) % 2147483647 = m := ⟨_, rfl⟩
      have hm1 : 0 ≤ m := by rw [← hm]; exact Int.emod_nonneg _ (by decide)
      have hm2 : m < 2147483647 := by rw [← hm]; exact Int.emod_lt_of_pos _ (by decide)
      obtain ⟨v, hv⟩ : ∃ v : Int, (m * m + c' * 31 + k) % 1000003 = v := ⟨_, rfl⟩
      have hv1 : 0 ≤ v := by rw [← hv]; exact Int.emod_nonneg _ (by decide)
      have hv2 : v < 1000003 := by rw [← hv]; exact Int.emod_lt_of_pos _ (by decide)
      refine ⟨_, .inl (show b_Ldraws_1 _ = .nx [.val (.int c'), .val (.int n), .own ((ds ++ [v]).map .int), .val (.bool false), .val (.int k), .val (.int m)] from ?_), c', ds ++ [v], .val (.int k), .val (.int m), rfl, by simp [hd], ?_⟩
      · unfold b_Ldraws_1
        rw [sIf_f (by rfl)]
        rw [sSeq_nx (draw_s1' 48271 69621 2147483647 c' m k n ds _ y (.inr (by omega)) (.inr (by omega)) (by decide) hm)]
        rw [← hv]
        exact draw_s2' 31 1000003 0 c' m k n ds _ hl (.inr (by omega)) (.inl (by omega)) (by decide)
      · intro d h
        rcases List.mem_append.mp h with h | h
        · exact hb d h
        · rw [List.mem_singleton.mp h]
          exact ⟨hv1, hv2⟩
  obtain ⟨e', h1, c', ds, x, y, rfl, h2, h3⟩ := key
  exact ⟨c', ds, x, y, h1, h2, h3⟩
theorem draws_ev (c : Int) (n : Nat) (hn : n ≤ 1000) : ∃ ds : List Int, g_Ldraws [.int c, .int n] = some (.list (ds.map .int)) ∧ ds.length = n ∧ ∀ d ∈ ds, 0 ≤ d ∧ d < 1000003 := by
  obtain ⟨z, hp⟩ := pow18
  obtain ⟨c', ds, x, y, h1, h2, h3⟩ := draws_key c n hn (decide (z ≤ c))
  exact ⟨ds, z4 c n ds (z3 c z c' n hn ds x y h1 hp), h2, h3⟩
/-! layers, cells, packets -/
abbrev Lay := Int × Int × Int × Bool × Bool
def layD (l : Lay) : PyData := .tuple [.int l.1, .int l.2.1, .int l.2.2.1, .bool l.2.2.2.1, .bool l.2.2.2.2]
abbrev Mk := List Lay
abbrev Side := List (List Mk)
def markD (m : Mk) : PyData := .tuple (m.map layD)
def rowD (r : List Mk) : PyData := .tuple (r.map markD)
def sideD (s : Side) : PyData := .tuple (s.map rowD)
theorem revT_ev {f : En → Option PyData} {env : En} {ds : List PyData} (h : f env = some (.tuple ds)) : iSeq (eRev f (e1 negD (eC (.int 1)))) env = some ds.reverse := by
  have e : eRev f (e1 negD (eC (.int 1))) env = some (.tuple ds.reverse) := by
    unfold eRev
    rw [h]
    rfl
  unfold iSeq
  rw [e]
theorem rev1_ev {f : En → Option PyData} {env : En} {ds : List PyData} (h : f env = some (.tuple ds)) : eRev f (e1 negD (eC (.int 1))) env = some (.tuple ds.reverse) := by
  unfold eRev
  rw [h]
  rfl
theorem revK_ev {f g : En → Option PyData} {env : En} {ds : List PyData} (b : Bool) (h : f env = some (.tuple ds)) (hg : g env = some (.int (if b then 1 else -1))) : eRev f g env = some (.tuple (if b then ds else ds.reverse)) := by
  unfold eRev
  rw [h, hg]
  cases b <;> rfl
theorem revL_ev {f : En → Option PyData} {env : En} {ds : List PyData} (h : f env = some (.list ds)) : eRev f (e1 negD (eC (.int 1))) env = some (.list ds.reverse) := by
  unfold eRev
  rw [h]
  rfl
theorem seqT_ev {f : En → Option PyData} {env : En} {ds : List PyData} (h : f env = some (.tuple ds)) : iSeq f env = some ds := by
  unfold iSeq
  rw [h]
theorem tup_ev {fa : En → Option (List PyData)} {env : En} {ds : List PyData} (h : fa env = some ds) : eCall tupA (aCons (eL fa) aNil) env = some (.tuple ds) := eCall_ev (aCons_ev (eL_ev h) aNil_ev) rfl
/-! shapes -/
theorem lay_lay : ∀ r : List Lay, PyData.canLayAll0 (r.map layD) = true ∧ PyData.depthAll (r.map layD) ≤ 1
  | [] => ⟨rfl, Nat.zero_le _⟩
  | l :: r => by
    obtain ⟨h1, h2⟩ := lay_lay r
    rw [List.map_cons]
    refine ⟨?_, ?_⟩
    · simp [layD, PyData.canLayAll0, PyData.canLay0, h1]
    · simp [layD, PyData.depthAll, PyData.depth]
      omega
theorem mk_lay : ∀ r : List Mk, PyData.canLayAll0 (r.map markD) = true ∧ PyData.depthAll (r.map markD) ≤ 2
  | [] => ⟨rfl, Nat.zero_le _⟩
  | l :: r => by
    obtain ⟨h1, h2⟩ := mk_lay r
    obtain ⟨k1, k2⟩ := lay_lay l
    rw [List.map_cons]
    refine ⟨?_, ?_⟩
    · simp [markD, PyData.canLayAll0, PyData.canLay0, h1, k1]
    · simp [markD, PyData.depthAll, PyData.depth]
      omega
theorem side_lay : ∀ r : Side, PyData.canLayAll0 (r.map rowD) = true ∧ PyData.depthAll (r.map rowD) ≤ 3
  | [] => ⟨rfl, Nat.zero_le _⟩
  | l :: r => by
    obtain ⟨h1, h2⟩ := side_lay r
    obtain ⟨k1, k2⟩ := mk_lay l
    rw [List.map_cons]
    refine ⟨?_, ?_⟩
    · simp [rowD, PyData.canLayAll0, PyData.canLay0, h1, k1]
    · simp [rowD, PyData.depthAll, PyData.depth]
      omega
theorem shaped_side (s : Side) : SeqAt.shaped (sideD s) = true := by
  obtain ⟨h1, h2⟩ := side_lay s
  unfold SeqAt.shaped sideD
  simp [PyData.canLay0, h1, PyData.depth]
  omega
theorem shaped_2 (s u : Side) : SeqAt.shaped (.tuple [sideD s, sideD u]) = true := by
  obtain ⟨h1, h2⟩ := side_lay s
  obtain ⟨h3, h4⟩ := side_lay u
  unfold SeqAt.shaped sideD
  simp [PyData.canLay0, PyData.canLayAll0, h1, h3, PyData.depth, PyData.depthAll]
  omega
/-! turning -/
def is3 (x : Str) : Prop := x = "vertical" ∨ x = "horizontal" ∨ x = "both"
def flL (x : Str) (l : Lay) : Lay := (l.1, l.2.1, l.2.2.1, (if x = "horizontal" then l.2.2.2.1 else !l.2.2.2.1), (if x = "vertical" then l.2.2.2.2 else !l.2.2.2.2))
theorem flL_v (l : Lay) : flL "vertical" l = (l.1, l.2.1, l.2.2.1, !l.2.2.2.1, l.2.2.2.2) := by
  unfold flL
  rw [if_neg (by decide +kernel), if_pos rfl]
theorem flL_h (l : Lay) : flL "horizontal" l = (l.1, l.2.1, l.2.2.1, l.2.2.2.1, !l.2.2.2.2) := by
  unfold flL
  rw [if_pos rfl, if_neg (by decide +kernel)]
theorem flL_b (l : Lay) : flL "both" l = (l.1, l.2.1, l.2.2.1, !l.2.2.2.1, !l.2.2.2.2) := by
  unfold flL
  rw [if_neg (by decide +kernel), if_neg (by decide +kernel)]
theorem tl_ev {x : Str} (hx : is3 x) (l : Lay) : g_turn_layer [layD l, .str x] = some (layD (flL x l)) := by
  obtain ⟨s, r, c, m, t⟩ := l
  rcases hx with rfl | rfl | rfl
  · rw [flL_v]; cases m <;> cases t <;> kernel_rfl
  · rw [flL_h]; cases m <;> cases t <;> kernel_rfl
  · rw [flL_b]; cases m <;> cases t <;> kernel_rfl
theorem lf_ev {x : Str} (hx : is3 x) (l : Lay) : g_Lflip [layD l, .str x] = some (layD (flL x l)) := by
  obtain ⟨s, r, c, m, t⟩ := l
  rcases hx with rfl | rfl | rfl
  · rw [flL_v]; cases m <;> cases t <;> kernel_rfl
  · rw [flL_h]; cases m <;> cases t <;> kernel_rfl
  · rw [flL_b]; cases m <;> cases t <;> kernel_rfl
def tcM (x : Str) (c : Mk) : Mk := if x = "both" then c.map (flL x) else (c.map (flL x)).reverse
def tP (x : Str) (p : Side) : Side := (if x = "vertical" then p else p.reverse).map fun r => (if x = "horizontal" then r else r.reverse).map (tcM x)
theorem eqS_ev {env : En} {g : En → Option PyData} {x y : Str} (hx : is3 x) (hy : is3 y) (hg : g env = some (.str x)) : t1 (e2 eqD g (eC (.str y))) env = some (decide (x = y)) := by
  unfold t1 e2
  rw [hg]
  rcases hx with rfl | rfl | rfl <;> rcases hy with rfl | rfl | rfl <;> kernel_rfl
theorem tcell_ev {x : Str} (hx : is3 x) (c : Mk) (h : c.length ≤ 1000) : g_turn_cell [markD c, .str x] = some (markD (tcM x c)) := by
  refine gDef_ev' (fB := f_turn_cell) [.val (markD c), .val (.str x), .un, .un] rfl rfl ?_
  unfold f_turn_cell
  refine (sSeq_nx (e := [.val (markD c), .val (.str x), .val (.tuple ((c.map (flL x)).map layD)), .un]) (sSet_ev ((tup_ev (fCmp_ev (ds := c.map layD) (vs := c.map fun l => layD (flL x l)) (seqT_ev rfl) ?_ (by simp; omega))).trans (by rw [List.map_map]; rfl)))).trans ?_
  · exact compF_mapS fun l hl => ⟨_, rfl, eCall_ev (aCons_ev rfl (aCons_ev rfl aNil_ev)) (tl_ev hx l)⟩
  · unfold tcM
    by_cases hb : x = "both"
    · rw [if_pos hb]
      exact sRet_ev (eIf_t ((eqS_ev hx (.inr (.inr rfl)) rfl).trans (by rw [decide_eq_true hb])) rfl)
    · rw [if_neg hb]
      refine sRet_ev (eIf_f ((eqS_ev hx (.inr (.inr rfl)) rfl).trans (by rw [decide_eq_false hb])) ((rev1_ev rfl).trans ?_))
      unfold markD
      rw [List.map_reverse]
def smS (s : Side) : Prop := s.length ≤ 1000 ∧ ∀ r ∈ s, r.length ≤ 1000 ∧ ∀ c ∈ r, c.length ≤ 1000
theorem turn_ev {x : Str} (hx : is3 x) (p : Side) (h : smS p) : g_turn [sideD p, .str x] = some (sideD (tP x p)) := by
  obtain ⟨q, hq⟩ : ∃ q, q = (if x = "vertical" then p else p.reverse) := ⟨_, rfl⟩
  have hql : q.length ≤ 1000 := by rw [hq]; split; exact h.1; rw [List.length_reverse]; exact h.1
  have hqm : ∀ r ∈ q, r ∈ p := fun r hr => by
    rw [hq] at hr
    split at hr
    · exact hr
    · exact List.mem_reverse.mp hr
  refine gDef_ev' (fB := f_turn) [.val (sideD p), .val (.str x), .un, .un, .un, .un] rfl rfl ?_
  unfold f_turn
  refine (sSeq_nx (e := [.val (sideD p), .val (.str x), .val (sideD q), .un, .un, .un]) (sSet_ev (by
    rw [hq]
    by_cases hv : x = "vertical"
    · rw [if_pos hv]
      exact eIf_t ((eqS_ev hx (.inl rfl) rfl).trans (by rw [decide_eq_true hv])) rfl
    · rw [if_neg hv]
      refine eIf_f ((eqS_ev hx (.inl rfl) rfl).trans (by rw [decide_eq_false hv])) ((rev1_ev rfl).trans ?_)
      unfold sideD
      rw [List.map_reverse]))).trans ?_
  refine (sSeq_nx (e := [.val (sideD p), .val (.str x), .val (sideD q), .val (.int (if decide (x = "horizontal") then 1 else -1)), .un, .un]) (sSet_ev (by
    by_cases hh : x = "horizontal"
    · rw [decide_eq_true hh]
      exact eIf_t ((eqS_ev hx (.inr (.inl rfl)) rfl).trans (by rw [decide_eq_true hh])) rfl
    · rw [decide_eq_false hh]
      exact eIf_f ((eqS_ev hx (.inr (.inl rfl)) rfl).trans (by rw [decide_eq_false hh])) rfl))).trans ?_
  have hrow : ∀ r ∈ q, c_turn_2 [.val (sideD p), .val (.str x), .val (sideD q), .val (.int (if decide (x = "horizontal") then 1 else -1)), .un, .val (rowD r)] = some (rowD ((if x = "horizontal" then r else r.reverse).map (tcM x))) := fun r hr => by
    obtain ⟨k1, k2⟩ := h.2 r (hqm r hr)
    obtain ⟨r', hr'⟩ : ∃ z, z = (if x = "horizontal" then r else r.reverse) := ⟨_, rfl⟩
    rw [← hr']
    have l1 : r'.length ≤ 1000 := by rw [hr']; split; exact k1; rw [List.length_reverse]; exact k1
    have l2 : ∀ c ∈ r', c.length ≤ 1000 := fun c hc => k2 c (by rw [hr'] at hc; split at hc; exact hc; exact List.mem_reverse.mp hc)
    unfold c_turn_2
    refine (tup_ev (fCmp_ev (ds := r'.map markD) (vs := r'.map fun c => markD (tcM x c)) (seqT_ev ?_) ?_ (by simp; omega))).trans ?_
    · refine (revK_ev (decide (x = "horizontal")) (ds := r.map markD) rfl rfl).trans ?_
      rw [hr']
      by_cases hh : x = "horizontal"
      · rw [decide_eq_true hh, if_pos hh]; rfl
      · rw [decide_eq_false hh, if_neg hh, List.map_reverse]; rfl
    · exact compF_mapS fun c hc => ⟨_, rfl, eCall_ev (aCons_ev rfl (aCons_ev rfl aNil_ev)) (tcell_ev hx c (l2 c hc))⟩
    · unfold rowD
      rw [List.map_map]
      rfl
  refine sRet_ev ((tup_ev (fCmp_ev (ds := q.map rowD) (vs := q.map fun r => rowD ((if x = "horizontal" then r else r.reverse).map (tcM x))) (seqT_ev rfl) (compF_mapS fun r hr => ⟨_, rfl, hrow r hr⟩) (by simp; omega))).trans ?_)
  unfold sideD tP
  rw [List.map_map, ← hq]
  rfl
/-! size_of, is_inside, divide of a side -/
def W (s : Side) : Nat := match s with
  | [] => 0
  | r :: _ => r.length
/-- R rows of C -/
def isRC (s : Side) (R C : Nat) : Prop := s.length = R ∧ ∀ r ∈ s, r.length = C
theorem W_rc {s : Side} {R C : Nat} (h : isRC s R C) (hR : 1 ≤ R) : W s = C := by
  obtain ⟨h1, h2⟩ := h
  cases s with
  | nil => simp at h1; omega
  | cons r s => exact h2 r List.mem_cons_self
theorem size_ev (s : Side) (h : s ≠ []) : g_size_of [sideD s] = some (.tuple [.int (s.length : Nat), .int (W s : Nat)]) := by
  cases s with
  | nil => exact absurd rfl h
  | cons r s =>
    refine gDef_ev' (fB := f_size_of) [.val (sideD (r :: s))] rfl rfl (sRet_ev (eTup_ev (aCons_ev (x := .int ((r :: s).length : Nat)) ?_ (aCons_ev (x := .int (r.length : Nat)) ?_ aNil_ev)) (by simp)))
    · refine eCall_ev (aCons_ev rfl aNil_ev) ?_
      show some (PyData.int (List.length _ : Nat)) = _
      rw [List.length_map]
    · refine eCall_ev (aCons_ev (e2_ev (x := sideD (r :: s)) (y := .int ((0 : Nat) : Int)) (d := rowD r) rfl rfl (show atI ((r :: s).map rowD) ((0 : Nat) : Int) = _ from atI_map rowD (r :: s) 0 r rfl)) aNil_ev) ?_
      show some (PyData.int (List.length _ : Nat)) = _
      rw [List.length_map]
def isH (e : Str) : Bool := decide (e = "left") || decide (e = "right")
def cnt (e : Str) (s : Side) : Nat := if isH e then W s else s.length
theorem inside_ev (s : Side) (h : s ≠ []) (e : Str) (k : Int) (he : e = "left" ∨ e = "right" ∨ e = "top" ∨ e = "bottom") : g_is_inside [sideD s, .str e, .int k] = some (.bool (decide (k < (cnt e s : Nat)))) := by
  refine gDef_ev' (fB := f_is_inside) [.val (sideD s), .val (.str e), .val (.int k), .un, .un] rfl rfl ?_
  unfold f_is_inside
  refine (sSeq_nx (e := [.val (sideD s), .val (.str e), .val (.int k), .val (.int (s.length : Nat)), .val (.int (W s : Nat))]) (sUnp_ev (eCall_ev (aCons_ev rfl aNil_ev) (size_ev s h)) rfl)).trans (sRet_ev (e2_ev (y := .int (cnt e s : Nat)) rfl ?_ (ltD_int _ _)))
  unfold cnt
  rcases he with rfl | rfl | rfl | rfl
  · exact eIf_t (by kernel_rfl) rfl
  · exact eIf_t (by kernel_rfl) rfl
  · exact eIf_f (by kernel_rfl) rfl
  · exact eIf_f (by kernel_rfl) rfl
theorem rowD_cut (r : List Mk) (lo hi : Option Int) : cutL (r.map markD) lo hi = (cutL r lo hi).map markD := by
  unfold cutL
  rw [List.length_map, ← List.map_drop, ← List.map_take]
theorem sideD_cut (r : Side) (lo hi : Option Int) : cutL (r.map rowD) lo hi = (cutL r lo hi).map rowD := by
  unfold cutL
  rw [List.length_map, ← List.map_drop, ← List.map_take]
theorem cutL_nat {α : Type} (xs : List α) (a b : Nat) (ha : a ≤ xs.length) (hb : b ≤ xs.length) : cutL xs (some (a : Int)) (some (b : Int)) = (xs.drop a).take (b - a) := by
  unfold cutL HT.sIx
  have h1 : ¬ ((a : Int) < 0) := by omega
  have h2 : ¬ ((b : Int) < 0) := by omega
  simp only [h1, h2, if_false, Int.toNat_natCast, Nat.min_eq_left ha, Nat.min_eq_left hb]
theorem cutL_from {α : Type} (xs : List α) (a : Nat) (ha : a ≤ xs.length) : cutL xs (some (a : Int)) none = xs.drop a := by
  unfold cutL HT.sIx
  have h1 : ¬ ((a : Int) < 0) := by omega
  simp only [h1, if_false, Int.toNat_natCast, Nat.min_eq_left ha]
  exact List.take_of_length_le (by simp)
theorem cutL_to {α : Type} (xs : List α) (b : Nat) (hb : b ≤ xs.length) : cutL xs none (some (b : Int)) = xs.take b := by
  unfold cutL HT.sIx
  have h2 : ¬ ((b : Int) < 0) := by omega
  simp only [h2, if_false, Int.toNat_natCast, Nat.min_eq_left hb]
  rfl
theorem oSome_ev {f : En → Option PyData} {env : En} {i : Int} (h : f env = some (.int i)) : oSome f env = some (some i) := by
  unfold oSome
  rw [h]
theorem eSl_t {f : En → Option PyData} {l h : En → Option (Option Int)} {env : En} {ds : List PyData} {lo hi : Option Int} (h1 : f env = some (.tuple ds)) (h2 : l env = some lo) (h3 : h env = some hi) : eSl f l h env = some (.tuple (cutL ds lo hi)) := by
  unfold eSl
  rw [h1]
  simp only [h2, h3]
  rfl
/-- the columns from a up to b -/
def colsF (s : Side) (a b : Nat) : Side := s.map fun r => (r.drop a).take (b - a)
theorem zip_map2 {α β : Type} (f g : α → List β) : ∀ s : List α, List.zipWith (· ++ ·) (s.map f) (s.map g) = s.map fun r => f r ++ g r
  | [] => rfl
  | r :: s => by
    rw [List.map_cons, List.map_cons, List.zipWith_cons_cons, zip_map2 f g s, List.map_cons]
def cutS (e : Str) (k : Nat) (s : Side) : Side × Side := if e = "left" then (colsF s k (W s), colsF s 0 k) else if e = "right" then (colsF s 0 (W s - k), colsF s (W s - k) (W s)) else if e = "top" then (s.drop k, s.take k) else (s.take (s.length - k), s.drop (s.length - k))
theorem ne_rl : ¬ (("right" : Str) = "left") := by decide +kernel
theorem ne_tl : ¬ (("top" : Str) = "left") := by decide +kernel
theorem ne_tr : ¬ (("top" : Str) = "right") := by decide +kernel
theorem ne_bl : ¬ (("bottom" : Str) = "left") := by decide +kernel
theorem ne_br : ¬ (("bottom" : Str) = "right") := by decide +kernel
theorem ne_bt : ¬ (("bottom" : Str) = "top") := by decide +kernel
theorem cutS_l (k : Nat) (s : Side) : cutS "left" k s = (colsF s k (W s), colsF s 0 k) := if_pos rfl
theorem cutS_r (k : Nat) (s : Side) : cutS "right" k s = (colsF s 0 (W s - k), colsF s (W s - k) (W s)) := by unfold cutS; rw [if_neg ne_rl, if_pos rfl]
theorem cutS_t (k : Nat) (s : Side) : cutS "top" k s = (s.drop k, s.take k) := by unfold cutS; rw [if_neg ne_tl, if_neg ne_tr, if_pos rfl]
theorem cutS_b (k : Nat) (s : Side) : cutS "bottom" k s = (s.take (s.length - k), s.drop (s.length - k)) := by unfold cutS; rw [if_neg ne_bl, if_neg ne_br, if_neg ne_bt]
theorem cols_row (el : En → Option PyData) (hel : el = eSl (eVar 3) (oSome (eVar 1)) (oSome (eVar 2))) (S : PyData) (a b : Int) (r : List Mk) (n m : Nat) (ha : a = (n : Nat)) (hb : b = (m : Nat)) (h1 : n ≤ r.length) (h2 : m ≤ r.length) : el [.val S, .val (.int a), .val (.int b), .val (rowD r)] = some (rowD ((r.drop n).take (m - n))) := by
  rw [hel]
  refine (eSl_t (ds := r.map markD) (lo := some a) (hi := some b) rfl (oSome_ev rfl) (oSome_ev rfl)).trans ?_
  rw [rowD_cut, ha, hb, cutL_nat r n m h1 h2]
  rfl
theorem columns_ev (s : Side) (a b : Int) (n m : Nat) (ha : a = (n : Nat)) (hb : b = (m : Nat)) (h1 : ∀ r ∈ s, n ≤ r.length) (h2 : ∀ r ∈ s, m ≤ r.length) (hl : s.length ≤ 1000) : g_columns_from [sideD s, .int a, .int b] = some (sideD (colsF s n m)) := by
  refine gDef_ev' (fB := f_columns_from) [.val (sideD s), .val (.int a), .val (.int b), .un] rfl rfl (sRet_ev ?_)
  refine tup_ev (fCmp_ev (ds := s.map rowD) (vs := s.map fun r => rowD ((r.drop n).take (m - n))) (seqT_ev rfl) ?_ (by simp; omega)) |>.trans ?_
  · exact compF_mapS fun r hr => ⟨_, rfl, cols_row c_columns_from_1 rfl _ a b r n m ha hb (h1 r hr) (h2 r hr)⟩
  · unfold sideD colsF
    rw [List.map_map]
    rfl
theorem rows_from (f g : En → Option PyData) (env : En) (s : Side) (a : Int) (n : Nat) (hf : f env = some (sideD s)) (hg : g env = some (.int a)) (ha : a = (n : Nat)) (hn : n ≤ s.length) : eSl f (oSome g) oNone env = some (sideD (s.drop n)) := by
  refine (eSl_t (ds := s.map rowD) (lo := some a) (hi := none) hf (oSome_ev hg) rfl).trans ?_
  rw [sideD_cut, ha, cutL_from s n hn]
  rfl
theorem rows_to (f g : En → Option PyData) (env : En) (s : Side) (a : Int) (n : Nat) (hf : f env = some (sideD s)) (hg : g env = some (.int a)) (ha : a = (n : Nat)) (hn : n ≤ s.length) : eSl f oNone (oSome g) env = some (sideD (s.take n)) := by
  refine (eSl_t (ds := s.map rowD) (lo := none) (hi := some a) hf rfl (oSome_ev hg)).trans ?_
  rw [sideD_cut, ha, cutL_to s n hn]
  rfl
def is4 (e : Str) : Prop := e = "left" ∨ e = "right" ∨ e = "top" ∨ e = "bottom"
theorem divide_ev (s : Side) (R C : Nat) (hs : isRC s R C) (hR : 1 ≤ R) (hR2 : R ≤ 1000) (e : Str) (he : is4 e) (kv : Int) (k : Nat) (hk : kv = (k : Nat)) (hc : k < cnt e s) : g_divide [sideD s, .str e, .int kv] = some (.tuple [sideD (cutS e k s).1, sideD (cutS e k s).2]) := by
  have hw := W_rc hs hR
  have hne : s ≠ [] := fun z => by rw [z] at hs; have := hs.1; simp at this; omega
  have sz := size_ev s hne
  obtain ⟨Wv, hW⟩ : ∃ z : Int, z = (W s : Nat) := ⟨_, rfl⟩
  obtain ⟨Rv, hRv⟩ : ∃ z : Int, z = (s.length : Nat) := ⟨_, rfl⟩
  rw [← hW, ← hRv] at sz
  refine gDef_ev' (fB := f_divide) [.val (sideD s), .val (.str e), .val (.int kv), .un, .un] rfl rfl ?_
  unfold f_divide
  refine (sSeq_nx (e := [.val (sideD s), .val (.str e), .val (.int kv), .val (.int Rv), .val (.int Wv)]) (sUnp_ev (eCall_ev (aCons_ev rfl aNil_ev) sz) rfl)).trans ?_
  have hl : s.length ≤ 1000 := by rw [hs.1]; exact hR2
  rcases he with rfl | rfl | rfl | rfl
  · have hc' : k < W s := hc
    rw [cutS_l]
    refine sSeq_rt ((sIf_t (by kernel_rfl)).trans (sRet_ev (eTup_ev (aCons_ev (eCall_ev (aCons_ev rfl (aCons_ev rfl (aCons_ev rfl aNil_ev))) (columns_ev s kv Wv k (W s) hk hW ?_ ?_ hl)) (aCons_ev (eCall_ev (aCons_ev rfl (aCons_ev rfl (aCons_ev rfl aNil_ev))) (columns_ev s 0 kv 0 k rfl hk ?_ ?_ hl)) aNil_ev)) (by simp))))
    all_goals (intro r hr; have := hs.2 r hr; omega)
  · have hc' : k < W s := hc
    rw [cutS_r]
    refine (sSeq_nx ((sIf_f (by kernel_rfl)).trans rfl)).trans ?_
    refine sSeq_rt ((sIf_t (by kernel_rfl)).trans (sRet_ev (eTup_ev (aCons_ev (eCall_ev (aCons_ev rfl (aCons_ev rfl (aCons_ev (e2_ev rfl rfl (subD_int _ _)) aNil_ev))) (columns_ev s 0 (Wv - kv) 0 (W s - k) rfl (by omega) ?_ ?_ hl)) (aCons_ev (eCall_ev (aCons_ev rfl (aCons_ev (e2_ev rfl rfl (subD_int _ _)) (aCons_ev rfl aNil_ev))) (columns_ev s (Wv - kv) Wv (W s - k) (W s) (by omega) hW ?_ ?_ hl)) aNil_ev)) (by simp))))
    all_goals (intro r hr; have := hs.2 r hr; omega)
  · have hc' : k < s.length := hc
    rw [cutS_t]
    refine (sSeq_nx ((sIf_f (by kernel_rfl)).trans rfl)).trans ?_
    refine (sSeq_nx ((sIf_f (by kernel_rfl)).trans rfl)).trans ?_
    exact sSeq_rt ((sIf_t (by kernel_rfl)).trans (sRet_ev (eTup_ev (aCons_ev (rows_from _ _ _ s kv k rfl rfl hk (by omega)) (aCons_ev (rows_to _ _ _ s kv k rfl rfl hk (by omega)) aNil_ev)) (by simp))))
  · have hc' : k < s.length := hc
    rw [cutS_b]
    refine (sSeq_nx ((sIf_f (by kernel_rfl)).trans rfl)).trans ?_
    refine (sSeq_nx ((sIf_f (by kernel_rfl)).trans rfl)).trans ?_
    refine (sSeq_nx ((sIf_f (by kernel_rfl)).trans rfl)).trans ?_
    exact sRet_ev (eTup_ev (aCons_ev (rows_to _ _ _ s (Rv - kv) (s.length - k) rfl (e2_ev rfl rfl (subD_int _ _)) (by omega) (by omega)) (aCons_ev (rows_from _ _ _ s (Rv - kv) (s.length - k) rfl (e2_ev rfl rfl (subD_int _ _)) (by omega) (by omega)) aNil_ev)) (by simp))
/-! laying -/
theorem zipD_map {α β : Type} (f : α → PyData) (g : β → PyData) : ∀ (s : List α) (u : List β), zipD (s.map f) (u.map g) = (s.zip u).map fun q => .tuple [f q.1, g q.2]
  | [], _ => rfl
  | _ :: _, [] => rfl
  | a :: s, b :: u => by
    rw [List.map_cons, List.map_cons, List.zip_cons_cons, List.map_cons, ← zipD_map f g s u]
    rfl
theorem zipWith_zip {α β γ : Type} (f : α → β → γ) : ∀ (a : List α) (b : List β), List.zipWith f a b = (a.zip b).map fun q => f q.1 q.2
  | [], _ => rfl
  | _ :: _, [] => rfl
  | x :: a, y :: b => by rw [List.zipWith_cons_cons, List.zip_cons_cons, List.map_cons, zipWith_zip f a b]
/-- longer lists stay behind -/
def zipL {α : Type} (f : α → α → α) (u l : List α) : List α := List.zipWith f u l ++ u.drop (List.zipWith f u l).length ++ l.drop (List.zipWith f u l).length
def layR (u l : List Mk) : List Mk := zipL (· ++ ·) u l
def layP (u l : Side) : Side := zipL layR u l
theorem tail_ev {env : En} {α : Type} (F : α → PyData) (f g : En → Option PyData) (xs zs : List α) (hf : f env = some (.tuple (xs.map F))) (hg : g env = some (.tuple (zs.map F))) (h : zs.length ≤ xs.length) : eSl f (oSome (eCall lenA (aCons g aNil))) oNone env = some (.tuple ((xs.drop zs.length).map F)) := by
  refine (eSl_t (lo := some (zs.length : Nat)) (hi := none) hf (oSome_ev ((eCall_ev (aCons_ev hg aNil_ev) rfl).trans (by show some (PyData.int (List.length _ : Nat)) = _; rw [List.length_map]))) rfl).trans ?_
  rw [cutL_from _ _ (by rw [List.length_map]; exact h), List.map_drop]
theorem zl_len {α : Type} (f : α → α → α) (u l : List α) : (List.zipWith f u l).length ≤ u.length ∧ (List.zipWith f u l).length ≤ l.length := by
  rw [List.length_zipWith]
  omega
theorem layrow_ev (u l : List Mk) (h1 : u.length ≤ 1000) (h2 : l.length ≤ 1000) (h3 : ∀ c ∈ u, c.length ≤ 1000) (h4 : ∀ c ∈ l, c.length ≤ 1000) : g_lay_row [rowD u, rowD l] = some (rowD (layR u l)) := by
  obtain ⟨z, hz⟩ : ∃ z, z = List.zipWith (· ++ ·) u l := ⟨_, rfl⟩
  have hzl := zl_len (· ++ ·) u l
  rw [← hz] at hzl
  refine gDef_ev' (fB := f_lay_row) [.val (rowD u), .val (rowD l), .un, .un, .un] rfl rfl ?_
  unfold f_lay_row
  refine (sSeq_nx (e := [.val (rowD u), .val (rowD l), .val (rowD z), .un, .un]) (sSet_ev ((tup_ev (fCmp_ev (ds := (u.zip l).map fun q => .tuple [markD q.1, markD q.2]) (vs := (u.zip l).map fun q => markD (q.1 ++ q.2)) ?_ ?_ (by simp; omega))).trans ?_))).trans ?_
  · rw [← zipD_map]
    rfl
  · refine compF_mapS fun q hq => ⟨_, rfl, e2_ev rfl rfl ?_⟩
    have k1 := h3 _ (List.of_mem_zip hq).1
    have k2 := h4 _ (List.of_mem_zip hq).2
    refine (addD_tup (by rw [List.length_map, List.length_map]; omega)).trans ?_
    unfold markD
    rw [← List.map_append]
  · unfold rowD
    rw [hz, zipWith_zip, List.map_map]
    rfl
  · have t1 := tail_ev (env := [.val (rowD u), .val (rowD l), .val (rowD z), .un, .un]) markD (eVar 0) (eVar 2) u z rfl rfl hzl.1
    have t2 := tail_ev (env := [.val (rowD u), .val (rowD l), .val (rowD z), .un, .un]) markD (eVar 1) (eVar 2) l z rfl rfl hzl.2
    refine sRet_ev (e2_ev (e2_ev (x := rowD z) rfl t1 (addD_tup (by simp; omega))) t2 ((addD_tup (by simp; omega)).trans ?_))
    unfold rowD layR zipL
    rw [← hz, List.map_append, List.map_append]
theorem lay_ev (u l : Side) (h1 : smS u) (h2 : smS l) : g_lay [sideD u, sideD l] = some (sideD (layP u l)) := by
  obtain ⟨z, hz⟩ : ∃ z, z = List.zipWith layR u l := ⟨_, rfl⟩
  have hzl := zl_len layR u l
  rw [← hz] at hzl
  have b1 := h1.1
  have b2 := h2.1
  refine gDef_ev' (fB := f_lay) [.val (sideD u), .val (sideD l), .un, .un, .un] rfl rfl ?_
  unfold f_lay
  refine (sSeq_nx (e := [.val (sideD u), .val (sideD l), .val (sideD z), .un, .un]) (sSet_ev ((tup_ev (fCmp_ev (ds := (u.zip l).map fun q => .tuple [rowD q.1, rowD q.2]) (vs := (u.zip l).map fun q => rowD (layR q.1 q.2)) ?_ ?_ (by simp; omega))).trans ?_))).trans ?_
  · rw [← zipD_map]
    rfl
  · refine compF_mapS fun q hq => ⟨_, rfl, eCall_ev (aCons_ev rfl (aCons_ev rfl aNil_ev)) ?_⟩
    have k1 := h1.2 _ (List.of_mem_zip hq).1
    have k2 := h2.2 _ (List.of_mem_zip hq).2
    exact layrow_ev _ _ k1.1 k2.1 k1.2 k2.2
  · unfold sideD
    rw [hz, zipWith_zip, List.map_map]
    rfl
  · have t1 := tail_ev (env := [.val (sideD u), .val (sideD l), .val (sideD z), .un, .un]) rowD (eVar 0) (eVar 2) u z rfl rfl hzl.1
    have t2 := tail_ev (env := [.val (sideD u), .val (sideD l), .val (sideD z), .un, .un]) rowD (eVar 1) (eVar 2) l z rfl rfl hzl.2
    refine sRet_ev (e2_ev (e2_ev (x := sideD z) rfl t1 (addD_tup (by simp; omega))) t2 ((addD_tup (by simp; omega)).trans ?_))
    unfold sideD layP zipL
    rw [← hz, List.map_append, List.map_append]
def bwP (p : Side) : Side := p.reverse.map List.reverse
theorem bw_ev (p : Side) (h : p.length ≤ 1000) : g_backwards [sideD p] = some (sideD (bwP p)) := by
  refine gDef_ev' (fB := f_backwards) [.val (sideD p), .un] rfl rfl (sRet_ev ((tup_ev (fCmp_ev (ds := p.reverse.map rowD) (vs := p.reverse.map fun r => rowD r.reverse) ?_ ?_ (by simp; omega))).trans ?_))
  · rw [List.map_reverse]
    exact revT_ev rfl
  · exact compF_mapS fun r hr => ⟨_, rfl, (rev1_ev rfl).trans (by unfold rowD; rw [List.map_reverse])⟩
  · unfold sideD bwP
    rw [List.map_map]
    rfl
theorem sm_bw {p : Side} (h : smS p) : smS (bwP p) := by
  refine ⟨by unfold bwP; rw [List.length_map, List.length_reverse]; exact h.1, fun r hr => ?_⟩
  unfold bwP at hr
  obtain ⟨q, hq, rfl⟩ := List.mem_map.mp hr
  obtain ⟨k1, k2⟩ := h.2 q (List.mem_reverse.mp hq)
  exact ⟨by rw [List.length_reverse]; exact k1, fun c hc => k2 c (List.mem_reverse.mp hc)⟩
def isF (e : Str) : Bool := decide (e = "left") || decide (e = "top")
def lyAt (e w : Str) (a b : Side) : Side := if isF e then (if w = "over" then layP a b else layP b a) else bwP (if w = "over" then layP (bwP a) (bwP b) else layP (bwP b) (bwP a))
def is2 (w : Str) : Prop := w = "over" ∨ w = "under"
theorem inF_ev {env : En} {g : En → Option PyData} {e : Str} (he : is4 e) (hg : g env = some (.str e)) : t1 (e2 inT g (eTup (aCons (eC (.str "left")) (aCons (eC (.str "top")) aNil)))) env = some (isF e) := by
  unfold t1 e2
  rw [hg]
  rcases he with rfl | rfl | rfl | rfl <;> kernel_rfl
theorem inH_ev {env : En} {g : En → Option PyData} {e : Str} (he : is4 e) (hg : g env = some (.str e)) : t1 (e2 inT g (eTup (aCons (eC (.str "left")) (aCons (eC (.str "right")) aNil)))) env = some (isH e) := by
  unfold t1 e2
  rw [hg]
  rcases he with rfl | rfl | rfl | rfl <;> kernel_rfl
theorem ov_ev {env : En} {g : En → Option PyData} {w : Str} (hw : is2 w) (hg : g env = some (.str w)) : t1 (e2 eqD g (eC (.str "over"))) env = some (decide (w = "over")) := by
  unfold t1 e2
  rw [hg]
  rcases hw with rfl | rfl <;> kernel_rfl
theorem layat_ev (a b : Side) (ha : smS a) (hb : smS b) (e w : Str) (he : is4 e) (hw : is2 w) (hs : ∀ (u l : Side), (u = a ∧ l = b) ∨ (u = b ∧ l = a) → (layP (bwP u) (bwP l)).length ≤ 1000) : g_lay_at [sideD a, sideD b, .str e, .str w] = some (sideD (lyAt e w a b)) := by
  obtain ⟨u, l, hu, hl, hul, hval⟩ : ∃ u l : Side, smS u ∧ smS l ∧ ((u = a ∧ l = b) ∨ (u = b ∧ l = a)) ∧ (eIf (t1 (e2 eqD (eVar 3) (eC (.str "over")))) (eTup (aCons (eVar 0) (aCons (eVar 1) aNil))) (eTup (aCons (eVar 1) (aCons (eVar 0) aNil))) [.val (sideD a), .val (sideD b), .val (.str e), .val (.str w), .un, .un] = some (.tuple [sideD u, sideD l])) ∧ lyAt e w a b = (if isF e then layP u l else bwP (layP (bwP u) (bwP l))) := by
    by_cases h : w = "over"
    · refine ⟨a, b, ha, hb, .inl ⟨rfl, rfl⟩, eIf_t ((ov_ev hw rfl).trans (by rw [decide_eq_true h])) (eTup_ev (aCons_ev rfl (aCons_ev rfl aNil_ev)) (by simp)), ?_⟩
      unfold lyAt
      rw [if_pos h, if_pos h]
    · refine ⟨b, a, hb, ha, .inr ⟨rfl, rfl⟩, eIf_f ((ov_ev hw rfl).trans (by rw [decide_eq_false h])) (eTup_ev (aCons_ev rfl (aCons_ev rfl aNil_ev)) (by simp)), ?_⟩
      unfold lyAt
      rw [if_neg h, if_neg h]
  obtain ⟨h1, h2⟩ := hval
  rw [h2]
  refine gDef_ev' (fB := f_lay_at) [.val (sideD a), .val (sideD b), .val (.str e), .val (.str w), .un, .un] rfl rfl ?_
  unfold f_lay_at
  refine (sSeq_nx (e := [.val (sideD a), .val (sideD b), .val (.str e), .val (.str w), .val (sideD u), .val (sideD l)]) (sUnp_ev h1 rfl)).trans ?_
  cases hF : isF e with
  | true =>
    exact sSeq_rt ((sIf_t ((inF_ev he rfl).trans (by rw [hF]))).trans (sRet_ev (eCall_ev (aCons_ev rfl (aCons_ev rfl aNil_ev)) (lay_ev u l hu hl))))
  | false =>
    refine (sSeq_nx ((sIf_f ((inF_ev he rfl).trans (by rw [hF]))).trans rfl)).trans ?_
    refine sRet_ev (eCall_ev (aCons_ev (eCall_ev (aCons_ev (eCall_ev (aCons_ev rfl aNil_ev) (bw_ev u hu.1)) (aCons_ev (eCall_ev (aCons_ev rfl aNil_ev) (bw_ev l hl.1)) aNil_ev)) (lay_ev _ _ (sm_bw hu) (sm_bw hl))) aNil_ev) (bw_ev _ (hs u l hul)))
/-! ### cells by place -/
def ce (p : Side) (i j : Nat) : Mk := (p.getD i []).getD j []
theorem gDE {α : Type} (l : List α) {i : Nat} (d : α) (h : i < l.length) : l.getD i d = l[i] := by
  rw [List.getD_eq_getElem?_getD, List.getElem?_eq_getElem h]
  rfl
theorem gDo {α : Type} (l : List α) (i : Nat) (d : α) : l.getD i d = (l[i]?).getD d := List.getD_eq_getElem?_getD
theorem gDd {α : Type} (l : List α) {i : Nat} (d : α) (h : l.length ≤ i) : l.getD i d = d := by
  rw [gDo, List.getElem?_eq_none h]
  rfl
theorem map_getD {α β : Type} (f : α → β) (xs : List α) (i : Nat) (d : α) (d' : β) (h : i < xs.length) : (xs.map f).getD i d' = f (xs.getD i d) := by
  rw [gDE _ _ (by rw [List.length_map]; exact h), List.getElem_map, gDE _ _ h]
theorem rc_row {p : Side} {R C : Nat} (h : isRC p R C) {i : Nat} (hi : i < R) : (p.getD i []).length = C := by
  rw [gDE _ _ (by rw [h.1]; exact hi)]
  exact h.2 _ (List.getElem_mem _)
theorem ce_ext {p q : Side} {R C : Nat} (hp : isRC p R C) (hq : isRC q R C) (h : ∀ i j, i < R → j < C → ce p i j = ce q i j) : p = q := by
  refine List.ext_getElem (by rw [hp.1, hq.1]) fun i h1 h2 => ?_
  have hi : i < R := by rw [← hp.1]; exact h1
  refine List.ext_getElem (by rw [hp.2 _ (List.getElem_mem _), hq.2 _ (List.getElem_mem _)]) fun j k1 k2 => ?_
  have hj : j < C := by rw [← hp.2 _ (List.getElem_mem h1)]; exact k1
  have := h i j hi hj
  unfold ce at this
  rw [gDE _ _ h1, gDE _ _ h2, gDE _ _ k1, gDE _ _ k2] at this
  exact this
def tab (R C : Nat) (f : Nat → Nat → Mk) : Side := (List.range R).map fun i => (List.range C).map fun j => f i j
theorem tab_rc (R C : Nat) (f : Nat → Nat → Mk) : isRC (tab R C f) R C := by
  refine ⟨by unfold tab; rw [List.length_map, List.length_range], fun r hr => ?_⟩
  unfold tab at hr
  obtain ⟨i, _, rfl⟩ := List.mem_map.mp hr
  rw [List.length_map, List.length_range]
theorem tab_ce {R C : Nat} {f : Nat → Nat → Mk} {i j : Nat} (hi : i < R) (hj : j < C) : ce (tab R C f) i j = f i j := by
  unfold ce tab
  rw [map_getD _ (List.range R) i 0 [] (by rw [List.length_range]; exact hi), gDE (List.range R) 0 (by rw [List.length_range]; exact hi), List.getElem_range, map_getD _ (List.range C) j 0 [] (by rw [List.length_range]; exact hj), gDE (List.range C) 0 (by rw [List.length_range]; exact hj), List.getElem_range]
theorem tab_eq {p : Side} {R C : Nat} (hp : isRC p R C) {f : Nat → Nat → Mk} (h : ∀ i j, i < R → j < C → ce p i j = f i j) : p = tab R C f :=
  ce_ext hp (tab_rc R C f) fun i j hi hj => by rw [h i j hi hj, tab_ce hi hj]
/-! cuts -/
theorem cols_rc {s : Side} {R C : Nat} (hs : isRC s R C) {a b : Nat} (hb : b ≤ C) : isRC (colsF s a b) R (b - a) := by
  refine ⟨by unfold colsF; rw [List.length_map]; exact hs.1, fun r hr => ?_⟩
  obtain ⟨q, hq, rfl⟩ := List.mem_map.mp hr
  rw [List.length_take, List.length_drop, hs.2 q hq]
  omega
theorem drop_rc {s : Side} {R C : Nat} (hs : isRC s R C) (a : Nat) : isRC (s.drop a) (R - a) C := ⟨by rw [List.length_drop, hs.1], fun r hr => hs.2 r (List.mem_of_mem_drop hr)⟩
theorem take_rc {s : Side} {R C : Nat} (hs : isRC s R C) {a : Nat} (ha : a ≤ R) : isRC (s.take a) a C := ⟨by rw [List.length_take, hs.1]; omega, fun r hr => hs.2 r (List.mem_of_mem_take hr)⟩
theorem cols_ce {s : Side} {R C : Nat} (hs : isRC s R C) {a b i j : Nat} (hi : i < R) (hj : a + j < b) (hb : b ≤ C) : ce (colsF s a b) i j = ce s i (a + j) := by
  have hl := rc_row hs hi
  unfold ce colsF
  rw [map_getD _ s i [] [] (by rw [hs.1]; exact hi)]
  generalize s.getD i [] = row at hl
  rw [gDE _ _ (by rw [List.length_take, List.length_drop, hl]; omega), List.getElem_take, List.getElem_drop, gDE row _ (by rw [hl]; omega)]
theorem drop_ce {s : Side} (a i j : Nat) : ce (s.drop a) i j = ce s (a + i) j := by
  unfold ce
  rw [show (s.drop a).getD i [] = s.getD (a + i) [] from by rw [gDo, gDo, List.getElem?_drop]]
theorem take_ce {s : Side} {a i : Nat} (j : Nat) (h : i < a) : ce (s.take a) i j = ce s i j := by
  unfold ce
  rw [show (s.take a).getD i [] = s.getD i [] from by rw [gDo, gDo, List.getElem?_take_of_lt h]]
/-- where part and rest lie: row, column, size -/
structure Reg where
  t : Nat
  l : Nat
  r : Nat
  c : Nat
def regs (e : Str) (k R C : Nat) : Reg × Reg := if e = "left" then (⟨0, k, R, C - k⟩, ⟨0, 0, R, k⟩) else if e = "right" then (⟨0, 0, R, C - k⟩, ⟨0, C - k, R, k⟩) else if e = "top" then (⟨k, 0, R - k, C⟩, ⟨0, 0, k, C⟩) else (⟨0, 0, R - k, C⟩, ⟨R - k, 0, k, C⟩)
theorem regs_l (k R C : Nat) : regs "left" k R C = (⟨0, k, R, C - k⟩, ⟨0, 0, R, k⟩) := if_pos rfl
theorem regs_r (k R C : Nat) : regs "right" k R C = (⟨0, 0, R, C - k⟩, ⟨0, C - k, R, k⟩) := by unfold regs; rw [if_neg ne_rl, if_pos rfl]
theorem regs_t (k R C : Nat) : regs "top" k R C = (⟨k, 0, R - k, C⟩, ⟨0, 0, k, C⟩) := by unfold regs; rw [if_neg ne_tl, if_neg ne_tr, if_pos rfl]
theorem regs_b (k R C : Nat) : regs "bottom" k R C = (⟨0, 0, R - k, C⟩, ⟨R - k, 0, k, C⟩) := by unfold regs; rw [if_neg ne_bl, if_neg ne_br, if_neg ne_bt]
def Sub (p q : Side) (g : Reg) : Prop := isRC q g.r g.c ∧ ∀ i j, i < g.r → j < g.c → ce q i j = ce p (g.t + i) (g.l + j)
theorem cutS_sub {p : Side} {R C : Nat} (hp : isRC p R C) (hR : 1 ≤ R) {e : Str} (he : is4 e) {k : Nat} (hk : k < if isH e then C else R) :
    Sub p (cutS e k p).1 (regs e k R C).1 ∧ Sub p (cutS e k p).2 (regs e k R C).2 := by
  have hw := W_rc hp hR
  rcases he with rfl | rfl | rfl | rfl
  · have hk' : k < C := hk
    rw [cutS_l, regs_l, hw]
    refine ⟨⟨cols_rc hp (Nat.le_refl _), fun i j hi hj => ?_⟩, ⟨by have := cols_rc hp (a := 0) (b := k) (by omega); exact this, fun i j hi hj => ?_⟩⟩
    · have hj' : j < C - k := hj
      rw [cols_ce hp hi (by omega) (Nat.le_refl _)]; simp only [Nat.zero_add]
    · have hj' : j < k := hj
      rw [cols_ce hp hi (by omega) (by omega)]; simp only [Nat.zero_add]
  · have hk' : k < C := hk
    rw [cutS_r, regs_r, hw]
    refine ⟨⟨by have := cols_rc hp (a := 0) (b := C - k) (by omega); exact this, fun i j hi hj => ?_⟩, ⟨by have := cols_rc hp (a := C - k) (b := C) (Nat.le_refl _); rwa [show C - (C - k) = k from by omega] at this, fun i j hi hj => ?_⟩⟩
    · have hj' : j < C - k := hj
      rw [cols_ce hp hi (by omega) (by omega)]; simp only [Nat.zero_add]
    · have hj' : j < k := hj
      rw [cols_ce hp hi (by omega) (Nat.le_refl _)]; simp only [Nat.zero_add]
  · have hk' : k < R := hk
    rw [cutS_t, regs_t]
    refine ⟨⟨drop_rc hp k, fun i j hi hj => ?_⟩, ⟨take_rc hp (by omega), fun i j hi hj => ?_⟩⟩
    · rw [drop_ce]; simp only [Nat.zero_add]
    · rw [take_ce j hi]; simp only [Nat.zero_add]
  · have hk' : k < R := hk
    rw [cutS_b, regs_b, hp.1]
    refine ⟨⟨take_rc hp (by omega), fun i j hi hj => ?_⟩, ⟨by have := drop_rc hp (R - k); rwa [show R - (R - k) = k from by omega] at this, fun i j hi hj => ?_⟩⟩
    · rw [take_ce j hi]; simp only [Nat.zero_add]
    · rw [drop_ce]; simp only [Nat.zero_add]
/-! turning -/
theorem rev_getD {α : Type} (xs : List α) (i : Nat) (d : α) (h : i < xs.length) : xs.reverse.getD i d = xs.getD (xs.length - 1 - i) d := by
  rw [gDE _ _ (by rw [List.length_reverse]; exact h), List.getElem_reverse, gDE _ _ (by omega)]
theorem tP_rc {p : Side} {R C : Nat} (h : isRC p R C) (x : Str) : isRC (tP x p) R C := by
  refine ⟨?_, fun r hr => ?_⟩
  · unfold tP
    rw [List.length_map]
    split
    · exact h.1
    · rw [List.length_reverse]; exact h.1
  · unfold tP at hr
    obtain ⟨q, hq, rfl⟩ := List.mem_map.mp hr
    have hq' : q ∈ p := by
      split at hq
      · exact hq
      · exact List.mem_reverse.mp hq
    rw [List.length_map]
    split
    · exact h.2 q hq'
    · rw [List.length_reverse]; exact h.2 q hq'
def toR (x : Str) (R i : Nat) : Nat := if x = "vertical" then i else R - 1 - i
def toC (x : Str) (C j : Nat) : Nat := if x = "horizontal" then j else C - 1 - j
theorem tP_ce {p : Side} {R C : Nat} (h : isRC p R C) (x : Str) {i j : Nat} (hi : i < R) (hj : j < C) : ce (tP x p) i j = tcM x (ce p (toR x R i) (toC x C j)) := by
  obtain ⟨q, hq⟩ : ∃ q, q = (if x = "vertical" then p else p.reverse) := ⟨_, rfl⟩
  have hql : q.length = R := by rw [hq]; split; exact h.1; rw [List.length_reverse]; exact h.1
  have hqi : q.getD i [] = p.getD (toR x R i) [] := by
    rw [hq]
    unfold toR
    by_cases hv : x = "vertical"
    · rw [if_pos hv, if_pos hv]
    · rw [if_neg hv, if_neg hv, rev_getD _ _ _ (by rw [h.1]; exact hi), h.1]
  have hR : toR x R i < R := by unfold toR; split <;> omega
  have hl := rc_row h hR
  unfold ce tP
  rw [← hq, map_getD _ q i [] [] (by rw [hql]; exact hi), hqi]
  generalize p.getD (toR x R i) [] = row at hl
  unfold toC
  by_cases hh : x = "horizontal"
  · rw [if_pos hh, if_pos hh, map_getD _ row j [] [] (by omega)]
  · rw [if_neg hh, if_neg hh, map_getD _ row.reverse j [] [] (by rw [List.length_reverse]; omega), rev_getD _ _ _ (by omega), hl]
/-! laying -/
theorem zipL_len {α : Type} (f : α → α → α) (u l : List α) : (zipL f u l).length = max u.length l.length := by
  unfold zipL
  rw [List.length_append, List.length_append, List.length_drop, List.length_drop, List.length_zipWith]
  omega
theorem zipL_get {α : Type} (f : α → α → α) (u l : List α) (i : Nat) : (zipL f u l)[i]? = match u[i]?, l[i]? with
    | some a, some b => some (f a b)
    | some a, none => some a
    | none, some b => some b
    | none, none => none := by
  unfold zipL
  have hz : (List.zipWith f u l).length = min u.length l.length := List.length_zipWith
  by_cases h1 : i < min u.length l.length
  · rw [List.append_assoc, List.getElem?_append_left (by rw [hz]; exact h1), List.getElem?_zipWith, List.getElem?_eq_getElem (show i < u.length by omega), List.getElem?_eq_getElem (show i < l.length by omega)]
  · rw [List.append_assoc, List.getElem?_append_right (by rw [hz]; omega), hz]
    by_cases h2 : i < u.length
    · rw [List.getElem?_append_left (by rw [List.length_drop]; omega), List.getElem?_drop, show min u.length l.length + (i - min u.length l.length) = i from by omega, List.getElem?_eq_getElem h2, List.getElem?_eq_none (show l.length ≤ i by omega)]
    · rw [List.getElem?_append_right (by rw [List.length_drop]; omega), List.length_drop, List.getElem?_drop, List.getElem?_eq_none (show u.length ≤ i by omega)]
      by_cases h3 : i < l.length
      · rw [show min u.length l.length + (i - min u.length l.length - (u.length - min u.length l.length)) = i from by omega, List.getElem?_eq_getElem h3]
      · rw [List.getElem?_eq_none (by omega), List.getElem?_eq_none (show l.length ≤ i by omega)]
theorem layR_getD (u l : List Mk) (j : Nat) : (layR u l).getD j [] = u.getD j [] ++ l.getD j [] := by
  rw [gDo u, gDo l, gDo (layR u l)]
  unfold layR
  rw [zipL_get]
  cases u[j]? <;> cases l[j]? <;> simp
theorem layP_ce (u l : Side) (i j : Nat) : ce (layP u l) i j = ce u i j ++ ce l i j := by
  unfold ce
  rw [gDo u, gDo l, gDo (layP u l)]
  unfold layP
  rw [zipL_get]
  cases u[i]? with
  | none => cases l[i]? <;> simp
  | some a =>
    cases l[i]? with
    | none => simp
    | some b => exact layR_getD a b j
theorem layP_rc {u l : Side} {R1 C1 R2 C2 : Nat} (hu : isRC u R1 C1) (hl : isRC l R2 C2) (h : R1 = R2 ∨ C1 = C2) : isRC (layP u l) (max R1 R2) (max C1 C2) := by
  refine ⟨by unfold layP; rw [zipL_len, hu.1, hl.1], fun r hr => ?_⟩
  obtain ⟨i, hi⟩ := List.getElem?_of_mem hr
  unfold layP at hi
  rw [zipL_get] at hi
  cases h1 : u[i]? with
  | none =>
    rw [h1] at hi
    cases h2 : l[i]? with
    | none => rw [h2] at hi; cases hi
    | some b =>
      rw [h2] at hi
      cases hi
      have k1 := hl.2 _ (List.mem_of_getElem? h2)
      have k2 := List.getElem?_eq_none_iff.mp h1
      obtain ⟨k3, _⟩ := List.getElem?_eq_some_iff.mp h2
      rw [hu.1] at k2
      rw [hl.1] at k3
      omega
  | some a =>
    rw [h1] at hi
    have k1 := hu.2 _ (List.mem_of_getElem? h1)
    obtain ⟨k2, _⟩ := List.getElem?_eq_some_iff.mp h1
    rw [hu.1] at k2
    cases h2 : l[i]? with
    | none =>
      rw [h2] at hi
      cases hi
      have k3 := List.getElem?_eq_none_iff.mp h2
      rw [hl.1] at k3
      omega
    | some b =>
      rw [h2] at hi
      cases hi
      have k3 := hl.2 _ (List.mem_of_getElem? h2)
      unfold layR
      rw [zipL_len, k1, k3]
theorem bw_rc {p : Side} {R C : Nat} (h : isRC p R C) : isRC (bwP p) R C := by
  refine ⟨by unfold bwP; rw [List.length_map, List.length_reverse]; exact h.1, fun r hr => ?_⟩
  unfold bwP at hr
  obtain ⟨q, hq, rfl⟩ := List.mem_map.mp hr
  rw [List.length_reverse]
  exact h.2 q (List.mem_reverse.mp hq)
theorem bw_ce {p : Side} {R C : Nat} (h : isRC p R C) {i j : Nat} (hi : i < R) (hj : j < C) : ce (bwP p) i j = ce p (R - 1 - i) (C - 1 - j) := by
  have hl := rc_row h (i := R - 1 - i) (by omega)
  unfold ce bwP
  rw [map_getD _ p.reverse i [] [] (by rw [List.length_reverse, h.1]; exact hi), rev_getD p _ _ (by rw [h.1]; exact hi), h.1]
  generalize p.getD (R - 1 - i) [] = row at hl
  rw [rev_getD _ _ _ (by omega), hl]
theorem ce_out {p : Side} {R C : Nat} (h : isRC p R C) {i j : Nat} (hx : R ≤ i ∨ C ≤ j) : ce p i j = [] := by
  unfold ce
  by_cases hi : i < R
  · have hl := rc_row h hi
    rw [gDd _ _ (by omega)]
  · rw [gDd p _ (by rw [h.1]; omega)]
    rfl
/-- what a piece gives at a place of the whole -/
def pc (p : Side) (e : Str) (R C R1 C1 i j : Nat) : Mk := if (if e = "bottom" then R - R1 else 0) ≤ i ∧ (if e = "right" then C - C1 else 0) ≤ j then ce p (i - if e = "bottom" then R - R1 else 0) (j - if e = "right" then C - C1 else 0) else []
theorem lyAt_rc {a b : Side} {R1 C1 R2 C2 : Nat} (ha : isRC a R1 C1) (hb : isRC b R2 C2) (h : R1 = R2 ∨ C1 = C2) (e w : Str) : isRC (lyAt e w a b) (max R1 R2) (max C1 C2) := by
  have h' : R2 = R1 ∨ C2 = C1 := h.imp Eq.symm Eq.symm
  have e1 : max R2 R1 = max R1 R2 := Nat.max_comm _ _
  have e2 : max C2 C1 = max C1 C2 := Nat.max_comm _ _
  unfold lyAt
  split
  · split
    · exact layP_rc ha hb h
    · have := layP_rc hb ha h'; rw [e1, e2] at this; exact this
  · refine bw_rc ?_
    split
    · exact layP_rc (bw_rc ha) (bw_rc hb) h
    · have := layP_rc (bw_rc hb) (bw_rc ha) h'; rw [e1, e2] at this; exact this
/-- an edge fits two sizes -/
def fitE (e : Str) (R1 C1 R2 C2 : Nat) : Prop := if isH e then R1 = R2 else C1 = C2
theorem bwpc {p : Side} {R1 C1 R C i j : Nat} (h : isRC p R1 C1) (hR : R1 ≤ R) (hC : C1 ≤ C) (hi : i < R) (hj : j < C) : ce (bwP p) (R - 1 - i) (C - 1 - j) = if R - R1 ≤ i ∧ C - C1 ≤ j then ce p (i - (R - R1)) (j - (C - C1)) else [] := by
  by_cases hx : R - R1 ≤ i ∧ C - C1 ≤ j
  · rw [if_pos hx, bw_ce h (by omega) (by omega)]
    congr 1 <;> omega
  · rw [if_neg hx]
    exact ce_out (bw_rc h) (by omega)
theorem pc_lt {p : Side} (R C R1 C1 i j : Nat) {e : Str} (he : isF e = true) (h4 : is4 e) : pc p e R C R1 C1 i j = ce p i j := by
  unfold pc
  rcases h4 with rfl | rfl | rfl | rfl
  · rw [if_neg (show ¬ ("left" : Str) = "bottom" from by decide +kernel), if_neg (show ¬ ("left" : Str) = "right" from by decide +kernel), if_pos ⟨Nat.zero_le _, Nat.zero_le _⟩]; rfl
  · exact absurd he (by decide +kernel)
  · rw [if_neg (show ¬ ("top" : Str) = "bottom" from by decide +kernel), if_neg (show ¬ ("top" : Str) = "right" from by decide +kernel), if_pos ⟨Nat.zero_le _, Nat.zero_le _⟩]; rfl
  · exact absurd he (by decide +kernel)
theorem pc_rb {p : Side} {R C R1 C1 i j : Nat} (h : isRC p R1 C1) (hR : R1 ≤ R) (hC : C1 ≤ C) (hi : i < R) (hj : j < C) {e : Str} (he : isF e = false) (h4 : is4 e) (hf : if isH e then R1 = R else C1 = C) : ce (bwP p) (R - 1 - i) (C - 1 - j) = pc p e R C R1 C1 i j := by
  rw [bwpc h hR hC hi hj]
  unfold pc
  rcases h4 with rfl | rfl | rfl | rfl
  · exact absurd he (by decide +kernel)
  · have hf' : R1 = R := hf
    rw [if_neg (show ¬ ("right" : Str) = "bottom" from by decide +kernel), if_pos (show ("right" : Str) = "right" from rfl), hf', Nat.sub_self]
  · exact absurd he (by decide +kernel)
  · have hf' : C1 = C := hf
    rw [if_pos (show ("bottom" : Str) = "bottom" from rfl), if_neg (show ¬ ("bottom" : Str) = "right" from by decide +kernel), hf', Nat.sub_self]
theorem lyAt_ce {a b : Side} {R1 C1 R2 C2 : Nat} (ha : isRC a R1 C1) (hb : isRC b R2 C2) {e w : Str} (h4 : is4 e) (h : fitE e R1 C1 R2 C2) {i j : Nat} (hi : i < max R1 R2) (hj : j < max C1 C2) :
    ce (lyAt e w a b) i j = (if w = "over" then pc a e (max R1 R2) (max C1 C2) R1 C1 i j ++ pc b e (max R1 R2) (max C1 C2) R2 C2 i j else pc b e (max R1 R2) (max C1 C2) R2 C2 i j ++ pc a e (max R1 R2) (max C1 C2) R1 C1 i j) := by
  unfold lyAt
  cases hF : isF e with
  | true =>
    rw [if_pos rfl, pc_lt _ _ _ _ _ _ hF h4, pc_lt _ _ _ _ _ _ hF h4]
    split <;> rw [layP_ce]
  | false =>
    rw [if_neg (by decide)]
    have hor : R1 = R2 ∨ C1 = C2 := by unfold fitE at h; split at h; exact .inl h; exact .inr h
    have hor' : R2 = R1 ∨ C2 = C1 := hor.imp Eq.symm Eq.symm
    have f1 : if isH e then R1 = max R1 R2 else C1 = max C1 C2 := by unfold fitE at h; split at h <;> rename_i hh <;> simp [hh] <;> omega
    have f2 : if isH e then R2 = max R1 R2 else C2 = max C1 C2 := by unfold fitE at h; split at h <;> rename_i hh <;> simp [hh] <;> omega
    have m1 := pc_rb ha (Nat.le_max_left R1 R2) (Nat.le_max_left C1 C2) hi hj hF h4 f1
    have m2 := pc_rb hb (Nat.le_max_right R1 R2) (Nat.le_max_right C1 C2) hi hj hF h4 f2
    by_cases hw : w = "over"
    · rw [if_pos hw, if_pos hw, bw_ce (layP_rc (bw_rc ha) (bw_rc hb) hor) hi hj, layP_ce, m1, m2]
    · rw [if_neg hw, if_neg hw]
      have rc := layP_rc (bw_rc hb) (bw_rc ha) hor'
      rw [Nat.max_comm R2 R1, Nat.max_comm C2 C1] at rc
      rw [bw_ce rc hi hj, layP_ce, m1, m2]
/-! ### no layer is lost -/
def rt (r : List Mk) : Nat := (r.map List.length).sum
def tot (p : Side) : Nat := (p.map rt).sum
theorem sum_rev {α : Type} (f : α → Nat) : ∀ xs : List α, (xs.reverse.map f).sum = (xs.map f).sum
  | [] => rfl
  | x :: xs => by
    rw [List.reverse_cons, List.map_append, List.sum_append, sum_rev f xs, List.map_cons, List.sum_cons]
    simp
    omega
theorem sum_congr {α : Type} {f g : α → Nat} : ∀ {xs : List α}, (∀ x ∈ xs, f x = g x) → (xs.map f).sum = (xs.map g).sum
  | [], _ => rfl
  | x :: xs, h => by rw [List.map_cons, List.map_cons, List.sum_cons, List.sum_cons, h x List.mem_cons_self, sum_congr fun y hy => h y (List.mem_cons_of_mem _ hy)]
theorem sum_add {α : Type} (f g : α → Nat) : ∀ xs : List α, (xs.map fun x => f x + g x).sum = (xs.map f).sum + (xs.map g).sum
  | [] => rfl
  | x :: xs => by simp only [List.map_cons, List.sum_cons, sum_add f g xs]; omega
theorem le_sum {α : Type} (f : α → Nat) : ∀ {xs : List α} {x : α}, x ∈ xs → f x ≤ (xs.map f).sum
  | y :: xs, x, h => by
    rw [List.map_cons, List.sum_cons]
    rcases List.mem_cons.mp h with rfl | h
    · omega
    · have := le_sum f h; omega
theorem tc_len (x : Str) (c : Mk) : (tcM x c).length = c.length := by
  unfold tcM
  split
  · rw [List.length_map]
  · rw [List.length_reverse, List.length_map]
theorem tot_tP (x : Str) (p : Side) : tot (tP x p) = tot p := by
  unfold tot tP
  rw [List.map_map]
  have h : ∀ r : List Mk, (rt ∘ fun r => (if x = "horizontal" then r else r.reverse).map (tcM x)) r = rt r := fun r => by
    show rt ((if x = "horizontal" then r else r.reverse).map (tcM x)) = rt r
    unfold rt
    rw [List.map_map]
    have e : (List.length ∘ tcM x) = List.length := by funext c; exact tc_len x c
    rw [e]
    split
    · rfl
    · exact sum_rev _ r
  rw [sum_congr fun r _ => h r]
  split
  · rfl
  · exact sum_rev _ p
theorem tot_app (a b : Side) : tot (a ++ b) = tot a + tot b := by unfold tot; rw [List.map_append, List.sum_append]
theorem rt_app (a b : List Mk) : rt (a ++ b) = rt a + rt b := by unfold rt; rw [List.map_append, List.sum_append]
theorem tot_cols {p : Side} {R C : Nat} (h : isRC p R C) {k : Nat} (hk : k ≤ C) : tot (colsF p 0 k) + tot (colsF p k C) = tot p := by
  unfold tot colsF
  rw [List.map_map, List.map_map, ← sum_add]
  refine sum_congr fun r hr => ?_
  have hl := h.2 r hr
  show rt ((r.drop 0).take (k - 0)) + rt ((r.drop k).take (C - k)) = rt r
  rw [List.drop_zero, Nat.sub_zero, List.take_of_length_le (l := r.drop k) (by rw [List.length_drop]; omega), ← rt_app, List.take_append_drop]
theorem tot_cut {p : Side} {R C : Nat} (hp : isRC p R C) (hR : 1 ≤ R) {e : Str} (he : is4 e) {k : Nat} (hk : k < if isH e then C else R) : tot (cutS e k p).1 + tot (cutS e k p).2 = tot p := by
  have hw := W_rc hp hR
  rcases he with rfl | rfl | rfl | rfl
  · have hk' : k < C := hk
    rw [cutS_l, hw]
    have := tot_cols hp (k := k) (by omega)
    show tot (colsF p k C) + tot (colsF p 0 k) = tot p
    omega
  · rw [cutS_r, hw]
    exact tot_cols hp (k := C - k) (by omega)
  · rw [cutS_t]
    show tot (p.drop k) + tot (p.take k) = tot p
    have := tot_app (p.take k) (p.drop k)
    rw [List.take_append_drop] at this
    omega
  · rw [cutS_b]
    show tot (p.take (p.length - k)) + tot (p.drop (p.length - k)) = tot p
    have := tot_app (p.take (p.length - k)) (p.drop (p.length - k))
    rw [List.take_append_drop] at this
    omega
theorem zipL_sum {α : Type} (f : α → α → α) (g : α → Nat) (hg : ∀ a b, g (f a b) = g a + g b) : ∀ u l : List α, ((zipL f u l).map g).sum = (u.map g).sum + (l.map g).sum
  | [], l => by simp [zipL]
  | a :: u, [] => by simp [zipL]
  | a :: u, b :: l => by
    have ih := zipL_sum f g hg u l
    have e : zipL f (a :: u) (b :: l) = f a b :: zipL f u l := by simp [zipL]
    rw [e, List.map_cons, List.sum_cons, ih, hg, List.map_cons, List.map_cons, List.sum_cons, List.sum_cons]
    omega
theorem rt_lay (u l : List Mk) : rt (layR u l) = rt u + rt l := zipL_sum _ List.length (fun a b => List.length_append) u l
theorem tot_lay (u l : Side) : tot (layP u l) = tot u + tot l := zipL_sum _ rt rt_lay u l
theorem tot_bw (p : Side) : tot (bwP p) = tot p := by
  unfold tot bwP
  rw [List.map_map]
  refine (sum_congr fun r _ => ?_).trans (sum_rev rt p)
  exact sum_rev _ r
theorem tot_lyAt (e w : Str) (a b : Side) : tot (lyAt e w a b) = tot a + tot b := by
  unfold lyAt
  split <;> split <;> simp only [tot_bw, tot_lay] <;> omega
theorem cell_le {p : Side} {r : List Mk} {c : Mk} (hr : r ∈ p) (hc : c ∈ r) : c.length ≤ tot p := Nat.le_trans (le_sum List.length hc) (le_sum rt hr)
theorem sm_of {p : Side} {R C : Nat} (h : isRC p R C) (hR : R ≤ 70) (hC : C ≤ 70) (ht : tot p ≤ 100) : smS p := ⟨by rw [h.1]; omega, fun r hr => ⟨by rw [h.2 r hr]; omega, fun c hc => Nat.le_trans (cell_le hr hc) (by omega)⟩⟩
theorem ce_len {p : Side} {i j : Nat} : (ce p i j).length ≤ tot p := by
  unfold ce
  by_cases hi : i < p.length
  · rw [gDE p _ hi]
    by_cases hj : j < p[i].length
    · rw [gDE _ _ hj]
      exact cell_le (List.getElem_mem hi) (List.getElem_mem hj)
    · rw [gDd _ _ (by omega)]; exact Nat.zero_le _
  · rw [gDd p _ (by omega)]
    exact Nat.zero_le _
theorem count_row (el : En → Option PyData) (hel : el = eCall lenA (aCons (eVar 1) aNil)) (a b : Sl) (m : Mk) : el [a, .val (markD m), b] = some (.int (m.length : Nat)) := by
  rw [hel]
  refine eCall_ev (aCons_ev rfl aNil_ev) ?_
  show some (PyData.int (List.length _ : Nat)) = _
  rw [List.length_map]
theorem isum (xs : List Nat) : (xs.map fun n : Nat => (n : Int)).sum = ((xs.sum : Nat) : Int) := by
  induction xs with
  | nil => rfl
  | cons x xs ih => rw [List.map_cons, List.sum_cons, List.sum_cons, ih]; omega
theorem sumA_ev (xs : List Nat) : sumA [.list (xs.map fun n => PyData.int (n : Nat))] = some (.int (xs.sum : Nat)) := by
  have e : (xs.map fun n => PyData.int (n : Nat)) = (xs.map fun n : Nat => (n : Int)).map PyData.int := by rw [List.map_map]; rfl
  unfold sumA
  rw [e]
  show (intsD _).map _ = _
  rw [intsD_map]
  show some (PyData.int _) = _
  rw [isum]
/-! ### the law's packets: dicts by place -/
abbrev Es := List ((Nat × Nat) × Mk)
def keyD (k : Nat × Nat) : PyData := .tuple [.int (k.1 : Nat), .int (k.2 : Nat)]
def celD (c : Mk) : PyData := .list (c.map layD)
def enD (e : (Nat × Nat) × Mk) : PyData × PyData := (keyD e.1, celD e.2)
def dcD (es : Es) : PyData := .dict (es.map enD)
def kq (k : Nat × Nat) : List Key := [.inl (k.1 : Nat), .inl (k.2 : Nat)]
theorem kT_key (k : Nat × Nat) : kT (keyD k) = some (kq k) := rfl
theorem kdT_kq (k : Nat × Nat) : kdT (kq k) = keyD k := rfl
theorem kq_inj (a b : Nat × Nat) : (kq a = kq b) = (a = b) := by
  obtain ⟨a1, a2⟩ := a
  obtain ⟨b1, b2⟩ := b
  simp [kq]
  omega
def lk (es : Es) (k : Nat × Nat) : Option Mk := (es.find? fun e => decide (e.1 = k)).map (·.2)
theorem get_ev (k : Nat × Nat) : ∀ es : Es, getD' kT (es.map enD) (kq k) = (lk es k).map celD
  | [] => rfl
  | e :: es => by
    have ih := get_ev k es
    unfold getD' lk at ih ⊢
    rw [List.map_cons, List.find?_cons, List.find?_cons]
    have hk : (kT (enD e).1 = some (kq k)) = (e.1 = k) := by
      show (kT (keyD e.1) = some (kq k)) = _
      rw [kT_key, Option.some.injEq, kq_inj]
    by_cases h : e.1 = k
    · rw [decide_eq_true (by rw [hk]; exact h), decide_eq_true h]
      rfl
    · rw [decide_eq_false (by rw [hk]; exact h), decide_eq_false h]
      exact ih
theorem any_ev (k : Nat × Nat) (es : Es) : ((es.map enD).any fun p => decide (kT p.1 = some (kq k))) = es.any fun e => decide (e.1 = k) := by
  rw [List.any_map]
  congr 1
  funext e
  refine decide_eq_decide.mpr ?_
  show kT (keyD e.1) = some (kq k) ↔ _
  rw [kT_key, Option.some.injEq, kq_inj]
theorem put_new {k : Nat × Nat} {es : Es} (h : ∀ e ∈ es, e.1 ≠ k) (c : Mk) : putD kdT kT (es.map enD) (kq k) (celD c) = (es ++ [(k, c)]).map enD := by
  unfold putD
  rw [any_ev, if_neg]
  · rw [List.map_append]
    rfl
  · intro z
    rw [List.any_eq_true] at z
    obtain ⟨e, he, hd⟩ := z
    exact h e he (of_decide_eq_true hd)
def updS (es : Es) (k : Nat × Nat) (c : Mk) : Es := es.map fun e => if e.1 = k then (e.1, c) else e
theorem put_old {k : Nat × Nat} {es : Es} (h : ∃ e ∈ es, e.1 = k) (c : Mk) : putD kdT kT (es.map enD) (kq k) (celD c) = (updS es k c).map enD := by
  unfold putD updS
  rw [any_ev, if_pos]
  · rw [List.map_map, List.map_map]
    refine List.map_congr_left fun e _ => ?_
    show (if kT (keyD e.1) = some (kq k) then (keyD e.1, celD c) else enD e) = enD (if e.1 = k then (e.1, c) else e)
    by_cases h : e.1 = k
    · rw [if_pos h, if_pos (by rw [kT_key, h])]
      rfl
    · rw [if_neg h, if_neg (by rw [kT_key, Option.some.injEq, kq_inj]; exact h)]
  · rw [List.any_eq_true]
    obtain ⟨e, he, hk⟩ := h
    exact ⟨e, he, decide_eq_true hk⟩
def KN (es : Es) : Prop := es.Pairwise fun a b => a.1 ≠ b.1
theorem lk_mem {k : Nat × Nat} {v : Mk} : ∀ {es : Es}, KN es → (k, v) ∈ es → lk es k = some v
  | e :: es, h, hm => by
    obtain ⟨h1, h2⟩ := List.pairwise_cons.mp h
    unfold lk
    rw [List.find?_cons]
    rcases List.mem_cons.mp hm with rfl | hm
    · rw [decide_eq_true rfl]
      rfl
    · rw [decide_eq_false (h1 _ hm)]
      exact lk_mem h2 hm
theorem mem_lk {k : Nat × Nat} {v : Mk} {es : Es} (h : lk es k = some v) : (k, v) ∈ es := by
  unfold lk at h
  cases hf : es.find? fun e => decide (e.1 = k) with
  | none => rw [hf] at h; cases h
  | some e =>
    rw [hf] at h
    cases h
    have h1 := List.mem_of_find?_eq_some hf
    have h2 := of_decide_eq_true (List.find?_some (p := fun e : (Nat × Nat) × Mk => decide (e.1 = k)) hf)
    rw [← h2]
    exact h1
theorem lk_none {k : Nat × Nat} {es : Es} (h : ∀ e ∈ es, e.1 ≠ k) : lk es k = none := by
  unfold lk
  rw [List.find?_eq_none.mpr fun e he z => h e he (of_decide_eq_true z)]
  rfl
/-- row by row -/
def gridN (n c : Nat) (f : Nat → Nat → Mk) : Es := (List.range n).map fun k => ((k / c, k % c), f (k / c) (k % c))
def grid (r c : Nat) (f : Nat → Nat → Mk) : Es := gridN (r * c) c f
theorem dm_inj {a b c : Nat} (h1 : a / c = b / c) (h2 : a % c = b % c) : a = b := by
  rw [← Nat.div_add_mod a c, ← Nat.div_add_mod b c, h1, h2]
theorem gridN_kn (n c : Nat) (f : Nat → Nat → Mk) : KN (gridN n c f) := by
  unfold KN gridN
  rw [List.pairwise_map]
  refine List.pairwise_lt_range.imp fun {a b} h z => ?_
  have z' : (a / c, a % c) = (b / c, b % c) := z
  rw [Prod.mk.injEq] at z'
  have := dm_inj z'.1 z'.2
  omega
theorem gridN_succ (n c : Nat) (f : Nat → Nat → Mk) : gridN (n + 1) c f = gridN n c f ++ [((n / c, n % c), f (n / c) (n % c))] := by
  unfold gridN
  rw [List.range_succ, List.map_append]
  rfl
theorem gridN_new (n c : Nat) (f : Nat → Nat → Mk) : ∀ e ∈ gridN n c f, e.1 ≠ (n / c, n % c) := fun e he z => by
  unfold gridN at he
  obtain ⟨k, hk, rfl⟩ := List.mem_map.mp he
  have z' : (k / c, k % c) = (n / c, n % c) := z
  rw [Prod.mk.injEq] at z'
  have := dm_inj z'.1 z'.2
  have := List.mem_range.mp hk
  omega
theorem grid_mem {r c i j : Nat} (f : Nat → Nat → Mk) (hi : i < r) (hj : j < c) : ((i, j), f i j) ∈ grid r c f := by
  unfold grid gridN
  refine List.mem_map.mpr ⟨c * i + j, List.mem_range.mpr ?_, ?_⟩
  · have h1 : c * (i + 1) ≤ c * r := Nat.mul_le_mul_left c hi
    rw [Nat.mul_comm r c]
    rw [Nat.mul_add] at h1
    omega
  · have h1 : (c * i + j) / c = i := by
      rw [Nat.mul_add_div (by omega), Nat.div_eq_of_lt hj, Nat.add_zero]
    have h2 : (c * i + j) % c = j := by rw [Nat.mul_add_mod, Nat.mod_eq_of_lt hj]
    rw [h1, h2]
theorem grid_rg {r c : Nat} {f : Nat → Nat → Mk} : ∀ e ∈ grid r c f, e.1.1 < r ∧ e.1.2 < c := fun e he => by
  unfold grid gridN at he
  obtain ⟨k, hk, rfl⟩ := List.mem_map.mp he
  have hk' := List.mem_range.mp hk
  have hc : 0 < c := by
    rcases Nat.eq_zero_or_pos c with z | z
    · rw [z, Nat.mul_zero] at hk'; omega
    · exact z
  exact ⟨(Nat.div_lt_iff_lt_mul hc).mpr hk', Nat.mod_lt _ hc⟩
structure Own (es : Es) (R C : Nat) (p : Side) : Prop where
  rc : isRC p R C
  at_ : ∀ i j, i < R → j < C → lk es (i, j) = some (ce p i j)
  kn : KN es
  rg : ∀ e ∈ es, e.1.1 < R ∧ e.1.2 < C
theorem Own.val {es : Es} {R C : Nat} {p : Side} (o : Own es R C p) {e : (Nat × Nat) × Mk} (h : e ∈ es) : e.2 = ce p e.1.1 e.1.2 ∧ lk es e.1 = some e.2 := by
  have h1 := lk_mem o.kn (k := e.1) (v := e.2) h
  have h2 := o.at_ e.1.1 e.1.2 (o.rg e h).1 (o.rg e h).2
  rw [h1] at h2
  exact ⟨Option.some.inj h2, h1⟩
theorem grid_own {r c : Nat} {f : Nat → Nat → Mk} {p : Side} (h : isRC p r c) (hf : ∀ i j, i < r → j < c → f i j = ce p i j) : Own (grid r c f) r c p :=
  ⟨h, fun i j hi hj => by rw [lk_mem (show KN (grid r c f) from gridN_kn _ _ _) (grid_mem f hi hj), hf i j hi hj], gridN_kn _ _ _, grid_rg⟩
/-! loops that fill a dict -/
theorem idiv (a b : Nat) : ((a : Int) / (b : Int)) = ((a / b : Nat) : Int) := rfl
theorem imod (a b : Nat) : ((a : Int) % (b : Int)) = ((a % b : Nat) : Int) := rfl
theorem ixU_key {es : Es} {k : Nat × Nat} {c : Mk} (h : lk es k = some c) : ixU (dcD es) (keyD k) = some (celD c) := by
  show getD' kT (es.map enD) (kq k) = _
  rw [get_ev, h]
  rfl
theorem cdiv {a : Int} {c : Nat} (hc : 0 < c) (ha : 0 ≤ a) (h4 : c ≤ 1000) : CDiv a (c : Nat) := by
  unfold CDiv
  omega
/-- a dict filled row by row -/
theorem fill_ev (g : PyData → En → Option En) (b : En → Out) (mk : Es → Int → En → Prop) (r c : Nat) (f : Nat → Nat → Mk) (e0 : En) (h0 : mk [] 0 e0)
    (st : ∀ (n : Nat) (kv : Int) (es : Es) (e : En), n < r * c → kv = (n : Nat) → es = gridN n c f → mk es n e → ∃ e1, g (.int kv) e = some e1 ∧ ∃ e2, b e1 = .nx e2 ∧ mk (es ++ [((n / c, n % c), f (n / c) (n % c))]) ((n + 1 : Nat) : Int) e2) : ∃ e', loopF g b (rngD 0 (r * c)) e0 = .nx e' ∧ mk (grid r c f) ((r * c : Nat) : Int) e' := by
  refine loop_rng (fun n e => mk (gridN n c f) (n : Nat) e) ?_ h0
  intro n e hn he
  obtain ⟨e1, h1, e2, h2, h3⟩ := st n (0 + (n : Nat)) _ e hn (by omega) rfl he
  exact ⟨e1, h1, e2, .inl h2, by rw [gridN_succ]; exact h3⟩
theorem sPutT_ev {i : Nat} {fk f : En → Option PyData} {env : En} {es es' : Es} {k : Nat × Nat} {c : Mk} (h1 : f env = some (celD c)) (h2 : fk env = some (keyD k)) (h3 : env[i]? = some (.ownT (es.map enD))) (h4 : es.length < 1000000) (h5 : putD kdT kT (es.map enD) (kq k) (celD c) = es'.map enD) : sPutD i fk f env = .nx (env.set i (.ownT (es'.map enD))) := by
  unfold sPutD
  rw [h1, h2, h3]
  show (if (es.map enD).length < 1000000 then _ else _) = _
  rw [if_pos (by rw [List.length_map]; exact h4)]
  show Out.nx (env.set i (.ownT (putD kdT kT (es.map enD) (kq k) (celD c)))) = _
  rw [h5]
theorem gridN_len (n c : Nat) (f : Nat → Nat → Mk) : (gridN n c f).length = n := by unfold gridN; rw [List.length_map, List.length_range]
theorem key_ev {g h : En → Option PyData} {env : En} {a b : Int} {i j : Nat} (h1 : g env = some (.int a)) (h2 : h env = some (.int b)) (ha : a = (i : Nat)) (hb : b = (j : Nat)) : eTup (aCons g (aCons h aNil)) env = some (keyD (i, j)) := by
  rw [eTup_ev (aCons_ev h1 (aCons_ev h2 aNil_ev)) (by simp), ha, hb]
  rfl
/-- the law's flat sheet -/
theorem lsheet_ev (s : Int) (r c : Nat) (hr : r ≤ 100) (hc : 1 ≤ c) (hc2 : c ≤ 100) : g_Lsheet [.int s, .int (r : Nat), .int (c : Nat)] = some (.tuple [.int (r : Nat), .int (c : Nat), dcD (grid r c fun i j => [(s, ((i : Nat) : Int), ((j : Nat) : Int), false, false)])]) := by
  obtain ⟨rv, hrv⟩ : ∃ z : Int, z = (r : Nat) := ⟨_, rfl⟩
  obtain ⟨cv, hcv⟩ : ∃ z : Int, z = (c : Nat) := ⟨_, rfl⟩
  have hb : r * c ≤ 100 * 100 := Nat.mul_le_mul hr hc2
  rw [← hrv, ← hcv]
  obtain ⟨f, hf⟩ : ∃ f : Nat → Nat → Mk, f = fun i j => [(s, ((i : Nat) : Int), ((j : Nat) : Int), false, false)] := ⟨_, rfl⟩
  rw [← hf]
  have lp := fill_ev (gVal 4) b_Lsheet_1 (fun es _ e => ∃ z4, e = [.val (.int s), .val (.int rv), .val (.int cv), .ownT (es.map enD), z4]) r c f [.val (.int s), .val (.int rv), .val (.int cv), .ownT [], .un] ⟨.un, rfl⟩ (by
    rintro n kv es e hn hk rfl ⟨z4, rfl⟩
    refine ⟨_, rfl, [.val (.int s), .val (.int rv), .val (.int cv), .ownT ((gridN n c f ++ [((n / c, n % c), f (n / c) (n % c))]).map enD), .val (.int kv)], ?_, .val (.int kv), rfl⟩
    have d1 : e2 divD (eVar 4) (eVar 2) [.val (.int s), .val (.int rv), .val (.int cv), .ownT ((gridN n c f).map enD), .val (.int kv)] = some (.int ((n / c : Nat) : Int)) := e2_ev rfl rfl ((divD_int (by rw [hcv]; exact cdiv hc (by omega) (by omega))).trans (by rw [hk, hcv, idiv]))
    have d2 : e2 modD (eVar 4) (eVar 2) [.val (.int s), .val (.int rv), .val (.int cv), .ownT ((gridN n c f).map enD), .val (.int kv)] = some (.int ((n % c : Nat) : Int)) := e2_ev rfl rfl ((modD_int (by omega)).trans (by rw [hk, hcv, imod]))
    exact sPutT_ev (c := f (n / c) (n % c)) (eL_ev (fLst_ev (ds := (f (n / c) (n % c)).map layD) (by rw [hf]; exact aCons_ev (eTup_ev (aCons_ev rfl (aCons_ev d1 (aCons_ev d2 (aCons_ev rfl (aCons_ev rfl aNil_ev))))) (by simp)) aNil_ev) (by rw [hf]; simp))) (key_ev d1 d2 rfl rfl) rfl (by rw [gridN_len]; omega) (put_new (gridN_new n c f) _))
  obtain ⟨e', hl, z4, rfl⟩ := lp
  refine gDef_ev' (fB := f_Lsheet) [.val (.int s), .val (.int rv), .val (.int cv), .un, .un] rfl rfl ?_
  unfold f_Lsheet
  refine (sSeq_nx (e := [.val (.int s), .val (.int rv), .val (.int cv), .ownT [], .un]) rfl).trans ?_
  refine (sSeq_nx (sFor_ev (ds := rngD 0 (r * c)) ?_ hl)).trans ?_
  · have hm : rv * cv = ((r * c : Nat) : Int) := by rw [hrv, hcv]; rfl
    have := iR1_ev (fa := aCons (e2 mulD (eVar 1) (eVar 2)) aNil) (env := [.val (.int s), .val (.int rv), .val (.int cv), .ownT [], .un]) (N := rv * cv) (aCons_ev (e2_ev rfl rfl (mulD_int (by rw [hrv, hcv]; unfold CMul; omega))) aNil_ev) (by omega) (by omega)
    rw [hm, Int.toNat_natCast] at this
    exact this
  · rfl
/-- a part of a packet -/
theorem region_ev (R C : PyData) (es : Es) (t l r c : Nat) (f : Nat → Nat → Mk) (ht : t ≤ 100) (hl : l ≤ 100) (hr : r ≤ 100) (hc : 1 ≤ c) (hc2 : c ≤ 100) (hv : ∀ i j, i < r → j < c → lk es (t + i, l + j) = some (f i j)) (tv lv rv cv : Int) (e1 : tv = (t : Nat)) (e2' : lv = (l : Nat)) (hrv : rv = (r : Nat)) (hcv : cv = (c : Nat)) :
    g_Lregion [.tuple [R, C, dcD es], .int tv, .int lv, .int rv, .int cv] = some (.tuple [.int rv, .int cv, dcD (grid r c f)]) := by
  obtain ⟨P, hP⟩ : ∃ P : PyData, P = .tuple [R, C, dcD es] := ⟨_, rfl⟩
  have hb : r * c ≤ 100 * 100 := Nat.mul_le_mul hr hc2
  rw [← hP]
  have lp := fill_ev (gVal 6) b_Lregion_1 (fun ms _ e => ∃ z, e = [.val P, .val (.int tv), .val (.int lv), .val (.int rv), .val (.int cv), .ownT (ms.map enD), z]) r c f [.val P, .val (.int tv), .val (.int lv), .val (.int rv), .val (.int cv), .ownT [], .un] ⟨.un, rfl⟩ (by
    rintro n kv ms e hn hk rfl ⟨z4, rfl⟩
    refine ⟨_, rfl, [.val P, .val (.int tv), .val (.int lv), .val (.int rv), .val (.int cv), .ownT ((gridN n c f ++ [((n / c, n % c), f (n / c) (n % c))]).map enD), .val (.int kv)], ?_, .val (.int kv), rfl⟩
    have d1 : e2 divD (eVar 6) (eVar 4) [.val P, .val (.int tv), .val (.int lv), .val (.int rv), .val (.int cv), .ownT ((gridN n c f).map enD), .val (.int kv)] = some (.int ((n / c : Nat) : Int)) := e2_ev rfl rfl ((divD_int (by rw [hcv]; exact cdiv hc (by omega) (by omega))).trans (by rw [hk, hcv, idiv]))
    have d2 : e2 modD (eVar 6) (eVar 4) [.val P, .val (.int tv), .val (.int lv), .val (.int rv), .val (.int cv), .ownT ((gridN n c f).map enD), .val (.int kv)] = some (.int ((n % c : Nat) : Int)) := e2_ev rfl rfl ((modD_int (by omega)).trans (by rw [hk, hcv, imod]))
    have q1 : n / c < r := (Nat.div_lt_iff_lt_mul (by omega)).mpr hn
    have q2 : n % c < c := Nat.mod_lt _ (by omega)
    refine sPutT_ev (c := f (n / c) (n % c)) (e2_ev (x := dcD es) (e2_ev (x := P) (y := .int 2) rfl rfl (by rw [hP]; rfl)) (key_ev (i := t + n / c) (j := l + n % c) (e2_ev rfl d1 rfl) (e2_ev rfl d2 rfl) (by rw [e1]; rfl) (by rw [e2']; rfl)) (ixU_key (hv _ _ q1 q2))) (key_ev d1 d2 rfl rfl) rfl (by rw [gridN_len]; omega) (put_new (gridN_new n c f) _))
  obtain ⟨e', hl', z4, rfl⟩ := lp
  refine gDef_ev' (fB := f_Lregion) [.val P, .val (.int tv), .val (.int lv), .val (.int rv), .val (.int cv), .un, .un] rfl rfl ?_
  unfold f_Lregion
  refine (sSeq_nx (e := [.val P, .val (.int tv), .val (.int lv), .val (.int rv), .val (.int cv), .ownT [], .un]) rfl).trans ?_
  refine (sSeq_nx (sFor_ev (ds := rngD 0 (r * c)) ?_ hl')).trans ?_
  · have hm : rv * cv = ((r * c : Nat) : Int) := by rw [hrv, hcv]; rfl
    have := iR1_ev (fa := aCons (e2 mulD (eVar 3) (eVar 4)) aNil) (env := [.val P, .val (.int tv), .val (.int lv), .val (.int rv), .val (.int cv), .ownT [], .un]) (N := rv * cv) (aCons_ev (e2_ev rfl rfl (mulD_int (by rw [hrv, hcv]; unfold CMul; omega))) aNil_ev) (by omega) (by omega)
    rw [hm, Int.toNat_natCast] at this
    exact this
  · rfl
/-! the law's turn -/
theorem loop_cons {g : PyData → En → Option En} {b : En → Out} {d : PyData} {ds : List PyData} {e e1 e2 : En} (h1 : g d e = some e1) (h2 : b e1 = .nx e2) : loopF g b (d :: ds) e = loopF g b ds e2 := by
  rw [loopF, h1]
  simp only [h2]
theorem eqS3_ev {env : En} {x y : Str} (i : Nat) (hx : is3 x) (hy : is3 y) (hg : eVar i env = some (.str x)) : t1 (e2 eqD (eVar i) (eC (.str y))) env = some (decide (x = y)) := eqS_ev hx hy hg
def trE (x : Str) (R C : Nat) (e : (Nat × Nat) × Mk) : (Nat × Nat) × Mk := ((toR x R e.1.1, toC x C e.1.2), tcM x e.2)
theorem seqU_l {f : En → Option PyData} {env : En} {ds : List PyData} (h : f env = some (.list ds)) : iSeqU f env = some ds := by
  unfold iSeqU
  rw [h]
theorem lt_body {x : Str} (hx : is3 x) (P : PyData) (R C : Nat) (es ms : Es) (Rv Cv : Int) (hRv : Rv = (R : Nat)) (hCv : Cv = (C : Nat)) (e : (Nat × Nat) × Mk) (hi : e.1.1 < R) (hj : e.1.2 < C) (hR : R ≤ 100) (hC : C ≤ 100) (hlk : lk es e.1 = some e.2) (hlen : e.2.length ≤ 1000) (hms : ms.length < 1000000) (hn : ∀ m ∈ ms, m.1 ≠ (trE x R C e).1) (iv jv : Int) (hiv : iv = (e.1.1 : Nat)) (hjv : jv = (e.1.2 : Nat)) (z8 z9 z10 : Sl) :
    ∃ w8 w9 w10, b_Lturned_1 [.val P, .val (.str x), .val (.int Rv), .val (.int Cv), .val (dcD es), .ownT (ms.map enD), .val (.int iv), .val (.int jv), z8, z9, z10, .un] = .nx [.val P, .val (.str x), .val (.int Rv), .val (.int Cv), .val (dcD es), .ownT ((ms ++ [trE x R C e]).map enD), .val (.int iv), .val (.int jv), w8, w9, w10, .un] := by
  obtain ⟨⟨i, j⟩, c⟩ := e
  refine ⟨.val (celD (c.map (flL x))), .val (.int ((toR x R i : Nat) : Int)), .val (.int ((toC x C j : Nat) : Int)), ?_⟩
  have hi' : i < R := hi
  have hj' : j < C := hj
  have hiv' : iv = (i : Nat) := hiv
  have hjv' : jv = (j : Nat) := hjv
  have hlen' : c.length ≤ 1000 := hlen
  unfold b_Lturned_1
  refine (sSeq_nx (e := [.val P, .val (.str x), .val (.int Rv), .val (.int Cv), .val (dcD es), .ownT (ms.map enD), .val (.int iv), .val (.int jv), .val (celD (c.map (flL x))), z9, z10, .un]) (sSet_ev ((eL_ev (fCmp_ev (ds := c.map layD) (vs := c.map fun l : Lay => layD (flL x l)) (seqU_l (e2_ev (x := dcD es) rfl (key_ev (i := i) (j := j) rfl rfl hiv' hjv') (ixU_key hlk))) (compF_mapS fun l hl => ⟨_, rfl, eCall_ev (aCons_ev rfl (aCons_ev rfl aNil_ev)) (lf_ev hx l)⟩) (by simp; omega))).trans (by unfold celD; rw [List.map_map]; rfl)))).trans ?_
  refine (sSeq_nx (e := [.val P, .val (.str x), .val (.int Rv), .val (.int Cv), .val (dcD es), .ownT (ms.map enD), .val (.int iv), .val (.int jv), .val (celD (c.map (flL x))), .val (.int ((toR x R i : Nat) : Int)), z10, .un]) (sSet_ev (by
    unfold toR
    by_cases hv : x = "vertical"
    · rw [if_pos hv, ← hiv']
      exact eIf_t ((eqS3_ev 1 hx (.inl rfl) rfl).trans (by rw [decide_eq_true hv])) rfl
    · rw [if_neg hv]
      refine eIf_f ((eqS3_ev 1 hx (.inl rfl) rfl).trans (by rw [decide_eq_false hv])) (e2_ev (e2_ev rfl rfl (subD_int _ _)) rfl ((subD_int _ _).trans ?_))
      rw [hRv, hiv', show ((R : Nat) : Int) - 1 - (i : Nat) = ((R - 1 - i : Nat) : Int) from by omega]))).trans ?_
  refine (sSeq_nx (e := [.val P, .val (.str x), .val (.int Rv), .val (.int Cv), .val (dcD es), .ownT (ms.map enD), .val (.int iv), .val (.int jv), .val (celD (c.map (flL x))), .val (.int ((toR x R i : Nat) : Int)), .val (.int ((toC x C j : Nat) : Int)), .un]) (sSet_ev (by
    unfold toC
    by_cases hv : x = "horizontal"
    · rw [if_pos hv, ← hjv']
      exact eIf_t ((eqS3_ev 1 hx (.inr (.inl rfl)) rfl).trans (by rw [decide_eq_true hv])) rfl
    · rw [if_neg hv]
      refine eIf_f ((eqS3_ev 1 hx (.inr (.inl rfl)) rfl).trans (by rw [decide_eq_false hv])) (e2_ev (e2_ev rfl rfl (subD_int _ _)) rfl ((subD_int _ _).trans ?_))
      rw [hCv, hjv', show ((C : Nat) : Int) - 1 - (j : Nat) = ((C - 1 - j : Nat) : Int) from by omega]))).trans ?_
  refine sPutT_ev (es' := ms ++ [trE x R C ((i, j), c)]) (k := (toR x R i, toC x C j)) (c := tcM x c) ?_ (key_ev rfl rfl rfl rfl) rfl hms (put_new hn _)
  unfold tcM
  by_cases hb : x = "both"
  · rw [if_pos hb]
    exact eIf_t ((eqS3_ev 1 hx (.inr (.inr rfl)) rfl).trans (by rw [decide_eq_true hb])) rfl
  · rw [if_neg hb]
    refine eIf_f ((eqS3_ev 1 hx (.inr (.inr rfl)) rfl).trans (by rw [decide_eq_false hb])) ((revL_ev (ds := (c.map (flL x)).map layD) rfl).trans ?_)
    unfold celD
    rw [List.map_reverse]
theorem toR_lt {x : Str} {R i : Nat} (h : i < R) : toR x R i < R := by unfold toR; split <;> omega
theorem toC_lt {x : Str} {R i : Nat} (h : i < R) : toC x R i < R := by unfold toC; split <;> omega
theorem toR_inv {x : Str} {R i : Nat} (h : i < R) : toR x R (toR x R i) = i := by unfold toR; split <;> omega
theorem toC_inv {x : Str} {R i : Nat} (h : i < R) : toC x R (toC x R i) = i := by unfold toC; split <;> omega
theorem tr_ne {x : Str} {R C : Nat} {a b : (Nat × Nat) × Mk} (ha : a.1.1 < R ∧ a.1.2 < C) (hb : b.1.1 < R ∧ b.1.2 < C) (h : a.1 ≠ b.1) : (trE x R C a).1 ≠ (trE x R C b).1 := fun z => by
  have z' : (toR x R a.1.1, toC x C a.1.2) = (toR x R b.1.1, toC x C b.1.2) := z
  rw [Prod.mk.injEq] at z'
  apply h
  rw [← Prod.eta a.1, ← Prod.eta b.1, ← toR_inv (x := x) ha.1, ← toC_inv (x := x) ha.2, z'.1, z'.2, toR_inv hb.1, toC_inv hb.2]
theorem lturned_ev {x : Str} (hx : is3 x) {es : Es} {R C : Nat} {p : Side} (o : Own es R C p) (hR : R ≤ 100) (hC : C ≤ 100) (ht : tot p ≤ 100) (hl : es.length ≤ 10000) (Rv Cv : Int) (hRv : Rv = (R : Nat)) (hCv : Cv = (C : Nat)) :
    g_Lturned [.tuple [.int Rv, .int Cv, dcD es], .str x] = some (.tuple [.int Rv, .int Cv, dcD (es.map (trE x R C))]) ∧ Own (es.map (trE x R C)) R C (tP x p) := by
  refine ⟨?_, tP_rc o.rc x, fun i j hi hj => ?_, ?_, fun e he => ?_⟩
  · obtain ⟨P, hP⟩ : ∃ P : PyData, P = .tuple [.int Rv, .int Cv, dcD es] := ⟨_, rfl⟩
    rw [← hP]
    have lp : ∀ (rest done : Es) (z6 z7 z8 z9 z10 : Sl), es = done ++ rest → ∃ w6 w7 w8 w9 w10, loopF (gT [6, 7]) b_Lturned_1 (rest.map fun e => keyD e.1) [.val P, .val (.str x), .val (.int Rv), .val (.int Cv), .val (dcD es), .ownT ((done.map (trE x R C)).map enD), z6, z7, z8, z9, z10, .un] = .nx [.val P, .val (.str x), .val (.int Rv), .val (.int Cv), .val (dcD es), .ownT ((es.map (trE x R C)).map enD), w6, w7, w8, w9, w10, .un] := by
      intro rest
      induction rest with
      | nil =>
        intro done z6 z7 z8 z9 z10 h
        rw [List.append_nil] at h
        exact ⟨z6, z7, z8, z9, z10, by rw [h]; rfl⟩
      | cons e rest ih =>
        intro done z6 z7 z8 z9 z10 h
        have hm : e ∈ es := by rw [h]; exact List.mem_append_right _ List.mem_cons_self
        have hv := o.val hm
        have hr := o.rg e hm
        obtain ⟨iv, hiv⟩ : ∃ z : Int, z = (e.1.1 : Nat) := ⟨_, rfl⟩
        obtain ⟨jv, hjv⟩ : ∃ z : Int, z = (e.1.2 : Nat) := ⟨_, rfl⟩
        obtain ⟨w8, w9, w10, hb⟩ := lt_body hx P R C es (done.map (trE x R C)) Rv Cv hRv hCv e hr.1 hr.2 hR hC hv.2 (by rw [hv.1]; exact Nat.le_trans ce_len (by omega)) (by rw [List.length_map]; have := congrArg List.length h; rw [List.length_append] at this; omega) (fun m hm2 => by
          obtain ⟨d, hd, rfl⟩ := List.mem_map.mp hm2
          refine tr_ne (o.rg d (by rw [h]; exact List.mem_append_left _ hd)) hr ?_
          have kn := o.kn
          unfold KN at kn
          rw [h] at kn
          exact (List.pairwise_append.mp kn).2.2 d hd e List.mem_cons_self) iv jv hiv hjv z8 z9 z10
        obtain ⟨v6, v7, v8, v9, v10, hi⟩ := ih (done ++ [e]) (.val (.int iv)) (.val (.int jv)) w8 w9 w10 (by rw [h, List.append_assoc]; rfl)
        refine ⟨v6, v7, v8, v9, v10, ?_⟩
        rw [← hi, List.map_append]
        have hg : gT [6, 7] (keyD e.1) [.val P, .val (.str x), .val (.int Rv), .val (.int Cv), .val (dcD es), .ownT ((done.map (trE x R C)).map enD), z6, z7, z8, z9, z10, .un] = some [.val P, .val (.str x), .val (.int Rv), .val (.int Cv), .val (dcD es), .ownT ((done.map (trE x R C)).map enD), .val (.int iv), .val (.int jv), z8, z9, z10, .un] := by rw [hiv, hjv]; rfl
        exact loop_cons hg hb
    obtain ⟨w6, w7, w8, w9, w10, hlp⟩ := lp es [] .un .un .un .un .un rfl
    refine gDef_ev' (fB := f_Lturned) [.val P, .val (.str x), .un, .un, .un, .un, .un, .un, .un, .un, .un, .un] rfl rfl ?_
    unfold f_Lturned
    refine (sSeq_nx (e := [.val P, .val (.str x), .val (.int Rv), .val (.int Cv), .val (dcD es), .un, .un, .un, .un, .un, .un, .un]) (sUnp_ev (d := P) rfl (by rw [hP]; rfl))).trans ?_
    refine (sSeq_nx (e := [.val P, .val (.str x), .val (.int Rv), .val (.int Cv), .val (dcD es), .ownT [], .un, .un, .un, .un, .un, .un]) rfl).trans ?_
    refine (sSeq_nx (sFor_ev (ds := es.map fun e => keyD e.1) ?_ hlp)).trans ?_
    · show some ((es.map enD).map (·.1)) = _
      rw [List.map_map]
      rfl
    · rfl
  · refine lk_mem (es := es.map (trE x R C)) ?_ ?_
    · exact List.pairwise_map.mpr (o.kn.imp_of_mem fun {a b} ha hb h => tr_ne (o.rg a ha) (o.rg b hb) h)
    · have hm := mem_lk (o.at_ (toR x R i) (toC x C j) (toR_lt hi) (toC_lt hj))
      refine List.mem_map.mpr ⟨_, hm, ?_⟩
      show ((toR x R (toR x R i), toC x C (toC x C j)), tcM x (ce p (toR x R i) (toC x C j))) = _
      rw [toR_inv hi, toC_inv hj, tP_ce o.rc x hi hj]
  · exact List.pairwise_map.mpr (o.kn.imp_of_mem fun {a b} ha hb h => tr_ne (o.rg a ha) (o.rg b hb) h)
  · obtain ⟨d, hd, rfl⟩ := List.mem_map.mp he
    exact ⟨toR_lt (o.rg d hd).1, toC_lt (o.rg d hd).2⟩
/-! the law's laying -/
def fupd (f : Nat → Nat → Mk) (i j : Nat) (v : Mk) : Nat → Nat → Mk := fun a b => if a = i ∧ b = j then v else f a b
theorem updS_grid (R C : Nat) (f : Nat → Nat → Mk) (i j : Nat) (v : Mk) : updS (grid R C f) (i, j) v = grid R C (fupd f i j v) := by
  unfold updS grid gridN
  rw [List.map_map]
  refine List.map_congr_left fun k _ => ?_
  show (if (k / C, k % C) = (i, j) then ((k / C, k % C), v) else ((k / C, k % C), f (k / C) (k % C))) = ((k / C, k % C), fupd f i j v (k / C) (k % C))
  unfold fupd
  by_cases h : k / C = i ∧ k % C = j
  · rw [if_pos h, if_pos (by rw [h.1, h.2])]
  · rw [if_neg h, if_neg (fun z => h (Prod.mk.inj z))]
def addE (es : Es) (dn ac : Nat) (f : Nat → Nat → Mk) : Nat → Nat → Mk := fun i j => f i j ++ (if dn ≤ i ∧ ac ≤ j then (lk es (i - dn, j - ac)).getD [] else [])
theorem addE_nil (dn ac : Nat) (f : Nat → Nat → Mk) : addE [] dn ac f = f := by
  funext i j
  show f i j ++ (if dn ≤ i ∧ ac ≤ j then ([] : Mk) else []) = f i j
  rw [ite_self, List.append_nil]
theorem lk_cons (e : (Nat × Nat) × Mk) (es : Es) (k : Nat × Nat) : lk (e :: es) k = if e.1 = k then some e.2 else lk es k := by
  unfold lk
  rw [List.find?_cons]
  by_cases h : e.1 = k
  · rw [decide_eq_true h, if_pos h]
    rfl
  · rw [decide_eq_false h, if_neg h]
theorem addE_cons (e : (Nat × Nat) × Mk) (es : Es) (h : ∀ a ∈ es, e.1 ≠ a.1) (dn ac : Nat) (f : Nat → Nat → Mk) : addE (e :: es) dn ac f = addE es dn ac (fupd f (e.1.1 + dn) (e.1.2 + ac) (f (e.1.1 + dn) (e.1.2 + ac) ++ e.2)) := by
  obtain ⟨⟨a, b⟩, c⟩ := e
  funext i j
  unfold addE fupd
  rw [lk_cons]
  by_cases hx : i = a + dn ∧ j = b + ac
  · obtain ⟨rfl, rfl⟩ := hx
    have hn : lk es (a, b) = none := lk_none fun z hz q => h z hz q.symm
    rw [if_pos ⟨Nat.le_add_left _ _, Nat.le_add_left _ _⟩, Nat.add_sub_cancel, Nat.add_sub_cancel, if_pos rfl, if_pos ⟨rfl, rfl⟩, if_pos ⟨Nat.le_add_left _ _, Nat.le_add_left _ _⟩, hn]
    simp
  · rw [if_neg (show ¬ (i = ((a, b), c).1.1 + dn ∧ j = ((a, b), c).1.2 + ac) from hx)]
    by_cases hy : dn ≤ i ∧ ac ≤ j
    · rw [if_pos hy, if_pos hy, if_neg]
      intro z
      have z' : a = i - dn ∧ b = j - ac := Prod.mk.inj z
      exact hx (by omega)
    · rw [if_neg hy, if_neg hy]
theorem own_getD {es : Es} {R C : Nat} {p : Side} (o : Own es R C p) (i j : Nat) : (lk es (i, j)).getD [] = ce p i j := by
  by_cases h : i < R ∧ j < C
  · rw [o.at_ i j h.1 h.2]
    rfl
  · rw [ce_out o.rc (by omega), lk_none]
    · rfl
    · intro e he z
      have := o.rg e he
      rw [z] at this
      exact h this
theorem piece_loop (A B O Q : PyData) (e w : Str) (R C : Nat) (Rv Cv : Int) (es : Es) (hQ : ixU Q (.int 2) = some (dcD es)) (dn ac : Nat) (dv av : Int) (hdv : dv = (dn : Nat)) (hav : av = (ac : Nat)) (hbig : R * C ≤ 10000) (z7 : Sl) : ∀ (rest : Es) (f : Nat → Nat → Mk) (z12 z13 z14 : Sl), KN rest →
    (∀ x ∈ rest, lk es x.1 = some x.2 ∧ x.1.1 + dn < R ∧ x.1.2 + ac < C ∧ x.2.length ≤ 1000 ∧ (f (x.1.1 + dn) (x.1.2 + ac)).length ≤ 1000) →
    ∃ w12 w13 w14, loopF (gT [12, 13]) b_Llaid_2 (rest.map fun x => keyD x.1) [.val A, .val B, .val (.str e), .val (.str w), .val (.int Rv), .val (.int Cv), .ownT ((grid R C f).map enD), z7, .val O, .val Q, .val (.int dv), .val (.int av), z12, z13, z14] =
      .nx [.val A, .val B, .val (.str e), .val (.str w), .val (.int Rv), .val (.int Cv), .ownT ((grid R C (addE rest dn ac f)).map enD), z7, .val O, .val Q, .val (.int dv), .val (.int av), w12, w13, w14] := by
  intro rest
  induction rest with
  | nil => intro f z12 z13 z14 _ _; exact ⟨z12, z13, z14, by rw [addE_nil]; rfl⟩
  | cons x rest ih =>
    intro f z12 z13 z14 kn hx
    obtain ⟨k1, k2⟩ := List.pairwise_cons.mp kn
    obtain ⟨h1, h2, h3, h4, h5⟩ := hx x List.mem_cons_self
    obtain ⟨iv, hiv⟩ : ∃ z : Int, z = (x.1.1 : Nat) := ⟨_, rfl⟩
    obtain ⟨jv, hjv⟩ : ∃ z : Int, z = (x.1.2 : Nat) := ⟨_, rfl⟩
    obtain ⟨f', hf'⟩ : ∃ f', f' = fupd f (x.1.1 + dn) (x.1.2 + ac) (f (x.1.1 + dn) (x.1.2 + ac) ++ x.2) := ⟨_, rfl⟩
    obtain ⟨w12, w13, w14, hi⟩ := ih f' (.val (.int iv)) (.val (.int jv)) (.val (keyD (x.1.1 + dn, x.1.2 + ac))) k2 (fun y hy => by
      obtain ⟨q1, q2, q3, q4, q5⟩ := hx y (List.mem_cons_of_mem _ hy)
      refine ⟨q1, q2, q3, q4, ?_⟩
      rw [hf']
      unfold fupd
      rw [if_neg]
      · exact q5
      · intro z
        apply k1 y hy
        rw [← Prod.eta x.1, ← Prod.eta y.1, show x.1.1 = y.1.1 from by omega, show x.1.2 = y.1.2 from by omega])
    refine ⟨w12, w13, w14, ?_⟩
    rw [addE_cons x rest k1, ← hf', ← hi]
    have hg : gT [12, 13] (keyD x.1) [.val A, .val B, .val (.str e), .val (.str w), .val (.int Rv), .val (.int Cv), .ownT ((grid R C f).map enD), z7, .val O, .val Q, .val (.int dv), .val (.int av), z12, z13, z14] = some [.val A, .val B, .val (.str e), .val (.str w), .val (.int Rv), .val (.int Cv), .ownT ((grid R C f).map enD), z7, .val O, .val Q, .val (.int dv), .val (.int av), .val (.int iv), .val (.int jv), z14] := by rw [hiv, hjv]; rfl
    refine loop_cons hg ?_
    unfold b_Llaid_2
    refine (sSeq_nx (e := [.val A, .val B, .val (.str e), .val (.str w), .val (.int Rv), .val (.int Cv), .ownT ((grid R C f).map enD), z7, .val O, .val Q, .val (.int dv), .val (.int av), .val (.int iv), .val (.int jv), .val (keyD (x.1.1 + dn, x.1.2 + ac))]) (sSet_ev (key_ev (i := x.1.1 + dn) (j := x.1.2 + ac) (e2_ev rfl rfl (addD_int _ _)) (e2_ev rfl rfl (addD_int _ _)) (by omega) (by omega)))).trans ?_
    refine sPutT_ev (k := (x.1.1 + dn, x.1.2 + ac)) (c := f (x.1.1 + dn) (x.1.2 + ac) ++ x.2) (es := grid R C f) (e2_ev (x := celD (f (x.1.1 + dn) (x.1.2 + ac))) (y := celD x.2) ?_ (e2_ev (x := dcD es) (e2_ev (x := Q) (y := .int 2) rfl rfl hQ) (key_ev (i := x.1.1) (j := x.1.2) rfl rfl hiv hjv) (ixU_key h1)) ?_) rfl rfl (by unfold grid; rw [gridN_len]; omega) ?_
    · show getD' kT ((grid R C f).map enD) (kq (x.1.1 + dn, x.1.2 + ac)) = _
      rw [get_ev, lk_mem (show KN (grid R C f) from gridN_kn _ _ _) (grid_mem f h2 h3)]
      rfl
    · refine (addD_list (by rw [List.length_map, List.length_map]; omega)).trans ?_
      unfold celD
      rw [← List.map_append]
    · rw [put_old ⟨_, grid_mem f h2 h3, rfl⟩, updS_grid, hf']
def dnE (e : Str) (R R1 : Nat) : Nat := if e = "bottom" then R - R1 else 0
def acE (e : Str) (C C1 : Nat) : Nat := if e = "right" then C - C1 else 0
theorem eqE_ev {env : En} {g : En → Option PyData} {e y : Str} (he : is4 e) (hy : is4 y) (hg : g env = some (.str e)) : t1 (e2 eqD g (eC (.str y))) env = some (decide (e = y)) := by
  unfold t1 e2
  rw [hg]
  rcases he with rfl | rfl | rfl | rfl <;> rcases hy with rfl | rfl | rfl | rfl <;> kernel_rfl
theorem piece_ev (A B O : PyData) (e w : Str) (he : is4 e) (R C R1 C1 : Nat) (Rv Cv R1v C1v : Int) (hRv : Rv = (R : Nat)) (hCv : Cv = (C : Nat)) (hR1v : R1v = (R1 : Nat)) (hC1v : C1v = (C1 : Nat)) (es : Es) (p : Side) (o : Own es R1 C1 p) (ht : tot p ≤ 100) (hR : R1 ≤ R) (hC : C1 ≤ C) (hbig : R * C ≤ 10000) (f : Nat → Nat → Mk) (hf : ∀ i j, (f i j).length ≤ 1000) (z7 z10 z11 z12 z13 z14 : Sl) :
    ∃ w10 w11 w12 w13 w14, b_Llaid_3 [.val A, .val B, .val (.str e), .val (.str w), .val (.int Rv), .val (.int Cv), .ownT ((grid R C f).map enD), z7, .val O, .val (.tuple [.int R1v, .int C1v, dcD es]), z10, z11, z12, z13, z14] =
      .nx [.val A, .val B, .val (.str e), .val (.str w), .val (.int Rv), .val (.int Cv), .ownT ((grid R C (addE es (dnE e R R1) (acE e C C1) f)).map enD), z7, .val O, .val (.tuple [.int R1v, .int C1v, dcD es]), w10, w11, w12, w13, w14] := by
  obtain ⟨Q, hQ⟩ : ∃ Q : PyData, Q = .tuple [.int R1v, .int C1v, dcD es] := ⟨_, rfl⟩
  rw [← hQ]
  obtain ⟨dv, hdv⟩ : ∃ z : Int, z = (dnE e R R1 : Nat) := ⟨_, rfl⟩
  obtain ⟨av, hav⟩ : ∃ z : Int, z = (acE e C C1 : Nat) := ⟨_, rfl⟩
  have d1 : dnE e R R1 ≤ R - R1 := by unfold dnE; split <;> omega
  have d2 : acE e C C1 ≤ C - C1 := by unfold acE; split <;> omega
  obtain ⟨w12, w13, w14, hl⟩ := piece_loop A B O Q e w R C Rv Cv es (by rw [hQ]; rfl) (dnE e R R1) (acE e C C1) dv av hdv hav hbig z7 es f z12 z13 z14 o.kn (fun x hx => by
    have h1 := o.val hx
    have h2 := o.rg x hx
    exact ⟨h1.2, by omega, by omega, by rw [h1.1]; exact Nat.le_trans ce_len (by omega), hf _ _⟩)
  refine ⟨.val (.int dv), .val (.int av), w12, w13, w14, ?_⟩
  unfold b_Llaid_3
  refine (sSeq_nx (e := [.val A, .val B, .val (.str e), .val (.str w), .val (.int Rv), .val (.int Cv), .ownT ((grid R C f).map enD), z7, .val O, .val Q, .val (.int dv), z11, z12, z13, z14]) (sSet_ev (by
    rw [hdv]
    unfold dnE
    by_cases h : e = "bottom"
    · rw [if_pos h]
      refine eIf_t ((eqE_ev he (.inr (.inr (.inr rfl))) rfl).trans (by rw [decide_eq_true h])) (e2_ev (x := .int Rv) (y := .int R1v) rfl (e2_ev (x := Q) (y := .int 0) rfl rfl (by rw [hQ]; rfl)) ((subD_int _ _).trans ?_))
      rw [hRv, hR1v, show ((R : Nat) : Int) - (R1 : Nat) = ((R - R1 : Nat) : Int) from by omega]
    · rw [if_neg h]
      exact eIf_f ((eqE_ev he (.inr (.inr (.inr rfl))) rfl).trans (by rw [decide_eq_false h])) rfl))).trans ?_
  refine (sSeq_nx (e := [.val A, .val B, .val (.str e), .val (.str w), .val (.int Rv), .val (.int Cv), .ownT ((grid R C f).map enD), z7, .val O, .val Q, .val (.int dv), .val (.int av), z12, z13, z14]) (sSet_ev (by
    rw [hav]
    unfold acE
    by_cases h : e = "right"
    · rw [if_pos h]
      refine eIf_t ((eqE_ev he (.inr (.inl rfl)) rfl).trans (by rw [decide_eq_true h])) (e2_ev (x := .int Cv) (y := .int C1v) rfl (e2_ev (x := Q) (y := .int 1) rfl rfl (by rw [hQ]; rfl)) ((subD_int _ _).trans ?_))
      rw [hCv, hC1v, show ((C : Nat) : Int) - (C1 : Nat) = ((C - C1 : Nat) : Int) from by omega]
    · rw [if_neg h]
      exact eIf_f ((eqE_ev he (.inr (.inl rfl)) rfl).trans (by rw [decide_eq_false h])) rfl))).trans ?_
  refine sFor_ev (ds := es.map fun x => keyD x.1) ?_ hl
  have hs : e2 ixU (eVar 9) (eC (.int 2)) [.val A, .val B, .val (.str e), .val (.str w), .val (.int Rv), .val (.int Cv), .ownT ((grid R C f).map enD), z7, .val O, .val Q, .val (.int dv), .val (.int av), z12, z13, z14] = some (dcD es) := e2_ev (x := Q) (y := .int 2) rfl rfl (by rw [hQ]; rfl)
  unfold iSeqU
  rw [hs]
  show some ((es.map enD).map (·.1)) = _
  rw [List.map_map]
  rfl
theorem addE_pc {es : Es} {R1 C1 : Nat} {p : Side} (o : Own es R1 C1 p) (e : Str) (R C i j : Nat) (f : Nat → Nat → Mk) : addE es (dnE e R R1) (acE e C C1) f i j = f i j ++ pc p e R C R1 C1 i j := by
  unfold addE pc dnE acE
  rw [own_getD o]
theorem pc_len (p : Side) (e : Str) (R C R1 C1 i j : Nat) : (pc p e R C R1 C1 i j).length ≤ tot p := by
  unfold pc
  by_cases h : ((if e = "bottom" then R - R1 else 0) ≤ i ∧ (if e = "right" then C - C1 else 0) ≤ j)
  · rw [if_pos h]
    exact ce_len
  · rw [if_neg h]
    exact Nat.zero_le _
theorem mx2_ev {f g : En → Option PyData} {env : En} {a b : Nat} {av bv : Int} (h1 : f env = some (.int av)) (h2 : g env = some (.int bv)) (ha : av = (a : Nat)) (hb : bv = (b : Nat)) : eCall mx2 (aCons f (aCons g aNil)) env = some (.int ((max a b : Nat) : Int)) := by
  refine (eCall_ev (aCons_ev h1 (aCons_ev h2 aNil_ev)) rfl).trans ?_
  rw [ha, hb]
  by_cases h : (b : Int) > (a : Int)
  · rw [if_pos h, show max a b = b from by omega]
  · rw [if_neg h, show max a b = a from by omega]
theorem laid_ev {ea eb : Es} {R1 C1 R2 C2 : Nat} {a b : Side} (oa : Own ea R1 C1 a) (ob : Own eb R2 C2 b) (ta : tot a ≤ 100) (tb : tot b ≤ 100) (hR1 : R1 ≤ 70) (hC1 : C1 ≤ 70) (hR2 : R2 ≤ 70) (hC2 : C2 ≤ 70) (hC : 1 ≤ max C1 C2) {e w : Str} (he : is4 e) (hw : is2 w) (hfit : fitE e R1 C1 R2 C2) (R1v C1v R2v C2v : Int) (h1 : R1v = (R1 : Nat)) (h2 : C1v = (C1 : Nat)) (h3 : R2v = (R2 : Nat)) (h4 : C2v = (C2 : Nat)) :
    ∃ es, g_Llaid [.tuple [.int R1v, .int C1v, dcD ea], .tuple [.int R2v, .int C2v, dcD eb], .str e, .str w] = some (.tuple [.int ((max R1 R2 : Nat) : Int), .int ((max C1 C2 : Nat) : Int), dcD es]) ∧ Own es (max R1 R2) (max C1 C2) (lyAt e w a b) ∧ es.length ≤ 10000 := by
  obtain ⟨R, hR⟩ : ∃ R, R = max R1 R2 := ⟨_, rfl⟩
  obtain ⟨C, hCd⟩ : ∃ R, R = max C1 C2 := ⟨_, rfl⟩
  have hor : R1 = R2 ∨ C1 = C2 := by unfold fitE at hfit; split at hfit; exact .inl hfit; exact .inr hfit
  have rc := lyAt_rc oa.rc ob.rc hor e w
  have hce := fun i j hi hj => lyAt_ce (w := w) oa.rc ob.rc he hfit (i := i) (j := j) hi hj
  rw [← hR, ← hCd] at rc ⊢
  simp only [← hR, ← hCd] at hce
  obtain ⟨Rv, hRv⟩ : ∃ z : Int, z = (R : Nat) := ⟨_, rfl⟩
  obtain ⟨Cv, hCv⟩ : ∃ z : Int, z = (C : Nat) := ⟨_, rfl⟩
  rw [← hRv, ← hCv]
  have hbig : R * C ≤ 70 * 70 := Nat.mul_le_mul (by omega) (by omega)
  obtain ⟨A, hA⟩ : ∃ P : PyData, P = .tuple [.int R1v, .int C1v, dcD ea] := ⟨_, rfl⟩
  obtain ⟨B, hB⟩ : ∃ P : PyData, P = .tuple [.int R2v, .int C2v, dcD eb] := ⟨_, rfl⟩
  -- the order
  obtain ⟨eu, el, U, L, RU, CU, RL, CL, u, l, RUv, CUv, RLv, CLv, hU, hL, ou, ol, tu, tl, g1, g2, g3, g4, k1, k2, k3, k4, hord, hsem⟩ : ∃ (eu el : Es) (U L : PyData) (RU CU RL CL : Nat) (u l : Side) (RUv CUv RLv CLv : Int), U = .tuple [.int RUv, .int CUv, dcD eu] ∧ L = .tuple [.int RLv, .int CLv, dcD el] ∧ Own eu RU CU u ∧ Own el RL CL l ∧ tot u ≤ 100 ∧ tot l ≤ 100 ∧ RUv = (RU : Nat) ∧ CUv = (CU : Nat) ∧ RLv = (RL : Nat) ∧ CLv = (CL : Nat) ∧ RU ≤ R ∧ CU ≤ C ∧ RL ≤ R ∧ CL ≤ C ∧
      (∀ z6 z7 : Sl, eIf (t1 (e2 eqD (eVar 3) (eC (.str "over")))) (eL (fLst (aCons (eVar 0) (aCons (eVar 1) aNil)))) (eL (fLst (aCons (eVar 1) (aCons (eVar 0) aNil)))) [.val A, .val B, .val (.str e), .val (.str w), .val (.int Rv), .val (.int Cv), z6, z7, .un, .un, .un, .un, .un, .un, .un] = some (.list [U, L])) ∧
      ∀ i j, i < R → j < C → ce (lyAt e w a b) i j = pc u e R C RU CU i j ++ pc l e R C RL CL i j := by
    by_cases hw' : w = "over"
    · refine ⟨ea, eb, A, B, R1, C1, R2, C2, a, b, R1v, C1v, R2v, C2v, hA, hB, oa, ob, ta, tb, h1, h2, h3, h4, by omega, by omega, by omega, by omega, fun z6 z7 => eIf_t ((ov_ev hw rfl).trans (by rw [decide_eq_true hw'])) (eL_ev (fLst_ev (aCons_ev rfl (aCons_ev rfl aNil_ev)) (by simp))), fun i j hi hj => ?_⟩
      rw [hce i j hi hj, if_pos hw']
    · refine ⟨eb, ea, B, A, R2, C2, R1, C1, b, a, R2v, C2v, R1v, C1v, hB, hA, ob, oa, tb, ta, h3, h4, h1, h2, by omega, by omega, by omega, by omega, fun z6 z7 => eIf_f ((ov_ev hw rfl).trans (by rw [decide_eq_false hw'])) (eL_ev (fLst_ev (aCons_ev rfl (aCons_ev rfl aNil_ev)) (by simp))), fun i j hi hj => ?_⟩
      rw [hce i j hi hj, if_neg hw']
  obtain ⟨f0, hf0⟩ : ∃ f : Nat → Nat → Mk, f = fun _ _ => [] := ⟨_, rfl⟩
  obtain ⟨f1, hf1⟩ : ∃ f, f = addE eu (dnE e R RU) (acE e C CU) f0 := ⟨_, rfl⟩
  obtain ⟨f2, hf2⟩ : ∃ f, f = addE el (dnE e R RL) (acE e C CL) f1 := ⟨_, rfl⟩
  have b0 : ∀ i j, (f0 i j).length ≤ 1000 := fun i j => by rw [hf0]; exact Nat.zero_le _
  have b1 : ∀ i j, (f1 i j).length ≤ 1000 := fun i j => by
    rw [hf1, addE_pc ou, hf0]
    exact Nat.le_trans (pc_len u e R C RU CU i j) (by omega)
  refine ⟨grid R C f2, ?_, grid_own rc fun i j hi hj => ?_, by unfold grid; rw [gridN_len]; omega⟩
  · have lp := fill_ev (gVal 7) b_Llaid_1 (fun ms _ e' => ∃ z, e' = [.val A, .val B, .val (.str e), .val (.str w), .val (.int Rv), .val (.int Cv), .ownT (ms.map enD), z, .un, .un, .un, .un, .un, .un, .un]) R C f0 [.val A, .val B, .val (.str e), .val (.str w), .val (.int Rv), .val (.int Cv), .ownT [], .un, .un, .un, .un, .un, .un, .un, .un] ⟨.un, rfl⟩ (by
      rintro n kv ms e' hn hk rfl ⟨z4, rfl⟩
      refine ⟨_, rfl, [.val A, .val B, .val (.str e), .val (.str w), .val (.int Rv), .val (.int Cv), .ownT ((gridN n C f0 ++ [((n / C, n % C), f0 (n / C) (n % C))]).map enD), .val (.int kv), .un, .un, .un, .un, .un, .un, .un], ?_, .val (.int kv), rfl⟩
      have d1 : e2 divD (eVar 7) (eVar 5) [.val A, .val B, .val (.str e), .val (.str w), .val (.int Rv), .val (.int Cv), .ownT ((gridN n C f0).map enD), .val (.int kv), .un, .un, .un, .un, .un, .un, .un] = some (.int ((n / C : Nat) : Int)) := e2_ev rfl rfl ((divD_int (by rw [hCv]; exact cdiv (by omega) (by omega) (by omega))).trans (by rw [hk, hCv, idiv]))
      have d2 : e2 modD (eVar 7) (eVar 5) [.val A, .val B, .val (.str e), .val (.str w), .val (.int Rv), .val (.int Cv), .ownT ((gridN n C f0).map enD), .val (.int kv), .un, .un, .un, .un, .un, .un, .un] = some (.int ((n % C : Nat) : Int)) := e2_ev rfl rfl ((modD_int (by omega)).trans (by rw [hk, hCv, imod]))
      refine sPutT_ev (c := f0 (n / C) (n % C)) (by rw [hf0]; rfl) (key_ev d1 d2 rfl rfl) rfl (by rw [gridN_len]; omega) (put_new (gridN_new n C f0) _))
    obtain ⟨e', hl', z7, rfl⟩ := lp
    rw [← hA, ← hB]
    refine gDef_ev' (fB := f_Llaid) [.val A, .val B, .val (.str e), .val (.str w), .un, .un, .un, .un, .un, .un, .un, .un, .un, .un, .un] rfl rfl ?_
    unfold f_Llaid
    refine (sSeq_nx (e := [.val A, .val B, .val (.str e), .val (.str w), .val (.int Rv), .un, .un, .un, .un, .un, .un, .un, .un, .un, .un]) (sSet_ev ((mx2_ev (e2_ev (x := A) (y := .int 0) rfl rfl (by rw [hA]; rfl)) (e2_ev (x := B) (y := .int 0) rfl rfl (by rw [hB]; rfl)) h1 h3).trans (by rw [← hR, ← hRv])))).trans ?_
    refine (sSeq_nx (e := [.val A, .val B, .val (.str e), .val (.str w), .val (.int Rv), .val (.int Cv), .un, .un, .un, .un, .un, .un, .un, .un, .un]) (sSet_ev ((mx2_ev (e2_ev (x := A) (y := .int 1) rfl rfl (by rw [hA]; rfl)) (e2_ev (x := B) (y := .int 1) rfl rfl (by rw [hB]; rfl)) h2 h4).trans (by rw [← hCd, ← hCv])))).trans ?_
    refine (sSeq_nx (e := [.val A, .val B, .val (.str e), .val (.str w), .val (.int Rv), .val (.int Cv), .ownT [], .un, .un, .un, .un, .un, .un, .un, .un]) rfl).trans ?_
    refine (sSeq_nx (sFor_ev (ds := rngD 0 (R * C)) ?_ hl')).trans ?_
    · have hm : Rv * Cv = ((R * C : Nat) : Int) := by rw [hRv, hCv]; rfl
      have := iR1_ev (fa := aCons (e2 mulD (eVar 4) (eVar 5)) aNil) (env := [.val A, .val B, .val (.str e), .val (.str w), .val (.int Rv), .val (.int Cv), .ownT [], .un, .un, .un, .un, .un, .un, .un, .un]) (N := Rv * Cv) (aCons_ev (e2_ev rfl rfl (mulD_int (by rw [hRv, hCv]; unfold CMul; omega))) aNil_ev) (by omega) (by omega)
      rw [hm, Int.toNat_natCast] at this
      exact this
    refine (sSeq_nx (sSet_ev (hord _ z7))).trans ?_
    obtain ⟨w10, w11, w12, w13, w14, p1⟩ := piece_ev A B (.list [U, L]) e w he R C RU CU Rv Cv RUv CUv hRv hCv g1 g2 eu u ou tu k1 k2 (by omega) f0 b0 z7 .un .un .un .un .un
    obtain ⟨v10, v11, v12, v13, v14, p2⟩ := piece_ev A B (.list [U, L]) e w he R C RL CL Rv Cv RLv CLv hRv hCv g3 g4 el l ol tl k3 k4 (by omega) f1 b1 z7 w10 w11 w12 w13 w14
    rw [← hU] at p1
    rw [← hL] at p2
    rw [← hf1] at p1
    rw [← hf2] at p2
    refine (sSeq_nx (sFor_ev (ds := [U, L]) rfl (loop_cons rfl p1 |>.trans (loop_cons rfl p2)))).trans ?_
    rfl
  · rw [hsem i j hi hj, hf2, addE_pc ol, hf1, addE_pc ou, hf0]
    rfl
/-! the law's cut and moves -/
def rgF (p : Side) (g : Reg) : Nat → Nat → Mk := fun i j => ce p (g.t + i) (g.l + j)
def regD (p : Side) (g : Reg) : PyData := .tuple [.int (g.r : Nat), .int (g.c : Nat), dcD (grid g.r g.c (rgF p g))]
def RegOk (g : Reg) (R C : Nat) : Prop := g.t + g.r ≤ R ∧ g.l + g.c ≤ C ∧ 1 ≤ g.r ∧ 1 ≤ g.c
theorem rg_ev {es : Es} {R C : Nat} {p : Side} (o : Own es R C p) (hR : R ≤ 70) (hC : C ≤ 70) (g : Reg) (hg : RegOk g R C) (Rv Cv : PyData) {a b c d : En → Option PyData} {env : En} {tv lv rv cv : Int} (h0 : eVar 0 env = some (.tuple [Rv, Cv, dcD es])) (h1 : a env = some (.int tv)) (h2 : b env = some (.int lv)) (h3 : c env = some (.int rv)) (h4 : d env = some (.int cv)) (k1 : tv = (g.t : Nat)) (k2 : lv = (g.l : Nat)) (k3 : rv = (g.r : Nat)) (k4 : cv = (g.c : Nat)) :
    eCall g_Lregion (aCons (eVar 0) (aCons a (aCons b (aCons c (aCons d aNil))))) env = some (regD p g) := by
  obtain ⟨q1, q2, q3, q4⟩ := hg
  refine (eCall_ev (aCons_ev h0 (aCons_ev h1 (aCons_ev h2 (aCons_ev h3 (aCons_ev h4 aNil_ev))))) (region_ev Rv Cv es g.t g.l g.r g.c (rgF p g) (by omega) (by omega) (by omega) q4 (by omega) (fun i j hi hj => o.at_ _ _ (by omega) (by omega)) tv lv rv cv k1 k2 k3 k4)).trans ?_
  rw [k3, k4]
  rfl
theorem regs_ok {e : Str} (he : is4 e) {k R C : Nat} (hk : 1 ≤ k) (hR : 1 ≤ R) (hC : 1 ≤ C) (h : k < if isH e then C else R) : RegOk (regs e k R C).1 R C ∧ RegOk (regs e k R C).2 R C ∧ fitE e (regs e k R C).2.r (regs e k R C).2.c (regs e k R C).1.r (regs e k R C).1.c := by
  rcases he with rfl | rfl | rfl | rfl
  · have h' : k < C := h
    rw [regs_l]
    exact ⟨⟨by simp, by simp; omega, hR, by simp; omega⟩, ⟨by simp, by simp; omega, hR, hk⟩, rfl⟩
  · have h' : k < C := h
    rw [regs_r]
    exact ⟨⟨by simp, by simp, hR, by simp; omega⟩, ⟨by simp, by simp; omega, hR, hk⟩, rfl⟩
  · have h' : k < R := h
    rw [regs_t]
    exact ⟨⟨by simp; omega, by simp, by simp; omega, hC⟩, ⟨by simp; omega, by simp, hk, hC⟩, rfl⟩
  · have h' : k < R := h
    rw [regs_b]
    exact ⟨⟨by simp, by simp, by simp; omega, hC⟩, ⟨by simp; omega, by simp, hk, hC⟩, rfl⟩
theorem lsplit_ev {es : Es} {R C : Nat} {p : Side} (o : Own es R C p) (hR : R ≤ 70) (hC : C ≤ 70) (hR1 : 1 ≤ R) (hC1 : 1 ≤ C) {e : Str} (he : is4 e) {k : Nat} (kv Rv Cv : Int) (hkv : kv = (k : Nat)) (hRv : Rv = (R : Nat)) (hCv : Cv = (C : Nat)) (hk : 1 ≤ k) (hc : k < if isH e then C else R) :
    g_Lsplit [.tuple [.int Rv, .int Cv, dcD es], .str e, .int kv] = some (.tuple [regD p (regs e k R C).1, regD p (regs e k R C).2]) := by
  obtain ⟨O, hO⟩ : ∃ P : PyData, P = .tuple [.int Rv, .int Cv, dcD es] := ⟨_, rfl⟩
  rw [← hO]
  obtain ⟨ok1, ok2, _⟩ := regs_ok he hk hR1 hC1 hc
  refine gDef_ev' (fB := f_Lsplit) [.val O, .val (.str e), .val (.int kv), .un, .un, .un] rfl rfl ?_
  unfold f_Lsplit
  refine (sSeq_nx (e := [.val O, .val (.str e), .val (.int kv), .val (.int Rv), .val (.int Cv), .val (dcD es)]) (sUnp_ev (d := O) rfl (by rw [hO]; rfl))).trans ?_
  have rg : ∀ (g : Reg), RegOk g R C → ∀ (a b c d : En → Option PyData) {tv lv rv cv : Int}, a [.val O, .val (.str e), .val (.int kv), .val (.int Rv), .val (.int Cv), .val (dcD es)] = some (.int tv) → b [.val O, .val (.str e), .val (.int kv), .val (.int Rv), .val (.int Cv), .val (dcD es)] = some (.int lv) → c [.val O, .val (.str e), .val (.int kv), .val (.int Rv), .val (.int Cv), .val (dcD es)] = some (.int rv) → d [.val O, .val (.str e), .val (.int kv), .val (.int Rv), .val (.int Cv), .val (dcD es)] = some (.int cv) → tv = (g.t : Nat) → lv = (g.l : Nat) → rv = (g.r : Nat) → cv = (g.c : Nat) → eCall g_Lregion (aCons (eVar 0) (aCons a (aCons b (aCons c (aCons d aNil))))) [.val O, .val (.str e), .val (.int kv), .val (.int Rv), .val (.int Cv), .val (dcD es)] = some (regD p g) :=
    fun g hg a b c d tv lv rv cv h1 h2 h3 h4 k1 k2 k3 k4 => rg_ev o hR hC g hg (.int Rv) (.int Cv) (by rw [hO]; rfl) h1 h2 h3 h4 k1 k2 k3 k4
  rcases he with rfl | rfl | rfl | rfl
  · have h' : k < C := hc
    rw [regs_l] at ok1 ok2 ⊢
    refine sSeq_rt ((sIf_t (by kernel_rfl)).trans (sRet_ev (eTup_ev (aCons_ev (rg _ ok1 _ _ _ _ rfl rfl rfl (e2_ev rfl rfl (subD_int _ _)) rfl hkv hRv (by show Cv - kv = ((C - k : Nat) : Int); omega)) (aCons_ev (rg _ ok2 _ _ _ _ rfl rfl rfl rfl rfl rfl hRv hkv) aNil_ev)) (by simp))))
  · have h' : k < C := hc
    rw [regs_r] at ok1 ok2 ⊢
    refine (sSeq_nx ((sIf_f (by kernel_rfl)).trans rfl)).trans ?_
    refine sSeq_rt ((sIf_t (by kernel_rfl)).trans (sRet_ev (eTup_ev (aCons_ev (rg _ ok1 _ _ _ _ rfl rfl rfl (e2_ev rfl rfl (subD_int _ _)) rfl rfl hRv (by show Cv - kv = ((C - k : Nat) : Int); omega)) (aCons_ev (rg _ ok2 _ _ _ _ rfl (e2_ev rfl rfl (subD_int _ _)) rfl rfl rfl (by show Cv - kv = ((C - k : Nat) : Int); omega) hRv hkv) aNil_ev)) (by simp))))
  · have h' : k < R := hc
    rw [regs_t] at ok1 ok2 ⊢
    refine (sSeq_nx ((sIf_f (by kernel_rfl)).trans rfl)).trans ?_
    refine (sSeq_nx ((sIf_f (by kernel_rfl)).trans rfl)).trans ?_
    refine sSeq_rt ((sIf_t (by kernel_rfl)).trans (sRet_ev (eTup_ev (aCons_ev (rg _ ok1 _ _ _ _ rfl rfl (e2_ev rfl rfl (subD_int _ _)) rfl hkv rfl (by show Rv - kv = ((R - k : Nat) : Int); omega) hCv) (aCons_ev (rg _ ok2 _ _ _ _ rfl rfl rfl rfl rfl rfl hkv hCv) aNil_ev)) (by simp))))
  · have h' : k < R := hc
    rw [regs_b] at ok1 ok2 ⊢
    refine (sSeq_nx ((sIf_f (by kernel_rfl)).trans rfl)).trans ?_
    refine (sSeq_nx ((sIf_f (by kernel_rfl)).trans rfl)).trans ?_
    refine (sSeq_nx ((sIf_f (by kernel_rfl)).trans rfl)).trans ?_
    exact sRet_ev (eTup_ev (aCons_ev (rg _ ok1 _ _ _ _ rfl rfl (e2_ev rfl rfl (subD_int _ _)) rfl rfl rfl (by show Rv - kv = ((R - k : Nat) : Int); omega) hCv) (aCons_ev (rg _ ok2 _ _ _ _ (e2_ev rfl rfl (subD_int _ _)) rfl rfl rfl (by show Rv - kv = ((R - k : Nat) : Int); omega) rfl hkv hCv) aNil_ev)) (by simp))
theorem reg_own {p q : Side} {g : Reg} (h : Sub p q g) : Own (grid g.r g.c (rgF p g)) g.r g.c q := grid_own h.1 fun i j hi hj => (h.2 i j hi hj).symm
def axs (e : Str) : Str := if isH e then "vertical" else "horizontal"
theorem axs3 (e : Str) : is3 (axs e) := by unfold axs; split; exact .inl rfl; exact .inr (.inl rfl)
/-- the step's result -/
def mvP (fo : Bool) (e : Str) (k : Nat) (w : Str) (p : Side) : Side := lyAt e w (if fo then tP (axs e) (cutS e k p).2 else (cutS e k p).2) (cutS e k p).1
theorem axs_ev {env : En} {g : En → Option PyData} {e : Str} (he : is4 e) (hg : g env = some (.str e)) : eIf (t1 (e2 inT g (eTup (aCons (eC (.str "left")) (aCons (eC (.str "right")) aNil))))) (eC (.str "vertical")) (eC (.str "horizontal")) env = some (.str (axs e)) := by
  unfold axs
  cases hH : isH e with
  | true => exact eIf_t ((inH_ev he hg).trans (by rw [hH])) rfl
  | false => exact eIf_f ((inH_ev he hg).trans (by rw [hH])) rfl
theorem lmoved_ev {es : Es} {R C : Nat} {p : Side} (o : Own es R C p) (ht : tot p ≤ 70) (hR : R ≤ 70) (hC : C ≤ 70) (hR1 : 1 ≤ R) (hC1 : 1 ≤ C) {e w : Str} (he : is4 e) (hw : is2 w) (fo : Bool) {k : Nat} (kv Rv Cv : Int) (hkv : kv = (k : Nat)) (hRv : Rv = (R : Nat)) (hCv : Cv = (C : Nat)) (hk : 1 ≤ k) (hc : k < if isH e then C else R) :
    ∃ (es' : Es) (R' C' : Nat), g_Lmoved [.tuple [.int Rv, .int Cv, dcD es], .tuple [.str (if fo then "fold" else "stack"), .str e, .int kv, .str w]] = some (.tuple [.int (R' : Nat), .int (C' : Nat), dcD es']) ∧ Own es' R' C' (mvP fo e k w p) ∧ es'.length ≤ 10000 ∧ 1 ≤ R' ∧ R' ≤ R ∧ 1 ≤ C' ∧ C' ≤ C := by
  obtain ⟨ok1, ok2, fit⟩ := regs_ok he hk hR1 hC1 hc
  obtain ⟨s1, s2⟩ := cutS_sub o.rc hR1 he hc
  have htc := tot_cut o.rc hR1 he hc
  have hsp := lsplit_ev o hR hC hR1 hC1 he kv Rv Cv hkv hRv hCv hk hc
  have mv : mvP fo e k w p = lyAt e w (if fo then tP (axs e) (cutS e k p).2 else (cutS e k p).2) (cutS e k p).1 := rfl
  rw [mv]
  generalize (cutS e k p).1 = q1 at s1 htc
  generalize (cutS e k p).2 = q2 at s2 htc
  generalize (regs e k R C).1 = g1 at ok1 fit s1 hsp
  generalize (regs e k R C).2 = g2 at ok2 fit s2 hsp
  have o1 := reg_own s1
  have o2 := reg_own s2
  obtain ⟨a1, a2, a3, a4⟩ := ok1
  obtain ⟨b1, b2, b3, b4⟩ := ok2
  obtain ⟨O, hO⟩ : ∃ P : PyData, P = .tuple [.int Rv, .int Cv, dcD es] := ⟨_, rfl⟩
  obtain ⟨ep, hpart, op, tp⟩ : ∃ ep : Es, (∀ z6 : Sl, (sIf (t1 (e2 eqD (eVar 2) (eC (.str "fold")))) (sSet 7 (eCall g_Lturned (aCons (eVar 7) (aCons (eIf (t1 (e2 inT (eVar 3) (eTup (aCons (eC (.str "left")) (aCons (eC (.str "right")) aNil))))) (eC (.str "vertical")) (eC (.str "horizontal"))) aNil)))) sNil) [.val O, .val (.tuple [.str (if fo then "fold" else "stack"), .str e, .int kv, .str w]), .val (.str (if fo then "fold" else "stack")), .val (.str e), .val (.int kv), .val (.str w), z6, .val (regD p g2)] = .nx [.val O, .val (.tuple [.str (if fo then "fold" else "stack"), .str e, .int kv, .str w]), .val (.str (if fo then "fold" else "stack")), .val (.str e), .val (.int kv), .val (.str w), z6, .val (.tuple [.int (g2.r : Nat), .int (g2.c : Nat), dcD ep])]) ∧ Own ep g2.r g2.c (if fo then tP (axs e) q2 else q2) ∧ tot (if fo then tP (axs e) q2 else q2) = tot q2 := by
    cases fo with
    | true =>
      obtain ⟨t1', t2'⟩ := lturned_ev (axs3 e) o2 (by omega) (by omega) (by omega) (by unfold grid; rw [gridN_len]; have := Nat.mul_le_mul (show g2.r ≤ 70 by omega) (show g2.c ≤ 70 by omega); omega) (g2.r : Nat) (g2.c : Nat) rfl rfl
      exact ⟨_, fun z6 => (sIf_t (by kernel_rfl)).trans (sSet_ev (eCall_ev (aCons_ev rfl (aCons_ev (axs_ev he rfl) aNil_ev)) t1')), t2', tot_tP _ _⟩
    | false => exact ⟨_, fun z6 => (sIf_f (by kernel_rfl)).trans rfl, o2, rfl⟩
  obtain ⟨es', hl, ol, ll⟩ := laid_ev op o1 (by rw [tp]; omega) (by omega) (by omega) (by omega) (by omega) (by omega) (by omega) he hw fit (g2.r : Nat) (g2.c : Nat) (g1.r : Nat) (g1.c : Nat) rfl rfl rfl rfl
  refine ⟨es', _, _, ?_, ol, ll, by omega, by omega, by omega, by omega⟩
  rw [← hO] at hsp ⊢
  refine gDef_ev' (fB := f_Lmoved) [.val O, .val (.tuple [.str (if fo then "fold" else "stack"), .str e, .int kv, .str w]), .un, .un, .un, .un, .un, .un] rfl rfl ?_
  unfold f_Lmoved
  refine (sSeq_nx (e := [.val O, .val (.tuple [.str (if fo then "fold" else "stack"), .str e, .int kv, .str w]), .val (.str (if fo then "fold" else "stack")), .val (.str e), .val (.int kv), .val (.str w), .un, .un]) (sUnp_ev rfl rfl)).trans ?_
  refine (sSeq_nx (e := [.val O, .val (.tuple [.str (if fo then "fold" else "stack"), .str e, .int kv, .str w]), .val (.str (if fo then "fold" else "stack")), .val (.str e), .val (.int kv), .val (.str w), .val (regD p g1), .val (regD p g2)]) (sUnp_ev (eCall_ev (aCons_ev rfl (aCons_ev rfl (aCons_ev rfl aNil_ev))) hsp) rfl)).trans ?_
  refine (sSeq_nx (hpart _)).trans ?_
  exact sRet_ev (eCall_ev (aCons_ev rfl (aCons_ev rfl (aCons_ev rfl (aCons_ev rfl aNil_ev)))) hl)
/-! tuples of the law's packet -/
theorem rng_mapS (lo : Int) (n : Nat) : rngD lo n = (List.range n).map fun k : Nat => PyData.int (lo + (k : Nat)) := rfl
theorem tup_row (C : Nat) (hC : C ≤ 100) (f : Nat → Mk) (fe : En → Option PyData) (env : En) (i : Nat) (Cv : Int) (hCv : Cv = (C : Nat)) (g : En → Option PyData) (hg : g env = some (.int Cv)) (h : ∀ (j : Nat) (jv : Int), j < C → jv = (j : Nat) → ∃ e1, gVal i (.int jv) (wipeE env [i]) = some e1 ∧ fe e1 = some (markD (f j))) : eCall tupA (aCons (eL (fCmp [i] (iR1 (aCons g aNil)) (gVal i) tYes' fe)) aNil) env = some (rowD ((List.range C).map f)) := by
  have hr : iR1 (aCons g aNil) env = some (rngD 0 C) := by
    have := iR1_ev (fa := aCons g aNil) (env := env) (N := Cv) (aCons_ev hg aNil_ev) (by omega) (by omega)
    rw [hCv, Int.toNat_natCast] at this
    exact this
  refine (tup_ev (fCmp_ev (ds := rngD 0 C) (vs := (List.range C).map fun j : Nat => markD (f j)) hr ?_ (by simp; omega))).trans ?_
  · rw [rng_mapS]
    exact compF_mapS fun j hj => h j _ (List.mem_range.mp hj) (by omega)
  · unfold rowD
    rw [List.map_map]
    rfl
theorem tab_succ (n C : Nat) (f : Nat → Nat → Mk) : tab (n + 1) C f = tab n C f ++ [(List.range C).map fun j => f n j] := by
  unfold tab
  rw [List.range_succ, List.map_append]
  rfl
theorem tab_len (n C : Nat) (f : Nat → Nat → Mk) : (tab n C f).length = n := (tab_rc n C f).1
theorem ltuples_ev {es : Es} {R C : Nat} {p : Side} (o : Own es R C p) (hR : R ≤ 100) (hC : C ≤ 100) (Rv Cv : Int) (hRv : Rv = (R : Nat)) (hCv : Cv = (C : Nat)) : g_Ltuples [.tuple [.int Rv, .int Cv, dcD es]] = some (sideD p) := by
  obtain ⟨O, hO⟩ : ∃ P : PyData, P = .tuple [.int Rv, .int Cv, dcD es] := ⟨_, rfl⟩
  rw [tab_eq o.rc (f := ce p) (fun _ _ _ _ => rfl), ← hO]
  have lp : ∃ e', loopF (gVal 5) b_Ltuples_1 (rngD 0 R) [.val O, .val (.int Rv), .val (.int Cv), .val (dcD es), .own [], .un, .un] = .nx e' ∧ ∃ z5, e' = [.val O, .val (.int Rv), .val (.int Cv), .val (dcD es), .own ((tab R C (ce p)).map rowD), z5, .un] := by
    refine loop_rng (fun n e => ∃ z5, e = [.val O, .val (.int Rv), .val (.int Cv), .val (dcD es), .own ((tab n C (ce p)).map rowD), z5, .un]) ?_ ⟨.un, rfl⟩
    rintro n e hn ⟨z5, rfl⟩
    obtain ⟨nv, hnv⟩ : ∃ z : Int, z = 0 + (n : Nat) := ⟨_, rfl⟩
    rw [← hnv]
    refine ⟨_, rfl, _, .inl (sApp_ev (ds := (tab n C (ce p)).map rowD) (d := rowD ((List.range C).map fun j => ce p n j)) (tup_row C hC (ce p n) c_Ltuples_1 [.val O, .val (.int Rv), .val (.int Cv), .val (dcD es), .own ((tab n C (ce p)).map rowD), .val (.int nv), .un] 6 Cv hCv (eVar 2) rfl fun j jv hj hjv => ⟨_, rfl, ?_⟩) rfl (by rw [List.length_map, tab_len]; omega)), .val (.int nv), ?_⟩
    · exact eCall_ev (aCons_ev (e2_ev (x := dcD es) rfl (key_ev (i := n) (j := j) rfl rfl (by omega) hjv) (ixU_key (o.at_ n j hn hj))) aNil_ev) rfl
    · rw [tab_succ, List.map_append]
      rfl
  obtain ⟨e', hl, z5, rfl⟩ := lp
  refine gDef_ev' (fB := f_Ltuples) [.val O, .un, .un, .un, .un, .un, .un] rfl rfl ?_
  unfold f_Ltuples
  refine (sSeq_nx (e := [.val O, .val (.int Rv), .val (.int Cv), .val (dcD es), .un, .un, .un]) (sUnp_ev (d := O) rfl (by rw [hO]; rfl))).trans ?_
  refine (sSeq_nx (e := [.val O, .val (.int Rv), .val (.int Cv), .val (dcD es), .own [], .un, .un]) rfl).trans ?_
  refine (sSeq_nx (sFor_ev (ds := rngD 0 R) ?_ hl)).trans ?_
  · have := iR1_ev (fa := aCons (eVar 1) aNil) (env := [.val O, .val (.int Rv), .val (.int Cv), .val (dcD es), .own [], .un, .un]) (N := Rv) rfl (by omega) (by omega)
    rw [hRv, Int.toNat_natCast] at this
    rw [hRv]
    exact this
  · exact sRet_ev (eTupO_ev rfl)
theorem sheetp_ev (s : Int) (R C : Nat) (hR : R ≤ 100) (hC : C ≤ 100) (Rv Cv : Int) (hRv : Rv = (R : Nat)) (hCv : Cv = (C : Nat)) : g_sheet_packet [.int s, .int Rv, .int Cv] = some (sideD (tab R C fun i j => [(s, ((i : Nat) : Int), ((j : Nat) : Int), false, false)])) := by
  obtain ⟨f, hf⟩ : ∃ f : Nat → Nat → Mk, f = fun i j => [(s, ((i : Nat) : Int), ((j : Nat) : Int), false, false)] := ⟨_, rfl⟩
  rw [← hf]
  have lp : ∃ e', loopF (gVal 4) b_sheet_packet_1 (rngD 0 R) [.val (.int s), .val (.int Rv), .val (.int Cv), .own [], .un, .un] = .nx e' ∧ ∃ z5, e' = [.val (.int s), .val (.int Rv), .val (.int Cv), .own ((tab R C f).map rowD), z5, .un] := by
    refine loop_rng (fun n e => ∃ z5, e = [.val (.int s), .val (.int Rv), .val (.int Cv), .own ((tab n C f).map rowD), z5, .un]) ?_ ⟨.un, rfl⟩
    rintro n e hn ⟨z5, rfl⟩
    obtain ⟨nv, hnv⟩ : ∃ z : Int, z = 0 + (n : Nat) := ⟨_, rfl⟩
    have hnv' : nv = (n : Nat) := by omega
    rw [← hnv]
    refine ⟨_, rfl, _, .inl (sApp_ev (ds := (tab n C f).map rowD) (d := rowD ((List.range C).map fun j => f n j)) (tup_row C hC (f n) c_sheet_packet_1 [.val (.int s), .val (.int Rv), .val (.int Cv), .own ((tab n C f).map rowD), .val (.int nv), .un] 5 Cv hCv (eVar 2) rfl fun j jv hj hjv => ⟨_, rfl, ?_⟩) rfl (by rw [List.length_map, tab_len]; omega)), .val (.int nv), ?_⟩
    · rw [hf, hjv, hnv']
      rfl
    · rw [tab_succ, List.map_append]
      rfl
  obtain ⟨e', hl, z5, rfl⟩ := lp
  refine gDef_ev' (fB := f_sheet_packet) [.val (.int s), .val (.int Rv), .val (.int Cv), .un, .un, .un] rfl rfl ?_
  unfold f_sheet_packet
  refine (sSeq_nx (e := [.val (.int s), .val (.int Rv), .val (.int Cv), .own [], .un, .un]) rfl).trans ?_
  refine (sSeq_nx (sFor_ev (ds := rngD 0 R) ?_ hl)).trans ?_
  · have := iR1_ev (fa := aCons (eVar 1) aNil) (env := [.val (.int s), .val (.int Rv), .val (.int Cv), .own [], .un, .un]) (N := Rv) rfl (by omega) (by omega)
    rw [hRv, Int.toNat_natCast] at this
    rw [hRv]
    exact this
  · exact sRet_ev (eTupO_ev rfl)
/-! ### the program's moves -/
theorem gDefX_def {np nN : Nat} {ds : List PyData} (fB : En → OutX) (env : En) (h1 : ds.length = np) (h0 : env0 nN ds = env) : gDefX np nN fB ds = outDX (fB env) := by
  unfold gDefX
  rw [if_pos h1, h0]
theorem xIf_t {ga : En → Option Bool} {s t : En → OutX} {env : En} (h : ga env = some true) : xIf ga s t env = s env := by
  unfold xIf
  rw [h]
theorem xIf_f {ga : En → Option Bool} {s t : En → OutX} {env : En} (h : ga env = some false) : xIf ga s t env = t env := by
  unfold xIf
  rw [h]
theorem ne_of_rc {s : Side} {R C : Nat} (h : isRC s R C) (hR : 1 ≤ R) : s ≠ [] := fun z => by rw [z] at h; have := h.1; simp at this; omega
theorem cnt_rc {s : Side} {R C : Nat} (h : isRC s R C) (hR : 1 ≤ R) (e : Str) : cnt e s = if isH e then C else R := by
  unfold cnt
  rw [W_rc h hR, h.1]
theorem pcut_ev (p : Side) (R C : Nat) (hp : isRC p R C) (hR : 1 ≤ R) (hR2 : R ≤ 1000) (e : Str) (he : is4 e) (kv : Int) (k : Nat) (hk : kv = (k : Nat)) :
    g_cut [sideD p, .str e, .int kv] = some (if k < (if isH e then C else R) then .ok (.tuple [sideD (cutS e k p).1, sideD (cutS e k p).2]) else .ex (.str "line outside the packet")) := by
  have i1 := inside_ev p (ne_of_rc hp hR) e kv he
  rw [cnt_rc hp hR e] at i1
  refine (gDefX_def f_cut [.val (sideD p), .val (.str e), .val (.int kv)] rfl rfl).trans ?_
  unfold f_cut
  by_cases h : k < (if isH e then C else R)
  · rw [if_pos h]
    rw [decide_eq_true (show kv < ((if isH e then C else R : Nat) : Int) by omega)] at i1
    have d1 := divide_ev p R C hp hR hR2 e he kv k hk (by rw [cnt_rc hp hR e]; exact h)
    have b1 : xIf (tNot' (tTr (eCall g_is_inside (aCons (eVar 0) (aCons (eVar 1) (aCons (eVar 2) aNil)))))) (xRaise (eC (.str "line outside the packet"))) xNil [.val (sideD p), .val (.str e), .val (.int kv)] = .nx [.val (sideD p), .val (.str e), .val (.int kv)] := (xIf_f (not_ev (b := true) (tTr_ev (eCall_ev (aCons_ev rfl (aCons_ev rfl (aCons_ev rfl aNil_ev))) i1) rfl))).trans rfl
    rw [xSeq_nx b1]
    unfold up
    rw [sRet_ev (eCall_ev (aCons_ev rfl (aCons_ev rfl (aCons_ev rfl aNil_ev))) d1)]
    rfl
  · rw [if_neg h]
    rw [decide_eq_false (show ¬ kv < ((if isH e then C else R : Nat) : Int) by omega)] at i1
    have b1 : xIf (tNot' (tTr (eCall g_is_inside (aCons (eVar 0) (aCons (eVar 1) (aCons (eVar 2) aNil)))))) (xRaise (eC (.str "line outside the packet"))) xNil [.val (sideD p), .val (.str e), .val (.int kv)] = .rs [.val (sideD p), .val (.str e), .val (.int kv)] (.str "line outside the packet") := (xIf_t (not_ev (b := false) (tTr_ev (eCall_ev (aCons_ev rfl (aCons_ev rfl (aCons_ev rfl aNil_ev))) i1) rfl))).trans rfl
    unfold xSeq
    rw [b1]
    rfl
theorem mv_parts {p : Side} {R C : Nat} (hp : isRC p R C) (hR : 1 ≤ R) (hC : 1 ≤ C) (hR4 : R ≤ 64) (hC4 : C ≤ 64) (ht : tot p ≤ 70) {e : Str} (he : is4 e) {k : Nat} (hk : 1 ≤ k) (h : k < if isH e then C else R) (fo : Bool) :
    smS (cutS e k p).1 ∧ smS (cutS e k p).2 ∧ smS (if fo then tP (axs e) (cutS e k p).2 else (cutS e k p).2) := by
  obtain ⟨⟨s1, _⟩, ⟨s2, _⟩⟩ := cutS_sub hp hR he h
  obtain ⟨⟨a1, a2, a3, a4⟩, ⟨b1, b2, b3, b4⟩, _⟩ := regs_ok he hk hR hC h
  have htc := tot_cut hp hR he h
  refine ⟨sm_of s1 (by omega) (by omega) (by omega), sm_of s2 (by omega) (by omega) (by omega), ?_⟩
  cases fo with
  | true => exact sm_of (tP_rc s2 _) (by omega) (by omega) (by show tot (tP _ _) ≤ 100; rw [tot_tP]; omega)
  | false => exact sm_of (p := (cutS e k p).2) s2 (by omega) (by omega) (by omega)
theorem lay_small {a b : Side} (ha : smS a) (hb : smS b) : ∀ (u l : Side), (u = a ∧ l = b) ∨ (u = b ∧ l = a) → (layP (bwP u) (bwP l)).length ≤ 1000 := fun u l h => by
  have h1 : (layP (bwP u) (bwP l)).length = max (bwP u).length (bwP l).length := zipL_len _ _ _
  have h2 : ∀ s : Side, (bwP s).length = s.length := fun s => by unfold bwP; rw [List.length_map, List.length_reverse]
  rw [h1, h2, h2]
  have := ha.1
  have := hb.1
  rcases h with ⟨rfl, rfl⟩ | ⟨rfl, rfl⟩ <;> omega
def outS : PyData := .str "line outside the packet"
theorem fold_ev (p : Side) (R C : Nat) (hp : isRC p R C) (hR : 1 ≤ R) (hC : 1 ≤ C) (hR4 : R ≤ 64) (hC4 : C ≤ 64) (ht : tot p ≤ 70) (e w : Str) (he : is4 e) (hw : is2 w) (kv : Int) (k : Nat) (hkv : kv = (k : Nat)) (hk : 1 ≤ k) :
    g_fold [sideD p, .str e, .int kv, .str w] = some (if k < (if isH e then C else R) then .ok (sideD (mvP true e k w p)) else .ex outS) := by
  have c := pcut_ev p R C hp hR (by omega) e he kv k hkv
  refine (gDefX_def f_fold [.val (sideD p), .val (.str e), .val (.int kv), .val (.str w), .un, .un, .un] rfl rfl).trans ?_
  unfold f_fold
  by_cases h : k < (if isH e then C else R)
  · rw [if_pos h] at c ⊢
    obtain ⟨s1, s2, s3⟩ := mv_parts hp hR hC hR4 hC4 ht he hk h true
    rw [xSeq_nx (e := [.val (sideD p), .val (.str e), .val (.int kv), .val (.str w), .val (sideD (cutS e k p).1), .val (sideD (cutS e k p).2), .un]) (by
      unfold xUnp
      rw [show xCall g_cut (xaOk (aCons (eVar 0) (aCons (eVar 1) (aCons (eVar 2) aNil)))) [.val (sideD p), .val (.str e), .val (.int kv), .val (.str w), .un, .un, .un] = _ from c]
      rfl)]
    rw [xSeq_nx (e := [.val (sideD p), .val (.str e), .val (.int kv), .val (.str w), .val (sideD (cutS e k p).1), .val (sideD (cutS e k p).2), .val (.str (axs e))]) (by
      unfold up
      rw [sSet_ev (axs_ev he rfl)]
      rfl)]
    unfold up
    rw [sRet_ev (eCall_ev (aCons_ev (eCall_ev (aCons_ev rfl (aCons_ev rfl aNil_ev)) (turn_ev (axs3 e) _ s2)) (aCons_ev rfl (aCons_ev rfl (aCons_ev rfl aNil_ev)))) (layat_ev _ _ s3 s1 e w he hw (lay_small s3 s1)))]
    rfl
  · rw [if_neg h] at c ⊢
    unfold xSeq xUnp
    rw [show xCall g_cut (xaOk (aCons (eVar 0) (aCons (eVar 1) (aCons (eVar 2) aNil)))) [.val (sideD p), .val (.str e), .val (.int kv), .val (.str w), .un, .un, .un] = _ from c]
    rfl
theorem stack_ev (p : Side) (R C : Nat) (hp : isRC p R C) (hR : 1 ≤ R) (hC : 1 ≤ C) (hR4 : R ≤ 64) (hC4 : C ≤ 64) (ht : tot p ≤ 70) (e w : Str) (he : is4 e) (hw : is2 w) (kv : Int) (k : Nat) (hkv : kv = (k : Nat)) (hk : 1 ≤ k) :
    g_stack [sideD p, .str e, .int kv, .str w] = some (if k < (if isH e then C else R) then .ok (sideD (mvP false e k w p)) else .ex outS) := by
  have c := pcut_ev p R C hp hR (by omega) e he kv k hkv
  refine (gDefX_def f_stack [.val (sideD p), .val (.str e), .val (.int kv), .val (.str w), .un, .un] rfl rfl).trans ?_
  unfold f_stack
  by_cases h : k < (if isH e then C else R)
  · rw [if_pos h] at c ⊢
    obtain ⟨s1, s2, s3⟩ := mv_parts hp hR hC hR4 hC4 ht he hk h false
    rw [xSeq_nx (e := [.val (sideD p), .val (.str e), .val (.int kv), .val (.str w), .val (sideD (cutS e k p).1), .val (sideD (cutS e k p).2)]) (by
      unfold xUnp
      rw [show xCall g_cut (xaOk (aCons (eVar 0) (aCons (eVar 1) (aCons (eVar 2) aNil)))) [.val (sideD p), .val (.str e), .val (.int kv), .val (.str w), .un, .un] = _ from c]
      rfl)]
    unfold up
    rw [sRet_ev (eCall_ev (aCons_ev rfl (aCons_ev rfl (aCons_ev rfl (aCons_ev rfl aNil_ev)))) (layat_ev _ _ s2 s1 e w he hw (lay_small s2 s1)))]
    rfl
  · rw [if_neg h] at c ⊢
    unfold xSeq xUnp
    rw [show xCall g_cut (xaOk (aCons (eVar 0) (aCons (eVar 1) (aCons (eVar 2) aNil)))) [.val (sideD p), .val (.str e), .val (.int kv), .val (.str w), .un, .un] = _ from c]
    rfl
def rzD : Rz → PyData
  | .ok d => d
  | .ex d => d
theorem linside_ev (Rv Cv kv : Int) (D : PyData) (R C k : Nat) (hRv : Rv = (R : Nat)) (hCv : Cv = (C : Nat)) (hkv : kv = (k : Nat)) (e : Str) (he : is4 e) : g_Linside [.tuple [.int Rv, .int Cv, D], .str e, .int kv] = some (.bool (decide (k < if isH e then C else R))) := by
  obtain ⟨O, hO⟩ : ∃ P : PyData, P = .tuple [.int Rv, .int Cv, D] := ⟨_, rfl⟩
  rw [← hO]
  refine gDef_ev' (fB := f_Linside) [.val O, .val (.str e), .val (.int kv)] rfl rfl (sRet_ev (e2_ev (x := .int kv) (y := .int (if isH e then Cv else Rv)) rfl ?_ ((ltD_int _ _).trans ?_)))
  · cases hH : isH e with
    | true => exact eIf_t ((inH_ev he rfl).trans (by rw [hH])) (e2_ev (x := O) (y := .int 1) rfl rfl (by rw [hO]; rfl))
    | false => exact eIf_f ((inH_ev he rfl).trans (by rw [hH])) (e2_ev (x := O) (y := .int 0) rfl rfl (by rw [hO]; rfl))
  · congr 2
    rw [decide_eq_decide, hkv]
    split <;> omega
/-! ### the law -/
theorem pick4 (n : Int) (a b c d : Str) : ∃ x : Str, (x = a ∨ x = b ∨ x = c ∨ x = d) ∧ ∀ (env : En) (g : En → Option PyData), g env = some (.int (n % 4)) → e2 ixG (eL (fLst (aCons (eC (.str a)) (aCons (eC (.str b)) (aCons (eC (.str c)) (aCons (eC (.str d)) aNil)))))) g env = some (.str x) := by
  have h1 := Int.emod_nonneg n (b := 4) (by omega)
  have h2 := Int.emod_lt_of_pos n (b := 4) (by omega)
  have key : ∀ (i : Int) (x : Str) (env : En) (g : En → Option PyData), n % 4 = i → g env = some (.int (n % 4)) → ixG (.list [.str a, .str b, .str c, .str d]) (.int i) = some (.str x) → e2 ixG (eL (fLst (aCons (eC (.str a)) (aCons (eC (.str b)) (aCons (eC (.str c)) (aCons (eC (.str d)) aNil)))))) g env = some (.str x) := fun i x env g hi hg hx => e2_ev rfl (hg.trans (by rw [hi])) hx
  rcases (show n % 4 = 0 ∨ n % 4 = 1 ∨ n % 4 = 2 ∨ n % 4 = 3 from by omega) with h | h | h | h
  · exact ⟨a, .inl rfl, fun env g hg => key 0 a env g h hg rfl⟩
  · exact ⟨b, .inr (.inl rfl), fun env g hg => key 1 b env g h hg rfl⟩
  · exact ⟨c, .inr (.inr (.inl rfl)), fun env g hg => key 2 c env g h hg rfl⟩
  · exact ⟨d, .inr (.inr (.inr rfl)), fun env g hg => key 3 d env g h hg rfl⟩
theorem pick3 (n : Int) (a b c : Str) : ∃ x : Str, (x = a ∨ x = b ∨ x = c) ∧ ∀ (env : En) (g : En → Option PyData), g env = some (.int (n % 3)) → e2 ixG (eL (fLst (aCons (eC (.str a)) (aCons (eC (.str b)) (aCons (eC (.str c)) aNil))))) g env = some (.str x) := by
  have h1 := Int.emod_nonneg n (b := 3) (by omega)
  have h2 := Int.emod_lt_of_pos n (b := 3) (by omega)
  have key : ∀ (i : Int) (x : Str) (env : En) (g : En → Option PyData), n % 3 = i → g env = some (.int (n % 3)) → ixG (.list [.str a, .str b, .str c]) (.int i) = some (.str x) → e2 ixG (eL (fLst (aCons (eC (.str a)) (aCons (eC (.str b)) (aCons (eC (.str c)) aNil))))) g env = some (.str x) := fun i x env g hi hg hx => e2_ev rfl (hg.trans (by rw [hi])) hx
  rcases (show n % 3 = 0 ∨ n % 3 = 1 ∨ n % 3 = 2 from by omega) with h | h | h
  · exact ⟨a, .inl rfl, fun env g hg => key 0 a env g h hg rfl⟩
  · exact ⟨b, .inr (.inl rfl), fun env g hg => key 1 b env g h hg rfl⟩
  · exact ⟨c, .inr (.inr rfl), fun env g hg => key 2 c env g h hg rfl⟩
theorem pick2 (n : Int) (a b : Str) : ∃ x : Str, (x = a ∨ x = b) ∧ ∀ (env : En) (g : En → Option PyData), g env = some (.int (n % 2)) → e2 ixG (eL (fLst (aCons (eC (.str a)) (aCons (eC (.str b)) aNil)))) g env = some (.str x) := by
  have h1 := Int.emod_nonneg n (b := 2) (by omega)
  have h2 := Int.emod_lt_of_pos n (b := 2) (by omega)
  have key : ∀ (i : Int) (x : Str) (env : En) (g : En → Option PyData), n % 2 = i → g env = some (.int (n % 2)) → ixG (.list [.str a, .str b]) (.int i) = some (.str x) → e2 ixG (eL (fLst (aCons (eC (.str a)) (aCons (eC (.str b)) aNil)))) g env = some (.str x) := fun i x env g hi hg hx => e2_ev rfl (hg.trans (by rw [hi])) hx
  rcases (show n % 2 = 0 ∨ n % 2 = 1 from by omega) with h | h
  · exact ⟨a, .inl rfl, fun env g hg => key 0 a env g h hg rfl⟩
  · exact ⟨b, .inr rfl, fun env g hg => key 1 b env g h hg rfl⟩
def stepOk (d : PyData) : Prop := (∃ x, is3 x ∧ d = .tuple [.str "turn", .str x]) ∨ ∃ (fo : Bool) (e w : Str) (kv : Int) (k : Nat), is4 e ∧ is2 w ∧ kv = (k : Nat) ∧ 1 ≤ k ∧ d = .tuple [.str (if fo then "fold" else "stack"), .str e, .int kv, .str w]
theorem step_ev (ds : List Int) (hl : 4 ≤ ds.length) : ∃ d, g_Lstep [.list (ds.map .int)] = some d ∧ stepOk d := by
  obtain ⟨D, hD⟩ : ∃ D : PyData, D = .list (ds.map .int) := ⟨_, rfl⟩
  obtain ⟨kd, hkd, hk⟩ := pick4 (ds.getD 0 0) "fold" "stack" "fold" "turn"
  obtain ⟨ax, hax, ha⟩ := pick3 (ds.getD 1 0) "vertical" "horizontal" "both"
  obtain ⟨ed, hed, he⟩ := pick4 (ds.getD 1 0) "left" "right" "top" "bottom"
  obtain ⟨wy, hwy, hw⟩ := pick2 (ds.getD 3 0) "over" "under"
  obtain ⟨kv, hkv⟩ : ∃ z : Int, z = 1 + ds.getD 2 0 % 3 := ⟨_, rfl⟩
  have h3 := Int.emod_nonneg (ds.getD 2 0) (b := 3) (by omega)
  have dm : ∀ (env : En) (j : Nat) (jv m : Int), eVar 0 env = some D → j < 4 → jv = (j : Nat) → 0 < m → e2 modD (e2 ixG (eVar 0) (eC (.int jv))) (eC (.int m)) env = some (.int (ds.getD j 0 % m)) := fun env j jv m h hj hjv hm => dr_mod' (by rw [h, hD]) (by omega) hjv hm
  rw [← hD]
  have s1 : sSet 1 (e2 ixG (eL (fLst (aCons (eC (.str "fold")) (aCons (eC (.str "stack")) (aCons (eC (.str "fold")) (aCons (eC (.str "turn")) aNil)))))) (e2 modD (e2 ixG (eVar 0) (eC (.int 0))) (eC (.int 4)))) [.val D, .un, .un] = .nx [.val D, .val (.str kd), .un] := sSet_ev (hk _ _ (dm _ 0 0 4 rfl (by omega) rfl (by omega)))
  by_cases ht : kd = "turn"
  · subst ht
    refine ⟨.tuple [.str "turn", .str ax], ?_, .inl ⟨ax, hax, rfl⟩⟩
    refine gDef_ev' (fB := f_Lstep) [.val D, .un, .un] rfl rfl ?_
    unfold f_Lstep
    refine (sSeq_nx s1).trans ?_
    exact sSeq_rt ((sIf_t (by kernel_rfl)).trans (sRet_ev (eTup_ev (aCons_ev rfl (aCons_ev (ha _ _ (dm _ 1 1 3 rfl (by omega) rfl (by omega))) aNil_ev)) (by simp))))
  · obtain ⟨fo, hfo⟩ : ∃ fo : Bool, kd = (if fo then ("fold" : Str) else "stack") := by
      rcases hkd with h | h | h | h
      · exact ⟨true, h⟩
      · exact ⟨false, h⟩
      · exact ⟨true, h⟩
      · exact absurd h ht
    refine ⟨.tuple [.str (if fo then "fold" else "stack"), .str ed, .int kv, .str wy], ?_, .inr ⟨fo, ed, wy, kv, kv.toNat, hed, hwy, by omega, by omega, rfl⟩⟩
    rw [hfo] at s1
    refine gDef_ev' (fB := f_Lstep) [.val D, .un, .un] rfl rfl ?_
    unfold f_Lstep
    refine (sSeq_nx s1).trans ?_
    refine (sSeq_nx (Eq.trans (sIf_f ?_) rfl)).trans ?_
    · cases fo <;> kernel_rfl
    refine (sSeq_nx (e := [.val D, .val (.str (if fo then "fold" else "stack")), .val (.str ed)]) (sSet_ev (he _ _ (dm _ 1 1 4 rfl (by omega) rfl (by omega))))).trans ?_
    exact sRet_ev (eTup_ev (aCons_ev rfl (aCons_ev rfl (aCons_ev (e2_ev rfl (dm _ 2 2 3 rfl (by omega) rfl (by omega)) (by rw [hkv]; rfl)) (aCons_ev (hw _ _ (dm _ 3 3 2 rfl (by omega) rfl (by omega))) aNil_ev)))) (by simp))
/-! a pile of two packets of one size, in the law's dicts -/
def plE (b : Side) (e : (Nat × Nat) × Mk) : (Nat × Nat) × Mk := (e.1, e.2 ++ ce b e.1.1 e.1.2)
theorem lk_in {es : Es} {k : Nat × Nat} {v : Mk} (h : lk es k = some v) : (k, v) ∈ es := by
  unfold lk at h
  rw [Option.map_eq_some_iff] at h
  obtain ⟨e, h1, h2⟩ := h
  have h3 := List.mem_of_find?_eq_some h1
  have h4 := List.find?_some h1
  have h5 : e.1 = k := of_decide_eq_true h4
  rw [← h5, ← h2]
  exact h3
theorem addD_cel {a b : Mk} (h : a.length + b.length ≤ 1000000) : addD (celD a) (celD b) = some (celD (a ++ b)) := by
  unfold celD
  rw [addD_list (by rw [List.length_map, List.length_map]; exact h), ← List.map_append]
theorem lpiled_ev {ea eb : Es} {R C : Nat} {a b : Side} (oa : Own ea R C a) (ob : Own eb R C b) (ta : tot a ≤ 100) (tb : tot b ≤ 100) (hl : ea.length ≤ 10000) (Rv Cv : Int) (X Y : PyData) :
    g_Lpiled [.tuple [.int Rv, .int Cv, dcD ea], .tuple [X, Y, dcD eb]] = some (.tuple [.int Rv, .int Cv, dcD (ea.map (plE b))]) ∧ Own (ea.map (plE b)) R C (layP a b) := by
  have kn : KN (ea.map (plE b)) := by
    unfold KN
    rw [List.pairwise_map]
    exact oa.kn
  refine ⟨?_, by have := layP_rc oa.rc ob.rc (.inl rfl); rw [Nat.max_self, Nat.max_self] at this; exact this, fun i j hi hj => ?_, kn, fun e he => ?_⟩
  · obtain ⟨P, hP⟩ : ∃ P : PyData, P = .tuple [.int Rv, .int Cv, dcD ea] := ⟨_, rfl⟩
    obtain ⟨Q, hQ⟩ : ∃ P : PyData, P = .tuple [X, Y, dcD eb] := ⟨_, rfl⟩
    rw [← hP, ← hQ]
    have lp : ∀ (rest done : Es) (z3 : Sl), ea = done ++ rest → ∃ w3, loopF (gVal 3) b_Lpiled_1 (rest.map fun e => keyD e.1) [.val P, .val Q, .ownT ((done.map (plE b)).map enD), z3] = .nx [.val P, .val Q, .ownT ((ea.map (plE b)).map enD), w3] := by
      intro rest
      induction rest with
      | nil =>
        intro done z3 h
        rw [List.append_nil] at h
        exact ⟨z3, by rw [h]; rfl⟩
      | cons e rest ih =>
        intro done z3 h
        have hm : e ∈ ea := by rw [h]; exact List.mem_append_right _ List.mem_cons_self
        have hv := oa.val hm
        have hr := oa.rg e hm
        have hn : ∀ m ∈ done.map (plE b), m.1 ≠ e.1 := fun m hm2 => by
          obtain ⟨d, hd, rfl⟩ := List.mem_map.mp hm2
          have kn := oa.kn
          unfold KN at kn
          rw [h, List.pairwise_append] at kn
          exact kn.2.2 d hd e List.mem_cons_self
        have hb : b_Lpiled_1 [.val P, .val Q, .ownT ((done.map (plE b)).map enD), .val (keyD e.1)] = .nx [.val P, .val Q, .ownT (((done ++ [e]).map (plE b)).map enD), .val (keyD e.1)] := by
          unfold b_Lpiled_1
          refine sPutT_ev (i := 2) (es := done.map (plE b)) (es' := (done ++ [e]).map (plE b)) (k := e.1) (c := e.2 ++ ce b e.1.1 e.1.2) ?_ rfl rfl ?_ ?_
          · refine e2_ev (x := celD e.2) (y := celD (ce b e.1.1 e.1.2)) (e2_ev (x := dcD ea) (e2_ev rfl rfl (by rw [hP]; rfl)) rfl (ixU_key hv.2)) (e2_ev (x := dcD eb) (e2_ev rfl rfl (by rw [hQ]; rfl)) rfl (ixU_key (ob.at_ _ _ hr.1 hr.2))) (addD_cel ?_)
            rw [hv.1]
            have h1 : (ce a e.1.1 e.1.2).length ≤ tot a := ce_len
            have h2 : (ce b e.1.1 e.1.2).length ≤ tot b := ce_len
            omega
          · rw [List.length_map]
            have := congrArg List.length h
            rw [List.length_append] at this
            omega
          · rw [List.map_append]
            exact put_new hn _
        obtain ⟨w3, h2⟩ := ih (done ++ [e]) (.val (keyD e.1)) (by rw [h, List.append_assoc]; rfl)
        refine ⟨w3, ?_⟩
        rw [List.map_cons]
        exact (loop_cons rfl hb).trans h2
    obtain ⟨w3, h1⟩ := lp ea [] .un rfl
    refine gDef_ev' (fB := f_Lpiled) [.val P, .val Q, .un, .un] rfl rfl ?_
    unfold f_Lpiled
    refine (sSeq_nx (e := [.val P, .val Q, .ownT [], .un]) (by rfl)).trans ?_
    have hrg : iSeqU (e2 ixU (eVar 0) (eC (.int 2))) [.val P, .val Q, .ownT [], .un] = some (ea.map fun e => keyD e.1) := by
      unfold iSeqU
      rw [e2_ev (x := P) (y := .int 2) (d := dcD ea) rfl rfl (by rw [hP]; rfl)]
      show some ((ea.map enD).map (·.1)) = _
      rw [List.map_map]
      rfl
    refine (sSeq_nx (sFor_ev hrg h1)).trans ?_
    rw [hP]
    rfl
  · rw [layP_ce]
    refine lk_mem kn ?_
    have := lk_in (oa.at_ i j hi hj)
    exact List.mem_map.mpr ⟨_, this, rfl⟩
  · obtain ⟨d, hd, rfl⟩ := List.mem_map.mp he
    exact oa.rg d hd
/-! ### packets on the table -/
structure Pk where
  p : Side
  R : Nat
  C : Nat
  es : Es
def pD (x : Pk) : PyData := sideD x.p
def lD (x : Pk) : PyData := .tuple [.int (x.R : Nat), .int (x.C : Nat), dcD x.es]
structure PkOk (x : Pk) : Prop where
  own : Own x.es x.R x.C x.p
  r1 : 1 ≤ x.R
  c1 : 1 ≤ x.C
  r2 : x.R ≤ 64
  c2 : x.C ≤ 64
  el : x.es.length ≤ 10000
def T (st : List Pk) : Nat := (st.map fun x => tot x.p).sum
theorem T_app (a b : List Pk) : T (a ++ b) = T a + T b := by unfold T; rw [List.map_append, List.sum_append]
theorem T_mem {x : Pk} {st : List Pk} (h : x ∈ st) : tot x.p ≤ T st := le_sum (fun x : Pk => tot x.p) h
theorem T_one (x : Pk) : T [x] = tot x.p := by unfold T; simp
theorem pk_sm {x : Pk} (h : PkOk x) (ht : tot x.p ≤ 64) : smS x.p := by
  have a := h.r2
  have b := h.c2
  exact sm_of h.own.rc (by omega) (by omega) (by omega)
theorem pk_size {x : Pk} (h : PkOk x) : g_size_of [pD x] = some (pr ((x.R : Nat), (x.C : Nat))) := by
  have hne : x.p ≠ [] := ne_of_rc h.own.rc h.r1
  unfold pD
  rw [size_ev x.p hne, W_rc h.own.rc h.r1, h.own.rc.1]
inductive Rs
  | ok (qs : List Pk)
  | no (m : Str)
def rzP : Rs → Rz
  | .ok qs => .ok (.list (qs.map pD))
  | .no m => .ex (.str m)
def rzL : Rs → PyData
  | .ok qs => .list (qs.map lD)
  | .no m => .str m
def RsOk (t n : Nat) : Rs → Prop
  | .ok qs => (∀ x ∈ qs, PkOk x) ∧ T qs = t ∧ qs.length ≤ n
  | .no _ => True
/-! lists by data -/
theorem eqv_intsA : ∀ xs ys : List Int, PyData.eqvAll (xs.map PyData.int) (ys.map PyData.int) = decide (xs = ys)
  | [], [] => by simp [PyData.eqvAll]
  | [], y :: ys => by simp [PyData.eqvAll]
  | x :: xs, [] => by simp [PyData.eqvAll]
  | x :: xs, y :: ys => by
    simp only [List.map_cons, PyData.eqvAll, PyData.eqv, eqv_intsA xs ys]
    by_cases h : x = y
    · subst h
      simp
    · simp [h]
theorem neD_pr (p q : Int × Int) : neD (pr p) (pr q) = some (.bool (!decide (p = q))) := by
  unfold neD
  simp only [shaped_pr, Bool.and_self, if_true, eqv_pr]
theorem eqD_pr (p q : Int × Int) : eqD (pr p) (pr q) = some (.bool (decide (p = q))) := by
  unfold eqD
  simp only [shaped_pr, Bool.and_self, if_true, eqv_pr]
theorem atI_last {ds : List PyData} {d : PyData} : atI (ds ++ [d]) (-1) = some d := by
  have e : ixN (ds ++ [d]).length (-1) = some ds.length := by
    unfold ixN
    rw [if_neg (by decide), List.length_append, if_pos (by simp; omega)]
    congr 1
    simp
    omega
  unfold atI
  rw [e]
  simp
theorem cutL_init {ds : List PyData} : cutL ds none (some (-1)) = ds.dropLast := by
  have e : HT.sIx ds.length ds.length (some (-1)) = ds.length - 1 := by
    show (if (-1 : Int) < 0 then ((-1 : Int) + (ds.length : Int)).toNat else min (-1 : Int).toNat ds.length) = _
    rw [if_pos (by decide)]
    omega
  unfold cutL
  rw [e, HT.sIx_none, List.dropLast_eq_take]
  rfl
def sz (x : Pk) : Int × Int := ((x.R : Nat), (x.C : Nat))
/-- all of the packets have the size of the first -/
def sameB (x : Pk) (xs : List Pk) : Bool := xs.all fun y => decide (sz y = sz x)
def layK (x y : Pk) : Pk := ⟨layP x.p y.p, x.R, x.C, x.es.map (plE y.p)⟩
def pileK (x : Pk) (xs : List Pk) : Pk := xs.foldl layK x
theorem sz_eq {x y : Pk} (h : sz y = sz x) : y.R = x.R ∧ y.C = x.C := by
  unfold sz at h
  rw [Prod.mk.injEq] at h
  omega
theorem layK_ok {x y : Pk} (hx : PkOk x) (hy : PkOk y) (h : sz y = sz x) (tx : tot x.p ≤ 64) (ty : tot y.p ≤ 64) : PkOk (layK x y) ∧ sz (layK x y) = sz x ∧ tot (layK x y).p = tot x.p + tot y.p ∧ g_Lpiled [lD x, lD y] = some (lD (layK x y)) ∧ g_lay [pD x, pD y] = some (pD (layK x y)) := by
  obtain ⟨e1, e2'⟩ := sz_eq h
  have oy := hy.own
  rw [e1, e2'] at oy
  have k := lpiled_ev hx.own oy (by omega) (by omega) hx.el (x.R : Nat) (x.C : Nat) (.int (y.R : Nat)) (.int (y.C : Nat))
  exact ⟨⟨k.2, hx.r1, hx.c1, hx.r2, hx.c2, by show (x.es.map _).length ≤ 10000; rw [List.length_map]; exact hx.el⟩, rfl, tot_lay _ _, k.1, lay_ev _ _ (pk_sm hx tx) (pk_sm hy ty)⟩
theorem pileK_loops (xs : List Pk) : ∀ (x : Pk) (A B Z : PyData) (y2 : Sl) (P0 P1 P2 P3 P4 : Sl) (y6 y7 y8 : Sl), PkOk x → (∀ y ∈ xs, PkOk y) → sameB x xs = true → tot x.p + T xs ≤ 64 →
    PkOk (pileK x xs) ∧ tot (pileK x xs).p = tot x.p + T xs ∧ sz (pileK x xs) = sz x ∧
    (∃ z2, loopF (gVal 2) b_pile_1 (xs.map pD) [.val A, .val (pD x), y2] = .nx [.val A, .val (pD (pileK x xs)), z2]) ∧
    (∃ z6, loopF (gVal 6) b_Lperformed_1 (xs.map lD) [P0, P1, P2, P3, P4, .val (lD x), y6, y7, y8] = .nx [P0, P1, P2, P3, P4, .val (lD (pileK x xs)), z6, y7, y8]) := by
  induction xs with
  | nil => intro x A B Z y2 P0 P1 P2 P3 P4 y6 y7 y8 hx _ _ _; exact ⟨hx, by simp [pileK, T], rfl, ⟨y2, rfl⟩, ⟨y6, rfl⟩⟩
  | cons y ys ih =>
    intro x A B Z y2 P0 P1 P2 P3 P4 y6 y7 y8 hx hy hs ht
    unfold sameB at hs
    rw [List.all_cons, Bool.and_eq_true] at hs
    have hsy := of_decide_eq_true hs.1
    have hty : T (y :: ys) = tot y.p + T ys := by unfold T; simp
    rw [hty] at ht
    obtain ⟨k1, k2, k3, k4, k5⟩ := layK_ok hx (hy y List.mem_cons_self) hsy (by omega) (by omega)
    have hs2 : sameB (layK x y) ys = true := by
      unfold sameB
      rw [k2]
      exact hs.2
    obtain ⟨j1, j2, j3, ⟨z2, j4⟩, ⟨z6, j5⟩⟩ := ih (layK x y) A B Z (.val (pD y)) P0 P1 P2 P3 P4 (.val (lD y)) y7 y8 k1 (fun z hz => hy z (List.mem_cons_of_mem _ hz)) hs2 (by omega)
    refine ⟨j1, by show tot (pileK (layK x y) ys).p = _; omega, j3.trans k2, ⟨z2, ?_⟩, ⟨z6, ?_⟩⟩
    · rw [List.map_cons]
      refine (loop_cons (e1 := [.val A, .val (pD x), .val (pD y)]) rfl ?_).trans j4
      exact sSet_ev (eCall_ev (aCons_ev rfl (aCons_ev rfl aNil_ev)) k5)
    · rw [List.map_cons]
      refine (loop_cons (e1 := [P0, P1, P2, P3, P4, .val (lD x), .val (lD y), y7, y8]) rfl ?_).trans j5
      unfold b_Lperformed_1
      have tt : t1 (e2 neD (eSl (eVar 6) oNone (oSome (eC (.int 2)))) (eSl (eVar 5) oNone (oSome (eC (.int 2))))) [P0, P1, P2, P3, P4, .val (lD x), .val (lD y), y7, y8] = some false := by
        refine t1_ev (e2_ev (slT_pre (ds := [.int (y.R : Nat), .int (y.C : Nat), dcD y.es]) (n := 2) rfl rfl rfl (by simp)) (slT_pre (ds := [.int (x.R : Nat), .int (x.C : Nat), dcD x.es]) (n := 2) rfl rfl rfl (by simp)) ((neD_pr (sz y) (sz x)).trans ?_))
        rw [decide_eq_true hsy]; rfl
      refine (sSeq_nx ((sIf_f tt).trans rfl)).trans ?_
      exact sSet_ev (eCall_ev (aCons_ev rfl (aCons_ev rfl aNil_ev)) k4)
def difS : Str := "packets differ in size"
theorem pile_fail (xs : List Pk) : ∀ (x : Pk) (P0 P1 P2 P3 P4 : Sl) (y6 y7 y8 : Sl), PkOk x → (∀ y ∈ xs, PkOk y) → sameB x xs = false → tot x.p + T xs ≤ 64 →
    loopF (gVal 6) b_Lperformed_1 (xs.map lD) [P0, P1, P2, P3, P4, .val (lD x), y6, y7, y8] = .rt (.str difS) := by
  induction xs with
  | nil => intro x P0 P1 P2 P3 P4 y6 y7 y8 hx _ hs _; unfold sameB at hs; simp at hs
  | cons y ys ih =>
    intro x P0 P1 P2 P3 P4 y6 y7 y8 hx hy hs ht
    have hty : T (y :: ys) = tot y.p + T ys := by unfold T; simp
    rw [hty] at ht
    have tt : t1 (e2 neD (eSl (eVar 6) oNone (oSome (eC (.int 2)))) (eSl (eVar 5) oNone (oSome (eC (.int 2))))) [P0, P1, P2, P3, P4, .val (lD x), .val (lD y), y7, y8] = some (!decide (sz y = sz x)) :=
      t1_ev (e2_ev (slT_pre (ds := [.int (y.R : Nat), .int (y.C : Nat), dcD y.es]) (n := 2) rfl rfl rfl (by simp)) (slT_pre (ds := [.int (x.R : Nat), .int (x.C : Nat), dcD x.es]) (n := 2) rfl rfl rfl (by simp)) (neD_pr (sz y) (sz x)))
    rw [List.map_cons]
    by_cases hsy : sz y = sz x
    · obtain ⟨k1, k2, k3, k4, k5⟩ := layK_ok hx (hy y List.mem_cons_self) hsy (by omega) (by omega)
      have hs2 : sameB (layK x y) ys = false := by
        unfold sameB at hs ⊢
        rw [List.all_cons, decide_eq_true hsy, Bool.true_and] at hs
        rw [k2]
        exact hs
      rw [decide_eq_true hsy] at tt
      refine (loop_cons (e1 := [P0, P1, P2, P3, P4, .val (lD x), .val (lD y), y7, y8]) (e2 := [P0, P1, P2, P3, P4, .val (lD (layK x y)), .val (lD y), y7, y8]) rfl ?_).trans (ih (layK x y) P0 P1 P2 P3 P4 (.val (lD y)) y7 y8 k1 (fun z hz => hy z (List.mem_cons_of_mem _ hz)) hs2 (by omega))
      unfold b_Lperformed_1
      exact (sSeq_nx ((sIf_f tt).trans rfl)).trans (sSet_ev (eCall_ev (aCons_ev rfl (aCons_ev rfl aNil_ev)) k4))
    · rw [decide_eq_false hsy] at tt
      have hb : b_Lperformed_1 [P0, P1, P2, P3, P4, .val (lD x), .val (lD y), y7, y8] = .rt (.str difS) := sSeq_rt ((sIf_t tt).trans rfl)
      show loopF _ _ (lD y :: ys.map lD) _ = _
      have hg : gVal 6 (lD y) [P0, P1, P2, P3, P4, .val (lD x), y6, y7, y8] = some [P0, P1, P2, P3, P4, .val (lD x), .val (lD y), y7, y8] := rfl
      simp only [loopF, hg, hb]
theorem any_same (x : Pk) (xs : List Pk) : ((x :: xs).any fun y => !decide (sz y = sz x)) = !sameB x xs := by
  unfold sameB
  rw [List.any_cons, decide_eq_true rfl]
  simp [List.all_eq_not_any_not]
theorem xUp {s : En → Out} {t : En → OutX} {env e : En} (h : s env = .nx e) : xSeq (up s) t env = t e := xSeq_nx' (up_nx h)
theorem gDefX_ev {np nN : Nat} {fB : En → OutX} {ds : List PyData} {r : Rz} (env : En) (h1 : ds.length = np) (h0 : env0 nN ds = env) (h2 : outDX (fB env) = some r) : gDefX np nN fB ds = some r := by
  unfold gDefX
  rw [if_pos h1, h0, h2]
theorem xg_t {ga : En → Option Bool} {t : En → OutX} {env : En} {m : Str} (h : ga env = some true) : xSeq (xIf ga (xRaise (eC (.str m))) xNil) t env = .rs env (.str m) := xSeq_rs ((xIf_t h).trans (xRaise_ev rfl))
theorem xg_f {ga : En → Option Bool} {s t : En → OutX} {env : En} (h : ga env = some false) : xSeq (xIf ga s xNil) t env = t env := xSeq_nx' ((xIf_f h).trans rfl)
theorem xSeq_rt {s t : En → OutX} {env : En} {d : PyData} (h : s env = .rt d) : xSeq s t env = .rt d := by
  unfold xSeq
  rw [h]
theorem pile_ev (x : Pk) (xs : List Pk) (hx : PkOk x) (hy : ∀ y ∈ xs, PkOk y) (ht : tot x.p + T xs ≤ 64) (hl : xs.length ≤ 100) : g_pile [.list ((x :: xs).map pD)] = some (if sameB x xs = true then .ok (pD (pileK x xs)) else .ex (.str difS)) := by
  obtain ⟨A, hA⟩ : ∃ A, A = PyData.list ((x :: xs).map pD) := ⟨_, rfl⟩
  refine gDefX_ev [.val (.list ((x :: xs).map pD)), .un, .un] rfl rfl ?_
  rw [← hA]
  have hall : ∀ y ∈ x :: xs, PkOk y := fun y h => (List.mem_cons.mp h).elim (fun e => e ▸ hx) (hy y)
  have ha : t1 (eCall anyA (aCons (eL (fCmp [2] (iSeq (eVar 0)) (gVal 2) tYes' c_pile_1)) aNil)) [.val A, .un, .un] = some (!sameB x xs) := by
    rw [← any_same]
    refine t1_ev (anyM (aCons_ev (eL_ev (fCmp_ev (ds := (x :: xs).map pD) (by rw [hA]; rfl) (compF_mapS (k := fun y => .bool (!decide (sz y = sz x))) fun y hyy => ⟨[.val A, .un, .val (pD y)], rfl, ?_⟩) (by simp; omega))) aNil_ev))
    exact e2_ev (eCall_ev (aCons_ev rfl aNil_ev) (pk_size (hall y hyy))) (eCall_ev (aCons_ev (e2_ev (x := A) (y := .int 0) (d := pD x) rfl rfl (by rw [hA]; exact ixG_l (j := 0) rfl rfl)) aNil_ev) (pk_size hx)) (neD_pr (sz y) (sz x))
  unfold f_pile
  cases q : sameB x xs with
  | false =>
    rw [q] at ha
    rw [xg_t (show _ = some true from ha)]
    rfl
  | true =>
    rw [q] at ha
    rw [xg_f (show _ = some false from ha)]
    rw [xUp (e := [.val A, .val (pD x), .un]) (sSet_ev (e2_ev (x := A) (y := .int 0) (d := pD x) rfl rfl (by rw [hA]; exact ixG_l (j := 0) rfl rfl)))]
    obtain ⟨_, _, _, ⟨z2, h1⟩, _⟩ := pileK_loops xs x A A A .un .un .un .un .un .un .un .un .un hx hy q ht
    rw [xUp (sFor_ev (ds := xs.map pD) (by
      show iSeq (eSl (eVar 0) (oSome (eC (.int 1))) oNone) [.val A, .val (pD x), .un] = _
      unfold iSeq
      rw [slL_post (ds := (x :: xs).map pD) (n := 1) (by rw [hA]; rfl) rfl rfl (by simp)]
      rfl) h1)]
    rfl
theorem T_cons (x : Pk) (xs : List Pk) : T (x :: xs) = tot x.p + T xs := by unfold T; rw [List.map_cons, List.sum_cons]
def takeK (st : List Pk) (k : Nat) : List Pk := st.take k ++ st.drop (k + 1) ++ (st.drop k).take 1
theorem take_one {α : Type} {st : List α} {k : Nat} (h : k < st.length) : (st.drop k).take 1 = [st[k]] := by
  rw [List.drop_eq_getElem_cons h]; rfl
theorem takeK_T {st : List Pk} {k : Nat} (h : k < st.length) : T (takeK st k) = T st := by
  unfold takeK
  rw [T_app, T_app, take_one h]
  have e : st = st.take k ++ st[k] :: st.drop (k + 1) := by rw [← List.drop_eq_getElem_cons h, List.take_append_drop]
  have : T st = T (st.take k) + (tot st[k].p + T (st.drop (k + 1))) := by
    conv => lhs; rw [e]
    rw [T_app, T_cons]
  rw [this, T_one]
  omega
/-- the list that take makes, as data -/
theorem take_val {env : En} {f g : En → Option PyData} {st : List Pk} {F : Pk → PyData} {k : Nat} {kv : Int} (hf : f env = some (.list (st.map F))) (hg : g env = some (.int kv)) (hk : kv = (k : Nat)) (h : k < st.length) (hl : st.length ≤ 1000) :
    eL (fCat (e2 addD (eSl f oNone (oSome g)) (eSl f (oSome (e2 addD g (eC (.int 1)))) oNone)) (eL (fLst (aCons (e2 ixG f g) aNil)))) env = some (.list ((takeK st k).map F)) := by
  have a1 := slL_pre (n := k) hf hg hk (by rw [List.length_map]; omega)
  have a2 := slL_post (n := k + 1) (g := e2 addD g (eC (.int 1))) hf (e2_ev hg rfl (addD_int _ _)) (by omega) (by rw [List.length_map]; omega)
  have a3 : e2 ixG f g env = some (F st[k]) := e2_ev hf hg (ixG_l (j := k) (by rw [List.getElem?_map, List.getElem?_eq_getElem h]; rfl) hk)
  refine (eL_ev (fCat_ev' (a := (st.map F).take k ++ (st.map F).drop (k + 1)) (b := [F st[k]]) (e2_ev a1 a2 (addD_list ?_)) (eL_ev (fLst_ev (aCons_ev a3 aNil_ev) (by simp))) ?_)).trans ?_
  · simp; omega
  · simp; omega
  · unfold takeK
    rw [take_one h, List.map_append, List.map_append, List.map_take, List.map_drop]
    rfl
/-! what the steps of a plan are -/
inductive Stp
  | sheet (r c : Nat)
  | take (k : Nat)
  | pile (n : Nat)
  | turn (x : Str)
  | cut (e : Str) (k : Nat)
  | mv (fo : Bool) (e : Str) (k : Nat) (w : Str)
def stD : Stp → PyData
  | .sheet r c => .tuple [.str "sheet", .int (r : Nat), .int (c : Nat)]
  | .take k => .tuple [.str "take", .int (k : Nat)]
  | .pile n => .tuple [.str "pile", .int (n : Nat)]
  | .turn x => .tuple [.str "turn", .str x]
  | .cut e k => .tuple [.str "cut", .str e, .int (k : Nat)]
  | .mv fo e k w => .tuple [.str (if fo then "fold" else "stack"), .str e, .int (k : Nat), .str w]
def StpOk : Stp → Prop
  | .sheet r c => 1 ≤ r ∧ r ≤ 8 ∧ 1 ≤ c ∧ c ≤ 8
  | .take _ => True
  | .pile n => 2 ≤ n
  | .turn x => is3 x
  | .cut e k => is4 e ∧ 1 ≤ k
  | .mv _ e k w => is4 e ∧ is2 w ∧ 1 ≤ k
def kw : Stp → Str
  | .sheet _ _ => "sheet"
  | .take _ => "take"
  | .pile _ => "pile"
  | .turn _ => "turn"
  | .cut _ _ => "cut"
  | .mv fo _ _ _ => if fo then "fold" else "stack"
theorem kw_ok (s : Stp) : PyData.strOk (kw s) = true := by
  have h1 : PyData.strOk ("sheet" : Str) = true := by decide +kernel
  have h2 : PyData.strOk ("take" : Str) = true := by decide +kernel
  have h3 : PyData.strOk ("pile" : Str) = true := by decide +kernel
  have h4 : PyData.strOk ("turn" : Str) = true := by decide +kernel
  have h5 : PyData.strOk ("cut" : Str) = true := by decide +kernel
  have h6 : PyData.strOk ("fold" : Str) = true := by decide +kernel
  have h7 : PyData.strOk ("stack" : Str) = true := by decide +kernel
  cases s with
  | sheet r c => exact h1
  | take k => exact h2
  | pile n => exact h3
  | turn x => exact h4
  | cut e k => exact h5
  | mv fo e k w =>
    cases fo
    · exact h7
    · exact h6
theorem eqD_str {x y : Str} (hx : PyData.strOk x = true) (hy : PyData.strOk y = true) : eqD (.str x) (.str y) = some (.bool (decide (x = y))) := by
  unfold eqD
  rw [shaped_str hx, shaped_str hy]
  rfl
theorem kEq (s : Stp) (w : Str) (hw : PyData.strOk w = true) {f : En → Option PyData} {env : En} (hf : f env = some (stD s)) : t1 (e2 eqD (e2 ixG f (eC (.int 0))) (eC (.str w))) env = some (decide (kw s = w)) :=
  t1_ev (e2_ev (e2_ev (d := .str (kw s)) hf rfl (by cases s <;> rfl)) rfl (eqD_str (kw_ok s) hw))
theorem kEq' (s : Stp) (w : Str) (hw : PyData.strOk w = true) {f : En → Option PyData} {env : En} (hf : f env = some (.str (kw s))) : t1 (e2 eqD f (eC (.str w))) env = some (decide (kw s = w)) :=
  t1_ev (e2_ev hf rfl (eqD_str (kw_ok s) hw))
theorem ch1 (i j m : Int) (f g h : En → Option PyData) (env : En) (h1 : f env = some (.int i)) (h2 : g env = some (.int j)) (h3 : h env = some (.int m)) : chI (fun i j => decide (i ≤ j)) (fun i j => decide (i < j)) f g h env = some (.bool (decide (i ≤ j ∧ j < m))) := by
  unfold chI
  rw [h1]
  simp only
  rw [h2]
  simp only
  by_cases q : i ≤ j
  · rw [if_pos (decide_eq_true q), h3]; simp [q]
  · rw [if_neg (by simpa using q)]; simp [q]
theorem xRet_out {fx : En → Option Rz} {env : En} {r : Rz} (h : fx env = some r) : outDX (xRet fx env) = some r := by
  unfold xRet
  rw [h]
  cases r <;> rfl
theorem xRetIf {ga : En → Option Bool} {fx : En → Option Rz} {t : En → OutX} {env : En} {r : Rz} (h : ga env = some true) (h2 : fx env = some r) : outDX (xSeq (xIf ga (xRet fx) xNil) t env) = some r := by
  have e : xIf ga (xRet fx) xNil env = xRet fx env := xIf_t h
  cases r with
  | ok d =>
    rw [xSeq_rt (d := d) (e.trans (by unfold xRet; rw [h2]))]
    rfl
  | ex d =>
    rw [xSeq_rs (e := env) (d := d) (e.trans (by unfold xRet; rw [h2]))]
    rfl
theorem xCall_ev {g : List PyData → Option Rz} {fa : En → Option (List PyData)} {env : En} {ds : List PyData} {r : Rz} (h1 : fa env = some ds) (h2 : g ds = some r) : xCall g (xaOk fa) env = some r := by
  unfold xCall xaOk
  rw [h1]
  exact h2
def rzLst : Rz → Rz
  | .ok d => .ok (.list [d])
  | .ex d => .ex d
theorem xLst_ev {fx : En → Option Rz} {env : En} {r : Rz} (h : fx env = some r) : xLst (xaCons fx aNil) env = some (rzLst r) := by
  unfold xLst xaCons
  rw [h]
  cases r <;> rfl
theorem x2_ev {h : PyData → PyData → Option PyData} {f : En → Option PyData} {fx : En → Option Rz} {env : En} {x : PyData} {r r' : Rz} (h1 : f env = some x) (h2 : fx env = some r) (h3 : (match r with | .ok y => (h x y).map .ok | .ex d => some (.ex d)) = some r') : x2 h f fx env = some r' := by
  unfold x2
  rw [h1, h2]
  cases r <;> exact h3
theorem wne : ¬ (("take" : Str) = "pile") ∧ ¬ (("turn" : Str) = "take") ∧ ¬ (("turn" : Str) = "pile") ∧ ¬ (("cut" : Str) = "take") ∧ ¬ (("cut" : Str) = "pile") ∧ ¬ (("cut" : Str) = "turn") ∧ ¬ (("pile" : Str) = "take") ∧ ¬ (("pile" : Str) = "sheet") ∧ ¬ (("take" : Str) = "sheet") ∧ ¬ (("turn" : Str) = "sheet") ∧ ¬ (("cut" : Str) = "sheet") := by decide +kernel
theorem wne2 (fo : Bool) : ¬ ((if fo then ("fold" : Str) else "stack") = "sheet") ∧ ¬ ((if fo then ("fold" : Str) else "stack") = "take") ∧ ¬ ((if fo then ("fold" : Str) else "stack") = "pile") ∧ ¬ ((if fo then ("fold" : Str) else "stack") = "turn") ∧ ¬ ((if fo then ("fold" : Str) else "stack") = "cut") := by cases fo <;> decide +kernel
theorem okTake : PyData.strOk "take" = true := by decide +kernel
theorem okPile : PyData.strOk "pile" = true := by decide +kernel
theorem okTurn : PyData.strOk "turn" = true := by decide +kernel
theorem okCut : PyData.strOk "cut" = true := by decide +kernel
theorem okFold : PyData.strOk "fold" = true := by decide +kernel
theorem okSheet : PyData.strOk "sheet" = true := by decide +kernel
abbrev LE (L N SD K : PyData) : En := [.val L, .val N, .val SD, .val K, .un, .un, .un, .un, .un]
theorem lno {s : Stp} {w : Str} (hw : PyData.strOk w = true) (h : ¬ kw s = w) {L N SD : PyData} {a r : En → Out} : sSeq (sIf (t1 (e2 eqD (eVar 3) (eC (.str w)))) a sNil) r (LE L N SD (.str (kw s))) = r (LE L N SD (.str (kw s))) :=
  sSeq_nx ((sIf_f ((kEq' s w hw rfl).trans (by rw [decide_eq_false h]))).trans rfl)
theorem lyes {s : Stp} {w : Str} (hw : PyData.strOk w = true) (h : kw s = w) {L N SD d : PyData} {a r : En → Out} (h2 : a (LE L N SD (.str (kw s))) = .rt d) : sSeq (sIf (t1 (e2 eqD (eVar 3) (eC (.str w)))) a sNil) r (LE L N SD (.str (kw s))) = .rt d :=
  sSeq_rt ((sIf_t ((kEq' s w hw rfl).trans (by rw [decide_eq_true h]))).trans h2)
theorem xno {s : Stp} {w : Str} (hw : PyData.strOk w = true) (h : ¬ kw s = w) {P : PyData} {a r : En → OutX} : xSeq (xIf (t1 (e2 eqD (e2 ixG (eVar 1) (eC (.int 0))) (eC (.str w)))) a xNil) r [.val P, .val (stD s)] = r [.val P, .val (stD s)] :=
  xg_f ((kEq s w hw rfl).trans (by rw [decide_eq_false h]))
theorem lstart {L N : PyData} {s : Stp} {r : En → Out} : sSeq (sSet 3 (e2 ixG (eVar 2) (eC (.int 0)))) r [.val L, .val N, .val (stD s), .un, .un, .un, .un, .un, .un] = r (LE L N (stD s) (.str (kw s))) := sSeq_nx (sSet_ev (e2_ev rfl rfl (by cases s <;> rfl)))
theorem sim_take (st : List Pk) (hok : ∀ x ∈ st, PkOk x) (hl : st.length ≤ 100) (k : Nat) (N : PyData) :
    ∃ r, g_work [.list (st.map pD), stD (.take k)] = some (rzP r) ∧ g_Lperformed [.list (st.map lD), N, stD (.take k)] = some (rzL r) ∧ RsOk (T st) (st.length + 1) r := by
  obtain ⟨n1, n2, n3, n4, n5, n6, n7, n8, n9, n10, n11⟩ := wne
  have prog : ∀ r, g_take [.list (st.map pD), .int (k : Nat)] = some (rzP r) → g_work [.list (st.map pD), stD (.take k)] = some (rzP r) := fun r h => by
    refine gDefX_ev [.val (.list (st.map pD)), .val (stD (.take k))] rfl rfl ?_
    unfold f_work
    exact xRetIf ((kEq (.take k) "take" okTake rfl).trans (by rw [show kw (.take k) = "take" from rfl, decide_eq_true rfl])) (xCall_ev (aCons_ev rfl (aCons_ev (e2_ev (d := .int (k : Nat)) rfl rfl rfl) aNil_ev)) h)
  obtain ⟨kv, hk⟩ : ∃ kv : Int, kv = (k : Nat) := ⟨_, rfl⟩
  have hc : ∀ y, t1 (chI (fun i j => decide (i ≤ j)) (fun i j => decide (i < j)) (eC (.int 0)) (eVar 1) (eCall lenA (aCons (eVar 0) aNil))) [.val (.list (st.map pD)), .val (.int kv)] = some y ↔ y = decide (0 ≤ kv ∧ kv < (st.length : Nat)) := fun y => by
    rw [t1_ev (ch1 0 kv (st.length : Nat) _ _ _ _ rfl rfl ((len_l (ds := st.map pD) rfl).trans (by rw [List.length_map])))]
    constructor
    · intro h; cases h; rfl
    · intro h; rw [h]
  have hg : t1 (e2 geD (e2 ixG (eVar 2) (eC (.int 1))) (eCall lenA (aCons (eVar 0) aNil))) (LE (.list (st.map lD)) N (stD (.take k)) (.str (kw (.take k)))) = some (decide (((st.length : Nat) : Int) ≤ (k : Nat))) := t1_ev (e2_ev (e2_ev rfl rfl rfl) ((len_l (ds := st.map lD) rfl).trans (by rw [List.length_map])) (geD_int _ _))
  by_cases h : k < st.length
  · refine ⟨.ok (takeK st k), prog _ ?_, ?_, ?_, takeK_T h, ?_⟩
    · rw [← hk]
      refine gDefX_ev [.val (.list (st.map pD)), .val (.int kv)] rfl rfl ?_
      unfold f_take
      rw [xg_f (not_ev ((hc true).mpr (decide_eq_true (by omega)).symm))]
      show outDX (upO _) = _
      rw [sRet_ev (take_val rfl rfl hk h (by omega))]
      rfl
    · refine gDef_ev' [.val (.list (st.map lD)), .val N, .val (stD (.take k)), .un, .un, .un, .un, .un, .un] rfl rfl ?_
      unfold f_Lperformed
      rw [decide_eq_false (by omega)] at hg
      refine lstart.trans ((lno (s := .take k) okSheet n9).trans (lyes (s := .take k) okTake rfl ((sSeq_nx ((sIf_f hg).trans rfl)).trans (sRet_ev (take_val (kv := (k : Nat)) rfl (e2_ev rfl rfl rfl) rfl h (by omega))))))
    · intro x hx
      unfold takeK at hx
      rw [List.mem_append, List.mem_append] at hx
      rcases hx with (hx | hx) | hx
      · exact hok x (List.mem_of_mem_take hx)
      · exact hok x (List.mem_of_mem_drop hx)
      · exact hok x (List.mem_of_mem_drop (List.mem_of_mem_take hx))
    · unfold takeK
      simp
      omega
  · refine ⟨.no "no such packet", prog _ ?_, ?_, trivial⟩
    · rw [← hk]
      refine gDefX_ev [.val (.list (st.map pD)), .val (.int kv)] rfl rfl ?_
      unfold f_take
      rw [xg_t (not_ev ((hc false).mpr (decide_eq_false (by omega)).symm))]
      rfl
    · refine gDef_ev' [.val (.list (st.map lD)), .val N, .val (stD (.take k)), .un, .un, .un, .un, .un, .un] rfl rfl ?_
      unfold f_Lperformed
      rw [decide_eq_true (by omega)] at hg
      exact lstart.trans ((lno (s := .take k) okSheet n9).trans (lyes (s := .take k) okTake rfl (sSeq_rt ((sIf_t hg).trans rfl))))
theorem sim_pile (st : List Pk) (hok : ∀ x ∈ st, PkOk x) (ht : T st ≤ 64) (hl : st.length ≤ 100) (n : Nat) (hn : 2 ≤ n) (N : PyData) :
    ∃ r, g_work [.list (st.map pD), stD (.pile n)] = some (rzP r) ∧ g_Lperformed [.list (st.map lD), N, stD (.pile n)] = some (rzL r) ∧ RsOk (T st) (st.length + 1) r := by
  obtain ⟨n1, n2, n3, n4, n5, n6, n7, n8, n9, n10, n11⟩ := wne
  have prog : ∀ r, g_pile_last [.list (st.map pD), .int (n : Nat)] = some (rzP r) → g_work [.list (st.map pD), stD (.pile n)] = some (rzP r) := fun r h => by
    refine gDefX_ev [.val (.list (st.map pD)), .val (stD (.pile n))] rfl rfl ?_
    unfold f_work
    rw [xno (s := .pile n) okTake n7]
    exact xRetIf ((kEq (.pile n) "pile" okPile rfl).trans (by rw [show kw (.pile n) = "pile" from rfl, decide_eq_true rfl])) (xCall_ev (aCons_ev rfl (aCons_ev (e2_ev (d := .int (n : Nat)) rfl rfl rfl) aNil_ev)) h)
  have hp : t1 (e2 gtD (eVar 1) (eCall lenA (aCons (eVar 0) aNil))) [.val (.list (st.map pD)), .val (.int (n : Nat)), .un] = some (decide (((st.length : Nat) : Int) < (n : Nat))) := t1_ev (e2_ev rfl ((len_l (ds := st.map pD) rfl).trans (by rw [List.length_map])) (gtD_int _ _))
  have hq : t1 (e2 gtD (e2 ixG (eVar 2) (eC (.int 1))) (eCall lenA (aCons (eVar 0) aNil))) (LE (.list (st.map lD)) N (stD (.pile n)) (.str (kw (.pile n)))) = some (decide (((st.length : Nat) : Int) < (n : Nat))) := t1_ev (e2_ev (e2_ev rfl rfl rfl) ((len_l (ds := st.map lD) rfl).trans (by rw [List.length_map])) (gtD_int _ _))
  by_cases h : st.length < n
  · rw [decide_eq_true (by omega)] at hp hq
    refine ⟨.no "too few packets", prog _ ?_, ?_, trivial⟩
    · refine gDefX_ev [.val (.list (st.map pD)), .val (.int (n : Nat)), .un] rfl rfl ?_
      unfold f_pile_last
      rw [xg_t hp]
      rfl
    · refine gDef_ev' [.val (.list (st.map lD)), .val N, .val (stD (.pile n)), .un, .un, .un, .un, .un, .un] rfl rfl ?_
      unfold f_Lperformed
      exact lstart.trans ((lno (s := .pile n) okSheet n8).trans ((lno (s := .pile n) okTake n7).trans (lyes (s := .pile n) okPile rfl (sSeq_rt ((sIf_t hq).trans rfl)))))
  rw [decide_eq_false (by omega)] at hp hq
  obtain ⟨m, hm⟩ : ∃ m, m = st.length - n := ⟨_, rfl⟩
  obtain ⟨a, ha⟩ : ∃ a, a = st.take m := ⟨_, rfl⟩
  obtain ⟨x, xs, hx⟩ : ∃ x xs, st.drop m = x :: xs := by
    cases q : st.drop m with
    | nil =>
      have := congrArg List.length q
      rw [List.length_drop] at this
      simp at this
      omega
    | cons x xs => exact ⟨x, xs, rfl⟩
  have hst : st = a ++ x :: xs := by rw [ha, ← hx, List.take_append_drop]
  have hlen : a.length = m := by rw [ha, List.length_take]; omega
  have hT : T st = T a + (tot x.p + T xs) := by rw [hst, T_app, T_cons]
  have hlen2 : st.length = a.length + (xs.length + 1) := by rw [hst, List.length_append, List.length_cons]
  have okx : PkOk x := hok x (by rw [hst]; simp)
  have okxs : ∀ y ∈ xs, PkOk y := fun y hy => hok y (by rw [hst]; simp [hy])
  have pv := pile_ev x xs okx okxs (by omega) (by omega)
  have mapT : ∀ F : Pk → PyData, (st.map F).take m = a.map F := fun F => by rw [ha, List.map_take]
  have mapD : ∀ F : Pk → PyData, (st.map F).drop m = (x :: xs).map F := fun F => by rw [← hx, List.map_drop]
  have hml : ∀ F : Pk → PyData, m ≤ (st.map F).length := fun F => by rw [List.length_map]; omega
  -- the program, once the pile is known
  have prog2 : ∀ r, g_pile [.list ((x :: xs).map pD)] = some r → g_pile_last [.list (st.map pD), .int (n : Nat)] = (match r with | .ok d => some (.ok (.list (a.map pD ++ [d]))) | .ex d => some (.ex d)) := fun r hr => by
    refine (gDefX_def f_pile_last [.val (.list (st.map pD)), .val (.int (n : Nat)), .un] rfl rfl).trans ?_
    unfold f_pile_last
    rw [xg_f hp]
    obtain ⟨mv, hmv⟩ : ∃ mv : Int, mv = (m : Nat) := ⟨_, rfl⟩
    rw [xUp (e := [.val (.list (st.map pD)), .val (.int (n : Nat)), .val (.int mv)]) (sSet_ev (e2_ev ((len_l (ds := st.map pD) rfl).trans (by rw [List.length_map])) rfl ((subD_int _ _).trans (by congr 2; omega))))]
    have e1 : eSl (eVar 0) oNone (oSome (eVar 2)) [.val (.list (st.map pD)), .val (.int (n : Nat)), .val (.int mv)] = some (.list (a.map pD)) := (slL_pre (n := m) rfl rfl hmv (hml pD)).trans (by rw [mapT])
    have e2' : eSl (eVar 0) (oSome (eVar 2)) oNone [.val (.list (st.map pD)), .val (.int (n : Nat)), .val (.int mv)] = some (.list ((x :: xs).map pD)) := (slL_post (n := m) rfl rfl hmv (hml pD)).trans (by rw [mapD])
    cases r with
    | ok d => exact xRet_out (x2_ev e1 (xLst_ev (xCall_ev (aCons_ev e2' aNil_ev) hr)) (by show (addD _ _).map _ = _; rw [addD_list (by simp; omega)]; rfl))
    | ex d => exact xRet_out (x2_ev e1 (xLst_ev (xCall_ev (aCons_ev e2' aNil_ev) hr)) rfl)
  -- the law, up to the loop
  obtain ⟨LL, hLL⟩ : ∃ L, L = PyData.list (st.map lD) := ⟨_, rfl⟩
  have hsub : ∀ e : En, eVar 0 e = some LL → eVar 2 e = some (stD (.pile n)) → e2 subD (eCall lenA (aCons (eVar 0) aNil)) (e2 ixG (eVar 2) (eC (.int 1))) e = some (.int (m : Nat)) := fun e h1 h2 => e2_ev ((len_l (ds := st.map lD) (by rw [h1, hLL])).trans (by rw [List.length_map])) (e2_ev h2 rfl rfl) ((subD_int _ _).trans (by congr 2; omega))
  have law : ∀ o : Out, (loopF (gVal 6) b_Lperformed_1 (xs.map lD) [.val LL, .val N, .val (stD (.pile n)), .val (.str (kw (.pile n))), .val (.list ((x :: xs).map lD)), .val (lD x), .un, .un, .un] = o) →
      (∀ d, (o = .rt d ∨ ∃ z6, o = .nx [.val LL, .val N, .val (stD (.pile n)), .val (.str (kw (.pile n))), .val (.list ((x :: xs).map lD)), .val (lD (pileK x xs)), z6, .un, .un] ∧ d = .list (a.map lD ++ [lD (pileK x xs)])) → g_Lperformed [.list (st.map lD), N, stD (.pile n)] = some d) := fun o ho d hd => by
    rw [← hLL] at hq ⊢
    refine gDef_ev' [.val LL, .val N, .val (stD (.pile n)), .un, .un, .un, .un, .un, .un] rfl rfl ?_
    unfold f_Lperformed
    refine lstart.trans ((lno (s := .pile n) okSheet n8).trans ((lno (s := .pile n) okTake n7).trans (lyes (s := .pile n) okPile rfl ?_)))
    refine (sSeq_nx ((sIf_f hq).trans rfl)).trans ?_
    refine (sSeq_nx (e := [.val LL, .val N, .val (stD (.pile n)), .val (.str (kw (.pile n))), .val (.list ((x :: xs).map lD)), .un, .un, .un, .un]) (sSet_ev ((slL_post (n := m) (ds := st.map lD) (by rw [hLL]; rfl) (hsub _ rfl rfl) rfl (hml lD)).trans (by rw [mapD])))).trans ?_
    refine (sSeq_nx (e := [.val LL, .val N, .val (stD (.pile n)), .val (.str (kw (.pile n))), .val (.list ((x :: xs).map lD)), .val (lD x), .un, .un, .un]) (sSet_ev (e2_ev rfl rfl (ixG_l (j := 0) rfl rfl)))).trans ?_
    have hrg : iSeq (eSl (eVar 4) (oSome (eC (.int 1))) oNone) [.val LL, .val N, .val (stD (.pile n)), .val (.str (kw (.pile n))), .val (.list ((x :: xs).map lD)), .val (lD x), .un, .un, .un] = some (xs.map lD) := by
      unfold iSeq
      rw [slL_post (ds := (x :: xs).map lD) (n := 1) rfl rfl rfl (by simp)]
      rfl
    rcases hd with hd | ⟨z6, hd, rfl⟩
    · exact sSeq_rt (sFor_ev hrg (ho.trans hd))
    · refine (sSeq_nx (sFor_ev hrg (ho.trans hd))).trans (sRet_ev ?_)
      refine (eL_ev (fCat_ev' (a := a.map lD) (b := [lD (pileK x xs)]) ((slL_pre (n := m) (ds := st.map lD) (by rw [hLL]; rfl) (hsub _ rfl rfl) rfl (hml lD)).trans (by rw [mapT])) (eL_ev (fLst_ev (aCons_ev rfl aNil_ev) (by simp))) (by simp; omega)))
  cases q : sameB x xs with
  | false =>
    rw [q, if_neg (by simp)] at pv
    have lf := pile_fail xs x (.val LL) (.val N) (.val (stD (.pile n))) (.val (.str (kw (.pile n)))) (.val (.list ((x :: xs).map lD))) .un .un .un okx okxs q (by omega)
    exact ⟨.no difS, prog _ (prog2 _ pv), law _ lf _ (.inl rfl), trivial⟩
  | true =>
    rw [q, if_pos rfl] at pv
    obtain ⟨j1, j2, j3, _, ⟨z6, j5⟩⟩ := pileK_loops xs x N N N .un (.val LL) (.val N) (.val (stD (.pile n))) (.val (.str (kw (.pile n)))) (.val (.list ((x :: xs).map lD))) .un .un .un okx okxs q (by omega)
    refine ⟨.ok (a ++ [pileK x xs]), prog _ ((prog2 _ pv).trans ?_), (law _ j5 _ (.inr ⟨z6, rfl, rfl⟩)).trans ?_, fun y hy => ?_, ?_, ?_⟩
    · show some (Rz.ok (.list (a.map pD ++ [pD (pileK x xs)]))) = some (Rz.ok (.list ((a ++ [pileK x xs]).map pD)))
      rw [List.map_append]; rfl
    · show some (PyData.list (a.map lD ++ [lD (pileK x xs)])) = some (PyData.list ((a ++ [pileK x xs]).map lD))
      rw [List.map_append]; rfl
    · rcases List.mem_append.mp hy with hy | hy
      · exact hok y (by rw [hst]; simp [hy])
      · rw [List.mem_singleton.mp hy]; exact j1
    · rw [T_app, T_one, j2, hT]
    · rw [List.length_append, hlen2]; simp
theorem last_split (st : List Pk) (h : st ≠ []) : ∃ a x, st = a ++ [x] := ⟨st.dropLast, st.getLast h, (List.dropLast_concat_getLast h).symm⟩
theorem init_ev {env : En} {f : En → Option PyData} {ds : List PyData} {d : PyData} (h : f env = some (.list (ds ++ [d]))) : eSl f oNone (oSome (e1 negD (eC (.int 1)))) env = some (.list ds) := by
  unfold eSl
  rw [h]
  show some (PyData.list (cutL (ds ++ [d]) none (some (-1)))) = _
  rw [cutL_init, List.dropLast_concat]
theorem last_ev {env : En} {f : En → Option PyData} {ds : List PyData} {d : PyData} (h : f env = some (.list (ds ++ [d]))) : e2 ixG f (e1 negD (eC (.int 1))) env = some d :=
  e2_ev h (y := .int (-1)) rfl atI_last
def noS : Str := "no packet"
theorem sim_none (s : Stp) (hs : ¬ kw s = "sheet" ∧ ¬ kw s = "take" ∧ ¬ kw s = "pile") (N : PyData) :
    g_work [.list (([] : List Pk).map pD), stD s] = some (rzP (.no noS)) ∧ g_Lperformed [.list (([] : List Pk).map lD), N, stD s] = some (rzL (.no noS)) := by
  obtain ⟨h1, h2, h3⟩ := hs
  constructor
  · refine gDefX_ev [.val (.list []), .val (stD s)] rfl rfl ?_
    unfold f_work
    rw [xno okTake h2, xno okPile h3, xg_t (not_ev (tTr_ev (d := .list []) rfl rfl))]
    rfl
  · refine gDef_ev' [.val (.list []), .val N, .val (stD s), .un, .un, .un, .un, .un, .un] rfl rfl ?_
    unfold f_Lperformed
    exact lstart.trans ((lno okSheet h1).trans ((lno okTake h2).trans ((lno okPile h3).trans (sSeq_rt ((sIf_t (t1_ev (e2_ev (len_l (ds := []) rfl) rfl ((eqD_int _ _).trans rfl)))).trans rfl)))))
/-- what becomes of the last packet decides -/
theorem prog_last (a : List Pk) (x : Pk) (hl : a.length ≤ 100) (s : Stp) (h2 : ¬ kw s = "take") (h3 : ¬ kw s = "pile") (r : Rz) (h : g_work_packet [pD x, stD s] = some r) (ys : List PyData) (hr : ∀ d, r = .ok d → d = .list ys ∧ ys.length ≤ 2) :
    g_work [.list ((a ++ [x]).map pD), stD s] = some (match r with | .ok _ => .ok (.list (a.map pD ++ ys)) | .ex d => .ex d) := by
  obtain ⟨P, hP⟩ : ∃ P, P = PyData.list ((a ++ [x]).map pD) := ⟨_, rfl⟩
  have hP2 : P = .list (a.map pD ++ [pD x]) := by rw [hP, List.map_append]; rfl
  rw [← hP]
  refine gDefX_ev [.val P, .val (stD s)] rfl rfl ?_
  unfold f_work
  rw [xno okTake h2, xno okPile h3, xg_f (not_ev (tTr_ev (d := P) (b := true) rfl (by rw [hP2]; cases a <;> rfl)))]
  have hv : eVar 0 [.val P, .val (stD s)] = some (.list (a.map pD ++ [pD x])) := by rw [hP2]; rfl
  refine xRet_out (x2_ev (init_ev hv) (xCall_ev (aCons_ev (last_ev hv) (aCons_ev rfl aNil_ev)) h) ?_)
  cases r with
  | ok d =>
    obtain ⟨rfl, hy⟩ := hr d rfl
    show (addD _ _).map _ = _
    rw [addD_list (by simp; omega)]
    rfl
  | ex d => rfl
theorem law_last (a : List Pk) (x : Pk) (s : Stp) (hs : ¬ kw s = "sheet" ∧ ¬ kw s = "take" ∧ ¬ kw s = "pile") (N : PyData) (d : PyData)
    (h : ∀ (L : PyData), L = .list (a.map lD ++ [lD x]) → sSeq (sIf (t1 (e2 eqD (eVar 3) (eC (.str "turn")))) (sRet (eL (fCat (eSl (eVar 0) oNone (oSome (e1 negD (eC (.int 1))))) (eL (fLst (aCons (eCall g_Lturned (aCons (e2 ixG (eVar 0) (e1 negD (eC (.int 1)))) (aCons (e2 ixG (eVar 2) (eC (.int 1))) aNil))) aNil)))))) sNil) (sSeq (sIf (tNot' (tTr (eCall g_Linside (aCons (e2 ixG (eVar 0) (e1 negD (eC (.int 1)))) (aCons (e2 ixG (eVar 2) (eC (.int 1))) (aCons (e2 ixG (eVar 2) (eC (.int 2))) aNil)))))) (sRet (eC (.str "line outside the packet"))) sNil) (sSeq (sIf (t1 (e2 eqD (eVar 3) (eC (.str "cut")))) (sSeq (sUnp (eCall g_Lsplit (aCons (e2 ixG (eVar 0) (e1 negD (eC (.int 1)))) (aCons (e2 ixG (eVar 2) (eC (.int 1))) (aCons (e2 ixG (eVar 2) (eC (.int 2))) aNil)))) (gT [7, 8])) (sRet (eL (fCat (eSl (eVar 0) oNone (oSome (e1 negD (eC (.int 1))))) (eL (fLst (aCons (eVar 7) (aCons (eVar 8) aNil)))))))) sNil) (sRet (eL (fCat (eSl (eVar 0) oNone (oSome (e1 negD (eC (.int 1))))) (eL (fLst (aCons (eCall g_Lmoved (aCons (e2 ixG (eVar 0) (e1 negD (eC (.int 1)))) (aCons (eVar 2) aNil))) aNil)))))))) (LE L N (stD s) (.str (kw s))) = .rt d) :
    g_Lperformed [.list ((a ++ [x]).map lD), N, stD s] = some d := by
  obtain ⟨h1, h2, h3⟩ := hs
  obtain ⟨L, hL⟩ : ∃ P, P = PyData.list ((a ++ [x]).map lD) := ⟨_, rfl⟩
  have hL2 : L = .list (a.map lD ++ [lD x]) := by rw [hL, List.map_append]; rfl
  rw [← hL]
  refine gDef_ev' [.val L, .val N, .val (stD s), .un, .un, .un, .un, .un, .un] rfl rfl ?_
  unfold f_Lperformed
  have hz : t1 (e2 eqD (eCall lenA (aCons (eVar 0) aNil)) (eC (.int 0))) (LE L N (stD s) (.str (kw s))) = some false := by
    refine t1_ev (e2_ev (len_l (ds := a.map lD ++ [lD x]) (by rw [hL2]; rfl)) rfl ((eqD_int _ _).trans ?_))
    rw [decide_eq_false (by simp; omega)]
  exact lstart.trans ((lno okSheet h1).trans ((lno okTake h2).trans ((lno okPile h3).trans ((sSeq_nx ((sIf_f hz).trans rfl)).trans (h L hL2)))))
theorem RsOk_one {a : List Pk} {x y : Pk} (ha : ∀ z ∈ a, PkOk z) (hy : PkOk y) (ht : tot y.p = tot x.p) : RsOk (T (a ++ [x])) ((a ++ [x]).length + 1) (.ok (a ++ [y])) := by
  refine ⟨fun z hz => ?_, by rw [T_app, T_app, T_one, T_one, ht], by simp⟩
  rcases List.mem_append.mp hz with hz | hz
  · exact ha z hz
  · rw [List.mem_singleton.mp hz]; exact hy
theorem sim_turn (a : List Pk) (x : Pk) (ha : ∀ z ∈ a, PkOk z) (hx : PkOk x) (ht : tot x.p ≤ 64) (hl : a.length ≤ 100) (ax : Str) (hax : is3 ax) (N : PyData) :
    ∃ r, g_work [.list ((a ++ [x]).map pD), stD (.turn ax)] = some (rzP r) ∧ g_Lperformed [.list ((a ++ [x]).map lD), N, stD (.turn ax)] = some (rzL r) ∧ RsOk (T (a ++ [x])) ((a ++ [x]).length + 1) r := by
  obtain ⟨n1, n2, n3, n4, n5, n6, n7, n8, n9, n10, n11⟩ := wne
  have r2 := hx.r2
  have c2 := hx.c2
  obtain ⟨k1, k2⟩ := lturned_ev hax hx.own (by omega) (by omega) (by omega) hx.el (x.R : Nat) (x.C : Nat) rfl rfl
  obtain ⟨y, hy⟩ : ∃ y : Pk, y = ⟨tP ax x.p, x.R, x.C, x.es.map (trE ax x.R x.C)⟩ := ⟨_, rfl⟩
  have oky : PkOk y := by rw [hy]; exact ⟨k2, hx.r1, hx.c1, r2, c2, by show (x.es.map _).length ≤ _; rw [List.length_map]; exact hx.el⟩
  have kp : g_turn [pD x, .str ax] = some (pD y) := by rw [hy]; exact turn_ev hax x.p (pk_sm hx ht)
  have kl : g_Lturned [lD x, .str ax] = some (lD y) := by rw [hy]; exact k1
  refine ⟨.ok (a ++ [y]), (prog_last a x hl (.turn ax) n2 n3 (.ok (.list [pD y])) ?_ [pD y] (fun d hd => ⟨by cases hd; rfl, by simp⟩)).trans ?_, law_last a x (.turn ax) ⟨n10, n2, n3⟩ N _ fun L hL => ?_, RsOk_one ha oky (by rw [hy]; exact tot_tP _ _)⟩
  · refine gDefX_ev [.val (pD x), .val (stD (.turn ax)), .un, .un, .un, .un] rfl rfl ?_
    unfold f_work_packet
    have ht : t1 (e2 eqD (e2 ixG (eVar 1) (eC (.int 0))) (eC (.str "turn"))) [.val (pD x), .val (stD (.turn ax)), .un, .un, .un, .un] = some true := (kEq (.turn ax) "turn" okTurn rfl).trans (by rw [show kw (.turn ax) = "turn" from rfl, decide_eq_true rfl])
    rw [xSeq_rt (d := .list [pD y]) ((xIf_t ht).trans (by
      show upO _ = _
      rw [sRet_ev (eL_ev (fLst_ev (aCons_ev (eCall_ev (aCons_ev rfl (aCons_ev (e2_ev (d := .str ax) rfl rfl rfl) aNil_ev)) kp) aNil_ev) (by simp)))]
      rfl))]
    rfl
  · show some (Rz.ok (.list (a.map pD ++ [pD y]))) = some (Rz.ok (.list ((a ++ [y]).map pD)))
    rw [List.map_append]; rfl
  · have hv : eVar 0 (LE L N (stD (.turn ax)) (.str (kw (.turn ax)))) = some (.list (a.map lD ++ [lD x])) := by rw [hL]; rfl
    refine lyes (s := .turn ax) okTurn rfl (sRet_ev ((eL_ev (fCat_ev' (init_ev hv) (eL_ev (fLst_ev (aCons_ev (eCall_ev (aCons_ev (last_ev hv) (aCons_ev (e2_ev (d := .str ax) rfl rfl rfl) aNil_ev)) kl) aNil_ev) (by simp))) (by simp; omega))).trans ?_))
    show some (PyData.list (a.map lD ++ [lD y])) = some (PyData.list ((a ++ [y]).map lD))
    rw [List.map_append]; rfl
theorem outS_eq : outS = .str "line outside the packet" := rfl
theorem lin_ev (x : Pk) (e : Str) (he : is4 e) (k : Nat) : g_Linside [lD x, .str e, .int (k : Nat)] = some (.bool (decide (k < if isH e then x.C else x.R))) := linside_ev _ _ _ _ x.R x.C k rfl rfl rfl e he
def cutK (e : Str) (k : Nat) (x : Pk) : Pk × Pk := (⟨(cutS e k x.p).1, (regs e k x.R x.C).1.r, (regs e k x.R x.C).1.c, grid (regs e k x.R x.C).1.r (regs e k x.R x.C).1.c (rgF x.p (regs e k x.R x.C).1)⟩, ⟨(cutS e k x.p).2, (regs e k x.R x.C).2.r, (regs e k x.R x.C).2.c, grid (regs e k x.R x.C).2.r (regs e k x.R x.C).2.c (rgF x.p (regs e k x.R x.C).2)⟩)
theorem grid_len (r c : Nat) (f : Nat → Nat → Mk) : (grid r c f).length = r * c := gridN_len _ _ _
theorem cutK_ok {x : Pk} (hx : PkOk x) {e : Str} (he : is4 e) {k : Nat} (hk : 1 ≤ k) (h : k < if isH e then x.C else x.R) : PkOk (cutK e k x).1 ∧ PkOk (cutK e k x).2 ∧ tot (cutK e k x).1.p + tot (cutK e k x).2.p = tot x.p := by
  have r2 := hx.r2
  have c2 := hx.c2
  obtain ⟨s1, s2⟩ := cutS_sub hx.own.rc hx.r1 he h
  obtain ⟨⟨a1, a2, a3, a4⟩, ⟨b1, b2, b3, b4⟩, _⟩ := regs_ok he hk hx.r1 hx.c1 h
  have htc := tot_cut hx.own.rc hx.r1 he h
  refine ⟨⟨reg_own s1, a3, a4, ?_, ?_, ?_⟩, ⟨reg_own s2, b3, b4, ?_, ?_, ?_⟩, htc⟩
  · show (regs e k x.R x.C).1.r ≤ 64; omega
  · show (regs e k x.R x.C).1.c ≤ 64; omega
  · show (grid _ _ _).length ≤ 10000
    rw [grid_len]
    have := Nat.mul_le_mul (show (regs e k x.R x.C).1.r ≤ 64 by omega) (show (regs e k x.R x.C).1.c ≤ 64 by omega)
    omega
  · show (regs e k x.R x.C).2.r ≤ 64; omega
  · show (regs e k x.R x.C).2.c ≤ 64; omega
  · show (grid _ _ _).length ≤ 10000
    rw [grid_len]
    have := Nat.mul_le_mul (show (regs e k x.R x.C).2.r ≤ 64 by omega) (show (regs e k x.R x.C).2.c ≤ 64 by omega)
    omega
theorem sim_cut (a : List Pk) (x : Pk) (ha : ∀ z ∈ a, PkOk z) (hx : PkOk x) (ht : tot x.p ≤ 64) (hl : a.length ≤ 100) (e : Str) (he : is4 e) (k : Nat) (hk : 1 ≤ k) (N : PyData) :
    ∃ r, g_work [.list ((a ++ [x]).map pD), stD (.cut e k)] = some (rzP r) ∧ g_Lperformed [.list ((a ++ [x]).map lD), N, stD (.cut e k)] = some (rzL r) ∧ RsOk (T (a ++ [x])) ((a ++ [x]).length + 1) r := by
  obtain ⟨n1, n2, n3, n4, n5, n6, n7, n8, n9, n10, n11⟩ := wne
  have r2 := hx.r2
  have c2 := hx.c2
  have hli := lin_ev x e he k
  have hpc := pcut_ev x.p x.R x.C hx.own.rc hx.r1 (by omega) e he (k : Nat) k rfl
  have htn : t1 (e2 eqD (e2 ixG (eVar 1) (eC (.int 0))) (eC (.str "turn"))) [.val (pD x), .val (stD (.cut e k)), .un, .un, .un, .un] = some false := (kEq (.cut e k) "turn" okTurn rfl).trans (by rw [show kw (.cut e k) = "cut" from rfl, decide_eq_false n6])
  have htc : t1 (e2 eqD (e2 ixG (eVar 1) (eC (.int 0))) (eC (.str "cut"))) [.val (pD x), .val (stD (.cut e k)), .un, .un, .un, .un] = some true := (kEq (.cut e k) "cut" okCut rfl).trans (by rw [show kw (.cut e k) = "cut" from rfl, decide_eq_true rfl])
  have wp : ∀ r r', g_cut [pD x, .str e, .int (k : Nat)] = some r → (∀ env, xCall g_cut (xaOk (aCons (eVar 0) (aCons (e2 ixG (eVar 1) (eC (.int 1))) (aCons (e2 ixG (eVar 1) (eC (.int 2))) aNil)))) env = some r → xList (xCall g_cut (xaOk (aCons (eVar 0) (aCons (e2 ixG (eVar 1) (eC (.int 1))) (aCons (e2 ixG (eVar 1) (eC (.int 2))) aNil))))) env = some r') → g_work_packet [pD x, stD (.cut e k)] = some r' := fun r r' h h2 => by
    refine gDefX_ev [.val (pD x), .val (stD (.cut e k)), .un, .un, .un, .un] rfl rfl ?_
    unfold f_work_packet
    rw [xg_f htn]
    exact xRetIf htc (h2 _ (xCall_ev (aCons_ev rfl (aCons_ev (e2_ev (d := .str e) rfl rfl rfl) (aCons_ev (e2_ev (d := .int (k : Nat)) rfl rfl rfl) aNil_ev))) h))
  have hin : ∀ (L : PyData), L = .list (a.map lD ++ [lD x]) → (tNot' (tTr (eCall g_Linside (aCons (e2 ixG (eVar 0) (e1 negD (eC (.int 1)))) (aCons (e2 ixG (eVar 2) (eC (.int 1))) (aCons (e2 ixG (eVar 2) (eC (.int 2))) aNil)))))) (LE L N (stD (.cut e k)) (.str (kw (.cut e k)))) = some (!decide (k < if isH e then x.C else x.R)) := fun L hL => by
    have hv : eVar 0 (LE L N (stD (.cut e k)) (.str (kw (.cut e k)))) = some (.list (a.map lD ++ [lD x])) := by rw [hL]; rfl
    exact not_ev (tTr_ev (eCall_ev (aCons_ev (last_ev hv) (aCons_ev (e2_ev (d := .str e) rfl rfl rfl) (aCons_ev (e2_ev (d := .int (k : Nat)) rfl rfl rfl) aNil_ev))) hli) rfl)
  by_cases h : k < if isH e then x.C else x.R
  · rw [if_pos h] at hpc
    obtain ⟨k1, k2, k3⟩ := cutK_ok hx he hk h
    refine ⟨.ok (a ++ [(cutK e k x).1, (cutK e k x).2]), (prog_last a x hl (.cut e k) n4 n5 (.ok (.list [pD (cutK e k x).1, pD (cutK e k x).2])) (wp _ _ hpc fun env hh => by unfold xList; rw [hh]; rfl) [pD (cutK e k x).1, pD (cutK e k x).2] (fun d hd => ⟨by cases hd; rfl, by simp⟩)).trans ?_, law_last a x (.cut e k) ⟨n11, n4, n5⟩ N _ fun L hL => ?_, ?_⟩
    · show some (Rz.ok (.list (a.map pD ++ [pD (cutK e k x).1, pD (cutK e k x).2]))) = some (Rz.ok (.list ((a ++ [(cutK e k x).1, (cutK e k x).2]).map pD)))
      rw [List.map_append]; rfl
    · have hv : ∀ (y7 y8 : Sl), eVar 0 [.val L, .val N, .val (stD (.cut e k)), .val (.str (kw (.cut e k))), .un, .un, .un, y7, y8] = some (.list (a.map lD ++ [lD x])) := fun y7 y8 => by rw [hL]; rfl
      have hi := hin L hL
      rw [decide_eq_true h] at hi
      have ls := lsplit_ev hx.own (by omega) (by omega) hx.r1 hx.c1 he (k : Nat) (x.R : Nat) (x.C : Nat) rfl rfl rfl hk h
      refine (lno (s := .cut e k) okTurn n6).trans ((sSeq_nx ((sIf_f hi).trans rfl)).trans (lyes (s := .cut e k) okCut rfl ?_))
      refine (sSeq_nx (e := [.val L, .val N, .val (stD (.cut e k)), .val (.str (kw (.cut e k))), .un, .un, .un, .val (lD (cutK e k x).1), .val (lD (cutK e k x).2)]) (sUnp_ev (d := .tuple [lD (cutK e k x).1, lD (cutK e k x).2]) (eCall_ev (aCons_ev (last_ev (hv _ _)) (aCons_ev (e2_ev (d := .str e) rfl rfl rfl) (aCons_ev (e2_ev (d := .int (k : Nat)) rfl rfl rfl) aNil_ev))) ls) rfl)).trans (sRet_ev ((eL_ev (fCat_ev' (init_ev (hv _ _)) (eL_ev (fLst_ev (aCons_ev rfl (aCons_ev rfl aNil_ev)) (by simp))) (by simp; omega))).trans ?_))
      show some (PyData.list (a.map lD ++ [lD (cutK e k x).1, lD (cutK e k x).2])) = some (PyData.list ((a ++ [(cutK e k x).1, (cutK e k x).2]).map lD))
      rw [List.map_append]; rfl
    · refine ⟨fun z hz => ?_, ?_, by simp⟩
      · rcases List.mem_append.mp hz with hz | hz
        · exact ha z hz
        · rcases List.mem_cons.mp hz with rfl | hz
          · exact k1
          · rw [List.mem_singleton.mp hz]; exact k2
      · rw [T_app, T_app, T_one, T_cons, T_one, k3]
  · rw [if_neg h] at hpc
    refine ⟨.no "line outside the packet", (prog_last a x hl (.cut e k) n4 n5 (.ex outS) (wp _ _ hpc fun env hh => by unfold xList; rw [hh]; rfl) [] (fun d hd => by cases hd)).trans rfl, law_last a x (.cut e k) ⟨n11, n4, n5⟩ N _ fun L hL => ?_, trivial⟩
    have hi := hin L hL
    rw [decide_eq_false h] at hi
    exact (lno (s := .cut e k) okTurn n6).trans (sSeq_rt ((sIf_t hi).trans rfl))
theorem tot_mv {p : Side} {R C : Nat} (hp : isRC p R C) (hR : 1 ≤ R) {e : Str} (he : is4 e) {k : Nat} (h : k < if isH e then C else R) (fo : Bool) (w : Str) : tot (mvP fo e k w p) = tot p := by
  have := tot_cut hp hR he h
  unfold mvP
  rw [tot_lyAt]
  cases fo with
  | true =>
    show tot (tP _ _) + _ = _
    rw [tot_tP]; omega
  | false =>
    show tot (cutS e k p).2 + _ = _
    omega
theorem sim_mv (a : List Pk) (x : Pk) (ha : ∀ z ∈ a, PkOk z) (hx : PkOk x) (ht : tot x.p ≤ 64) (hl : a.length ≤ 100) (fo : Bool) (e : Str) (he : is4 e) (k : Nat) (hk : 1 ≤ k) (w : Str) (hw : is2 w) (N : PyData) :
    ∃ r, g_work [.list ((a ++ [x]).map pD), stD (.mv fo e k w)] = some (rzP r) ∧ g_Lperformed [.list ((a ++ [x]).map lD), N, stD (.mv fo e k w)] = some (rzL r) ∧ RsOk (T (a ++ [x])) ((a ++ [x]).length + 1) r := by
  obtain ⟨(n1 : ¬ kw (.mv fo e k w) = "sheet"), (n2 : ¬ kw (.mv fo e k w) = "take"), (n3 : ¬ kw (.mv fo e k w) = "pile"), (n4 : ¬ kw (.mv fo e k w) = "turn"), (n5 : ¬ kw (.mv fo e k w) = "cut")⟩ := wne2 fo
  have r2 := hx.r2
  have c2 := hx.c2
  obtain ⟨K, hK⟩ : ∃ K : Str, K = (if fo then ("fold" : Str) else ("stack" : Str)) := ⟨_, rfl⟩
  have hkw : kw (.mv fo e k w) = K := by rw [hK]; rfl
  have hli := lin_ev x e he k
  have hsd : stD (.mv fo e k w) = .tuple [.str K, .str e, .int (k : Nat), .str w] := by rw [hK]; rfl
  have htn : t1 (e2 eqD (e2 ixG (eVar 1) (eC (.int 0))) (eC (.str "turn"))) [.val (pD x), .val (stD (.mv fo e k w)), .un, .un, .un, .un] = some false := (kEq (.mv fo e k w) "turn" okTurn rfl).trans (by rw [decide_eq_false n4])
  have htc : t1 (e2 eqD (e2 ixG (eVar 1) (eC (.int 0))) (eC (.str "cut"))) [.val (pD x), .val (stD (.mv fo e k w)), .un, .un, .un, .un] = some false := (kEq (.mv fo e k w) "cut" okCut rfl).trans (by rw [decide_eq_false n5])
  have hfo : fo = true ↔ K = "fold" := by
    rw [hK]
    cases fo
    · simp; decide +kernel
    · simp
  have wp : ∀ r, (if fo then g_fold [pD x, .str e, .int (k : Nat), .str w] else g_stack [pD x, .str e, .int (k : Nat), .str w]) = some r → g_work_packet [pD x, stD (.mv fo e k w)] = some (rzLst r) := fun r h => by
    refine gDefX_ev [.val (pD x), .val (stD (.mv fo e k w)), .un, .un, .un, .un] rfl rfl ?_
    unfold f_work_packet
    rw [xg_f htn, xg_f htc, xUp (e := [.val (pD x), .val (stD (.mv fo e k w)), .val (.str K), .val (.str e), .val (.int (k : Nat)), .val (.str w)]) (by rw [hsd]; exact sUnp_ev rfl rfl)]
    have hf : t1 (e2 eqD (eVar 2) (eC (.str "fold"))) [.val (pD x), .val (stD (.mv fo e k w)), .val (.str K), .val (.str e), .val (.int (k : Nat)), .val (.str w)] = some fo := by
      refine (t1_ev (e2_ev rfl rfl (eqD_str (by rw [← hkw]; exact kw_ok _) okFold))).trans ?_
      cases fo
      · rw [decide_eq_false (fun z => by have := hfo.mpr z; cases this)]
      · rw [decide_eq_true (hfo.mp rfl)]
    cases fo with
    | true => exact xRetIf hf (xLst_ev (xCall_ev (aCons_ev rfl (aCons_ev rfl (aCons_ev rfl (aCons_ev rfl aNil_ev)))) h))
    | false =>
      rw [xg_f hf]
      exact xRet_out (xLst_ev (xCall_ev (aCons_ev rfl (aCons_ev rfl (aCons_ev rfl (aCons_ev rfl aNil_ev)))) h))
  have hmv : (if fo then g_fold [pD x, .str e, .int (k : Nat), .str w] else g_stack [pD x, .str e, .int (k : Nat), .str w]) = some (if k < (if isH e then x.C else x.R) then .ok (sideD (mvP fo e k w x.p)) else .ex outS) := by
    cases fo with
    | true => exact fold_ev x.p x.R x.C hx.own.rc hx.r1 hx.c1 r2 c2 (by omega) e w he hw (k : Nat) k rfl hk
    | false => exact stack_ev x.p x.R x.C hx.own.rc hx.r1 hx.c1 r2 c2 (by omega) e w he hw (k : Nat) k rfl hk
  have hin : ∀ (L : PyData), L = .list (a.map lD ++ [lD x]) → (tNot' (tTr (eCall g_Linside (aCons (e2 ixG (eVar 0) (e1 negD (eC (.int 1)))) (aCons (e2 ixG (eVar 2) (eC (.int 1))) (aCons (e2 ixG (eVar 2) (eC (.int 2))) aNil)))))) (LE L N (stD (.mv fo e k w)) (.str (kw (.mv fo e k w)))) = some (!decide (k < if isH e then x.C else x.R)) := fun L hL => by
    have hv : eVar 0 (LE L N (stD (.mv fo e k w)) (.str (kw (.mv fo e k w)))) = some (.list (a.map lD ++ [lD x])) := by rw [hL]; rfl
    exact not_ev (tTr_ev (eCall_ev (aCons_ev (last_ev hv) (aCons_ev (e2_ev (d := .str e) rfl rfl rfl) (aCons_ev (e2_ev (d := .int (k : Nat)) rfl rfl rfl) aNil_ev))) hli) rfl)
  by_cases h : k < if isH e then x.C else x.R
  · rw [if_pos h] at hmv
    obtain ⟨es', R', C', m1, m2, m3, m4, m5, m6, m7⟩ := lmoved_ev hx.own (by omega) (by omega) (by omega) hx.r1 hx.c1 he hw fo (k : Nat) (x.R : Nat) (x.C : Nat) rfl rfl rfl hk h
    obtain ⟨y, hy⟩ : ∃ y : Pk, y = ⟨mvP fo e k w x.p, R', C', es'⟩ := ⟨_, rfl⟩
    have oky : PkOk y := by rw [hy]; exact ⟨m2, m4, m6, by show R' ≤ 64; omega, by show C' ≤ 64; omega, m3⟩
    have hpy : sideD (mvP fo e k w x.p) = pD y := by rw [hy]; rfl
    rw [hpy] at hmv
    have kl : g_Lmoved [lD x, stD (.mv fo e k w)] = some (lD y) := by rw [hy]; exact m1
    refine ⟨.ok (a ++ [y]), (prog_last a x hl (.mv fo e k w) n2 n3 (.ok (.list [pD y])) (wp _ hmv) [pD y] (fun d hd => ⟨by cases hd; rfl, by simp⟩)).trans ?_, law_last a x (.mv fo e k w) ⟨n1, n2, n3⟩ N _ fun L hL => ?_, RsOk_one ha oky ?_⟩
    · show some (Rz.ok (.list (a.map pD ++ [pD y]))) = some (Rz.ok (.list ((a ++ [y]).map pD)))
      rw [List.map_append]; rfl
    · have hv : eVar 0 (LE L N (stD (.mv fo e k w)) (.str (kw (.mv fo e k w)))) = some (.list (a.map lD ++ [lD x])) := by rw [hL]; rfl
      have hi := hin L hL
      rw [decide_eq_true h] at hi
      refine (lno (s := .mv fo e k w) okTurn n4).trans ((sSeq_nx ((sIf_f hi).trans rfl)).trans ((lno (s := .mv fo e k w) okCut n5).trans (sRet_ev ((eL_ev (fCat_ev' (init_ev hv) (eL_ev (fLst_ev (aCons_ev (eCall_ev (aCons_ev (last_ev hv) (aCons_ev rfl aNil_ev)) kl) aNil_ev) (by simp))) (by simp; omega))).trans ?_))))
      show some (PyData.list (a.map lD ++ [lD y])) = some (PyData.list ((a ++ [y]).map lD))
      rw [List.map_append]; rfl
    · rw [hy]; exact tot_mv hx.own.rc hx.r1 he h fo w
  · rw [if_neg h] at hmv
    refine ⟨.no "line outside the packet", (prog_last a x hl (.mv fo e k w) n2 n3 (.ex outS) (wp _ hmv) [] (fun d hd => by cases hd)).trans rfl, law_last a x (.mv fo e k w) ⟨n1, n2, n3⟩ N _ fun L hL => ?_, trivial⟩
    have hi := hin L hL
    rw [decide_eq_false h] at hi
    exact (lno (s := .mv fo e k w) okTurn n4).trans (sSeq_rt ((sIf_t hi).trans rfl))
theorem sum_const (k : Nat) : ∀ n : Nat, ((List.range n).map fun _ => k).sum = n * k
  | 0 => by simp
  | n + 1 => by rw [List.range_succ, List.map_append, List.sum_append, sum_const k n, Nat.succ_mul]; simp
theorem tot_one (R C : Nat) (f : Nat → Nat → Mk) (h : ∀ i j, (f i j).length = 1) : tot (tab R C f) = R * C := by
  unfold tot tab
  rw [List.map_map]
  have e : (rt ∘ fun i => (List.range C).map fun j => f i j) = fun _ => C := by
    funext i
    show rt ((List.range C).map fun j => f i j) = C
    unfold rt
    rw [List.map_map, show (List.length ∘ fun j => f i j) = fun _ => 1 from by funext j; exact h i j, sum_const, Nat.mul_one]
  rw [e, sum_const]
/-! ### all steps of a plan -/
def sheetF (n : Int) : Nat → Nat → Mk := fun i j => [(n, ((i : Nat) : Int), ((j : Nat) : Int), false, false)]
def sheetK (n : Int) (r c : Nat) : Pk := ⟨tab r c (sheetF n), r, c, grid r c (sheetF n)⟩
theorem sheetK_ok (n : Int) (r c : Nat) (h : 1 ≤ r ∧ r ≤ 8 ∧ 1 ≤ c ∧ c ≤ 8) : PkOk (sheetK n r c) ∧ tot (sheetK n r c).p = r * c ∧ g_sheet_packet [.int n, .int (r : Nat), .int (c : Nat)] = some (pD (sheetK n r c)) ∧ g_Lsheet [.int n, .int (r : Nat), .int (c : Nat)] = some (lD (sheetK n r c)) := by
  refine ⟨⟨grid_own (tab_rc _ _ _) fun i j hi hj => (tab_ce hi hj).symm, h.1, h.2.2.1, by show r ≤ 64; omega, by show c ≤ 64; omega, ?_⟩, tot_one r c _ fun i j => rfl, sheetp_ev n r c (by omega) (by omega) _ _ rfl rfl, lsheet_ev n r c (by omega) h.2.2.1 (by omega)⟩
  show (grid _ _ _).length ≤ 10000
  rw [grid_len]
  have := Nat.mul_le_mul (show r ≤ 8 by omega) (show c ≤ 8 by omega)
  omega
def isSh : Stp → Bool
  | .sheet _ _ => true
  | _ => false
theorem kw_sheet (s : Stp) : decide (kw s = "sheet") = isSh s := by
  obtain ⟨n1, n2, n3, n4, n5, n6, n7, n8, n9, n10, n11⟩ := wne
  cases s with
  | sheet r c => exact decide_eq_true rfl
  | take k => exact decide_eq_false n9
  | pile n => exact decide_eq_false n8
  | turn x => exact decide_eq_false n10
  | cut e k => exact decide_eq_false n11
  | mv fo e k w => exact decide_eq_false (wne2 fo).1
theorem step_sim (st : List Pk) (hok : ∀ x ∈ st, PkOk x) (ht : T st ≤ 64) (hl : st.length ≤ 100) (s : Stp) (hs : StpOk s) (hns : isSh s = false) (N : PyData) :
    ∃ r, g_work [.list (st.map pD), stD s] = some (rzP r) ∧ g_Lperformed [.list (st.map lD), N, stD s] = some (rzL r) ∧ RsOk (T st) (st.length + 1) r := by
  obtain ⟨n1, n2, n3, n4, n5, n6, n7, n8, n9, n10, n11⟩ := wne
  have split : st ≠ [] → ∃ a x, st = a ++ [x] ∧ (∀ z ∈ a, PkOk z) ∧ PkOk x ∧ tot x.p ≤ 64 ∧ a.length ≤ 100 := fun h => by
    obtain ⟨a, x, rfl⟩ := last_split st h
    refine ⟨a, x, rfl, fun z hz => hok z (List.mem_append_left _ hz), hok x (by simp), ?_, ?_⟩
    · rw [T_app, T_one] at ht; omega
    · rw [List.length_append] at hl; omega
  cases s with
  | sheet r c => cases hns
  | take k => exact sim_take st hok hl k N
  | pile n => exact sim_pile st hok ht hl n hs N
  | turn ax =>
    by_cases h : st = []
    · subst h
      obtain ⟨h1, h2⟩ := sim_none (.turn ax) ⟨n10, n2, n3⟩ N
      exact ⟨_, h1, h2, trivial⟩
    · obtain ⟨a, x, rfl, h1, h2, h3, h4⟩ := split h
      exact sim_turn a x h1 h2 h3 h4 ax hs N
  | cut e k =>
    by_cases h : st = []
    · subst h
      obtain ⟨h1, h2⟩ := sim_none (.cut e k) ⟨n11, n4, n5⟩ N
      exact ⟨_, h1, h2, trivial⟩
    · obtain ⟨a, x, rfl, h1, h2, h3, h4⟩ := split h
      exact sim_cut a x h1 h2 h3 h4 e hs.1 k hs.2 N
  | mv fo e k w =>
    by_cases h : st = []
    · subst h
      obtain ⟨m1, m2, m3, m4, m5⟩ := wne2 fo
      obtain ⟨h1, h2⟩ := sim_none (.mv fo e k w) ⟨m1, m2, m3⟩ N
      exact ⟨_, h1, h2, trivial⟩
    · obtain ⟨a, x, rfl, h1, h2, h3, h4⟩ := split h
      exact sim_mv a x h1 h2 h3 h4 fo e hs.1 k hs.2.2 w hs.2.1 N
def pan : Stp → Nat
  | .sheet r c => r * c
  | _ => 0
def panels (pl : List Stp) : Nat := (pl.map pan).sum
def RunOk : Rs → Prop
  | .ok qs => (∀ x ∈ qs, PkOk x) ∧ T qs ≤ 64 ∧ qs.length ≤ 90
  | .no _ => True
def outP (A : PyData) (y : Rs) (o : OutX) : Prop := match y with
  | .ok qs => ∃ n y3, o = .nx [.val A, .val (.list (qs.map pD)), .val (.int n), y3]
  | .no m => ∃ e, o = .rs e (.str m)
def outL (A : PyData) (y : Rs) (o : Out) : Prop := match y with
  | .ok qs => ∃ n y3, o = .nx [.val A, .val (.list (qs.map lD)), .val (.int n), y3]
  | .no m => o = .rt (.str m)
theorem loopX_cons {g : PyData → En → Option En} {b : En → OutX} {d : PyData} {ds : List PyData} {e e1 e2 : En} (h1 : g d e = some e1) (h2 : b e1 = .nx e2) : loopX g b (d :: ds) e = loopX g b ds e2 := by
  simp only [loopX, h1, h2]
theorem loopX_rs {g : PyData → En → Option En} {b : En → OutX} {d v : PyData} {ds : List PyData} {e e1 e2 : En} (h1 : g d e = some e1) (h2 : b e1 = .rs e2 v) : loopX g b (d :: ds) e = .rs e2 v := by
  simp only [loopX, h1, h2]
theorem loop_rt {g : PyData → En → Option En} {b : En → Out} {d v : PyData} {ds : List PyData} {e e1 : En} (h1 : g d e = some e1) (h2 : b e1 = .rt v) : loopF g b (d :: ds) e = .rt v := by
  simp only [loopF, h1, h2]
theorem strOf (d : PyData) (b : Bool) (h : eIsi "str" (fun _ => some d) [] = some (.bool b)) (i : Nat) (env : En) (hv : eVar i env = some d) : t1 (eIsi "str" (eVar i)) env = some b := by
  refine t1_ev ?_
  unfold eIsi at h ⊢
  rw [hv]
  exact h
/-- the rest of the law's step, once it is known -/
theorem lc_body {A : PyData} {st : List Pk} {n : Int} {y3 : Sl} {s : Stp} {r : Rs} (h : g_Lperformed [.list (st.map lD), .int n, stD s] = some (rzL r)) :
    match r with
    | .ok qs => b_Lcarried_1 [.val A, .val (.list (st.map lD)), .val (.int n), .val (stD s)] = .nx [.val A, .val (.list (qs.map lD)), .val (.int (n + if isSh s then 1 else 0)), .val (stD s)]
    | .no m => b_Lcarried_1 [.val A, .val (.list (st.map lD)), .val (.int n), .val (stD s)] = .rt (.str m) := by
  have s1 : sSet 1 (eCall g_Lperformed (aCons (eVar 1) (aCons (eVar 2) (aCons (eVar 3) aNil)))) [.val A, .val (.list (st.map lD)), .val (.int n), .val (stD s)] = .nx [.val A, .val (rzL r), .val (.int n), .val (stD s)] := sSet_ev (eCall_ev (aCons_ev rfl (aCons_ev rfl (aCons_ev rfl aNil_ev))) h)
  cases r with
  | ok qs =>
    refine (sSeq_nx s1).trans ((sSeq_nx ((sIf_f (strOf (.list (qs.map lD)) false rfl 1 _ rfl)).trans rfl)).trans (sSet_ev (e2_ev rfl (eCall_ev (aCons_ev (x := .bool (decide (kw s = "sheet"))) (e2_ev (e2_ev (d := .str (kw s)) rfl rfl (by cases s <;> rfl)) rfl (eqD_str (kw_ok s) okSheet)) aNil_ev) (show intA _ = some (.int (if decide (kw s = "sheet") then 1 else 0)) from rfl)) ((addD_int _ _).trans ?_))))
    rw [kw_sheet]
  | no m => exact (sSeq_nx s1).trans (sSeq_rt ((sIf_t (strOf (.str m) true rfl 1 _ rfl)).trans (sRet_ev rfl)))
theorem run_sim (A B : PyData) : ∀ (pl : List Stp) (st : List Pk) (n : Int) (y3 z3 : Sl), (∀ s ∈ pl, StpOk s) → (∀ x ∈ st, PkOk x) → T st + panels pl ≤ 64 → st.length + pl.length ≤ 90 →
    ∃ r, RunOk r ∧ outP A r (loopX (gVal 3) b_carry_out_1 (pl.map stD) [.val A, .val (.list (st.map pD)), .val (.int n), y3]) ∧ outL B r (loopF (gVal 3) b_Lcarried_1 (pl.map stD) [.val B, .val (.list (st.map lD)), .val (.int n), z3])
  | [], st, n, y3, z3, _, hok, ht, hl => ⟨.ok st, ⟨hok, by unfold panels at ht; simp at ht; omega, by simp at hl; omega⟩, ⟨n, y3, rfl⟩, ⟨n, z3, rfl⟩⟩
  | s :: pl, st, n, y3, z3, hs, hok, ht, hl => by
    have hp : panels (s :: pl) = pan s + panels pl := by unfold panels; rw [List.map_cons, List.sum_cons]
    rw [hp] at ht
    rw [List.length_cons] at hl
    have hs1 := hs s List.mem_cons_self
    have hs2 := fun z hz => hs z (List.mem_cons_of_mem s hz)
    have hkq : t1 (e2 eqD (e2 ixG (eVar 3) (eC (.int 0))) (eC (.str "sheet"))) [.val A, .val (.list (st.map pD)), .val (.int n), .val (stD s)] = some (isSh s) := (kEq s "sheet" okSheet rfl).trans (by rw [kw_sheet])
    rw [List.map_cons]
    cases q : isSh s with
    | true =>
      obtain ⟨r, c, rfl⟩ : ∃ r c, s = .sheet r c := by cases s <;> first | exact ⟨_, _, rfl⟩ | cases q
      obtain ⟨k1, k2, k3, k4⟩ := sheetK_ok n r c hs1
      rw [q] at hkq
      have bp : b_carry_out_1 [.val A, .val (.list (st.map pD)), .val (.int n), .val (stD (.sheet r c))] = .nx [.val A, .val (.list ((st ++ [sheetK n r c]).map pD)), .val (.int (n + 1)), .val (stD (.sheet r c))] := by
        refine (xIf_t hkq).trans ?_
        rw [List.map_append]
        rw [xUp (e := [.val A, .val (.list (st.map pD ++ [sheetK n r c].map pD)), .val (.int n), .val (stD (.sheet r c))]) (sSet_ev (eL_ev (fCat_ev' rfl (eL_ev (fLst_ev (aCons_ev (eCall_ev (aCons_ev rfl (aCons_ev (e2_ev (d := .int (r : Nat)) rfl rfl rfl) (aCons_ev (e2_ev (d := .int (c : Nat)) rfl rfl rfl) aNil_ev))) k3) aNil_ev) (by simp))) (by simp; omega))))]
        rfl
      have lp : g_Lperformed [.list (st.map lD), .int n, stD (.sheet r c)] = some (rzL (.ok (st ++ [sheetK n r c]))) := by
        refine gDef_ev' [.val (.list (st.map lD)), .val (.int n), .val (stD (.sheet r c)), .un, .un, .un, .un, .un, .un] rfl rfl ?_
        unfold f_Lperformed
        refine lstart.trans (lyes (s := .sheet r c) okSheet rfl (sRet_ev ((eL_ev (fCat_ev' rfl (eL_ev (fLst_ev (aCons_ev (eCall_ev (aCons_ev rfl (aCons_ev (e2_ev (d := .int (r : Nat)) rfl rfl rfl) (aCons_ev (e2_ev (d := .int (c : Nat)) rfl rfl rfl) aNil_ev))) k4) aNil_ev) (by simp))) (by simp; omega))).trans ?_)))
        show some (PyData.list (st.map lD ++ [lD (sheetK n r c)])) = some (PyData.list ((st ++ [sheetK n r c]).map lD))
        rw [List.map_append]; rfl
      have bl := lc_body (A := B) (y3 := z3) lp
      have hpan : pan (.sheet r c) = r * c := rfl
      obtain ⟨R, h1, h2, h3⟩ := run_sim A B pl (st ++ [sheetK n r c]) (n + 1) (.val (stD (.sheet r c))) (.val (stD (.sheet r c))) hs2 (fun x hx => by
        rcases List.mem_append.mp hx with hx | hx
        · exact hok x hx
        · rw [List.mem_singleton.mp hx]; exact k1) (by rw [T_app, T_one, k2]; omega) (by rw [List.length_append]; simp; omega)
      refine ⟨R, h1, ?_, ?_⟩
      · rw [loopX_cons (e1 := [.val A, .val (.list (st.map pD)), .val (.int n), .val (stD (.sheet r c))]) rfl bp]
        exact h2
      · rw [loop_cons (e1 := [.val B, .val (.list (st.map lD)), .val (.int n), .val (stD (.sheet r c))]) rfl bl]
        exact h3
    | false =>
      rw [q] at hkq
      obtain ⟨r, w1, w2, w3⟩ := step_sim st hok (by omega) (by omega) s hs1 q (.int n)
      have bl := lc_body (A := B) (y3 := z3) w2
      have bp : b_carry_out_1 [.val A, .val (.list (st.map pD)), .val (.int n), .val (stD s)] = xSet 1 (xCall g_work (xaOk (aCons (eVar 1) (aCons (eVar 3) aNil)))) [.val A, .val (.list (st.map pD)), .val (.int n), .val (stD s)] := xIf_f hkq
      have hx : xCall g_work (xaOk (aCons (eVar 1) (aCons (eVar 3) aNil))) [.val A, .val (.list (st.map pD)), .val (.int n), .val (stD s)] = some (rzP r) := xCall_ev (aCons_ev rfl (aCons_ev rfl aNil_ev)) w1
      cases r with
      | ok qs =>
        obtain ⟨v1, v2, v3⟩ := w3
        rw [q] at bl
        obtain ⟨R, h1, h2, h3⟩ := run_sim A B pl qs (n + if false = true then 1 else 0) (.val (stD s)) (.val (stD s)) hs2 v1 (by omega) (by omega)
        have hn0 : n + (if false = true then (1 : Int) else 0) = n := by simp
        refine ⟨R, h1, ?_, ?_⟩
        · rw [hn0] at h2
          rw [loopX_cons (e1 := [.val A, .val (.list (st.map pD)), .val (.int n), .val (stD s)]) (e2 := [.val A, .val (.list (qs.map pD)), .val (.int n), .val (stD s)]) rfl (bp.trans (by unfold xSet; rw [hx]; rfl))]
          exact h2
        · rw [loop_cons (e1 := [.val B, .val (.list (st.map lD)), .val (.int n), .val (stD s)]) rfl bl]
          exact h3
      | no m =>
        refine ⟨.no m, trivial, ⟨[.val A, .val (.list (st.map pD)), .val (.int n), .val (stD s)], ?_⟩, ?_⟩
        · exact loopX_rs (e1 := [.val A, .val (.list (st.map pD)), .val (.int n), .val (stD s)]) rfl (bp.trans (by unfold xSet; rw [hx]; rfl))
        · exact loop_rt (e1 := [.val B, .val (.list (st.map lD)), .val (.int n), .val (stD s)]) rfl bl
/-! ### what the program answers -/
theorem eqv_prs : ∀ xs ys : List (Int × Int), PyData.eqvAll (xs.map pr) (ys.map pr) = decide (xs = ys)
  | [], [] => by simp [PyData.eqvAll]
  | [], y :: ys => by simp [PyData.eqvAll]
  | x :: xs, [] => by simp [PyData.eqvAll]
  | x :: xs, y :: ys => by
    rw [List.map_cons, List.map_cons]
    show (PyData.eqv (pr x) (pr y) && PyData.eqvAll (xs.map pr) (ys.map pr)) = _
    rw [eqv_prs xs ys, eqv_pr]
    by_cases h : x = y
    · subst h
      simp
    · simp [h]
theorem eqD_prs (xs ys : List (Int × Int)) : eqD (.list (xs.map pr)) (.list (ys.map pr)) = some (.bool (decide (xs = ys))) := by
  unfold eqD
  simp only [shaped_prs, Bool.and_self, if_true, PyData.eqv, eqv_prs]
def oneB (qs : List Pk) : Bool := decide (qs.map sz = [(1, 1)])
theorem single_ev (qs : List Pk) (h : ∀ x ∈ qs, PkOk x) (hl : qs.length ≤ 100) : g_is_single_cell [.list (qs.map pD)] = some (.bool (oneB qs)) := by
  refine gDef_ev' [.val (.list (qs.map pD)), .un] rfl rfl (sRet_ev (e2_ev (x := .list ((qs.map sz).map pr)) (eL_ev ?_) (y := .list (([(1, 1)] : List (Int × Int)).map pr)) rfl (eqD_prs _ _)))
  rw [List.map_map]
  exact fCmp_ev (ds := qs.map pD) rfl (compF_mapS (k := pr ∘ sz) fun x hx => ⟨[.val (.list (qs.map pD)), .val (pD x)], rfl, eCall_ev (aCons_ev rfl aNil_ev) (pk_size (h x hx))⟩) (by simp; omega)
theorem compF_filterT {α : Type} {g : PyData → En → Option En} {ga : En → Option Bool} {fe : En → Option PyData} {env : En} {c k : α → PyData} {p : α → Bool} : ∀ {xs : List α},
    (∀ x ∈ xs, ∃ e1, g (c x) env = some e1 ∧ ga e1 = some (p x) ∧ (p x = true → fe e1 = some (k x))) → compF g ga fe env (xs.map c) = some ((xs.filter p).map k)
  | [], _ => rfl
  | x :: xs, h => by
    obtain ⟨e1, h1, h2, h3⟩ := h x List.mem_cons_self
    have ih := compF_filterT (xs := xs) fun y hy => h y (List.mem_cons_of_mem _ hy)
    simp only [List.map_cons, compF, h1, h2, List.filter_cons]
    cases hp : p x with
    | true => simp only [h3 hp, ih, if_true, List.map_cons]
    | false => simp only [ih, Bool.false_eq_true, if_false]
def shP : Stp → Int × Int
  | .sheet r c => ((r : Nat), (c : Nat))
  | _ => (0, 0)
def shs (pl : List Stp) : List (Int × Int) := (pl.filter isSh).map shP
theorem shs_len (pl : List Stp) : (shs pl).length ≤ pl.length := by unfold shs; rw [List.length_map]; exact List.length_filter_le _ _
theorem sheets_ev (pl : List Stp) (hl : pl.length ≤ 100) : g_sheets_of [.list (pl.map stD)] = some (.list ((shs pl).map pr)) := by
  refine gDef_ev' [.val (.list (pl.map stD)), .un] rfl rfl (sRet_ev (eL_ev ?_))
  unfold shs
  rw [List.map_map]
  refine fCmp_ev (ds := pl.map stD) rfl (compF_filterT (p := isSh) (k := pr ∘ shP) fun s hs => ⟨[.val (.list (pl.map stD)), .val (stD s)], rfl, (kEq s "sheet" okSheet rfl).trans (by rw [kw_sheet]), fun q => ?_⟩) (by rw [List.length_map]; exact Nat.le_trans (List.length_filter_le _ _) (by omega))
  obtain ⟨r, c, rfl⟩ : ∃ r c, s = .sheet r c := by cases s <;> first | exact ⟨_, _, rfl⟩ | cases q
  exact eTup_ev (aCons_ev (e2_ev (d := .int (r : Nat)) rfl rfl rfl) (aCons_ev (e2_ev (d := .int (c : Nat)) rfl rfl rfl) aNil_ev)) (by simp)
theorem lsheets_ev (pl : List Stp) (hl : pl.length ≤ 100) : g_Lsheets [.list (pl.map stD)] = some (.list ((shs pl).map pr)) := by
  refine gDef_ev' [.val (.list (pl.map stD)), .un] rfl rfl (sRet_ev (eL_ev ?_))
  unfold shs
  rw [List.map_map]
  refine fCmp_ev (ds := pl.map stD) rfl (compF_filterT (p := isSh) (k := pr ∘ shP) fun s hs => ⟨[.val (.list (pl.map stD)), .val (stD s)], rfl, (kEq s "sheet" okSheet rfl).trans (by rw [kw_sheet]), fun q => ?_⟩) (by rw [List.length_map]; exact Nat.le_trans (List.length_filter_le _ _) (by omega))
  obtain ⟨r, c, rfl⟩ : ∃ r c, s = .sheet r c := by cases s <;> first | exact ⟨_, _, rfl⟩ | cases q
  exact slT_post (ds := [.str "sheet", .int (r : Nat), .int (c : Nat)]) (n := 1) rfl rfl rfl (by simp)
theorem shs_sum : ∀ pl : List Stp, (((shs pl).map fun z => z.1 * z.2).sum) = ((panels pl : Nat) : Int)
  | [] => rfl
  | s :: pl => by
    have ih := shs_sum pl
    have hp : panels (s :: pl) = pan s + panels pl := by unfold panels; rw [List.map_cons, List.sum_cons]
    rw [hp]
    unfold shs at ih ⊢
    rw [List.filter_cons]
    cases q : isSh s with
    | true =>
      obtain ⟨r, c, rfl⟩ : ∃ r c, s = .sheet r c := by cases s <;> first | exact ⟨_, _, rfl⟩ | cases q
      rw [if_pos rfl, List.map_cons, List.map_cons, List.sum_cons, ih]
      show ((r : Nat) : Int) * ((c : Nat) : Int) + _ = ((r * c + panels pl : Nat) : Int)
      push_cast
      rfl
    | false =>
      rw [if_neg (by simp), ih]
      have : pan s = 0 := by cases s <;> first | rfl | cases q
      rw [this, Nat.zero_add]
theorem shs_ok (pl : List Stp) (h : ∀ s ∈ pl, StpOk s) : ∀ z ∈ shs pl, 1 ≤ z.1 ∧ z.1 ≤ 8 ∧ 1 ≤ z.2 ∧ z.2 ≤ 8 := fun z hz => by
  unfold shs at hz
  obtain ⟨s, hs, rfl⟩ := List.mem_map.mp hz
  obtain ⟨h1, q⟩ := List.mem_filter.mp hs
  have hk := h s h1
  obtain ⟨r, c, rfl⟩ : ∃ r c, s = .sheet r c := by cases s <;> first | exact ⟨_, _, rfl⟩ | cases q
  obtain ⟨k1, k2, k3, k4⟩ := hk
  show 1 ≤ ((r : Nat) : Int) ∧ ((r : Nat) : Int) ≤ 8 ∧ 1 ≤ ((c : Nat) : Int) ∧ ((c : Nat) : Int) ≤ 8
  omega
theorem mul_row {z : Int × Int} (h : 1 ≤ z.1 ∧ z.1 ≤ 8 ∧ 1 ≤ z.2 ∧ z.2 ≤ 8) : mulD (.int z.1) (.int z.2) = some (.int (z.1 * z.2)) := mulD_int (.inl (by omega))
theorem panel_ev (pl : List Stp) (h : ∀ s ∈ pl, StpOk s) (hl : pl.length ≤ 100) : g_panel_count [.list ((shs pl).map pr)] = some (.int (panels pl : Nat)) := by
  rw [← shs_sum]
  have hlen := shs_len pl
  obtain ⟨L, hL⟩ : ∃ L, L = PyData.list ((shs pl).map pr) := ⟨_, rfl⟩
  rw [← hL]
  refine gDef_ev' [.val L, .un, .un] rfl rfl (sRet_ev (Mir.sumA_ev (ns := (shs pl).map fun z => z.1 * z.2) (aCons_ev (eL_ev ?_) aNil_ev)))
  rw [List.map_map]
  exact fCmp_ev (ds := (shs pl).map pr) (by rw [hL]; rfl) (compF_mapS (k := PyData.int ∘ fun z : Int × Int => z.1 * z.2) fun z hz => ⟨[.val L, .val (.int z.1), .val (.int z.2)], rfl, e2_ev rfl rfl (mul_row (shs_ok pl h z hz))⟩) (by rw [List.length_map]; omega)
def bigS : Str := "too many panels"
def failS : Str := "plan fails"
def openS : Str := "plan is not complete"
def leftD : Rs → PyData
  | .ok qs => .list (qs.map pD)
  | .no _ => .none
/-- the whole plan, on both sides -/
theorem plan_sim (pl : List Stp) (h : ∀ s ∈ pl, StpOk s) (hl : pl.length ≤ 90) (ht : panels pl ≤ 64) : ∃ r, RunOk r ∧ g_packets_left [.list (pl.map stD)] = some (.ok (leftD r)) ∧ g_Lcarried [.list (pl.map stD)] = some (rzL r) := by
  obtain ⟨A, hA⟩ : ∃ A, A = PyData.list (pl.map stD) := ⟨_, rfl⟩
  obtain ⟨r, h1, h2, h3⟩ := run_sim A A pl [] 0 .un .un h (fun x hx => by cases hx) (by unfold T; simp; exact ht) (by simp; omega)
  rw [← hA]
  rw [List.map_nil] at h2 h3
  have hrg : ∀ a b c, iSeq (eVar 0) [.val A, a, b, c] = some (pl.map stD) := fun a b c => by rw [hA]; rfl
  refine ⟨r, h1, ?_, ?_⟩
  · have hcar : g_carry_out [A] = some (rzP r) := by
      refine gDefX_ev [.val A, .un, .un, .un] rfl rfl ?_
      unfold f_carry_out
      rw [xUp (show sSet 1 (eL (fLst aNil)) [.val A, .un, .un, .un] = .nx [.val A, .val (.list []), .un, .un] from rfl), xUp (show sSet 2 (eC (.int 0)) [.val A, .val (.list []), .un, .un] = .nx [.val A, .val (.list []), .val (.int 0), .un] from rfl)]
      cases r with
      | ok qs =>
        obtain ⟨n, y3, h2⟩ := h2
        rw [xSeq_nx' (xFor_ev (hrg _ _ _) h2)]
        rfl
      | no m =>
        obtain ⟨e, h2⟩ := h2
        rw [xSeq_rs (xFor_ev (hrg _ _ _) h2)]
        rfl
    refine gDefX_ev [.val A] rfl rfl ?_
    unfold f_packets_left
    have hq : t1 (e2 gtD (eCall g_panel_count (aCons (eCall g_sheets_of (aCons (eVar 0) aNil)) aNil)) (eC (.int 64))) [.val A] = some false := by
      refine (t1_ev (e2_ev (eCall_ev (aCons_ev (eCall_ev (aCons_ev rfl aNil_ev) (by rw [hA]; exact sheets_ev pl (by omega))) aNil_ev) (panel_ev pl h (by omega))) rfl (gtD_int _ _))).trans ?_
      rw [decide_eq_false (by omega)]
    rw [xg_f hq]
    show outDX (upO (sTry0 y_packets_left_1 u_packets_left_1 [.val A])) = _
    have hx : xCall g_carry_out (xaOk (aCons (eVar 0) aNil)) [.val A] = some (rzP r) := xCall_ev (aCons_ev rfl aNil_ev) hcar
    unfold sTry0 y_packets_left_1 xRet
    rw [hx]
    cases r <;> rfl
  · refine gDef_ev' [.val A, .un, .un, .un] rfl rfl ?_
    unfold f_Lcarried
    refine (sSeq_nx (e := [.val A, .val (.list []), .un, .un]) rfl).trans ((sSeq_nx (e := [.val A, .val (.list []), .val (.int 0), .un]) rfl).trans ?_)
    cases r with
    | ok qs =>
      obtain ⟨n, y3, h3⟩ := h3
      exact (sSeq_nx (sFor_ev (hrg _ _ _) h3)).trans rfl
    | no m => exact sSeq_rt (sFor_ev (hrg _ _ _) h3)
theorem plan_big (pl : List Stp) (h : ∀ s ∈ pl, StpOk s) (hl : pl.length ≤ 90) (ht : 64 < panels pl) : g_packets_left [.list (pl.map stD)] = some (.ex (.str bigS)) := by
  obtain ⟨A, hA⟩ : ∃ A, A = PyData.list (pl.map stD) := ⟨_, rfl⟩
  rw [← hA]
  refine gDefX_ev [.val A] rfl rfl ?_
  unfold f_packets_left
  have hq : t1 (e2 gtD (eCall g_panel_count (aCons (eCall g_sheets_of (aCons (eVar 0) aNil)) aNil)) (eC (.int 64))) [.val A] = some true := by
    refine (t1_ev (e2_ev (eCall_ev (aCons_ev (eCall_ev (aCons_ev rfl aNil_ev) (by rw [hA]; exact sheets_ev pl (by omega))) aNil_ev) (panel_ev pl h (by omega))) rfl (gtD_int _ _))).trans ?_
    rw [decide_eq_true (by omega)]
  rw [xg_t hq]
  rfl
/-- evaluate, is_complete and leaf_order by what packets_left does -/
theorem eval_ex (P d : PyData) (h : g_packets_left [P] = some (.ex d)) : g_evaluate [P] = some (.ex d) ∧ g_is_complete [P] = some (.ex d) ∧ g_leaf_order [P] = some (.ex d) := by
  have hx : ∀ y, xCall g_packets_left (xaOk (aCons (eVar 0) aNil)) [.val P, y] = some (.ex d) := fun y => xCall_ev (aCons_ev rfl aNil_ev) h
  have hs : ∀ y, xSet 1 (xCall g_packets_left (xaOk (aCons (eVar 0) aNil))) [.val P, y] = .rs [.val P, y] d := fun y => by unfold xSet; rw [hx y]
  have h1 : g_evaluate [P] = some (.ex d) := by
    refine gDefX_ev [.val P, .un] rfl rfl ?_
    unfold f_evaluate
    rw [xSeq_rs (hs _)]; rfl
  refine ⟨h1, ?_, ?_⟩
  · refine gDefX_ev [.val P, .un] rfl rfl ?_
    unfold f_is_complete
    rw [xSeq_rs (hs _)]; rfl
  · refine gDefX_ev [.val P, .un] rfl rfl ?_
    unfold f_leaf_order
    rw [xSeq_rs (e := [.val P, .un]) (d := d) (by unfold xSet; rw [xCall_ev (aCons_ev rfl aNil_ev) h1])]; rfl
theorem eval_none (P : PyData) (h : g_packets_left [P] = some (.ok .none)) : g_evaluate [P] = some (.ex (.str failS)) ∧ g_is_complete [P] = some (.ok (.bool false)) ∧ g_leaf_order [P] = some (.ex (.str failS)) := by
  have hs : xSet 1 (xCall g_packets_left (xaOk (aCons (eVar 0) aNil))) [.val P, .un] = .nx [.val P, .val .none] := by unfold xSet; rw [xCall_ev (aCons_ev rfl aNil_ev) h]; rfl
  have h1 : g_evaluate [P] = some (.ex (.str failS)) := by
    refine gDefX_ev [.val P, .un] rfl rfl ?_
    unfold f_evaluate
    rw [xSeq_nx' hs, xg_t (t1_ev (e2_ev (x := .none) (y := .none) rfl rfl rfl))]; rfl
  refine ⟨h1, ?_, ?_⟩
  · refine gDefX_ev [.val P, .un] rfl rfl ?_
    unfold f_is_complete
    rw [xSeq_nx' hs]
    show outDX (upO _) = _
    rw [sRet_ev (eAnd_f (e2_ev (x := .none) (y := .none) rfl rfl rfl))]; rfl
  · refine gDefX_ev [.val P, .un] rfl rfl ?_
    unfold f_leaf_order
    rw [xSeq_rs (e := [.val P, .un]) (d := .str failS) (by unfold xSet; rw [xCall_ev (aCons_ev rfl aNil_ev) h1])]; rfl
def leafD (qs : List Pk) : PyData := match qs with
  | x :: _ => markD (ce x.p 0 0)
  | [] => .none
theorem eval_ok (P : PyData) (qs : List Pk) (hq : ∀ x ∈ qs, PkOk x) (hl : qs.length ≤ 90) (h : g_packets_left [P] = some (.ok (.list (qs.map pD)))) : g_evaluate [P] = some (.ok (.list (qs.map pD))) ∧ g_is_complete [P] = some (.ok (.bool (oneB qs))) ∧ g_leaf_order [P] = some (if oneB qs = true then .ok (leafD qs) else .ex (.str openS)) := by
  obtain ⟨Q, hQ⟩ : ∃ Q, Q = PyData.list (qs.map pD) := ⟨_, rfl⟩
  have hsg := single_ev qs hq (by omega)
  rw [← hQ] at h hsg ⊢
  have hs : xSet 1 (xCall g_packets_left (xaOk (aCons (eVar 0) aNil))) [.val P, .un] = .nx [.val P, .val Q] := by unfold xSet; rw [xCall_ev (aCons_ev rfl aNil_ev) h]; rfl
  have h1 : g_evaluate [P] = some (.ok Q) := by
    refine gDefX_ev [.val P, .un] rfl rfl ?_
    unfold f_evaluate
    rw [xSeq_nx' hs, xg_f (t1_ev (e2_ev (x := Q) (y := .none) rfl rfl (by rw [hQ]; rfl)))]
    rfl
  refine ⟨h1, ?_, ?_⟩
  · refine gDefX_ev [.val P, .un] rfl rfl ?_
    unfold f_is_complete
    rw [xSeq_nx' hs]
    show outDX (upO _) = _
    rw [sRet_ev (eAnd_t (e2_ev (x := Q) (y := .none) rfl rfl (by rw [hQ]; rfl)) (eCall_ev (aCons_ev rfl aNil_ev) hsg))]; rfl
  · refine gDefX_ev [.val P, .un] rfl rfl ?_
    unfold f_leaf_order
    have hs2 : xSet 1 (xCall g_evaluate (xaOk (aCons (eVar 0) aNil))) [.val P, .un] = .nx [.val P, .val Q] := by unfold xSet; rw [xCall_ev (aCons_ev rfl aNil_ev) h1]; rfl
    rw [xSeq_nx' hs2]
    have hc : tNot' (tTr (eCall g_is_single_cell (aCons (eVar 1) aNil))) [.val P, .val Q] = some (!oneB qs) := not_ev (tTr_ev (eCall_ev (aCons_ev rfl aNil_ev) hsg) rfl)
    cases q : oneB qs with
    | false =>
      rw [q] at hc
      rw [xg_t (show _ = some true from hc)]
      rfl
    | true =>
      rw [q] at hc
      rw [xg_f (show _ = some false from hc)]
      have q' := of_decide_eq_true q
      cases qs with
      | nil => cases q'
      | cons x xs =>
        have okx := hq x List.mem_cons_self
        obtain ⟨rw0, rows, hp⟩ : ∃ r rs, x.p = r :: rs := by
          cases e : x.p with
          | nil => exact absurd e (ne_of_rc okx.own.rc okx.r1)
          | cons r rs => exact ⟨r, rs, rfl⟩
        obtain ⟨m0, ms, hr0⟩ : ∃ m ms, rw0 = m :: ms := by
          cases e : rw0 with
          | nil =>
            have := okx.own.rc.2 rw0 (by rw [hp]; simp)
            rw [e] at this
            have c1 := okx.c1
            simp at this
            omega
          | cons m ms => exact ⟨m, ms, rfl⟩
        have hce : ce x.p 0 0 = m0 := by rw [hp, hr0]; rfl
        show outDX (upO _) = _
        have hi : e2 ixG (e2 ixG (e2 ixG (eVar 1) (eC (.int 0))) (eC (.int 0))) (eC (.int 0)) [.val P, .val Q] = some (markD m0) := by
          refine e2_ev (x := rowD rw0) (e2_ev (x := pD x) (e2_ev (x := Q) rfl rfl (by rw [hQ]; exact ixG_l (j := 0) rfl rfl)) rfl (y := .int 0) ?_) rfl (y := .int 0) ?_
          · show ixG (sideD x.p) (.int 0) = _
            rw [hp]
            exact ixG_t (j := 0) rfl rfl
          · rw [hr0]
            exact ixG_t (j := 0) rfl rfl
        rw [sRet_ev hi]
        show some (Rz.ok (markD m0)) = some (Rz.ok (markD (ce x.p 0 0)))
        rw [hce]
def askD : Rz → PyData
  | .ok d => d
  | .ex d => d
theorem ask1 (x : PyData) (r : Rz) (h : g_evaluate [x] = some r) : g_Lasked__evaluate [x] = some (askD r) := by
  refine gAll_ev fun fa => ?_
  show outD (f_Lasked__evaluate fa [.fn fa, .val x, .un]) = _
  have hb : xCallF 0 fa g_evaluate (xaOk (aCons (eVar 1) aNil)) [.fn fa, .val x, .un] = some r := by
    unfold xCallF
    show (if fa = fa then _ else _) = _
    rw [if_pos rfl]
    exact h
  have : f_Lasked__evaluate fa [.fn fa, .val x, .un] = .rt (askD r) := by
    unfold f_Lasked__evaluate
    cases r with
    | ok d =>
      unfold sTry y_Lasked__evaluate_1 xRet
      rw [hb]
      rfl
    | ex d =>
      refine sTry_ev (e := [.fn fa, .val x, .un]) (d := d) (by unfold y_Lasked__evaluate_1 xRet; rw [hb]) fun a dd => ?_
      unfold u_Lasked__evaluate_1
      rw [sRet_ev (d := d) (by simp [eWhat])]
      rfl
  rw [this]
  rfl
theorem ask2 (x : PyData) (r : Rz) (h : g_is_complete [x] = some r) : g_Lasked__is_complete [x] = some (askD r) := by
  refine gAll_ev fun fa => ?_
  show outD (f_Lasked__is_complete fa [.fn fa, .val x, .un]) = _
  have hb : xCallF 0 fa g_is_complete (xaOk (aCons (eVar 1) aNil)) [.fn fa, .val x, .un] = some r := by
    unfold xCallF
    show (if fa = fa then _ else _) = _
    rw [if_pos rfl]
    exact h
  have : f_Lasked__is_complete fa [.fn fa, .val x, .un] = .rt (askD r) := by
    unfold f_Lasked__is_complete
    cases r with
    | ok d =>
      unfold sTry y_Lasked__is_complete_1 xRet
      rw [hb]
      rfl
    | ex d =>
      refine sTry_ev (e := [.fn fa, .val x, .un]) (d := d) (by unfold y_Lasked__is_complete_1 xRet; rw [hb]) fun a dd => ?_
      unfold u_Lasked__is_complete_1
      rw [sRet_ev (d := d) (by simp [eWhat])]
      rfl
  rw [this]
  rfl
theorem ask3 (x : PyData) (r : Rz) (h : g_leaf_order [x] = some r) : g_Lasked__leaf_order [x] = some (askD r) := by
  refine gAll_ev fun fa => ?_
  show outD (f_Lasked__leaf_order fa [.fn fa, .val x, .un]) = _
  have hb : xCallF 0 fa g_leaf_order (xaOk (aCons (eVar 1) aNil)) [.fn fa, .val x, .un] = some r := by
    unfold xCallF
    show (if fa = fa then _ else _) = _
    rw [if_pos rfl]
    exact h
  have : f_Lasked__leaf_order fa [.fn fa, .val x, .un] = .rt (askD r) := by
    unfold f_Lasked__leaf_order
    cases r with
    | ok d =>
      unfold sTry y_Lasked__leaf_order_1 xRet
      rw [hb]
      rfl
    | ex d =>
      refine sTry_ev (e := [.fn fa, .val x, .un]) (d := d) (by unfold y_Lasked__leaf_order_1 xRet; rw [hb]) fun a dd => ?_
      unfold u_Lasked__leaf_order_1
      rw [sRet_ev (d := d) (by simp [eWhat])]
      rfl
  rw [this]
  rfl
theorem dr_ix {ds : List Int} {i : Int} (h : 0 ≤ i ∧ i < ds.length) : atI (ds.map PyData.int) i = some (.int (ds.getD i.toNat 0)) := by
  have h3 : i.toNat < ds.length := by omega
  have := atI_map PyData.int ds i.toNat (ds.getD i.toNat 0) (by simp [List.getD, h3])
  rw [Int.toNat_of_nonneg h.1] at this
  exact this
/-! ### the law's plans -/
theorem lstep_ok (ds : List Int) (hl : 4 ≤ ds.length) : ∃ s, StpOk s ∧ g_Lstep [.list (ds.map .int)] = some (stD s) := by
  obtain ⟨d, h1, h2⟩ := step_ev ds hl
  rcases h2 with ⟨x, hx, rfl⟩ | ⟨fo, e, w, kv, k, he, hw, hk, hk1, rfl⟩
  · exact ⟨.turn x, hx, h1⟩
  · rw [hk] at h1
    exact ⟨.mv fo e k w, ⟨he, hw, hk1⟩, h1⟩
theorem lany_ev (c : Int) : ∃ s, StpOk s ∧ g_Lany_step [.int c] = some (stD s) := by
  obtain ⟨ds, hd, hl, hb⟩ := draws_ev c 5 (by decide)
  obtain ⟨D, hD⟩ : ∃ D : PyData, D = .list (ds.map .int) := ⟨_, rfl⟩
  have m4 := mod_lt (ds.getD 4 0) 10 (by decide)
  obtain ⟨kd, hkd⟩ : ∃ k, k = ds.getD 4 0 % 10 := ⟨_, rfl⟩
  rw [← hD] at hd
  have dm : ∀ (env : En) (j : Nat) (jv m : Int), eVar 1 env = some D → j < 5 → jv = (j : Nat) → 0 < m → e2 modD (e2 ixG (eVar 1) (eC (.int jv))) (eC (.int m)) env = some (.int (ds.getD j 0 % m)) := fun env j jv m h hj hjv hm => dr_mod' (by rw [h, hD]) (by omega) hjv hm
  obtain ⟨E, hE⟩ : ∃ E : En, E = [.val (.int c), .val D, .val (.int kd)] := ⟨_, rfl⟩
  have pre : f_Lany_step [.val (.int c), .un, .un] = _ :=
    (sSeq_nx (e := [.val (.int c), .val D, .un]) (sSet_ev (eCall_ev (aCons_ev rfl (aCons_ev rfl aNil_ev)) hd))).trans
    (sSeq_nx (e := [.val (.int c), .val D, .val (.int kd)]) (by rw [hkd]; exact sSet_ev (dm _ 4 4 10 rfl (by decide) rfl (by decide))))
  rw [← hE] at pre
  have fin : ∀ d, f_Lany_step [.val (.int c), .un, .un] = .rt d → g_Lany_step [.int c] = some d := fun d h => gDef_ev' [.val (.int c), .un, .un] rfl rfl h
  have cond : ∀ n : Int, t1 (e2 eqD (eVar 2) (eC (.int n))) E = some (decide (kd = n)) := fun n => by
    rw [hE]
    exact t1_ev (e2_ev rfl rfl (eqD_int _ _))
  have no : ∀ (n : Int) (s r : En → Out), kd ≠ n → sSeq (sIf (t1 (e2 eqD (eVar 2) (eC (.int n)))) s sNil) r E = r E := fun n s r h => sSeq_nx ((sIf_f ((cond n).trans (by rw [decide_eq_false h]))).trans rfl)
  have yes : ∀ (n : Int) (s r : En → Out) (d : PyData), kd = n → s E = .rt d → sSeq (sIf (t1 (e2 eqD (eVar 2) (eC (.int n)))) s sNil) r E = .rt d := fun n s r d h h2 => sSeq_rt ((sIf_t ((cond n).trans (by rw [decide_eq_true h]))).trans h2)
  have hlt : t1 (e2 ltD (eVar 2) (eC (.int 4))) E = some (decide (kd < 4)) := by rw [hE]; exact t1_ev (e2_ev rfl rfl (ltD_int _ _))
  have n1 := mod_lt (ds.getD 1 0) 3 (by decide)
  have n2 := mod_lt (ds.getD 2 0) 3 (by decide)
  have n1' := mod_lt (ds.getD 1 0) 4 (by decide)
  have n1'' := mod_lt (ds.getD 1 0) 2 (by decide)
  have n2' := mod_lt (ds.getD 2 0) 2 (by decide)
  by_cases q0 : kd < 4
  · rw [decide_eq_true q0] at hlt
    have h30 : t1 (e2 eqD (e2 modD (e2 ixG (eVar 1) (eC (.int 0))) (eC (.int 30))) (eC (.int 7))) E = some (decide (ds.getD 0 0 % 30 = 7)) := by rw [hE]; exact t1_ev (e2_ev (dm _ 0 0 30 rfl (by decide) rfl (by decide)) rfl (eqD_int _ _))
    by_cases q30 : ds.getD 0 0 % 30 = 7
    · rw [decide_eq_true q30] at h30
      obtain ⟨a, ha⟩ := Int.eq_ofNat_of_zero_le (show 0 ≤ 5 + ds.getD 1 0 % 4 by omega)
      obtain ⟨b, hb2⟩ := Int.eq_ofNat_of_zero_le (show 0 ≤ 6 + ds.getD 2 0 % 3 by omega)
      refine ⟨.sheet a b, ⟨by omega, by omega, by omega, by omega⟩, fin _ (pre.trans (sSeq_rt ((sIf_t hlt).trans (sSeq_rt ((sIf_t h30).trans ?_)))))⟩
      rw [hE]
      refine sRet_ev (eTup_ev (aCons_ev rfl (aCons_ev (e2_ev rfl (dm _ 1 1 4 rfl (by decide) rfl (by decide)) ((addD_int _ _).trans (by rw [ha]))) (aCons_ev (e2_ev rfl (dm _ 2 2 3 rfl (by decide) rfl (by decide)) ((addD_int _ _).trans (by rw [hb2]))) aNil_ev))) (by simp))
    · rw [decide_eq_false q30] at h30
      obtain ⟨a, ha⟩ := Int.eq_ofNat_of_zero_le (show 0 ≤ 1 + ds.getD 1 0 % 3 by omega)
      obtain ⟨b, hb2⟩ := Int.eq_ofNat_of_zero_le (show 0 ≤ 1 + ds.getD 2 0 % 3 by omega)
      refine ⟨.sheet a b, ⟨by omega, by omega, by omega, by omega⟩, fin _ (pre.trans (sSeq_rt ((sIf_t hlt).trans ((sSeq_nx ((sIf_f h30).trans rfl)).trans ?_))))⟩
      rw [hE]
      refine sRet_ev (eTup_ev (aCons_ev rfl (aCons_ev (e2_ev rfl (dm _ 1 1 3 rfl (by decide) rfl (by decide)) ((addD_int _ _).trans (by rw [ha]))) (aCons_ev (e2_ev rfl (dm _ 2 2 3 rfl (by decide) rfl (by decide)) ((addD_int _ _).trans (by rw [hb2]))) aNil_ev))) (by simp))
  rw [decide_eq_false q0] at hlt
  have pre2 := pre.trans (sSeq_nx ((sIf_f hlt).trans rfl))
  by_cases q4 : kd = 4
  · obtain ⟨a, ha⟩ := Int.eq_ofNat_of_zero_le n1.1
    refine ⟨.take a, trivial, fin _ (pre2.trans (yes 4 _ _ _ q4 ?_))⟩
    rw [hE]
    exact sRet_ev (eTup_ev (aCons_ev rfl (aCons_ev ((dm _ 1 1 3 rfl (by decide) rfl (by decide)).trans (by rw [ha])) aNil_ev)) (by simp))
  by_cases q5 : kd = 5
  · obtain ⟨a, ha⟩ := Int.eq_ofNat_of_zero_le (show 0 ≤ 2 + ds.getD 1 0 % 2 by omega)
    refine ⟨.pile a, by show 2 ≤ a; omega, fin _ (pre2.trans ((no 4 _ _ q4).trans (yes 5 _ _ _ q5 ?_)))⟩
    rw [hE]
    exact sRet_ev (eTup_ev (aCons_ev rfl (aCons_ev (e2_ev rfl (dm _ 1 1 2 rfl (by decide) rfl (by decide)) ((addD_int _ _).trans (by rw [ha]))) aNil_ev)) (by simp))
  by_cases q6 : kd = 6
  · obtain ⟨a, ha⟩ := Int.eq_ofNat_of_zero_le (show 0 ≤ 1 + ds.getD 2 0 % 2 by omega)
    obtain ⟨ed, hed, he⟩ := pick4 (ds.getD 1 0) "left" "right" "top" "bottom"
    refine ⟨.cut ed a, ⟨hed, by omega⟩, fin _ (pre2.trans ((no 4 _ _ q4).trans ((no 5 _ _ q5).trans (yes 6 _ _ _ q6 ?_))))⟩
    rw [hE]
    exact sRet_ev (eTup_ev (aCons_ev rfl (aCons_ev (he _ _ (dm _ 1 1 4 rfl (by decide) rfl (by decide))) (aCons_ev (e2_ev rfl (dm _ 2 2 2 rfl (by decide) rfl (by decide)) ((addD_int _ _).trans (by rw [ha]))) aNil_ev))) (by simp))
  · obtain ⟨s, hs, h1⟩ := lstep_ok ds (by omega)
    refine ⟨s, hs, fin _ (pre2.trans ((no 4 _ _ q4).trans ((no 5 _ _ q5).trans ((no 6 _ _ q6).trans ?_))))⟩
    rw [hE]
    exact sRet_ev (eCall_ev (aCons_ev rfl aNil_ev) (by rw [hD]; exact h1))
theorem eOr_b {f g : En → Option PyData} {env : En} {a b : Bool} (h1 : f env = some (.bool a)) (h2 : g env = some (.bool b)) : eOr f g env = some (.bool (a || b)) := by
  unfold eOr
  rw [h1]
  cases a
  · exact h2
  · rfl
theorem eAnd_b {f g : En → Option PyData} {env : En} {a b : Bool} (h1 : f env = some (.bool a)) (h2 : g env = some (.bool b)) : eAnd f g env = some (.bool (a && b)) := by
  cases a
  · exact eAnd_f h1
  · exact eAnd_t h1 h2
def KN2 : PyData := .list [.str "fold", .str "stack"]
theorem fin_loop (ds : List Int) (hl : ds.length = 40) (c : Int) : ∀ (n : Nat) (R C : Nat) (at_ : Int) (ss : List Stp) (y7 y8 y9 y10 y11 y12 : Sl), 1 ≤ R → 1 ≤ C → R + C ≤ n + 1 → n ≤ 6 → 0 ≤ at_ → at_ + 5 * n ≤ 30 → (∀ s ∈ ss, StpOk s) → ss.length + 2 * n ≤ 12 →
    ∃ (R' C' : PyData) (at' : Int) (ss' : List Stp) (z7 z8 z9 z10 z11 z12 : Sl), whlF w_Lfinishing_steps_1 b_Lfinishing_steps_1 n [.val (.int c), .val (.int (R : Nat)), .val (.int (C : Nat)), .val KN2, .val (.list (ds.map .int)), .own (ss.map stD), .val (.int at_), y7, y8, y9, y10, y11, y12] = .nx [.val (.int c), .val R', .val C', .val KN2, .val (.list (ds.map .int)), .own (ss'.map stD), .val (.int at'), z7, z8, z9, z10, z11, z12] ∧ (∀ s ∈ ss', StpOk s) ∧ ss'.length ≤ 12 := by
  intro n
  induction n with
  | zero => intro R C at_ ss y7 y8 y9 y10 y11 y12 h1 h2 h3; omega
  | succ n ih =>
    intro R C at_ ss y7 y8 y9 y10 y11 y12 hR hC hRC hn h0 hat hss hsl
    obtain ⟨D, hD⟩ : ∃ D : PyData, D = .list (ds.map .int) := ⟨_, rfl⟩
    rw [← hD]
    rw [← hD] at ih
    have hm : R * C ≤ 49 := Nat.mul_le_mul (show R ≤ 7 by omega) (show C ≤ 7 by omega)
    obtain ⟨Rv, hRv⟩ : ∃ z : Int, z = (R : Nat) := ⟨_, rfl⟩
    obtain ⟨Cv, hCv⟩ : ∃ z : Int, z = (C : Nat) := ⟨_, rfl⟩
    have hw : w_Lfinishing_steps_1 [.val (.int c), .val (.int Rv), .val (.int Cv), .val KN2, .val D, .own (ss.map stD), .val (.int at_), y7, y8, y9, y10, y11, y12] = some (decide (1 < R * C)) := by
      have hcm : CMul Rv Cv := .inl (by omega)
      have hd : decide ((1 : Int) < Rv * Cv) = decide (1 < R * C) := by
        rw [hRv, hCv, ← Int.natCast_mul]
        by_cases q : 1 < R * C
        · rw [decide_eq_true q, decide_eq_true (by omega)]
        · rw [decide_eq_false q, decide_eq_false (by omega)]
      rw [← hd]
      exact t1_ev (e2_ev (e2_ev rfl rfl (mulD_int hcm)) rfl (gtD_int _ _))
    rw [← hRv, ← hCv]
    by_cases q : 1 < R * C
    · rw [decide_eq_true q] at hw
      have dm : ∀ (env : En) (o m : Int) (f : En → Option PyData), eVar 4 env = some D → eVar 6 env = some (.int at_) → f env = some (.int m) → 0 ≤ o ∧ o ≤ 4 → 0 < m → e2 modD (e2 ixG (eVar 4) (e2 addD (eVar 6) (eC (.int o)))) f env = some (.int (ds.getD (at_ + o).toNat 0 % m)) := fun env o m f h4 h6 hf ho hm => e2_ev (e2_ev (x := .list (ds.map .int)) (by rw [h4, hD]) (e2_ev h6 rfl (addD_int _ _)) (dr_ix ⟨by omega, by omega⟩)) hf (modD_int hm)
      -- what is drawn
      have p0 := mod_lt (ds.getD at_.toNat 0) 2 (by decide)
      obtain ⟨fo, hfo⟩ : ∃ fo : Bool, ixG KN2 (.int (ds.getD at_.toNat 0 % 2)) = some (.str (if fo then "fold" else "stack")) := by
        rcases (by omega : ds.getD at_.toNat 0 % 2 = 0 ∨ ds.getD at_.toNat 0 % 2 = 1) with e | e <;> rw [e]
        · exact ⟨true, rfl⟩
        · exact ⟨false, rfl⟩
      obtain ⟨wy, hwy, hwv⟩ := pick2 (ds.getD (at_ + 1).toNat 0) "over" "under"
      obtain ⟨ac, hac⟩ : ∃ b : Bool, b = (decide ((1 : Int) < (C : Nat)) && (decide (((R : Nat) : Int) = 1) || decide (ds.getD (at_ + 2).toNat 0 % 2 = 0))) := ⟨_, rfl⟩
      obtain ⟨sz, hsz⟩ : ∃ z : Nat, z = if ac then C else R := ⟨_, rfl⟩
      have hs2 : 2 ≤ sz := by
        rw [hsz]
        cases hb : ac with
        | true =>
          rw [hb] at hac
          have := hac.symm
          rw [Bool.and_eq_true] at this
          have := of_decide_eq_true this.1
          rw [if_pos rfl]; omega
        | false =>
          rw [if_neg (by simp)]
          rw [hb] at hac
          rcases (by omega : R = 1 ∨ 2 ≤ R) with e | e
          · subst e
            rw [Nat.one_mul] at q
            rw [decide_eq_true (show (1 : Int) < (C : Nat) by omega), decide_eq_true (show ((1 : Nat) : Int) = 1 by rfl)] at hac
            simp at hac
          · exact e
      have hs6 : sz ≤ 7 := by rw [hsz]; split <;> omega
      have pl := mod_lt (ds.getD (at_ + 3).toNat 0) ((sz : Int) - 1) (by omega)
      obtain ⟨ln, hln⟩ := Int.eq_ofNat_of_zero_le (show 0 ≤ 1 + ds.getD (at_ + 3).toNat 0 % ((sz : Int) - 1) by omega)
      obtain ⟨ed, hed, hev⟩ : ∃ ed : Str, is4 ed ∧ ixG (if ac then .list [.str "left", .str "right"] else .list [.str "top", .str "bottom"]) (.int (ds.getD (at_ + 4).toNat 0 % 2)) = some (.str ed) := by
        have p4 := mod_lt (ds.getD (at_ + 4).toNat 0) 2 (by decide)
        rcases (by omega : ds.getD (at_ + 4).toNat 0 % 2 = 0 ∨ ds.getD (at_ + 4).toNat 0 % 2 = 1) with e | e <;> rw [e] <;> cases ac
        · exact ⟨"top", .inr (.inr (.inl rfl)), rfl⟩
        · exact ⟨"left", .inl rfl, rfl⟩
        · exact ⟨"bottom", .inr (.inr (.inr rfl)), rfl⟩
        · exact ⟨"right", .inr (.inl rfl), rfl⟩
      obtain ⟨ax, hax, hav⟩ := pick3 (ds.getD (at_ + 3).toNat 0) "vertical" "horizontal" "both"
      obtain ⟨EL, hEL⟩ : ∃ e : PyData, e = (if ac then .list [.str "left", .str "right"] else .list [.str "top", .str "bottom"]) := ⟨_, rfl⟩
      rw [← hEL] at hev
      obtain ⟨KD, hKD⟩ : ∃ e : PyData, e = .str (if fo then "fold" else "stack") := ⟨_, rfl⟩
      rw [← hKD] at hfo
      obtain ⟨mx, hmx⟩ : ∃ z : Nat, z = max ln (sz - ln) := ⟨_, rfl⟩
      have lnb : 1 ≤ ln ∧ ln + 1 ≤ sz := by omega
      have mxb : 1 ≤ mx ∧ mx + 1 ≤ sz := by omega
      obtain ⟨tn, htn⟩ : ∃ b : Bool, b = decide (ds.getD (at_ + 1).toNat 0 % 5 = 0) := ⟨_, rfl⟩
      obtain ⟨ss2, hss2⟩ : ∃ l : List Stp, l = ss ++ [.mv fo ed ln wy] ++ (if tn then [.turn ax] else []) := ⟨_, rfl⟩
      have ok2 : ∀ s ∈ ss2, StpOk s := fun s hs => by
        rw [hss2] at hs
        rcases List.mem_append.mp hs with hs | hs
        · rcases List.mem_append.mp hs with hs | hs
          · exact hss s hs
          · rw [List.mem_singleton.mp hs]; exact ⟨hed, hwy, lnb.1⟩
        · cases tn with
          | true => rw [if_pos rfl] at hs; rw [List.mem_singleton.mp hs]; exact hax
          | false => rw [if_neg (by simp)] at hs; cases hs
      have len2 : ss2.length ≤ ss.length + 2 := by
        rw [hss2, List.length_append, List.length_append]
        cases tn <;> simp
      obtain ⟨sv, hsv⟩ : ∃ z : Int, z = (sz : Nat) := ⟨_, rfl⟩
      obtain ⟨lv, hlv⟩ : ∃ z : Int, z = (ln : Nat) := ⟨_, rfl⟩
      obtain ⟨mv, hmv⟩ : ∃ z : Int, z = (mx : Nat) := ⟨_, rfl⟩
      have hsz2 : sv = if ac = true then Cv else Rv := by rw [hsv, hsz, hCv, hRv]; split <;> rfl
      have hR3 : (((if ac = true then R else mx) : Nat) : Int) = if ac = true then Rv else mv := by rw [hRv, hmv]; split <;> rfl
      have hC3 : (((if ac = true then mx else C) : Nat) : Int) = if ac = true then mv else Cv := by rw [hCv, hmv]; split <;> rfl
      rw [← hRv, ← hCv] at hac
      rw [← hsv] at pl hln
      rw [← hlv] at hln
      have body : b_Lfinishing_steps_1 [.val (.int c), .val (.int Rv), .val (.int Cv), .val KN2, .val D, .own (ss.map stD), .val (.int at_), y7, y8, y9, y10, y11, y12] = .nx [.val (.int c), .val (.int (if ac = true then Rv else mv)), .val (.int (if ac = true then mv else Cv)), .val KN2, .val D, .own (ss2.map stD), .val (.int (at_ + 5)), .val KD, .val (.str wy), .val (.bool ac), .val (.int sv), .val (.int lv), .val EL] := by
        unfold b_Lfinishing_steps_1
        refine (sSeq_nx (e := [.val (.int c), .val (.int Rv), .val (.int Cv), .val KN2, .val D, .own (ss.map stD), .val (.int at_), .val KD, y8, y9, y10, y11, y12]) (sSet_ev (e2_ev (x := KN2) rfl (e2_ev (e2_ev (x := .list (ds.map .int)) (by rw [hD]; rfl) rfl (dr_ix ⟨by omega, by omega⟩)) (len_l (ds := [.str "fold", .str "stack"]) rfl) (modD_int (by decide))) hfo))).trans ?_
        refine (sSeq_nx (e := [.val (.int c), .val (.int Rv), .val (.int Cv), .val KN2, .val D, .own (ss.map stD), .val (.int at_), .val KD, .val (.str wy), y9, y10, y11, y12]) (sSet_ev (hwv _ _ (dm _ 1 2 _ rfl rfl rfl ⟨by decide, by decide⟩ (by decide))))).trans ?_
        refine (sSeq_nx (e := [.val (.int c), .val (.int Rv), .val (.int Cv), .val KN2, .val D, .own (ss.map stD), .val (.int at_), .val KD, .val (.str wy), .val (.bool ac), y10, y11, y12]) (sSet_ev (by
          rw [hac]
          exact eAnd_b (e2_ev rfl rfl (gtD_int _ _)) (eOr_b (e2_ev rfl rfl (eqD_int _ _)) (e2_ev (dm _ 2 2 _ rfl rfl rfl ⟨by decide, by decide⟩ (by decide)) rfl (eqD_int _ _)))))).trans ?_
        refine (sSeq_nx (e := [.val (.int c), .val (.int Rv), .val (.int Cv), .val KN2, .val D, .own (ss.map stD), .val (.int at_), .val KD, .val (.str wy), .val (.bool ac), .val (.int sv), y11, y12]) (sSet_ev (by
          rw [hsz2]
          cases ac
          · exact eIf_f (tTr_ev (d := .bool false) rfl rfl) rfl
          · exact eIf_t (tTr_ev (d := .bool true) rfl rfl) rfl))).trans ?_
        refine (sSeq_nx (e := [.val (.int c), .val (.int Rv), .val (.int Cv), .val KN2, .val D, .own (ss.map stD), .val (.int at_), .val KD, .val (.str wy), .val (.bool ac), .val (.int sv), .val (.int lv), y12]) (sSet_ev (e2_ev rfl (dm _ 3 (sv - 1) _ rfl rfl (e2_ev rfl rfl (subD_int _ _)) ⟨by decide, by decide⟩ (by omega)) ((addD_int _ _).trans (by rw [hln]))))).trans ?_
        refine (sSeq_nx (e := [.val (.int c), .val (.int Rv), .val (.int Cv), .val KN2, .val D, .own (ss.map stD), .val (.int at_), .val KD, .val (.str wy), .val (.bool ac), .val (.int sv), .val (.int lv), .val EL]) (sSet_ev (by
          rw [hEL]
          cases ac
          · exact eIf_f (tTr_ev (d := .bool false) rfl rfl) rfl
          · exact eIf_t (tTr_ev (d := .bool true) rfl rfl) rfl))).trans ?_
        refine (sSeq_nx (e := [.val (.int c), .val (.int Rv), .val (.int Cv), .val KN2, .val D, .own ((ss ++ [Stp.mv fo ed ln wy]).map stD), .val (.int at_), .val KD, .val (.str wy), .val (.bool ac), .val (.int sv), .val (.int lv), .val EL]) (by
          rw [List.map_append]
          exact sApp_ev (i := 5) (eTup_ev (aCons_ev (x := .str (if fo then ("fold" : Str) else ("stack" : Str))) (by rw [← hKD]; rfl) (aCons_ev (e2_ev (x := EL) rfl (dm _ 4 2 _ rfl rfl rfl ⟨by decide, by decide⟩ (by decide)) hev) (aCons_ev (x := .int ((ln : Nat) : Int)) (by rw [← hlv]; rfl) (aCons_ev rfl aNil_ev)))) (by simp)) rfl (by rw [List.length_map]; omega))).trans ?_
        have t5 : t1 (e2 eqD (e2 modD (e2 ixG (eVar 4) (e2 addD (eVar 6) (eC (.int 1)))) (eC (.int 5))) (eC (.int 0))) [.val (.int c), .val (.int Rv), .val (.int Cv), .val KN2, .val D, .own ((ss ++ [Stp.mv fo ed ln wy]).map stD), .val (.int at_), .val KD, .val (.str wy), .val (.bool ac), .val (.int sv), .val (.int lv), .val EL] = some tn := by
          rw [htn]
          exact t1_ev (e2_ev (dm _ 1 5 _ rfl rfl rfl ⟨by decide, by decide⟩ (by decide)) rfl (eqD_int _ _))
        refine (sSeq_nx (e := [.val (.int c), .val (.int Rv), .val (.int Cv), .val KN2, .val D, .own (ss2.map stD), .val (.int at_), .val KD, .val (.str wy), .val (.bool ac), .val (.int sv), .val (.int lv), .val EL]) (by
          rw [hss2]
          cases tn with
          | true =>
            rw [if_pos rfl, List.map_append (l₁ := ss ++ _)]
            exact (sIf_t t5).trans (sApp_ev (i := 5) (eTup_ev (aCons_ev rfl (aCons_ev (hav _ _ (dm _ 3 3 _ rfl rfl rfl ⟨by decide, by decide⟩ (by decide))) aNil_ev)) (by simp)) rfl (by rw [List.length_map, List.length_append]; simp; omega))
          | false =>
            rw [if_neg (by simp), List.append_nil]
            exact (sIf_f t5).trans rfl)).trans ?_
        have hmx2 : ∀ env : En, eVar 11 env = some (.int lv) → eVar 10 env = some (.int sv) → eCall mx2 (aCons (eVar 11) (aCons (e2 subD (eVar 10) (eVar 11)) aNil)) env = some (.int mv) := fun env h1 h2 => by
          rw [hmv, hmx]
          exact mx2_ev (bv := sv - lv) h1 (e2_ev h2 h1 (subD_int _ _)) hlv (by omega)
        refine (sSeq_nx (e := [.val (.int c), .val (.int (if ac = true then Rv else mv)), .val (.int (if ac = true then mv else Cv)), .val KN2, .val D, .own (ss2.map stD), .val (.int at_), .val KD, .val (.str wy), .val (.bool ac), .val (.int sv), .val (.int lv), .val EL]) (by
          cases ac with
          | true => exact (sIf_t (tTr_ev (d := .bool true) rfl rfl)).trans (sSet_ev (hmx2 _ rfl rfl))
          | false => exact (sIf_f (tTr_ev (d := .bool false) rfl rfl)).trans (sSet_ev (hmx2 _ rfl rfl)))).trans ?_
        exact sSet_ev (e2_ev rfl rfl (addD_int _ _))
      have hp1 : 1 ≤ (if ac = true then R else mx) := by split <;> omega
      have hp2 : 1 ≤ (if ac = true then mx else C) := by split <;> omega
      have hsum : (if ac = true then R else mx) + (if ac = true then mx else C) ≤ n + 1 := by
        clear body hev hEL hac hw
        cases hb : ac with
        | true => rw [hb, if_pos rfl] at hsz; rw [if_pos rfl, if_pos rfl]; omega
        | false => rw [hb, if_neg (by simp)] at hsz; rw [if_neg (by simp), if_neg (by simp)]; omega
      obtain ⟨R', C', at', ss', z7, z8, z9, z10, z11, z12, j1, j2, j3⟩ := ih (if ac then R else mx) (if ac then mx else C) (at_ + 5) ss2 (.val KD) (.val (.str wy)) (.val (.bool ac)) (.val (.int sv)) (.val (.int lv)) (.val EL) hp1 hp2 hsum (by omega) (by omega) (by omega) ok2 (by omega)
      refine ⟨R', C', at', ss', z7, z8, z9, z10, z11, z12, ?_, j2, j3⟩
      rw [hR3, hC3] at j1
      simp only [whlF, hw, body]
      exact j1
    · rw [decide_eq_false q] at hw
      exact ⟨.int Rv, .int Cv, at_, ss, y7, y8, y9, y10, y11, y12, by simp only [whlF, hw], hss, by omega⟩
theorem lfin_ev (c : Int) (R C : Nat) (hR : 1 ≤ R ∧ R ≤ 3) (hC : 1 ≤ C ∧ C ≤ 3) : ∃ ss : List Stp, g_Lfinishing_steps [.int c, .int (R : Nat), .int (C : Nat), KN2] = some (.list (ss.map stD)) ∧ (∀ s ∈ ss, StpOk s) ∧ ss.length ≤ 12 := by
  obtain ⟨ds, hd, hl, hb⟩ := draws_ev c 40 (by decide)
  obtain ⟨R', C', at', ss', z7, z8, z9, z10, z11, z12, j1, j2, j3⟩ := fin_loop ds hl c 6 R C 0 [] .un .un .un .un .un .un hR.1 hC.1 (by omega) (by omega) (by omega) (by omega) (fun s hs => by cases hs) (by simp)
  refine ⟨ss', ?_, j2, j3⟩
  refine gDef_ev' [.val (.int c), .val (.int (R : Nat)), .val (.int (C : Nat)), .val KN2, .un, .un, .un, .un, .un, .un, .un, .un, .un] rfl rfl ?_
  unfold f_Lfinishing_steps
  refine (sSeq_nx (e := [.val (.int c), .val (.int (R : Nat)), .val (.int (C : Nat)), .val KN2, .val (.list (ds.map .int)), .un, .un, .un, .un, .un, .un, .un, .un]) (sSet_ev (eCall_ev (aCons_ev rfl (aCons_ev rfl aNil_ev)) hd))).trans ?_
  refine (sSeq_nx (e := [.val (.int c), .val (.int (R : Nat)), .val (.int (C : Nat)), .val KN2, .val (.list (ds.map .int)), .own [], .un, .un, .un, .un, .un, .un, .un]) rfl).trans ?_
  refine (sSeq_nx (e := [.val (.int c), .val (.int (R : Nat)), .val (.int (C : Nat)), .val KN2, .val (.list (ds.map .int)), .own [], .val (.int 0), .un, .un, .un, .un, .un, .un]) rfl).trans ?_
  exact (sSeq_nx j1).trans rfl
theorem lcomplete_ev (ns : List Int) : ∃ pl : List Stp, g_Lcomplete_plan [.list (ns.map .int), .int 12, KN2] = some (.list (pl.map stD)) ∧ (∀ s ∈ pl, StpOk s) ∧ pl.length ≤ 30 := by
  obtain ⟨S, hS⟩ : ∃ S : PyData, S = .list (ns.map .int) := ⟨_, rfl⟩
  have hcell : ∀ k : Nat, g_Lcell [S, .int (k : Nat)] = some (.int (ns.getD k 0)) := fun k => by rw [hS]; exact cell_ev ns k
  have hcellv : ∀ (kv : Int) (k : Nat), kv = (k : Nat) → g_Lcell [S, .int kv] = some (.int (ns.getD k 0)) := fun kv k h => by rw [h]; exact hcell k
  rw [← hS]
  have m0 := mod_lt (ns.getD 12 0) 2 (by decide)
  obtain ⟨N, hN⟩ : ∃ N : Int, N = 1 + ns.getD 12 0 % 2 := ⟨_, rfl⟩
  obtain ⟨e', h1, pl, y5, y6, y7, y8, ⟨hok, hlen⟩, rfl⟩ := loop_rng (g := gVal 5) (b := b_Lcomplete_plan_1) (lo := 0) (n := N.toNat) (e := [.val S, .val (.int 12), .val KN2, .val (.int N), .own [], .un, .un, .un, .un])
    (fun j e => ∃ (pl : List Stp) (y5 y6 y7 y8 : Sl), ((∀ s ∈ pl, StpOk s) ∧ pl.length ≤ 13 * j) ∧ e = [.val S, .val (.int 12), .val KN2, .val (.int N), .own (pl.map stD), y5, y6, y7, y8]) (fun j e hj he => by
      obtain ⟨pl, y5, y6, y7, y8, ⟨hok, hlen⟩, rfl⟩ := he
      obtain ⟨v, hv⟩ : ∃ v : Int, v = 0 + (j : Nat) := ⟨_, rfl⟩
      rw [← hv]
      obtain ⟨ds, hd, hl, hb⟩ := draws_ev (ns.getD (13 + j) 0) 2 (by decide)
      have n0 := mod_lt (ds.getD 0 0) 3 (by decide)
      have n1 := mod_lt (ds.getD 1 0) 3 (by decide)
      obtain ⟨R, hR⟩ := Int.eq_ofNat_of_zero_le (show 0 ≤ 1 + ds.getD 0 0 % 3 by omega)
      obtain ⟨C, hC⟩ := Int.eq_ofNat_of_zero_le (show 0 ≤ 1 + ds.getD 1 0 % 3 by omega)
      obtain ⟨ss, f1, f2, f3⟩ := lfin_ev (ns.getD (15 + j) 0) R C (by omega) (by omega)
      obtain ⟨D, hD⟩ : ∃ D : PyData, D = .list (ds.map .int) := ⟨_, rfl⟩
      rw [← hD] at hd
      obtain ⟨Rv, hRv⟩ : ∃ z : Int, z = (R : Nat) := ⟨_, rfl⟩
      obtain ⟨Cv, hCv⟩ : ∃ z : Int, z = (C : Nat) := ⟨_, rfl⟩
      have hst : stD (.sheet R C) = .tuple [.str "sheet", .int Rv, .int Cv] := by rw [hRv, hCv]; rfl
      rw [← hRv] at hR f1
      rw [← hCv] at hC f1
      refine ⟨[.val S, .val (.int 12), .val KN2, .val (.int N), .own (pl.map stD), .val (.int v), y6, y7, y8], rfl, [.val S, .val (.int 12), .val KN2, .val (.int N), .own ((pl ++ [Stp.sheet R C] ++ ss).map stD), .val (.int v), .val D, .val (.int Rv), .val (.int Cv)], .inl ?_, pl ++ [Stp.sheet R C] ++ ss, .val (.int v), .val D, .val (.int Rv), .val (.int Cv), ⟨fun s hs => ?_, ?_⟩, rfl⟩
      · unfold b_Lcomplete_plan_1
        refine (sSeq_nx (e := [.val S, .val (.int 12), .val KN2, .val (.int N), .own (pl.map stD), .val (.int v), .val D, y7, y8]) (sSet_ev (eCall_ev (aCons_ev (eCall_ev (aCons_ev rfl (aCons_ev (e2_ev (e2_ev rfl rfl (addD_int _ _)) rfl (addD_int _ _)) aNil_ev)) (hcellv _ (13 + j) (by omega))) (aCons_ev rfl aNil_ev)) hd))).trans ?_
        refine (sSeq_nx (e := [.val S, .val (.int 12), .val KN2, .val (.int N), .own (pl.map stD), .val (.int v), .val D, .val (.int Rv), y8]) (sSet_ev (e2_ev rfl (dr_mod' (ds := ds) (j := 0) (by rw [hD]; rfl) (by omega) rfl (by decide)) ((addD_int _ _).trans (by rw [hR]))))).trans ?_
        refine (sSeq_nx (e := [.val S, .val (.int 12), .val KN2, .val (.int N), .own (pl.map stD), .val (.int v), .val D, .val (.int Rv), .val (.int Cv)]) (sSet_ev (e2_ev rfl (dr_mod' (ds := ds) (j := 1) (by rw [hD]; rfl) (by omega) rfl (by decide)) ((addD_int _ _).trans (by rw [hC]))))).trans ?_
        refine (sSeq_nx (e := [.val S, .val (.int 12), .val KN2, .val (.int N), .own ((pl ++ [Stp.sheet R C]).map stD), .val (.int v), .val D, .val (.int Rv), .val (.int Cv)]) (by
          rw [List.map_append]
          exact sApp_ev (i := 4) ((eTup_ev (aCons_ev rfl (aCons_ev rfl (aCons_ev rfl aNil_ev))) (by simp)).trans (by rw [← hst])) rfl (by rw [List.length_map]; omega))).trans ?_
        show sOwn 4 _ [.val S, .val (.int 12), .val KN2, .val (.int N), .val (.list ((pl ++ [Stp.sheet R C]).map stD)), .val (.int v), .val D, .val (.int Rv), .val (.int Cv)] = _
        rw [List.map_append (l₁ := pl ++ _)]
        exact sOwn_ev (fCat_ev' rfl (eCall_ev (aCons_ev (eCall_ev (aCons_ev rfl (aCons_ev (e2_ev (e2_ev rfl rfl (addD_int _ _)) rfl (addD_int _ _)) aNil_ev)) (hcellv _ (15 + j) (by omega))) (aCons_ev rfl (aCons_ev rfl (aCons_ev rfl aNil_ev)))) f1) (by rw [List.length_map, List.length_map, List.length_append]; simp; omega))
      · rcases List.mem_append.mp hs with hs | hs
        · rcases List.mem_append.mp hs with hs | hs
          · exact hok s hs
          · rw [List.mem_singleton.mp hs]
            exact ⟨by omega, by omega, by omega, by omega⟩
        · exact f2 s hs
      · rw [List.length_append, List.length_append]; simp; omega) ⟨[], .un, .un, .un, .un, ⟨(fun s hs => by cases hs), by simp⟩, rfl⟩
  have start : ∀ d, (sRet (eIf (t1 (e2 eqD (eVar 3) (eC (.int 2)))) (eL (fCat (eVar 4) (eL (fLst (aCons (eTup (aCons (eC (.str "pile")) (aCons (eC (.int 2)) aNil))) aNil))))) (eVar 4))) [.val S, .val (.int 12), .val KN2, .val (.int N), .val (.list (pl.map stD)), y5, y6, y7, y8] = .rt d → g_Lcomplete_plan [S, .int 12, KN2] = some d := fun d h => by
    refine gDef_ev' [.val S, .val (.int 12), .val KN2, .un, .un, .un, .un, .un, .un] rfl rfl ?_
    unfold f_Lcomplete_plan
    refine (sSeq_nx (e := [.val S, .val (.int 12), .val KN2, .val (.int N), .un, .un, .un, .un, .un]) (sSet_ev (e2_ev rfl (e2_ev (eCall_ev (aCons_ev rfl (aCons_ev rfl aNil_ev)) (hcellv _ 12 rfl)) rfl (modD_int (by decide))) ((addD_int _ _).trans (by rw [hN]))))).trans ?_
    refine (sSeq_nx (e := [.val S, .val (.int 12), .val KN2, .val (.int N), .own [], .un, .un, .un, .un]) rfl).trans ?_
    exact (sSeq_nx (sFor_ev (iR1_ev (N := N) (aCons_ev rfl aNil_ev) (by omega) (by omega)) h1)).trans h
  have he : t1 (e2 eqD (eVar 3) (eC (.int 2))) [.val S, .val (.int 12), .val KN2, .val (.int N), .val (.list (pl.map stD)), y5, y6, y7, y8] = some (decide (N = 2)) := t1_ev (e2_ev rfl rfl (eqD_int _ _))
  have hlen2 : pl.length ≤ 26 := by omega
  by_cases q : N = 2
  · rw [decide_eq_true q] at he
    refine ⟨pl ++ [.pile 2], start _ (sRet_ev ((eIf_t he (eL_ev (fCat_ev' rfl (eL_ev (fLst_ev (aCons_ev (eTup_ev (aCons_ev rfl (aCons_ev rfl aNil_ev)) (by simp)) aNil_ev) (by simp))) (by rw [List.length_map]; simp; omega)))).trans ?_)), fun s hs => ?_, by rw [List.length_append]; simp; omega⟩
    · rw [List.map_append]; rfl
    · rcases List.mem_append.mp hs with hs | hs
      · exact hok s hs
      · rw [List.mem_singleton.mp hs]; exact Nat.le_refl 2
  · rw [decide_eq_false q] at he
    exact ⟨pl, start _ (sRet_ev (eIf_f he rfl)), hok, by omega⟩
/-! ### shapes -/
theorem ok_edges {e : Str} (h : is4 e) : PyData.strOk e = true := by
  rcases h with rfl | rfl | rfl | rfl <;> decide +kernel
theorem ok_axes {e : Str} (h : is3 e) : PyData.strOk e = true := by
  rcases h with rfl | rfl | rfl <;> decide +kernel
theorem ok_ways {e : Str} (h : is2 e) : PyData.strOk e = true := by
  rcases h with rfl | rfl <;> decide +kernel
theorem lay_stp (s : Stp) (h : StpOk s) : PyData.canLay0 (stD s) = true ∧ PyData.depth (stD s) ≤ 1 := by
  have hk := kw_ok s
  cases s with
  | sheet r c => have hk : PyData.strOk "sheet" = true := hk; simp [stD, PyData.canLay0, PyData.canLayAll0, PyData.depth, PyData.depthAll, hk]
  | take k => have hk : PyData.strOk "take" = true := hk; simp [stD, PyData.canLay0, PyData.canLayAll0, PyData.depth, PyData.depthAll, hk]
  | pile n => have hk : PyData.strOk "pile" = true := hk; simp [stD, PyData.canLay0, PyData.canLayAll0, PyData.depth, PyData.depthAll, hk]
  | turn x => have hk : PyData.strOk "turn" = true := hk; simp [stD, PyData.canLay0, PyData.canLayAll0, PyData.depth, PyData.depthAll, hk, ok_axes h]
  | cut e k => have hk : PyData.strOk "cut" = true := hk; simp [stD, PyData.canLay0, PyData.canLayAll0, PyData.depth, PyData.depthAll, hk, ok_edges h.1]
  | mv fo e k w =>
    have hk : PyData.strOk (if fo then ("fold" : Str) else "stack") = true := hk
    simp [stD, PyData.canLay0, PyData.canLayAll0, PyData.depth, PyData.depthAll, hk, ok_edges h.1, ok_ways h.2.1]
theorem lay_plan : ∀ pl : List Stp, (∀ s ∈ pl, StpOk s) → PyData.canLayAll0 (pl.map stD) = true ∧ PyData.depthAll (pl.map stD) ≤ 1
  | [], _ => by simp [PyData.canLayAll0, PyData.depthAll]
  | s :: pl, h => by
    obtain ⟨h1, h2⟩ := lay_plan pl fun y hy => h y (List.mem_cons_of_mem _ hy)
    obtain ⟨h3, h4⟩ := lay_stp s (h s List.mem_cons_self)
    rw [List.map_cons]
    simp only [PyData.canLayAll0, PyData.depthAll, h1, h3, Bool.and_self, true_and]
    omega
theorem shaped_plan (pl : List Stp) (h : ∀ s ∈ pl, StpOk s) : SeqAt.shaped (.list (pl.map stD)) = true := by
  obtain ⟨h1, h2⟩ := lay_plan pl h
  unfold SeqAt.shaped
  simp [PyData.canLay0, PyData.depth, h1]
  omega
theorem lay_pks : ∀ qs : List Pk, PyData.canLayAll0 (qs.map pD) = true ∧ PyData.depthAll (qs.map pD) ≤ 4
  | [] => by simp [PyData.canLayAll0, PyData.depthAll]
  | x :: qs => by
    obtain ⟨h1, h2⟩ := lay_pks qs
    obtain ⟨h3, h4⟩ := side_lay x.p
    rw [List.map_cons]
    have e1 : PyData.canLay0 (pD x) = true := by unfold pD sideD; simp [PyData.canLay0, h3]
    have e2' : PyData.depth (pD x) ≤ 4 := by unfold pD sideD; simp [PyData.depth]; omega
    simp only [PyData.canLayAll0, PyData.depthAll, h1, e1, Bool.and_self, true_and]
    omega
theorem shaped_dues (qs : List Pk) (b : Bool) (d : PyData) (h1 : PyData.canLay0 d = true) (h2 : PyData.depth d ≤ 3) : SeqAt.shaped (.list [.list (qs.map pD), .bool b, d]) = true := by
  obtain ⟨h3, h4⟩ := lay_pks qs
  unfold SeqAt.shaped
  simp [PyData.canLay0, PyData.canLayAll0, PyData.depth, PyData.depthAll, h1, h3]
  omega
theorem lay_mark (m : Mk) : PyData.canLay0 (markD m) = true ∧ PyData.depth (markD m) ≤ 3 := by
  obtain ⟨h1, h2⟩ := lay_lay m
  unfold markD
  simp [PyData.canLay0, PyData.depth, h1]
  omega
theorem okBig : PyData.strOk bigS = true := by decide +kernel
theorem okFail : PyData.strOk failS = true := by decide +kernel
theorem okOpen : PyData.strOk openS = true := by decide +kernel
theorem shaped_big : SeqAt.shaped (.list [.str bigS, .str bigS, .str bigS]) = true := by
  unfold SeqAt.shaped
  simp [PyData.canLay0, PyData.canLayAll0, PyData.depth, PyData.depthAll, okBig]
theorem shaped_fail : SeqAt.shaped (.list [.str failS, .bool false, .str failS]) = true := by
  unfold SeqAt.shaped
  simp [PyData.canLay0, PyData.canLayAll0, PyData.depth, PyData.depthAll, okFail]
/-- the plan of the script -/
theorem plan_ev (ns : List Int) : ∃ pl : List Stp, (∀ s ∈ pl, StpOk s) ∧ pl.length ≤ 30 ∧ ∀ S : PyData, S = .list (ns.map .int) → ∀ r : En → Out, sSeq (sSet 1 (eL (fCmp [7] (iR1 (aCons (e2 modD (eCall g_Lcell (aCons (eVar 0) (aCons (eC (.int 0)) aNil))) (eC (.int 11))) aNil)) (gVal 7) tYes' c_law_1))) (sSeq (sIf (t1 (e2 eqD (e2 modD (e2 divD (eCall g_Lcell (aCons (eVar 0) (aCons (eC (.int 0)) aNil))) (eC (.int 11))) (eC (.int 3))) (eC (.int 0)))) (sSet 1 (eCall g_Lcomplete_plan (aCons (eVar 0) (aCons (eC (.int 12)) (aCons (eL (fLst (aCons (eC (.str "fold")) (aCons (eC (.str "stack")) aNil)))) aNil))))) sNil) r) [.val S, .un, .un, .un, .un, .un, .un, .un, .un, .un, .un] = r [.val S, .val (.list (pl.map stD)), .un, .un, .un, .un, .un, .un, .un, .un, .un] := by
  obtain ⟨S, hS⟩ : ∃ S : PyData, S = .list (ns.map .int) := ⟨_, rfl⟩
  have hcellv : ∀ (kv : Int) (k : Nat), kv = (k : Nat) → g_Lcell [S, .int kv] = some (.int (ns.getD k 0)) := fun kv k h => by rw [h, hS]; exact cell_ev ns k
  have m0 := mod_lt (ns.getD 0 0) 11 (by decide)
  obtain ⟨N, hN⟩ : ∃ N : Int, N = ns.getD 0 0 % 11 := ⟨_, rfl⟩
  rw [← hN] at m0
  have comp : ∃ pl : List Stp, (∀ s ∈ pl, StpOk s) ∧ pl.length ≤ 11 ∧ compF (gVal 7) tYes' c_law_1 [.val S, .un, .un, .un, .un, .un, .un, .un, .un, .un, .un] (rngD 0 N.toNat) = some (pl.map stD) := by
    have aux : ∀ ks : List Nat, ∃ pl : List Stp, (∀ s ∈ pl, StpOk s) ∧ pl.length = ks.length ∧ compF (gVal 7) tYes' c_law_1 [.val S, .un, .un, .un, .un, .un, .un, .un, .un, .un, .un] (ks.map fun k : Nat => PyData.int (0 + (k : Nat))) = some (pl.map stD) := by
      intro ks
      induction ks with
      | nil => exact ⟨[], (fun s hs => by cases hs), rfl, rfl⟩
      | cons k ks ih =>
        obtain ⟨pl, h1, h2, h3⟩ := ih
        obtain ⟨s, hs, hv⟩ := lany_ev (ns.getD (1 + k) 0)
        refine ⟨s :: pl, fun z hz => (List.mem_cons.mp hz).elim (fun e => e ▸ hs) (h1 z), by simp [h2], ?_⟩
        obtain ⟨v, hvv⟩ : ∃ v : Int, v = 0 + (k : Nat) := ⟨_, rfl⟩
        have hc : c_law_1 [.val S, .un, .un, .un, .un, .un, .un, .val (.int v), .un, .un, .un] = some (stD s) := eCall_ev (aCons_ev (eCall_ev (aCons_ev rfl (aCons_ev (e2_ev rfl rfl (addD_int _ _)) aNil_ev)) (hcellv _ (1 + k) (by omega))) aNil_ev) hv
        have hg : gVal 7 (.int v) [.val S, .un, .un, .un, .un, .un, .un, .un, .un, .un, .un] = some [.val S, .un, .un, .un, .un, .un, .un, .val (.int v), .un, .un, .un] := rfl
        rw [List.map_cons, ← hvv]
        simp only [compF, hg, tYes', hc, h3, List.map_cons]
    obtain ⟨pl, h1, h2, h3⟩ := aux (List.range N.toNat)
    exact ⟨pl, h1, by rw [h2, List.length_range]; omega, h3⟩
  obtain ⟨p1, k1, k2, k3⟩ := comp
  have s1 : ∀ r : En → Out, sSeq (sSet 1 (eL (fCmp [7] (iR1 (aCons (e2 modD (eCall g_Lcell (aCons (eVar 0) (aCons (eC (.int 0)) aNil))) (eC (.int 11))) aNil)) (gVal 7) tYes' c_law_1))) r [.val S, .un, .un, .un, .un, .un, .un, .un, .un, .un, .un] = r [.val S, .val (.list (p1.map stD)), .un, .un, .un, .un, .un, .un, .un, .un, .un] := fun r =>
    sSeq_nx (sSet_ev (eL_ev (fCmp_ev (iR1_ev (N := N) (aCons_ev (by rw [hN]; exact e2_ev (eCall_ev (aCons_ev rfl (aCons_ev rfl aNil_ev)) (hcellv 0 0 rfl)) rfl (modD_int (by decide))) aNil_ev) (by omega) (by omega)) k3 (by rw [List.length_map]; omega))))
  have hq : t1 (e2 eqD (e2 modD (e2 divD (eCall g_Lcell (aCons (eVar 0) (aCons (eC (.int 0)) aNil))) (eC (.int 11))) (eC (.int 3))) (eC (.int 0))) [.val S, .val (.list (p1.map stD)), .un, .un, .un, .un, .un, .un, .un, .un, .un] = some (decide (ns.getD 0 0 / 11 % 3 = 0)) := t1_ev (e2_ev (e2_ev (e2_ev (eCall_ev (aCons_ev rfl (aCons_ev rfl aNil_ev)) (hcellv 0 0 rfl)) rfl (divD_int ⟨by decide, by decide⟩)) rfl (modD_int (by decide))) rfl (eqD_int _ _))
  by_cases q : ns.getD 0 0 / 11 % 3 = 0
  · rw [decide_eq_true q] at hq
    obtain ⟨p2, j1, j2, j3⟩ := lcomplete_ev ns
    rw [← hS] at j1
    refine ⟨p2, j2, j3, fun S' hS' r => ?_⟩
    rw [hS', ← hS]
    exact (s1 _).trans (sSeq_nx ((sIf_t hq).trans (sSet_ev (eCall_ev (aCons_ev rfl (aCons_ev rfl (aCons_ev rfl aNil_ev))) j1))))
  · rw [decide_eq_false q] at hq
    refine ⟨p1, k1, by omega, fun S' hS' r => ?_⟩
    rw [hS', ← hS]
    exact (s1 _).trans (sSeq_nx ((sIf_f hq).trans rfl))
theorem law_true (ns : List Int) (hn : ns.length ≤ 63) : g_law [.list (ns.map .int)] = some (.bool true) := by
  obtain ⟨pl, hok, hlen, hpl⟩ := plan_ev ns
  obtain ⟨S, hS⟩ : ∃ S : PyData, S = .list (ns.map .int) := ⟨_, rfl⟩
  obtain ⟨P, hP⟩ : ∃ S : PyData, S = .list (pl.map stD) := ⟨_, rfl⟩
  have hpre := hpl S hS
  rw [← hP] at hpre
  rw [← hS]
  have hsp : SeqAt.shaped P = true := by rw [hP]; exact shaped_plan pl hok
  have hs1 : g_sheets_of [P] = some (.list ((shs pl).map pr)) := by rw [hP]; exact sheets_ev pl (by omega)
  have hs2 : g_Lsheets [P] = some (.list ((shs pl).map pr)) := by rw [hP]; exact lsheets_ev pl (by omega)
  refine gDef_ev' [.val S, .un, .un, .un, .un, .un, .un, .un, .un, .un, .un] rfl rfl ?_
  unfold f_law
  refine (hpre _).trans ?_
  refine (sSeq_nx (e := [.val S, .val P, .val P, .un, .un, .un, .un, .un, .un, .un, .un]) (sSet_ev (eL_ev (by rw [hP]; rfl) |>.trans (by rw [hP])))).trans ?_
  have hor : tOr' (t1 (e2 neD (eCall g_sheets_of (aCons (eVar 2) aNil)) (eCall g_Lsheets (aCons (eVar 1) aNil)))) (t1 (e2 neD (eVar 2) (eVar 1))) [.val S, .val P, .val P, .un, .un, .un, .un, .un, .un, .un, .un] = some false :=
    or_f (t1_ev (e2_ev (eCall_ev (aCons_ev rfl aNil_ev) hs1) (eCall_ev (aCons_ev rfl aNil_ev) hs2) (neD_same (shaped_prs _)))) (t1_ev (e2_ev rfl rfl (neD_same hsp)))
  refine (sSeq_nx ((sIf_f hor).trans rfl)).trans ?_
  obtain ⟨pn, hpn⟩ : ∃ z : Int, z = (panels pl : Nat) := ⟨_, rfl⟩
  have hsum : t1 (e2 gtD (eCall sumA (aCons (eL (fCmp [8, 9] (iSeqU (eCall g_Lsheets (aCons (eVar 1) aNil))) (gT [8, 9]) tYes' c_law_2)) aNil)) (eC (.int 64))) [.val S, .val P, .val P, .un, .un, .un, .un, .un, .un, .un, .un] = some (decide (64 < pn)) := by
    have hl2 := shs_len pl
    refine t1_ev (e2_ev (x := .int pn) ?_ rfl (gtD_int _ _))
    rw [hpn, ← shs_sum]
    refine Mir.sumA_ev (ns := (shs pl).map fun z => z.1 * z.2) (aCons_ev (eL_ev ?_) aNil_ev)
    rw [List.map_map]
    exact fCmp_ev (ds := (shs pl).map pr) (seqU_l (eCall_ev (aCons_ev rfl aNil_ev) hs2)) (compF_mapS (k := PyData.int ∘ fun z : Int × Int => z.1 * z.2) fun z hz => ⟨[.val S, .val P, .val P, .un, .un, .un, .un, .un, .val (.int z.1), .val (.int z.2), .un], rfl, e2_ev rfl rfl (mul_row (shs_ok pl hok z hz))⟩) (by rw [List.length_map]; omega)
  -- the three that are told, against what is due
  have fin : ∀ (T1 T2 T3 : PyData) (y4 y5 y6 y7 y8 y9 y10 : Sl), g_Lasked__evaluate [P] = some T1 → g_Lasked__is_complete [P] = some T2 → g_Lasked__leaf_order [P] = some T3 → SeqAt.shaped (.list [T1, T2, T3]) = true →
      sRet (e2 eqD (eL (fLst (aCons (eCall g_Lasked__evaluate (aCons (eVar 2) aNil)) (aCons (eCall g_Lasked__is_complete (aCons (eVar 2) aNil)) (aCons (eCall g_Lasked__leaf_order (aCons (eVar 2) aNil)) aNil))))) (eVar 3)) [.val S, .val P, .val P, .val (.list [T1, T2, T3]), y4, y5, y6, y7, y8, y9, y10] = .rt (.bool true) := fun T1 T2 T3 y4 y5 y6 y7 y8 y9 y10 h1 h2 h3 h4 =>
    sRet_ev (e2_ev (eL_ev (fLst_ev (aCons_ev (eCall_ev (aCons_ev rfl aNil_ev) h1) (aCons_ev (eCall_ev (aCons_ev rfl aNil_ev) h2) (aCons_ev (eCall_ev (aCons_ev rfl aNil_ev) h3) aNil_ev))) (by simp))) rfl (eqD_same h4))
  by_cases hbig : 64 < pn
  · rw [decide_eq_true hbig] at hsum
    have hex := plan_big pl hok (by omega) (by omega)
    rw [← hP] at hex
    obtain ⟨x1, x2, x3⟩ := eval_ex P _ hex
    refine (sSeq_nx (e := [.val S, .val P, .val P, .val (.list [.str bigS, .str bigS, .str bigS]), .un, .un, .un, .un, .un, .un, .un]) ((sIf_t hsum).trans (sSet_ev rfl))).trans ?_
    exact fin _ _ _ _ _ _ _ _ _ _ (ask1 P _ x1) (ask2 P _ x2) (ask3 P _ x3) shaped_big
  rw [decide_eq_false hbig] at hsum
  obtain ⟨r, hr, hleft, hcar⟩ := plan_sim pl hok (by omega) (by omega)
  rw [← hP] at hleft hcar
  have c4 : sSet 4 (eCall g_Lcarried (aCons (eVar 1) aNil)) [.val S, .val P, .val P, .un, .un, .un, .un, .un, .un, .un, .un] = .nx [.val S, .val P, .val P, .un, .val (rzL r), .un, .un, .un, .un, .un, .un] := sSet_ev (eCall_ev (aCons_ev rfl aNil_ev) hcar)
  have c3 : ∀ X, sSet 3 (eL (fLst (aCons (eC (.str "plan fails")) (aCons (eC (.bool false)) (aCons (eC (.str "plan fails")) aNil))))) [.val S, .val P, .val P, .un, X, .un, .un, .un, .un, .un, .un] = .nx [.val S, .val P, .val P, .val (.list [.str failS, .bool false, .str failS]), X, .un, .un, .un, .un, .un, .un] := fun X => sSet_ev rfl
  cases r with
  | no m =>
    obtain ⟨x1, x2, x3⟩ := eval_none P hleft
    refine (sSeq_nx (e := [.val S, .val P, .val P, .val (.list [.str failS, .bool false, .str failS]), .val (.str m), .un, .un, .un, .un, .un, .un]) ((sIf_f hsum).trans ((sSeq_nx c4).trans ((sSeq_nx (c3 _)).trans ((sIf_f (not_ev (strOf (.str m) true rfl 4 _ rfl))).trans rfl))))).trans ?_
    exact fin _ _ _ _ _ _ _ _ _ _ (ask1 P _ x1) (ask2 P _ x2) (ask3 P _ x3) shaped_fail
  | ok qs =>
    obtain ⟨hq, hT, hql⟩ := hr
    obtain ⟨x1, x2, x3⟩ := eval_ok P qs hq hql hleft
    obtain ⟨L, hL⟩ : ∃ L, L = PyData.list (qs.map lD) := ⟨_, rfl⟩
    obtain ⟨ld, hld, hlay, hask⟩ : ∃ ld, (if oneB qs = true then Rz.ok (leafD qs) else .ex (.str openS)) = (if oneB qs = true then Rz.ok ld else .ex ld) ∧ (PyData.canLay0 ld = true ∧ PyData.depth ld ≤ 3) ∧ ((oneB qs = true ∧ ld = leafD qs) ∨ (oneB qs = false ∧ ld = .str openS)) := by
      cases q : oneB qs with
      | true =>
        refine ⟨leafD qs, rfl, ?_, .inl ⟨rfl, rfl⟩⟩
        cases qs with
        | nil => simp [leafD, PyData.canLay0, PyData.depth]
        | cons x xs => exact lay_mark _
      | false => exact ⟨.str openS, rfl, by simp [PyData.canLay0, PyData.depth, okOpen], .inr ⟨rfl, rfl⟩⟩
    rw [hld] at x3
    have a3 : g_Lasked__leaf_order [P] = some ld := by
      have := ask3 P _ x3
      rw [this]
      cases oneB qs <;> rfl
    have e5 : eAnd (e2 eqD (eCall lenA (aCons (eVar 4) aNil)) (eC (.int 1))) (e2 eqD (eSl (e2 ixU (eVar 4) (eC (.int 0))) oNone (oSome (eC (.int 2)))) (eTup (aCons (eC (.int 1)) (aCons (eC (.int 1)) aNil)))) [.val S, .val P, .val P, .val (.list [.str failS, .bool false, .str failS]), .val L, .un, .un, .un, .un, .un, .un] = some (.bool (oneB qs)) := by
      have hl1 : e2 eqD (eCall lenA (aCons (eVar 4) aNil)) (eC (.int 1)) [.val S, .val P, .val P, .val (.list [.str failS, .bool false, .str failS]), .val L, .un, .un, .un, .un, .un, .un] = some (.bool (decide (((qs.length : Nat) : Int) = 1))) := e2_ev ((len_l (ds := qs.map lD) (by rw [hL]; rfl)).trans (by rw [List.length_map])) rfl (eqD_int _ _)
      by_cases q : qs.length = 1
      · obtain ⟨x, rfl⟩ := List.length_eq_one_iff.mp q
        rw [decide_eq_true (by rw [q]; rfl)] at hl1
        refine eAnd_t hl1 ((e2_ev (slT_pre (ds := [.int (x.R : Nat), .int (x.C : Nat), dcD x.es]) (n := 2) (e2_ev (x := L) (y := .int 0) (d := lD x) rfl rfl (by rw [hL]; rfl)) rfl rfl (by simp)) rfl (eqD_pr (sz x) (1, 1))).trans ?_)
        unfold oneB
        congr 2
        simp
      · rw [decide_eq_false (by omega)] at hl1
        refine (eAnd_f hl1).trans ?_
        unfold oneB
        rw [decide_eq_false]
        intro h
        have := congrArg List.length h
        rw [List.length_map] at this
        exact q this
    have e6 : eIf (tTr (eVar 5)) (eCall tupA (aCons (e2 ixU (e2 ixU (e2 ixU (eVar 4) (eC (.int 0))) (eC (.int 2))) (eTup (aCons (eC (.int 0)) (aCons (eC (.int 0)) aNil)))) aNil)) (eC (.str "plan is not complete")) [.val S, .val P, .val P, .val (.list [.str failS, .bool false, .str failS]), .val L, .val (.bool (oneB qs)), .un, .un, .un, .un, .un] = some ld := by
      rcases hask with ⟨q, rfl⟩ | ⟨q, rfl⟩
      · rw [q]
        have q' := of_decide_eq_true q
        cases qs with
        | nil => cases q'
        | cons x xs =>
          have hsz : sz x = (1, 1) := by
            rw [List.map_cons] at q'
            exact (List.cons.inj q').1
          unfold sz at hsz
          rw [Prod.mk.injEq] at hsz
          have okx := hq x List.mem_cons_self
          refine eIf_t (tTr_ev (d := .bool true) rfl rfl) (eCall_ev (aCons_ev (e2_ev (x := dcD x.es) (y := keyD (0, 0)) (d := celD (ce x.p 0 0)) (e2_ev (x := lD x) (y := .int 2) (e2_ev (x := L) (y := .int 0) rfl rfl (by rw [hL]; exact ixG_l (j := 0) rfl rfl)) rfl rfl) rfl (ixU_key (okx.own.at_ 0 0 (by omega) (by omega)))) aNil_ev) rfl)
      · rw [q]
        exact eIf_f (tTr_ev (d := .bool false) rfl rfl) rfl
    have e3 : eL (fLst (aCons (eL (fCmp [10] (iSeqU (eVar 4)) (gVal 10) tYes' c_law_3)) (aCons (eVar 5) (aCons (eVar 6) aNil)))) [.val S, .val P, .val P, .val (.list [.str failS, .bool false, .str failS]), .val L, .val (.bool (oneB qs)), .val ld, .un, .un, .un, .un] = some (.list [.list (qs.map pD), .bool (oneB qs), ld]) := by
      refine eL_ev (fLst_ev (aCons_ev (eL_ev (fCmp_ev (ds := qs.map lD) (seqU_l (by rw [hL]; rfl)) (compF_mapS (k := pD) fun x hx => ⟨[.val S, .val P, .val P, .val (.list [.str failS, .bool false, .str failS]), .val L, .val (.bool (oneB qs)), .val ld, .un, .un, .un, .val (lD x)], rfl, ?_⟩) (by rw [List.length_map]; omega))) (aCons_ev rfl (aCons_ev rfl aNil_ev))) (by simp))
      have okx := hq x hx
      have r2 := okx.r2
      have c2 := okx.c2
      exact eCall_ev (aCons_ev rfl aNil_ev) (ltuples_ev okx.own (by omega) (by omega) (x.R : Nat) (x.C : Nat) rfl rfl)
    have c4' : rzL (.ok qs) = L := hL.symm
    rw [c4'] at c4
    refine (sSeq_nx (e := [.val S, .val P, .val P, .val (.list [.list (qs.map pD), .bool (oneB qs), ld]), .val L, .val (.bool (oneB qs)), .val ld, .un, .un, .un, .un]) ((sIf_f hsum).trans ((sSeq_nx c4).trans ((sSeq_nx (c3 _)).trans ((sIf_t (not_ev (strOf (.list (qs.map lD)) false rfl 4 _ (by rw [hL]; rfl)))).trans ((sSeq_nx (sSet_ev e5)).trans ((sSeq_nx (sSet_ev e6)).trans (sSet_ev e3)))))))).trans ?_
    exact fin _ _ _ _ _ _ _ _ _ _ (ask1 P _ x1) (ask2 P _ x2) a3 (shaped_dues qs _ ld hlay.1 hlay.2)
end K36

open PySem PySem.W PyProof.Rows
set_option maxHeartbeats 0 in
theorem PySem.Challenge.cw_boundbook_k36_plans_holds : PySem.Challenge.rw_boundbook_k36_plans.Holds := by
  w_on; o_law; k_head; (case hw => w_witness2)
  k_fill
  refine L2.walk_of (l := PySem.Challenge.rw_boundbook_k36_plans) (n := 63) (k := 21) (x := "script") (CX := fun _ => L2.CX0) (sp := fun w => Mir.spF _ K36.g_law) rfl (by decide) rfl ⟨rfl, by decide, by decide⟩ (fun w h Y => PySem.W.kIn_of Y) ?F (fun w H a ns hl hO hS => Mir.law_end hS (K36.law_true ns hl)) (fun _ _ _ _ _ h => h)
  case F =>
    intro w mg fa h KX G hmg
    refine' K36.all_mk KX G hmg ?a_turn_layer ?l_turn_layer ?c_turn_layer ?k_turn_layer ?a_sheet_packet ?l_sheet_packet ?c_sheet_packet ?k_sheet_packet ?a_size_of ?l_size_of ?c_size_of ?k_size_of ?a_turn_cell ?l_turn_cell ?c_turn_cell ?k_turn_cell ?a_turn ?l_turn ?c_turn ?k_turn ?a_is_inside ?l_is_inside ?c_is_inside ?k_is_inside ?a_columns_from ?l_columns_from ?c_columns_from ?k_columns_from ?a_divide ?l_divide ?c_divide ?k_divide ?a_cut ?l_cut ?c_cut ?k_cut ?a_lay_row ?l_lay_row ?c_lay_row ?k_lay_row ?a_lay ?l_lay ?c_lay ?k_lay ?a_backwards ?l_backwards ?c_backwards ?k_backwards ?a_lay_at ?l_lay_at ?c_lay_at ?k_lay_at ?a_fold ?l_fold ?c_fold ?k_fold ?a_stack ?l_stack ?c_stack ?k_stack ?a_pile ?l_pile ?c_pile ?k_pile ?a_sheets_of ?l_sheets_of ?c_sheets_of ?k_sheets_of ?a_panel_count ?l_panel_count ?c_panel_count ?k_panel_count ?a_work_packet ?l_work_packet ?c_work_packet ?k_work_packet ?a_take ?l_take ?c_take ?k_take ?a_pile_last ?l_pile_last ?c_pile_last ?k_pile_last ?a_work ?l_work ?c_work ?k_work ?a_carry_out ?l_carry_out ?c_carry_out ?k_carry_out ?a_packets_left ?l_packets_left ?c_packets_left ?k_packets_left ?a_is_single_cell ?l_is_single_cell ?c_is_single_cell ?k_is_single_cell ?a_evaluate ?l_evaluate ?c_evaluate ?k_evaluate ?a_is_complete ?l_is_complete ?c_is_complete ?k_is_complete ?a_leaf_order ?l_leaf_order ?c_leaf_order ?k_leaf_order ?a_Lcell ?l_Lcell ?c_Lcell ?k_Lcell ?a_Ldraws ?l_Ldraws ?c_Ldraws ?k_Ldraws ?a_Lflip ?l_Lflip ?c_Lflip ?k_Lflip ?a_Lsheet ?l_Lsheet ?c_Lsheet ?k_Lsheet ?a_Lturned ?l_Lturned ?c_Lturned ?k_Lturned ?a_Lregion ?l_Lregion ?c_Lregion ?k_Lregion ?a_Lsplit ?l_Lsplit ?c_Lsplit ?k_Lsplit ?a_Llaid ?l_Llaid ?c_Llaid ?k_Llaid ?a_Lmoved ?l_Lmoved ?c_Lmoved ?k_Lmoved ?a_Linside ?l_Linside ?c_Linside ?k_Linside ?a_Ltuples ?l_Ltuples ?c_Ltuples ?k_Ltuples ?a_Lstep ?l_Lstep ?c_Lstep ?k_Lstep ?a_Lfinishing_steps ?l_Lfinishing_steps ?c_Lfinishing_steps ?k_Lfinishing_steps ?a_Lcomplete_plan ?l_Lcomplete_plan ?c_Lcomplete_plan ?k_Lcomplete_plan ?a_Lpiled ?l_Lpiled ?c_Lpiled ?k_Lpiled ?a_Lperformed ?l_Lperformed ?c_Lperformed ?k_Lperformed ?a_Lcarried ?l_Lcarried ?c_Lcarried ?k_Lcarried ?a_Lsheets ?l_Lsheets ?c_Lsheets ?k_Lsheets ?a_Lany_step ?l_Lany_step ?c_Lany_step ?k_Lany_step ?a_Lasked__evaluate ?l_Lasked__evaluate ?c_Lasked__evaluate ?k_Lasked__evaluate ?a_Lasked__is_complete ?l_Lasked__is_complete ?c_Lasked__is_complete ?k_Lasked__is_complete ?a_Lasked__leaf_order ?l_Lasked__leaf_order ?c_Lasked__leaf_order ?k_Lasked__leaf_order ?a_law ?l_law ?c_law ?k_law ?z_range ?z_tuple ?z_len ?z_zip ?z_any ?z_sum ?z_list ?z_max ?z_isinstance ?z_str ?z_int ?y_MOST_PANELS ?qgC ?qcls ?qbm ?qsa ?qga ?qgg ?qnoN ?qiC ?qtC ?qkC ?qexC ?qtyC ?qhdC ?qic ?qsC ?qsup ?qopq ?qsIn ?qhB ?qmro ?qtop ?qfn ?qcd ?qco ?qvs ?qfile ?qcell
    (case a_turn_layer => k_is)
    (case l_turn_layer => k_is)
    (case c_turn_layer => k_is)
    (case k_turn_layer => k_is)
    (case a_sheet_packet => k_is)
    (case l_sheet_packet => k_is)
    (case c_sheet_packet => k_is)
    (case k_sheet_packet => k_is)
    (case a_size_of => k_is)
    (case l_size_of => k_is)
    (case c_size_of => k_is)
    (case k_size_of => k_is)
    (case a_turn_cell => k_is)
    (case l_turn_cell => k_is)
    (case c_turn_cell => k_is)
    (case k_turn_cell => k_is)
    (case a_turn => k_is)
    (case l_turn => k_is)
    (case c_turn => k_is)
    (case k_turn => k_is)
    (case a_is_inside => k_is)
    (case l_is_inside => k_is)
    (case c_is_inside => k_is)
    (case k_is_inside => k_is)
    (case a_columns_from => k_is)
    (case l_columns_from => k_is)
    (case c_columns_from => k_is)
    (case k_columns_from => k_is)
    (case a_divide => k_is)
    (case l_divide => k_is)
    (case c_divide => k_is)
    (case k_divide => k_is)
    (case a_cut => k_is)
    (case l_cut => k_is)
    (case c_cut => k_is)
    (case k_cut => k_is)
    (case a_lay_row => k_is)
    (case l_lay_row => k_is)
    (case c_lay_row => k_is)
    (case k_lay_row => k_is)
    (case a_lay => k_is)
    (case l_lay => k_is)
    (case c_lay => k_is)
    (case k_lay => k_is)
    (case a_backwards => k_is)
    (case l_backwards => k_is)
    (case c_backwards => k_is)
    (case k_backwards => k_is)
    (case a_lay_at => k_is)
    (case l_lay_at => k_is)
    (case c_lay_at => k_is)
    (case k_lay_at => k_is)
    (case a_fold => k_is)
    (case l_fold => k_is)
    (case c_fold => k_is)
    (case k_fold => k_is)
    (case a_stack => k_is)
    (case l_stack => k_is)
    (case c_stack => k_is)
    (case k_stack => k_is)
    (case a_pile => k_is)
    (case l_pile => k_is)
    (case c_pile => k_is)
    (case k_pile => k_is)
    (case a_sheets_of => k_is)
    (case l_sheets_of => k_is)
    (case c_sheets_of => k_is)
    (case k_sheets_of => k_is)
    (case a_panel_count => k_is)
    (case l_panel_count => k_is)
    (case c_panel_count => k_is)
    (case k_panel_count => k_is)
    (case a_work_packet => k_is)
    (case l_work_packet => k_is)
    (case c_work_packet => k_is)
    (case k_work_packet => k_is)
    (case a_take => k_is)
    (case l_take => k_is)
    (case c_take => k_is)
    (case k_take => k_is)
    (case a_pile_last => k_is)
    (case l_pile_last => k_is)
    (case c_pile_last => k_is)
    (case k_pile_last => k_is)
    (case a_work => k_is)
    (case l_work => k_is)
    (case c_work => k_is)
    (case k_work => k_is)
    (case a_carry_out => k_is)
    (case l_carry_out => k_is)
    (case c_carry_out => k_is)
    (case k_carry_out => k_is)
    (case a_packets_left => k_is)
    (case l_packets_left => k_is)
    (case c_packets_left => k_is)
    (case k_packets_left => k_is)
    (case a_is_single_cell => k_is)
    (case l_is_single_cell => k_is)
    (case c_is_single_cell => k_is)
    (case k_is_single_cell => k_is)
    (case a_evaluate => k_is)
    (case l_evaluate => k_is)
    (case c_evaluate => k_is)
    (case k_evaluate => k_is)
    (case a_is_complete => k_is)
    (case l_is_complete => k_is)
    (case c_is_complete => k_is)
    (case k_is_complete => k_is)
    (case a_leaf_order => k_is)
    (case l_leaf_order => k_is)
    (case c_leaf_order => k_is)
    (case k_leaf_order => k_is)
    (case a_Lcell => k_is)
    (case l_Lcell => k_is)
    (case c_Lcell => k_is)
    (case k_Lcell => k_is)
    (case a_Ldraws => k_is)
    (case l_Ldraws => k_is)
    (case c_Ldraws => k_is)
    (case k_Ldraws => k_is)
    (case a_Lflip => k_is)
    (case l_Lflip => k_is)
    (case c_Lflip => k_is)
    (case k_Lflip => k_is)
    (case a_Lsheet => k_is)
    (case l_Lsheet => k_is)
    (case c_Lsheet => k_is)
    (case k_Lsheet => k_is)
    (case a_Lturned => k_is)
    (case l_Lturned => k_is)
    (case c_Lturned => k_is)
    (case k_Lturned => k_is)
    (case a_Lregion => k_is)
    (case l_Lregion => k_is)
    (case c_Lregion => k_is)
    (case k_Lregion => k_is)
    (case a_Lsplit => k_is)
    (case l_Lsplit => k_is)
    (case c_Lsplit => k_is)
    (case k_Lsplit => k_is)
    (case a_Llaid => k_is)
    (case l_Llaid => k_is)
    (case c_Llaid => k_is)
    (case k_Llaid => k_is)
    (case a_Lmoved => k_is)
    (case l_Lmoved => k_is)
    (case c_Lmoved => k_is)
    (case k_Lmoved => k_is)
    (case a_Linside => k_is)
    (case l_Linside => k_is)
    (case c_Linside => k_is)
    (case k_Linside => k_is)
    (case a_Ltuples => k_is)
    (case l_Ltuples => k_is)
    (case c_Ltuples => k_is)
    (case k_Ltuples => k_is)
    (case a_Lstep => k_is)
    (case l_Lstep => k_is)
    (case c_Lstep => k_is)
    (case k_Lstep => k_is)
    (case a_Lfinishing_steps => k_is)
    (case l_Lfinishing_steps => k_is)
    (case c_Lfinishing_steps => k_is)
    (case k_Lfinishing_steps => k_is)
    (case a_Lcomplete_plan => k_is)
    (case l_Lcomplete_plan => k_is)
    (case c_Lcomplete_plan => k_is)
    (case k_Lcomplete_plan => k_is)
    (case a_Lpiled => k_is)
    (case l_Lpiled => k_is)
    (case c_Lpiled => k_is)
    (case k_Lpiled => k_is)
    (case a_Lperformed => k_is)
    (case l_Lperformed => k_is)
    (case c_Lperformed => k_is)
    (case k_Lperformed => k_is)
    (case a_Lcarried => k_is)
    (case l_Lcarried => k_is)
    (case c_Lcarried => k_is)
    (case k_Lcarried => k_is)
    (case a_Lsheets => k_is)
    (case l_Lsheets => k_is)
    (case c_Lsheets => k_is)
    (case k_Lsheets => k_is)
    (case a_Lany_step => k_is)
    (case l_Lany_step => k_is)
    (case c_Lany_step => k_is)
    (case k_Lany_step => k_is)
    (case a_Lasked__evaluate => k_is)
    (case l_Lasked__evaluate => k_is)
    (case c_Lasked__evaluate => k_is)
    (case k_Lasked__evaluate => k_is)
    (case a_Lasked__is_complete => k_is)
    (case l_Lasked__is_complete => k_is)
    (case c_Lasked__is_complete => k_is)
    (case k_Lasked__is_complete => k_is)
    (case a_Lasked__leaf_order => k_is)
    (case l_Lasked__leaf_order => k_is)
    (case c_Lasked__leaf_order => k_is)
    (case k_Lasked__leaf_order => k_is)
    (case a_law => k_is)
    (case l_law => k_is)
    (case c_law => k_is)
    (case k_law => k_is)
    (case z_range => k_is)
    (case z_tuple => k_is)
    (case z_len => k_is)
    (case z_zip => k_is)
    (case z_any => k_is)
    (case z_sum => k_is)
    (case z_list => k_is)
    (case z_max => k_is)
    (case z_isinstance => k_is)
    (case z_str => k_is)
    (case z_int => k_is)
    (case y_MOST_PANELS => k_is)
    (case qgC => k_is)
    (case qcls => k_is)
    (case qbm => first | rfl | kernel_rfl | decide +kernel | k_is)
    (case qsa => k_is)
    (case qga => k_is)
    (case qgg => k_is)
    (case qnoN => k_is)
    (case qiC => k_is)
    (case qtC => k_is)
    (case qkC => k_is)
    (case qexC => k_is)
    (case qtyC => k_is)
    (case qhdC => k_is)
    (case qic => k_is)
    (case qsC => k_is)
    (case qsup => k_is)
    (case qopq => k_is)
    (case qsIn => ks_is)
    (case qhB => k_is)
    (case qmro => k_is)
    (case qtop => first | rfl | kernel_rfl | decide +kernel | k_is)
    (case qfn => k_is)
    (case qcd => k_is)
    (case qco => k_is)
    (case qvs => first | rfl | kernel_rfl | decide +kernel | k_is)
    (case qfile => first | rfl | kernel_rfl | decide +kernel | k_is)
    (case qcell => k_is)


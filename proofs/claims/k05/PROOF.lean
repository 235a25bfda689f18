import PyProof.Rows.All
import Wide.All
import OpenK.AllK
import Wide.FinOn
import HandS.ForMost
import HandS.Deep
import HandS.TupAny
import KE.DatumOrd
import HandS.SortKw
import HandS.IsInst
import KE.GoesEnum
import HandS.Zip
import HandS.TupMul
import HandS.Style
import KE.KRevSl
import HandS.Dict
import HandS.ForExc
import KE.KExcSuper
import HandS.TryOnly
import HandS.WideBits
import HandS.More
import HandS.CallLocal
import KE.DataMinKey
import HandS.FStr
import HandS.Strs
import KE.KExcIs
import PySem.Challenge.RW_boundbook_k05_tables
set_option Elab.async false
set_option linter.all false
set_option maxRecDepth 100000
set_option maxHeartbeats 8000000
/-! Mir: pure data (PyData) for what a def handles, an environment by slots with lists that are owned, and what a piece of code does to it. -/
namespace Mir
open PySem PySem.Spec PyProof.Rows L2

/-! ### data in the heap; S: where its lists may stand -/
/-- a list of the written part -/
def KL (K : PySem.W.Frag) (a : Addr) (xs : List V) : Prop := ∃ (o : Obj) (its : Array Value) (n : Nat), K.lookup a = some o ∧ o.cls = .type "list" ∧ o.dict = none ∧ o.data = .seq its n ∧ its.size ≤ sizeLine ∧ Vals xs its.toList
def LsAt (K : PySem.W.Frag) (S : Addr → Prop) (H : Hp) (a : Addr) (xs : List V) : Prop := (S a ∧ Rd H a (.lst xs)) ∨ KL K a xs
theorem LsAt.sq {K : PySem.W.Frag} {S : Addr → Prop} {H : Hp} {a : Addr} {xs : List V} (h : LsAt K S H a xs) : SqL K H a xs := h.imp (fun z => z.2) id
theorem LsAt.of {K : PySem.W.Frag} {S : Addr → Prop} {H : Hp} {a : Addr} {xs : List V} (s : S a) (h : SqL K H a xs) : LsAt K S H a xs := h.imp (fun z => ⟨s, z⟩) id
/-- what never changes, and is no tuple -/
def fz : HO → Bool
  | .frz _ _ => true
  | .xd _ => true
  | _ => false
/-- keys as data -/
def kdD : Key → PyData
  | .inl i => .int i
  | .inr x => .str x
def kdT (k : List Key) : PyData := .tuple (k.map kdD)
mutual
def Rp (K : PySem.W.Frag) (S : Addr → Prop) (H : Hp) : PyData → V → Prop
  | .none, v => v = .non
  | .bool b, v => v = .bl b
  | .int i, v => v = .int i
  | .str x, v => v = .str x
  | .list ds, v => ∃ a xs, v = .ref a ∧ LsAt K S H a xs ∧ RpA K S H ds xs
  | .tuple ds, v => ∃ a xs, v = .ref a ∧ H a = some (.tup xs) ∧ RpA K S H ds xs
  | .dict kvs, v => ∃ a od, v = .ref a ∧ ((∃ ws, H a = some (.frz od (.dT ws)) ∧ RpD K S H (List Key) kdT kvs ws) ∨ ∃ ws, H a = some (.frz od (.dK ws)) ∧ RpD K S H Key kdD kvs ws)
def RpA (K : PySem.W.Frag) (S : Addr → Prop) (H : Hp) : List PyData → List V → Prop
  | [], vs => vs = []
  | d :: ds, vs => ∃ v r, vs = v :: r ∧ Rp K S H d v ∧ RpA K S H ds r
def RpD (K : PySem.W.Frag) (S : Addr → Prop) (H : Hp) (κ : Type) (kd : κ → PyData) : List (PyData × PyData) → List (κ × V) → Prop
  | [], vs => vs = []
  | (k, d) :: ds, vs => ∃ q v r, vs = (q, v) :: r ∧ k = kd q ∧ Rp K S H d v ∧ RpD K S H κ kd ds r
end
section
variable {K : PySem.W.Frag} {S S' : Addr → Prop} {H H' : Hp}
mutual
theorem Rp.mono (hL : ∀ a xs, S a → Rd H a (.lst xs) → S' a ∧ Rd H' a (.lst xs)) (hT : ∀ a xs, H a = some (.tup xs) → H' a = some (.tup xs)) (hD : ∀ a u, fz u = true → H a = some u → H' a = some u) : ∀ (d : PyData) (v : V), Rp K S H d v → Rp K S' H' d v
  | .none, _, h => by rw [Rp] at h ⊢; exact h
  | .bool _, _, h => by rw [Rp] at h ⊢; exact h
  | .int _, _, h => by rw [Rp] at h ⊢; exact h
  | .str _, _, h => by rw [Rp] at h ⊢; exact h
  | .list ds, _, h => by
    rw [Rp] at h ⊢
    obtain ⟨a, xs, e, q, r⟩ := h
    exact ⟨a, xs, e, q.imp (fun z => hL a xs z.1 z.2) id, RpA.mono hL hT hD ds xs r⟩
  | .tuple ds, _, h => by
    rw [Rp] at h ⊢
    obtain ⟨a, xs, e, q, r⟩ := h
    exact ⟨a, xs, e, hT a xs q, RpA.mono hL hT hD ds xs r⟩
  | .dict kvs, _, h => by
    rw [Rp] at h ⊢
    obtain ⟨a, od, e, q⟩ := h
    refine ⟨a, od, e, ?_⟩
    rcases q with ⟨ws, q, r⟩ | ⟨ws, q, r⟩
    · exact .inl ⟨ws, hD _ _ rfl q, RpD.mono hL hT hD _ _ kvs ws r⟩
    · exact .inr ⟨ws, hD _ _ rfl q, RpD.mono hL hT hD _ _ kvs ws r⟩
theorem RpA.mono (hL : ∀ a xs, S a → Rd H a (.lst xs) → S' a ∧ Rd H' a (.lst xs)) (hT : ∀ a xs, H a = some (.tup xs) → H' a = some (.tup xs)) (hD : ∀ a u, fz u = true → H a = some u → H' a = some u) : ∀ (ds : List PyData) (vs : List V), RpA K S H ds vs → RpA K S' H' ds vs
  | [], _, h => by rw [RpA] at h ⊢; exact h
  | d :: ds, _, h => by
    rw [RpA] at h ⊢
    obtain ⟨v, r, e, h1, h2⟩ := h
    exact ⟨v, r, e, Rp.mono hL hT hD d v h1, RpA.mono hL hT hD ds r h2⟩
theorem RpD.mono (hL : ∀ a xs, S a → Rd H a (.lst xs) → S' a ∧ Rd H' a (.lst xs)) (hT : ∀ a xs, H a = some (.tup xs) → H' a = some (.tup xs)) (hD : ∀ a u, fz u = true → H a = some u → H' a = some u) (κ : Type) (kd : κ → PyData) : ∀ (ds : List (PyData × PyData)) (vs : List (κ × V)), RpD K S H κ kd ds vs → RpD K S' H' κ kd ds vs
  | [], _, h => by rw [RpD] at h ⊢; exact h
  | (k, d) :: ds, _, h => by
    rw [RpD] at h ⊢
    obtain ⟨q, v, r, e, ek, h1, h2⟩ := h
    exact ⟨q, v, r, e, ek, Rp.mono hL hT hD d v h1, RpD.mono hL hT hD κ kd ds r h2⟩
end
theorem same_d (e : Same H H') : ∀ a u, fz u = true → H a = some u → H' a = some u := fun a u _ h => e _ _ h
theorem same_rd {a : Addr} {u : HO} (e : Same H H') (h : Rd H a u) : Rd H' a u := by
  rcases h with h | ⟨o, h⟩
  · exact .inl (e _ _ h)
  · exact .inr ⟨o, e _ _ h⟩
theorem same_t {a : Addr} {xs : List V} (e : Same H H') (h : H a = some (.tup xs)) : H' a = some (.tup xs) := e _ _ h
theorem live_t {a : Addr} {xs : List V} (h : H a = some (.tup xs)) : SqT K H a xs := .inl (.inl h)
theorem Rp.grow (e : Same H H') {d : PyData} {v : V} (h : Rp K S H d v) : Rp K S H' d v := Rp.mono (fun _ _ s q => ⟨s, same_rd e q⟩) (fun _ _ q => same_t e q) (same_d e) d v h
theorem RpA.grow (e : Same H H') {ds : List PyData} {vs : List V} (h : RpA K S H ds vs) : RpA K S H' ds vs := RpA.mono (fun _ _ s q => ⟨s, same_rd e q⟩) (fun _ _ q => same_t e q) (same_d e) ds vs h
theorem RpD.grow (e : Same H H') {κ : Type} {kd : κ → PyData} {ds : List (PyData × PyData)} {vs : List (κ × V)} (h : RpD K S H κ kd ds vs) : RpD K S H' κ kd ds vs := RpD.mono (fun _ _ s q => ⟨s, same_rd e q⟩) (fun _ _ q => same_t e q) (same_d e) κ kd ds vs h
theorem Rp.wide (w : ∀ a, S a → S' a) {d : PyData} {v : V} (h : Rp K S H d v) : Rp K S' H d v := Rp.mono (fun _ _ s q => ⟨w _ s, q⟩) (fun _ _ q => q) (fun _ _ _ q => q) d v h
theorem RpA.wide (w : ∀ a, S a → S' a) {ds : List PyData} {vs : List V} (h : RpA K S H ds vs) : RpA K S' H ds vs := RpA.mono (fun _ _ s q => ⟨w _ s, q⟩) (fun _ _ q => q) (fun _ _ _ q => q) ds vs h
theorem RpD.wide (w : ∀ a, S a → S' a) {κ : Type} {kd : κ → PyData} {ds : List (PyData × PyData)} {vs : List (κ × V)} (h : RpD K S H κ kd ds vs) : RpD K S' H κ kd ds vs := RpD.mono (fun _ _ s q => ⟨w _ s, q⟩) (fun _ _ q => q) (fun _ _ _ q => q) κ kd ds vs h
theorem RpA.length : ∀ {ds : List PyData} {vs : List V}, RpA K S H ds vs → vs.length = ds.length
  | [], _, h => by rw [RpA] at h; rw [h]; rfl
  | d :: ds, _, h => by
    rw [RpA] at h
    obtain ⟨v, r, e, _, h2⟩ := h
    rw [e, List.length_cons, List.length_cons, RpA.length h2]
theorem RpA.get : ∀ {ds : List PyData} {vs : List V} {i : Nat} {d : PyData}, RpA K S H ds vs → ds[i]? = some d → ∃ v, vs[i]? = some v ∧ Rp K S H d v
  | [], _, _, _, _, e => by simp at e
  | d :: ds, _, 0, d', h, e => by
    rw [RpA] at h
    obtain ⟨v, r, rfl, h1, _⟩ := h
    simp at e
    subst e
    exact ⟨v, rfl, h1⟩
  | d :: ds, _, i + 1, d', h, e => by
    rw [RpA] at h
    obtain ⟨v, r, rfl, _, h2⟩ := h
    obtain ⟨u, e1, e2⟩ := RpA.get (i := i) (d := d') h2 (by simpa using e)
    exact ⟨u, by simpa using e1, e2⟩
theorem RpA.append : ∀ {ds es : List PyData} {vs us : List V}, RpA K S H ds vs → RpA K S H es us → RpA K S H (ds ++ es) (vs ++ us)
  | [], _, _, _, h, g => by rw [RpA] at h; subst h; exact g
  | d :: ds, _, _, _, h, g => by
    rw [RpA] at h
    obtain ⟨v, r, rfl, h1, h2⟩ := h
    show RpA K S H (d :: (ds ++ _)) (v :: (r ++ _))
    rw [RpA]
    exact ⟨v, _, rfl, h1, RpA.append h2 g⟩
theorem RpA.nil : RpA K S H [] [] := by rw [RpA]
theorem RpA.cons {d : PyData} {v : V} {ds : List PyData} {vs : List V} (h : Rp K S H d v) (g : RpA K S H ds vs) : RpA K S H (d :: ds) (v :: vs) := by
  rw [RpA]
  exact ⟨v, vs, rfl, h, g⟩
theorem RpA.set : ∀ {ds : List PyData} {vs : List V} {i : Nat} {d : PyData} {v : V}, RpA K S H ds vs → Rp K S H d v → RpA K S H (ds.set i d) (vs.set i v)
  | [], _, _, _, _, h, _ => by rw [RpA] at h; subst h; exact RpA.nil
  | e :: ds, _, 0, d', v', h, g => by
    rw [RpA] at h
    obtain ⟨v, r, rfl, h1, h2⟩ := h
    exact RpA.cons g h2
  | e :: ds, _, i + 1, d', v', h, g => by
    rw [RpA] at h
    obtain ⟨v, r, rfl, h1, h2⟩ := h
    exact RpA.cons h1 (RpA.set h2 g)
theorem RpA.take : ∀ {ds : List PyData} {vs : List V} (n : Nat), RpA K S H ds vs → RpA K S H (ds.take n) (vs.take n)
  | _, _, 0, _ => by simpa using RpA.nil
  | [], _, n + 1, h => by rw [RpA] at h; subst h; exact RpA.nil
  | e :: ds, _, n + 1, h => by
    rw [RpA] at h
    obtain ⟨v, r, rfl, h1, h2⟩ := h
    exact RpA.cons h1 (RpA.take n h2)
theorem RpA.drop : ∀ {ds : List PyData} {vs : List V} (n : Nat), RpA K S H ds vs → RpA K S H (ds.drop n) (vs.drop n)
  | _, _, 0, h => by simpa using h
  | [], _, n + 1, h => by rw [RpA] at h; subst h; exact RpA.nil
  | e :: ds, _, n + 1, h => by
    rw [RpA] at h
    obtain ⟨v, r, rfl, h1, h2⟩ := h
    exact RpA.drop n h2
mutual
/-- no dict in it -/
def noD : PyData → Bool
  | .list ds => noDA ds
  | .tuple ds => noDA ds
  | .dict _ => false
  | .none => true
  | .bool _ => true
  | .int _ => true
  | .str _ => true
def noDA : List PyData → Bool
  | [] => true
  | d :: ds => noD d && noDA ds
end
mutual
theorem Rp.dp0 : ∀ (d : PyData) (v : V), noD d = true → Rp K S H d v → Dp K H v d
  | .none, _, _, h => by rw [Rp] at h; subst h; exact .non
  | .bool b, _, _, h => by rw [Rp] at h; subst h; exact .bl b
  | .int i, _, _, h => by rw [Rp] at h; subst h; exact .int i
  | .str x, _, _, h => by rw [Rp] at h; subst h; exact .str x
  | .list ds, _, n, h => by
    rw [Rp] at h
    rw [noD] at n
    obtain ⟨a, xs, rfl, q, r⟩ := h
    exact .lst q.sq (RpA.dp0 ds xs n r)
  | .tuple ds, _, n, h => by
    rw [Rp] at h
    rw [noD] at n
    obtain ⟨a, xs, rfl, q, r⟩ := h
    exact .tup (live_t q) (RpA.dp0 ds xs n r)
  | .dict _, _, n, _ => by rw [noD] at n; cases n
theorem RpA.dp0 : ∀ (ds : List PyData) (vs : List V), noDA ds = true → RpA K S H ds vs → DpAll K H vs ds
  | [], _, _, h => by rw [RpA] at h; subst h; exact .nil
  | d :: ds, _, n, h => by
    rw [RpA] at h
    rw [noDA, Bool.and_eq_true] at n
    obtain ⟨v, r, rfl, h1, h2⟩ := h
    exact .cons (Rp.dp0 d v n.1 h1) (RpA.dp0 ds r n.2 h2)
end
mutual
theorem noD_lay : ∀ d : PyData, d.canLay0 = true → noD d = true
  | .none, _ => by rw [noD]
  | .bool _, _ => by rw [noD]
  | .int _, _ => by rw [noD]
  | .str _, _ => by rw [noD]
  | .list ds, h => by rw [noD]; exact noDA_lay ds (by simpa [PyData.canLay0] using h)
  | .tuple ds, h => by rw [noD]; exact noDA_lay ds (by simpa [PyData.canLay0] using h)
  | .dict _, h => by simp [PyData.canLay0] at h
theorem noDA_lay : ∀ ds : List PyData, PyData.canLayAll0 ds = true → noDA ds = true
  | [], _ => by rw [noDA]
  | d :: ds, h => by
    simp only [PyData.canLayAll0, Bool.and_eq_true] at h
    rw [noDA, noD_lay d h.1, noDA_lay ds h.2]; rfl
end
theorem Rp.dp {d : PyData} {v : V} (h : Rp K S H d v) (s : SeqAt.shaped d = true) : Dp K H v d := Rp.dp0 d v (noD_lay d (by
  unfold SeqAt.shaped at s
  rw [Bool.and_eq_true] at s
  exact s.1)) h
/-! data without lists -/
mutual
def noL : PyData → Bool
  | .list _ => false
  | .tuple ds => noLA ds
  | .dict _ => false
  | .none => true
  | .bool _ => true
  | .int _ => true
  | .str _ => true
def noLA : List PyData → Bool
  | [] => true
  | d :: ds => noL d && noLA ds
end
mutual
theorem Rp.noL : ∀ (d : PyData) (v : V), noL d = true → Rp K S H d v → Rp K S' H d v
  | .none, _, _, h => by rw [Rp] at h ⊢; exact h
  | .bool _, _, _, h => by rw [Rp] at h ⊢; exact h
  | .int _, _, _, h => by rw [Rp] at h ⊢; exact h
  | .str _, _, _, h => by rw [Rp] at h ⊢; exact h
  | .list ds, _, n, _ => by rw [Mir.noL] at n; cases n
  | .tuple ds, _, n, h => by
    rw [Rp] at h ⊢
    rw [Mir.noL] at n
    obtain ⟨a, xs, e, q, r⟩ := h
    exact ⟨a, xs, e, q, RpA.noL ds xs n r⟩
  | .dict _, _, n, _ => by rw [Mir.noL] at n; cases n
theorem RpA.noL : ∀ (ds : List PyData) (vs : List V), noLA ds = true → RpA K S H ds vs → RpA K S' H ds vs
  | [], _, _, h => by rw [RpA] at h ⊢; exact h
  | d :: ds, _, n, h => by
    rw [RpA] at h ⊢
    rw [noLA, Bool.and_eq_true] at n
    obtain ⟨v, r, e, h1, h2⟩ := h
    exact ⟨v, r, e, Rp.noL d v n.1 h1, RpA.noL ds r n.2 h2⟩
end
end

/-! ### the environment -/
inductive Sl where
  | un
  | val (d : PyData)
  | own (ds : List PyData)
  | ownT (kvs : List (PyData × PyData))
  | ownK (kvs : List (PyData × PyData))
  | exc (a dd : Addr) (d : PyData)
  | fn (a : Addr)
def ow : Sl → Bool
  | .own _ => true
  | .ownT _ => true
  | .ownK _ => true
  | _ => false
def isMut : HO → Bool
  | .lst _ => true
  | .dT _ => true
  | .dK _ => true
  | _ => false
abbrev En := List Sl
def Bd (S0 : Addr → Prop) (H0 : Hp) : Addr → Prop := fun a => S0 a ∨ H0 a = none
def Cl (S0 : Addr → Prop) (H0 : Hp) (A : Addr → Prop) : Addr → Prop := fun a => Bd S0 H0 a ∧ ¬ A a
def SC (c : Bool) (S0 : Addr → Prop) (H0 : Hp) (A : Addr → Prop) : Addr → Prop := fun a => c = true → Cl S0 H0 A a
def SlOk (K : PySem.W.Frag) (S A : Addr → Prop) (H : Hp) : Sl → V → Prop
  | .un, _ => True
  | .val d, v => Rp K S H d v
  | .own ds, v => ∃ a xs, v = .ref a ∧ A a ∧ H a = some (.lst xs) ∧ RpA K S H ds xs
  | .ownT kvs, v => ∃ a ws, v = .ref a ∧ A a ∧ H a = some (.dT ws) ∧ RpD K S H (List Key) kdT kvs ws
  | .ownK kvs, v => ∃ a ws, v = .ref a ∧ A a ∧ H a = some (.dK ws) ∧ RpD K S H Key kdD kvs ws
  | .exc a dd d, v => v = .ref a ∧ ∃ u, H dd = some (.xd [(("what" : Str), u)]) ∧ Rp K S H d u
  | .fn a, v => v = .ref a
structure EnvOk (K : PySem.W.Frag) (S0 : Addr → Prop) (H0 : Hp) (A : Addr → Prop) (H : Hp) (σ : L2.St) (env : En) : Prop where
  len : σ.length = env.length
  sl : ∀ (i : Nat) (s : Sl), env[i]? = some s → s = .un ∨ ∃ v, σ[i]? = some (some v) ∧ SlOk K (Cl S0 H0 A) A H s v
  dis : ∀ (i j : Nat) (s t : Sl) (a : Addr), env[i]? = some s → env[j]? = some t → ow s = true → ow t = true → σ[i]? = some (some (.ref a)) → σ[j]? = some (some (.ref a)) → i = j
  tr : ∀ a, A a → ∃ u, H a = some u ∧ isMut u = true
  nw : ∀ a, A a → H0 a = none
  same : Same H0 H
def Fr (A : Addr → Prop) (H H' : Hp) : Prop := ∀ a o, H a = some o → ¬ A a → H' a = some o
def Sb (A : Addr → Prop) (H : Hp) (A' : Addr → Prop) : Prop := ∀ a, A' a → A a ∨ H a = none
section
variable {K : PySem.W.Frag} {S0 S : Addr → Prop} {H0 H H' H'' : Hp} {A A' A'' : Addr → Prop} {σ : L2.St} {env : En}
theorem Fr.of_same (e : Same H H') : Fr A H H' := fun a o h _ => e a o h
theorem Fr.refl : Fr A H H := fun _ _ h _ => h
theorem Sb.refl : Sb A H A := fun _ h => .inl h
theorem Fr.trans (h1 : Fr A H H') (s1 : Sb A H A') (h2 : Fr A' H' H'') : Fr A H H'' := fun a o h n => h2 a o (h1 a o h n) fun z => by
  rcases s1 a z with q | q
  · exact n q
  · rw [h] at q; cases q
theorem Sb.trans (h1 : Fr A H H') (s1 : Sb A H A') (s2 : Sb A' H' A'') : Sb A H A'' := fun a z => by
  rcases s2 a z with q | q
  · exact s1 a q
  · cases e : H a with
    | none => exact .inr rfl
    | some o =>
      by_cases n : A a
      · exact .inl n
      · rw [h1 a o e n] at q; cases q
theorem fz_mut {u : HO} (h : fz u = true) (m : isMut u = true) : False := by
  cases u <;> first | (cases h; done) | (cases m; done)
theorem EnvOk.no_frz (E : EnvOk K S0 H0 A H σ env) {a : Addr} {u : HO} (z : fz u = true) (ha : A a) (h : H a = some u) : False := by
  obtain ⟨w, e, m⟩ := E.tr a ha
  rw [h] at e; cases e; exact fz_mut z m
theorem EnvOk.no_tup (E : EnvOk K S0 H0 A H σ env) {a : Addr} {xs : List V} (ha : A a) (h : H a = some (.tup xs)) : False := by
  obtain ⟨w, e, m⟩ := E.tr a ha
  rw [h] at e; cases e; cases m
theorem cl_new (E : EnvOk K S0 H0 A H σ env) {p : Addr} (h : H p = none) : Cl S0 H0 A p := by
  refine ⟨.inr (E.same.free h), fun z => ?_⟩
  obtain ⟨u, q, _⟩ := E.tr p z
  rw [h] at q; cases q
theorem sc_new (E : EnvOk K S0 H0 A H σ env) {c : Bool} {p : Addr} (h : H p = none) : SC c S0 H0 A p := fun _ => cl_new E h
theorem SlOk.mono {S' : Addr → Prop} (hL : ∀ a xs, S a → Rd H a (.lst xs) → S' a ∧ Rd H' a (.lst xs)) (hT : ∀ a xs, H a = some (.tup xs) → H' a = some (.tup xs)) (hD : ∀ a u, fz u = true → H a = some u → H' a = some u) (hA : ∀ a u, A a → H a = some u → isMut u = true → A' a ∧ H' a = some u) {s : Sl} {v : V} (h : SlOk K S A H s v) : SlOk K S' A' H' s v := by
  cases s with
  | un => trivial
  | val d => exact Rp.mono hL hT hD d v h
  | own ds =>
    obtain ⟨a, xs, e1, ha, hh, r⟩ := h
    obtain ⟨k1, k2⟩ := hA a _ ha hh rfl
    exact ⟨a, xs, e1, k1, k2, RpA.mono hL hT hD _ _ r⟩
  | ownT ds =>
    obtain ⟨a, xs, e1, ha, hh, r⟩ := h
    obtain ⟨k1, k2⟩ := hA a _ ha hh rfl
    exact ⟨a, xs, e1, k1, k2, RpD.mono hL hT hD _ _ _ _ r⟩
  | ownK ds =>
    obtain ⟨a, xs, e1, ha, hh, r⟩ := h
    obtain ⟨k1, k2⟩ := hA a _ ha hh rfl
    exact ⟨a, xs, e1, k1, k2, RpD.mono hL hT hD _ _ _ _ r⟩
  | exc a dd d =>
    obtain ⟨e1, u, hh, r⟩ := h
    exact ⟨e1, u, hD _ _ rfl hh, Rp.mono hL hT hD _ _ r⟩
  | fn a => exact h
/-- but for one place, that this slot does not stand at -/
theorem SlOk.at {S' : Addr → Prop} {p : Addr} (hL : ∀ a xs, S a → Rd H a (.lst xs) → S' a ∧ Rd H' a (.lst xs)) (hT : ∀ a xs, H a = some (.tup xs) → H' a = some (.tup xs)) (hD : ∀ a u, fz u = true → H a = some u → H' a = some u) (hA : ∀ a u, A a → H a = some u → isMut u = true → a ≠ p → A' a ∧ H' a = some u) {s : Sl} {v : V} (hp : ow s = true → v ≠ .ref p) (h : SlOk K S A H s v) : SlOk K S' A' H' s v := by
  cases s with
  | un => trivial
  | val d => exact Rp.mono hL hT hD d v h
  | own ds =>
    obtain ⟨a, xs, rfl, ha, hh, r⟩ := h
    obtain ⟨k1, k2⟩ := hA a _ ha hh rfl fun e => hp rfl (by rw [e])
    exact ⟨a, xs, rfl, k1, k2, RpA.mono hL hT hD _ _ r⟩
  | ownT ds =>
    obtain ⟨a, xs, rfl, ha, hh, r⟩ := h
    obtain ⟨k1, k2⟩ := hA a _ ha hh rfl fun e => hp rfl (by rw [e])
    exact ⟨a, xs, rfl, k1, k2, RpD.mono hL hT hD _ _ _ _ r⟩
  | ownK ds =>
    obtain ⟨a, xs, rfl, ha, hh, r⟩ := h
    obtain ⟨k1, k2⟩ := hA a _ ha hh rfl fun e => hp rfl (by rw [e])
    exact ⟨a, xs, rfl, k1, k2, RpD.mono hL hT hD _ _ _ _ r⟩
  | exc a dd d =>
    obtain ⟨e1, u, hh, r⟩ := h
    exact ⟨e1, u, hD _ _ rfl hh, Rp.mono hL hT hD _ _ r⟩
  | fn a => exact h
theorem SlOk.ref {s : Sl} {v : V} (o : ow s = true) (h : SlOk K S A H s v) : ∃ a u, v = .ref a ∧ A a ∧ H a = some u ∧ isMut u = true := by
  cases s with
  | un => cases o
  | val _ => cases o
  | own ds => obtain ⟨a, xs, e1, ha, hh, _⟩ := h; exact ⟨a, _, e1, ha, hh, rfl⟩
  | ownT ds => obtain ⟨a, xs, e1, ha, hh, _⟩ := h; exact ⟨a, _, e1, ha, hh, rfl⟩
  | ownK ds => obtain ⟨a, xs, e1, ha, hh, _⟩ := h; exact ⟨a, _, e1, ha, hh, rfl⟩
  | exc _ _ _ => cases o
  | fn _ => cases o
theorem SlOk.grow (e : Same H H') {s : Sl} {v : V} (h : SlOk K S A H s v) : SlOk K S A H' s v := SlOk.mono (fun _ _ s q => ⟨s, same_rd e q⟩) (fun _ _ q => same_t e q) (same_d e) (fun a u ha hu _ => ⟨ha, e _ _ hu⟩) h
theorem EnvOk.grow (E : EnvOk K S0 H0 A H σ env) (e : Same H H') : EnvOk K S0 H0 A H' σ env where
  len := E.len
  sl := fun i s h => (E.sl i s h).imp id fun ⟨v, h1, h2⟩ => ⟨v, h1, h2.grow e⟩
  dis := E.dis
  tr := fun a h => let ⟨u, q, m⟩ := E.tr a h; ⟨u, e _ _ q, m⟩
  nw := E.nw
  same := E.same.trans e
theorem set_get {α : Type} {l : List α} {i j : Nat} {x y : α} (h : (l.set i x)[j]? = some y) : (i = j ∧ j < l.length ∧ y = x) ∨ (i ≠ j ∧ l[j]? = some y) := by
  rw [List.getElem?_set] at h
  by_cases e : i = j
  · rw [if_pos e] at h
    by_cases q : i < l.length
    · rw [if_pos q] at h
      exact .inl ⟨e, e ▸ q, (Option.some.inj h).symm⟩
    · rw [if_neg q] at h; cases h
  · rw [if_neg e] at h
    exact .inr ⟨e, h⟩
theorem set_self {α : Type} {l : List α} {i : Nat} {x : α} (h : i < l.length) : (l.set i x)[i]? = some x := by simp [h]
theorem set_other {α : Type} {l : List α} {i j : Nat} {x : α} (h : i ≠ j) : (l.set i x)[j]? = l[j]? := by simp [List.getElem?_set, h]
theorem EnvOk.set_val (E : EnvOk K S0 H0 A H σ env) {i : Nat} {d : PyData} {v : V} (h : Rp K (Cl S0 H0 A) H d v) : EnvOk K S0 H0 A H (σ.set i (some v)) (env.set i (.val d)) where
  len := by simp [E.len]
  sl := fun j s q => by
    rcases set_get q with ⟨rfl, l, rfl⟩ | ⟨n, q⟩
    · exact .inr ⟨v, set_self (by rw [E.len]; exact l), h⟩
    · rw [set_other n]
      exact E.sl j s q
  dis := fun j k s t a q1 q2 o1 o2 q3 q4 => by
    rcases set_get q1 with ⟨_, _, z⟩ | ⟨n1, q1⟩
    · subst z; cases o1
    rcases set_get q2 with ⟨_, _, z⟩ | ⟨n2, q2⟩
    · subst z; cases o2
    rw [set_other n1] at q3
    rw [set_other n2] at q4
    exact E.dis j k s t a q1 q2 o1 o2 q3 q4
  tr := E.tr
  nw := E.nw
  same := E.same
/-- a fresh thing is kept by the slot i alone -/
theorem EnvOk.set_new (E : EnvOk K S0 H0 A H σ env) {i : Nat} {s0 : Sl} {u0 : HO} {p : Addr} (hs : Same H H') (hn : H p = none) (hp : H' p = some u0) (hm : isMut u0 = true) (ho : ow s0 = true) (h : SlOk K (fun a => Cl S0 H0 A a ∧ a ≠ p) (fun a => A a ∨ a = p) H' s0 (.ref p)) :
    EnvOk K S0 H0 (fun a => A a ∨ a = p) H' (σ.set i (some (.ref p))) (env.set i s0) where
  len := by simp [E.len]
  sl := fun j s q => by
    have wd : ∀ a, (Cl S0 H0 A a ∧ a ≠ p) → Cl S0 H0 (fun a => A a ∨ a = p) a := fun a z => ⟨z.1.1, fun y => y.elim z.1.2 z.2⟩
    rcases set_get q with ⟨rfl, l, rfl⟩ | ⟨n, q⟩
    · exact .inr ⟨_, set_self (by rw [E.len]; exact l), SlOk.mono (fun a xs z r => ⟨wd a z, r⟩) (fun _ _ z => z) (fun _ _ _ z => z) (fun _ _ z y _ => ⟨z, y⟩) h⟩
    · rw [set_other n]
      refine (E.sl j s q).imp id fun ⟨v, h1, h2⟩ => ⟨v, h1, ?_⟩
      have hL : ∀ a ys, Cl S0 H0 A a → Rd H a (.lst ys) → Cl S0 H0 (fun a => A a ∨ a = p) a ∧ Rd H' a (.lst ys) := fun a ys z r => ⟨wd a ⟨z, fun e => by
        subst e
        rcases r with r | ⟨o, r⟩ <;> (rw [hn] at r; cases r)⟩, same_rd hs r⟩
      exact SlOk.mono hL (fun _ _ z => same_t hs z) (same_d hs) (fun a u ha hu _ => ⟨.inl ha, hs _ _ hu⟩) h2
  dis := fun j k s t a q1 q2 o1 o2 q3 q4 => by
    have no : ∀ (m : Nat) (g : Sl), env[m]? = some g → ow g = true → σ[m]? ≠ some (some (.ref p)) := fun m g g1 og g2 => by
      rcases E.sl m _ g1 with z | ⟨v, z1, z2⟩
      · subst z; cases og
      · rw [g2] at z1
        cases z1
        obtain ⟨a, u, e, ha, hu, _⟩ := z2.ref og
        cases e
        rw [hn] at hu; cases hu
    rcases set_get q1 with ⟨rfl, l1, z⟩ | ⟨n1, q1⟩
    · rcases set_get q2 with ⟨e2, l2, z2⟩ | ⟨n2, q2⟩
      · exact e2
      · rw [set_self (by rw [E.len]; exact l1)] at q3
        cases q3
        rw [set_other n2] at q4
        exact absurd q4 (no k _ q2 o2)
    · rw [set_other n1] at q3
      rcases set_get q2 with ⟨rfl, l2, z2⟩ | ⟨n2, q2⟩
      · rw [set_self (by rw [E.len]; exact l2)] at q4
        cases q4
        exact absurd q3 (no j _ q1 o1)
      · rw [set_other n2] at q4
        exact E.dis j k s t a q1 q2 o1 o2 q3 q4
  tr := fun a h => by
    rcases h with h | rfl
    · obtain ⟨u, q, m⟩ := E.tr a h
      exact ⟨u, hs _ _ q, m⟩
    · exact ⟨u0, hp, hm⟩
  nw := fun a h => by
    rcases h with h | rfl
    · exact E.nw a h
    · exact E.same.free hn
  same := E.same.trans hs
/-- a fresh list is kept by the slot i alone -/
theorem EnvOk.set_own (E : EnvOk K S0 H0 A H σ env) {i : Nat} {ds : List PyData} {xs : List V} {p : Addr} (hs : Same H H') (hn : H p = none) (hp : H' p = some (.lst xs)) (h : RpA K (fun a => Cl S0 H0 A a ∧ a ≠ p) H' ds xs) :
    EnvOk K S0 H0 (fun a => A a ∨ a = p) H' (σ.set i (some (.ref p))) (env.set i (.own ds)) := E.set_new hs hn hp rfl rfl ⟨p, xs, rfl, .inr rfl, hp, h⟩
/-- an owned thing is changed -/
theorem EnvOk.mutG (E : EnvOk K S0 H0 A H σ env) {i : Nat} {s0 s1 : Sl} {u0 u1 : HO} {a : Addr} (hi : env[i]? = some s0) (o0 : ow s0 = true) (o1 : ow s1 = true) (hv : σ[i]? = some (some (.ref a))) (ha : A a) (hp : H a = some u0) (m0 : isMut u0 = true) (m1 : isMut u1 = true)
    (h : SlOk K (Cl S0 H0 A) A (upd H a u1) s1 (.ref a)) : EnvOk K S0 H0 A (upd H a u1) σ (env.set i s1) := by
  have hL : ∀ b ys, Cl S0 H0 A b → Rd H b (.lst ys) → Cl S0 H0 A b ∧ Rd (upd H a u1) b (.lst ys) := fun b ys z r => ⟨z, by
    have n : b ≠ a := fun e => z.2 (e ▸ ha)
    rcases r with r | ⟨o, r⟩
    · exact .inl (by rw [upd_ne n]; exact r)
    · exact .inr ⟨o, by rw [upd_ne n]; exact r⟩⟩
  have nf : ∀ b u, fz u = true → H b = some u → b ≠ a := fun b u z r e => E.no_frz z ha (e ▸ r)
  have hT : ∀ b ys, H b = some (.tup ys) → upd H a u1 b = some (.tup ys) := fun b ys r => by rw [upd_ne (fun e => E.no_tup ha (e ▸ r))]; exact r
  have hD : ∀ b u, fz u = true → H b = some u → upd H a u1 b = some u := fun b u z r => by rw [upd_ne (nf _ _ z r)]; exact r
  have hl : i < env.length := by
    obtain ⟨q, _⟩ := List.getElem?_eq_some_iff.mp hi
    exact q
  refine ⟨by simp [E.len], fun j s q => ?_, fun j k s t b q1 q2 p1 p2 q3 q4 => ?_, fun b hb => ?_, E.nw, fun b o q => ?_⟩
  · rcases set_get q with ⟨rfl, l, rfl⟩ | ⟨n, q⟩
    · exact .inr ⟨_, hv, h⟩
    · refine (E.sl j s q).imp id fun ⟨v, h1, h2⟩ => ⟨v, h1, ?_⟩
      exact SlOk.at (p := a) hL hT hD (fun b u hb hu _ hn => ⟨hb, by rw [upd_ne hn]; exact hu⟩) (fun os e => n (E.dis i j s0 s a hi q o0 os hv (by rw [h1, e]))) h2
  · have back : ∀ (m : Nat) (g : Sl), (env.set i s1)[m]? = some g → ow g = true → ∃ g', env[m]? = some g' ∧ ow g' = true := fun m g q og => by
      rcases set_get q with ⟨rfl, _, _⟩ | ⟨_, q⟩
      · exact ⟨s0, hi, o0⟩
      · exact ⟨g, q, og⟩
    obtain ⟨s', r1, z1⟩ := back j s q1 p1
    obtain ⟨t', r2, z2⟩ := back k t q2 p2
    exact E.dis j k s' t' b r1 r2 z1 z2 q3 q4
  · by_cases e : b = a
    · subst e
      exact ⟨u1, upd_same, m1⟩
    · obtain ⟨u, q, m⟩ := E.tr b hb
      exact ⟨u, by rw [upd_ne e]; exact q, m⟩
  · have n : b ≠ a := fun e => by
      subst e
      have z := E.nw b ha
      rw [q] at z; cases z
    rw [upd_ne n]
    exact E.same b o q
theorem EnvOk.upd_mono (E : EnvOk K S0 H0 A H σ env) {a : Addr} {u1 : HO} (ha : A a) : (∀ b ys, Cl S0 H0 A b → Rd H b (.lst ys) → Cl S0 H0 A b ∧ Rd (upd H a u1) b (.lst ys)) ∧ (∀ b ys, H b = some (.tup ys) → upd H a u1 b = some (.tup ys)) ∧ ∀ b u, fz u = true → H b = some u → upd H a u1 b = some u := by
  have nf : ∀ b u, fz u = true → H b = some u → b ≠ a := fun b u z r e => E.no_frz z ha (e ▸ r)
  refine ⟨fun b ys z r => ⟨z, ?_⟩, fun b ys r => by rw [upd_ne (fun e => E.no_tup ha (e ▸ r))]; exact r, fun b u z r => by rw [upd_ne (nf _ _ z r)]; exact r⟩
  have n : b ≠ a := fun e => z.2 (e ▸ ha)
  rcases r with r | ⟨o, r⟩
  · exact .inl (by rw [upd_ne n]; exact r)
  · exact .inr ⟨o, by rw [upd_ne n]; exact r⟩
/-- an owned list is changed -/
theorem EnvOk.mut (E : EnvOk K S0 H0 A H σ env) {i : Nat} {ds ds' : List PyData} {xs xs' : List V} {a : Addr} (hi : env[i]? = some (.own ds)) (hv : σ[i]? = some (some (.ref a))) (ha : A a) (hp : H a = some (.lst xs)) (h : RpA K (Cl S0 H0 A) H ds' xs') :
    EnvOk K S0 H0 A (upd H a (.lst xs')) σ (env.set i (.own ds')) := by
  obtain ⟨hL, hT, hD⟩ := E.upd_mono (u1 := .lst xs') ha
  exact E.mutG hi rfl rfl hv ha hp rfl rfl ⟨a, xs', rfl, ha, upd_same, RpA.mono hL hT hD _ _ h⟩
def frz (i : Nat) (env : En) : En := match env[i]? with
  | some (.own ds) => env.set i (.val (.list ds))
  | _ => env
theorem EnvOk.frz (E : EnvOk K S0 H0 A H σ env) (i : Nat) : ∃ A', EnvOk K S0 H0 A' H σ (Mir.frz i env) ∧ ∀ a, A' a → A a := by
  unfold Mir.frz
  split
  · rename_i ds hi
    rcases E.sl i _ hi with z | ⟨v, h1, a, xs, rfl, ha, hh, r⟩
    · cases z
    have wd : ∀ b, Cl S0 H0 A b → Cl S0 H0 (fun b => A b ∧ b ≠ a) b := fun b z => ⟨z.1, fun y => z.2 y.1⟩
    refine ⟨fun b => A b ∧ b ≠ a, ⟨by simp [E.len], fun j s q => ?_, fun j k s t b q1 q2 o1 o2 q3 q4 => ?_, fun b hb => E.tr b hb.1, fun b hb => E.nw b hb.1, E.same⟩, fun _ z => z.1⟩
    · rcases set_get q with ⟨rfl, l, rfl⟩ | ⟨n, q⟩
      · refine .inr ⟨_, h1, ?_⟩
        show Rp K _ H (.list ds) _
        rw [Rp]
        exact ⟨a, xs, rfl, .inl ⟨⟨.inr (E.nw a ha), fun y => y.2 rfl⟩, .inl hh⟩, r.wide wd⟩
      · refine (E.sl j s q).imp id fun ⟨v, h2, h3⟩ => ⟨v, h2, ?_⟩
        exact SlOk.at (p := a) (fun b xs z r => ⟨wd b z, r⟩) (fun _ _ z => z) (fun _ _ _ z => z) (fun b u hb hu _ hn => ⟨⟨hb, hn⟩, hu⟩) (fun os e => n (E.dis i j _ s a hi q rfl os h1 (by rw [h2, e]))) h3
    · rcases set_get q1 with ⟨_, _, z⟩ | ⟨n1, q1⟩
      · subst z; cases o1
      rcases set_get q2 with ⟨_, _, z⟩ | ⟨n2, q2⟩
      · subst z; cases o2
      exact E.dis j k s t b q1 q2 o1 o2 q3 q4
  · exact ⟨A, E, fun _ z => z⟩
/-- a dict is let go: it is locked -/
theorem EnvOk.lockD (E : EnvOk K S0 H0 A H σ env) {i : Nat} {s0 : Sl} {d : PyData} {u0 : HO} {a : Addr} {od : Obj} (hi : env[i]? = some s0) (o0 : ow s0 = true) (hv : σ[i]? = some (some (.ref a))) (ha : A a) (hp : H a = some u0)
    (h : Rp K (Cl S0 H0 A) (upd H a (.frz od u0)) d (.ref a)) : EnvOk K S0 H0 (fun b => A b ∧ b ≠ a) (upd H a (.frz od u0)) σ (env.set i (.val d)) := by
  obtain ⟨hL, hT, hD⟩ := E.upd_mono (u1 := .frz od u0) ha
  have wd : ∀ b, Cl S0 H0 A b → Cl S0 H0 (fun b => A b ∧ b ≠ a) b := fun b z => ⟨z.1, fun y => z.2 y.1⟩
  refine ⟨by simp [E.len], fun j s q => ?_, fun j k s t b q1 q2 o1 o2 q3 q4 => ?_, fun b hb => ?_, fun b hb => E.nw b hb.1, fun b o q => ?_⟩
  · rcases set_get q with ⟨rfl, l, rfl⟩ | ⟨n, q⟩
    · exact .inr ⟨_, hv, Rp.wide wd h⟩
    · refine (E.sl j s q).imp id fun ⟨v, h2, h3⟩ => ⟨v, h2, ?_⟩
      exact SlOk.at (p := a) (fun b xs z r => ⟨wd b z, (hL b xs z r).2⟩) hT hD (fun b u hb hu _ hn => ⟨⟨hb, hn⟩, by rw [upd_ne hn]; exact hu⟩) (fun os e => n (E.dis i j _ s a hi q o0 os hv (by rw [h2, e]))) h3
  · rcases set_get q1 with ⟨_, _, z⟩ | ⟨n1, q1⟩
    · subst z; cases o1
    rcases set_get q2 with ⟨_, _, z⟩ | ⟨n2, q2⟩
    · subst z; cases o2
    exact E.dis j k s t b q1 q2 o1 o2 q3 q4
  · obtain ⟨u, q, m⟩ := E.tr b hb.1
    exact ⟨u, by rw [upd_ne hb.2]; exact q, m⟩
  · have n : b ≠ a := fun e => by
      subst e
      have z := E.nw b ha
      rw [q] at z; cases z
    rw [upd_ne n]
    exact E.same b o q
end
end Mir

namespace Mir
open PySem PySem.Spec PyProof.Rows L2

/-! ### readings -/
def tE (K : PySem.W.Frag) (c : Bool) (f : En → Option PyData) : TE := fun σ H Q => ∃ S0 H0 A env d, EnvOk K S0 H0 A H σ env ∧ f env = some d ∧ ∀ v H', Same H H' → Rp K (SC c S0 H0 A) H' d v → Q v H'
/-- a fresh list -/
def tF (K : PySem.W.Frag) (c : Bool) (f : En → Option (List PyData)) : TE := fun σ H Q => ∃ S0 H0 A env ds, EnvOk K S0 H0 A H σ env ∧ f env = some ds ∧ ∀ p xs H', H p = none → Same H H' → H' p = some (.lst xs) → RpA K (fun a => SC c S0 H0 A a ∧ a ≠ p) H' ds xs → Q (.ref p) H'
def tT (K : PySem.W.Frag) (f : En → Option Bool) : TT := fun σ H Q => ∃ S0 H0 A env b, EnvOk K S0 H0 A H σ env ∧ f env = some b ∧ ∀ H', Same H H' → Q b H'
def tA (K : PySem.W.Frag) (c : Bool) (f : En → Option (List PyData)) : TA := fun σ H Q => ∃ S0 H0 A env ds, EnvOk K S0 H0 A H σ env ∧ f env = some ds ∧ ∀ vs H', Same H H' → RpA K (SC c S0 H0 A) H' ds vs → Q vs H'
/-- a target: touches the slots vs alone -/
def tG (K : PySem.W.Frag) (vs : List Nat) (g : PyData → En → Option En) : TG := fun v σ H Q => ∃ S0 H0 A env d env', EnvOk K S0 H0 A H σ env ∧ Rp K (Cl S0 H0 A) H d v ∧ g d env = some env' ∧ ∀ σ', EnvOk K S0 H0 A H σ' env' → wipe σ' vs = wipe σ vs → Q σ' H

inductive Out where
  | nx (e : En)
  | bk (e : En)
  | ct (e : En)
  | rt (d : PyData)
  | bad
def OutOk (K : PySem.W.Frag) (S0 : Addr → Prop) (H0 : Hp) (A : Addr → Prop) (H : Hp) (o : Out) (D : Ends) : Prop := match o with
  | .nx e => ∀ A' H' σ', EnvOk K S0 H0 A' H' σ' e → Fr A H H' → Sb A H A' → D.nx σ' H'
  | .bk e => ∀ A' H' σ', EnvOk K S0 H0 A' H' σ' e → Fr A H H' → Sb A H A' → D.bk σ' H'
  | .ct e => ∀ A' H' σ', EnvOk K S0 H0 A' H' σ' e → Fr A H H' → Sb A H A' → D.ct σ' H'
  | .rt d => ∀ v H', Same H0 H' → Rp K (Bd S0 H0) H' d v → D.rt v H'
  | .bad => False
def tS (K : PySem.W.Frag) (f : En → Out) : TS := fun D σ H => ∃ S0 H0 A env, EnvOk K S0 H0 A H σ env ∧ OutOk K S0 H0 A H (f env) D

section
variable {K : PySem.W.Frag} {S0 S : Addr → Prop} {H0 H H' H'' : Hp} {A A' A'' : Addr → Prop} {σ : L2.St} {env : En} {D : Ends}
theorem OutOk.step {o : Out} (h : OutOk K S0 H0 A H o D) (f : Fr A H H') (s : Sb A H A') : OutOk K S0 H0 A' H' o D := by
  cases o with
  | nx e => exact fun A2 H2 σ2 E f2 s2 => h A2 H2 σ2 E (f.trans s f2) (Sb.trans f s s2)
  | bk e => exact fun A2 H2 σ2 E f2 s2 => h A2 H2 σ2 E (f.trans s f2) (Sb.trans f s s2)
  | ct e => exact fun A2 H2 σ2 E f2 s2 => h A2 H2 σ2 E (f.trans s f2) (Sb.trans f s s2)
  | rt d => exact h
  | bad => exact h
theorem sc_cl {c : Bool} {a : Addr} (h : Cl S0 H0 A a) : SC c S0 H0 A a := fun _ => h
theorem cl_sc {a : Addr} (h : SC true S0 H0 A a) : Cl S0 H0 A a := h rfl
end

section
variable {X : Cx} {a b e : Expr} {es : List Expr} {pos : Pos} {c c1 c2 : Bool} {f g : En → Option PyData} {fa : En → Option (List PyData)} {fb : En → Option Bool}
theorem pe_w {t t' : TE} (h : PE X e t) (w : ∀ σ H Q, t' σ H Q → t σ H Q) : PE X e t' := ⟨fun pins s σ H Q I q => h.run pins s σ H Q I (w σ H Q q)⟩
theorem pt_w {t t' : TT} (h : PT X e t) (w : ∀ σ H Q, t' σ H Q → t σ H Q) : PT X e t' := ⟨fun pins s σ H Q I q => h.run pins s σ H Q I (w σ H Q q)⟩
theorem pw_w {t t' : TT} (h : PW X e t) (w : ∀ σ H Q, t' σ H Q → t σ H Q) : PW X e t' := ⟨fun wh pins s σ H Q I q => h.run wh pins s σ H Q I (w σ H Q q)⟩
theorem pa_w {t t' : TA} (h : PA X es t) (w : ∀ σ H Q, t' σ H Q → t σ H Q) : PA X es t' := ⟨fun pos pins s σ H Q I q => h.run pos pins s σ H Q I (w σ H Q q)⟩
theorem ps_w {st : Stmt} {t t' : TS} (h : PS X st t) (w : ∀ D σ H, t' D σ H → t D σ H) : PS X st t' := ⟨fun pins s σ H D I q => h.run pins s σ H D I (w D σ H q)⟩
theorem pss_w {st : List Stmt} {t t' : TS} (h : PSs X st t) (w : ∀ D σ H, t' D σ H → t D σ H) : PSs X st t' := ⟨fun pins s σ H D I q => h.run pins s σ H D I (w D σ H q)⟩
theorem pg_w {tg : Expr} {t t' : TG} (h : PG X tg t) (w : ∀ v σ H Q, t' v σ H Q → t v σ H Q) : PG X tg t' := ⟨fun pins s σ H v u Q I r q => h.run pins s σ H v u Q I r (w v σ H Q q)⟩

/-- what is clean may be borrowed -/
theorem ce_b (h : PE X e (tE X.K true f)) : PE X e (tE X.K false f) := pe_w h fun σ H Q ⟨S0, H0, A, env, d, E, hf, q⟩ =>
  ⟨S0, H0, A, env, d, E, hf, fun v H' s r => q v H' s (r.wide fun _ _ z => nomatch z)⟩
theorem ca_b (h : PA X es (tA X.K true fa)) : PA X es (tA X.K false fa) := pa_w h fun σ H Q ⟨S0, H0, A, env, d, E, hf, q⟩ =>
  ⟨S0, H0, A, env, d, E, hf, fun v H' s r => q v H' s (r.wide fun _ _ z => nomatch z)⟩
/-- a fresh list as a value -/
def eL (f : En → Option (List PyData)) : En → Option PyData := fun env => (f env).map .list
theorem ce_l (h : PE X e (tF X.K c fa)) : PE X e (tE X.K c (eL fa)) := pe_w h fun σ H Q ⟨S0, H0, A, env, d, E, hf, q⟩ => by
  unfold eL at hf
  cases hd : fa env with
  | none => rw [hd] at hf; cases hf
  | some ds =>
    rw [hd] at hf
    cases hf
    refine ⟨S0, H0, A, env, ds, E, hd, fun p xs H' hn s hp r => q _ H' s ?_⟩
    rw [Rp]
    exact ⟨p, xs, rfl, .inl ⟨sc_new E hn, .inl hp⟩, r.wide fun _ z => z.1⟩
/-- a value without lists is clean -/
def eN (f : En → Option PyData) : En → Option PyData := fun env => (f env).bind fun d => if noL d = true then some d else none
theorem ce_n (h : PE X e (tE X.K false f)) : PE X e (tE X.K c (eN f)) := pe_w h fun σ H Q ⟨S0, H0, A, env, d, E, hf, q⟩ => by
  unfold eN at hf
  cases hd : f env with
  | none => rw [hd] at hf; cases hf
  | some d' =>
    rw [hd] at hf
    by_cases n : noL d' = true
    · have hf' : (if noL d' = true then some d' else none) = some d := hf
      rw [if_pos n] at hf'
      cases hf'
      exact ⟨S0, H0, A, env, d, E, hd, fun v H' s r => q v H' s (Rp.noL d v n r)⟩
    · have hf' : (if noL d' = true then some d' else none) = some d := hf
      rw [if_neg n] at hf'; cases hf'

/-! ### names, constants -/
def eVar (i : Nat) : En → Option PyData := fun env => match env[i]? with
  | some (.val d) => some d
  | _ => none
def eBor (i : Nat) : En → Option PyData := fun env => match env[i]? with
  | some (.own ds) => some (.list ds)
  | _ => none
theorem ce_var {i : Nat} (h : PE X e (tVar i)) : PE X e (tE X.K true (eVar i)) := pe_w h fun σ H Q ⟨S0, H0, A, env, d, E, hf, q⟩ => by
  unfold eVar at hf
  split at hf
  · rename_i d' hi
    cases hf
    rcases E.sl i _ hi with z | ⟨v, h1, h2⟩
    · cases z
    · exact ⟨v, h1, q v H (Same.refl H) (Rp.wide (fun _ z => sc_cl z) h2)⟩
  · cases hf
theorem ce_bor {i : Nat} (h : PE X e (tVar i)) : PE X e (tE X.K false (eBor i)) := pe_w h fun σ H Q ⟨S0, H0, A, env, d, E, hf, q⟩ => by
  unfold eBor at hf
  split at hf
  · rename_i ds hi
    cases hf
    rcases E.sl i _ hi with z | ⟨v, h1, a, xs, rfl, ha, hh, r⟩
    · cases z
    · refine ⟨_, h1, q _ H (Same.refl H) ?_⟩
      rw [Rp]
      exact ⟨a, xs, rfl, .inl ⟨(fun z => nomatch z), .inl hh⟩, r.wide fun _ _ z => nomatch z⟩
  · cases hf
def eC (d : PyData) : En → Option PyData := fun _ => some d
theorem ce_c {v : V} {d : PyData} (h : PE X e (tC v)) (r : ∀ S H, Rp X.K S H d v) : PE X e (tE X.K true (eC d)) := pe_w h fun σ H Q ⟨S0, H0, A, env, d', E, hf, q⟩ => by
  cases hf
  exact q v H (Same.refl H) (r _ _)
theorem ce_int {i : Int} {j : Nat} : PE X (.Constant (.int i) j pos) (tE X.K true (eC (.int i))) := ce_c pe_int fun _ _ => by rw [Rp]
theorem ce_bl {i : Bool} {j : Nat} : PE X (.Constant (.bool i) j pos) (tE X.K true (eC (.bool i))) := ce_c pe_bl fun _ _ => by rw [Rp]
theorem ce_non {j : Nat} : PE X (.Constant .none j pos) (tE X.K true (eC .none)) := ce_c pe_non fun _ _ => by rw [Rp]
theorem ce_str {i : Str} {j : Nat} : PE X (.Constant (.str i) j pos) (tE X.K true (eC (.str i))) := ce_c pe_str fun _ _ => by rw [Rp]

/-! ### operations on two values -/
/-- sc: the value has no lists -/
def R2Ok (K : PySem.W.Frag) (sc : Bool) (r : R2) (h : PyData → PyData → Option PyData) : Prop := ∀ (S S' : Addr → Prop) (H : Hp) (x y : V) (dx dy d : PyData) (Q : VK), (∀ p, H p = none → S p) → (sc = true ∨ S' = S) → Rp K S H dx x → Rp K S H dy y → h dx dy = some d →
  (∀ v H', Same H H' → Rp K S' H' d v → Q v H') → r x y H Q
def e2 (h : PyData → PyData → Option PyData) (f g : En → Option PyData) : En → Option PyData := fun env => match f env with
  | some x => match g env with
    | some y => h x y
    | none => none
  | none => none
theorem e2_some {h : PyData → PyData → Option PyData} {env : En} {d : PyData} (q : e2 h f g env = some d) : ∃ x y, f env = some x ∧ g env = some y ∧ h x y = some d := by
  unfold e2 at q
  split at q
  · split at q
    · exact ⟨_, _, by assumption, by assumption, q⟩
    · cases q
  · cases q
theorem e2_run {K : PySem.W.Frag} {sc : Bool} {r : R2} {h : PyData → PyData → Option PyData} (R : R2Ok K sc r h) (hc : sc = true ∨ c2 = c1) {σ : L2.St} {H : Hp} {Q : VK} (q : tE K c2 (e2 h f g) σ H Q) : tOp r (tE K c1 f) (tE K c1 g) σ H Q := by
  obtain ⟨S0, H0, A, env, d, E, hf, q⟩ := q
  obtain ⟨x, y, h1, h2, h3⟩ := e2_some hf
  refine ⟨S0, H0, A, env, x, E, h1, fun v H1 s1 r1 => ⟨S0, H0, A, env, y, E.grow s1, h2, fun u H2 s2 r2 => ?_⟩⟩
  refine R (SC c1 S0 H0 A) (SC c2 S0 H0 A) H2 v u x y d Q (fun p hp => sc_new (E.grow (s1.trans s2)) hp) (hc.imp id fun z => by rw [z]) (r1.grow s2) r2 h3 fun z H3 s3 r3 => q z H3 ((s1.trans s2).trans s3) r3
theorem ce_op {op : Operator} {r : R2} {h : PyData → PyData → Option PyData} {sc : Bool} (ho : OpR X (binaryOp op) r) (R : R2Ok X.K sc r h) (ha : PE X a (tE X.K c1 f)) (hb : PE X b (tE X.K c1 g)) (hc : sc = true ∨ c2 = c1 := by first | exact .inl rfl | exact .inr rfl) :
    PE X (.BinOp a op b pos) (tE X.K c2 (e2 h f g)) := pe_w (pe_op ho ha hb) fun _ _ _ q => e2_run R hc q
theorem ce_cmp {op : CmpOp} {r : R2} {h : PyData → PyData → Option PyData} (ho : OpR X (compareOp op) r) (R : R2Ok X.K true r h) (ha : PE X a (tE X.K c1 f)) (hb : PE X b (tE X.K c1 g)) (hm : behindInMarks op b = false) :
    PE X (.Compare a [op] [b] pos) (tE X.K true (e2 h f g)) := pe_w (pe_cmpR ho ha hb hm) fun _ _ _ q => e2_run R (.inl rfl) q
/-- a value as a test -/
def t1 (f : En → Option PyData) : En → Option Bool := fun env => match f env with
  | some (.bool b) => some b
  | _ => none
theorem t1_some {env : En} {b : Bool} (q : t1 f env = some b) : f env = some (.bool b) := by
  unfold t1 at q
  split at q
  · rename_i h
    cases q
    exact h
  · cases q
theorem t1_run {K : PySem.W.Frag} {t : TE} {σ : L2.St} {H : Hp} {Q : Bool → Hp → Prop} (ht : ∀ Q, tE K c f σ H Q → t σ H Q) (q : tT K (t1 f) σ H Q) : t σ H fun x H1 => ∃ c, x = .bl c ∧ Q c H1 := by
  obtain ⟨S0, H0, A, env, d, E, hf, q⟩ := q
  refine ht _ ⟨S0, H0, A, env, _, E, t1_some hf, fun v H' s r => ⟨d, ?_, q H' s⟩⟩
  rw [Rp] at r
  exact r
theorem ct_cmp {op : CmpOp} {r : R2} {h : PyData → PyData → Option PyData} (ho : OpR X (compareOp op) r) (R : R2Ok X.K true r h) (ha : PE X a (tE X.K c1 f)) (hb : PE X b (tE X.K c1 g)) (hm : behindInMarks op b = false) :
    PT X (.Compare a [op] [b] pos) (tT X.K (t1 (e2 h f g))) := pt_w (pt_cmpR ho ha hb hm) fun σ H Q q => t1_run (c := true) (fun Q q => e2_run R (.inl rfl) q) q
theorem ct_val (ha : PE X e (tE X.K c f)) (he : ∀ whole, isTrue e X.env whole = (do let v ← whole; standAt e.pos; holding [v] (truthy v)) := by intro _; rfl) : PT X e (tT X.K (t1 f)) := pt_w (pt_val ha he) fun σ H Q q => t1_run (fun Q q => q) q

/-! ### truth -/
def truD : PyData → Option Bool
  | .none => some false
  | .bool b => some b
  | .int i => some (i != 0)
  | .str y => if y.length ≤ 1000000 then some ((y.length : Int) != 0) else none
  | .list ds => some (!ds.isEmpty)
  | .tuple ds => some (!ds.isEmpty)
  | .dict _ => none
theorem sz6 {n : Nat} (h : n ≤ 1000000) : n ≤ sizeLine := Nat.le_trans h (by decide)
theorem rpA_empty {K : PySem.W.Frag} {S : Addr → Prop} {H : Hp} {ds : List PyData} {xs : List V} (r : RpA K S H ds xs) : (!ds.isEmpty) = !xs.isEmpty := by
  cases ds with
  | nil => rw [RpA] at r; subst r; rfl
  | cons d ds =>
    rw [RpA] at r
    obtain ⟨v, r', rfl, _⟩ := r
    rfl
theorem truD_ok {K : PySem.W.Frag} {S : Addr → Prop} {H : Hp} {d : PyData} {v : V} {b : Bool} (r : Rp K S H d v) (h : truD d = some b) : TruV K v H b := by
  cases d with
  | none => rw [Rp] at r; subst r; cases h; rfl
  | bool k => rw [Rp] at r; subst r; cases h; rfl
  | int k => rw [Rp] at r; subst r; cases h; rfl
  | str k =>
    rw [Rp] at r; subst r
    simp only [truD] at h
    by_cases q : k.length ≤ 1000000
    · rw [if_pos q] at h; cases h; exact ⟨sz6 q, rfl⟩
    · rw [if_neg q] at h; cases h
  | list ds =>
    rw [Rp] at r
    obtain ⟨a, xs, rfl, q, r⟩ := r
    cases h
    exact .inl ⟨xs, q.sq, rpA_empty r⟩
  | tuple ds =>
    rw [Rp] at r
    obtain ⟨a, xs, rfl, q, r⟩ := r
    cases h
    exact .inr (.inl ⟨xs, live_t q, rpA_empty r⟩)
  | dict k => cases h
def tTr (f : En → Option PyData) : En → Option Bool := fun env => (f env).bind truD
theorem ct_tru (ha : PE X e (tE X.K c f)) (he : ∀ whole, isTrue e X.env whole = (do let v ← whole; standAt e.pos; holding [v] (truthy v)) := by intro _; rfl) : PT X e (tT X.K (tTr f)) := pt_w (pt_truth ha he) fun σ H Q ⟨S0, H0, A, env, b, E, hf, q⟩ => by
  unfold tTr at hf
  cases hd : f env with
  | none => rw [hd] at hf; cases hf
  | some d =>
    rw [hd] at hf
    exact ⟨S0, H0, A, env, d, E, hd, fun v H' s r => ⟨b, truD_ok r hf, q H' s⟩⟩

/-! ### and, or, not -/
variable {ga gb : En → Option Bool} {rest : List Expr}
def tAnd' (ga gb : En → Option Bool) : En → Option Bool := fun env => match ga env with
  | some true => gb env
  | some false => some false
  | none => none
def tOr' (ga gb : En → Option Bool) : En → Option Bool := fun env => match ga env with
  | some true => some true
  | some false => gb env
  | none => none
def tNot' (ga : En → Option Bool) : En → Option Bool := fun env => (ga env).map (!·)
theorem and_run {K : PySem.W.Frag} {σ : L2.St} {H : Hp} {Q : Bool → Hp → Prop} (q : tT K (tAnd' ga gb) σ H Q) : tAnd (tT K ga) (tT K gb) σ H Q := by
  obtain ⟨S0, H0, A, env, b, E, hf, q⟩ := q
  unfold tAnd' at hf
  split at hf
  · rename_i h
    exact ⟨S0, H0, A, env, true, E, h, fun H' s => iteT <| ⟨S0, H0, A, env, b, E.grow s, hf, fun H2 s2 => q H2 (s.trans s2)⟩⟩
  · rename_i h
    cases hf
    exact ⟨S0, H0, A, env, false, E, h, fun H' s => iteF <| q H' s⟩
  · cases hf
theorem or_run {K : PySem.W.Frag} {σ : L2.St} {H : Hp} {Q : Bool → Hp → Prop} (q : tT K (tOr' ga gb) σ H Q) : tOr (tT K ga) (tT K gb) σ H Q := by
  obtain ⟨S0, H0, A, env, b, E, hf, q⟩ := q
  unfold tOr' at hf
  split at hf
  · rename_i h
    cases hf
    exact ⟨S0, H0, A, env, true, E, h, fun H' s => iteT <| q H' s⟩
  · rename_i h
    exact ⟨S0, H0, A, env, false, E, h, fun H' s => iteF <| ⟨S0, H0, A, env, b, E.grow s, hf, fun H2 s2 => q H2 (s.trans s2)⟩⟩
  · cases hf
theorem cw_and1 (ha : PT X a (tT X.K ga)) : PW X (.BoolOp .And [a] pos) (tT X.K ga) := pw_and1 ha
theorem cw_or1 (ha : PT X a (tT X.K ga)) : PW X (.BoolOp .Or [a] pos) (tT X.K ga) := pw_or1 ha
theorem cw_and (ha : PT X a (tT X.K ga)) (hb : PW X (.BoolOp .And (b :: rest) pos) (tT X.K gb)) : PW X (.BoolOp .And (a :: b :: rest) pos) (tT X.K (tAnd' ga gb)) := pw_w (pw_and ha hb) fun _ _ _ q => and_run q
theorem cw_or (ha : PT X a (tT X.K ga)) (hb : PW X (.BoolOp .Or (b :: rest) pos) (tT X.K gb)) : PW X (.BoolOp .Or (a :: b :: rest) pos) (tT X.K (tOr' ga gb)) := pw_w (pw_or ha hb) fun _ _ _ q => or_run q
theorem ct_not (ha : PT X a (tT X.K ga)) : PT X (.UnaryOp .Not a pos) (tT X.K (tNot' ga)) := pt_w (pt_not ha) fun σ H Q ⟨S0, H0, A, env, b, E, hf, q⟩ => by
  unfold tNot' at hf
  cases hd : ga env with
  | none => rw [hd] at hf; cases hf
  | some d =>
    rw [hd] at hf
    cases hf
    exact ⟨S0, H0, A, env, d, E, hd, q⟩
/-- and, or, not as values -/
def eB (ga : En → Option Bool) : En → Option PyData := fun env => (ga env).map .bool
theorem ce_one {op : BoolOp} (h : PE X a (tE X.K c f)) : PE X (.BoolOp op [a] pos) (tE X.K c f) := pe_one h
def eAnd (f g : En → Option PyData) : En → Option PyData := fun env => match f env with
  | some (.bool true) => g env
  | some (.bool false) => some (.bool false)
  | _ => none
def eOr (f g : En → Option PyData) : En → Option PyData := fun env => match f env with
  | some (.bool true) => some (.bool true)
  | some (.bool false) => g env
  | _ => none
theorem ce_and (ha : PE X a (tE X.K c1 f)) (hb : PE X (.BoolOp .And (b :: rest) pos) (tE X.K c g)) : PE X (.BoolOp .And (a :: b :: rest) pos) (tE X.K c (eAnd f g)) := pe_w (pe_and ha hb) fun σ H Q ⟨S0, H0, A, env, d, E, hf, q⟩ => by
  unfold eAnd at hf
  split at hf
  · rename_i h
    refine ⟨S0, H0, A, env, _, E, h, fun v H' s r => ?_⟩
    rw [Rp] at r
    exact ⟨true, r, iteT <| ⟨S0, H0, A, env, d, E.grow s, hf, fun v2 H2 s2 r2 => q v2 H2 (s.trans s2) r2⟩⟩
  · rename_i h
    cases hf
    refine ⟨S0, H0, A, env, _, E, h, fun v H' s r => ?_⟩
    rw [Rp] at r
    exact ⟨false, r, iteF <| q _ H' s (by rw [Rp])⟩
  · cases hf
theorem ce_or (ha : PE X a (tE X.K c1 f)) (hb : PE X (.BoolOp .Or (b :: rest) pos) (tE X.K c g)) : PE X (.BoolOp .Or (a :: b :: rest) pos) (tE X.K c (eOr f g)) := pe_w (pe_or ha hb) fun σ H Q ⟨S0, H0, A, env, d, E, hf, q⟩ => by
  unfold eOr at hf
  split at hf
  · rename_i h
    cases hf
    refine ⟨S0, H0, A, env, _, E, h, fun v H' s r => ?_⟩
    rw [Rp] at r
    exact ⟨true, r, iteT <| q _ H' s (by rw [Rp])⟩
  · rename_i h
    refine ⟨S0, H0, A, env, _, E, h, fun v H' s r => ?_⟩
    rw [Rp] at r
    exact ⟨false, r, iteF <| ⟨S0, H0, A, env, d, E.grow s, hf, fun v2 H2 s2 r2 => q v2 H2 (s.trans s2) r2⟩⟩
  · cases hf
def eNot (f : En → Option PyData) : En → Option PyData := fun env => match f env with
  | some (.bool b) => some (.bool (!b))
  | _ => none
theorem ce_not (ha : PE X a (tE X.K c1 f)) : PE X (.UnaryOp .Not a pos) (tE X.K true (eNot f)) := pe_w (pe_not ha) fun σ H Q ⟨S0, H0, A, env, d, E, hf, q⟩ => by
  unfold eNot at hf
  split at hf
  · rename_i k h
    cases hf
    refine ⟨S0, H0, A, env, _, E, h, fun v H' s r => ?_⟩
    rw [Rp] at r
    exact ⟨k, r, q _ H' s (by rw [Rp])⟩
  · cases hf
def eIf (ga : En → Option Bool) (f g : En → Option PyData) : En → Option PyData := fun env => match ga env with
  | some true => f env
  | some false => g env
  | none => none
theorem ce_if {t : Expr} (ht : PT X t (tT X.K ga)) (ha : PE X a (tE X.K c f)) (hb : PE X b (tE X.K c g)) : PE X (.IfExp t a b pos) (tE X.K c (eIf ga f g)) := pe_w (pe_ifExp ht ha hb) fun σ H Q ⟨S0, H0, A, env, d, E, hf, q⟩ => by
  unfold eIf at hf
  split at hf
  · rename_i h
    exact ⟨S0, H0, A, env, _, E, h, fun H' s => iteT <| ⟨S0, H0, A, env, d, E.grow s, hf, fun v2 H2 s2 r2 => q v2 H2 (s.trans s2) r2⟩⟩
  · rename_i h
    exact ⟨S0, H0, A, env, _, E, h, fun H' s => iteF <| ⟨S0, H0, A, env, d, E.grow s, hf, fun v2 H2 s2 r2 => q v2 H2 (s.trans s2) r2⟩⟩
  · cases hf

/-! ### argument lists, displays -/
def aNil : En → Option (List PyData) := fun _ => some []
def aCons (f : En → Option PyData) (g : En → Option (List PyData)) : En → Option (List PyData) := fun env => match f env with
  | some d => match g env with
    | some ds => some (d :: ds)
    | none => none
  | none => none
theorem aCons_some {env : En} {es : List PyData} (q : aCons f fa env = some es) : ∃ d ds, f env = some d ∧ fa env = some ds ∧ es = d :: ds := by
  unfold aCons at q
  split at q
  · split at q
    · cases q
      exact ⟨_, _, by assumption, by assumption, rfl⟩
    · cases q
  · cases q
theorem ca_nil : PA X [] (tA X.K c aNil) := pa_w pa_nil fun σ H Q ⟨S0, H0, A, env, d, E, hf, q⟩ => by
  cases hf
  exact q [] H (Same.refl H) RpA.nil
theorem ca_cons (ha : PE X e (tE X.K c f)) (hr : PA X es (tA X.K c fa)) (hs : starEach (e :: es) X.env = (false, eval e X.env) :: starEach es X.env := by rfl) : PA X (e :: es) (tA X.K c (aCons f fa)) := pa_w (pa_cons ha hr hs) fun σ H Q ⟨S0, H0, A, env, d, E, hf, q⟩ => by
  obtain ⟨d1, ds, h1, h2, rfl⟩ := aCons_some hf
  exact ⟨S0, H0, A, env, d1, E, h1, fun v H1 s1 r1 => ⟨S0, H0, A, env, ds, E.grow s1, h2, fun vs H2 s2 r2 => q _ H2 (s1.trans s2) (RpA.cons (r1.grow s2) r2)⟩⟩
def eTup (fa : En → Option (List PyData)) : En → Option PyData := fun env => match fa env with
  | some ds => if ds.length ≤ 1000000 then some (.tuple ds) else none
  | none => none
theorem eTup_some {env : En} {d : PyData} (q : eTup fa env = some d) : ∃ ds, fa env = some ds ∧ ds.length ≤ 1000000 ∧ d = .tuple ds := by
  unfold eTup at q
  split at q
  · split at q
    · cases q; exact ⟨_, by assumption, by assumption, rfl⟩
    · cases q
  · cases q
theorem ce_tup {x1 : Nat} (h : PA X es (tA X.K c fa)) : PE X (.Tuple es x1 pos) (tE X.K c (eTup fa)) := pe_w (pe_tup h) fun σ H Q ⟨S0, H0, A, env, d, E, hf, q⟩ => by
  obtain ⟨ds, h1, h2, rfl⟩ := eTup_some hf
  refine ⟨S0, H0, A, env, ds, E, h1, fun vs H1 s1 r1 => ⟨by rw [r1.length]; exact sz6 h2, fun p hp => q _ _ (s1.trans fun b o z => by rw [upd_ne (ne_of_none z hp)]; exact z) ?_⟩⟩
  rw [Rp]
  exact ⟨p, vs, rfl, upd_same, r1.grow fun b o z => by rw [upd_ne (ne_of_none z hp)]; exact z⟩
def fLst (fa : En → Option (List PyData)) : En → Option (List PyData) := fun env => match fa env with
  | some ds => if ds.length ≤ 1000000 then some ds else none
  | none => none
theorem fLst_some {env : En} {d : List PyData} (q : fLst fa env = some d) : fa env = some d ∧ d.length ≤ 1000000 := by
  unfold fLst at q
  split at q
  · split at q
    · cases q; exact ⟨by assumption, by assumption⟩
    · cases q
  · cases q
theorem same_new {H : Hp} {p : Addr} {o : HO} (h : H p = none) : Same H (upd H p o) := fun b u e => by
  rw [upd_ne (ne_of_none e h)]
  exact e
/-- items that stood ahead of the new list do not lean on it -/
theorem RpA.apart {K : PySem.W.Frag} {S : Addr → Prop} {H H' : Hp} {p : Addr} {ds : List PyData} {vs : List V} (h : RpA K S H ds vs) (hp : H p = none) (s : Same H H') : RpA K (fun a => S a ∧ a ≠ p) H' ds vs :=
  RpA.mono (fun a xs z r => ⟨⟨z, fun e => by
    subst e
    rcases r with r | ⟨o, r⟩ <;> (rw [hp] at r; cases r)⟩, same_rd s r⟩) (fun _ _ z => same_t s z) (same_d s) ds vs h
theorem Rp.apart {K : PySem.W.Frag} {S : Addr → Prop} {H H' : Hp} {p : Addr} {d : PyData} {v : V} (h : Rp K S H d v) (hp : H p = none) (s : Same H H') : Rp K (fun a => S a ∧ a ≠ p) H' d v :=
  Rp.mono (fun a xs z r => ⟨⟨z, fun e => by
    subst e
    rcases r with r | ⟨o, r⟩ <;> (rw [hp] at r; cases r)⟩, same_rd s r⟩) (fun _ _ z => same_t s z) (same_d s) d v h
theorem cf_lst (h : PA X es (tA X.K c fa)) : PE X (.List es pos) (tF X.K c (fLst fa)) := pe_w (pe_lst h) fun σ H Q ⟨S0, H0, A, env, ds, E, hf, q⟩ => by
  obtain ⟨h1, h2⟩ := fLst_some hf
  refine ⟨S0, H0, A, env, ds, E, h1, fun vs H1 s1 r1 => ⟨by rw [r1.length]; exact sz6 h2, fun p hp => ?_⟩⟩
  exact q p vs _ (s1.free hp) (s1.trans (same_new hp)) upd_same (r1.apart hp (same_new hp))
end

/-! ### statements -/
section
variable {X : Cx} {e : Expr} {pos pos' : Pos} {c : Bool} {f : En → Option PyData} {fa : En → Option (List PyData)} {ga : En → Option Bool} {s t : En → Out} {st : Stmt} {sts : List Stmt}
def sNil : En → Out := fun env => .nx env
def sSeq (s t : En → Out) : En → Out := fun env => match s env with
  | .nx e => t e
  | .bk e => .bk e
  | .ct e => .ct e
  | .rt d => .rt d
  | .bad => .bad
theorem cs_nil : PSs X [] (tS X.K sNil) := pss_w pss_nil fun D σ H ⟨S0, H0, A, env, E, o⟩ => o A H σ E Fr.refl Sb.refl
theorem cs_cons (h1 : PS X st (tS X.K s)) (h2 : PSs X sts (tS X.K t)) : PSs X (st :: sts) (tS X.K (sSeq s t)) := pss_w (pss_cons h1 h2) fun D σ H ⟨S0, H0, A, env, E, o⟩ => by
  refine ⟨S0, H0, A, env, E, ?_⟩
  unfold sSeq at o
  cases hs : s env with
  | nx e =>
    rw [hs] at o
    exact fun A' H' σ' E' f' b' => ⟨S0, H0, A', e, E', OutOk.step o f' b'⟩
  | bk e => rw [hs] at o; exact o
  | ct e => rw [hs] at o; exact o
  | rt d => rw [hs] at o; exact o
  | bad => rw [hs] at o; exact o
theorem cs_one (h1 : PS X st (tS X.K s)) : PSs X [st] (tS X.K s) := pss_one h1
/-- ahead of the statement the list of the slot i is let go -/
theorem cs_frz {i : Nat} (h : PS X st (tS X.K s)) : PS X st (tS X.K fun env => s (frz i env)) := ps_w h fun D σ H ⟨S0, H0, A, env, E, o⟩ => by
  obtain ⟨A', E', w⟩ := E.frz i
  exact ⟨S0, H0, A', _, E', OutOk.step o Fr.refl fun a z => .inl (w a z)⟩
theorem css_frz {i : Nat} (h : PSs X sts (tS X.K s)) : PSs X sts (tS X.K fun env => s (frz i env)) := pss_w h fun D σ H ⟨S0, H0, A, env, E, o⟩ => by
  obtain ⟨A', E', w⟩ := E.frz i
  exact ⟨S0, H0, A', _, E', OutOk.step o Fr.refl fun a z => .inl (w a z)⟩
def sSet (i : Nat) (f : En → Option PyData) : En → Out := fun env => match f env with
  | some d => .nx (env.set i (.val d))
  | none => .bad
def sOwn (i : Nat) (f : En → Option (List PyData)) : En → Out := fun env => match f env with
  | some d => .nx (env.set i (.own d))
  | none => .bad
theorem set_run {K : PySem.W.Frag} {i : Nat} {D : Ends} {σ : L2.St} {H : Hp} (h : tS K (sSet i f) D σ H) : tAsg (tE K true f) (gName i) D σ H := by
  obtain ⟨S0, H0, A, env, E, o⟩ := h
  unfold sSet at o
  cases hd : f env with
  | none => rw [hd] at o; exact o.elim
  | some d =>
    rw [hd] at o
    exact ⟨S0, H0, A, env, d, E, hd, fun v H' s r => o A H' _ ((E.grow s).set_val (r.wide fun _ z => cl_sc z)) (Fr.of_same s) Sb.refl⟩
theorem own_run {K : PySem.W.Frag} {i : Nat} {D : Ends} {σ : L2.St} {H : Hp} (h : tS K (sOwn i fa) D σ H) : tAsg (tF K true fa) (gName i) D σ H := by
  obtain ⟨S0, H0, A, env, E, o⟩ := h
  unfold sOwn at o
  cases hd : fa env with
  | none => rw [hd] at o; exact o.elim
  | some ds =>
    rw [hd] at o
    refine ⟨S0, H0, A, env, ds, E, hd, fun p xs H' hn s hp r => o _ H' _ (E.set_own s hn hp (r.wide fun _ z => ⟨cl_sc z.1, z.2⟩)) (Fr.of_same s) fun a z => z.imp id fun e => by rw [e]; exact hn⟩
theorem cs_set {i : Nat} (h : PS X st (tAsg (tE X.K true f) (gName i))) : PS X st (tS X.K (sSet i f)) := ps_w h fun _ _ _ q => set_run q
theorem cs_own {i : Nat} (h : PS X st (tAsg (tF X.K true fa) (gName i))) : PS X st (tS X.K (sOwn i fa)) := ps_w h fun _ _ _ q => own_run q
/-- x.append(e), x an owned list -/
def sApp (i : Nat) (f : En → Option PyData) : En → Out := fun env => match f env with
  | some d => match env[i]? with
    | some (.own ds) => if ds.length < 1000000 then .nx (env.set i (.own (ds ++ [d]))) else .bad
    | _ => .bad
  | none => .bad
theorem app_run {K : PySem.W.Frag} {i : Nat} {D : Ends} {σ : L2.St} {H : Hp} (h : tS K (sApp i f) D σ H) : tDrop (tBM K "list" rAppend (tVar i) (tCons (tE K true f) tNil)) D σ H := by
  obtain ⟨S0, H0, A, env, E, o⟩ := h
  unfold sApp at o
  cases hd : f env with
  | none => rw [hd] at o; exact o.elim
  | some d =>
    rw [hd] at o
    replace o : OutOk K S0 H0 A H (match env[i]? with
      | some (.own ds) => if ds.length < 1000000 then .nx (env.set i (.own (ds ++ [d]))) else .bad
      | _ => .bad) D := o
    split at o
    · rename_i ds hi
      split at o
      · rename_i hl
        rcases E.sl i _ hi with z | ⟨v, h1, a, xs, rfl, ha, hh, r⟩
        · cases z
        refine ⟨_, h1, .inl ⟨rfl, xs, .inl (.inl hh)⟩, S0, H0, A, env, d, E, hd, fun v H' s r' => ?_⟩
        have E' := E.grow s
        refine ⟨a, xs, v, rfl, rfl, s _ _ hh, ?_, ?_⟩
        · rw [r.length]
          exact Nat.lt_of_lt_of_le hl (by decide)
        · have q := RpA.append (r.grow s) (RpA.cons (r'.wide fun _ z => cl_sc z) RpA.nil)
          refine o A _ σ (E'.mut hi h1 ha (s _ _ hh) q) (fun b u e n => ?_) Sb.refl
          have nb : b ≠ a := fun z => n (z ▸ ha)
          rw [upd_ne nb]
          exact s _ _ e
      · exact o.elim
    · exact o.elim
theorem cs_app {i : Nat} (h : PS X st (tDrop (tBM X.K "list" rAppend (tVar i) (tCons (tE X.K true f) tNil)))) : PS X st (tS X.K (sApp i f)) := ps_w h fun _ _ _ q => app_run q
/-- x[k] = e, x an owned list -/
def ixD (n : Nat) (k : PyData) : Option Nat := match k with
  | .int i => ixN n i
  | _ => none
def sPut (i : Nat) (fk f : En → Option PyData) : En → Out := fun env => match f env with
  | some d => match env[i]? with
    | some (.own ds) => match fk env with
      | some k => match ixD ds.length k with
        | some j => .nx (env.set i (.own (ds.set j d)))
        | none => .bad
      | none => .bad
    | _ => .bad
  | none => .bad
theorem put_run {K : PySem.W.Frag} {i : Nat} {fk : En → Option PyData} {D : Ends} {σ : L2.St} {H : Hp} (h : tS K (sPut i fk f) D σ H) : tAsg (tE K true f) (gSub (tVar i) (tE K c fk) rSetL) D σ H := by
  obtain ⟨S0, H0, A, env, E, o⟩ := h
  unfold sPut at o
  cases hd : f env with
  | none => rw [hd] at o; exact o.elim
  | some d =>
    rw [hd] at o
    refine ⟨S0, H0, A, env, d, E, hd, fun v H1 s1 r1 => ?_⟩
    cases hi : env[i]? with
    | none => rw [hi] at o; exact o.elim
    | some sl =>
      rw [hi] at o
      cases sl with
      | un => exact o.elim
      | val _ => exact o.elim
      | ownT _ => exact o.elim
      | ownK _ => exact o.elim
      | exc _ _ _ => exact o.elim
      | fn _ => exact o.elim
      | own ds =>
        cases hk : fk env with
        | none => rw [hk] at o; exact o.elim
        | some k =>
          rw [hk] at o
          cases hj : ixD ds.length k with
          | none => simp only [hj] at o; exact o.elim
          | some j =>
            simp only [hj] at o
            rcases E.sl i _ hi with z | ⟨_, h1, a, xs, rfl, ha, hh, r⟩
            · cases z
            refine ⟨_, h1, S0, H0, A, env, k, E.grow s1, hk, fun u H2 s2 r2 => ?_⟩
            cases k with
            | int m =>
              rw [Rp] at r2
              have hh2 := s2 _ _ (s1 _ _ hh)
              refine ⟨a, xs, m, j, rfl, r2, hh2, by rw [r.length]; exact hj, ?_⟩
              have q := (r.grow (s1.trans s2)).set (i := j) ((r1.wide fun _ z => cl_sc z).grow s2)
              refine o A _ σ ((E.grow (s1.trans s2)).mut hi h1 ha hh2 q) (fun b u e n => ?_) Sb.refl
              have nb : b ≠ a := fun z => n (z ▸ ha)
              rw [upd_ne nb]
              exact (s1.trans s2) _ _ e
            | none => cases hj
            | bool _ => cases hj
            | str _ => cases hj
            | list _ => cases hj
            | tuple _ => cases hj
            | dict _ => cases hj
theorem cs_put {i : Nat} {fk : En → Option PyData} (h : PS X st (tAsg (tE X.K true f) (gSub (tVar i) (tE X.K c fk) rSetL))) : PS X st (tS X.K (sPut i fk f)) := ps_w h fun _ _ _ q => put_run q
def sIf (ga : En → Option Bool) (s t : En → Out) : En → Out := fun env => match ga env with
  | some true => s env
  | some false => t env
  | none => .bad
theorem cs_if {a b : List Stmt} (hc : PT X e (tT X.K ga)) (ha : PSs X a (tS X.K s)) (hb : PSs X b (tS X.K t)) : PS X (.If e a b pos) (tS X.K (sIf ga s t)) := ps_w (ps_if hc ha hb) fun D σ H ⟨S0, H0, A, env, E, o⟩ => by
  unfold sIf at o
  cases hd : ga env with
  | none => rw [hd] at o; exact o.elim
  | some k =>
    rw [hd] at o
    refine ⟨S0, H0, A, env, k, E, hd, fun H' sm => ?_⟩
    cases k with
    | true => exact iteT <| ⟨S0, H0, A, env, E.grow sm, OutOk.step o (Fr.of_same sm) Sb.refl⟩
    | false => exact iteF <| ⟨S0, H0, A, env, E.grow sm, OutOk.step o (Fr.of_same sm) Sb.refl⟩
def sRet (f : En → Option PyData) : En → Out := fun env => match f env with
  | some d => .rt d
  | none => .bad
theorem cs_ret (h : PE X e (tE X.K true f)) : PS X (.Return (some e) pos) (tS X.K (sRet f)) := ps_w (ps_ret h) fun D σ H ⟨S0, H0, A, env, E, o⟩ => by
  unfold sRet at o
  cases hd : f env with
  | none => rw [hd] at o; exact o.elim
  | some d =>
    rw [hd] at o
    exact ⟨S0, H0, A, env, d, E, hd, fun v H' sm r => o v H' (E.same.trans sm) (r.wide fun _ z => (cl_sc z).1)⟩
def sRetN : En → Out := fun _ => .rt .none
theorem cs_retN : PS X (.Return none pos) (tS X.K sRetN) := ps_w ps_retN fun D σ H ⟨S0, H0, A, env, E, o⟩ => o _ H E.same (by rw [Rp])
def sBrk : En → Out := fun env => .bk env
def sCnt : En → Out := fun env => .ct env
theorem cs_brk : PS X (.Break pos) (tS X.K sBrk) := ps_w ps_break fun D σ H ⟨S0, H0, A, env, E, o⟩ => o A H σ E Fr.refl Sb.refl
theorem cs_cnt : PS X (.Continue pos) (tS X.K sCnt) := ps_w ps_continue fun D σ H ⟨S0, H0, A, env, E, o⟩ => o A H σ E Fr.refl Sb.refl
theorem cs_pass : PS X (.Pass pos) (tS X.K sNil) := ps_w ps_pass fun D σ H ⟨S0, H0, A, env, E, o⟩ => o A H σ E Fr.refl Sb.refl
/-- an expression for nothing -/
def sDrop (f : En → Option PyData) : En → Out := fun env => match f env with
  | some _ => .nx env
  | none => .bad
theorem cs_drop (h : PS X st (tDrop (tE X.K c f))) : PS X st (tS X.K (sDrop f)) := ps_w h fun D σ H ⟨S0, H0, A, env, E, o⟩ => by
  unfold sDrop at o
  cases hd : f env with
  | none => rw [hd] at o; exact o.elim
  | some d =>
    rw [hd] at o
    exact ⟨S0, H0, A, env, d, E, hd, fun v H' sm r => o A H' σ (E.grow sm) (Fr.of_same sm) Sb.refl⟩
/-- x += e, ints -/
def sAug (i : Nat) (k : Int → Int → Int) (f : En → Option PyData) : En → Out := fun env => match env[i]? with
  | some (.val (.int x)) => match f env with
    | some (.int y) => .nx (env.set i (.val (.int (k x y))))
    | _ => .bad
  | _ => .bad
theorem cs_aug {i : Nat} {k : Int → Int → Int} (h : PS X st (tAug i (tE X.K c f) (ipI k))) : PS X st (tS X.K (sAug i k f)) := ps_w h fun D σ H ⟨S0, H0, A, env, E, o⟩ => by
  unfold sAug at o
  split at o
  · rename_i x hi
    rcases E.sl i _ hi with z | ⟨v, h1, h2⟩
    · cases z
    have h2' : Rp X.K (Cl S0 H0 A) H (.int x) v := h2
    rw [Rp] at h2'
    subst h2'
    split at o
    · rename_i y hd
      refine ⟨_, h1, S0, H0, A, env, _, E, hd, fun u H' sm r => ?_⟩
      rw [Rp] at r
      refine ⟨x, y, rfl, r, o A H' _ ((E.grow sm).set_val (by rw [Rp])) (Fr.of_same sm) Sb.refl⟩
    · exact o.elim
  · exact o.elim
end
end Mir

namespace Mir
open PySem PySem.Spec PyProof.Rows L2

/-! ### targets -/
def gVal (i : Nat) : PyData → En → Option En := fun d env => some (env.set i (.val d))
def gMany : List Nat → List PyData → En → Option En
  | [], [], env => some env
  | i :: is, d :: ds, env => gMany is ds (env.set i (.val d))
  | _, _, _ => none
def gT (is : List Nat) : PyData → En → Option En := fun d env => match d with
  | .tuple ds => gMany is ds env
  | _ => none
def gsOf : List Nat → TGs
  | [] => gNil
  | i :: is => gCons (gName i) (gsOf is)
section
variable {X : Cx} {tg e iter : Expr} {pos : Pos} {K : PySem.W.Frag} {S0 : Addr → Prop} {H0 H H1 : Hp} {A : Addr → Prop} {σ : L2.St} {env : En}
theorem wipe_set {i : Nat} {x : Option V} : ∀ {is : List Nat}, (wipe (σ.set i x) is).set i none = (wipe σ is).set i none
  | [] => by simp [wipe]
  | j :: is => by
    show ((wipe (σ.set i x) is).set j none).set i none = ((wipe σ is).set j none).set i none
    by_cases h : j = i
    · subst h
      rw [List.set_set, List.set_set]
      exact wipe_set
    · rw [List.set_comm _ _ h, List.set_comm _ _ h, wipe_set]
theorem wipe_get (i : Nat) : ∀ (vs : List Nat), (wipe σ vs)[i]? = if i ∈ vs then (σ[i]?).map (fun _ => none) else σ[i]?
  | [] => by simp [wipe]
  | j :: vs => by
    show ((wipe σ vs).set j none)[i]? = _
    rw [List.getElem?_set, wipe_length]
    by_cases h : j = i
    · subst h
      rw [if_pos rfl, if_pos List.mem_cons_self]
      by_cases l : j < σ.length
      · rw [if_pos l, List.getElem?_eq_getElem l]; rfl
      · rw [if_neg l, List.getElem?_eq_none (by omega)]; rfl
    · rw [if_neg h, wipe_get i vs]
      by_cases m : i ∈ vs
      · rw [if_pos m, if_pos (List.mem_cons_of_mem _ m)]
      · rw [if_neg m, if_neg (fun z => by
          rcases List.mem_cons.mp z with z | z
          · exact h z.symm
          · exact m z)]
theorem wipe_wipe (vs : List Nat) : wipe (wipe σ vs) vs = wipe σ vs := by
  apply List.ext_getElem?
  intro i
  rw [wipe_get, wipe_get]
  split
  · cases σ[i]? <;> rfl
  · rfl
theorem cg_name {i : Nat} (h : PG X tg (gName i)) : PG X tg (tG X.K [i] (gVal i)) := pg_w h fun v σ H Q ⟨S0, H0, A, env, d, env', E, r, hg, q⟩ => by
  cases hg
  refine q _ (E.set_val r) ?_
  show (σ.set i (some v)).set i none = σ.set i none
  rw [List.set_set]
theorem many_run : ∀ {is : List Nat} {ds : List PyData} {vs : List V} {σ : L2.St} {env env' : En} {Q : L2.St → Hp → Prop}, EnvOk K S0 H0 A H σ env → RpA K (Cl S0 H0 A) H ds vs → gMany is ds env = some env' →
    (∀ σ', EnvOk K S0 H0 A H σ' env' → wipe σ' is = wipe σ is → Q σ' H) → gsOf is vs σ H Q
  | [], [], _, σ, env, env', Q, E, r, g, q => by
    rw [RpA] at r
    subst r
    cases g
    exact ⟨rfl, q σ E rfl⟩
  | [], _ :: _, _, _, _, _, _, _, _, g, _ => by cases g
  | _ :: _, [], _, _, _, _, _, _, _, g, _ => by cases g
  | i :: is, d :: ds, _, σ, env, env', Q, E, r, g, q => by
    rw [RpA] at r
    obtain ⟨v, r', rfl, h1, h2⟩ := r
    refine ⟨v, r', rfl, ?_⟩
    show gsOf is r' (σ.set i (some v)) H Q
    refine many_run (E.set_val h1) h2 g fun σ' E' w => q σ' E' ?_
    show (wipe σ' is).set i none = (wipe σ is).set i none
    rw [w, wipe_set]
theorem gMany_len : ∀ {is : List Nat} {ds : List PyData} {env env' : En}, gMany is ds env = some env' → ds.length = is.length
  | [], [], _, _, _ => rfl
  | [], _ :: _, _, _, g => by cases g
  | _ :: _, [], _, _, g => by cases g
  | _ :: is, _ :: ds, env, env', g => by
    rw [List.length_cons, List.length_cons, gMany_len (is := is) (ds := ds) g]
theorem cg_tup {is : List Nat} {n : Nat} (h : PG X tg (gTup X.K n (gsOf is))) (hn : n = is.length := by rfl) : PG X tg (tG X.K is (gT is)) := pg_w h fun v σ H Q ⟨S0, H0, A, env, d, env', E, r, hg, q⟩ => by
  cases d with
  | tuple ds =>
    rw [Rp] at r
    obtain ⟨a, xs, rfl, hs, ra⟩ := r
    exact ⟨a, xs, rfl, live_t hs, by rw [ra.length, hn]; exact gMany_len hg, many_run E ra hg q⟩
  | _ => cases hg

/-! ### what is walked -/
structure Wk (K : PySem.W.Frag) (J : It) (G : Hp → Prop) (S : Addr → Prop) (ds : List PyData) : Prop where
  go : ∀ i H, G H → i < ds.length → J.go i H
  yld : ∀ (i : Nat) H d x H', G H → ds[i]? = some d → J.yld i H x H' → Same H H' ∧ Rp K S H' d x
  stop : ∀ i H, G H → ds.length ≤ i → J.stop i H
/-- c: it stands still while the code runs -/
def tI (K : PySem.W.Frag) (c : Bool) (f : En → Option (List PyData)) : TI := fun σ H R => ∃ S0 H0 A env ds, EnvOk K S0 H0 A H σ env ∧ f env = some ds ∧ ∀ J H' G, Same H H' → (∀ H2, Same H' H2 → G H2) → (c = true → ∀ H2, Fr A H' H2 → G H2) →
  Wk K J G (fun b => Cl S0 H0 A b ∧ H' b ≠ none) ds → R J H'
theorem pi_w {t t' : TI} (h : PI X tg iter t) (w : ∀ σ H R, t' σ H R → t σ H R) : PI X tg iter t' := ⟨fun pins s σ H R I q => h.run pins s σ H R I (w σ H R q)⟩
def iAny (K : PySem.W.Frag) (tl : TE) : TI := fun σ H R => tl σ H fun x H1 => ∃ a, x = .ref a ∧ (((∃ xs, SqL K H1 a xs) ∧ R (Itl K a) H1) ∨ ((∃ xs, SqT K H1 a xs) ∧ R (Itt K a) H1))
theorem pi_any {l : Expr} {tl : TE} (hl : PE X l tl) : PI X tg l (iAny X.K tl) := by
  constructor
  intro pins s σ H R I h
  refine thn (hl.run pins s σ H _ I h) ?_
  rintro v t ⟨x, H1, I1, r1, a, rfl, h1⟩
  cases r1
  have nx : ∀ (o : Obj) (b : Addr) (u : Obj), t.heap.get? b = some u → (t.heap.push o).get? b = some u := fun o b u e => Heap.get?_push_of_some _ e
  rcases h1 with ⟨⟨xs, hq⟩, q⟩ | ⟨⟨xs, hq⟩, q⟩
  · obtain ⟨its, rv, pl, hz⟩ := I1.list hq
    refine wpAny_pyIter_list pl.isList ⟨t.heap.objs.size, [t.heap.objs.size], _, _, H1, rfl, I1.kept (t' := t.toks) (nx _), turn_list a _, ⟨_, Heap.get?_push_size _ rfl, rfl, rfl⟩, ?_, q⟩
    intro b hb
    rw [List.mem_singleton.mp hb]
    exact I1.fpOk (Nat.le_refl _) (I1.hok.fresh (Nat.le_refl _))
  · obtain ⟨its, rv, pl, hz⟩ := I1.tuple hq
    refine wpAny_pyIter_tuple (show t.heap.IsTuple a its.toArray from pl) ⟨t.heap.objs.size, [t.heap.objs.size], _, _, H1, rfl, I1.kept (t' := t.toks) (nx _), turn_tuple a _, ⟨_, Heap.get?_push_size _ rfl, rfl, rfl⟩, ?_, q⟩
    intro b hb
    rw [List.mem_singleton.mp hb]
    exact I1.fpOk (Nat.le_refl _) (I1.hok.fresh (Nat.le_refl _))
theorem fr_rd {u : HO} {a : Addr} (f : Fr A H H1) (n : ¬ A a) (h : Rd H a u) : Rd H1 a u := by
  rcases h with h | ⟨o, h⟩
  · exact .inl (f a _ h n)
  · exact .inr ⟨o, f a _ h n⟩
theorem fr_t (E : EnvOk K S0 H0 A H σ env) (f : Fr A H H1) {a : Addr} {xs : List V} (h : H a = some (.tup xs)) : H1 a = some (.tup xs) := f a _ h fun z => E.no_tup z h
theorem fr_d (E : EnvOk K S0 H0 A H σ env) (f : Fr A H H1) : ∀ a u, fz u = true → H a = some u → H1 a = some u := fun a u y h => f a _ h fun z => E.no_frz y z h
/-- what is clean stands still -/
theorem RpA.fr (E : EnvOk K S0 H0 A H σ env) (f : Fr A H H1) {S : Addr → Prop} (w : ∀ a, S a → ¬ A a) {ds : List PyData} {vs : List V} (h : RpA K S H ds vs) : RpA K (fun b => S b ∧ H b ≠ none) H1 ds vs :=
  RpA.mono (fun a xs z r => ⟨⟨z, fun e => by rcases r with r | ⟨o, r⟩ <;> (rw [e] at r; cases r)⟩, fr_rd f (w a z) r⟩) (fun _ _ z => fr_t E f z) (fr_d E f) ds vs h
theorem RpA.sm (s : Same H H1) {S : Addr → Prop} {ds : List PyData} {vs : List V} (h : RpA K S H ds vs) : RpA K (fun b => S b ∧ H b ≠ none) H1 ds vs :=
  RpA.mono (fun a xs z r => ⟨⟨z, fun e => by rcases r with r | ⟨o, r⟩ <;> (rw [e] at r; cases r)⟩, same_rd s r⟩) (fun _ _ z => same_t s z) (same_d s) ds vs h
theorem RpA.at {S : Addr → Prop} {ds : List PyData} {vs : List V} {i : Nat} {d : PyData} {x : V} (h : RpA K S H ds vs) (e : ds[i]? = some d) (g : vs[i]? = some x) : Rp K S H d x := by
  obtain ⟨v, e1, e2⟩ := h.get e
  rw [e1] at g
  cases g
  exact e2
theorem wk_list {a : Addr} {xs : List V} {ds : List PyData} {S : Addr → Prop} : Wk K (Itl K a) (fun H => SqL K H a xs ∧ RpA K S H ds xs) S ds where
  go := fun i H g l => ⟨xs, xs[i]'(by rw [g.2.length]; exact l), g.1, by rw [List.getElem?_eq_getElem]⟩
  yld := fun i H d x H' g e y => by
    obtain ⟨rfl, y⟩ := y
    exact ⟨Same.refl _, g.2.at e (y xs g.1)⟩
  stop := fun i H g l => ⟨xs, g.1, by rw [g.2.length]; exact l⟩
theorem wk_tup {a : Addr} {xs : List V} {ds : List PyData} {S : Addr → Prop} : Wk K (Itt K a) (fun H => H a = some (.tup xs) ∧ RpA K S H ds xs) S ds where
  go := fun i H g l => ⟨xs, xs[i]'(by rw [g.2.length]; exact l), live_t g.1, by rw [List.getElem?_eq_getElem]⟩
  yld := fun i H d x H' g e y => by
    obtain ⟨rfl, y⟩ := y
    exact ⟨Same.refl _, g.2.at e (y xs (live_t g.1))⟩
  stop := fun i H g l => ⟨xs, live_t g.1, by rw [g.2.length]; exact l⟩
def iSeq (f : En → Option PyData) : En → Option (List PyData) := fun env => match f env with
  | some (.list ds) => some ds
  | some (.tuple ds) => some ds
  | _ => none
theorem ci_seq {f : En → Option PyData} (h : PE X iter (tE X.K true f)) : PI X tg iter (tI X.K true (iSeq f)) := pi_w (pi_any h) fun σ H R ⟨S0, H0, A, env, ds, E, hf, q⟩ => by
  unfold iSeq at hf
  split at hf
  · rename_i es hd
    cases hf
    refine ⟨S0, H0, A, env, _, E, hd, fun v H1 s r => ?_⟩
    rw [Rp] at r
    obtain ⟨a, xs, rfl, hs, ra⟩ := r
    have ra' : RpA X.K (Cl S0 H0 A) H1 ds xs := ra.wide fun _ z => cl_sc z
    exact ⟨a, rfl, .inl ⟨⟨xs, hs.sq⟩, q _ H1 _ s (fun H2 s2 => ⟨s2.seq hs.sq, ra'.sm s2⟩) (fun _ H2 f2 => ⟨hs.imp (fun z => fr_rd f2 (cl_sc z.1).2 z.2) id, ra'.fr (E.grow s) f2 fun _ z => z.2⟩) wk_list⟩⟩
  · rename_i es hd
    cases hf
    refine ⟨S0, H0, A, env, _, E, hd, fun v H1 s r => ?_⟩
    rw [Rp] at r
    obtain ⟨a, xs, rfl, hs, ra⟩ := r
    have ra' : RpA X.K (Cl S0 H0 A) H1 ds xs := ra.wide fun _ z => cl_sc z
    exact ⟨a, rfl, .inr ⟨⟨xs, live_t hs⟩, q _ H1 _ s (fun H2 s2 => ⟨same_t s2 hs, ra'.sm s2⟩) (fun _ H2 f2 => ⟨fr_t (E.grow s) f2 hs, ra'.fr (E.grow s) f2 fun _ z => z.2⟩) wk_tup⟩⟩
  · cases hf
/-- an owned list, walked by a comprehension -/
def iOwn (i : Nat) : En → Option (List PyData) := fun env => match env[i]? with
  | some (.own ds) => some ds
  | _ => none
theorem ci_own {i : Nat} (h : PE X iter (tVar i)) : PI X tg iter (tI X.K false (iOwn i)) := pi_w (pi_any h) fun σ H R ⟨S0, H0, A, env, ds, E, hf, q⟩ => by
  unfold iOwn at hf
  split at hf
  · rename_i es hi
    cases hf
    rcases E.sl i _ hi with z | ⟨v, h1, a, xs, rfl, ha, hh, r⟩
    · cases z
    exact ⟨_, h1, a, rfl, .inl ⟨⟨xs, .inl (.inl hh)⟩, q _ H _ (Same.refl H) (fun H2 s2 => ⟨.inl (.inl (s2 _ _ hh)), r.sm s2⟩) (fun z => nomatch z) wk_list⟩⟩
  · cases hf
/-! ranges -/
def rngD (lo : Int) (n : Nat) : List PyData := (List.range n).map fun k => .int (lo + (k : Nat))
theorem rng_len (lo : Int) (n : Nat) : (rngD lo n).length = n := by simp [rngD]
theorem rng_get {lo : Int} {n i : Nat} {d : PyData} (h : (rngD lo n)[i]? = some d) : d = .int (lo + (i : Nat)) := by
  unfold rngD at h
  rw [List.getElem?_map] at h
  cases q : (List.range n)[i]? with
  | none => rw [q] at h; cases h
  | some k =>
    rw [q] at h
    rw [List.getElem?_range (by
      obtain ⟨l, _⟩ := List.getElem?_eq_some_iff.mp q
      simpa using l)] at q
    cases q
    exact (Option.some.inj h).symm
theorem wk_rng {lo : Int} {n : Nat} {S : Addr → Prop} : Wk K (Itr lo n) (fun _ => True) S (rngD lo n) where
  go := fun i H _ l => by rw [rng_len] at l; exact l
  yld := fun i H d x H' _ e y => by
    obtain ⟨rfl, rfl⟩ := y
    rw [rng_get e]
    exact ⟨Same.refl _, by rw [Rp]⟩
  stop := fun i H _ l => by rw [rng_len] at l; exact l
def iR1 (fa : En → Option (List PyData)) : En → Option (List PyData) := fun env => match fa env with
  | some [.int j] => if j < 1000000 ∧ -1000000 < j then some (rngD 0 j.toNat) else none
  | _ => none
def iR2 (fa : En → Option (List PyData)) : En → Option (List PyData) := fun env => match fa env with
  | some [.int i, .int j] => if (j < 1000000000 ∧ -1000000000 < j) ∧ i < 1000000000 ∧ -1000000000 < i then some (rngD i (j - i).toNat) else none
  | _ => none
theorem RpA.one {S : Addr → Prop} {d : PyData} {vs : List V} (h : RpA K S H [d] vs) : ∃ v, vs = [v] ∧ Rp K S H d v := by
  rw [RpA] at h
  obtain ⟨v, r, rfl, h1, h2⟩ := h
  rw [RpA] at h2
  subst h2
  exact ⟨v, rfl, h1⟩
theorem RpA.two {S : Addr → Prop} {d e : PyData} {vs : List V} (h : RpA K S H [d, e] vs) : ∃ v u, vs = [v, u] ∧ Rp K S H d v ∧ Rp K S H e u := by
  rw [RpA] at h
  obtain ⟨v, r, rfl, h1, h2⟩ := h
  obtain ⟨u, rfl, h3⟩ := h2.one
  exact ⟨v, u, rfl, h1, h3⟩
theorem ci_r1 {c : Bool} {fa : En → Option (List PyData)} (h : PI X tg iter (iRng1 (tA X.K c fa))) : PI X tg iter (tI X.K true (iR1 fa)) := pi_w h fun σ H R ⟨S0, H0, A, env, ds, E, hf, q⟩ => by
  unfold iR1 at hf
  split at hf
  · rename_i j hd
    split at hf
    · rename_i hj
      cases hf
      refine ⟨S0, H0, A, env, _, E, hd, fun vs H1 s r => ?_⟩
      obtain ⟨v, rfl, r1⟩ := r.one
      rw [Rp] at r1
      subst r1
      exact ⟨j, rfl, by omega, by omega, q _ H1 _ s (fun _ _ => trivial) (fun _ _ _ => trivial) wk_rng⟩
    · cases hf
  · cases hf
theorem ci_r2 {c : Bool} {fa : En → Option (List PyData)} (h : PI X tg iter (iRng2 (tA X.K c fa))) : PI X tg iter (tI X.K true (iR2 fa)) := pi_w h fun σ H R ⟨S0, H0, A, env, ds, E, hf, q⟩ => by
  unfold iR2 at hf
  split at hf
  · rename_i i j hd
    split at hf
    · rename_i hj
      cases hf
      refine ⟨S0, H0, A, env, _, E, hd, fun vs H1 s r => ?_⟩
      obtain ⟨v, u, rfl, r1, r2⟩ := r.two
      rw [Rp] at r1 r2
      subst r1 r2
      exact ⟨i, j, rfl, ⟨by omega, by omega, by omega, by omega⟩, q _ H1 _ s (fun _ _ => trivial) (fun _ _ _ => trivial) wk_rng⟩
    · cases hf
  · cases hf

/-! ### for, while -/
def loopF (g : PyData → En → Option En) (b : En → Out) : List PyData → En → Out
  | [], e => .nx e
  | d :: ds, e => match g d e with
    | none => .bad
    | some e1 => match b e1 with
      | .nx e2 => loopF g b ds e2
      | .ct e2 => loopF g b ds e2
      | .bk e2 => .nx e2
      | .rt v => .rt v
      | .bad => .bad
def sFor (f : En → Option (List PyData)) (g : PyData → En → Option En) (b : En → Out) : En → Out := fun env => match f env with
  | some ds => loopF g b ds env
  | none => .bad
theorem for_run {f : En → Option (List PyData)} {g : PyData → En → Option En} {b : En → Out} {vs : List Nat} {D : Ends} (h : tS K (sFor f g b) D σ H) : tFor (tI K true f) (tG K vs g) (tS K b) D σ H := by
  obtain ⟨S0, H0, A, env, E, o⟩ := h
  unfold sFor at o
  cases hd : f env with
  | none => rw [hd] at o; exact o.elim
  | some ds =>
    rw [hd] at o
    refine ⟨S0, H0, A, env, ds, E, hd, fun J H1 G s _ gF wk => ?_⟩
    refine ⟨fun i m σ' H' => m = ds.length - i ∧ i ≤ ds.length ∧ ∃ A' env', EnvOk K S0 H0 A' H' σ' env' ∧ Fr A H1 H' ∧ Sb A H1 A' ∧ OutOk K S0 H0 A' H' (loopF g b (ds.drop i) env') D,
      ⟨_, rfl, Nat.zero_le _, A, env, E.grow s, Fr.refl, Sb.refl, OutOk.step o (Fr.of_same s) Sb.refl⟩, ?_⟩
    rintro i m σ' H' ⟨rfl, hi, A', env', E', f', b', o'⟩
    by_cases hlt : i < ds.length
    · have hdr : ds.drop i = ds[i] :: ds.drop (i + 1) := List.drop_eq_getElem_cons hlt
      rw [hdr] at o'
      refine .inr ⟨wk.go i H' (gF rfl H' f') hlt, fun σ2 H2 => ∃ A2 e2, EnvOk K S0 H0 A2 H2 σ2 e2 ∧ Fr A H1 H2 ∧ Sb A H1 A2 ∧ OutOk K S0 H0 A2 H2 (loopF g b (ds.drop (i + 1)) e2) D, ?_, fun x Hx y => ?_⟩
      · rintro σ2 H2 ⟨A2, e2, z⟩
        exact ⟨ds.length - (i + 1), by omega, rfl, hlt, A2, e2, z⟩
      · obtain ⟨sx, rx⟩ := wk.yld i H' _ x Hx (gF rfl H' f') (List.getElem?_eq_getElem hlt) y
        have rx' : Rp K (Cl S0 H0 A') Hx ds[i] x := rx.wide fun a z => ⟨z.1.1, fun y => by
          rcases b' a y with k | k
          · exact z.1.2 k
          · exact z.2 k⟩
        simp only [loopF] at o'
        cases hg : g ds[i] env' with
        | none => rw [hg] at o'; exact o'.elim
        | some e1 =>
          rw [hg] at o'
          refine ⟨S0, H0, A', env', _, e1, E'.grow sx, rx', hg, fun σ1 E1 _ => ⟨S0, H0, A', e1, E1, ?_⟩⟩
          have fs : Fr A' H' Hx := Fr.of_same sx
          cases hb : b e1 with
          | nx e2 =>
            simp only [hb] at o'
            exact fun A2 H2 σ2 E2 f2 b2 => ⟨A2, e2, E2, f'.trans b' (fs.trans Sb.refl f2), Sb.trans f' b' (Sb.trans fs Sb.refl b2), OutOk.step o' (fs.trans Sb.refl f2) (Sb.trans fs Sb.refl b2)⟩
          | ct e2 =>
            simp only [hb] at o'
            exact fun A2 H2 σ2 E2 f2 b2 => ⟨A2, e2, E2, f'.trans b' (fs.trans Sb.refl f2), Sb.trans f' b' (Sb.trans fs Sb.refl b2), OutOk.step o' (fs.trans Sb.refl f2) (Sb.trans fs Sb.refl b2)⟩
          | bk e2 =>
            simp only [hb] at o'
            exact fun A2 H2 σ2 E2 f2 b2 => o' A2 H2 σ2 E2 (fs.trans Sb.refl f2) (Sb.trans fs Sb.refl b2)
          | rt v => simp only [hb] at o'; exact o'
          | bad => simp only [hb] at o'; exact o'
    · have hdr : ds.drop i = [] := List.drop_eq_nil_of_le (by omega)
      rw [hdr] at o'
      exact .inl ⟨wk.stop i H' (gF rfl H' f') (by omega), o' A' H' σ' E' Fr.refl Sb.refl⟩
def whlF (c : En → Option Bool) (b : En → Out) : Nat → En → Out
  | 0, _ => .bad
  | n + 1, e => match c e with
    | none => .bad
    | some false => .nx e
    | some true => match b e with
      | .nx e2 => whlF c b n e2
      | .ct e2 => whlF c b n e2
      | .bk e2 => .nx e2
      | .rt v => .rt v
      | .bad => .bad
theorem while_run {c : En → Option Bool} {b : En → Out} {n : Nat} {D : Ends} (h : tS K (whlF c b n) D σ H) : tWhile (tT K c) (tS K b) D σ H := by
  obtain ⟨S0, H0, A, env, E, o⟩ := h
  refine ⟨fun m σ' H' => ∃ A' env', EnvOk K S0 H0 A' H' σ' env' ∧ Fr A H H' ∧ Sb A H A' ∧ OutOk K S0 H0 A' H' (whlF c b m env') D, ⟨n, A, env, E, Fr.refl, Sb.refl, o⟩, ?_⟩
  rintro m σ' H' ⟨A', env', E', f', b', o'⟩
  cases m with
  | zero => exact o'.elim
  | succ m =>
    simp only [whlF] at o'
    cases hc : c env' with
    | none => rw [hc] at o'; exact o'.elim
    | some k =>
      rw [hc] at o'
      refine ⟨S0, H0, A', env', k, E', hc, fun H2 s2 => ?_⟩
      have fs : Fr A' H' H2 := Fr.of_same s2
      cases k with
      | false => exact iteF (o' A' H2 σ' (E'.grow s2) fs Sb.refl)
      | true =>
        refine iteT ⟨fun σ3 H3 => ∃ A3 e3, EnvOk K S0 H0 A3 H3 σ3 e3 ∧ Fr A H H3 ∧ Sb A H A3 ∧ OutOk K S0 H0 A3 H3 (whlF c b m e3) D, ?_, S0, H0, A', env', E'.grow s2, ?_⟩
        · rintro σ3 H3 ⟨A3, e3, z⟩
          exact ⟨m, Nat.lt_succ_self m, A3, e3, z⟩
        · cases hb : b env' with
          | nx e2 =>
            simp only [hb] at o'
            exact fun A2 H3 σ2 E2 f2 b2 => ⟨A2, e2, E2, f'.trans b' (fs.trans Sb.refl f2), Sb.trans f' b' (Sb.trans fs Sb.refl b2), OutOk.step o' (fs.trans Sb.refl f2) (Sb.trans fs Sb.refl b2)⟩
          | ct e2 =>
            simp only [hb] at o'
            exact fun A2 H3 σ2 E2 f2 b2 => ⟨A2, e2, E2, f'.trans b' (fs.trans Sb.refl f2), Sb.trans f' b' (Sb.trans fs Sb.refl b2), OutOk.step o' (fs.trans Sb.refl f2) (Sb.trans fs Sb.refl b2)⟩
          | bk e2 =>
            simp only [hb] at o'
            exact fun A2 H3 σ2 E2 f2 b2 => o' A2 H3 σ2 E2 (fs.trans Sb.refl f2) (Sb.trans fs Sb.refl b2)
          | rt v => simp only [hb] at o'; exact o'
          | bad => simp only [hb] at o'; exact o'
variable {st : Stmt} {f : En → Option (List PyData)} {g : PyData → En → Option En} {b : En → Out} {vs : List Nat}
theorem cs_for {body : List Stmt} (hp : PassesOwn (model X.prog X.w) X.A X.env X.xe) (hc : X.calm = true) (hi : PI X tg iter (tI X.K true f)) (hg : PG X tg (tG X.K vs g)) (hb : PSs X body (tS X.K b)) (hs : ∀ x, foldedSetIterable iter X.env x = pure x := by intro _; rfl) :
    PS X (.For tg iter body [] pos) (tS X.K (sFor f g b)) := ps_w (ps_for hp hc hi hg hb hs) fun _ _ _ q => for_run q
theorem cs_while {body : List Stmt} {c : En → Option Bool} (n : Nat) (hp : PassesOwn (model X.prog X.w) X.A X.env X.xe) (hc : PT X e (tT X.K c)) (hb : PSs X body (tS X.K b)) : PS X (.While e body [] pos) (tS X.K (whlF c b n)) := ps_w (ps_while hp hc hb) fun _ _ _ q => while_run q
/-- a, b, .. = e -/
def sUnp (f : En → Option PyData) (g : PyData → En → Option En) : En → Out := fun env => match f env with
  | some d => match g d env with
    | some e => .nx e
    | none => .bad
  | none => .bad
theorem cs_unp {fe : En → Option PyData} (h : PS X st (tAsg (tE X.K true fe) (tG X.K vs g))) : PS X st (tS X.K (sUnp fe g)) := ps_w h fun D σ H ⟨S0, H0, A, env, E, o⟩ => by
  unfold sUnp at o
  cases hd : fe env with
  | none => rw [hd] at o; exact o.elim
  | some d =>
    simp only [hd] at o
    cases hg : g d env with
    | none => simp only [hg] at o; exact o.elim
    | some e =>
      simp only [hg] at o
      exact ⟨S0, H0, A, env, d, E, hd, fun v H1 s r => ⟨S0, H0, A, env, d, e, E.grow s, r.wide fun _ z => cl_sc z, hg, fun σ' E' _ => o A H1 σ' E' (Fr.of_same s) Sb.refl⟩⟩

/-! ### comprehensions -/
def wipeE : En → List Nat → En
  | env, [] => env
  | env, i :: is => (wipeE env is).set i .un
theorem EnvOk.un (E : EnvOk K S0 H0 A H σ env) (i : Nat) (o : Option V) : EnvOk K S0 H0 A H (σ.set i o) (env.set i .un) where
  len := by simp [E.len]
  sl := fun j s q => by
    rcases set_get q with ⟨rfl, l, rfl⟩ | ⟨n, q⟩
    · exact .inl rfl
    · rw [set_other n]
      exact E.sl j s q
  dis := fun j k s t a q1 q2 o1 o2 q3 q4 => by
    rcases set_get q1 with ⟨_, _, z⟩ | ⟨n1, q1⟩
    · subst z; cases o1
    rcases set_get q2 with ⟨_, _, z⟩ | ⟨n2, q2⟩
    · subst z; cases o2
    rw [set_other n1] at q3
    rw [set_other n2] at q4
    exact E.dis j k s t a q1 q2 o1 o2 q3 q4
  tr := E.tr
  nw := E.nw
  same := E.same
theorem EnvOk.wipe (E : EnvOk K S0 H0 A H σ env) : ∀ is : List Nat, EnvOk K S0 H0 A H (L2.wipe σ is) (wipeE env is)
  | [] => E
  | i :: is => EnvOk.un (EnvOk.wipe E is) i none
/-- a new thing that no slot keeps -/
theorem EnvOk.add (E : EnvOk K S0 H0 A H σ env) {u0 : HO} {p : Addr} (hs : Same H H1) (hn : H p = none) (hp : H1 p = some u0) (hm : isMut u0 = true := by rfl) : EnvOk K S0 H0 (fun a => A a ∨ a = p) H1 σ env where
  len := E.len
  sl := fun j s q => by
    refine (E.sl j s q).imp id fun ⟨v, h1, h2⟩ => ⟨v, h1, ?_⟩
    have hL : ∀ a ys, Cl S0 H0 A a → Rd H a (.lst ys) → Cl S0 H0 (fun a => A a ∨ a = p) a ∧ Rd H1 a (.lst ys) := fun a ys z r => ⟨⟨z.1, fun y => by
      rcases y with y | y
      · exact z.2 y
      · subst y
        rcases r with r | ⟨o, r⟩ <;> (rw [hn] at r; cases r)⟩, same_rd hs r⟩
    exact SlOk.mono hL (fun _ _ z => same_t hs z) (same_d hs) (fun a u ha hu _ => ⟨.inl ha, hs _ _ hu⟩) h2
  dis := E.dis
  tr := fun a h => by
    rcases h with h | rfl
    · obtain ⟨u, q, m⟩ := E.tr a h
      exact ⟨u, hs _ _ q, m⟩
    · exact ⟨u0, hp, hm⟩
  nw := fun a h => by
    rcases h with h | rfl
    · exact E.nw a h
    · exact E.same.free hn
  same := E.same.trans hs
def compF (g : PyData → En → Option En) (ga : En → Option Bool) (fe : En → Option PyData) (env : En) : List PyData → Option (List PyData)
  | [] => some []
  | d :: ds => match g d env with
    | none => none
    | some e1 => match ga e1 with
      | none => none
      | some false => compF g ga fe env ds
      | some true => match fe e1 with
        | none => none
        | some v => match compF g ga fe env ds with
          | none => none
          | some vs => some (v :: vs)
def fCmp (is : List Nat) (f : En → Option (List PyData)) (g : PyData → En → Option En) (ga : En → Option Bool) (fe : En → Option PyData) : En → Option (List PyData) := fun env => match f env with
  | none => none
  | some ds => match compF g ga fe (wipeE env is) ds with
    | none => none
    | some vs => if vs.length ≤ 1000000 then some vs else none
def tYes' : En → Option Bool := fun _ => some true
theorem yes_run {Q : Bool → Hp → Prop} (h : tT K tYes' σ H Q) : tYes σ H Q := by
  obtain ⟨S0, H0, A, env, b, E, hb, q⟩ := h
  cases hb
  exact q H (Same.refl H)
theorem upd_monoD {S : Addr → Prop} {p : Addr} {u0 u1 : HO} (hp : H p = some u0) (hm : isMut u0 = true) : (∀ a zs, (S a ∧ a ≠ p) → Rd H a (.lst zs) → (S a ∧ a ≠ p) ∧ Rd (upd H p u1) a (.lst zs)) ∧ (∀ a zs, H a = some (.tup zs) → upd H p u1 a = some (.tup zs)) ∧ ∀ a u, fz u = true → H a = some u → upd H p u1 a = some u := by
  have nf : ∀ a u, fz u = true → H a = some u → a ≠ p := fun a u z r e => by rw [e, hp] at r; cases r; exact fz_mut z hm
  refine ⟨fun a zs z r => ⟨z, ?_⟩, fun a zs r => by rw [upd_ne (fun e => by rw [e, hp] at r; cases r; cases hm)]; exact r, fun a u z r => by rw [upd_ne (nf _ _ z r)]; exact r⟩
  rcases r with r | ⟨o, r⟩
  · exact .inl (by rw [upd_ne z.2]; exact r)
  · exact .inr ⟨o, by rw [upd_ne z.2]; exact r⟩
theorem RpA.updD {S : Addr → Prop} {p : Addr} {xs ys : List V} {ds : List PyData} {vs : List V} (h : RpA K (fun a => S a ∧ a ≠ p) H ds vs) (hp : H p = some (.lst xs)) : RpA K (fun a => S a ∧ a ≠ p) (upd H p (.lst ys)) ds vs := by
  obtain ⟨h1, h2, h3⟩ := upd_monoD (S := S) (u1 := .lst ys) hp rfl
  exact RpA.mono h1 h2 h3 ds vs h
theorem lc_run {c c2 : Bool} {ga : En → Option Bool} {fe : En → Option PyData} {is : List Nat} {tt : TT} {Q : VK} (ht : ∀ σ H Q, tT K ga σ H Q → tt σ H Q) (h : tF K c2 (fCmp is f g ga fe) σ H Q) : tLc (tI K c f) (tG K is g) tt (tE K true fe) is σ H Q := by
  obtain ⟨S0, H0, A, env, res, E, hf, q⟩ := h
  unfold fCmp at hf
  cases hd : f env with
  | none => rw [hd] at hf; cases hf
  | some ds =>
    simp only [hd] at hf
    cases hc : compF g ga fe (wipeE env is) ds with
    | none => simp only [hc] at hf; cases hf
    | some vs =>
      simp only [hc] at hf
      split at hf
      · rename_i hlen
        cases hf
        refine ⟨S0, H0, A, env, ds, E, hd, fun J H1 G s gS _ wk D hD => ?_⟩
        have E1 := E.grow s
        refine ⟨fun i m H2 => m = ds.length - i ∧ i ≤ ds.length ∧ Same H1 H2 ∧ ∃ acc accD rest, H2 D = some (.lst acc) ∧ RpA K (fun a => Cl S0 H0 A a ∧ a ≠ D) H2 accD acc ∧ compF g ga fe (wipeE env is) (ds.drop i) = some rest ∧ accD ++ rest = res,
          ⟨_, rfl, Nat.zero_le _, same_new hD, [], [], res, upd_same, RpA.nil, hc, rfl⟩, ?_⟩
        rintro i m H2 ⟨rfl, hi, s2, acc, accD, rest, hacc, racc, hrest, hres⟩
        by_cases hlt : i < ds.length
        · have hdr : ds.drop i = ds[i] :: ds.drop (i + 1) := List.drop_eq_getElem_cons hlt
          rw [hdr] at hrest
          refine .inr ⟨wk.go i H2 (gS H2 s2) hlt, fun H3 => Same H1 H3 ∧ ∃ acc accD rest, H3 D = some (.lst acc) ∧ RpA K (fun a => Cl S0 H0 A a ∧ a ≠ D) H3 accD acc ∧ compF g ga fe (wipeE env is) (ds.drop (i + 1)) = some rest ∧ accD ++ rest = res, ?_, fun x Hx y => ?_⟩
          · rintro H3 ⟨s3, z⟩
            exact ⟨ds.length - (i + 1), by omega, rfl, hlt, s3, z⟩
          · obtain ⟨sx, rx⟩ := wk.yld i H2 _ x Hx (gS H2 s2) (List.getElem?_eq_getElem hlt) y
            have E2 : EnvOk K S0 H0 (fun a => A a ∨ a = D) Hx (L2.wipe σ is) (wipeE env is) := (E1.wipe is).add (s2.trans sx) hD (sx _ _ hacc)
            have rx' : Rp K (Cl S0 H0 (fun a => A a ∨ a = D)) Hx ds[i] x := rx.wide fun a z => ⟨z.1.1, fun y => by
              rcases y with k | k
              · exact z.1.2 k
              · exact z.2 (by rw [k]; exact hD)⟩
            simp only [compF] at hrest
            cases hg : g ds[i] (wipeE env is) with
            | none => rw [hg] at hrest; cases hrest
            | some e1 =>
              simp only [hg] at hrest
              refine ⟨S0, H0, _, _, _, e1, E2, rx', hg, fun σ2 E3 w3 => ⟨by rw [w3, wipe_wipe], ht _ _ _ ?_⟩⟩
              cases hga : ga e1 with
              | none => simp only [hga] at hrest; cases hrest
              | some k =>
                refine ⟨S0, H0, _, e1, k, E3, hga, fun H3 s3 => ?_⟩
                cases k with
                | false =>
                  simp only [hga] at hrest
                  exact iteF ⟨(s2.trans sx).trans s3, acc, accD, rest, s3 _ _ (sx _ _ hacc), (racc.grow sx).grow s3, hrest, hres⟩
                | true =>
                  simp only [hga] at hrest
                  cases hfe : fe e1 with
                  | none => simp only [hfe] at hrest; cases hrest
                  | some v =>
                    simp only [hfe] at hrest
                    cases hr2 : compF g ga fe (wipeE env is) (ds.drop (i + 1)) with
                    | none => simp only [hr2] at hrest; cases hrest
                    | some rest2 =>
                      simp only [hr2] at hrest
                      cases hrest
                      refine iteT ⟨S0, H0, _, e1, v, E3.grow s3, hfe, fun y H4 s4 r4 => ?_⟩
                      have h4 := s4 _ _ (s3 _ _ (sx _ _ hacc))
                      have r4' : Rp K (fun a => Cl S0 H0 A a ∧ a ≠ D) H4 v y := r4.wide fun a z => ⟨⟨(cl_sc z).1, fun k => (cl_sc z).2 (.inl k)⟩, fun k => (cl_sc z).2 (.inr k)⟩
                      have al : acc.length < sizeLine := by
                        rw [racc.length]
                        have : accD.length < res.length := by rw [← hres]; simp
                        exact Nat.lt_of_lt_of_le this (sz6 hlen)
                      refine ⟨acc, h4, al, fun b u e => ?_, acc ++ [y], accD ++ [v], rest2, upd_same, ?_, rfl, by rw [← hres]; simp⟩
                      · rw [upd_ne (ne_of_none e hD)]
                        exact s4 _ _ (s3 _ _ (sx _ _ (s2 _ _ e)))
                      · exact RpA.updD ((((racc.grow sx).grow s3).grow s4).append (RpA.cons r4' RpA.nil)) h4
        · have hdr : ds.drop i = [] := List.drop_eq_nil_of_le (by omega)
          rw [hdr] at hrest
          cases hrest
          rw [List.append_nil] at hres
          subst hres
          exact .inl ⟨wk.stop i H2 (gS H2 s2) (by omega), q D acc H2 (s.free hD) (s.trans s2) hacc (racc.wide fun a z => ⟨fun _ => z.1, z.2⟩)⟩
      · cases hf
theorem cf_lc {c c2 : Bool} {ga : En → Option Bool} {fe : En → Option PyData} {is : List Nat} (h : PE X e (tLc (tI X.K c f) (tG X.K is g) (tT X.K ga) (tE X.K true fe) is)) : PE X e (tF X.K c2 (fCmp is f g ga fe)) := pe_w h fun _ _ _ q => lc_run (fun _ _ _ z => z) q
theorem cf_lc1 {c c2 : Bool} {fe : En → Option PyData} {is : List Nat} (h : PE X e (tLc (tI X.K c f) (tG X.K is g) tYes (tE X.K true fe) is)) : PE X e (tF X.K c2 (fCmp is f g tYes' fe)) := pe_w h fun _ _ _ q => lc_run (fun _ _ _ z => yes_run z) q
theorem cs_lcO {i : Nat} {c : Bool} {ga : En → Option Bool} {fe : En → Option PyData} {is : List Nat} (h : PS X st (tAsg (tLc (tI X.K c f) (tG X.K is g) (tT X.K ga) (tE X.K true fe) is) (gName i))) : PS X st (tS X.K (sOwn i (fCmp is f g ga fe))) :=
  ps_w h fun D σ H q => lc_run (c2 := true) (fun _ _ _ z => z) (own_run q)
theorem cs_lcO1 {i : Nat} {c : Bool} {fe : En → Option PyData} {is : List Nat} (h : PS X st (tAsg (tLc (tI X.K c f) (tG X.K is g) tYes (tE X.K true fe) is) (gName i))) : PS X st (tS X.K (sOwn i (fCmp is f g tYes' fe))) :=
  ps_w h fun D σ H q => lc_run (c2 := true) (fun _ _ _ z => yes_run z) (own_run q)
end
end Mir

namespace Mir
open PySem PySem.Spec PyProof.Rows L2

/-! ### a def -/
def spF (K : PySem.W.Frag) (g : List PyData → Option PyData) : Sp := fun vs H Q _ => ∃ S ds d, RpA K S H ds vs ∧ g ds = some d ∧ ∀ v H', Same H H' → Rp K (Bd S H) H' d v → Q v H'
def env0 (nN : Nat) (ds : List PyData) : En := ds.map .val ++ List.replicate (nN - ds.length) .un
def outD : Out → Option PyData
  | .rt d => some d
  | .nx _ => some .none
  | _ => none
def gDef (np nN : Nat) (fB : En → Out) : List PyData → Option PyData := fun ds => if ds.length = np then outD (fB (env0 nN ds)) else none
section
variable {K : PySem.W.Frag}
theorem def_run {N : List Str} {np : Nat} {fB : En → Out} {vs : List V} {H : Hp} {Q : VK} {E : XK} (h : spF K (gDef np N.length fB) vs H Q E) : tS K fB { nx := fun _ H' => Q .non H', rt := Q } (L2.start N vs) H := by
  obtain ⟨S, ds, d, r, hg, q⟩ := h
  unfold gDef at hg
  split at hg
  · refine ⟨S, H, fun _ => False, env0 N.length ds, ⟨?_, fun i s e => ?_, fun i j es fs a e1 _ o1 => ?_, fun _ z => z.elim, fun _ z => z.elim, Same.refl H⟩, ?_⟩
    · simp [L2.start, env0, r.length]
    · unfold env0 at e
      by_cases hi : i < ds.length
      · rw [List.getElem?_append_left (by simpa using hi), List.getElem?_map, List.getElem?_eq_getElem hi] at e
        cases e
        obtain ⟨v, e1, e2⟩ := r.get (List.getElem?_eq_getElem hi)
        refine .inr ⟨v, ?_, e2.wide fun a z => ⟨.inl z, fun y => y⟩⟩
        unfold L2.start
        rw [List.getElem?_append_left (by simpa [r.length] using hi), List.getElem?_map, e1]
        rfl
      · rw [List.getElem?_append_right (by simpa using Nat.le_of_not_lt hi)] at e
        exact .inl (List.eq_of_mem_replicate (List.mem_of_getElem? e))
    · exfalso
      unfold env0 at e1
      by_cases hi : i < ds.length
      · rw [List.getElem?_append_left (by simpa using hi), List.getElem?_map, List.getElem?_eq_getElem hi] at e1
        cases e1
        cases o1
      · rw [List.getElem?_append_right (by simpa using Nat.le_of_not_lt hi)] at e1
        cases (List.eq_of_mem_replicate (List.mem_of_getElem? e1))
        cases o1
    · cases ho : fB (env0 N.length ds) with
      | rt v =>
        rw [ho] at hg
        cases hg
        exact q
      | nx e =>
        rw [ho] at hg
        cases hg
        exact fun A' H' σ' E' _ _ => q _ H' E'.same (by rw [Rp])
      | bk e => rw [ho] at hg; cases hg
      | ct e => rw [ho] at hg; cases hg
      | bad => rw [ho] at hg; cases hg
  · cases hg
variable {P : Program} {w : World} {mg : Str → Option Value} {base : Heap}
theorem fn_ok {x qual : Str} {st : Stmt} {f : Addr} {fd : FuncData} {N ps : List Str} {k np nN : Nat} {fB : En → Out} {g : List PyData → Option PyData} (F : Fun K x qual st f fd) (S : FnScope N ps (defScope st)) (hp : np = ps.length) (hN : nN = N.length) (hg : g = gDef np nN fB)
    (hb : ∀ (cdv : Value) (A : Around) (outer : List Env) (s : Shared) (H : Hp) (E : XK), Room k (A.deeper (envOfC qual (defScope st) s.heap.objs.size f cdv)) → PSs (cxOf CX0 P w K mg base N qual (defScope st) f cdv A outer s H E).nox (defBody st) (tS K fB)) :
    FnOk P w K mg base CX0 (k + 1) f fd ps (spF K g) := by
  subst hp hN hg
  refine F.ok S (fun vs H Q E h => ?_) fun cdv A outer s H vs Q E hr h => ⟨_, hb cdv A outer s H E hr, def_run h⟩
  obtain ⟨S', ds, d, r, hg, _⟩ := h
  unfold gDef at hg
  split at hg
  · rw [r.length]; assumption
  · cases hg
theorem fn_imp {k : Nat} {f : Addr} {fd : FuncData} {ps : List Str} {g g' : List PyData → Option PyData} (F : FnOk P w K mg base CX0 k f fd ps (spF K g)) (h : ∀ ds d, g' ds = some d → g ds = some d) : FnOk P w K mg base CX0 k f fd ps (spF K g') :=
  F.imp fun vs H Q E ⟨S, ds, d, r, hg, q⟩ => ⟨S, ds, d, r, h ds d hg, q⟩
end

/-! ### calls -/
def eCall (g : List PyData → Option PyData) (fa : En → Option (List PyData)) : En → Option PyData := fun env => match fa env with
  | some ds => g ds
  | none => none
section
variable {X : Cx} {a b e : Expr} {es : List Expr} {pos p : Pos} {x : Str} {c c1 c2 : Bool} {f g : En → Option PyData} {fa : En → Option (List PyData)} {fb : En → Option Bool}
theorem bd_sc {K : PySem.W.Frag} {S0 A : Addr → Prop} {H0 H : Hp} {σ : L2.St} {env : En} (E : EnvOk K S0 H0 A H σ env) {c : Bool} {a : Addr} (h : Bd (Cl S0 H0 A) H a) : SC c S0 H0 A a := fun _ => by
  rcases h with h | h
  · exact h
  · exact cl_new E h
theorem call_run {K : PySem.W.Frag} {σ : L2.St} {H : Hp} {Q : VK} {E : XK} {gd : List PyData → Option PyData} (h : tE K c (eCall gd fa) σ H Q) : tCall (spF K gd) [] E (tA K true fa) σ H Q := by
  obtain ⟨S0, H0, A, env, d, En, hf, q⟩ := h
  unfold eCall at hf
  cases hd : fa env with
  | none => rw [hd] at hf; cases hf
  | some ds =>
    simp only [hd] at hf
    refine ⟨S0, H0, A, env, ds, En, hd, fun vs H1 s r => ?_⟩
    show spF K gd (vs ++ []) H1 Q E
    rw [List.append_nil]
    exact ⟨Cl S0 H0 A, ds, d, r.wide fun _ z => cl_sc z, hf, fun v H2 s2 r2 => q v H2 (s.trans s2) (r2.wide fun _ z => bd_sc (En.grow s) z)⟩
theorem callB_run {K : PySem.W.Frag} {σ : L2.St} {H : Hp} {Q : VK} {E : XK} {gd : List PyData → Option PyData} (h : tE K c (eN (eCall gd fa)) σ H Q) : tCall (spF K gd) [] E (tA K false fa) σ H Q := by
  obtain ⟨S0, H0, A, env, d, En, hf, q⟩ := h
  unfold eN at hf
  cases hc : eCall gd fa env with
  | none => rw [hc] at hf; cases hf
  | some d' =>
    rw [hc] at hf
    have hf' : (if noL d' = true then some d' else none) = some d := hf
    by_cases n : noL d' = true
    · rw [if_pos n] at hf'
      cases hf'
      unfold eCall at hc
      cases hd : fa env with
      | none => rw [hd] at hc; cases hc
      | some ds =>
        simp only [hd] at hc
        refine ⟨S0, H0, A, env, ds, En, hd, fun vs H1 s r => ?_⟩
        show spF K gd (vs ++ []) H1 Q E
        rw [List.append_nil]
        exact ⟨_, ds, d, r, hc, fun v H2 s2 r2 => q v H2 (s.trans s2) (Rp.noL d v n r2)⟩
    · rw [if_neg n] at hf'; cases hf'
variable {E : XK} {gd : List PyData → Option PyData}
theorem ce_call (h : PE X e (tCall (spF X.K gd) [] E (tA X.K true fa))) : PE X e (tE X.K c (eCall gd fa)) := pe_w h fun _ _ _ q => call_run q
theorem ce_callB (h : PE X e (tCall (spF X.K gd) [] E (tA X.K false fa))) : PE X e (tE X.K c (eN (eCall gd fa))) := pe_w h fun _ _ _ q => callB_run q
theorem ce_call0 (h : PE X e (tCall (spF X.K gd) [] E tNil)) : PE X e (tE X.K c (eCall gd aNil)) := pe_w h fun σ H Q q => by
  obtain ⟨S0, H0, A, env, ds, En, hd, q⟩ := call_run (E := E) q
  cases hd
  exact q [] H (Same.refl H) RpA.nil

/-! ### built-ins called -/
def CROk (K : PySem.W.Frag) (sc : Bool) (r : List V → Hp → VK → Prop) (h : List PyData → Option PyData) : Prop := ∀ (S S' : Addr → Prop) (H : Hp) (vs : List V) (ds : List PyData) (d : PyData) (Q : VK), (∀ p, H p = none → S p) → (sc = true ∨ S' = S) → RpA K S H ds vs → h ds = some d →
  (∀ v H', Same H H' → Rp K S' H' d v → Q v H') → r vs H Q
theorem cb_run {K : PySem.W.Frag} {sc : Bool} {r : List V → Hp → VK → Prop} {h : List PyData → Option PyData} (R : CROk K sc r h) (hc : sc = true ∨ c2 = c1) {σ : L2.St} {H : Hp} {Q : VK} (q : tE K c2 (eCall h fa) σ H Q) : tCB r (tA K c1 fa) σ H Q := by
  obtain ⟨S0, H0, A, env, d, E, hf, q⟩ := q
  unfold eCall at hf
  cases hd : fa env with
  | none => rw [hd] at hf; cases hf
  | some ds =>
    simp only [hd] at hf
    exact ⟨S0, H0, A, env, ds, E, hd, fun vs H1 s1 r1 => R (SC c1 S0 H0 A) (SC c2 S0 H0 A) H1 vs ds d Q (fun p hp => sc_new (E.grow s1) hp) (hc.imp id fun z => by rw [z]) r1 hf fun v H2 s2 r2 => q v H2 (s1.trans s2) r2⟩
theorem ce_cb {sc : Bool} {r : List V → Hp → VK → Prop} {h : List PyData → Option PyData} (R : CROk X.K sc r h) (he : PE X e (tCB r (tA X.K c1 fa))) (hc : sc = true ∨ c2 = c1 := by first | exact .inl rfl | exact .inr rfl) : PE X e (tE X.K c2 (eCall h fa)) := pe_w he fun _ _ _ q => cb_run R hc q
theorem rp1 {K : PySem.W.Frag} {S : Addr → Prop} {H : Hp} {i : Int} : Rp K S H (.int i) (.int i) := by rw [Rp]
theorem rpb {K : PySem.W.Frag} {S : Addr → Prop} {H : Hp} {i : Bool} : Rp K S H (.bool i) (.bl i) := by rw [Rp]
theorem rps {K : PySem.W.Frag} {S : Addr → Prop} {H : Hp} {i : Str} : Rp K S H (.str i) (.str i) := by rw [Rp]
def lenA : List PyData → Option PyData
  | [.list ds] => some (.int ds.length)
  | [.tuple ds] => some (.int ds.length)
  | [.str x] => if x.length ≤ 1000000 then some (.int x.length) else none
  | _ => none
theorem cr_len {K : PySem.W.Frag} : CROk K true (fun xs H Q => ∃ x n, xs = [x] ∧ LenV K x H n ∧ Q (.int n) H) lenA := by
  intro S S' H vs ds d Q _ _ r h q
  unfold lenA at h
  split at h
  · cases h
    replace r := r.one
    obtain ⟨v, rfl, r⟩ := r
    rw [Rp] at r
    obtain ⟨a, xs, rfl, hs, ra⟩ := r
    exact ⟨_, _, rfl, .inl ⟨xs, hs.sq, rfl⟩, q _ H (Same.refl H) (by rw [ra.length]; exact rp1)⟩
  · cases h
    replace r := r.one
    obtain ⟨v, rfl, r⟩ := r
    rw [Rp] at r
    obtain ⟨a, xs, rfl, hs, ra⟩ := r
    exact ⟨_, _, rfl, .inr ⟨xs, live_t hs, rfl⟩, q _ H (Same.refl H) (by rw [ra.length]; exact rp1)⟩
  · split at h
    · rename_i hl
      cases h
      replace r := r.one
      obtain ⟨v, rfl, r⟩ := r
      rw [Rp] at r
      subst r
      exact ⟨_, _, rfl, ⟨sz6 hl, rfl⟩, q _ H (Same.refl H) rp1⟩
    · cases h
  · cases h
def intA : List PyData → Option PyData
  | [.int i] => some (.int i)
  | [.bool k] => some (.int (if k then 1 else 0))
  | _ => none
theorem cr_int {K : PySem.W.Frag} : CROk K true (fun xs H Q => (∃ i, xs = [.int i] ∧ Q (.int i) H) ∨ ∃ k, xs = [.bl k] ∧ Q (.int (if k then 1 else 0)) H) intA := by
  intro S S' H vs ds d Q _ _ r h q
  unfold intA at h
  split at h
  · cases h
    replace r := r.one
    obtain ⟨v, rfl, r⟩ := r
    rw [Rp] at r
    subst r
    exact .inl ⟨_, rfl, q _ H (Same.refl H) rp1⟩
  · cases h
    replace r := r.one
    obtain ⟨v, rfl, r⟩ := r
    rw [Rp] at r
    subst r
    exact .inr ⟨_, rfl, q _ H (Same.refl H) rp1⟩
  · cases h
def tupA : List PyData → Option PyData
  | [.list ds] => some (.tuple ds)
  | [.tuple ds] => some (.tuple ds)
  | _ => none
theorem cr_tup {K : PySem.W.Frag} : CROk K false (fun xs H Q => ∃ p ys, xs = [.ref p] ∧ ((SqL K H p ys ∧ ∀ l, H l = none → Q (.ref l) (upd H l (.tup ys))) ∨ (SqT K H p ys ∧ Q (.ref p) H))) tupA := by
  intro S S' H vs ds d Q hn hS r h q
  have hS' : S' = S := hS.elim (fun z => nomatch z) id
  subst hS'
  unfold tupA at h
  split at h
  · cases h
    replace r := r.one
    obtain ⟨v, rfl, r⟩ := r
    rw [Rp] at r
    obtain ⟨a, xs, rfl, hs, ra⟩ := r
    refine ⟨a, xs, rfl, .inl ⟨hs.sq, fun l hl => q _ _ (same_new hl) ?_⟩⟩
    rw [Rp]
    exact ⟨l, xs, rfl, upd_same, ra.grow (same_new hl)⟩
  · cases h
    replace r := r.one
    obtain ⟨v, rfl, r⟩ := r
    have r' := r
    rw [Rp] at r
    obtain ⟨a, xs, rfl, hs, ra⟩ := r
    exact ⟨a, xs, rfl, .inr ⟨live_t hs, q _ H (Same.refl H) r'⟩⟩
  · cases h
/-- tuple(x), x owned: its items are clean -/
def eTupO (i : Nat) : En → Option PyData := fun env => match env[i]? with
  | some (.own ds) => some (.tuple ds)
  | _ => none
theorem ce_tupO {i : Nat} (h : PE X e (tCB (fun xs H Q => ∃ p ys, xs = [.ref p] ∧ ((SqL X.K H p ys ∧ ∀ l, H l = none → Q (.ref l) (upd H l (.tup ys))) ∨ (SqT X.K H p ys ∧ Q (.ref p) H))) (tCons (tVar i) tNil))) : PE X e (tE X.K true (eTupO i)) := pe_w h fun σ H Q ⟨S0, H0, A, env, d, E, hf, q⟩ => by
  unfold eTupO at hf
  split at hf
  · rename_i ds hi
    cases hf
    rcases E.sl i _ hi with z | ⟨v, h1, a, xs, rfl, ha, hh, r⟩
    · cases z
    refine ⟨_, h1, a, xs, rfl, .inl ⟨.inl (.inl hh), fun l hl => q _ _ (same_new hl) ?_⟩⟩
    rw [Rp]
    exact ⟨l, xs, rfl, upd_same, (r.wide fun _ z => sc_cl z).grow (same_new hl)⟩
  · cases hf
/-- list(x): a fresh one -/
def fList (f : En → Option PyData) : En → Option (List PyData) := fun env => match f env with
  | some (.list ds) => some ds
  | some (.tuple ds) => some ds
  | _ => none
theorem cf_list (h : PE X e (tCB (fun xs H Q => ∃ p ys, xs = [.ref p] ∧ (SqL X.K H p ys ∨ SqT X.K H p ys) ∧ ∀ l, H l = none → Q (.ref l) (upd H l (.lst ys))) (tCons (tE X.K true f) tNil))) : PE X e (tF X.K c (fList f)) := pe_w h fun σ H Q ⟨S0, H0, A, env, d, E, hf, q⟩ => by
  unfold fList at hf
  split at hf
  · rename_i ds hd
    cases hf
    refine ⟨S0, H0, A, env, _, E, hd, fun v H1 s r => ?_⟩
    rw [Rp] at r
    obtain ⟨a, xs, rfl, hs, ra⟩ := r
    exact ⟨a, xs, rfl, .inl hs.sq, fun l hl => q l xs _ (s.free hl) (s.trans (same_new hl)) upd_same ((ra.wide fun _ z => sc_cl (cl_sc z)).apart hl (same_new hl))⟩
  · rename_i ds hd
    cases hf
    refine ⟨S0, H0, A, env, _, E, hd, fun v H1 s r => ?_⟩
    rw [Rp] at r
    obtain ⟨a, xs, rfl, hs, ra⟩ := r
    exact ⟨a, xs, rfl, .inr (live_t hs), fun l hl => q l xs _ (s.free hl) (s.trans (same_new hl)) upd_same ((ra.wide fun _ z => sc_cl (cl_sc z)).apart hl (same_new hl))⟩
  · cases hf
/-! max, min -/
def intsD : List PyData → Option (List Int)
  | [] => some []
  | .int i :: ds => match intsD ds with
    | some ns => some (i :: ns)
    | none => none
  | _ :: _ => none
theorem intsD_rp {K : PySem.W.Frag} {S : Addr → Prop} {H : Hp} : ∀ {ds : List PyData} {ns : List Int} {xs : List V}, intsD ds = some ns → RpA K S H ds xs → xs = ns.map V.int ∧ ds = ns.map PyData.int
  | [], ns, xs, h, r => by
    rw [RpA] at r
    cases h
    exact ⟨r, rfl⟩
  | .int i :: ds, ns, xs, h, r => by
    rw [RpA] at r
    obtain ⟨v, r', rfl, h1, h2⟩ := r
    rw [Rp] at h1
    simp only [intsD] at h
    split at h
    · rename_i ms hm
      cases h
      obtain ⟨e1, e2⟩ := intsD_rp hm h2
      subst h1
      exact ⟨by rw [e1]; rfl, by rw [e2]; rfl⟩
    · cases h
  | .none :: _, _, _, h, _ => by cases h
  | .bool _ :: _, _, _, h, _ => by cases h
  | .str _ :: _, _, _, h, _ => by cases h
  | .list _ :: _, _, _, h, _ => by cases h
  | .tuple _ :: _, _, _, h, _ => by cases h
  | .dict _ :: _, _, _, h, _ => by cases h
def mxI : Int → List Int → Int
  | m, [] => m
  | m, x :: xs => mxI (if x > m then x else m) xs
def mnI : Int → List Int → Int
  | m, [] => m
  | m, x :: xs => mnI (if x < m then x else m) xs
theorem mxI_spec : ∀ (xs : List Int) (m : Int), mxI m xs ∈ m :: xs ∧ ∀ y ∈ m :: xs, y ≤ mxI m xs
  | [], m => ⟨List.mem_cons_self, fun y h => by simp at h; rw [h]; exact Int.le_refl _⟩
  | x :: xs, m => by
    obtain ⟨h1, h2⟩ := mxI_spec xs (if x > m then x else m)
    refine ⟨?_, fun y h => ?_⟩
    · show mxI (if x > m then x else m) xs ∈ _
      rcases List.mem_cons.mp h1 with h | h
      · rw [h]
        split <;> simp
      · exact List.mem_cons_of_mem _ (List.mem_cons_of_mem _ h)
    · show y ≤ mxI (if x > m then x else m) xs
      have h3 := h2 (if x > m then x else m) List.mem_cons_self
      rcases List.mem_cons.mp h with h | h
      · subst h
        split at h3 <;> (split <;> omega)
      · rcases List.mem_cons.mp h with h | h
        · subst h
          split at h3 <;> (split <;> omega)
        · exact h2 y (List.mem_cons_of_mem _ h)
theorem mnI_spec : ∀ (xs : List Int) (m : Int), mnI m xs ∈ m :: xs ∧ ∀ y ∈ m :: xs, mnI m xs ≤ y
  | [], m => ⟨List.mem_cons_self, fun y h => by simp at h; rw [h]; exact Int.le_refl _⟩
  | x :: xs, m => by
    obtain ⟨h1, h2⟩ := mnI_spec xs (if x < m then x else m)
    refine ⟨?_, fun y h => ?_⟩
    · show mnI (if x < m then x else m) xs ∈ _
      rcases List.mem_cons.mp h1 with h | h
      · rw [h]
        split <;> simp
      · exact List.mem_cons_of_mem _ (List.mem_cons_of_mem _ h)
    · show mnI (if x < m then x else m) xs ≤ y
      have h3 := h2 (if x < m then x else m) List.mem_cons_self
      rcases List.mem_cons.mp h with h | h
      · subst h
        split at h3 <;> (split <;> omega)
      · rcases List.mem_cons.mp h with h | h
        · subst h
          split at h3 <;> (split <;> omega)
        · exact h2 y (List.mem_cons_of_mem _ h)
def mx1 (k : Int → List Int → Int) : List PyData → Option PyData
  | [.list ds] => match intsD ds with
    | some (n :: ns) => some (.int (k n ns))
    | _ => none
  | _ => none
theorem cr_mx {K : PySem.W.Frag} : CROk K true (rMax K) (mx1 mxI) := by
  intro S S' H vs ds d Q _ _ r h q
  unfold mx1 at h
  split at h
  · replace r := r.one
    obtain ⟨v, rfl, r⟩ := r
    rw [Rp] at r
    obtain ⟨a, xs, rfl, hs, ra⟩ := r
    split at h
    · rename_i n ns hi
      cases h
      obtain ⟨e1, _⟩ := intsD_rp hi ra
      subst e1
      refine ⟨a, n :: ns, rfl, hs.sq, Nat.zero_lt_succ _, fun m hm hy => ?_⟩
      obtain ⟨k1, k2⟩ := mxI_spec ns n
      have e : m = mxI n ns := Int.le_antisymm (k2 m hm) (hy _ k1)
      rw [e]
      exact q _ H (Same.refl H) rp1
    · cases h
  · cases h
theorem cr_mn {K : PySem.W.Frag} : CROk K true (rMin K) (mx1 mnI) := by
  intro S S' H vs ds d Q _ _ r h q
  unfold mx1 at h
  split at h
  · replace r := r.one
    obtain ⟨v, rfl, r⟩ := r
    rw [Rp] at r
    obtain ⟨a, xs, rfl, hs, ra⟩ := r
    split at h
    · rename_i n ns hi
      cases h
      obtain ⟨e1, _⟩ := intsD_rp hi ra
      subst e1
      refine ⟨a, n :: ns, rfl, hs.sq, Nat.zero_lt_succ _, fun m hm hy => ?_⟩
      obtain ⟨k1, k2⟩ := mnI_spec ns n
      have e : m = mnI n ns := Int.le_antisymm (hy _ k1) (k2 m hm)
      rw [e]
      exact q _ H (Same.refl H) rp1
    · cases h
  · cases h
def mx2 : List PyData → Option PyData
  | [.int i, .int j] => some (.int (if j > i then j else i))
  | _ => none
def mn2 : List PyData → Option PyData
  | [.int i, .int j] => some (.int (if j < i then j else i))
  | _ => none
theorem cr_mx2 {K : PySem.W.Frag} : CROk K true (fun xs H Q => ∃ i j, xs = [.int i, .int j] ∧ Q (.int (if j > i then j else i)) H) mx2 := by
  intro S S' H vs ds d Q _ _ r h q
  unfold mx2 at h
  split at h
  · cases h
    obtain ⟨v, u, rfl, r1, r2⟩ := r.two
    rw [Rp] at r1 r2
    subst r1 r2
    exact ⟨_, _, rfl, q _ H (Same.refl H) rp1⟩
  · cases h
theorem cr_mn2 {K : PySem.W.Frag} : CROk K true (fun xs H Q => ∃ i j, xs = [.int i, .int j] ∧ Q (.int (if j < i then j else i)) H) mn2 := by
  intro S S' H vs ds d Q _ _ r h q
  unfold mn2 at h
  split at h
  · cases h
    obtain ⟨v, u, rfl, r1, r2⟩ := r.two
    rw [Rp] at r1 r2
    subst r1 r2
    exact ⟨_, _, rfl, q _ H (Same.refl H) rp1⟩
  · cases h
/-- max(xs, default=d), min likewise: ints -/
def rMxD (K : PySem.W.Frag) (k : Int → List Int → Int) : List V → List V → Hp → VK → Prop := fun vs zs H Q => ∃ a ns y, vs = [.ref a] ∧ zs = [y] ∧ SqL K H a (ns.map V.int) ∧ (match ns with
  | [] => Q y H
  | n :: ns => Q (.int (k n ns)) H)
theorem readsInts {h : Heap} : ∀ {ns : List Int} {us : List Value}, Vals (ns.map V.int) us → ∃ as, ReadsAll h us (ns.map PyData.int) as
  | [], _, r => by
    cases r
    exact ⟨_, ReadsAll.nil⟩
  | n :: ns, _, r => by
    cases r with
    | cons r1 r2 =>
      obtain ⟨t, rfl⟩ := r1
      obtain ⟨as, h2⟩ := readsInts r2
      exact ⟨_, ReadsAll.cons (Reads.int n t) h2⟩
theorem mxI_max : ∀ (ns : List Int) (n : Int), ns.foldl max n = mxI n ns
  | [], _ => rfl
  | x :: ns, n => by
    show ns.foldl max (max n x) = mxI (if x > n then x else n) ns
    rw [mxI_max ns]
    congr 1
    by_cases h : x > n
    · rw [if_pos h]; omega
    · rw [if_neg h]; omega
theorem mnI_min : ∀ (ns : List Int) (n : Int), ns.foldl min n = mnI n ns
  | [], _ => rfl
  | x :: ns, n => by
    show ns.foldl min (min n x) = mnI (if x < n then x else n) ns
    rw [mnI_min ns]
    congr 1
    by_cases h : x < n
    · rw [if_pos h]; omega
    · rw [if_neg h]; omega
theorem alike_ints (ns : List Int) : PySem.W.AlikeAll (ns.map PyData.int) := PySem.W.alikeAll_datum (α := Int) ns
theorem depth_ints : ∀ (ns : List Int), PyData.depthAll (ns.map PyData.int) = 0
  | [] => by simp [PyData.depthAll]
  | n :: ns => by simp [PyData.depthAll, PyData.depth, depth_ints ns]
theorem reads_int {h : Heap} {u : Value} {i : Int} {as : List Addr} (r : Reads h u (.int i) as) : ∃ t, u = .int i t := by
  cases r
  exact ⟨_, rfl⟩
theorem call_mxD (hc : X.calm = true) (hu : X.A.units + 64 < cLine) : CallRK X (.builtin "max") [Str.ofString "default"] (rMxD X.K mxI) := by
  intro pins s σ H vs zs us ws Q I r rz h
  obtain ⟨a, ns, y, rfl, rfl, hs, q⟩ := h
  obtain ⟨its, rv, hl, _⟩ := I.list hs
  rw [Vals.ref1 r]
  obtain ⟨u, rfl, ru⟩ := vals1 rz
  obtain ⟨as, ra⟩ := readsInts (h := s.heap) rv
  refine PySem.W.max_list_default (I.ok.hd hc) hl.isList (by rw [List.toList_toArray]; exact ra) (alike_ints ns) (by rw [depth_ints]; omega) (fun e h' tk k => ?_) fun z zs i v h' tk bs e hi rr k => ?_
  · cases ns with
    | nil => exact ⟨y, H, I.kept (t' := tk) k, ru, q⟩
    | cons _ _ => cases e
  · cases ns with
    | nil => cases e
    | cons n ns =>
      cases e
      rw [PySem.W.maxD_ints] at rr
      obtain ⟨t, rfl⟩ := reads_int rr
      exact ⟨.int _, H, I.kept (t' := tk) k, ⟨_, rfl⟩, by rw [mxI_max]; exact q⟩
theorem call_mnD (hc : X.calm = true) (hu : X.A.units + 64 < cLine) : CallRK X (.builtin "min") [Str.ofString "default"] (rMxD X.K mnI) := by
  intro pins s σ H vs zs us ws Q I r rz h
  obtain ⟨a, ns, y, rfl, rfl, hs, q⟩ := h
  obtain ⟨its, rv, hl, _⟩ := I.list hs
  rw [Vals.ref1 r]
  obtain ⟨u, rfl, ru⟩ := vals1 rz
  obtain ⟨as, ra⟩ := readsInts (h := s.heap) rv
  refine PySem.W.min_list_default (I.ok.hd hc) hl.isList (by rw [List.toList_toArray]; exact ra) (alike_ints ns) (by rw [depth_ints]; omega) (fun e h' tk k => ?_) fun z zs i v h' tk bs e hi rr k => ?_
  · cases ns with
    | nil => exact ⟨y, H, I.kept (t' := tk) k, ru, q⟩
    | cons _ _ => cases e
  · cases ns with
    | nil => cases e
    | cons n ns =>
      cases e
      rw [PySem.W.minD_ints] at rr
      obtain ⟨t, rfl⟩ := reads_int rr
      exact ⟨.int _, H, I.kept (t' := tk) k, ⟨_, rfl⟩, by rw [mnI_min]; exact q⟩
def eMxD (k : Int → List Int → Int) (f g : En → Option PyData) : En → Option PyData := fun env => match f env with
  | some (.list ds) => match g env with
    | some d => match intsD ds with
      | some [] => some d
      | some (n :: ns) => some (.int (k n ns))
      | none => none
    | none => none
  | _ => none
theorem ce_mxD {k : Int → List Int → Int} (h : PE X e (tCKw (rMxD X.K k) (tCons (tE X.K c1 f) tNil) (tCons (tE X.K c g) tNil))) : PE X e (tE X.K c (eMxD k f g)) := pe_w h fun σ H Q ⟨S0, H0, A, env, d, E, hf, q⟩ => by
  unfold eMxD at hf
  split at hf
  · rename_i ds hd
    split at hf
    · rename_i d2 hd2
      refine ⟨S0, H0, A, env, _, E, hd, fun v H1 s r => ⟨S0, H0, A, env, d2, E.grow s, hd2, fun u H2 s2 r2 => ?_⟩⟩
      rw [Rp] at r
      obtain ⟨a, xs, rfl, hs, ra⟩ := r
      split at hf
      · rename_i hi
        cases hf
        obtain ⟨e1, _⟩ := intsD_rp hi ra
        subst e1
        exact ⟨a, [], u, rfl, rfl, s2.seq hs.sq, q u H2 (s.trans s2) r2⟩
      · rename_i n ns hi
        cases hf
        obtain ⟨e1, _⟩ := intsD_rp hi ra
        subst e1
        exact ⟨a, n :: ns, u, rfl, rfl, s2.seq hs.sq, q _ H2 (s.trans s2) rp1⟩
      · cases hf
    · cases hf
  · cases hf
/-! isinstance(x, T), T a built-in class -/
def tyD : PyData → String
  | .none => "NoneType"
  | .bool _ => "bool"
  | .int _ => "int"
  | .str _ => "str"
  | .list _ => "list"
  | .tuple _ => "tuple"
  | .dict _ => "dict"
theorem tyX_of {K : PySem.W.Frag} {S : Addr → Prop} {H : Hp} {d : PyData} {v : V} (nd : tyD d ≠ "dict") (r : Rp K S H d v) : TyX K H v (.type (tyD d)) := by
  cases d with
  | none => rw [Rp] at r; subst r; exact .base .non
  | bool k => rw [Rp] at r; subst r; exact .base (.bl k)
  | int k => rw [Rp] at r; subst r; exact .base (.int k)
  | str k => rw [Rp] at r; subst r; exact .base (.str k)
  | list ds =>
    rw [Rp] at r
    obtain ⟨a, xs, rfl, hs, _⟩ := r
    rcases hs with ⟨_, hs | ⟨o, hs⟩⟩ | ⟨o, its, n, hk, hc, _⟩
    · exact .base (.lst hs)
    · exact .base (.frz hs)
    · exact .kList hk hc
  | tuple ds =>
    rw [Rp] at r
    obtain ⟨a, xs, rfl, hs, _⟩ := r
    exact .base (.tup hs)
  | dict k => exact absurd rfl nd
def isiB (T t : String) : Option Bool :=
  if T = "list" then (if t = "NoneType" ∨ t = "bool" ∨ t = "int" ∨ t = "str" ∨ t = "tuple" then some false else if t = "list" then some true else none)
  else if T = "tuple" then (if t = "NoneType" ∨ t = "bool" ∨ t = "int" ∨ t = "str" ∨ t = "list" then some false else if t = "tuple" then some true else none)
  else if T = "bool" then (if t = "NoneType" ∨ t = "tuple" ∨ t = "int" ∨ t = "str" ∨ t = "list" then some false else if t = "bool" then some true else none)
  else if T = "str" then (if t = "NoneType" ∨ t = "tuple" ∨ t = "int" ∨ t = "bool" ∨ t = "list" then some false else if t = "str" then some true else none)
  else if T = "int" then (if t = "NoneType" ∨ t = "tuple" ∨ t = "str" ∨ t = "list" then some false else if t = "int" ∨ t = "bool" then some true else none)
  else none
theorem isiB_kit {T t : String} {b : Bool} (h : isiB T t = some b) : kitB t T = some b := by
  unfold isiB at h
  repeat' (split at h)
  all_goals first
    | (cases h; done)
    | (rename_i z; cases h; rcases z with z | z | z | z | z <;> (subst_vars; decide +kernel))
    | (rename_i z; cases h; rcases z with z | z | z | z <;> (subst_vars; decide +kernel))
    | (rename_i z; cases h; rcases z with z | z <;> (subst_vars; decide +kernel))
    | (rename_i z; cases h; subst_vars; decide +kernel)
theorem isiB_dict (T : String) : isiB T "dict" = none := by
  unfold isiB
  repeat' split
  all_goals first | rfl | (rename_i z; exfalso; revert z; decide)
def eIsi (T : String) (f : En → Option PyData) : En → Option PyData := fun env => match f env with
  | some d => (isiB T (tyD d)).map .bool
  | none => none
theorem ce_isi {T : String} (h : PE X e (tCB (rIsi X.K) (tCons (tE X.K c f) (tCons (tC (.ty T)) tNil)))) : PE X e (tE X.K true (eIsi T f)) := pe_w h fun σ H Q ⟨S0, H0, A, env, d, E, hf, q⟩ => by
  unfold eIsi at hf
  split at hf
  · rename_i d' hd
    cases hb : isiB T (tyD d') with
    | none => rw [hb] at hf; cases hf
    | some b =>
      rw [hb] at hf
      cases hf
      refine ⟨S0, H0, A, env, d', E, hd, fun v H1 s r => ?_⟩
      exact ⟨v, .ty T, _, _, b, rfl, .ty T, tyX_of (fun e => by rw [e, isiB_dict] at hb; cases hb) r, kit_ty (isiB_kit hb), q _ H1 s rpb⟩
  · cases hf
/-! sep.join(xs) -/
def strsD : List PyData → Option (List Str)
  | [] => some []
  | .str i :: ds => match strsD ds with
    | some ns => some (i :: ns)
    | none => none
  | _ :: _ => none
theorem strsD_rp {K : PySem.W.Frag} {S : Addr → Prop} {H : Hp} : ∀ {ds : List PyData} {ns : List Str} {xs : List V}, strsD ds = some ns → RpA K S H ds xs → xs = ns.map V.str
  | [], ns, xs, h, r => by
    rw [RpA] at r
    cases h
    exact r
  | .str i :: ds, ns, xs, h, r => by
    rw [RpA] at r
    obtain ⟨v, r', rfl, h1, h2⟩ := r
    rw [Rp] at h1
    simp only [strsD] at h
    split at h
    · rename_i ms hm
      cases h
      have e1 := strsD_rp hm h2
      subst h1
      rw [e1]; rfl
    · cases h
  | .none :: _, _, _, h, _ => by cases h
  | .bool _ :: _, _, _, h, _ => by cases h
  | .int _ :: _, _, _, h, _ => by cases h
  | .list _ :: _, _, _, h, _ => by cases h
  | .tuple _ :: _, _, _, h, _ => by cases h
  | .dict _ :: _, _, _, h, _ => by cases h
def eJoin (f g : En → Option PyData) : En → Option PyData := e2 (fun s d => match s with
  | .str a => match (match d with | .list ds => strsD ds | .tuple ds => strsD ds | _ => none) with
    | some ys => if (ys.map (·.length)).sum + ys.length * a.length ≤ 1000000 then some (.str (Txt.join a ys)) else none
    | none => none
  | _ => none) f g
theorem ce_join {t : TE} (h : PE X e (tM1 (fun x xs H Q => ∃ a p, ∃ ys : List Str, x = .str a ∧ xs = [.ref p] ∧ (SqL X.K H p (ys.map V.str) ∨ SqT X.K H p (ys.map V.str)) ∧ (ys.map (·.length)).sum + ys.length * a.length ≤ 16777216 ∧ Q (.str (Txt.join a ys)) H) (tE X.K c1 f) (tE X.K c2 g))) :
    PE X e (tE X.K true (eJoin f g)) := pe_w h fun σ H Q ⟨S0, H0, A, env, d, E, hf, q⟩ => by
  obtain ⟨x, y, h1, h2, h3⟩ := e2_some hf
  refine ⟨S0, H0, A, env, x, E, h1, fun v H1 s1 r1 => ?_⟩
  cases x with
  | str a =>
    rw [Rp] at r1
    subst r1
    refine ⟨⟨a, rfl⟩, S0, H0, A, env, y, E.grow s1, h2, fun u H2 s2 r2 => ?_⟩
    dsimp only at h3
    split at h3
    · rename_i ys hy
      split at h3
      · rename_i hl
        cases h3
        cases y with
        | list ds =>
          rw [Rp] at r2
          obtain ⟨p, xs, rfl, hs, ra⟩ := r2
          have e1 := strsD_rp hy ra
          subst e1
          exact ⟨a, p, ys, rfl, rfl, .inl hs.sq, by omega, q _ H2 (s1.trans s2) rps⟩
        | tuple ds =>
          rw [Rp] at r2
          obtain ⟨p, xs, rfl, hs, ra⟩ := r2
          have e1 := strsD_rp hy ra
          subst e1
          exact ⟨a, p, ys, rfl, rfl, .inr (live_t hs), by omega, q _ H2 (s1.trans s2) rps⟩
        | _ => cases hy
      · cases h3
    · cases h3
  | _ => cases h3
end
end Mir

namespace Mir
open PySem PySem.Spec PyProof.Rows L2

section
variable {X : Cx} {a b e : Expr} {es : List Expr} {pos p : Pos} {c c1 c2 : Bool} {f g : En → Option PyData} {fa : En → Option (List PyData)} {fb : En → Option Bool} {K : PySem.W.Frag}
/-! ### + -/
theorem cat_lists {prog : Program} {w : World} {A : Around} {E : Value → Shared → Prop} {s : Shared} {l b : Addr} {us ws : Array Value} {Q : Value → Shared → Prop} (hl : s.heap.IsList l us) (hb : s.heap.IsList b ws)
    (h : Q (.ref s.heap.objs.size) { s with heap := s.heap.push { cls := .type "list", data := .seq (us ++ ws) } }) (hz : us.size + ws.size ≤ sizeLine) : wpAny (model prog w) A (binaryOp .Add (.ref l) (.ref b)) Q E s := by
  rcases hl with ⟨⟨k1, d1, x1, t1⟩, g1, rfl, n1, y1⟩
  rcases hb with ⟨⟨k2, d2, x2, t2⟩, g2, rfl, n2, y2⟩
  dsimp only at y1 y2
  subst y1 y2
  exact concat_meets ⟨_, g1, rfl⟩ ⟨_, g2, rfl⟩ noFill_list_add seq_list_add PySem.F.slot_list_add PySem.F.entry_list_add (PySem.F.args_list_add_2 _ _)
    (list_addW l b us ws n1 n2 d1 d2 t1 t2 hz) ⟨g1, g2, h⟩
def rCatR (K : PySem.W.Frag) : R2 := fun x y H Q => ∃ l b xs zs, x = .ref l ∧ y = .ref b ∧ SqL K H l xs ∧ SqL K H b zs ∧ xs.length + zs.length ≤ sizeLine ∧ ∀ p, H p = none → Q (.ref p) (upd H p (.lst (xs ++ zs)))
theorem op_catR : OpR X (binaryOp .Add) (rCatR X.K) := by
  intro pins s σ H x y v u Q I rx ry h
  obtain ⟨l, b, xs, zs, rfl, rfl, h1, h2, hz, q⟩ := h
  cases rx
  cases ry
  obtain ⟨i1, r1, p1, _⟩ := I.list h1
  obtain ⟨i2, r2, p2, _⟩ := I.list h2
  have l1 := r1.length
  have l2 := r2.length
  refine cat_lists p1.isList p2.isList ?_ (by rw [List.size_toArray, List.size_toArray]; omega)
  have ea : i1.toArray ++ i2.toArray = (i1 ++ i2).toArray := by simp
  rw [ea]
  exact ⟨.ref s.heap.objs.size, _, I.lnew (t' := s.toks) (r1.append r2) (by rw [List.length_append]; omega), rfl, q _ I.fresh⟩
def rAddX (K : PySem.W.Frag) : R2 := fun x y H Q => (∃ i j, x = .int i ∧ y = .int j ∧ Q (.int (i + j)) H) ∨ (∃ i j, x = .str i ∧ y = .str j ∧ i.length + j.length ≤ sizeLine ∧ Q (.str (i ++ j)) H) ∨ rCatA K x y H Q ∨ rCatR K x y H Q
theorem op_addX : OpR X (binaryOp .Add) (rAddX X.K) := by
  intro pins s σ H x y v u Q I rx ry h
  rcases h with h | h | h | h
  · exact op_add pins s σ H x y v u Q I rx ry h
  · exact op_add_str pins s σ H x y v u Q I rx ry h
  · exact op_catA pins s σ H x y v u Q I rx ry h
  · exact op_catR pins s σ H x y v u Q I rx ry h
def addD : PyData → PyData → Option PyData
  | .int i, .int j => some (.int (i + j))
  | .str x, .str y => if x.length + y.length ≤ 1000000 then some (.str (x ++ y)) else none
  | .tuple xs, .tuple ys => if xs.length + ys.length ≤ 1000000 then some (.tuple (xs ++ ys)) else none
  | .list xs, .list ys => if xs.length + ys.length ≤ 1000000 then some (.list (xs ++ ys)) else none
  | _, _ => none
theorem r2_add : R2Ok K false (rAddX K) addD := by
  intro S S' H x y dx dy d Q hn hS rx ry h q
  have hS' : S' = S := hS.elim (fun z => nomatch z) id
  subst hS'
  unfold addD at h
  split at h
  · cases h
    rw [Rp] at rx ry
    subst rx ry
    exact .inl ⟨_, _, rfl, rfl, q _ H (Same.refl H) rp1⟩
  · split at h
    · rename_i hl
      cases h
      rw [Rp] at rx ry
      subst rx ry
      exact .inr (.inl ⟨_, _, rfl, rfl, sz6 hl, q _ H (Same.refl H) rps⟩)
    · cases h
  · rename_i xs ys
    split at h
    · rename_i hl
      cases h
      have rx' := rx
      have ry' := ry
      rw [Rp] at rx ry
      obtain ⟨l, us, rfl, h1, r1⟩ := rx
      obtain ⟨m, vs, rfl, h2, r2⟩ := ry
      have l1 := r1.length
      have l2 := r2.length
      refine .inr (.inr (.inl ⟨l, m, us, vs, rfl, rfl, live_t h1, live_t h2, by rw [l1, l2]; exact sz6 hl, fun e => ?_, fun n e => ?_, fun n1 n2 p hp => ?_⟩))
      · have e1 : xs = [] := List.eq_nil_of_length_eq_zero (by rw [← l1, e]; rfl)
        subst e1
        exact q _ H (Same.refl H) ry'
      · have e1 : ys = [] := List.eq_nil_of_length_eq_zero (by rw [← l2, e]; rfl)
        subst e1
        rw [List.append_nil] at q
        exact q _ H (Same.refl H) rx'
      · refine q _ _ (same_new hp) ?_
        rw [Rp]
        exact ⟨p, _, rfl, upd_same, (r1.append r2).grow (same_new hp)⟩
    · cases h
  · split at h
    · rename_i hl
      cases h
      rw [Rp] at rx ry
      obtain ⟨l, us, rfl, h1, r1⟩ := rx
      obtain ⟨m, vs, rfl, h2, r2⟩ := ry
      refine .inr (.inr (.inr ⟨l, m, us, vs, rfl, rfl, h1.sq, h2.sq, by rw [r1.length, r2.length]; exact sz6 hl, fun p hp => q _ _ (same_new hp) ?_⟩))
      rw [Rp]
      exact ⟨p, _, rfl, .inl ⟨hn p hp, .inl upd_same⟩, (r1.append r2).grow (same_new hp)⟩
    · cases h
  · cases h
theorem ce_add (ha : PE X a (tE X.K c f)) (hb : PE X b (tE X.K c g)) : PE X (.BinOp a .Add b pos) (tE X.K c (e2 addD f g)) := ce_op op_addX r2_add ha hb
/-- list + list, fresh -/
def fCat (f g : En → Option PyData) : En → Option (List PyData) := fun env => match f env with
  | some (.list xs) => match g env with
    | some (.list ys) => if xs.length + ys.length ≤ 1000000 then some (xs ++ ys) else none
    | _ => none
  | _ => none
theorem cf_cat (ha : PE X a (tE X.K true f)) (hb : PE X b (tE X.K true g)) : PE X (.BinOp a .Add b pos) (tF X.K c (fCat f g)) := pe_w (pe_op op_catR ha hb) fun σ H Q ⟨S0, H0, A, env, d, E, hf, q⟩ => by
  unfold fCat at hf
  split at hf
  · rename_i xs h1
    split at hf
    · rename_i ys h2
      split at hf
      · rename_i hl
        cases hf
        refine ⟨S0, H0, A, env, _, E, h1, fun v H1 s1 r1 => ⟨S0, H0, A, env, _, E.grow s1, h2, fun u H2 s2 r2 => ?_⟩⟩
        rw [Rp] at r1 r2
        obtain ⟨l, us, rfl, k1, q1⟩ := r1
        obtain ⟨m, vs, rfl, k2, q2⟩ := r2
        refine ⟨l, m, us, vs, rfl, rfl, s2.seq k1.sq, k2.sq, by rw [q1.length, q2.length]; exact sz6 hl, fun p hp => q p _ _ ((s1.trans s2).free hp) ((s1.trans s2).trans (same_new hp)) upd_same ?_⟩
        exact (((q1.grow s2).append q2).wide fun _ z => sc_cl (cl_sc z)).apart hp (same_new hp)
      · cases hf
    · cases hf
  · cases hf

/-! ### ints -/
def i2 (h : Int → Int → Option PyData) : PyData → PyData → Option PyData
  | .int i, .int j => h i j
  | _, _ => none
theorem r2_I {C : Int → Int → Prop} [DecidableRel C] {k : Int → Int → Int} : R2Ok K true (rI C fun i j => .int (k i j)) (i2 fun i j => if C i j then some (.int (k i j)) else none) := by
  intro S S' H x y dx dy d Q hn hS rx ry h q
  unfold i2 at h
  split at h
  · dsimp only at h
    split at h
    · rename_i hc
      cases h
      rw [Rp] at rx ry
      subst rx ry
      exact ⟨_, _, rfl, rfl, hc, q _ H (Same.refl H) rp1⟩
    · cases h
  · cases h
theorem r2_I0 {k : Int → Int → Int} : R2Ok K true (rI0 fun i j => .int (k i j)) (i2 fun i j => some (.int (k i j))) := by
  intro S S' H x y dx dy d Q hn hS rx ry h q
  unfold i2 at h
  split at h
  · cases h
    rw [Rp] at rx ry
    subst rx ry
    exact ⟨_, _, rfl, rfl, q _ H (Same.refl H) rp1⟩
  · cases h
theorem r2_B0 {k : Int → Int → Bool} : R2Ok K true (rI0 fun i j => .bl (k i j)) (i2 fun i j => some (.bool (k i j))) := by
  intro S S' H x y dx dy d Q hn hS rx ry h q
  unfold i2 at h
  split at h
  · cases h
    rw [Rp] at rx ry
    subst rx ry
    exact ⟨_, _, rfl, rfl, q _ H (Same.refl H) rpb⟩
  · cases h
instance : DecidableRel CMul := fun i j => by unfold CMul; infer_instance
instance : DecidableRel CDiv := fun i j => by unfold CDiv; infer_instance
instance : DecidableRel CPow := fun i j => by unfold CPow; infer_instance
def subD : PyData → PyData → Option PyData := i2 fun i j => some (.int (i - j))
def mulD : PyData → PyData → Option PyData := i2 fun i j => if CMul i j then some (.int (i * j)) else none
def divD : PyData → PyData → Option PyData := i2 fun i j => if CDiv i j then some (.int (i / j)) else none
def modD : PyData → PyData → Option PyData := i2 fun i j => if 0 < j then some (.int (i % j)) else none
def powD : PyData → PyData → Option PyData := i2 fun i j => if CPow i j then some (.int (i ^ j.toNat)) else none
theorem ce_sub (ha : PE X a (tE X.K c f)) (hb : PE X b (tE X.K c g)) : PE X (.BinOp a .Sub b pos) (tE X.K true (e2 subD f g)) := ce_op op_sub r2_I0 ha hb
theorem ce_mul (ha : PE X a (tE X.K c f)) (hb : PE X b (tE X.K c g)) : PE X (.BinOp a .Mult b pos) (tE X.K true (e2 mulD f g)) := ce_op op_mul r2_I ha hb
theorem ce_div (ha : PE X a (tE X.K c f)) (hb : PE X b (tE X.K c g)) : PE X (.BinOp a .FloorDiv b pos) (tE X.K true (e2 divD f g)) := ce_op op_fdiv r2_I ha hb
theorem ce_mod (ha : PE X a (tE X.K c f)) (hb : PE X b (tE X.K c g)) : PE X (.BinOp a .Mod b pos) (tE X.K true (e2 modD f g)) := ce_op op_mod r2_I ha hb
theorem ce_pow (ha : PE X a (tE X.K c f)) (hb : PE X b (tE X.K c g)) : PE X (.BinOp a .Pow b pos) (tE X.K true (e2 powD f g)) := ce_op op_pow r2_I ha hb
def negD : PyData → Option PyData
  | .int i => some (.int (-i))
  | _ => none
def e1 (h : PyData → Option PyData) (f : En → Option PyData) : En → Option PyData := fun env => match f env with
  | some d => h d
  | none => none
theorem ce_neg (ha : PE X a (tE X.K c f)) : PE X (.UnaryOp .USub a pos) (tE X.K true (e1 negD f)) := pe_w (pe_un un_neg ha) fun σ H Q ⟨S0, H0, A, env, d, E, hf, q⟩ => by
  unfold e1 at hf
  split at hf
  · rename_i x hx
    cases x with
    | int i =>
      cases hf
      refine ⟨S0, H0, A, env, _, E, hx, fun v H1 s r => ?_⟩
      rw [Rp] at r
      subst r
      exact ⟨_, rfl, q _ H1 s rp1⟩
    | _ => cases hf
  · cases hf

/-! ### comparisons -/
def ltD : PyData → PyData → Option PyData := i2 fun i j => some (.bool (decide (i < j)))
def leD : PyData → PyData → Option PyData := i2 fun i j => some (.bool (decide (i ≤ j)))
def gtD : PyData → PyData → Option PyData := i2 fun i j => some (.bool (decide (j < i)))
def geD : PyData → PyData → Option PyData := i2 fun i j => some (.bool (decide (j ≤ i)))
theorem ce_lt (ha : PE X a (tE X.K c f)) (hb : PE X b (tE X.K c g)) : PE X (.Compare a [.Lt] [b] pos) (tE X.K true (e2 ltD f g)) := ce_cmp op_lt r2_B0 ha hb (nomark _)
theorem ce_le (ha : PE X a (tE X.K c f)) (hb : PE X b (tE X.K c g)) : PE X (.Compare a [.LtE] [b] pos) (tE X.K true (e2 leD f g)) := ce_cmp op_le r2_B0 ha hb (nomark _)
theorem ce_gt (ha : PE X a (tE X.K c f)) (hb : PE X b (tE X.K c g)) : PE X (.Compare a [.Gt] [b] pos) (tE X.K true (e2 gtD f g)) := ce_cmp op_gt r2_B0 ha hb (nomark _)
theorem ce_ge (ha : PE X a (tE X.K c f)) (hb : PE X b (tE X.K c g)) : PE X (.Compare a [.GtE] [b] pos) (tE X.K true (e2 geD f g)) := ce_cmp op_ge r2_B0 ha hb (nomark _)
def eqD : PyData → PyData → Option PyData := fun x y => if (SeqAt.shaped x && SeqAt.shaped y) = true then some (.bool (PyData.eqv x y)) else none
def neD : PyData → PyData → Option PyData := fun x y => if (SeqAt.shaped x && SeqAt.shaped y) = true then some (.bool (!PyData.eqv x y)) else none
theorem r2_eq : R2Ok K true (rEqD K) eqD := by
  intro S S' H x y dx dy d Q hn hS rx ry h q
  unfold eqD at h
  split at h
  · rename_i hs
    rw [Bool.and_eq_true] at hs
    cases h
    exact ⟨dx, dy, rx.dp hs.1, ry.dp hs.2, hs.1, hs.2, q _ H (Same.refl H) rpb⟩
  · cases h
theorem r2_ne : R2Ok K true (rNeD K) neD := by
  intro S S' H x y dx dy d Q hn hS rx ry h q
  unfold neD at h
  split at h
  · rename_i hs
    rw [Bool.and_eq_true] at hs
    cases h
    exact ⟨dx, dy, rx.dp hs.1, ry.dp hs.2, hs.1, hs.2, q _ H (Same.refl H) rpb⟩
  · cases h
theorem ce_eq (hu : X.A.units + 64 < cLine) (ha : PE X a (tE X.K c f)) (hb : PE X b (tE X.K c g)) : PE X (.Compare a [.Eq] [b] pos) (tE X.K true (e2 eqD f g)) := ce_cmp (op_eqD hu) r2_eq ha hb (nomark _)
theorem ce_ne (hu : X.A.units + 64 < cLine) (ha : PE X a (tE X.K c f)) (hb : PE X b (tE X.K c g)) : PE X (.Compare a [.NotEq] [b] pos) (tE X.K true (e2 neD f g)) := ce_cmp (op_neD hu) r2_ne ha hb (nomark _)
def noneB : PyData → Bool
  | .none => true
  | _ => false
def isD : PyData → PyData → Option PyData
  | x, .none => some (.bool (noneB x))
  | _, _ => none
def isntD : PyData → PyData → Option PyData
  | x, .none => some (.bool (!noneB x))
  | _, _ => none
theorem noneB_rp {S : Addr → Prop} {H : Hp} {d : PyData} {v : V} (r : Rp K S H d v) : decide (v = .non) = noneB d := by
  cases d with
  | none => rw [Rp] at r; subst r; rfl
  | bool k => rw [Rp] at r; subst r; rfl
  | int k => rw [Rp] at r; subst r; rfl
  | str k => rw [Rp] at r; subst r; rfl
  | list ds => rw [Rp] at r; obtain ⟨a, xs, rfl, _⟩ := r; rfl
  | tuple ds => rw [Rp] at r; obtain ⟨a, xs, rfl, _⟩ := r; rfl
  | dict k => rw [Rp] at r; obtain ⟨a, od, rfl, _⟩ := r; rfl
theorem r2_is : R2Ok K true (fun x y H Q => y = .non ∧ Q (.bl (decide (x = .non))) H) isD := by
  intro S S' H x y dx dy d Q hn hS rx ry h q
  unfold isD at h
  split at h
  · cases h
    rw [Rp] at ry
    exact ⟨ry, by rw [noneB_rp rx]; exact q _ H (Same.refl H) rpb⟩
  · cases h
theorem r2_isnt : R2Ok K true (fun x y H Q => y = .non ∧ Q (.bl (!decide (x = .non))) H) isntD := by
  intro S S' H x y dx dy d Q hn hS rx ry h q
  unfold isntD at h
  split at h
  · cases h
    rw [Rp] at ry
    exact ⟨ry, by rw [noneB_rp rx]; exact q _ H (Same.refl H) rpb⟩
  · cases h
theorem ce_is (ha : PE X a (tE X.K c f)) (hb : PE X b (tE X.K c g)) : PE X (.Compare a [.Is] [b] pos) (tE X.K true (e2 isD f g)) := ce_cmp op_isN r2_is ha hb (nomark _)
theorem ce_isnt (ha : PE X a (tE X.K c f)) (hb : PE X b (tE X.K c g)) : PE X (.Compare a [.IsNot] [b] pos) (tE X.K true (e2 isntD f g)) := ce_cmp op_notN r2_isnt ha hb (nomark _)
/-! in: a list of data of any depth -/
def inD : PyData → PyData → Option PyData
  | x, .list ds => if (SeqAt.shaped x && SeqAt.shaped (.list ds)) = true then some (.bool (ds.any fun z => PyData.eqv z x)) else none
  | _, _ => none
def notInD : PyData → PyData → Option PyData
  | x, .list ds => if (SeqAt.shaped x && SeqAt.shaped (.list ds)) = true then some (.bool (!ds.any fun z => PyData.eqv z x)) else none
  | _, _ => none
theorem r2_in : R2Ok K true (rInD K) inD := by
  intro S S' H x y dx dy d Q hn hS rx ry h q
  unfold inD at h
  split at h
  · split at h
    · rename_i hs
      rw [Bool.and_eq_true] at hs
      cases h
      exact ⟨_, _, rx.dp hs.1, ry.dp hs.2, hs.1, hs.2, q _ H (Same.refl H) rpb⟩
    · cases h
  · cases h
theorem r2_notIn : R2Ok K true (rNotInD K) notInD := by
  intro S S' H x y dx dy d Q hn hS rx ry h q
  unfold notInD at h
  split at h
  · split at h
    · rename_i hs
      rw [Bool.and_eq_true] at hs
      cases h
      exact ⟨_, _, rx.dp hs.1, ry.dp hs.2, hs.1, hs.2, q _ H (Same.refl H) rpb⟩
    · cases h
  · cases h
theorem ce_in (hu : X.A.units + 65 < cLine) (ha : PE X a (tE X.K c f)) (hb : PE X b (tE X.K c g)) (hm : behindInMarks .In b = false) : PE X (.Compare a [.In] [b] pos) (tE X.K true (e2 inD f g)) := ce_cmp (op_inD hu) r2_in ha hb hm
theorem ce_notIn (hu : X.A.units + 65 < cLine) (ha : PE X a (tE X.K c f)) (hb : PE X b (tE X.K c g)) (hm : behindInMarks .NotIn b = false) : PE X (.Compare a [.NotIn] [b] pos) (tE X.K true (e2 notInD f g)) := ce_cmp (op_notInD hu) r2_notIn ha hb hm
/-! chains of ints: a < b < c -/
def chI (k1 k2 : Int → Int → Bool) (f g h : En → Option PyData) : En → Option PyData := fun env => match f env with
  | some (.int i) => match g env with
    | some (.int j) => if k1 i j = true then (match h env with
      | some (.int m) => some (.bool (k2 j m))
      | _ => none) else some (.bool false)
    | _ => none
  | _ => none
theorem ce_chain {k1 k2 : Int → Int → Bool} {h : En → Option PyData} (he : PE X e (tChain (rI0 fun i j => .bl (k1 i j)) (rI0 fun i j => .bl (k2 i j)) (tE X.K c f) (tE X.K c1 g) (tE X.K c2 h))) : PE X e (tE X.K true (chI k1 k2 f g h)) := pe_w he fun σ H Q ⟨S0, H0, A, env, d, E, hf, q⟩ => by
  unfold chI at hf
  split at hf
  · rename_i i hi
    split at hf
    · rename_i j hj
      refine ⟨S0, H0, A, env, _, E, hi, fun v H1 s1 r1 => ⟨S0, H0, A, env, _, E.grow s1, hj, fun u H2 s2 r2 => ?_⟩⟩
      rw [Rp] at r1 r2
      subst r1 r2
      refine ⟨i, j, rfl, rfl, k1 i j, rfl, ?_⟩
      by_cases hk : k1 i j = true
      · rw [if_pos hk] at hf
        rw [hk, if_pos rfl]
        split at hf
        · rename_i m hm
          cases hf
          refine ⟨S0, H0, A, env, _, (E.grow s1).grow s2, hm, fun w H3 s3 r3 => ?_⟩
          rw [Rp] at r3
          subst r3
          exact ⟨j, m, rfl, rfl, q _ H3 ((s1.trans s2).trans s3) rpb⟩
        · cases hf
      · rw [if_neg hk] at hf
        cases hf
        rw [if_neg hk]
        have e : k1 i j = false := by cases z : k1 i j with
          | true => exact absurd z hk
          | false => rfl
        exact q _ H2 (s1.trans s2) rpb
    · cases hf
  · cases hf

/-! ### items, slices -/
def ixG (x k : PyData) : Option PyData := match k with
  | .int i => match x with
    | .list ds => atI ds i
    | .tuple ds => atI ds i
    | .str z => if z.length ≤ 1000000 then (atI z.cps.toList i).map fun c => .str ⟨#[c]⟩ else none
    | _ => none
  | _ => none
theorem atI_rp {S : Addr → Prop} {H : Hp} {ds : List PyData} {xs : List V} {i : Int} {d : PyData} (r : RpA K S H ds xs) (h : atI ds i = some d) : ∃ v, atI xs i = some v ∧ Rp K S H d v := by
  unfold atI at h ⊢
  rw [r.length]
  cases hj : ixN ds.length i with
  | none => rw [hj] at h; cases h
  | some j =>
    rw [hj] at h
    exact r.get h
theorem r2_ix : R2Ok K false (rIx K) ixG := by
  intro S S' H x y dx dy d Q hn hS rx ry h q
  have hS' : S' = S := hS.elim (fun z => nomatch z) id
  subst hS'
  unfold ixG at h
  split at h
  · rename_i i
    rw [Rp] at ry
    subst ry
    split at h
    · rw [Rp] at rx
      obtain ⟨l, us, rfl, h1, r1⟩ := rx
      obtain ⟨v, e1, e2⟩ := atI_rp r1 h
      exact .inl ⟨l, us, i, v, rfl, rfl, h1.sq, e1, q v H (Same.refl H) e2⟩
    · rw [Rp] at rx
      obtain ⟨l, us, rfl, h1, r1⟩ := rx
      obtain ⟨v, e1, e2⟩ := atI_rp r1 h
      exact .inr (.inl ⟨l, us, i, v, rfl, rfl, live_t h1, e1, q v H (Same.refl H) e2⟩)
    · rename_i z
      split at h
      · rename_i hl
        rw [Rp] at rx
        subst rx
        cases hc : atI z.cps.toList i with
        | none => rw [hc] at h; cases h
        | some k =>
          rw [hc] at h
          cases h
          exact .inr (.inr ⟨z, i, k, rfl, rfl, sz6 hl, hc, q _ H (Same.refl H) rps⟩)
      · cases h
    · cases h
  · cases h
theorem ce_ix (ha : PE X a (tE X.K c f)) (hb : PE X b (tE X.K c g)) (hs : PlainIx b) : PE X (.Subscript a b pos) (tE X.K c (e2 ixG f g)) := pe_w (pe_ix ix_seq ha hb hs) fun _ _ _ q => e2_run r2_ix (.inr rfl) q
/-- x[k], x owned: a clean item -/
def eIxO (i : Nat) (g : En → Option PyData) : En → Option PyData := fun env => match env[i]? with
  | some (.own ds) => match g env with
    | some (.int k) => atI ds k
    | _ => none
  | _ => none
theorem ce_ixO {i : Nat} (ha : PE X a (tVar i)) (hb : PE X b (tE X.K c g)) (hs : PlainIx b) : PE X (.Subscript a b pos) (tE X.K true (eIxO i g)) := pe_w (pe_ix ix_seq ha hb hs) fun σ H Q ⟨S0, H0, A, env, d, E, hf, q⟩ => by
  unfold eIxO at hf
  split at hf
  · rename_i ds hi
    split at hf
    · rename_i k hk
      rcases E.sl i _ hi with z | ⟨v, h1, l, us, rfl, ha, hh, r⟩
      · cases z
      refine ⟨_, h1, S0, H0, A, env, _, E, hk, fun u H1 s1 r1 => ?_⟩
      rw [Rp] at r1
      subst r1
      obtain ⟨v, e1, e2⟩ := atI_rp (r.grow s1) hf
      exact .inl ⟨l, us, k, v, rfl, rfl, .inl (.inl (s1 _ _ hh)), e1, q v H1 s1 (Rp.wide (fun _ z => sc_cl z) e2)⟩
    · cases hf
  · cases hf
def tOp' (K : PySem.W.Frag) (f : En → Option (Option Int)) : TO := fun σ H Q => ∃ S0 H0 A env o, EnvOk K S0 H0 A H σ env ∧ f env = some o ∧ ∀ H', Same H H' → Q o H'
def oNone : En → Option (Option Int) := fun _ => some none
def oSome (f : En → Option PyData) : En → Option (Option Int) := fun env => match f env with
  | some (.int i) => some (some i)
  | _ => none
theorem co_none : PO X none (tOp' X.K oNone) := ⟨fun pins s σ H Q I ⟨S0, H0, A, env, o, E, hf, q⟩ => (po_none).run pins s σ H Q I (by cases hf; exact q H (Same.refl H))⟩
theorem co_some (h : PE X e (tE X.K c f)) : PO X (some e) (tOp' X.K (oSome f)) := ⟨fun pins s σ H Q I ⟨S0, H0, A, env, o, E, hf, q⟩ => (po_some h).run pins s σ H Q I (by
  unfold oSome at hf
  split at hf
  · rename_i i hi
    cases hf
    refine ⟨S0, H0, A, env, _, E, hi, fun v H1 s r => ?_⟩
    rw [Rp] at r
    exact ⟨i, r, q H1 s⟩
  · cases hf)⟩
def cutL {α : Type} (xs : List α) (lo hi : Option Int) : List α := (xs.drop (HT.sIx xs.length 0 lo)).take (HT.sIx xs.length xs.length hi - HT.sIx xs.length 0 lo)
def rSlX (K : PySem.W.Frag) : V → Option Int → Option Int → Hp → VK → Prop := fun x lo hi H Q => (∃ a xs, x = .ref a ∧ SqL K H a xs ∧ ∀ p, H p = none → Q (.ref p) (upd H p (.lst (cutV xs lo hi)))) ∨ rSlA K x lo hi H Q ∨ rSlS x lo hi H Q
theorem sl_X : SlR X (rSlX X.K) := by
  intro pins s σ H x v vl vu lo hi sl Q I rx hs pl pu h
  rcases h with h | h | h
  · exact sl_list pins s σ H x v vl vu lo hi sl Q I rx hs pl pu h
  · exact sl_tupA pins s σ H x v vl vu lo hi sl Q I rx hs pl pu h
  · exact sl_str pins s σ H x v vl vu lo hi sl Q I rx hs pl pu h
def slG (x : PyData) (lo hi : Option Int) : Option PyData := match x with
  | .list ds => some (.list (cutL ds lo hi))
  | .tuple ds => some (.tuple (cutL ds lo hi))
  | .str z => if z.length ≤ 1000000 then some (.str (cutS z lo hi)) else none
  | _ => none
theorem cut_rp {S : Addr → Prop} {H : Hp} {ds : List PyData} {xs : List V} (r : RpA K S H ds xs) (lo hi : Option Int) : RpA K S H (cutL ds lo hi) (cutV xs lo hi) := by
  unfold cutL cutV
  rw [r.length]
  exact (r.drop _).take _
theorem cut_whole {ds : List PyData} {lo hi : Option Int} (h : HT.sIx ds.length 0 lo = 0 ∧ HT.sIx ds.length ds.length hi = ds.length) : cutL ds lo hi = ds := by
  unfold cutL
  rw [h.1, h.2]
  simp
def eSl (f : En → Option PyData) (l h : En → Option (Option Int)) : En → Option PyData := fun env => match f env with
  | some x => match l env with
    | some lo => match h env with
      | some hi => slG x lo hi
      | none => none
    | none => none
  | none => none
theorem ce_sl {lo hi : Option Expr} {p2 : Pos} {l h : En → Option (Option Int)} (ha : PE X a (tE X.K c f)) (hl : PO X lo (tOp' X.K l)) (hh : PO X hi (tOp' X.K h)) : PE X (.Subscript a (.Slice lo hi none p2) pos) (tE X.K c (eSl f l h)) := pe_w (pe_slice sl_X ha hl hh) fun σ H Q ⟨S0, H0, A, env, d, E, hf, q⟩ => by
  unfold eSl at hf
  split at hf
  · rename_i x hx
    split at hf
    · rename_i lo' hlo
      split at hf
      · rename_i hi' hhi
        refine ⟨S0, H0, A, env, x, E, hx, fun v H1 s1 r1 => ⟨S0, H0, A, env, lo', E.grow s1, hlo, fun H2 s2 => ⟨S0, H0, A, env, hi', (E.grow s1).grow s2, hhi, fun H3 s3 => ?_⟩⟩⟩
        have sm := (s1.trans s2).trans s3
        have r3 := (r1.grow s2).grow s3
        unfold slG at hf
        split at hf
        · cases hf
          rw [Rp] at r3
          obtain ⟨m, us, rfl, k, r⟩ := r3
          refine .inl ⟨m, us, rfl, k.sq, fun p hp => q _ _ (sm.trans (same_new hp)) ?_⟩
          rw [Rp]
          exact ⟨p, _, rfl, .inl ⟨sc_new (E.grow sm) hp, .inl upd_same⟩, (cut_rp r _ _).grow (same_new hp)⟩
        · cases hf
          have r3' := r3
          rw [Rp] at r3
          obtain ⟨m, us, rfl, k, r⟩ := r3
          refine .inr (.inl ⟨m, us, rfl, live_t k, fun w => ?_, fun _ p hp => q _ _ (sm.trans (same_new hp)) ?_⟩)
          · rw [r.length] at w
            rw [cut_whole w] at q
            exact q _ H3 sm r3'
          · rw [Rp]
            exact ⟨p, _, rfl, upd_same, (cut_rp r _ _).grow (same_new hp)⟩
        · split at hf
          · rename_i z hz
            cases hf
            rw [Rp] at r3
            subst r3
            exact .inr (.inr ⟨z, rfl, sz6 hz, q _ H3 sm rps⟩)
          · cases hf
        · cases hf
      · cases hf
    · cases hf
  · cases hf
end
end Mir

namespace Mir
open PySem PySem.Spec PyProof.Rows L2
theorem hu65 {k : Nat} {A : Around} (r : Room k A) : A.units + 65 < cLine := by
  have := r.un
  omega
abbrev tNilE : TE := tC .non
section
variable {X : Cx} {a b e : Expr} {es : List Expr} {pos p : Pos} {st : Stmt} {c c1 c2 : Bool} {f g : En → Option PyData} {fa : En → Option (List PyData)} {fb : En → Option Bool} {K : PySem.W.Frag}
theorem ct_chain {k1 k2 : Int → Int → Bool} {h : En → Option PyData} (he : PT X e (tTest (tChain (rI0 fun i j => .bl (k1 i j)) (rI0 fun i j => .bl (k2 i j)) (tE X.K c f) (tE X.K c1 g) (tE X.K c2 h)))) : PT X e (tT X.K (t1 (chI k1 k2 f g h))) := pt_w he fun σ H Q ⟨S0, H0, A, env, d, E, hf, q⟩ => by
  have hf := t1_some hf
  unfold chI at hf
  split at hf
  · rename_i i hi
    split at hf
    · rename_i j hj
      refine ⟨S0, H0, A, env, _, E, hi, fun v H1 s1 r1 => ⟨S0, H0, A, env, _, E.grow s1, hj, fun u H2 s2 r2 => ?_⟩⟩
      rw [Rp] at r1 r2
      subst r1 r2
      refine ⟨i, j, rfl, rfl, k1 i j, rfl, ?_⟩
      by_cases hk : k1 i j = true
      · rw [if_pos hk] at hf
        rw [hk, if_pos rfl]
        split at hf
        · rename_i m hm
          cases hf
          refine ⟨S0, H0, A, env, _, (E.grow s1).grow s2, hm, fun w H3 s3 r3 => ?_⟩
          rw [Rp] at r3
          subst r3
          exact ⟨j, m, rfl, rfl, _, rfl, q H3 ((s1.trans s2).trans s3)⟩
        · cases hf
      · rw [if_neg hk] at hf
        cases hf
        rw [if_neg hk]
        exact ⟨_, rfl, q H2 (s1.trans s2)⟩
    · cases hf
  · cases hf
theorem ce_l' {t : TE} (h : ∀ σ H Q, tF K c fa σ H Q → t σ H Q) {σ : L2.St} {H : Hp} {Q : VK} (q : tE K c (eL fa) σ H Q) : t σ H Q := by
  obtain ⟨S0, H0, A, env, d, E, hf, q⟩ := q
  unfold eL at hf
  cases hd : fa env with
  | none => rw [hd] at hf; cases hf
  | some ds =>
    rw [hd] at hf
    cases hf
    refine h _ _ _ ⟨S0, H0, A, env, ds, E, hd, fun p xs H' hn s hp r => q _ H' s ?_⟩
    rw [Rp]
    exact ⟨p, xs, rfl, .inl ⟨sc_new E hn, .inl hp⟩, r.wide fun _ z => z.1⟩
theorem cs_lcV {i : Nat} {c : Bool} {f : En → Option (List PyData)} {g : PyData → En → Option En} {ga : En → Option Bool} {fe : En → Option PyData} {is : List Nat} (h : PS X st (tAsg (tLc (tI X.K c f) (tG X.K is g) (tT X.K ga) (tE X.K true fe) is) (gName i))) : PS X st (tS X.K (sSet i (eL (fCmp is f g ga fe)))) :=
  ps_w h fun D σ H q => ce_l' (c := true) (fun _ _ _ z => lc_run (fun _ _ _ z => z) z) (set_run q)
theorem cs_lcV1 {i : Nat} {c : Bool} {f : En → Option (List PyData)} {g : PyData → En → Option En} {fe : En → Option PyData} {is : List Nat} (h : PS X st (tAsg (tLc (tI X.K c f) (tG X.K is g) tYes (tE X.K true fe) is) (gName i))) : PS X st (tS X.K (sSet i (eL (fCmp is f g tYes' fe)))) :=
  ps_w h fun D σ H q => ce_l' (c := true) (fun _ _ _ z => lc_run (fun _ _ _ z => yes_run z) z) (set_run q)
end
/-! any, all, sum -/
def boolsD : List PyData → Option (List Bool)
  | [] => some []
  | .bool i :: ds => match boolsD ds with
    | some ns => some (i :: ns)
    | none => none
  | _ :: _ => none
theorem boolsD_rp {K : PySem.W.Frag} {S : Addr → Prop} {H : Hp} : ∀ {ds : List PyData} {ns : List Bool} {xs : List V}, boolsD ds = some ns → RpA K S H ds xs → xs = ns.map V.bl
  | [], ns, xs, h, r => by
    rw [RpA] at r
    cases h
    exact r
  | .bool i :: ds, ns, xs, h, r => by
    rw [RpA] at r
    obtain ⟨v, r', rfl, h1, h2⟩ := r
    rw [Rp] at h1
    simp only [boolsD] at h
    split at h
    · rename_i ms hm
      cases h
      have e1 := boolsD_rp hm h2
      subst h1
      rw [e1]; rfl
    · cases h
  | .none :: _, _, _, h, _ => by cases h
  | .str _ :: _, _, _, h, _ => by cases h
  | .int _ :: _, _, _, h, _ => by cases h
  | .list _ :: _, _, _, h, _ => by cases h
  | .tuple _ :: _, _, _, h, _ => by cases h
  | .dict _ :: _, _, _, h, _ => by cases h
theorem boolsD_map : ∀ ns : List Bool, boolsD (ns.map PyData.bool) = some ns
  | [] => rfl
  | n :: ns => by
    show (match boolsD (ns.map PyData.bool) with | some ns => some (n :: ns) | none => none) = _
    rw [boolsD_map ns]
def anyA : List PyData → Option PyData
  | [.list ds] => (boolsD ds).map fun bs => .bool (bs.any id)
  | _ => none
def allA : List PyData → Option PyData
  | [.list ds] => (boolsD ds).map fun bs => .bool (bs.all id)
  | _ => none
def sumA : List PyData → Option PyData
  | [.list ds] => (intsD ds).map fun ns => .int ns.sum
  | _ => none
theorem cr_any' {K : PySem.W.Frag} : CROk K true (rAny K) anyA := by
  intro S S' H vs ds d Q _ _ r h q
  unfold anyA at h
  split at h
  · obtain ⟨v, rfl, r1⟩ := r.one
    rw [Rp] at r1
    obtain ⟨a, xs, rfl, hs, ra⟩ := r1
    rename_i es
    cases hb : boolsD es with
    | none => rw [hb] at h; cases h
    | some bs =>
      rw [hb] at h
      cases h
      have e1 := boolsD_rp hb ra
      subst e1
      exact ⟨a, bs, rfl, hs.sq, q _ H (Same.refl H) rpb⟩
  · cases h
theorem cr_all' {K : PySem.W.Frag} : CROk K true (rAll K) allA := by
  intro S S' H vs ds d Q _ _ r h q
  unfold allA at h
  split at h
  · obtain ⟨v, rfl, r1⟩ := r.one
    rw [Rp] at r1
    obtain ⟨a, xs, rfl, hs, ra⟩ := r1
    rename_i es
    cases hb : boolsD es with
    | none => rw [hb] at h; cases h
    | some bs =>
      rw [hb] at h
      cases h
      have e1 := boolsD_rp hb ra
      subst e1
      exact ⟨a, bs, rfl, hs.sq, q _ H (Same.refl H) rpb⟩
  · cases h
theorem cr_sum' {K : PySem.W.Frag} : CROk K true (rSum K) sumA := by
  intro S S' H vs ds d Q _ _ r h q
  unfold sumA at h
  split at h
  · obtain ⟨v, rfl, r1⟩ := r.one
    rw [Rp] at r1
    obtain ⟨a, xs, rfl, hs, ra⟩ := r1
    rename_i es
    cases hb : intsD es with
    | none => rw [hb] at h; cases h
    | some ns =>
      rw [hb] at h
      cases h
      obtain ⟨e1, _⟩ := intsD_rp hb ra
      subst e1
      exact ⟨a, ns, rfl, hs.sq, q _ H (Same.refl H) rp1⟩
  · cases h
/-- the law's own end -/
theorem ints_rp {K : PySem.W.Frag} {S : Addr → Prop} {H : Hp} : ∀ ns : List Int, RpA K S H (ns.map PyData.int) (ns.map V.int)
  | [] => RpA.nil
  | n :: ns => RpA.cons rp1 (ints_rp ns)
theorem law_end {K : PySem.W.Frag} {H : Hp} {a : Addr} {ns : List Int} {g : List PyData → Option PyData} {E : XK} (h : SqL K H a (ns.map V.int)) (e : g [.list (ns.map .int)] = some (.bool true)) : spF K g [.ref a] H (fun v _ => v = .bl true) E := by
  refine ⟨fun _ => True, _, _, RpA.cons ?_ RpA.nil, e, fun v H' _ r => by rw [Rp] at r; exact r⟩
  rw [Rp]
  exact ⟨a, _, rfl, LsAt.of trivial h, ints_rp ns⟩
end Mir

namespace Mir
open PySem PySem.Spec PyProof.Rows L2
/-! ### enumerate over a tuple -/
theorem called_any {c : Value} {M : Model} {A : Around} {E : Value → Shared → Prop} {s : Shared} {Q : Bool → Shared → Prop} (h : ∀ b, Q b s) : wpAny M A (Builtin.SmallTypes.calledThroughType c) Q E s :=
  wpAny_bind (wpAny_stack_any fun st => wpAny_pure (h _))
theorem meets_enumT {v : Value} {o : Obj} {HH : Heap → Prop} (B : Begins v o HH) :
    Meets (Builtin.«enumerate.__new__» { pos := [Value.type "enumerate", v] }) fun x R s =>
      HH s.heap ∧ R (Except.ok (Flow.ret (Value.ref (s.heap.push o).objs.size)))
        { heap := (s.heap.push o).push { cls := Value.type "enumerate", data := Data.fields #[Value.none, Value.bool false, Value.ref s.heap.objs.size, rawInt 0, Value.none, Value.none] },
          gens := s.gens, drawn := s.drawn, toks := s.toks, os := s.os } := by
  refine Meets.of_wp fun prog w A R s h => ?_
  obtain ⟨hp, g, d, tk, os⟩ := s
  obtain ⟨h1, h⟩ := h
  have hsub := sub_enumerate
  refine wpAny_bind (wpAny_bind (wpAny_pure (wpAny_ite_false (by decide) (wpAny_bind (wpAny_of_eq hsub (wpAny_ite_false (by decide) (wpAny_pure (wpAny_ite_true (by decide) (wpAny_bind (called_any fun sh => ?_))))))))))
  have key : wpAny (model prog w) A.in1 (do
      let x ← pyIter v
      let y ← Builtin.SmallTypes.newRecord (Value.type "enumerate") (Builtin.SmallTypes.ownedTupleFields ++ [x, rawInt 0, Value.none, Value.none])
      ret y) (fun fin s' => ∃ v, fin = Fin.done (Flow.ret v) ∧ R (Except.ok (Flow.ret v)) s') (fun e s' => R (Except.error e) s') { heap := hp, gens := g, drawn := d, toks := tk, os := os } := by
    refine wpAny_bind (B.iter prog w _ _ _ _ h1 (wpAny_bind ?_))
    exact wpAny_bind (wpAny_alloc (wpAny_pure (wpAny_pure ⟨_, rfl, h⟩)))
  cases sh
  · exact wpAny_ite_false (by decide) (wpAny_bind (wpAny_of_eq (show _ = pure (v, none) from rfl) key))
  · exact wpAny_ite_true (by decide) (wpAny_bind (wpAny_of_eq (show _ = pure (v, none) from rfl) key))
theorem call_enumT {prog : Program} {w : World} {A : Around} {E : Value → Shared → Prop} {s : Shared} {v : Value} {o : Obj} {HH : Heap → Prop} {Q : Value → Shared → Prop} (B : Begins v o HH) (h1 : HH s.heap)
    (h : ∀ h' : Heap, IsEnum h' (s.heap.objs.size + 1) s.heap.objs.size 0 Value.none → h'.get? s.heap.objs.size = some o → h'.objs.size = s.heap.objs.size + 2 → (∀ (b : Addr) (o : Obj), s.heap.get? b = some o → h'.get? b = some o) →
      Q (Value.ref (s.heap.objs.size + 1)) { heap := h', gens := s.gens, drawn := s.drawn, toks := s.toks, os := s.os }) :
    wpAny (model prog w) A (call (Value.type "enumerate") [v]) Q E s := by
  refine callType_new F.called_enumerate (by decide) (F.typeCall_enumerate_1 v) (F.newCall_enumerate_1 v) (fun obj => F.args_object_init_2 obj v) F.entry_enumerate_new (meets_enumT B) ⟨h1, ?_⟩
  have hz := Heap.size_push s.heap o
  have he := Heap.get?_push_size (s.heap.push o) (o := { cls := Value.type "enumerate", data := Data.fields #[Value.none, Value.bool false, Value.ref s.heap.objs.size, rawInt 0, Value.none, Value.none] }) rfl
  rw [hz] at he
  show _ ∧ _
  rw [hz]
  refine ⟨⟨_, he, rfl⟩, h _ he (Heap.get?_push_of_some _ (Heap.get?_push_size s.heap B.free)) ?_ fun b o' x => Heap.get?_push_of_some _ (Heap.get?_push_of_some _ x)⟩
  rw [Heap.size_push, hz]

def IteT (K : PySem.W.Frag) (a : Addr) (n : Nat) : It where
  go := fun i H => ∃ xs x, SqT K H a xs ∧ xs.length = n ∧ xs[i]? = some x
  yld := fun i H v H' => ∃ T x, v = .ref T ∧ H T = none ∧ H' = upd H T (.tup [.int (i : Nat), x]) ∧ ∀ xs : List V, SqT K H a xs → xs[i]? = some x
  stop := fun i H => ∃ xs, SqT K H a xs ∧ xs.length = n ∧ n ≤ i
theorem turn_enumT {P : Program} {w : World} {K : PySem.W.Frag} {elts : List Expr} {kk : Nat} {tpos : Pos} (a e it : Addr) (n : Nat) :
    Turn P w K (.Tuple elts kk tpos) (IteT K a n) [e, it] e fun i h => (∃ old, IsEnum h e it (i : Nat) old) ∧ h.IsTupleIter it a i ∧ e ≠ it ∧ i ≤ n where
  mem := by simp
  obj := by
    rintro i h ⟨⟨old, he⟩, ⟨o, ho, hc, hd⟩, hne, hn⟩ b hb
    have e' : b = e ∨ b = it := by simpa using hb
    rcases e' with z | z
    · rw [z]; exact ⟨_, he, fun v q => nomatch q⟩
    · rw [z]; exact ⟨o, ho, fun v q => by rw [hd] at q; cases q⟩
  keep := by
    rintro i h h' ⟨⟨old, he⟩, hi, hne, hn⟩ k
    exact ⟨⟨old, k e (by simp) _ he⟩, Heap.IsTupleIter.at hi fun o q => k it (by simp) o q, hne, hn⟩
  item := by
    intro X hP hw hK hc i pins s σ H E I hf st hg
    subst hP hw hK
    obtain ⟨⟨old, he⟩, hit, hne, hn⟩ := st
    obtain ⟨xs, x, hq, hln, hx⟩ := hg
    obtain ⟨its, rv, p, hz⟩ := I.tuple hq
    obtain ⟨u, hu, ru⟩ := rv.get hx
    have hel := Heap.lt_size he
    have hil : it < s.heap.objs.size := by obtain ⟨w, q, _⟩ := hit; exact Heap.lt_size q
    have pT : s.heap.IsTuple a its.toArray := p
    have hai : a ≠ it := by
      intro z
      subst z
      obtain ⟨o1, q1, q2, _⟩ := hit
      obtain ⟨o2, r1, r2, _⟩ := pT
      rw [q1] at r1
      cases r1
      exact absurd (Value.type.inj (q2.symm.trans r2)) (by decide)
    have hea : e ≠ a := by
      intro z
      subst z
      obtain ⟨o2, r1, r2, _⟩ := pT
      have he' : s.heap.get? e = some _ := he
      rw [he'] at r1
      cases r1
      exact absurd (Value.type.inj r2) (by decide)
    have hlt : i < xs.length := (List.getElem?_eq_some_iff.mp hx).1
    have hlv : its.length = xs.length := by have := rv.length; omega
    refine wpAny_pyNext_enum_itemD (fp := [it, a]) (n := its.toArray.size) (Draws.tuple (A := X.A.in1) (show X.A.in1.handled = none from I.ok.hd hc) it a hai its.toArray) he ⟨hit, pT⟩ (by simp; omega) hne (by simp; exact ⟨hne, hea⟩) fun u' h' tk hP' ho hS hT hsz hk => ?_
    obtain ⟨hit', pT'⟩ := hS
    have hu' : u' = u := by
      have h1 : its[i]? = some u' := by simpa using hP'
      rw [hu] at h1
      cases h1
      rfl
    subst hu'
    refine ⟨_, rfl, wpAny_letOwnedTupleGo_enum ho fun h'' he' sb => ?_⟩
    have hT2 := (sb.2 s.heap.objs.size (Nat.ne_of_gt hel)).trans hT
    have new : ObjOk X.prog X.w (upd H s.heap.objs.size (.tup [.int (i : Nat), x])) h'' s.heap.objs.size (.tup [.int (i : Nat), x]) :=
      ⟨by show (2 : Nat) ≤ sizeLine; decide, [Value.int (i : Nat) tk, u'], .cons ⟨tk, rfl⟩ (.cons ru .nil), ⟨_, hT2, rfl, 0, rfl⟩⟩
    have I1 := I.turnedNew (t' := tk + 1) (ch := [e, it]) (fun b ob hb q => (sb.2 b fun z => hb (by simp [z])).trans (hk b ob (fun z => hb (by simp [z])) (fun z => hb (by simp [z])) q)) hf (Nat.le_refl s.heap.objs.size) new
    refine ⟨.ref s.heap.objs.size, _, I1, rfl, ⟨_, x, rfl, I.hok.fresh (Nat.le_refl _), rfl, fun ys hy => by rw [I.tuple_inj hy hq]; exact hx⟩, ⟨⟨u', ?_⟩, Heap.IsTupleIter.at hit' fun o q => (sb.2 it (Ne.symm hne)).trans q, hne, by omega⟩, fun b hb => ?_⟩
    · show IsEnum h'' e it ((i + 1 : Nat) : Int) u'
      rw [show ((i + 1 : Nat) : Int) = (i : Nat) + 1 by omega]
      exact he'
    · have hb' : b < s.heap.objs.size := by
        have e' : b = e ∨ b = it := by simpa using hb
        rcases e' with z | z <;> (rw [z]; assumption)
      rw [upd_ne (Nat.ne_of_lt hb')]
      exact (hf b hb).1
  done := by
    intro X hP hw hK hc i pins s σ H E I hf st hg
    subst hP hw hK
    obtain ⟨⟨old, he⟩, hit, hne, hn⟩ := st
    obtain ⟨xs, hq, hln, hx⟩ := hg
    obtain ⟨its, rv, p, hz⟩ := I.tuple hq
    have pT : s.heap.IsTuple a its.toArray := p
    have hai : a ≠ it := by
      intro z
      subst z
      obtain ⟨o1, q1, q2, _⟩ := hit
      obtain ⟨o2, r1, r2, _⟩ := pT
      rw [q1] at r1
      cases r1
      exact absurd (Value.type.inj (q2.symm.trans r2)) (by decide)
    have hlv : its.length = xs.length := by have := rv.length; omega
    obtain ⟨f0, f1, f2, f3, f4, f5⟩ := hf it (by simp)
    have hin : its.toArray.size = i := by simp; omega
    refine wpAny_pyNext_enum_endD (fp := [it, a]) (n := its.toArray.size) (Draws.tuple (A := X.A.in1) (show X.A.in1.handled = none from I.ok.hd hc) it a hai its.toArray) he ⟨by rw [hin]; exact hit, pT⟩ fun h' eb => ⟨rfl, I.turned (fun b o hb q => eb b o hb q) f0 f1 f3 f4 f5⟩
  self := by
    rintro A i s Q E ⟨⟨old, he⟩, _⟩ h
    exact wpAny_pyIter_enum he h
def iEnumA (K : PySem.W.Frag) (ta : TA) : TI := fun σ H R => ta σ H fun vs H1 => ∃ a xs, vs = [.ref a] ∧ ((SqL K H1 a xs ∧ R (Ite K a) H1) ∨ (SqT K H1 a xs ∧ R (IteT K a xs.length) H1))
theorem pi_enumA {X : Cx} {e : Expr} {ta : TA} {p pos tpos : Pos} {elts : List Expr} {kk : Nat} (hg : Gl X "enumerate") (hm : X.mg "enumerate" = none) (ha : PA X [e] ta) (hs : starEach [e] X.env = [(false, eval e X.env)] := by rfl) :
    PI X (.Tuple elts kk tpos) (.Call (.Name "enumerate" p) [e] [] pos) (iEnumA X.K ta) := by
  constructor
  intro pins s σ H R I h
  refine Call_ (ld_blt I hg hm boot_enumerate (PyProof.Rows.callWith_type1 (thn (ha.run pos pins s σ H _ I h) ?_) (by rw [hs]; rfl)))
  rintro us s1 ⟨vs, H1, I1, r1, a, xs, rfl, q⟩
  cases r1 with
  | cons r rr =>
    cases rr
    cases r
    rcases q with ⟨hq, q⟩ | ⟨hq, q⟩
    · obtain ⟨its, rv, pl, hz⟩ := I1.list hq
      refine call_enumerate_list pl.isList fun h' he hi hsz hk => ?_
      refine wpAny_pyIter_enum he ⟨s1.heap.objs.size + 1, [s1.heap.objs.size + 1, s1.heap.objs.size], _, _, H1, rfl, I1.kept (t' := s1.toks) hk, turn_enum a _ _, ⟨⟨_, he⟩, hi, Nat.succ_ne_self _⟩, ?_, q⟩
      intro b hb
      have e' : b = s1.heap.objs.size + 1 ∨ b = s1.heap.objs.size := by simpa using hb
      have hb : s1.heap.objs.size ≤ b := by
        rcases e' with z | z
        · rw [z]; exact Nat.le_succ _
        · rw [z]; exact Nat.le_refl _
      exact I1.fpOk hb (I1.hok.fresh hb)
    · obtain ⟨its, rv, pl, hz⟩ := I1.tuple hq
      refine call_enumT (begins_tuple a its.toArray) (show s1.heap.IsTuple a its.toArray from pl) fun h' he hi hsz hk => ?_
      refine wpAny_pyIter_enum he ⟨s1.heap.objs.size + 1, [s1.heap.objs.size + 1, s1.heap.objs.size], _, _, H1, rfl, I1.kept (t' := s1.toks) hk, turn_enumT a _ _ xs.length, ⟨⟨_, he⟩, ⟨_, hi, rfl, rfl⟩, Nat.succ_ne_self _, Nat.zero_le _⟩, ?_, q⟩
      intro b hb
      have e' : b = s1.heap.objs.size + 1 ∨ b = s1.heap.objs.size := by simpa using hb
      have hb : s1.heap.objs.size ≤ b := by
        rcases e' with z | z
        · rw [z]; exact Nat.le_succ _
        · rw [z]; exact Nat.le_refl _
      exact I1.fpOk hb (I1.hok.fresh hb)

/-! ### enumerate, zip as readings -/
section
variable {K : PySem.W.Frag} {X : Cx} {tg iter : Expr}
def enumD : Nat → List PyData → List PyData
  | _, [] => []
  | k, d :: ds => .tuple [.int (k : Nat), d] :: enumD (k + 1) ds
theorem enumD_len : ∀ (ds : List PyData) (k : Nat), (enumD k ds).length = ds.length
  | [], _ => rfl
  | _ :: ds, k => by rw [enumD, List.length_cons, List.length_cons, enumD_len ds]
theorem enumD_get : ∀ (ds : List PyData) (k i : Nat) (d : PyData), (enumD k ds)[i]? = some d → ∃ x, ds[i]? = some x ∧ d = .tuple [.int ((k + i : Nat) : Int), x]
  | [], _, i, d, h => by simp [enumD] at h
  | x :: ds, k, 0, d, h => by
    simp [enumD] at h
    exact ⟨x, rfl, by rw [← h]; rfl⟩
  | x :: ds, k, i + 1, d, h => by
    rw [enumD, List.getElem?_cons_succ] at h
    obtain ⟨y, h1, h2⟩ := enumD_get ds (k + 1) i d h
    exact ⟨y, by simpa using h1, by rw [h2, show k + 1 + i = k + (i + 1) by omega]⟩
theorem pair_rp {S : Addr → Prop} {H : Hp} {T : Addr} {d e : PyData} {u v : V} (hT : H T = none) (h1 : Rp K S H d u) (h2 : Rp K S H e v) : Rp K S (upd H T (.tup [u, v])) (.tuple [d, e]) (.ref T) := by
  rw [Rp]
  exact ⟨T, [u, v], rfl, upd_same, RpA.cons (h1.grow (same_new hT)) (RpA.cons (h2.grow (same_new hT)) RpA.nil)⟩
theorem wk_enumL {a : Addr} {xs : List V} {ds : List PyData} {S : Addr → Prop} : Wk K (Ite K a) (fun H => SqL K H a xs ∧ RpA K S H ds xs) S (enumD 0 ds) where
  go := fun i H g l => by
    rw [enumD_len] at l
    exact ⟨xs, xs[i]'(by rw [g.2.length]; exact l), g.1, by rw [List.getElem?_eq_getElem]⟩
  yld := fun i H d x H' g e y => by
    obtain ⟨T, x', rfl, hT, rfl, hx⟩ := y
    obtain ⟨z, h1, rfl⟩ := enumD_get ds 0 i d e
    rw [Nat.zero_add]
    exact ⟨same_new hT, pair_rp hT (by rw [Rp]) (g.2.at h1 (hx xs g.1))⟩
  stop := fun i H g l => ⟨xs, g.1, by rw [g.2.length]; rw [enumD_len] at l; exact l⟩
theorem wk_enumT {a : Addr} {xs : List V} {ds : List PyData} {S : Addr → Prop} : Wk K (IteT K a xs.length) (fun H => H a = some (.tup xs) ∧ RpA K S H ds xs) S (enumD 0 ds) where
  go := fun i H g l => by
    rw [enumD_len] at l
    exact ⟨xs, xs[i]'(by rw [g.2.length]; exact l), live_t g.1, rfl, by rw [List.getElem?_eq_getElem]⟩
  yld := fun i H d x H' g e y => by
    obtain ⟨T, x', rfl, hT, rfl, hx⟩ := y
    obtain ⟨z, h1, rfl⟩ := enumD_get ds 0 i d e
    rw [Nat.zero_add]
    exact ⟨same_new hT, pair_rp hT (by rw [Rp]) (g.2.at h1 (hx xs (live_t g.1)))⟩
  stop := fun i H g l => ⟨xs, live_t g.1, rfl, by rw [g.2.length]; rw [enumD_len] at l; exact l⟩
def iEnm (fa : En → Option (List PyData)) : En → Option (List PyData) := fun env => match fa env with
  | some [.list ds] => some (enumD 0 ds)
  | some [.tuple ds] => some (enumD 0 ds)
  | _ => none
theorem ci_enum {fa : En → Option (List PyData)} (h : PI X tg iter (iEnumA X.K (tA X.K true fa))) : PI X tg iter (tI X.K true (iEnm fa)) := pi_w h fun σ H R ⟨S0, H0, A, env, ds, E, hf, q⟩ => by
  unfold iEnm at hf
  split at hf
  · rename_i es hd
    cases hf
    refine ⟨S0, H0, A, env, _, E, hd, fun vs H1 s r => ?_⟩
    obtain ⟨v, rfl, r1⟩ := r.one
    rw [Rp] at r1
    obtain ⟨a, xs, rfl, hs, ra⟩ := r1
    have ra' : RpA X.K (Cl S0 H0 A) H1 es xs := ra.wide fun _ z => cl_sc z
    exact ⟨a, xs, rfl, .inl ⟨hs.sq, q _ H1 _ s (fun H2 s2 => ⟨s2.seq hs.sq, ra'.sm s2⟩) (fun _ H2 f2 => ⟨hs.imp (fun z => fr_rd f2 (cl_sc z.1).2 z.2) id, ra'.fr (E.grow s) f2 fun _ z => z.2⟩) wk_enumL⟩⟩
  · rename_i es hd
    cases hf
    refine ⟨S0, H0, A, env, _, E, hd, fun vs H1 s r => ?_⟩
    obtain ⟨v, rfl, r1⟩ := r.one
    rw [Rp] at r1
    obtain ⟨a, xs, rfl, hs, ra⟩ := r1
    have ra' : RpA X.K (Cl S0 H0 A) H1 es xs := ra.wide fun _ z => cl_sc z
    exact ⟨a, xs, rfl, .inr ⟨live_t hs, q _ H1 _ s (fun H2 s2 => ⟨same_t s2 hs, ra'.sm s2⟩) (fun _ H2 f2 => ⟨fr_t (E.grow s) f2 hs, ra'.fr (E.grow s) f2 fun _ z => z.2⟩) wk_enumT⟩⟩
  · cases hf
def zipD : List PyData → List PyData → List PyData
  | d :: ds, e :: es => .tuple [d, e] :: zipD ds es
  | _, _ => []
theorem zipD_len : ∀ (ds es : List PyData), (zipD ds es).length = min ds.length es.length
  | [], [] => rfl
  | [], _ :: _ => by simp [zipD]
  | _ :: _, [] => by simp [zipD]
  | d :: ds, e :: es => by
    rw [zipD, List.length_cons, List.length_cons, List.length_cons, zipD_len ds es]
    omega
theorem zipD_get : ∀ (ds es : List PyData) (i : Nat) (d : PyData), (zipD ds es)[i]? = some d → ∃ x y, ds[i]? = some x ∧ es[i]? = some y ∧ d = .tuple [x, y]
  | [], [], i, d, h => by simp [zipD] at h
  | [], _ :: _, i, d, h => by simp [zipD] at h
  | _ :: _, [], i, d, h => by simp [zipD] at h
  | x :: ds, y :: es, 0, d, h => by
    simp [zipD] at h
    exact ⟨x, y, rfl, rfl, h.symm⟩
  | x :: ds, y :: es, i + 1, d, h => by
    rw [zipD, List.getElem?_cons_succ] at h
    obtain ⟨u, v, h1, h2, h3⟩ := zipD_get ds es i d h
    exact ⟨u, v, by simpa using h1, by simpa using h2, h3⟩
theorem wk_zipL {a b : Addr} {xs ys : List V} {ds es : List PyData} {S : Addr → Prop} : Wk K (Itz K a b) (fun H => (SqL K H a xs ∧ RpA K S H ds xs) ∧ SqL K H b ys ∧ RpA K S H es ys) S (zipD ds es) where
  go := fun i H g l => by
    rw [zipD_len] at l
    exact ⟨xs, ys, xs[i]'(by rw [g.1.2.length]; omega), ys[i]'(by rw [g.2.2.length]; omega), g.1.1, g.2.1, by rw [List.getElem?_eq_getElem], by rw [List.getElem?_eq_getElem]⟩
  yld := fun i H d x H' g e y => by
    obtain ⟨T, x', y', rfl, hT, rfl, hx, hy⟩ := y
    obtain ⟨u, v, h1, h2, rfl⟩ := zipD_get ds es i d e
    exact ⟨same_new hT, pair_rp hT (g.1.2.at h1 (hx xs g.1.1)) (g.2.2.at h2 (hy ys g.2.1))⟩
  stop := fun i H g l => ⟨xs, ys, g.1.1, g.2.1, by rw [g.1.2.length, g.2.2.length]; rw [zipD_len] at l; omega⟩
theorem wk_zipT {a b : Addr} {xs ys : List V} {ds es : List PyData} {S : Addr → Prop} : Wk K (RZ.ItzT K a b) (fun H => (H a = some (.tup xs) ∧ RpA K S H ds xs) ∧ H b = some (.tup ys) ∧ RpA K S H es ys) S (zipD ds es) where
  go := fun i H g l => by
    rw [zipD_len] at l
    exact ⟨xs, ys, xs[i]'(by rw [g.1.2.length]; omega), ys[i]'(by rw [g.2.2.length]; omega), live_t g.1.1, live_t g.2.1, by rw [List.getElem?_eq_getElem], by rw [List.getElem?_eq_getElem]⟩
  yld := fun i H d x H' g e y => by
    obtain ⟨T, x', y', rfl, hT, rfl, hx, hy⟩ := y
    obtain ⟨u, v, h1, h2, rfl⟩ := zipD_get ds es i d e
    exact ⟨same_new hT, pair_rp hT (g.1.2.at h1 (hx xs (live_t g.1.1))) (g.2.2.at h2 (hy ys (live_t g.2.1)))⟩
  stop := fun i H g l => ⟨xs, ys, live_t g.1.1, live_t g.2.1, by rw [g.1.2.length, g.2.2.length]; rw [zipD_len] at l; omega⟩
def iZp (fa : En → Option (List PyData)) : En → Option (List PyData) := fun env => match fa env with
  | some [.list ds, .list es] => some (zipD ds es)
  | some [.tuple ds, .tuple es] => some (zipD ds es)
  | _ => none
theorem ci_zip {fa : En → Option (List PyData)} (h : PI X tg iter (RZ.iZipA X.K (tA X.K true fa))) : PI X tg iter (tI X.K true (iZp fa)) := pi_w h fun σ H R ⟨S0, H0, A, env, ds, E, hf, q⟩ => by
  unfold iZp at hf
  split at hf
  · rename_i es fs hd
    cases hf
    refine ⟨S0, H0, A, env, _, E, hd, fun vs H1 s r => ?_⟩
    obtain ⟨v, u, rfl, r1, r2⟩ := r.two
    rw [Rp] at r1 r2
    obtain ⟨a, xs, rfl, hs, ra⟩ := r1
    obtain ⟨b, ys, rfl, ht, rb⟩ := r2
    have ra' : RpA X.K (Cl S0 H0 A) H1 es xs := ra.wide fun _ z => cl_sc z
    have rb' : RpA X.K (Cl S0 H0 A) H1 fs ys := rb.wide fun _ z => cl_sc z
    exact ⟨a, b, xs, ys, rfl, .inl ⟨hs.sq, ht.sq, q _ H1 _ s (fun H2 s2 => ⟨⟨s2.seq hs.sq, ra'.sm s2⟩, s2.seq ht.sq, rb'.sm s2⟩)
      (fun _ H2 f2 => ⟨⟨hs.imp (fun z => fr_rd f2 (cl_sc z.1).2 z.2) id, ra'.fr (E.grow s) f2 fun _ z => z.2⟩, ht.imp (fun z => fr_rd f2 (cl_sc z.1).2 z.2) id, rb'.fr (E.grow s) f2 fun _ z => z.2⟩) wk_zipL⟩⟩
  · rename_i es fs hd
    cases hf
    refine ⟨S0, H0, A, env, _, E, hd, fun vs H1 s r => ?_⟩
    obtain ⟨v, u, rfl, r1, r2⟩ := r.two
    rw [Rp] at r1 r2
    obtain ⟨a, xs, rfl, hs, ra⟩ := r1
    obtain ⟨b, ys, rfl, ht, rb⟩ := r2
    have ra' : RpA X.K (Cl S0 H0 A) H1 es xs := ra.wide fun _ z => cl_sc z
    have rb' : RpA X.K (Cl S0 H0 A) H1 fs ys := rb.wide fun _ z => cl_sc z
    exact ⟨a, b, xs, ys, rfl, .inr ⟨live_t hs, live_t ht, q _ H1 _ s (fun H2 s2 => ⟨⟨same_t s2 hs, ra'.sm s2⟩, same_t s2 ht, rb'.sm s2⟩)
      (fun _ H2 f2 => ⟨⟨fr_t (E.grow s) f2 hs, ra'.fr (E.grow s) f2 fun _ z => z.2⟩, fr_t (E.grow s) f2 ht, rb'.fr (E.grow s) f2 fun _ z => z.2⟩) wk_zipT⟩⟩
  · cases hf
end

/-! ### tuple * int, [x] * int, constants of the module -/
theorem mul_form (l : Addr) (u : Tok) : ∃ (X : Int → Sem PySem.Fin) (Z : Int → Array Value → Sem PySem.Fin), Builtin.«tuple.__mul__» { pos := [Value.ref l, Value.int 1 u] } =
    (asIndex (Value.int 1 u) >>= fun n => if (decide (n < -2 ^ 63) || decide (n ≥ 2 ^ 63)) = true then X n else
      (Builtin.Tuple.tupleItemsOf (Value.ref l) >>= fun xs => if (xs.isEmpty || n == 1) = true then (Builtin.Tuple.tupleIsExact (Value.ref l) >>= fun b => if b = true then (rule "tuple.repeat.same-object" >>= fun _ => ret (Value.ref l)) else Z n xs) else Z n xs)) := ⟨_, _, rfl⟩
theorem tuple_mul1 (l : Addr) (items : Array Value) (n : Nat) (dd : Option Addr) (sl : Array (Option Value)) (u : Tok) :
    Meets (Builtin.«tuple.__mul__» { pos := [Value.ref l, Value.int 1 u] }) fun x_1 R s =>
      s.heap.get? l = some { cls := Value.type "tuple", dict := dd, data := Data.seq items n, slots := sl } ∧ R (Except.ok (Flow.ret (Value.ref l))) s := by
  refine Meets.of_wp fun prog w A R s h => ?_
  obtain ⟨hp, g, d, tk, os⟩ := s
  obtain ⟨hl, h⟩ := h
  obtain ⟨X, Z, e⟩ := mul_form l u
  rw [e]
  refine wpAny_bind (wpAny_bind (wpAny_pure (wpAny_pure ?_)))
  refine wpAny_ite_false rfl ?_
  refine wpAny_bind (wpAny_bind (wpAny_bind (wpAny_load' hl (wpAny_pure (wpAny_pure ?_)))))
  refine wpAny_ite_true (by simp) ?_
  exact wpAny_bind (wpAny_bind (wpAny_bind (wpAny_loadPart' hl (wpAny_pure (wpAny_pure (wpAny_ite_true rfl (wpAny_bind (wpAny_rule (wpAny_pure ⟨_, rfl, h⟩)))))))))
def rRep1 (K : PySem.W.Frag) : R2 := fun x y H Q => ∃ l xs, x = .ref l ∧ y = .int 1 ∧ SqT K H l xs ∧ Q (.ref l) H
theorem op_rep1 {X : Cx} : OpR X (binaryOp .Mult) (rRep1 X.K) := by
  intro pins s σ H x y v u Q I rx ry h
  obtain ⟨l, xs, rfl, rfl, hT, q⟩ := h
  cases rx
  obtain ⟨t, rfl⟩ := ry
  obtain ⟨its, r, ⟨⟨c, dd, dt, sl⟩, ho, hc, n, hd⟩, hs⟩ := I.tuple hT
  dsimp only at hc hd
  subst hc
  subst hd
  exact wpAny_binaryOp_repeat_ref (by decide) ⟨_, ho, rfl⟩ (fun s' => typeIs_int s' 1 t) noFill_tuple_mul F.fills_int_mul F.slot_int_rmul repeat_tuple F.slot_int_index.lookup
    (call_meets F.slot_int_rmul (typeIs_int s 1 t) F.entry_int_rmul (F.args_int_rmul_2 (Value.int 1 t) (Value.ref l)) (int_rmul_tuple 1 t l its.toArray n dd sl)
      ⟨ho, rfl, ⟨_, ho, rfl⟩, call_meets F.slot_tuple_mul ⟨_, ho, rfl⟩ F.entry_tuple_mul (F.args_tuple_mul_2 (Value.ref l) (Value.int 1 t)) (tuple_mul1 l its.toArray n dd sl t) ⟨ho, ⟨.ref l, H, I, rfl, q⟩⟩⟩)

def rTm (K : PySem.W.Frag) : R2 := fun x y H Q => rRep1 K x y H Q ∨ rRepT K x y H Q
theorem op_tm {X : Cx} : OpR X (binaryOp .Mult) (rTm X.K) := by
  intro pins s σ H x y v u Q I rx ry h
  rcases h with h | h
  · exact op_rep1 pins s σ H x y v u Q I rx ry h
  · exact op_repT pins s σ H x y v u Q I rx ry h
def tmulD : PyData → PyData → Option PyData
  | .tuple ds, .int k => if k = 1 then some (.tuple ds) else if ds ≠ [] ∧ (2 ≤ k ∧ k ≤ 1000) ∧ ds.length ≤ 1000 then some (.tuple (List.replicate k.toNat ds).flatten) else none
  | _, _ => none
theorem RpA.rep {K : PySem.W.Frag} {S : Addr → Prop} {H : Hp} {ds : List PyData} {vs : List V} (h : RpA K S H ds vs) : ∀ n : Nat, RpA K S H (List.replicate n ds).flatten (List.replicate n vs).flatten
  | 0 => RpA.nil
  | n + 1 => by
    rw [List.replicate_succ, List.replicate_succ, List.flatten_cons, List.flatten_cons]
    exact h.append (RpA.rep h n)
theorem r2_tm {K : PySem.W.Frag} : R2Ok K false (rTm K) tmulD := by
  intro S S' H x y dx dy d Q hn hS rx ry h q
  have hS' : S' = S := hS.elim (fun z => nomatch z) id
  subst hS'
  cases dx with
  | tuple ds =>
   cases dy with
   | int k =>
    change (if k = 1 then some (.tuple ds) else if ds ≠ [] ∧ (2 ≤ k ∧ k ≤ 1000) ∧ ds.length ≤ 1000 then some (.tuple (List.replicate k.toNat ds).flatten) else none) = some d at h
    have rx0 := rx
    have ry1 : y = V.int k := by rw [Rp] at ry; exact ry
    have rx1 : ∃ a xs, x = .ref a ∧ H a = some (.tup xs) ∧ RpA K S' H ds xs := by rw [Rp] at rx; exact rx
    obtain ⟨a, xs, rfl, hs, ra⟩ := rx1
    subst ry1
    split at h
    · rename_i hk
      cases h
      subst hk
      exact .inl ⟨a, xs, rfl, rfl, live_t hs, q _ H (Same.refl H) rx0⟩
    · split at h
      · rename_i hc
        cases h
        refine .inr ⟨a, k, xs, rfl, rfl, live_t hs, fun e => hc.1 (List.eq_nil_of_length_eq_zero (by rw [← ra.length, e]; rfl)), hc.2.1.1, hc.2.1.2, by rw [ra.length]; exact hc.2.2, fun p hp => ?_⟩
        refine q _ _ (same_new hp) ?_
        rw [Rp]
        exact ⟨p, _, rfl, upd_same, (ra.rep _).grow (same_new hp)⟩
      · cases h
   | _ => cases h
  | _ => cases h
section
variable {X : Cx} {a b : Expr} {pos : Pos} {c : Bool} {f g : En → Option PyData}
theorem ce_tmul (ha : PE X a (tE X.K c f)) (hb : PE X b (tE X.K c g)) : PE X (.BinOp a .Mult b pos) (tE X.K c (e2 tmulD f g)) := ce_op op_tm r2_tm ha hb
def fRep (ff : En → Option (List PyData)) (g : En → Option PyData) : En → Option (List PyData) := fun env => match ff env with
  | some ds => match g env with
    | some (.int k) => if (-1000000 ≤ k ∧ k ≤ 1000000) ∧ ds.length * k.toNat ≤ 1000000 then some (List.replicate k.toNat ds).flatten else none
    | _ => none
  | none => none
theorem cf_rep {ff : En → Option (List PyData)} (ha : PE X a (tF X.K c ff)) (hb : PE X b (tE X.K true g)) : PE X (.BinOp a .Mult b pos) (tF X.K c (fRep ff g)) := pe_w (pe_op op_rep ha hb) fun σ H Q ⟨S0, H0, A, env, d, E, hf, q⟩ => by
  unfold fRep at hf
  split at hf
  · rename_i ds h1
    split at hf
    · rename_i k h2
      split at hf
      · rename_i hl
        cases hf
        refine ⟨S0, H0, A, env, _, E, h1, fun l us H1 hl1 s1 hl2 r1 => ⟨S0, H0, A, env, _, E.grow s1, h2, fun u H2 s2 r2 => ?_⟩⟩
        rw [Rp] at r2
        subst r2
        refine ⟨l, k, us, rfl, rfl, s2 _ _ hl2, by omega, by omega, by rw [r1.length]; exact sz6 hl.2, fun p hp => q p _ _ ((s1.trans s2).free hp) ((s1.trans s2).trans (same_new hp)) upd_same ?_⟩
        exact (((r1.rep _).grow s2).wide fun _ z => z.1).apart hp (same_new hp)
      · cases hf
    · cases hf
  · cases hf
end
end Mir

namespace Mir
open PySem PySem.Spec PyProof.Rows L2
/-! ### in over a tuple of plain values -/
def flatD : PyData → Bool
  | .none => true
  | .bool _ => true
  | .int _ => true
  | .str _ => true
  | _ => false
theorem flatD_rp {K : PySem.W.Frag} {S : Addr → Prop} {H : Hp} {d : PyData} {v : V} (h : flatD d = true) (r : Rp K S H d v) : flatV v = true := by
  cases d with
  | none => rw [Rp] at r; subst r; rfl
  | bool _ => rw [Rp] at r; subst r; rfl
  | int _ => rw [Rp] at r; subst r; rfl
  | str _ => rw [Rp] at r; subst r; rfl
  | list _ => cases h
  | tuple _ => cases h
  | dict _ => cases h
theorem eqD_V {K : PySem.W.Frag} {S : Addr → Prop} {H : Hp} {d e : PyData} {v u : V} (h : flatD d = true) (h' : flatD e = true) (r : Rp K S H d v) (r' : Rp K S H e u) : eqV v u = PyData.eqv d e := by
  cases d <;> cases e <;> first | (cases h; done) | (cases h'; done) | (rw [Rp] at r; rw [Rp] at r'; subst r; subst r'; simp [eqV, PyData.eqv])
theorem allflat_rp {K : PySem.W.Frag} {S : Addr → Prop} {H : Hp} : ∀ {ds : List PyData} {vs : List V}, ds.all flatD = true → RpA K S H ds vs → vs.all flatV = true
  | [], _, _, r => by rw [RpA] at r; subst r; rfl
  | d :: ds, _, h, r => by
    rw [RpA] at r
    obtain ⟨v, r', rfl, h1, h2⟩ := r
    rw [List.all_cons, Bool.and_eq_true] at h
    rw [List.all_cons, flatD_rp h.1 h1, allflat_rp h.2 h2]; rfl
theorem inV_rp {K : PySem.W.Frag} {S : Addr → Prop} {H : Hp} {x : PyData} {u : V} (hx : flatD x = true) (rx : Rp K S H x u) : ∀ {ds : List PyData} {vs : List V}, ds.all flatD = true → RpA K S H ds vs → inV u vs = ds.any fun z => PyData.eqv z x
  | [], _, _, r => by rw [RpA] at r; subst r; rfl
  | d :: ds, _, h, r => by
    rw [RpA] at r
    obtain ⟨v, r', rfl, h1, h2⟩ := r
    rw [List.all_cons, Bool.and_eq_true] at h
    have ih := inV_rp hx rx h.2 h2
    unfold inV at ih ⊢
    rw [List.any_cons, List.any_cons, ih, eqD_V h.1 hx h1 rx]
def inT (x : PyData) : PyData → Option PyData
  | .list ds => if (SeqAt.shaped x && SeqAt.shaped (.list ds)) = true then some (.bool (ds.any fun z => PyData.eqv z x)) else none
  | .tuple ds => if (flatD x && ds.all flatD) = true then some (.bool (ds.any fun z => PyData.eqv z x)) else none
  | _ => none
def notInT (x y : PyData) : Option PyData := match inT x y with
  | some (.bool b) => some (.bool (!b))
  | _ => none
theorem r2_inT {K : PySem.W.Frag} : R2Ok K true (fun x y H Q => rInD K x y H Q ∨ rIn K false x y H Q) inT := by
  intro S S' H x y dx dy d Q hn hS rx ry h q
  unfold inT at h
  split at h
  · split at h
    · rename_i hs
      rw [Bool.and_eq_true] at hs
      cases h
      exact .inl ⟨_, _, rx.dp hs.1, ry.dp hs.2, hs.1, hs.2, q _ H (Same.refl H) rpb⟩
    · cases h
  · split at h
    · rename_i hs
      rw [Bool.and_eq_true] at hs
      cases h
      rw [Rp] at ry
      obtain ⟨a, xs, rfl, ht, ra⟩ := ry
      refine .inr ⟨a, xs, rfl, .inr (live_t ht), flatD_rp hs.1 rx, allflat_rp hs.2 ra, ?_⟩
      show Q (.bl (inV x xs)) H
      rw [inV_rp hs.1 rx hs.2 ra]
      exact q _ H (Same.refl H) rpb
    · cases h
  · cases h
theorem r2_notInT {K : PySem.W.Frag} : R2Ok K true (fun x y H Q => rNotInD K x y H Q ∨ rIn K true x y H Q) notInT := by
  intro S S' H x y dx dy d Q hn hS rx ry h q
  unfold notInT inT at h
  split at h
  · rename_i b hb
    split at hb
    · split at hb
      · rename_i hs
        rw [Bool.and_eq_true] at hs
        cases hb
        cases h
        exact .inl ⟨_, _, rx.dp hs.1, ry.dp hs.2, hs.1, hs.2, q _ H (Same.refl H) rpb⟩
      · cases hb
    · split at hb
      · rename_i hs
        rw [Bool.and_eq_true] at hs
        cases hb
        cases h
        rw [Rp] at ry
        obtain ⟨a, xs, rfl, ht, ra⟩ := ry
        refine .inr ⟨a, xs, rfl, .inr (live_t ht), flatD_rp hs.1 rx, allflat_rp hs.2 ra, ?_⟩
        show Q (.bl (!inV x xs)) H
        rw [inV_rp hs.1 rx hs.2 ra]
        exact q _ H (Same.refl H) rpb
      · cases hb
    · cases hb
  · cases h
theorem op_inT {X : Cx} (hu : X.A.units + 65 < cLine) : OpR X (compareOp .In) (fun x y H Q => rInD X.K x y H Q ∨ rIn X.K false x y H Q) := OpR.or (op_inD hu) op_in_seq
theorem op_notInT {X : Cx} (hu : X.A.units + 65 < cLine) : OpR X (compareOp .NotIn) (fun x y H Q => rNotInD X.K x y H Q ∨ rIn X.K true x y H Q) := OpR.or (op_notInD hu) op_notIn_seq

/-! ### x[::k], k 1 or -1 -/
theorem places_back (n : Nat) : Builtin.Slice.slicePlaces ((n : Int) - 1) (-1) (-1) = n := by
  unfold Builtin.Slice.slicePlaces
  have h1 : ¬ ((-1 : Int) > 0) := by omega
  rw [if_neg h1, show (-(-1) : Int) = 1 from rfl]
  split <;> omega
theorem pick_back (xs : Array Value) : ((List.range xs.size).filterMap fun (m : Nat) => xs[((xs.size : Int) - 1 + (m : Int) * (-1)).toNat]?).toArray = xs.toList.reverse.toArray := by
  have e : ∀ m ∈ List.range xs.size, xs[((xs.size : Int) - 1 + (m : Int) * (-1)).toNat]? = xs.toList.reverse[m]? := fun m hm => by
    have hm' := List.mem_range.mp hm
    rw [show ((xs.size : Int) - 1 + (m : Int) * (-1)).toNat = xs.size - 1 - m by omega, List.getElem?_reverse (by rw [Array.length_toList]; exact hm'), Array.length_toList, Array.getElem?_toList]
  congr 1
  have fc : ∀ (l : List Nat), (∀ m ∈ l, xs[((xs.size : Int) - 1 + (m : Int) * (-1)).toNat]? = xs.toList.reverse[m]?) → (l.filterMap fun (m : Nat) => xs[((xs.size : Int) - 1 + (m : Int) * (-1)).toNat]?) = l.filterMap (xs.toList.reverse[·]?) := fun l => by
    induction l with
    | nil => intro _; rfl
    | cons a l ih =>
      intro h
      rw [List.filterMap_cons, List.filterMap_cons, ih fun m hm => h m (List.mem_cons_of_mem _ hm), h a List.mem_cons_self]
  rw [fc _ e]
  have q : ∀ (l : List Value) (k : Nat), k ≤ l.length → (List.range k).filterMap (l[·]?) = l.take k := fun l k => by
    induction k with
    | zero => intro _; rfl
    | succ k ih =>
      intro h
      rw [List.range_succ, List.filterMap_append, ih (by omega), List.take_succ]
      simp [List.getElem?_eq_getElem (show k < l.length by omega)]
  rw [q _ _ (by simp), List.take_of_length_le (by simp)]
section
variable {prog : Program} {w : World} {A : Around} {E : Value → Shared → Prop} {s : Shared}
theorem tup_back {t sl : Addr} {items : Array Value} {vs : Value} {Q : Value → Shared → Prop} (ht : IsTup s.heap t items) (hs : s.heap.IsSliceOf sl .none .none vs) (ps : IsPart vs (some (-1))) (hz : items.size ≤ sizeLine)
    (h : Q (.ref s.heap.objs.size) { s with heap := s.heap.push { cls := .type "tuple", data := .seq items.toList.reverse.toArray } }) : wpAny (model prog w) A (getItem (.ref t) (.ref sl)) Q E s := by
  have hk : sizeOk (.seq items.toList.reverse.toArray) := by
    show items.toList.reverse.toArray.size ≤ sizeLine
    simpa using hz
  obtain ⟨os, hos, hcs, hds⟩ := hs
  have hT : s.TypeIs (.ref sl) "slice" := ⟨os, hos, hcs⟩
  unfold getItem
  first | with_reducible refine wpAny_holding ?_ | skip
  first | refine wpAny_bind (wpAny_pure ?_) | skip
  refine wpAny_bind (wpAny_sequenceKey ht.typeIs (by decide) (wpAny_bind (wpAny_callSpecial?_slot (name := Str.ofString "__getitem__") ht.typeIs PyProof.Rows.slot_tuple_getitem (wpAny_call_entry PyProof.Rows.slot_tuple_getitem ht.typeIs entry_tuple_getitem ?_ (args_tuple_getitem _ _)))))
  show wpAny _ _ (Builtin.Tuple.tupleItemsOf (.ref t) >>= _) _ _ s
  refine wpAny_bind (tupleItemsOf_ ht (wpAny_bind (wpAny_typeOf hT ?_)))
  rw [if_pos (show (Value.type "slice" == Value.type "slice") = true from by decide)]
  refine wpAny_bind ?_
  unfold Builtin.Slice.sliceApplied Builtin.Slice.sliceFields
  refine wpAny_bind (wpAny_bind (wpAny_field hos hds (x := .none) rfl (wpAny_bind (wpAny_field hos hds (x := .none) rfl (wpAny_bind (wpAny_field hos hds (x := vs) rfl (wpAny_pure ?_)))))))
  refine wpAny_bind (HT.slicePart_ ps ?_)
  show wpAny _ _ (if ((-1 : Int) == 0) = true then _ else _) _ _ s
  rw [if_neg (show ¬ (((-1 : Int) == 0) = true) by decide)]
  refine wpAny_bind (HT.slicePart_ .none (wpAny_bind (HT.slicePart_ .none (wpAny_bind (wpAny_pure ?_)))))
  have e : Builtin.Slice.sliceAdjust none none (-1) (items.size : Int) = ((items.size : Int) - 1, -1) := rfl
  show wpAny _ _ (match Builtin.Slice.sliceAdjust none none (-1) (items.size : Int) with | (lo, hi) => pure (lo, (-1 : Int), Builtin.Slice.slicePlaces lo hi (-1))) _ _ s
  rw [e]
  show wpAny _ _ (pure ((items.size : Int) - 1, (-1 : Int), Builtin.Slice.slicePlaces ((items.size : Int) - 1) (-1) (-1))) _ _ s
  rw [places_back]
  refine wpAny_pure ?_
  have hno : ¬ (((items.size : Int) - 1 == 0 && (-1 : Int) == 1 && items.size == items.size) = true) := by
    rw [show ((-1 : Int) == 1) = false from rfl, Bool.and_false, Bool.false_and]
    exact Bool.false_ne_true
  show wpAny _ _ (if ((items.size : Int) - 1 == 0 && (-1 : Int) == 1 && items.size == items.size) = true then _ else _) _ _ s
  rw [if_neg hno, pick_back]
  first
    | exact wpAny_bind (m := Builtin.Tuple.tupleExact _) (wpAny_newObj_type (wpAny_pure ⟨_, rfl, wpAny_pure h⟩) hk)
    | exact wpAny_bind (wpAny_bind (m := Builtin.Tuple.tupleExact _) (wpAny_newObj_type (wpAny_pure (wpAny_pure ⟨_, rfl, wpAny_pure h⟩)) hk))
    | exact wpAny_bind (wpAny_bind (m := Builtin.Tuple.tupleExact _) (wpAny_newObj_type (wpAny_pure ⟨_, rfl, wpAny_pure h⟩) hk))
theorem tup_fwd {t sl : Addr} {items : Array Value} {vs : Value} {Q : Value → Shared → Prop} (ht : IsTup s.heap t items) (hs : s.heap.IsSliceOf sl .none .none vs) (ps : IsPart vs (some 1)) (h : Q (.ref t) s) : wpAny (model prog w) A (getItem (.ref t) (.ref sl)) Q E s := by
  obtain ⟨os, hos, hcs, hds⟩ := hs
  have hT : s.TypeIs (.ref sl) "slice" := ⟨os, hos, hcs⟩
  unfold getItem
  first | with_reducible refine wpAny_holding ?_ | skip
  first | refine wpAny_bind (wpAny_pure ?_) | skip
  refine wpAny_bind (wpAny_sequenceKey ht.typeIs (by decide) (wpAny_bind (wpAny_callSpecial?_slot (name := Str.ofString "__getitem__") ht.typeIs PyProof.Rows.slot_tuple_getitem (wpAny_call_entry PyProof.Rows.slot_tuple_getitem ht.typeIs entry_tuple_getitem ?_ (args_tuple_getitem _ _)))))
  show wpAny _ _ (Builtin.Tuple.tupleItemsOf (.ref t) >>= _) _ _ s
  refine wpAny_bind (tupleItemsOf_ ht (wpAny_bind (wpAny_typeOf hT ?_)))
  rw [if_pos (show (Value.type "slice" == Value.type "slice") = true from by decide)]
  refine wpAny_bind ?_
  unfold Builtin.Slice.sliceApplied Builtin.Slice.sliceFields
  refine wpAny_bind (wpAny_bind (wpAny_field hos hds (x := .none) rfl (wpAny_bind (wpAny_field hos hds (x := .none) rfl (wpAny_bind (wpAny_field hos hds (x := vs) rfl (wpAny_pure ?_)))))))
  refine wpAny_bind (HT.slicePart_ ps ?_)
  show wpAny _ _ (if ((1 : Int) == 0) = true then _ else _) _ _ s
  rw [if_neg (show ¬ (((1 : Int) == 0) = true) by decide)]
  refine wpAny_bind (HT.slicePart_ .none (wpAny_bind (HT.slicePart_ .none (wpAny_bind (wpAny_pure ?_)))))
  have e : Builtin.Slice.sliceAdjust none none 1 (items.size : Int) = (0, (items.size : Int)) := rfl
  show wpAny _ _ (match Builtin.Slice.sliceAdjust none none 1 (items.size : Int) with | (lo, hi) => pure (lo, (1 : Int), Builtin.Slice.slicePlaces lo hi 1)) _ _ s
  rw [e]
  show wpAny _ _ (pure ((0 : Int), (1 : Int), Builtin.Slice.slicePlaces ((0 : Nat) : Int) (items.size : Int) 1)) _ _ s
  rw [HT.places_gen, Nat.sub_zero]
  refine wpAny_pure ?_
  have hy : (((0 : Int) == 0 && (1 : Int) == 1 && items.size == items.size) = true) := by simp
  show wpAny _ _ (if ((0 : Int) == 0 && (1 : Int) == 1 && items.size == items.size) = true then _ else _) _ _ s
  rw [if_pos hy]
  refine wpAny_bind ?_
  show wpAny _ _ (typeOf (.ref t) >>= fun T => pure (T == .type "tuple")) _ _ s
  refine wpAny_bind (wpAny_typeOf ht.typeIs (wpAny_pure ?_))
  first | rw [if_pos (show (Value.type "tuple" == Value.type "tuple") = true from by decide)] | simp only [beq_self_eq_true, if_true]
  first
    | exact wpAny_bind (wpAny_rule (wpAny_pure ⟨_, rfl, wpAny_pure h⟩))
    | exact wpAny_bind (wpAny_rule (wpAny_bind (wpAny_pure (wpAny_pure ⟨_, rfl, wpAny_pure h⟩))))
end
def tRevS (K : PySem.W.Frag) (te : TE) (ts : TO) : TE := fun σ H Q => te σ H fun x H1 => ts σ H1 fun o H2 => ∃ a xs, x = .ref a ∧
  ((o = some (-1) ∧ ((SqL K H2 a xs ∧ ∀ p, H2 p = none → Q (.ref p) (upd H2 p (.lst xs.reverse))) ∨ (SqT K H2 a xs ∧ ∀ p, H2 p = none → Q (.ref p) (upd H2 p (.tup xs.reverse))))) ∨
   (o = some 1 ∧ SqT K H2 a xs ∧ Q (.ref a) H2))
section
variable {X : Cx} {e st : Expr} {te : TE} {ts : TO} {p3 pos : Pos} {c c1 : Bool} {f g : En → Option PyData}
theorem pe_revS (he : PE X e te) (hst : PO X (some st) ts) (hq : ∀ a b, subscripted (.Slice none none (some st) p3) false a b = operate [a, b] (getItem a b) := by intro a b; with_unfolding_all rfl) : PE X (.Subscript e (.Slice none none (some st) p3) pos) (tRevS X.K te ts) := by
  refine ⟨fun pins s σ H Q I h => Subscript_ (thn (he.run pins s σ H _ I h) fun v s1 ⟨x, H1, I1, r1, q1⟩ => ?_)⟩
  refine wpAny_Slice (thn (po_none.run pins s1 σ H1 (fun o H2 => o = none ∧ H2 = H1) I1 ⟨rfl, rfl⟩) fun vl s2 ⟨l, H2, I2, pl, el, e2⟩ => ?_)
  subst el e2
  refine thn (po_none.run pins s2 σ H2 (fun o H3 => o = none ∧ H3 = H2) I2 ⟨rfl, rfl⟩) fun vu s3 ⟨u, H3, I3, pu, eu, e3⟩ => ?_
  subst eu e3
  refine thn (hst.run pins s3 σ H3 _ I3 q1) fun vs s4 ⟨o, H4, I4, ps, a, xs, ex, q⟩ => ?_
  subst ex
  cases r1
  cases pl
  cases pu
  have I5 : Inv X pins σ H4 { s4 with heap := s4.heap.push { cls := .type "slice", data := .fields #[.none, .none, vs] } } := I4.kept (t' := s4.toks) fun b ob q => Heap.get?_push_of_some _ q
  show wpAny (model X.prog X.w) X.A (subscriptTail e (.Slice none none (some st) p3) (.ref a) (.ref s4.heap.objs.size)) (EP X pins σ Q) X.xe { s4 with heap := s4.heap.push { cls := .type "slice", data := .fields #[.none, .none, vs] } }
  rcases q with ⟨rfl, q⟩ | ⟨rfl, hx, q⟩
  · rcases q with ⟨hx, q⟩ | ⟨hx, q⟩
    · obtain ⟨its, r, ht, hz⟩ := I5.list hx
      have hlen := r.length
      refine tail_any (ops := [.ref a, .ref s4.heap.objs.size]) ht.isList.typeIs (PySem.slot_list_getitem.lookup) ?_ (hq _ _)
      refine wpAny_getItem_list_slice ht.isList (Heap.IsSliceOf.new _ _ _ vs) .none .none ps (by decide) ?_ (by rw [List.size_toArray]; omega)
      rw [PySem.W.krv_pick]
      exact ⟨.ref _, _, I5.laid (t' := s4.toks) (o := .lst xs.reverse) (fun b ob q => Heap.get?_push_of_some _ q) (Nat.le_refl _) ⟨by rw [List.length_reverse]; exact hz, _, 0, r.reverse, Heap.get?_push_size _ rfl⟩, rfl, q _ (I5.hok.fresh (Nat.le_refl _))⟩
    · obtain ⟨its, r, ht, hz⟩ := I5.tuple hx
      have hlen : its.toArray.size = xs.length := by rw [List.size_toArray]; exact r.length.symm
      refine tail_any (ops := [.ref a, .ref s4.heap.objs.size]) ht.typeIs (PyProof.Rows.slot_tuple_getitem.lookup) ?_ (hq _ _)
      refine tup_back ht (Heap.IsSliceOf.new _ _ _ vs) ps (by rw [hlen]; exact hz) ?_
      exact ⟨.ref _, _, I5.laid (t' := s4.toks) (o := .tup xs.reverse) (fun b ob q => Heap.get?_push_of_some _ q) (Nat.le_refl _) ⟨by rw [List.length_reverse]; exact hz, _, r.reverse, IsTup.new _ _⟩, rfl, q _ (I5.hok.fresh (Nat.le_refl _))⟩
  · obtain ⟨its, r, ht, hz⟩ := I5.tuple hx
    refine tail_any (ops := [.ref a, .ref s4.heap.objs.size]) ht.typeIs (PyProof.Rows.slot_tuple_getitem.lookup) ?_ (hq _ _)
    exact tup_fwd ht (Heap.IsSliceOf.new _ _ _ vs) ps ⟨.ref a, _, I5, rfl, q⟩
theorem RpA.reverse {K : PySem.W.Frag} {S : Addr → Prop} {H : Hp} : ∀ {ds : List PyData} {vs : List V}, RpA K S H ds vs → RpA K S H ds.reverse vs.reverse
  | [], _, r => by rw [RpA] at r; subst r; exact RpA.nil
  | d :: ds, _, r => by
    rw [RpA] at r
    obtain ⟨v, r', rfl, h1, h2⟩ := r
    rw [List.reverse_cons, List.reverse_cons]
    exact RpA.append (RpA.reverse h2) (RpA.cons h1 RpA.nil)
def revD (k : Int) : PyData → Option PyData
  | .tuple ds => if k = -1 then some (.tuple ds.reverse) else if k = 1 then some (.tuple ds) else none
  | .list ds => if k = -1 then some (.list ds.reverse) else none
  | _ => none
def eRev (f g : En → Option PyData) : En → Option PyData := fun env => match f env with
  | some d => match g env with
    | some (.int k) => revD k d
    | _ => none
  | none => none
theorem ce_rev (he : PE X e (tE X.K c f)) (hst : PE X st (tE X.K c1 g)) (hq : ∀ a b, subscripted (.Slice none none (some st) p3) false a b = operate [a, b] (getItem a b) := by intro a b; with_unfolding_all rfl) : PE X (.Subscript e (.Slice none none (some st) p3) pos) (tE X.K c (eRev f g)) :=
  pe_w (pe_revS he (po_some hst) hq) fun σ H Q ⟨S0, H0, A, env, d, E, hf, q⟩ => by
    unfold eRev at hf
    split at hf
    · rename_i x hx
      split at hf
      · rename_i k hk
        refine ⟨S0, H0, A, env, x, E, hx, fun v H1 s1 r1 => ?_⟩
        refine ⟨S0, H0, A, env, _, E.grow s1, hk, fun u H2 s2 r2 => ?_⟩
        rw [Rp] at r2
        subst r2
        refine ⟨_, rfl, ?_⟩
        have E2 := E.grow (s1.trans s2)
        have s12 := s1.trans s2
        cases x with
        | tuple ds =>
          have r3 := r1.grow s2
          rw [Rp] at r3
          obtain ⟨a, xs, rfl, ht, ra⟩ := r3
          unfold revD at hf
          refine ⟨a, xs, rfl, ?_⟩
          by_cases h1 : k = -1
          · simp only [h1, if_true] at hf
            cases hf
            refine .inl ⟨by rw [h1], .inr ⟨live_t ht, fun p hp => q _ _ (s12.trans (same_new hp)) ?_⟩⟩
            rw [Rp]
            exact ⟨p, _, rfl, upd_same, (RpA.reverse ra).grow (same_new hp)⟩
          · by_cases h2 : k = 1
            · simp only [h1, h2, if_true, if_false] at hf
              have hf' : some (PyData.tuple ds) = some d := by simpa using hf
              cases hf'
              refine .inr ⟨by rw [h2], live_t ht, q _ _ s12 ?_⟩
              rw [Rp]
              exact ⟨a, xs, rfl, ht, ra⟩
            · simp only [h1, h2, if_false] at hf
              cases hf
        | list ds =>
          have r3 := r1.grow s2
          rw [Rp] at r3
          obtain ⟨a, xs, rfl, ht, ra⟩ := r3
          unfold revD at hf
          refine ⟨a, xs, rfl, ?_⟩
          by_cases h1 : k = -1
          · simp only [h1, if_true] at hf
            cases hf
            refine .inl ⟨by rw [h1], .inl ⟨ht.sq, fun p hp => q _ _ (s12.trans (same_new hp)) ?_⟩⟩
            rw [Rp]
            exact ⟨p, _, rfl, .inl ⟨sc_new E2 hp, .inl upd_same⟩, (RpA.reverse ra).grow (same_new hp)⟩
          · simp only [h1, if_false] at hf
            cases hf
        | none => cases hf
        | bool _ => cases hf
        | int _ => cases hf
        | str _ => cases hf
        | dict _ => cases hf
      · cases hf
    · cases hf
end
end Mir

namespace Mir
open PySem PySem.Spec PyProof.Rows L2
section
variable {X : Cx} {e a b : Expr} {st : Stmt} {sts : List Stmt} {pos : Pos} {c c1 c2 : Bool} {f g : En → Option PyData} {fa : En → Option (List PyData)} {s : En → Out}
/-! ### one reading or the other -/
theorem pe_or {t u : TE} (h1 : PE X e t) (h2 : PE X e u) : PE X e (fun σ H Q => t σ H Q ∨ u σ H Q) := ⟨fun pins s σ H Q I q => q.elim (h1.run pins s σ H Q I) (h2.run pins s σ H Q I)⟩
theorem ps_or {t u : TS} (h1 : PS X st t) (h2 : PS X st u) : PS X st (fun D σ H => t D σ H ∨ u D σ H) := ⟨fun pins s σ H D I q => q.elim (h1.run pins s σ H D I) (h2.run pins s σ H D I)⟩
theorem pi_or {tg : Expr} {t u : TI} (h1 : PI X tg e t) (h2 : PI X tg e u) : PI X tg e (fun σ H R => t σ H R ∨ u σ H R) := ⟨fun pins s σ H R I q => q.elim (h1.run pins s σ H R I) (h2.run pins s σ H R I)⟩
theorem ps_lockP {t : TS} (h : PS X st t) : PS X st (fun D σ H => ∃ d u, H d = some u ∧ Mut (some u) ∧ ∀ od, t D σ (upd H d (.frz od u))) := ⟨fun pins s σ H D I ⟨d, u, hd, mu, q⟩ => by
  obtain ⟨od, I1⟩ := I.lock hd mu
  exact h.run pins s σ _ D I1 (q od)⟩
theorem pss_lockP {t : TS} (h : PSs X sts t) : PSs X sts (fun D σ H => t D σ H ∨ ∃ d u, H d = some u ∧ Mut (some u) ∧ ∀ od, t D σ (upd H d (.frz od u))) := ⟨fun pins s σ H D I q => by
  rcases q with q | ⟨d, u, hd, mu, q⟩
  · exact h.run pins s σ H D I q
  · obtain ⟨od, I1⟩ := I.lock hd mu
    exact h.run pins s σ _ D I1 (q od)⟩
/-- a list or a dict of the slot i is let go -/
def frzD (i : Nat) (env : En) : En := match env[i]? with
  | some (.own ds) => env.set i (.val (.list ds))
  | some (.ownT kvs) => env.set i (.val (.dict kvs))
  | some (.ownK kvs) => env.set i (.val (.dict kvs))
  | _ => env
theorem frzD_run {K : PySem.W.Frag} {s : En → Out} {i : Nat} {D : Ends} {σ : L2.St} {H : Hp} (h : tS K (fun env => s (frzD i env)) D σ H) : tS K s D σ H ∨ ∃ d u, H d = some u ∧ Mut (some u) ∧ ∀ od, tS K s D σ (upd H d (.frz od u)) := by
  obtain ⟨S0, H0, A, env, E, o⟩ := h
  have o' : OutOk K S0 H0 A H (s (frzD i env)) D := o
  unfold frzD at o'
  split at o'
  · rename_i ds hi
    left
    obtain ⟨A', E', w⟩ := E.frz i
    have e : frz i env = env.set i (.val (.list ds)) := by
      unfold frz
      rw [hi]
    rw [e] at E'
    exact ⟨S0, H0, A', _, E', OutOk.step o' Fr.refl fun a z => .inl (w a z)⟩
  · rename_i kvs hi
    right
    rcases E.sl i _ hi with z | ⟨v, h1, a, ws, rfl, ha, hh, r⟩
    · cases z
    refine ⟨a, _, hh, trivial, fun od => ?_⟩
    obtain ⟨hL, hT, hD⟩ := E.upd_mono (u1 := .frz od (.dT ws)) ha
    have q : Rp K (Cl S0 H0 A) (upd H a (.frz od (.dT ws))) (.dict kvs) (.ref a) := by
      rw [Rp]
      exact ⟨a, od, rfl, .inl ⟨ws, upd_same, RpD.mono hL hT hD _ _ _ _ r⟩⟩
    refine ⟨S0, H0, _, _, E.lockD hi rfl h1 ha hh q, OutOk.step o' (fun b u z n => ?_) fun b z => .inl z.1⟩
    rw [upd_ne (fun y => n (by rw [y]; exact ha))]; exact z
  · rename_i kvs hi
    right
    rcases E.sl i _ hi with z | ⟨v, h1, a, ws, rfl, ha, hh, r⟩
    · cases z
    refine ⟨a, _, hh, trivial, fun od => ?_⟩
    obtain ⟨hL, hT, hD⟩ := E.upd_mono (u1 := .frz od (.dK ws)) ha
    have q : Rp K (Cl S0 H0 A) (upd H a (.frz od (.dK ws))) (.dict kvs) (.ref a) := by
      rw [Rp]
      exact ⟨a, od, rfl, .inr ⟨ws, upd_same, RpD.mono hL hT hD _ _ _ _ r⟩⟩
    refine ⟨S0, H0, _, _, E.lockD hi rfl h1 ha hh q, OutOk.step o' (fun b u z n => ?_) fun b z => .inl z.1⟩
    rw [upd_ne (fun y => n (by rw [y]; exact ha))]; exact z
  · exact .inl ⟨S0, H0, A, env, E, o'⟩
theorem cs_frzD {i : Nat} (h : PS X st (tS X.K s)) : PS X st (tS X.K fun env => s (frzD i env)) := ps_w (ps_or h (ps_lockP h)) fun D σ H q => frzD_run q
theorem css_frzD {i : Nat} (h : PSs X sts (tS X.K s)) : PSs X sts (tS X.K fun env => s (frzD i env)) := pss_w (pss_lockP h) fun D σ H q => frzD_run q
/-! ### dicts: new ones -/
def sNewT (i : Nat) : En → Out := fun env => .nx (env.set i (.ownT []))
def sNewK (i : Nat) : En → Out := fun env => .nx (env.set i (.ownK []))
theorem cs_newT {i : Nat} (h : PS X st (tAsg tDNewT (gName i))) : PS X st (tS X.K (sNewT i)) := ps_w h fun D σ H ⟨S0, H0, A, env, E, o⟩ => fun p hp =>
  o _ _ _ (E.set_new (s0 := .ownT []) (same_new hp) hp upd_same rfl rfl ⟨p, [], rfl, .inr rfl, upd_same, by rw [RpD]⟩) (Fr.of_same (same_new hp)) fun a z => z.imp id fun e => by rw [e]; exact hp
theorem cs_newK {i : Nat} (h : PS X st (tAsg tDNewK (gName i))) : PS X st (tS X.K (sNewK i)) := ps_w h fun D σ H ⟨S0, H0, A, env, E, o⟩ => fun p hp =>
  o _ _ _ (E.set_new (s0 := .ownK []) (same_new hp) hp upd_same rfl rfl ⟨p, [], rfl, .inr rfl, upd_same, by rw [RpD]⟩) (Fr.of_same (same_new hp)) fun a z => z.imp id fun e => by rw [e]; exact hp
end
/-! ### keys, entries -/
def keysOf : List PyData → Option (List Key)
  | [] => some []
  | .int i :: ds => match keysOf ds with
    | some ks => some (.inl i :: ks)
    | none => none
  | .str x :: ds => match keysOf ds with
    | some ks => some (.inr x :: ks)
    | none => none
  | _ :: _ => none
def kT : PyData → Option (List Key)
  | .tuple ds => keysOf ds
  | _ => none
def kK : PyData → Option Key
  | .int i => some (.inl i)
  | .str x => some (.inr x)
  | _ => none
theorem keysOf_map : ∀ ks : List Key, keysOf (ks.map kdD) = some ks
  | [] => rfl
  | .inl i :: ks => by
    show (match keysOf (ks.map kdD) with | some ks => some (Sum.inl i :: ks) | none => none) = _
    rw [keysOf_map ks]
  | .inr x :: ks => by
    show (match keysOf (ks.map kdD) with | some ks => some (Sum.inr x :: ks) | none => none) = _
    rw [keysOf_map ks]
theorem kT_kd (k : List Key) : kT (kdT k) = some k := keysOf_map k
theorem kK_kd (k : Key) : kK (kdD k) = some k := by cases k <;> rfl
theorem keys_rp {K : PySem.W.Frag} {S : Addr → Prop} {H : Hp} : ∀ {ds : List PyData} {ks : List Key} {xs : List V}, keysOf ds = some ks → RpA K S H ds xs → xs = ks.map kV ∧ ds = ks.map kdD
  | [], ks, xs, h, r => by
    cases h
    rw [RpA] at r
    subst r
    exact ⟨rfl, rfl⟩
  | d :: ds, ks, xs, h, r => by
    rw [RpA] at r
    obtain ⟨v, r', rfl, h1, h2⟩ := r
    cases d with
    | int i =>
      simp only [keysOf] at h
      split at h
      · rename_i ks' hk
        cases h
        obtain ⟨e1, e2⟩ := keys_rp hk h2
        rw [Rp] at h1
        subst h1
        exact ⟨by rw [e1]; rfl, by rw [e2]; rfl⟩
      · cases h
    | str i =>
      simp only [keysOf] at h
      split at h
      · rename_i ks' hk
        cases h
        obtain ⟨e1, e2⟩ := keys_rp hk h2
        rw [Rp] at h1
        subst h1
        exact ⟨by rw [e1]; rfl, by rw [e2]; rfl⟩
      · cases h
    | none => cases h
    | bool _ => cases h
    | list _ => cases h
    | tuple _ => cases h
    | dict _ => cases h
section
variable {κ : Type} [DecidableEq κ]
def getD' (kk : PyData → Option κ) (kvs : List (PyData × PyData)) (k : κ) : Option PyData := (kvs.find? fun p => decide (kk p.1 = some k)).map (·.2)
def putD (kd : κ → PyData) (kk : PyData → Option κ) (kvs : List (PyData × PyData)) (k : κ) (d : PyData) : List (PyData × PyData) :=
  if (kvs.any fun p => decide (kk p.1 = some k)) = true then kvs.map (fun p => if kk p.1 = some k then (p.1, d) else p) else kvs ++ [(kd k, d)]
variable {K : PySem.W.Frag} {S : Addr → Prop} {H : Hp} {kd : κ → PyData} {kk : PyData → Option κ}
theorem RpD.get (hk : ∀ k, kk (kd k) = some k) {k : κ} : ∀ {kvs : List (PyData × PyData)} {ws : List (κ × V)} {d : PyData}, RpD K S H κ kd kvs ws → getD' kk kvs k = some d → ∃ v, valV ws k = some v ∧ Rp K S H d v
  | [], _, _, _, h => by cases h
  | (a, x) :: kvs, _, d, r, h => by
    rw [RpD] at r
    obtain ⟨q, v, ws, rfl, rfl, h1, h2⟩ := r
    unfold getD' at h
    rw [List.find?_cons] at h
    by_cases e : q = k
    · subst e
      simp only [hk, decide_true, Option.map_some, Option.some.injEq] at h
      subst h
      exact ⟨v, valV_pos rfl, h1⟩
    · have e' : decide (kk (kd q) = some k) = false := by simp [hk, e]
      simp only [e'] at h
      obtain ⟨v', g1, g2⟩ := RpD.get hk h2 (show getD' kk kvs k = some d from h)
      exact ⟨v', by rw [valV_neg e]; exact g1, g2⟩
theorem RpD.none (hk : ∀ k, kk (kd k) = some k) {k : κ} : ∀ {kvs : List (PyData × PyData)} {ws : List (κ × V)}, RpD K S H κ kd kvs ws → (valV ws k).isSome = (getD' kk kvs k).isSome
  | [], _, r => by rw [RpD] at r; subst r; rfl
  | (a, x) :: kvs, _, r => by
    rw [RpD] at r
    obtain ⟨q, v, ws, rfl, rfl, h1, h2⟩ := r
    unfold getD'
    rw [List.find?_cons]
    by_cases e : q = k
    · subst e
      simp only [hk, decide_true, Option.map_some]
      rw [valV_pos rfl]; rfl
    · have e' : decide (kk (kd q) = some k) = false := by simp [hk, e]
      simp only [e']
      rw [valV_neg e]
      exact RpD.none hk h2
theorem RpD.any (hk : ∀ k, kk (kd k) = some k) {k : κ} : ∀ {kvs : List (PyData × PyData)} {ws : List (κ × V)}, RpD K S H κ kd kvs ws → (ws.any fun kv => decide (kv.1 = k)) = kvs.any fun p => decide (kk p.1 = some k)
  | [], _, r => by rw [RpD] at r; subst r; rfl
  | (a, x) :: kvs, _, r => by
    rw [RpD] at r
    obtain ⟨q, v, ws, rfl, rfl, h1, h2⟩ := r
    rw [List.any_cons, List.any_cons, RpD.any hk h2]
    simp only [hk, Option.some.injEq]
theorem RpD.repl (hk : ∀ k, kk (kd k) = some k) {k : κ} {d : PyData} {v : V} (hd : Rp K S H d v) : ∀ {kvs : List (PyData × PyData)} {ws : List (κ × V)}, RpD K S H κ kd kvs ws → RpD K S H κ kd (kvs.map fun p => if kk p.1 = some k then (p.1, d) else p) (ws.map fun kv => if kv.1 = k then (kv.1, v) else kv)
  | [], _, r => by rw [RpD] at r; subst r; rw [List.map_nil, List.map_nil, RpD]
  | (a, x) :: kvs, _, r => by
    rw [RpD] at r
    obtain ⟨q, u, ws, rfl, rfl, h1, h2⟩ := r
    rw [List.map_cons, List.map_cons]
    have ih := RpD.repl (k := k) hk hd h2
    by_cases e : q = k
    · subst e
      simp only [hk, if_true]
      rw [RpD]
      exact ⟨q, v, _, rfl, rfl, hd, ih⟩
    · have e' : ¬ kk (kd q) = some k := by simp [hk, e]
      simp only [e', e, if_false]
      rw [RpD]
      exact ⟨q, u, _, rfl, rfl, h1, ih⟩
theorem RpD.snoc {k : κ} {d : PyData} {v : V} (hd : Rp K S H d v) : ∀ {kvs : List (PyData × PyData)} {ws : List (κ × V)}, RpD K S H κ kd kvs ws → RpD K S H κ kd (kvs ++ [(kd k, d)]) (ws ++ [(k, v)])
  | [], _, r => by
    rw [RpD] at r
    subst r
    rw [List.nil_append, List.nil_append, RpD]
    exact ⟨k, v, [], rfl, rfl, hd, by rw [RpD]⟩
  | (a, x) :: kvs, _, r => by
    rw [RpD] at r
    obtain ⟨q, u, ws, rfl, rfl, h1, h2⟩ := r
    rw [List.cons_append, List.cons_append, RpD]
    exact ⟨q, u, _, rfl, rfl, h1, RpD.snoc hd h2⟩
theorem RpD.put (hk : ∀ k, kk (kd k) = some k) {k : κ} {d : PyData} {v : V} (hd : Rp K S H d v) {kvs : List (PyData × PyData)} {ws : List (κ × V)} (r : RpD K S H κ kd kvs ws) : RpD K S H κ kd (putD kd kk kvs k d) (putK ws k v) := by
  unfold putD putK
  rw [r.any hk]
  split
  · exact r.repl hk hd
  · exact r.snoc hd
theorem RpD.len : ∀ {kvs : List (PyData × PyData)} {ws : List (κ × V)}, RpD K S H κ kd kvs ws → ws.length = kvs.length
  | [], _, r => by rw [RpD] at r; subst r; rfl
  | (a, x) :: kvs, _, r => by
    rw [RpD] at r
    obtain ⟨q, v, ws, rfl, rfl, h1, h2⟩ := r
    rw [List.length_cons, List.length_cons, RpD.len h2]
theorem RpD.at : ∀ {kvs : List (PyData × PyData)} {ws : List (κ × V)} {i : Nat} {p : PyData × PyData}, RpD K S H κ kd kvs ws → kvs[i]? = some p → ∃ q v, ws[i]? = some (q, v) ∧ p.1 = kd q
  | [], _, _, _, _, e => by simp at e
  | (a, x) :: kvs, _, i, p, r, e => by
    rw [RpD] at r
    obtain ⟨q, v, ws, rfl, rfl, h1, h2⟩ := r
    cases i with
    | zero =>
      simp at e
      subst e
      exact ⟨q, v, rfl, rfl⟩
    | succ i => exact RpD.at (i := i) h2 (by simpa using e)
end
/-! ### d[k], k in d -/
section
variable {X : Cx} {e a b : Expr} {st : Stmt} {sts : List Stmt} {pos : Pos} {c c1 c2 : Bool} {f g : En → Option PyData} {fa : En → Option (List PyData)} {s : En → Out}
def dGet (kvs : List (PyData × PyData)) (k : PyData) : Option PyData := match kT k with
  | some q => getD' kT kvs q
  | none => match kK k with
    | some q => getD' kK kvs q
    | none => none
theorem kT_kK {d : PyData} {q : List Key} (h : kT d = some q) : kK d = none := by
  cases d <;> first | rfl | cases h
theorem key_rp {K : PySem.W.Frag} {S : Addr → Prop} {H : Hp} {k : PyData} {q : List Key} {y : V} (h : kT k = some q) (r : Rp K S H k y) : ∃ b, y = .ref b ∧ H b = some (.tup (q.map kV)) := by
  cases k with
  | tuple ds =>
    rw [Rp] at r
    obtain ⟨b, xs, rfl, hb, ra⟩ := r
    obtain ⟨e, _⟩ := keys_rp (show keysOf ds = some q from h) ra
    exact ⟨b, rfl, by rw [← e]; exact hb⟩
  | none => cases h
  | bool _ => cases h
  | int _ => cases h
  | str _ => cases h
  | list _ => cases h
  | dict _ => cases h
theorem keyK_rp {K : PySem.W.Frag} {S : Addr → Prop} {H : Hp} {k : PyData} {q : Key} {y : V} (h : kK k = some q) (r : Rp K S H k y) : y = kV q := by
  cases k with
  | int i => cases h; rw [Rp] at r; subst r; rfl
  | str i => cases h; rw [Rp] at r; subst r; rfl
  | none => cases h
  | bool _ => cases h
  | tuple _ => cases h
  | list _ => cases h
  | dict _ => cases h
theorem e2_ev' {k : PyData → PyData → Option PyData} {env : En} {x y d : PyData} (h1 : f env = some x) (h2 : g env = some y) (h3 : k x y = some d) : e2 k f g env = some d := by
  unfold e2
  rw [h1, h2]
  exact h3
/-- what a dict's data say is what it holds -/
theorem dget_rp {K : PySem.W.Frag} {S S' : Addr → Prop} {H : Hp} {kvs : List (PyData × PyData)} {k d : PyData} {x y : V} (rx : Rp K S H (.dict kvs) x) (ry : Rp K S' H k y) (h : dGet kvs k = some d) : ∃ a v, x = .ref a ∧ DGet H a y (some v) ∧ Rp K S H d v := by
  rw [Rp] at rx
  obtain ⟨a, od, rfl, q⟩ := rx
  unfold dGet at h
  rcases q with ⟨ws, hw, r⟩ | ⟨ws, hw, r⟩
  · split at h
    · rename_i q hq
      obtain ⟨v, g1, g2⟩ := r.get kT_kd h
      obtain ⟨b, rfl, hb⟩ := key_rp hq ry
      exact ⟨a, v, rfl, .inr ⟨ws, q, b, .inr ⟨od, hw⟩, rfl, hb, g1.symm⟩, g2⟩
    · exfalso
      have no : ∀ {l : List (PyData × PyData)} {ws : List (List Key × V)} (z : Key), RpD K S H (List Key) kdT l ws → getD' kK l z = none := fun {l} => by
        induction l with
        | nil => intro _ _ _; rfl
        | cons p l ih =>
          intro ws z r
          obtain ⟨pk, pd⟩ := p
          rw [RpD] at r
          obtain ⟨q, v, ws', rfl, rfl, _, h2⟩ := r
          unfold getD'
          rw [List.find?_cons]
          have : decide (kK (kdT q) = some z) = false := by simp [kdT, kK]
          simp only [this]
          exact ih z h2
      split at h
      · rw [no _ r] at h; cases h
      · cases h
  · split at h
    · exfalso
      rename_i q hq
      have no : ∀ {l : List (PyData × PyData)} {ws : List (Key × V)} (z : List Key), RpD K S H Key kdD l ws → getD' kT l z = none := fun {l} => by
        induction l with
        | nil => intro _ _ _; rfl
        | cons p l ih =>
          intro ws z r
          obtain ⟨pk, pd⟩ := p
          rw [RpD] at r
          obtain ⟨q, v, ws', rfl, rfl, _, h2⟩ := r
          unfold getD'
          rw [List.find?_cons]
          have : decide (kT (kdD q) = some z) = false := by cases q <;> simp [kdD, kT]
          simp only [this]
          exact ih z h2
      rw [no _ r] at h; cases h
    · split at h
      · rename_i q hq
        obtain ⟨v, g1, g2⟩ := r.get kK_kd h
        rw [keyK_rp hq ry]
        exact ⟨a, v, rfl, .inl ⟨ws, q, .inr ⟨od, hw⟩, rfl, g1.symm⟩, g2⟩
      · cases h
/-- x[k], x a list, a tuple or a dict that was let go -/
def ixU (x k : PyData) : Option PyData := match x with
  | .dict kvs => dGet kvs k
  | _ => ixG x k
theorem ce_ixU (hu : X.A.units + 1 < cLine) (ha : PE X a (tE X.K c f)) (hb : PE X b (tE X.K c g)) (hs : PlainIx b) (hs' : NoSl b) : PE X (.Subscript a b pos) (tE X.K c (e2 ixU f g)) := pe_w (pe_or (ce_ix ha hb hs) (pe_dget hu ha hb hs')) fun σ H Q ⟨S0, H0, A, env, d, E, hf, q⟩ => by
  obtain ⟨x, k, h1, h2, h3⟩ := e2_some hf
  by_cases hx : ∃ kvs, x = .dict kvs
  · right
    obtain ⟨kvs, rfl⟩ := hx
    refine ⟨S0, H0, A, env, _, E, h1, fun v H1 s1 r1 => ⟨S0, H0, A, env, k, E.grow s1, h2, fun u H2 s2 r2 => ?_⟩⟩
    obtain ⟨p, v', rfl, g1, g2⟩ := dget_rp (r1.grow s2) r2 (show dGet kvs k = some d from h3)
    exact ⟨p, v', rfl, g1, q _ _ (s1.trans s2) g2⟩
  · left
    refine ⟨S0, H0, A, env, d, E, ?_, q⟩
    refine e2_ev' h1 h2 ?_
    cases x with
    | dict kvs => exact absurd ⟨kvs, rfl⟩ hx
    | none => exact h3
    | bool _ => exact h3
    | int _ => exact h3
    | str _ => exact h3
    | list _ => exact h3
    | tuple _ => exact h3
/-- d[k], d an owned dict -/
def eGetO (i : Nat) (g : En → Option PyData) : En → Option PyData := fun env => match env[i]? with
  | some (.ownT kvs) => match g env with
    | some k => match kT k with
      | some q => getD' kT kvs q
      | none => none
    | none => none
  | some (.ownK kvs) => match g env with
    | some k => match kK k with
      | some q => getD' kK kvs q
      | none => none
    | none => none
  | _ => none
theorem ce_getO {i : Nat} (hu : X.A.units + 1 < cLine) (ha : PE X a (tVar i)) (hb : PE X b (tE X.K c1 g)) (hs' : NoSl b) : PE X (.Subscript a b pos) (tE X.K c (eGetO i g)) := pe_w (pe_dget hu ha hb hs') fun σ H Q ⟨S0, H0, A, env, d, E, hf, q⟩ => by
  unfold eGetO at hf
  split at hf
  · rename_i kvs hi
    rcases E.sl i _ hi with z | ⟨v, h1, p, ws, rfl, ha, hh, r⟩
    · cases z
    split at hf
    · rename_i k hk
      split at hf
      · rename_i y hy
        refine ⟨_, h1, S0, H0, A, env, k, E, hk, fun u H2 s2 r2 => ?_⟩
        obtain ⟨v, g1, g2⟩ := r.get kT_kd hf
        obtain ⟨b, rfl, hb⟩ := key_rp hy r2
        exact ⟨p, v, rfl, .inr ⟨ws, y, b, .inl (s2 _ _ hh), rfl, hb, g1.symm⟩, q _ _ s2 ((g2.grow s2).wide fun _ z => sc_cl z)⟩
      · cases hf
    · cases hf
  · rename_i kvs hi
    rcases E.sl i _ hi with z | ⟨v, h1, p, ws, rfl, ha, hh, r⟩
    · cases z
    split at hf
    · rename_i k hk
      split at hf
      · rename_i y hy
        refine ⟨_, h1, S0, H0, A, env, k, E, hk, fun u H2 s2 r2 => ?_⟩
        obtain ⟨v, g1, g2⟩ := r.get kK_kd hf
        rw [keyK_rp hy r2]
        exact ⟨p, v, rfl, .inl ⟨ws, y, .inl (s2 _ _ hh), rfl, g1.symm⟩, q _ _ s2 ((g2.grow s2).wide fun _ z => sc_cl z)⟩
      · cases hf
    · cases hf
  · cases hf
/-- d[k] = v, d an owned dict -/
def sPutD (i : Nat) (fk f : En → Option PyData) : En → Out := fun env => match f env with
  | some d => match fk env with
    | some k => match env[i]? with
      | some (.ownT kvs) => match kT k with
        | some q => if kvs.length < 1000000 then .nx (env.set i (.ownT (putD kdT kT kvs q d))) else .bad
        | none => .bad
      | some (.ownK kvs) => match kK k with
        | some q => if kvs.length < 1000000 then .nx (env.set i (.ownK (putD kdD kK kvs q d))) else .bad
        | none => .bad
      | _ => .bad
    | none => .bad
  | none => .bad
theorem cs_putD {i : Nat} {fk : En → Option PyData} (h : PS X st (sDPut (tVar i) (tE X.K c fk) (tE X.K true f))) : PS X st (tS X.K (sPutD i fk f)) := ps_w h fun D σ H ⟨S0, H0, A, env, E, o⟩ => by
  unfold sPutD at o
  split at o
  · rename_i d hd
    refine ⟨S0, H0, A, env, d, E, hd, fun v H1 s1 r1 => ?_⟩
    split at o
    · rename_i k hk
      split at o
      · rename_i kvs hi
        rcases E.sl i _ hi with z | ⟨v', h1, p, ws, rfl, ha, hh, r⟩
        · cases z
        split at o
        · rename_i y hy
          split at o
          · rename_i hl
            refine ⟨_, h1, S0, H0, A, env, k, E.grow s1, hk, fun u H2 s2 r2 => ?_⟩
            obtain ⟨b, rfl, hb⟩ := key_rp hy r2
            have s12 := s1.trans s2
            have E2 := E.grow s12
            obtain ⟨hL, hT, hD⟩ := E2.upd_mono (u1 := .dT (putK ws y v)) ha
            refine ⟨p, _, rfl, .inr ⟨ws, y, b, s12 _ _ hh, rfl, hb, by rw [r.len]; exact Nat.lt_of_lt_of_le hl (by decide), rfl⟩, ?_⟩
            refine o A _ σ (E2.mutG hi rfl rfl h1 ha (s12 _ _ hh) rfl rfl ⟨p, _, rfl, ha, upd_same, RpD.mono hL hT hD _ _ _ _ ((r.grow s12).put kT_kd ((r1.wide fun _ z => cl_sc z).grow s2))⟩) (fun b u e n => ?_) Sb.refl
            rw [upd_ne (fun z => n (by rw [z]; exact ha))]
            exact s12 _ _ e
          · exact o.elim
        · exact o.elim
      · rename_i kvs hi
        rcases E.sl i _ hi with z | ⟨v', h1, p, ws, rfl, ha, hh, r⟩
        · cases z
        split at o
        · rename_i y hy
          split at o
          · rename_i hl
            refine ⟨_, h1, S0, H0, A, env, k, E.grow s1, hk, fun u H2 s2 r2 => ?_⟩
            have eu := keyK_rp hy r2
            subst eu
            have s12 := s1.trans s2
            have E2 := E.grow s12
            obtain ⟨hL, hT, hD⟩ := E2.upd_mono (u1 := .dK (putK ws y v)) ha
            refine ⟨p, _, rfl, .inl ⟨ws, y, s12 _ _ hh, rfl, by rw [r.len]; exact Nat.lt_of_lt_of_le hl (by decide), rfl⟩, ?_⟩
            refine o A _ σ (E2.mutG hi rfl rfl h1 ha (s12 _ _ hh) rfl rfl ⟨p, _, rfl, ha, upd_same, RpD.mono hL hT hD _ _ _ _ ((r.grow s12).put kK_kd ((r1.wide fun _ z => cl_sc z).grow s2))⟩) (fun b u e n => ?_) Sb.refl
            rw [upd_ne (fun z => n (by rw [z]; exact ha))]
            exact s12 _ _ e
          · exact o.elim
        · exact o.elim
      · exact o.elim
    · exact o.elim
  · exact o.elim
/-! ### for k in d -/
theorem wk_keysT {K : PySem.W.Frag} {a : Addr} {od : Obj} {ws : List (List Key × V)} {kvs : List (PyData × PyData)} {S0 S : Addr → Prop} {H0 : Hp} (r : RpD K S0 H0 (List Key) kdT kvs ws) : Wk K (Itkt a od ws) (fun H => H a = some (.frz od (.dT ws))) S (kvs.map (·.1)) where
  go := fun i H g l => ⟨g, by rw [r.len]; simpa using l⟩
  yld := fun i H d x H' g e y => by
    obtain ⟨rfl, k, v, p, h1, rfl, h2⟩ := y
    refine ⟨Same.refl _, ?_⟩
    rw [List.getElem?_map] at e
    cases hk : kvs[i]? with
    | none => rw [hk] at e; cases e
    | some pr =>
      rw [hk] at e
      cases e
      obtain ⟨q', v', h3, h4⟩ := r.at hk
      rw [h1] at h3
      cases h3
      show Rp K S H' pr.1 _
      rw [h4]
      unfold kdT
      rw [Rp]
      refine ⟨p, _, rfl, h2, ?_⟩
      have rk : ∀ ks : List Key, RpA K S H' (ks.map kdD) (ks.map kV) := fun ks => by
        induction ks with
        | nil => exact RpA.nil
        | cons z ks ih => exact RpA.cons (by cases z <;> (show Rp K S H' _ _; simp only [kdD, kV]; rw [Rp])) ih
      exact rk k
  stop := fun i H g l => ⟨g, by rw [r.len]; simpa using l⟩
theorem wk_keysK {K : PySem.W.Frag} {a : Addr} {od : Obj} {ws : List (Key × V)} {kvs : List (PyData × PyData)} {S0 S : Addr → Prop} {H0 : Hp} (r : RpD K S0 H0 Key kdD kvs ws) : Wk K (Itk a od ws) (fun H => H a = some (.frz od (.dK ws))) S (kvs.map (·.1)) where
  go := fun i H g l => ⟨g, by rw [r.len]; simpa using l⟩
  yld := fun i H d x H' g e y => by
    obtain ⟨rfl, k, v, h1, rfl⟩ := y
    refine ⟨Same.refl _, ?_⟩
    rw [List.getElem?_map] at e
    cases hk : kvs[i]? with
    | none => rw [hk] at e; cases e
    | some pr =>
      rw [hk] at e
      cases e
      obtain ⟨q', v', h3, h4⟩ := r.at hk
      rw [h1] at h3
      cases h3
      show Rp K S H' pr.1 _
      rw [h4]
      cases k <;> (simp only [kdD, kV]; rw [Rp])
  stop := fun i H g l => ⟨g, by rw [r.len]; simpa using l⟩
def iSeqU (f : En → Option PyData) : En → Option (List PyData) := fun env => match f env with
  | some (.list ds) => some ds
  | some (.tuple ds) => some ds
  | some (.dict kvs) => some (kvs.map (·.1))
  | _ => none
theorem ci_seqU {tg iter : Expr} {f : En → Option PyData} (h : PE X iter (tE X.K true f)) : PI X tg iter (tI X.K true (iSeqU f)) := pi_w (pi_or (ci_seq h) (pi_keys h)) fun σ H R ⟨S0, H0, A, env, ds, E, hf, q⟩ => by
  unfold iSeqU at hf
  split at hf
  · rename_i es hd
    exact .inl ⟨S0, H0, A, env, ds, E, by unfold iSeq; rw [hd]; exact hf, q⟩
  · rename_i es hd
    exact .inl ⟨S0, H0, A, env, ds, E, by unfold iSeq; rw [hd]; exact hf, q⟩
  · rename_i kvs hd
    cases hf
    refine .inr ⟨S0, H0, A, env, _, E, hd, fun v H1 s r => ?_⟩
    rw [Rp] at r
    obtain ⟨a, od, rfl, z⟩ := r
    have E1 := E.grow s
    refine ⟨a, od, rfl, ?_⟩
    rcases z with ⟨ws, hw, r⟩ | ⟨ws, hw, r⟩
    · exact .inr ⟨ws, hw, q _ H1 _ s (fun H2 s2 => s2 _ _ hw) (fun _ H2 f2 => f2 a _ hw fun z => E1.no_frz rfl z hw) (wk_keysT r)⟩
    · exact .inl ⟨ws, hw, q _ H1 _ s (fun H2 s2 => s2 _ _ hw) (fun _ H2 f2 => f2 a _ hw fun z => E1.no_frz rfl z hw) (wk_keysK r)⟩
  · cases hf
/-! ### a display with written keys -/
def trsOf (K : PySem.W.Frag) (ps : List (Str × (En → Option PyData))) : List (TE × TE) := ps.map fun p => (tC (.str p.1), tE K true p.2)
def valsE : List (Str × (En → Option PyData)) → En → Option (List (Key × PyData))
  | [], _ => some []
  | (k, f) :: ps, env => match f env with
    | some d => match valsE ps env with
      | some ds => some ((.inr k, d) :: ds)
      | none => none
    | none => none
def mkD (ps : List (Key × PyData)) : List (PyData × PyData) := ps.foldl (fun acc kv => putD kdD kK acc kv.1 kv.2) []
/-- the new dict's entries stand apart from it -/
inductive Ents (K : PySem.W.Frag) (S : Addr → Prop) (H : Hp) : List (Key × PyData) → List (V × V) → Prop
  | nil : Ents K S H [] []
  | cons {k : Key} {d : PyData} {v : V} {ps : List (Key × PyData)} {vs : List (V × V)} : Rp K S H d v → Ents K S H ps vs → Ents K S H ((k, d) :: ps) ((kV k, v) :: vs)
theorem Ents.kv {K : PySem.W.Frag} {S : Addr → Prop} {H : Hp} {ps : List (Key × PyData)} {vs : List (V × V)} (h : Ents K S H ps vs) : ∃ ws : List (Key × V), vs = ws.map (fun kv => (kV kv.1, kv.2)) ∧ ws.length = ps.length ∧ ∀ {acc : List (PyData × PyData)} {aw : List (Key × V)}, RpD K S H Key kdD acc aw → RpD K S H Key kdD (ps.foldl (fun acc kv => putD kdD kK acc kv.1 kv.2) acc) (mergeK aw ws) := by
  induction h with
  | nil => exact ⟨[], rfl, rfl, fun r => r⟩
  | @cons k d v ps vs r _ ih =>
    obtain ⟨ws, e, l, f⟩ := ih
    refine ⟨(k, v) :: ws, by rw [e]; rfl, by rw [List.length_cons, List.length_cons, l], fun {acc aw} ra => ?_⟩
    exact f (ra.put kK_kd r)
theorem pairs_run {K : PySem.W.Frag} {S0 : Addr → Prop} {H0 : Hp} {A : Addr → Prop} {env : En} {σ : L2.St} : ∀ {ps : List (Str × (En → Option PyData))} {H1 : Hp} {ds : List (Key × PyData)} {Q : List (V × V) → Hp → Prop}, EnvOk K S0 H0 A H1 σ env → valsE ps env = some ds →
    (∀ vs H2, Same H1 H2 → Ents K (Cl S0 H0 A) H2 ds vs → Q vs H2) → tPairs (trsOf K ps) σ H1 Q
  | [], H1, ds, Q, E, h, q => by
    cases h
    exact q [] H1 (Same.refl _) .nil
  | (k, f) :: ps, H1, ds, Q, E, h, q => by
    simp only [valsE] at h
    split at h
    · rename_i d hd
      split at h
      · rename_i ds' hds
        cases h
        show tPairs ((tC (.str k), tE K true f) :: trsOf K ps) σ H1 Q
        refine ⟨S0, H0, A, env, d, E, hd, fun v H2 s2 r2 => ?_⟩
        refine pairs_run (E.grow s2) hds fun vs H3 s3 en => ?_
        exact q _ H3 (s2.trans s3) (.cons ((r2.wide fun _ z => cl_sc z).grow s3) en)
      · cases h
    · cases h
def sDisp (i : Nat) (ps : List (Str × (En → Option PyData))) : En → Out := fun env => match valsE ps env with
  | some ds => if ds.length ≤ 15 then .nx (env.set i (.ownK (mkD ds))) else .bad
  | none => .bad
theorem cs_disp {i : Nat} {ps : List (Str × (En → Option PyData))} (h : PS X st (tAsg (tDisp (trsOf X.K ps)) (gName i))) : PS X st (tS X.K (sDisp i ps)) := ps_w h fun D σ H ⟨S0, H0, A, env, E, o⟩ => fun p hp => by
  unfold sDisp at o
  split at o
  · rename_i ds hds
    split at o
    · rename_i hl
      refine pairs_run (E.grow (same_new hp)) hds fun vs H2 s2 en => ?_
      obtain ⟨ws, rfl, wl, f⟩ := en.kv
      have hp2 : H2 p = some (.dK []) := s2 _ _ upd_same
      refine ⟨hp2, ws, rfl, by rw [wl]; exact hl, ?_⟩
      have sH : Same H (upd H2 p (.dK (mergeK [] ws))) := fun b u z => by
        rw [upd_ne (ne_of_none z hp)]
        exact s2 _ _ ((same_new hp) _ _ z)
      have r := f (acc := []) (aw := []) (by rw [RpD])
      obtain ⟨k1, k2, k3⟩ := upd_monoD (S := Cl S0 H0 A) (u1 := .dK (mergeK [] ws)) hp2 rfl
      have r' : RpD X.K (fun a => Cl S0 H0 A a ∧ a ≠ p) H2 Key kdD (mkD ds) (mergeK [] ws) := RpD.mono (fun a xs z y => ⟨⟨z, fun e => by
        rw [e] at y
        rcases y with y | ⟨_, y⟩ <;> (rw [hp2] at y; cases y)⟩, y⟩) (fun _ _ z => z) (fun _ _ _ z => z) _ _ _ _ r
      refine o _ _ _ (E.set_new (s0 := .ownK (mkD ds)) sH hp upd_same rfl rfl ⟨p, _, rfl, .inr rfl, upd_same, RpD.mono k1 k2 k3 _ _ _ _ r'⟩) (Fr.of_same sH) fun a z => z.imp id fun e => by rw [e]; exact hp
    · exact o.elim
  · exact o.elim
theorem hu1 {k : Nat} {A : Around} (r : Room k A) : A.units + 1 < cLine := by
  have := hu65 r
  omega
/-! ### k in d -/
def inU (k x : PyData) : Option PyData := match x with
  | .dict kvs => match kvs with
    | [] => none
    | (p, _) :: _ => match kT p with
      | some _ => match kT k with
        | some q => some (.bool (getD' kT kvs q).isSome)
        | none => none
      | none => match kK k with
        | some q => some (.bool (getD' kK kvs q).isSome)
        | none => none
  | _ => inT k x
end
end Mir

/-! Exc1: the class Refused(BookError) with super().__init__(what); self.what = what: made, raised, its field read -/
namespace PySem
namespace RfX
open PySem.W PySem.Calls PyProof.Rows PySem.HandSPX
def iA : Arguments := { posonlyargs := [], args := [{ arg := "self", annotation := none, pos := ⟨6, 17, 6, 21⟩ }, { arg := "what", annotation := none, pos := ⟨6, 23, 6, 27⟩ }], vararg := none, kwonlyargs := [], kw_defaults := [], kwarg := none, defaults := [] }
def iB : List Stmt := [.Expr (.Call (.Attribute (.Call (.Name "super" ⟨7, 8, 7, 13⟩) [] [] ⟨7, 8, 7, 15⟩) "__init__" ⟨7, 8, 7, 24⟩) [.Name "what" ⟨7, 25, 7, 29⟩] [] ⟨7, 8, 7, 30⟩) ⟨7, 8, 7, 30⟩, .Assign [.Attribute (.Name "self" ⟨8, 8, 8, 12⟩) "what" ⟨8, 8, 8, 17⟩] (.Name "what" ⟨8, 20, 8, 24⟩) ⟨8, 8, 8, 24⟩]
def iS : Scope := { kind := .function, names := [(PySem.Str.ofString "self", .local), (PySem.Str.ofString "what", .local), (PySem.Str.ofString "__class__", .free), (PySem.Str.ofString "super", .globalImplicit)], isGenerator := false, isCoroutine := false, more := [] }
/-- what the written part says of Refused, at C, and of its __init__, at fI -/
structure RfTxt (prog : Program) (K : Frag) (mg : Str → Option Value) (C fI : Addr) : Prop where
  gC : mg "Refused" = some (.ref C)
  cls : ∃ nm q N bs bm sn sub ab col dd k0 k1 k2 k3 k5, K.lookup C = some (excClassObj nm q C N bs bm true sn sub ab col dd k0 k1 k2 k3 k5 "ValueError.__new__") ∧ refsVE bm = true
  sa : findIn K (.ref C) "__setattr__" = some (some (.builtin "object.__setattr__"))
  ga : findIn K (.ref C) "__getattribute__" = some (some (.builtin "BaseException.__getattribute__"))
  gg : findIn K (.ref C) "__getattr__" = some none
  noN : findIn K (.ref C) "what" = some none
  iC : findIn K (.ref C) "__init__" = some (some (.ref fI))
  tC : typeIn K (.ref fI) = some (.type "function")
  kC : keepIn K (.ref C) = true
  exC : subIn K (.ref C) (.type "BaseException") = some true
  tyC : typeIn K (.ref C) = some (.type "type")
  hdC : hasDictIn K C = true
  te : exmOne K (.ref C) (.ref C) = some true
  sup : mg "super" = none
  opq : nsIn K cStatics "thirdparty.any" = some none
  sIn : ks_superIn K C C "__init__" = some (some (.builtin "ValueError.__init__"))
  hB : subIn K (.ref C) (.type "ValueError") = some true
  mro : mroIn K C (.ref C) = some true
  top : (prog.main.scope.names.lookup ("super" : Str)).isSome = false
  fn : ∃ (oc : Value) (od : Option Addr) (doc pm : Value) (an : Option Addr) (cda cc : Addr) (ct : Value) (osl : Array (Option Value)) (vs : Array Value) (file : Str) (tf : Tok) (c1 c2 : Value) (d1 d2 : Option Addr) (s1 s2 : Array (Option Value)),
    K.lookup fI = some ⟨oc, od, .func (fnX "__init__" "Refused.__init__" iA iB iS [("__class__", cc)] .none .none doc pm an (.ref cda) ct), osl⟩ ∧ codeIn K (.ref cda) "Refused.__init__" = true ∧
    K.lookup cda = some ⟨c1, d1, .fields vs, s1⟩ ∧ vs[2]? = some (.str file tf) ∧ ((prog.main.file : Str) == file) = true ∧ K.lookup cc = some ⟨c2, d2, .cell (some (.ref C)), s2⟩
theorem one_size (v : Value) : [v].length ≤ sizeLine := by
  rw [sizeLine_eq]
  exact (by decide : 1 ≤ 16777216)
/-- what __init__ leaves of a fresh exception at x -/
structure InitEnd (h h' : Heap) (x C dx t1 : Addr) (v : Value) : Prop where
  keep : ∀ b o, b ≠ x → h.get? b = some o → h'.get? b = some o
  obj : h'.get? x = some { cls := .ref C, dict := some dx, data := .fields #[.ref t1, .none, .none, .none, .bool false, .none] }
  dbig : h.objs.size ≤ dx
  dne : dx ≠ x
  ns : h'.Ns1 dx (fun y => if y = "what" then some v else none)
/-- a made one -/
structure OwnMade (h h' : Heap) (e C d : Addr) (v : Value) : Prop where
  keep : ∀ b o, h.get? b = some o → h'.get? b = some o
  new : h.objs.size ≤ e
  obj : ∃ oe vs, h'.get? e = some oe ∧ oe.cls = .ref C ∧ oe.dict = some d ∧ oe.data = .fields vs ∧ vs[1]? = some .none
  dbig : h.objs.size ≤ d
  dne : d ≠ e
  ns : h'.Ns1 d (fun y => if y = "what" then some v else none)
section
variable {prog : Program} {w : World} {A : Around} {E : Value → Shared → Prop} {R : Result → Shared → Prop} {s : Shared} {K : Frag} {mg : Str → Option Value} {C fI : Addr}
theorem rf_init (T : RfTxt prog K mg C fI) {x t0 : Addr} {v : Value} (X : K.In s.heap) (G : s.heap.Ns mainGlobals mg) (B : ∃ mb, s.heap.Ns builtinsNs mb ∧ ∀ x : Str, x ≠ "__name__" → mb x = bootBuiltins x) (hlim : s.heap.NoLimit) (hx : s.heap.get? x = some (excO C t0)) (hnx : K.lookup x = none) (hroom : A.depth < recursionLimit)
    (hq : ∀ h' tk dx t1, InitEnd s.heap h' x C dx t1 v → R (.ok (.ret .none)) { s with heap := h', toks := tk }) :
    codeAny (model prog w) A (.call (.ref fI) ⟨[.ref x, v], []⟩) R s := by
  obtain ⟨oc, od, doc, pm, an, cda, cc, ct, osl, vs, file, tf, c1, c2, d1, d2, s1, s2, ho, hcd, hcode, hvs, hfile, hcell⟩ := T.fn
  obtain ⟨nm, q, N, bs, bm, sn, sub, ab, col, dd, k0, k1, k2, k3, k5, hC, hbm⟩ := T.cls
  have hcl : clsIn K C = some { name := nm, bases := bs, mro := .ref C :: bm, ns := N, qualname := q, hasDict := true, slotNames := sn, subclasses := sub, abstract := ab, collection := col, hasDel := false } := by unfold clsIn; rw [hC] <;> rfl
  refine ks_codeAny_call_defAt (binds := [("self", .ref x), ("what", v)]) hroom (X _ _ ho) rfl hlim (codeRec_of X hcd) rfl (BindsTo.of_eq (by first | rfl | with_unfolding_all rfl)) (show ∀ y ∈ iS.names, y.2 ≠ NameKind.cell from by decide +kernel) (fun y hy => by
    rcases List.mem_cons.mp hy with rfl | hy
    · kernel_rfl
    rcases List.mem_cons.mp hy with rfl | hy
    · kernel_rfl
    cases hy) (fun h₁ hn hk => ?_) rfl rfl rfl
  have X₁ : K.In h₁ := X.keeps hk
  have hx₁ := hk _ _ hx
  have hL : s.heap.objs.size ≠ x := Nat.ne_of_gt (Heap.lt_size hx)
  have G₁ := G.keeps hk
  obtain ⟨mb, b1, b2⟩ := B
  have b1 := b1.keeps hk
  have hne : x ≠ C := fun e => by
    have z := X _ _ hC
    rw [← e, hx] at z
    cases z
  show wpAt _ _ _ (execs (_ :: _) _) _ _ _
  refine ks_wpAt_execs_cons (ks_wpAt_Expr_any (ks_wpAt_MethodCall ?_))
  have hCat := X₁ _ _ hC
  refine ks_wpAt_super_base (ar := { arg := "self", annotation := none, pos := ⟨6, 17, 6, 21⟩ }) (env := ksEnv "Refused.__init__" iS s.heap.objs.size fI (.ref cda) cc) (by kernel_rfl) (by kernel_rfl) (by decide +kernel) rfl (X₁ _ _ ho) rfl (by kernel_rfl) rfl (X₁ _ _ hcode) rfl hvs hfile T.top ?_
  refine ks_loadName_global rfl (by kernel_rfl) (loadGlobal_builtin (env := ksEnv "Refused.__init__" iS s.heap.objs.size fI (.ref cda) cc) G₁ T.sup b1 ((b2 _ (by decide +kernel)).trans (by first | boot_by_name | rfl | kernel_rfl)) ⟨rfl, ?_⟩)
  refine wpAny_loadName_free rfl (by kernel_rfl) (by kernel_rfl) ⟨_, X₁ _ _ hcell, rfl⟩ ?_
  refine wpAny_loadName_local (v := .ref x) rfl (by kernel_rfl) hn (by kernel_rfl) ?_
  refine ks_wpAny_isType_cls hCat rfl ⟨rfl, ?_⟩
  refine ks_wpAny_call_super hCat rfl hx₁ rfl (fun c e => by cases e) (looks_mroIn X₁ T.mro) (fun h₂ hso k₂ => ?_)
  have X₂ : K.In h₂ := X₁.keeps k₂
  have hx₂ := k₂ _ _ hx₁
  have hn₂ := hn.keeps k₂
  have I₂ : InstAt h₂ x (excO C t0) C none := ⟨hx₂, rfl, rfl, trivial⟩
  have hm := T.sIn
  unfold ks_superIn at hm
  rw [hcl] at hm
  refine kxs_getMethod kxs_ValueError (l₀ := .ref C :: bm) hso (looks_opaque X₂ T.opq) (fun A Q E s k q => wpAny_bind ((looks_clsIn X₂ hcl) A _ E s k (wpAny_pure q))) rfl X₂ hm (I₂.type.andThen (looks_subIn X₂ T.hB)) hne (by decide +kernel) ?_
  have k₃ : ∀ b o, h₂.get? b = some o → (h₂.push (kxs_mw "ValueError.__init__" x)).get? b = some o := fun b o e => Heap.get?_push_of_some _ e
  have hu : (h₂.push (kxs_mw "ValueError.__init__" x)).get? h₂.objs.size = some (kxs_mw "ValueError.__init__" x) := Heap.get?_push_at rfl rfl
  refine kxs_callWith (i := "ValueError.__init__") (x := x) (by kernel_rfl) ?_
  refine evalArgs_plain (spliced_cons ?_)
  have hn₃ := hn₂.keeps k₃
  refine wpAny_Name (env := ksEnv "Refused.__init__" iS s.heap.objs.size fI (.ref cda) cc) (wpAny_loadName_local (v := v) rfl (by kernel_rfl) hn₃ (by kernel_rfl) ?_) (by decide +kernel)
  refine spliced_nil ⟨hu, ?_⟩
  have hC₃ := k₃ _ _ (k₂ _ _ hCat)
  have hx₃ := k₃ _ _ hx₂
  refine wpAny_call (codeAny_of_tree (show wpAny _ _ (callAny (.ref h₂.objs.size) ⟨[v], []⟩) _ _ _ from ?_))
  simp only [callAny]
  refine wpAny_bind (wpAny_load hu ?_)
  simp only [kxs_mw, show ((Value.type "method-wrapper" == Value.type "method") || (Value.type "method-wrapper" == Value.type "builtin_function_or_method") || (Value.type "method-wrapper" == Value.type "method-wrapper")) = true by decide, if_true]
  refine KFB.if_so (by decide) (wpAny_bind (check_bound_init F.excBase_ValueError.toExcCallFacts hC₃ hx₃ rfl (wpAny_bind (wpAny_pure (wpAny_pure ⟨plainId_quiet F.excBase_ValueError.init.plain _, codeAny_builtin F.excBase_ValueError.initEntry ?_⟩)))))
  refine exc_init_tree (cls := .ref C) (t0 := t0) (dv := none) (c2 := .none) (c3 := .none) (b4 := .bool false) hx₃ (one_size v) fun h₄ k₄ hx₄ ht₄ => ?_
  have hn₄ : h₄.Ns s.heap.objs.size (fun y => [(("self" : Str), Value.ref x), (("what" : Str), v)].reverse.lookup y) := by
    obtain ⟨oL, es, ep, e1, r⟩ := hn₃
    exact ⟨oL, es, ep, k₄ _ _ (fun z => hL z) e1, r⟩
  have old : ∀ b o, b ≠ x → s.heap.get? b = some o → h₄.get? b = some o := fun b o nb e => k₄ b o nb (k₃ _ _ (k₂ _ _ (hk _ _ e)))
  have X₄ : K.In h₄ := fun b o e => old b o (fun z => by rw [z, hnx] at e; cases e) (X _ _ e)
  refine wpAt_of_wpAny (wpAny_execs_cons (plainObj_wpAny_Assign_Attribute ?_))
  refine wpAny_Name (env := ksEnv "Refused.__init__" iS s.heap.objs.size fI (.ref cda) cc) (wpAny_loadName_local (v := v) rfl (by kernel_rfl) hn₄ (by kernel_rfl) ?_) (by decide +kernel)
  refine wpAny_Name (env := ksEnv "Refused.__init__" iS s.heap.objs.size fI (.ref cda) cc) (wpAny_loadName_local (v := .ref x) rfl (by kernel_rfl) hn₄ (by kernel_rfl) ?_) (by decide +kernel)
  refine set_plain X₄ (od := none) ⟨hx₄, rfl, rfl, trivial⟩ T.sa ?_
  refine exc_osa X₄ hx₄ hcl (show refsVE (.ref C :: bm) = true from hbm) rfl T.noN (fun h₅ tk₅ dx k₅ dn dne hx₅ hn₅ => ?_)
  show wpAny _ _ (execs _ _) _ _ _
  refine wpAny_execs_nil (hq h₅ tk₅ dx _ ⟨fun b o hb e => k₅ b o hb (old b o hb e), hx₅, ?_, dne, hn₅⟩)
  obtain ⟨oL, es, ep, e1, r⟩ := hn₄
  exact Nat.le_of_lt (Nat.lt_of_lt_of_le (Heap.lt_size e1) dn)
theorem rf_made (T : RfTxt prog K mg C fI) {v : Value} (X : K.In s.heap) (G : s.heap.Ns mainGlobals mg) (B : ∃ mb, s.heap.Ns builtinsNs mb ∧ ∀ x : Str, x ≠ "__name__" → mb x = bootBuiltins x) (hlim : s.heap.NoLimit) (hroom : A.depth + 1 < recursionLimit)
    (hq : ∀ h' tk e d, OwnMade s.heap h' e C d v → R (.ok (.ret (.ref e))) { s with heap := h', toks := tk }) :
    codeAny (model prog w) A (.call (.ref C) ⟨[v], []⟩) R s := by
  obtain ⟨nm, q, N, bs, bm, sn, sub, ab, col, dd, k0, k1, k2, k3, k5, hC, hbm⟩ := T.cls
  obtain ⟨hp, g, dr, tk, os⟩ := s
  have k : ∀ b o, hp.get? b = some o → ((hp.push (kdv_tup [v])).push (excO C hp.objs.size)).get? b = some o := fun b o e => Heap.get?_push_of_some _ (Heap.get?_push_of_some _ e)
  have hget : ((hp.push (kdv_tup [v])).push (excO C hp.objs.size)).get? (hp.objs.size + 1) = some (excO C hp.objs.size) := by heap_get
  have hnx : K.lookup (hp.objs.size + 1) = none := by
    cases e : K.lookup (hp.objs.size + 1) with
    | none => rfl
    | some o =>
      have z : hp.get? (hp.objs.size + 1) = some o := X _ _ e
      exact absurd (Nat.lt_of_succ_lt (Heap.lt_size z)) (Nat.lt_irrefl _)
  obtain ⟨mb, b1, b2⟩ := B
  refine call_own F.excBase_ValueError (fun X => refsVE_contains X bm hbm) (X _ _ hC) (looks_findIn X T.iC) (fun self => bind_fn X self T.tC) (one_size v) ?_
  refine rf_init (s := ⟨(hp.push (kdv_tup [v])).push (excO C hp.objs.size), g, dr, tk, os⟩) T (X.keeps k) (G.keeps k) ⟨mb, b1.keeps k, b2⟩ (hlim.keeps k) hget hnx ?_ fun h' tk' dx t1 ⟨k', hx, dn, dne, hns⟩ => ?_
  · show A.depth + 1 < recursionLimit
    exact hroom
  · have old : ∀ b o, hp.get? b = some o → h'.get? b = some o := fun b o e => k' b o (Nat.ne_of_lt (Nat.lt_succ_of_lt (Heap.lt_size e))) (k b o e)
    have z : hp.objs.size + 1 + 1 ≤ dx := by
      first
        | (simpa only [Heap.size_push] using dn)
        | exact dn
        | (have q := dn; rw [Heap.size_push, Heap.size_push] at q; exact q)
    exact ⟨rfl, hq h' tk' (hp.objs.size + 1) dx ⟨old, Nat.le_succ _, ⟨_, _, hx, rfl, rfl, rfl, rfl⟩, Nat.le_trans (Nat.le_trans (Nat.le_succ _) (Nat.le_succ _)) z, dne, hns⟩⟩
end
end RfX
end PySem
namespace L2
open PySem PySem.Spec PyProof.Rows
theorem relO_rf {v : V} {v' : Value} (r : RelV v v') (f : Str) : RelO (List.lookup f [(("what" : Str), v)]) (if f = "what" then some v' else none) := by
  by_cases hw : f = "what"
  · subst hw
    rw [if_pos rfl]
    have q : List.lookup ("what" : Str) [(("what" : Str), v)] = some v := by simp [List.lookup]
    rw [q]
    exact r
  · rw [if_neg hw]
    have qw : (f == ("what" : Str)) = false := by simpa using hw
    have q2 : List.lookup f [(("what" : Str), v)] = none := by simp [List.lookup, qw]
    rw [q2]
    trivial
section
variable {X : Cx} {C fI : Addr}
/-- Refused(e) -/
def tMkRf (C : Addr) (ta : TA) : St → Hp → XK → Prop := fun σ H Q => ta σ H fun vs H1 => ∃ v, vs = [v] ∧ ∀ d, H1 d = none → Q (.ref C) (some d) (upd H1 d (.xd [(("what" : Str), v)]))
theorem pmk_rf {a : Expr} {ta : TA} {p pos : Pos} {k : Nat} (T : PySem.RfX.RfTxt X.prog X.K X.mg C fI) (hr : Room k X.A) (ha : PA X [a] ta) (hg : Gl X "Refused" := by rfl)
    (he : starEach (a :: []) X.env = (false, eval a X.env) :: starEach [] X.env := by rfl) (hpl : (backTo pos (starEach [] X.env)).any (·.1) = false := by rfl) :
    PMk X (.Call (.Name "Refused" p) [a] [] pos) (tMkRf C ta) := by
  intro pins s σ H Q I h
  refine wpAny_Call_Name_kw (ld_glob I hg T.gC ?_)
  refine PySem.W.callWith_K (h₀ := X.base) I.ok.mod.kin T.kC (thn (ha.run pos pins s σ H _ I h) fun us s1 hh => ?_) he hpl
  obtain ⟨vs, H1, I1, r1, v, ev, q1⟩ := hh
  subst ev
  refine ⟨I1.kIn, ?_⟩
  cases r1 with
  | cons rv rn =>
    rename_i v' us'
    cases rn
    show wpAny _ _ (call (.ref C) [v']) _ _ _
    have hlim := I1.nolimit
    have hG := I1.mod.glob.keeps I1.bk
    obtain ⟨mb, hb1, hb2⟩ := I1.mod.blt
    have hB := hb1.keeps I1.bk
    obtain ⟨hp, g, dr, tk, os⟩ := s1
    refine wpAny_call (PySem.RfX.rf_made T I1.kIn hG ⟨mb, hB, hb2⟩ hlim (by have := hr.dp; omega) fun h' tk' e d M => ?_)
    show MkP X pins σ Q (.ref e) ⟨h', g, dr, tk', os⟩
    obtain ⟨oe, fv, hoe, hc, hd, hdat, h1⟩ := M.obj
    have hns := M.ns
    obtain ⟨G', g1, g2⟩ := restrict h' fun b => decide (b ≠ e)
    have gk : ∀ b, b ≠ e → G'.get? b = h'.get? b := fun b hb => g1 b (decide_eq_true hb)
    have ge : G'.get? e = none := g2 e (by simp)
    have old : ∀ b o, hp.get? b = some o → G'.get? b = some o := fun b o q => (gk b (Nat.ne_of_lt (Nat.lt_of_lt_of_le (Heap.lt_size q) M.new))).trans (M.keep b o q)
    have ob : ObjOk X.prog X.w (upd H1 d (.xd [(("what" : Str), v)])) G' d (.xd [(("what" : Str), v)]) :=
      ⟨_, hns.at (fun o q => (gk d M.dne).trans q), fun f => relO_rf rv f⟩
    have J : Inv X pins σ (upd H1 d (.xd [(("what" : Str), v)])) ⟨G', g, dr, tk', os⟩ := I1.laid (t' := tk') old M.dbig ob
    refine ⟨e, oe, fv, ⟨G', g, dr, tk', os⟩, _, .ref C, some d, rfl, J, fun b o q => ?_, ge, hoe, ⟨hc, hd⟩, hdat, h1, ?_, rfl, I1.bare, raises_own T.exC T.tyC, q1 d (I1.hok.fresh M.dbig)⟩
    · by_cases hb : b = e
      · have q' : G'.get? b = some o := q
        rw [hb, ge] at q'; cases q'
      · exact (gk b hb).symm.trans q
    · rw [upd_ne (Ne.symm M.dne)]
      exact I1.hok.fresh M.new
/-- raise Refused(e) -/
def tRaiseRf (C : Addr) (W : WX) (ta : TA) : TS := fun _ σ H => tMkRf C ta σ H fun cls d H' => W cls d σ H'
theorem ps_raiseRf {a : Expr} {ta : TA} {W : WX} {p pos pos2 : Pos} {k : Nat} (hc : X.calm = true) (T : PySem.RfX.RfTxt X.prog X.K X.mg C fI) (hr : Room k X.A) (tk : Takes X W) (ha : PA X [a] ta) (hg : Gl X "Refused" := by rfl)
    (he : starEach (a :: []) X.env = (false, eval a X.env) :: starEach [] X.env := by rfl) (hpl : (backTo pos (starEach [] X.env)).any (·.1) = false := by rfl) :
    PS X (.Raise (some (.Call (.Name "Refused" p) [a] [] pos)) none pos2) (tRaiseRf C W ta) := ps_raise hc tk (pmk_rf T hr ha hg he hpl)
/-- e.what, e the exception that the suite holds (at a; its class cls, its dict d) -/
def tByRf (C : Addr) (a : Addr) (cls : Value) (d : Option Addr) (te : TE) : TE := fun σ H Q => te σ H fun x H1 => x = .ref a ∧ cls = .ref C ∧ ∃ (dd : Addr) (v : V), d = some dd ∧ H1 dd = some (.xd [(("what" : Str), v)]) ∧ Q v H1
theorem pe_byRf {a : Addr} {oe : Obj} {cls : Value} {d : Option Addr} {pn : List (Addr × Obj)} {e : Expr} {te : TE} {pos : Pos} (T : PySem.RfX.RfTxt X.prog X.K X.mg C fI) (hz : Zc cls d oe) (hf : ∃ vs, oe.data = .fields vs) (he : PE (X.suite a ((a, oe) :: pn)) e te)
    (hb : attributeBase e "what" X.env (eval e X.env) = eval e X.env := by rfl) :
    PE (X.suite a ((a, oe) :: pn)) (.Attribute e "what" pos) (tByRf C a cls d te) := by
  refine ⟨fun pins s σ H Q I h => ?_⟩
  refine attr_of hb (thn (he.run pins s σ H _ I h) fun u s1 hh => ?_)
  obtain ⟨x, H1, I1, rx, ex, ec, dd, v, ed, ea, q⟩ := hh
  subst ex
  obtain rfl : u = Value.ref a := rx
  subst ec
  subst ed
  obtain ⟨ha, _⟩ := I1.pin (a, oe) (List.mem_append_left _ List.mem_cons_self)
  obtain ⟨vs, hd⟩ := hf
  have hx : ObjOk X.prog X.w H1 s1.heap dd (.xd [(("what" : Str), v)]) := I1.hok dd _ ea
  obtain ⟨mA, hns, hr⟩ := hx
  obtain ⟨od, ho, hl⟩ := lookIn_ns hns
  have l : List.lookup ("what" : Str) [(("what" : Str), v)] = some v := by simp [List.lookup]
  obtain ⟨u, hu, ru⟩ := RelO.some_of (v := v) (o := mA "what") (by rw [← l]; exact hr "what")
  have J : PySem.W.InstAt s1.heap a oe C (some od) := ⟨ha, hz.1, by unfold PySem.W.notCls; rw [hd] <;> rfl, by rw [hz.2]; exact ho⟩
  exact HandSPX.exc_get I1.kIn J T.ga T.gg T.exC (PySem.W.findObj_own T.hdC T.noN rfl (by rw [hl, hu])) (handed_of ru) ⟨v, H1, I1.tok _, ru, q⟩
end
theorem exm_selfR {K : PySem.W.Frag} {S : Addr} (h1 : PySem.W.subIn K (.ref S) (.type "BaseException") = some true) (h2 : PySem.W.isClsIn K S = true) (h3 : PySem.W.typeIn K (.ref S) = some (.type "type")) (h4 : PySem.W.subIn K (.ref S) (.ref S) = some true) :
    PySem.W.exmOne K (.ref S) (.ref S) = some true := by
  have e1 : (PySem.W.subIn K (.ref S) (.type "BaseException") == some true) = true := by rw [h1] <;> rfl
  have e2 : ((PySem.W.clsIn K S).isSome && PySem.W.typeIn K (.ref S) == some (.type "type")) = true := by
    have h2' : (PySem.W.clsIn K S).isSome = true := h2
    rw [h2', h3] <;> rfl
  show (if (PySem.W.subIn K (.ref S) (.type "BaseException") == some true) = true then (if ((PySem.W.clsIn K S).isSome && PySem.W.typeIn K (.ref S) == some (.type "type")) = true then PySem.W.subIn K (.ref S) (.ref S) else none) else none) = some true
  rw [if_pos e1, if_pos e2]
  exact h4
end L2

/-! Exc2: defs that may raise Refused, told on data -/
namespace Mir
open PySem PySem.Spec PyProof.Rows L2
abbrev xdW (v : V) : HO := .xd [(("what" : Str), v)]
/-- what a def that may raise gives -/
inductive Rz where
  | ok (d : PyData)
  | ex (d : PyData)
inductive RzA where
  | ok (ds : List PyData)
  | ex (d : PyData)
inductive OutX where
  | nx (e : En)
  | bk (e : En)
  | ct (e : En)
  | rt (d : PyData)
  | rs (e : En) (d : PyData)
  | bad
def OutOkX (K : PySem.W.Frag) (C : Addr) (W : WX) (S0 : Addr → Prop) (H0 : Hp) (A : Addr → Prop) (H : Hp) (o : OutX) (D : Ends) : Prop := match o with
  | .nx e => OutOk K S0 H0 A H (.nx e) D
  | .bk e => OutOk K S0 H0 A H (.bk e) D
  | .ct e => OutOk K S0 H0 A H (.ct e) D
  | .rt d => OutOk K S0 H0 A H (.rt d) D
  | .rs e d => ∀ A' H' σ' dx v, EnvOk K S0 H0 A' H' σ' e → Fr A H H' → Sb A H A' → H' dx = some (xdW v) → Rp K (Cl S0 H0 A') H' d v → W (.ref C) (some dx) σ' H'
  | .bad => False
def tSX (K : PySem.W.Frag) (C : Addr) (W : WX) (f : En → OutX) : TS := fun D σ H => ∃ S0 H0 A env, EnvOk K S0 H0 A H σ env ∧ OutOkX K C W S0 H0 A H (f env) D
def upO : Out → OutX
  | .nx e => .nx e
  | .bk e => .bk e
  | .ct e => .ct e
  | .rt d => .rt d
  | .bad => .bad
def up (s : En → Out) : En → OutX := fun env => upO (s env)
section
variable {K : PySem.W.Frag} {C : Addr} {W : WX} {S0 S : Addr → Prop} {H0 H H' H'' : Hp} {A A' A'' : Addr → Prop} {σ : L2.St} {env : En} {D : Ends}
theorem OutOkX.step {o : OutX} (h : OutOkX K C W S0 H0 A H o D) (f : Fr A H H') (s : Sb A H A') : OutOkX K C W S0 H0 A' H' o D := by
  cases o with
  | nx e => exact OutOk.step (o := .nx e) h f s
  | bk e => exact OutOk.step (o := .bk e) h f s
  | ct e => exact OutOk.step (o := .ct e) h f s
  | rt d => exact OutOk.step (o := .rt d) h f s
  | rs e d => exact fun A2 H2 σ2 dx v E f2 s2 hx r => h A2 H2 σ2 dx v E (f.trans s f2) (Sb.trans f s s2) hx r
  | bad => exact h
theorem up_ok {o : Out} (h : OutOkX K C W S0 H0 A H (upO o) D) : OutOk K S0 H0 A H o D := by cases o <;> exact h
end
section
variable {X : Cx} {C fI : Addr} {W : WX} {e a b : Expr} {es : List Expr} {st : Stmt} {sts : List Stmt} {pos pos' : Pos} {c c1 c2 : Bool} {f : En → Option PyData} {fa : En → Option (List PyData)} {fx : En → Option Rz} {s t : En → OutX} {ga : En → Option Bool}
/-! ### statements -/
theorem sx_up {s : En → Out} (h : PS X st (tS X.K s)) : PS X st (tSX X.K C W (up s)) := ps_w h fun D σ H ⟨S0, H0, A, env, E, o⟩ => ⟨S0, H0, A, env, E, up_ok o⟩
def xNil : En → OutX := fun env => .nx env
def xSeq (s t : En → OutX) : En → OutX := fun env => match s env with
  | .nx e => t e
  | .bk e => .bk e
  | .ct e => .ct e
  | .rt d => .rt d
  | .rs e d => .rs e d
  | .bad => .bad
theorem sx_nil : PSs X [] (tSX X.K C W xNil) := pss_w pss_nil fun D σ H ⟨S0, H0, A, env, E, o⟩ => o A H σ E Fr.refl Sb.refl
theorem sx_one (h1 : PS X st (tSX X.K C W s)) : PSs X [st] (tSX X.K C W s) := pss_one h1
theorem sx_cons (h1 : PS X st (tSX X.K C W s)) (h2 : PSs X sts (tSX X.K C W t)) : PSs X (st :: sts) (tSX X.K C W (xSeq s t)) := pss_w (pss_cons h1 h2) fun D σ H ⟨S0, H0, A, env, E, o⟩ => by
  refine ⟨S0, H0, A, env, E, ?_⟩
  unfold xSeq at o
  cases hs : s env with
  | nx e =>
    rw [hs] at o
    exact fun A' H' σ' E' f' b' => ⟨S0, H0, A', e, E', OutOkX.step o f' b'⟩
  | bk e => rw [hs] at o; exact o
  | ct e => rw [hs] at o; exact o
  | rt d => rw [hs] at o; exact o
  | rs e d => rw [hs] at o; exact o
  | bad => rw [hs] at o; exact o
theorem sx_frz {i : Nat} (h : PS X st (tSX X.K C W s)) : PS X st (tSX X.K C W fun env => s (frz i env)) := ps_w h fun D σ H ⟨S0, H0, A, env, E, o⟩ => by
  obtain ⟨A', E', w⟩ := E.frz i
  exact ⟨S0, H0, A', _, E', OutOkX.step o Fr.refl fun a z => .inl (w a z)⟩
def xIf (ga : En → Option Bool) (s t : En → OutX) : En → OutX := fun env => match ga env with
  | some true => s env
  | some false => t env
  | none => .bad
theorem sx_if {a b : List Stmt} (hc : PT X e (tT X.K ga)) (ha : PSs X a (tSX X.K C W s)) (hb : PSs X b (tSX X.K C W t)) : PS X (.If e a b pos) (tSX X.K C W (xIf ga s t)) := ps_w (ps_if hc ha hb) fun D σ H ⟨S0, H0, A, env, E, o⟩ => by
  unfold xIf at o
  cases hd : ga env with
  | none => rw [hd] at o; exact o.elim
  | some k =>
    rw [hd] at o
    refine ⟨S0, H0, A, env, k, E, hd, fun H' sm => ?_⟩
    cases k with
    | true => exact iteT <| ⟨S0, H0, A, env, E.grow sm, OutOkX.step o (Fr.of_same sm) Sb.refl⟩
    | false => exact iteF <| ⟨S0, H0, A, env, E.grow sm, OutOkX.step o (Fr.of_same sm) Sb.refl⟩
def loopX (g : PyData → En → Option En) (b : En → OutX) : List PyData → En → OutX
  | [], e => .nx e
  | d :: ds, e => match g d e with
    | none => .bad
    | some e1 => match b e1 with
      | .nx e2 => loopX g b ds e2
      | .ct e2 => loopX g b ds e2
      | .bk e2 => .nx e2
      | .rt v => .rt v
      | .rs e2 v => .rs e2 v
      | .bad => .bad
def xFor (f : En → Option (List PyData)) (g : PyData → En → Option En) (b : En → OutX) : En → OutX := fun env => match f env with
  | some ds => loopX g b ds env
  | none => .bad
theorem forX_run {K : PySem.W.Frag} {σ : L2.St} {H : Hp} {f : En → Option (List PyData)} {g : PyData → En → Option En} {b : En → OutX} {vs : List Nat} {D : Ends} (h : tSX K C W (xFor f g b) D σ H) : tFor (tI K true f) (tG K vs g) (tSX K C W b) D σ H := by
  obtain ⟨S0, H0, A, env, E, o⟩ := h
  unfold xFor at o
  cases hd : f env with
  | none => rw [hd] at o; exact o.elim
  | some ds =>
    rw [hd] at o
    refine ⟨S0, H0, A, env, ds, E, hd, fun J H1 G s _ gF wk => ?_⟩
    refine ⟨fun i m σ' H' => m = ds.length - i ∧ i ≤ ds.length ∧ ∃ A' env', EnvOk K S0 H0 A' H' σ' env' ∧ Fr A H1 H' ∧ Sb A H1 A' ∧ OutOkX K C W S0 H0 A' H' (loopX g b (ds.drop i) env') D,
      ⟨_, rfl, Nat.zero_le _, A, env, E.grow s, Fr.refl, Sb.refl, OutOkX.step o (Fr.of_same s) Sb.refl⟩, ?_⟩
    rintro i m σ' H' ⟨rfl, hi, A', env', E', f', b', o'⟩
    by_cases hlt : i < ds.length
    · have hdr : ds.drop i = ds[i] :: ds.drop (i + 1) := List.drop_eq_getElem_cons hlt
      rw [hdr] at o'
      refine .inr ⟨wk.go i H' (gF rfl H' f') hlt, fun σ2 H2 => ∃ A2 e2, EnvOk K S0 H0 A2 H2 σ2 e2 ∧ Fr A H1 H2 ∧ Sb A H1 A2 ∧ OutOkX K C W S0 H0 A2 H2 (loopX g b (ds.drop (i + 1)) e2) D, ?_, fun x Hx y => ?_⟩
      · rintro σ2 H2 ⟨A2, e2, z⟩
        exact ⟨ds.length - (i + 1), by omega, rfl, hlt, A2, e2, z⟩
      · obtain ⟨sx, rx⟩ := wk.yld i H' _ x Hx (gF rfl H' f') (List.getElem?_eq_getElem hlt) y
        have rx' : Rp K (Cl S0 H0 A') Hx ds[i] x := rx.wide fun a z => ⟨z.1.1, fun y => by
          rcases b' a y with k | k
          · exact z.1.2 k
          · exact z.2 k⟩
        simp only [loopX] at o'
        cases hg : g ds[i] env' with
        | none => rw [hg] at o'; exact o'.elim
        | some e1 =>
          rw [hg] at o'
          refine ⟨S0, H0, A', env', _, e1, E'.grow sx, rx', hg, fun σ1 E1 _ => ⟨S0, H0, A', e1, E1, ?_⟩⟩
          have fs : Fr A' H' Hx := Fr.of_same sx
          cases hb : b e1 with
          | nx e2 =>
            simp only [hb] at o'
            exact fun A2 H2 σ2 E2 f2 b2 => ⟨A2, e2, E2, f'.trans b' (fs.trans Sb.refl f2), Sb.trans f' b' (Sb.trans fs Sb.refl b2), OutOkX.step o' (fs.trans Sb.refl f2) (Sb.trans fs Sb.refl b2)⟩
          | ct e2 =>
            simp only [hb] at o'
            exact fun A2 H2 σ2 E2 f2 b2 => ⟨A2, e2, E2, f'.trans b' (fs.trans Sb.refl f2), Sb.trans f' b' (Sb.trans fs Sb.refl b2), OutOkX.step o' (fs.trans Sb.refl f2) (Sb.trans fs Sb.refl b2)⟩
          | bk e2 =>
            simp only [hb] at o'
            exact fun A2 H2 σ2 E2 f2 b2 => o' A2 H2 σ2 E2 (fs.trans Sb.refl f2) (Sb.trans fs Sb.refl b2)
          | rt v => simp only [hb] at o'; exact o'
          | rs e2 v =>
            simp only [hb] at o'
            exact fun A2 H2 σ2 dx u E2 f2 b2 hx r => o' A2 H2 σ2 dx u E2 (fs.trans Sb.refl f2) (Sb.trans fs Sb.refl b2) hx r
          | bad => simp only [hb] at o'; exact o'
    · have hdr : ds.drop i = [] := List.drop_eq_nil_of_le (by omega)
      rw [hdr] at o'
      exact .inl ⟨wk.stop i H' (gF rfl H' f') (by omega), o' A' H' σ' E' Fr.refl Sb.refl⟩
theorem sx_for {tg iter : Expr} {f : En → Option (List PyData)} {g : PyData → En → Option En} {b : En → OutX} {vs : List Nat} {body : List Stmt} (hp : PassesOwn (model X.prog X.w) X.A X.env X.xe) (hc : X.calm = true) (hi : PI X tg iter (tI X.K true f)) (hg : PG X tg (tG X.K vs g)) (hb : PSs X body (tSX X.K C W b)) (hs : ∀ x, foldedSetIterable iter X.env x = pure x := by intro _; rfl) :
    PS X (.For tg iter body [] pos) (tSX X.K C W (xFor f g b)) := ps_w (ps_for hp hc hi hg hb hs) fun _ _ _ q => forX_run q
/-- raise Refused(e) -/
def xRaise (f : En → Option PyData) : En → OutX := fun env => match f env with
  | some d => .rs env d
  | none => .bad
theorem sx_raise (h : PS X st (tRaiseRf C W (tCons (tE X.K true f) tNil))) : PS X st (tSX X.K C W (xRaise f)) := ps_w h fun D σ H ⟨S0, H0, A, env, E, o⟩ => by
  unfold xRaise at o
  cases hd : f env with
  | none => rw [hd] at o; exact o.elim
  | some d =>
    rw [hd] at o
    refine ⟨S0, H0, A, env, d, E, hd, fun v H1 s1 r1 => ⟨v, rfl, fun dx hdx => ?_⟩⟩
    exact o A _ σ dx v (E.grow (s1.trans (same_new hdx))) (Fr.of_same (s1.trans (same_new hdx))) Sb.refl upd_same ((r1.wide fun _ z => cl_sc z).grow (same_new hdx))
/-! ### expressions that may raise -/
def tX (K : PySem.W.Frag) (C : Addr) (W : WX) (c : Bool) (f : En → Option Rz) : TE := fun σ H Q => ∃ S0 H0 A env r, EnvOk K S0 H0 A H σ env ∧ f env = some r ∧ match r with
  | .ok d => ∀ v H', Same H H' → Rp K (SC c S0 H0 A) H' d v → Q v H'
  | .ex d => ∀ dx v H', Same H H' → H' dx = some (xdW v) → Rp K (SC true S0 H0 A) H' d v → W (.ref C) (some dx) σ H'
def tAX (K : PySem.W.Frag) (C : Addr) (W : WX) (c : Bool) (f : En → Option RzA) : TA := fun σ H Q => ∃ S0 H0 A env r, EnvOk K S0 H0 A H σ env ∧ f env = some r ∧ match r with
  | .ok ds => ∀ vs H', Same H H' → RpA K (SC c S0 H0 A) H' ds vs → Q vs H'
  | .ex d => ∀ dx v H', Same H H' → H' dx = some (xdW v) → Rp K (SC true S0 H0 A) H' d v → W (.ref C) (some dx) σ H'
def spX (K : PySem.W.Frag) (C : Addr) (g : List PyData → Option Rz) : Sp := fun vs H Q E => ∃ S ds r, RpA K S H ds vs ∧ g ds = some r ∧ match r with
  | .ok d => ∀ v H', Same H H' → Rp K (Bd S H) H' d v → Q v H'
  | .ex d => ∀ dx v H', Same H H' → H' dx = some (xdW v) → Rp K (Bd S H) H' d v → E (.ref C) (some dx) H'
def xOk (f : En → Option PyData) : En → Option Rz := fun env => (f env).map .ok
theorem xe_ok (h : PE X e (tE X.K c f)) : PE X e (tX X.K C W c (xOk f)) := pe_w h fun σ H Q ⟨S0, H0, A, env, r, E, hf, q⟩ => by
  unfold xOk at hf
  cases hd : f env with
  | none => rw [hd] at hf; cases hf
  | some d => rw [hd] at hf; cases hf; exact ⟨S0, H0, A, env, d, E, hd, q⟩
def xaOk (fa : En → Option (List PyData)) : En → Option RzA := fun env => (fa env).map .ok
theorem xa_ok (h : PA X es (tA X.K c fa)) : PA X es (tAX X.K C W c (xaOk fa)) := pa_w h fun σ H Q ⟨S0, H0, A, env, r, E, hf, q⟩ => by
  unfold xaOk at hf
  cases hd : fa env with
  | none => rw [hd] at hf; cases hf
  | some d => rw [hd] at hf; cases hf; exact ⟨S0, H0, A, env, d, E, hd, q⟩
/-- the first argument may raise, the others not -/
def xaCons (fx : En → Option Rz) (fa : En → Option (List PyData)) : En → Option RzA := fun env => match fx env with
  | some (.ok d) => match fa env with
    | some ds => some (.ok (d :: ds))
    | none => none
  | some (.ex d) => some (.ex d)
  | none => none
theorem xa_cons (ha : PE X e (tX X.K C W c fx)) (hr : PA X es (tA X.K c fa)) (hs : starEach (e :: es) X.env = (false, eval e X.env) :: starEach es X.env := by rfl) : PA X (e :: es) (tAX X.K C W c (xaCons fx fa)) := pa_w (pa_cons ha hr hs) fun σ H Q ⟨S0, H0, A, env, r, E, hf, q⟩ => by
  unfold xaCons at hf
  split at hf
  · rename_i d hd
    split at hf
    · rename_i ds hds
      cases hf
      exact ⟨S0, H0, A, env, .ok d, E, hd, fun v H1 s1 r1 => ⟨S0, H0, A, env, ds, E.grow s1, hds, fun vs H2 s2 r2 => q _ H2 (s1.trans s2) (RpA.cons (r1.grow s2) r2)⟩⟩
    · cases hf
  · rename_i d hd
    cases hf
    exact ⟨S0, H0, A, env, .ex d, E, hd, q⟩
  · cases hf
/-- a call of a def that may raise -/
def xCall (g : List PyData → Option Rz) (fa : En → Option RzA) : En → Option Rz := fun env => match fa env with
  | some (.ok ds) => g ds
  | some (.ex d) => some (.ex d)
  | none => none
theorem xe_call {gd : List PyData → Option Rz} {fa : En → Option RzA} (h : PE X e (tCallS (spX X.K C gd) (WE W) (tAX X.K C W true fa))) : PE X e (tX X.K C W c (xCall gd fa)) := pe_w h fun σ H Q ⟨S0, H0, A, env, r, En, hf, q⟩ => by
  unfold xCall at hf
  split at hf
  · rename_i ds hd
    refine ⟨S0, H0, A, env, .ok ds, En, hd, fun vs H1 s1 r1 => ⟨Cl S0 H0 A, ds, r, r1.wide fun _ z => cl_sc z, hf, ?_⟩⟩
    cases r with
    | ok d => exact fun v H2 s2 r2 => q v H2 (s1.trans s2) (r2.wide fun _ z => bd_sc (En.grow s1) z)
    | ex d => exact fun dx v H2 s2 hx r2 => q dx v H2 (s1.trans s2) hx (r2.wide fun _ z => bd_sc (En.grow s1) z)
  · rename_i d hd
    cases hf
    exact ⟨S0, H0, A, env, .ex d, En, hd, q⟩
  · cases hf
/-- a call of a def that raises nothing, of arguments the first of which may -/
def xCall0 (g : List PyData → Option PyData) (fa : En → Option RzA) : En → Option Rz := fun env => match fa env with
  | some (.ok ds) => (g ds).map .ok
  | some (.ex d) => some (.ex d)
  | none => none
theorem xe_call0 {gd : List PyData → Option PyData} {fa : En → Option RzA} {E0 : XK} (h : PE X e (tCall (spF X.K gd) [] E0 (tAX X.K C W true fa))) : PE X e (tX X.K C W c (xCall0 gd fa)) := pe_w h fun σ H Q ⟨S0, H0, A, env, r, En, hf, q⟩ => by
  unfold xCall0 at hf
  split at hf
  · rename_i ds hd
    refine ⟨S0, H0, A, env, .ok ds, En, hd, fun vs H1 s1 r1 => ?_⟩
    cases hg : gd ds with
    | none => rw [hg] at hf; cases hf
    | some d =>
      rw [hg] at hf
      cases hf
      show spF X.K gd (vs ++ []) H1 Q E0
      rw [List.append_nil]
      exact ⟨Cl S0 H0 A, ds, d, r1.wide fun _ z => cl_sc z, hg, fun v H2 s2 r2 => q v H2 (s1.trans s2) (r2.wide fun _ z => bd_sc (En.grow s1) z)⟩
  · rename_i d hd
    cases hf
    exact ⟨S0, H0, A, env, .ex d, En, hd, q⟩
  · cases hf
/-- a built-in of such arguments -/
theorem xe_cb {sc : Bool} {r : List V → Hp → VK → Prop} {h : List PyData → Option PyData} {fa : En → Option RzA} (R : CROk X.K sc r h) (he : PE X e (tCB r (tAX X.K C W c1 fa))) (hc : sc = true ∨ c2 = c1 := by first | exact .inl rfl | exact .inr rfl) : PE X e (tX X.K C W c2 (xCall0 h fa)) := pe_w he fun σ H Q ⟨S0, H0, A, env, z, E, hf, q⟩ => by
  unfold xCall0 at hf
  split at hf
  · rename_i ds hd
    refine ⟨S0, H0, A, env, .ok ds, E, hd, fun vs H1 s1 r1 => ?_⟩
    cases hg : h ds with
    | none => rw [hg] at hf; cases hf
    | some d =>
      rw [hg] at hf
      cases hf
      exact R (SC c1 S0 H0 A) (SC c2 S0 H0 A) H1 vs ds d Q (fun p hp => sc_new (E.grow s1) hp) (hc.imp id fun z => by rw [z]) r1 hg fun v H2 s2 r2 => q v H2 (s1.trans s2) r2
  · rename_i d hd
    cases hf
    exact ⟨S0, H0, A, env, .ex d, E, hd, q⟩
  · cases hf
/-- x op y, y may raise -/
def x2 (h : PyData → PyData → Option PyData) (f : En → Option PyData) (g : En → Option Rz) : En → Option Rz := fun env => match f env with
  | some x => match g env with
    | some (.ok y) => (h x y).map .ok
    | some (.ex d) => some (.ex d)
    | none => none
  | none => none
theorem xe_op {op : Operator} {r : R2} {h : PyData → PyData → Option PyData} {sc : Bool} {g : En → Option Rz} (ho : OpR X (binaryOp op) r) (R : R2Ok X.K sc r h) (ha : PE X a (tE X.K c1 f)) (hb : PE X b (tX X.K C W c1 g)) (hc : sc = true ∨ c2 = c1 := by first | exact .inl rfl | exact .inr rfl) :
    PE X (.BinOp a op b pos) (tX X.K C W c2 (x2 h f g)) := pe_w (pe_op ho ha hb) fun σ H Q ⟨S0, H0, A, env, z, E, hf, q⟩ => by
  unfold x2 at hf
  split at hf
  · rename_i x hx
    refine ⟨S0, H0, A, env, x, E, hx, fun v H1 s1 r1 => ?_⟩
    split at hf
    · rename_i y hy
      refine ⟨S0, H0, A, env, .ok y, E.grow s1, hy, fun u H2 s2 r2 => ?_⟩
      cases hg : h x y with
      | none => rw [hg] at hf; cases hf
      | some d =>
        rw [hg] at hf
        cases hf
        exact R (SC c1 S0 H0 A) (SC c2 S0 H0 A) H2 v u x y d Q (fun p hp => sc_new (E.grow (s1.trans s2)) hp) (hc.imp id fun z => by rw [z]) (r1.grow s2) r2 hg fun z H3 s3 r3 => q z H3 ((s1.trans s2).trans s3) r3
    · rename_i d hd
      cases hf
      exact ⟨S0, H0, A, env, .ex d, E.grow s1, hd, fun dx v H2 s2 hx r2 => q dx v H2 (s1.trans s2) hx r2⟩
    · cases hf
  · cases hf
/-- [e], e may raise -/
def xLst (fa : En → Option RzA) : En → Option Rz := fun env => match fa env with
  | some (.ok ds) => if ds.length ≤ 1000000 then some (.ok (.list ds)) else none
  | some (.ex d) => some (.ex d)
  | none => none
theorem xe_lst {fa : En → Option RzA} (h : PA X es (tAX X.K C W c fa)) : PE X (.List es pos) (tX X.K C W c (xLst fa)) := pe_w (pe_lst h) fun σ H Q ⟨S0, H0, A, env, r, E, hf, q⟩ => by
  unfold xLst at hf
  split at hf
  · rename_i ds hd
    split at hf
    · rename_i hl
      cases hf
      refine ⟨S0, H0, A, env, .ok ds, E, hd, fun vs H1 s1 r1 => ⟨by rw [r1.length]; exact sz6 hl, fun p hp => q _ _ (s1.trans (same_new hp)) ?_⟩⟩
      rw [Rp]
      exact ⟨p, vs, rfl, .inl ⟨sc_new (E.grow s1) hp, .inl upd_same⟩, r1.grow (same_new hp)⟩
    · cases hf
  · rename_i d hd
    cases hf
    exact ⟨S0, H0, A, env, .ex d, E, hd, q⟩
  · cases hf
/-- list(e), e may raise -/
def xList (g : En → Option Rz) : En → Option Rz := fun env => match g env with
  | some (.ok (.list ds)) => some (.ok (.list ds))
  | some (.ok (.tuple ds)) => some (.ok (.list ds))
  | some (.ex d) => some (.ex d)
  | _ => none
theorem xe_list {g : En → Option Rz} (h : PE X e (tCB (fun xs H Q => ∃ p ys, xs = [.ref p] ∧ (SqL X.K H p ys ∨ SqT X.K H p ys) ∧ ∀ l, H l = none → Q (.ref l) (upd H l (.lst ys))) (tCons (tX X.K C W true g) tNil))) : PE X e (tX X.K C W c (xList g)) := pe_w h fun σ H Q ⟨S0, H0, A, env, r, E, hf, q⟩ => by
  unfold xList at hf
  split at hf
  · rename_i ds hd
    cases hf
    refine ⟨S0, H0, A, env, _, E, hd, fun v H1 s1 r1 => ?_⟩
    rw [Rp] at r1
    obtain ⟨p, xs, rfl, hs, ra⟩ := r1
    refine ⟨p, xs, rfl, .inl hs.sq, fun l hl => q _ _ (s1.trans (same_new hl)) ?_⟩
    rw [Rp]
    exact ⟨l, xs, rfl, .inl ⟨sc_new (E.grow s1) hl, .inl upd_same⟩, (ra.wide fun _ z => sc_cl (cl_sc z)).grow (same_new hl)⟩
  · rename_i ds hd
    cases hf
    refine ⟨S0, H0, A, env, _, E, hd, fun v H1 s1 r1 => ?_⟩
    rw [Rp] at r1
    obtain ⟨p, xs, rfl, hs, ra⟩ := r1
    refine ⟨p, xs, rfl, .inr (live_t hs), fun l hl => q _ _ (s1.trans (same_new hl)) ?_⟩
    rw [Rp]
    exact ⟨l, xs, rfl, .inl ⟨sc_new (E.grow s1) hl, .inl upd_same⟩, (ra.wide fun _ z => sc_cl (cl_sc z)).grow (same_new hl)⟩
  · rename_i d hd
    cases hf
    exact ⟨S0, H0, A, env, .ex d, E, hd, q⟩
  · cases hf
/-! ### statements of such expressions -/
theorem rs_of {K : PySem.W.Frag} {S0 : Addr → Prop} {H0 H H' : Hp} {A : Addr → Prop} {σ : L2.St} {env : En} {D : Ends} {d : PyData} (E : EnvOk K S0 H0 A H σ env) (o : OutOkX K C W S0 H0 A H (.rs env d) D) {dx : Addr} {v : V} (s : Same H H') (hx : H' dx = some (xdW v)) (r : Rp K (SC true S0 H0 A) H' d v) : W (.ref C) (some dx) σ H' :=
  o A H' σ dx v (E.grow s) (Fr.of_same s) Sb.refl hx (r.wide fun _ z => cl_sc z)
def xSet (i : Nat) (fx : En → Option Rz) : En → OutX := fun env => match fx env with
  | some (.ok d) => .nx (env.set i (.val d))
  | some (.ex d) => .rs env d
  | none => .bad
theorem sx_set {i : Nat} (h : PS X st (tAsg (tX X.K C W true fx) (gName i))) : PS X st (tSX X.K C W (xSet i fx)) := ps_w h fun D σ H ⟨S0, H0, A, env, E, o⟩ => by
  unfold xSet at o
  split at o
  · rename_i d hd
    exact ⟨S0, H0, A, env, _, E, hd, fun v H' s r => o A H' _ ((E.grow s).set_val (r.wide fun _ z => cl_sc z)) (Fr.of_same s) Sb.refl⟩
  · rename_i d hd
    exact ⟨S0, H0, A, env, _, E, hd, fun dx v H' s hx r => rs_of E o s hx r⟩
  · exact o.elim
def xUnp (fx : En → Option Rz) (g : PyData → En → Option En) : En → OutX := fun env => match fx env with
  | some (.ok d) => match g d env with
    | some e => .nx e
    | none => .bad
  | some (.ex d) => .rs env d
  | none => .bad
theorem sx_unp {g : PyData → En → Option En} {vs : List Nat} (h : PS X st (tAsg (tX X.K C W true fx) (tG X.K vs g))) : PS X st (tSX X.K C W (xUnp fx g)) := ps_w h fun D σ H ⟨S0, H0, A, env, E, o⟩ => by
  unfold xUnp at o
  split at o
  · rename_i d hd
    split at o
    · rename_i e hg
      exact ⟨S0, H0, A, env, _, E, hd, fun v H1 s r => ⟨S0, H0, A, env, d, e, E.grow s, r.wide fun _ z => cl_sc z, hg, fun σ' E' _ => o A H1 σ' E' (Fr.of_same s) Sb.refl⟩⟩
    · exact o.elim
  · rename_i d hd
    exact ⟨S0, H0, A, env, _, E, hd, fun dx v H' s hx r => rs_of E o s hx r⟩
  · exact o.elim
def xRet (fx : En → Option Rz) : En → OutX := fun env => match fx env with
  | some (.ok d) => .rt d
  | some (.ex d) => .rs env d
  | none => .bad
theorem sx_ret (h : PE X e (tX X.K C W true fx)) : PS X (.Return (some e) pos) (tSX X.K C W (xRet fx)) := ps_w (ps_ret h) fun D σ H ⟨S0, H0, A, env, E, o⟩ => by
  unfold xRet at o
  split at o
  · rename_i d hd
    exact ⟨S0, H0, A, env, _, E, hd, fun v H' sm r => o v H' (E.same.trans sm) (r.wide fun _ z => (cl_sc z).1)⟩
  · rename_i d hd
    exact ⟨S0, H0, A, env, _, E, hd, fun dx v H' s hx r => rs_of E o s hx r⟩
  · exact o.elim
/-! ### try .. except Refused as e -/
def wipeO (i : Nat) : Out → Out
  | .nx e => .nx (e.set i .un)
  | .bk e => .bk (e.set i .un)
  | .ct e => .ct (e.set i .un)
  | .rt d => .rt d
  | .bad => .bad
open Classical in
noncomputable def sTry (i : Nat) (body : En → OutX) (suite : Addr → Addr → En → Out) : En → Out := fun env => match body env with
  | .nx e => .nx e
  | .bk e => .bk e
  | .ct e => .ct e
  | .rt d => .rt d
  | .bad => .bad
  | .rs e d => if h : ∃ o, ∀ a dd, wipeO i (suite a dd (e.set i (.exc a dd d))) = o then Classical.choose h else .bad
theorem EnvOk.set_exc {K : PySem.W.Frag} {S0 : Addr → Prop} {H0 H : Hp} {A : Addr → Prop} {σ : L2.St} {env : En} (E : EnvOk K S0 H0 A H σ env) {i : Nat} {a dd : Addr} {d : PyData} {u : V} (h1 : H dd = some (xdW u)) (h2 : Rp K (Cl S0 H0 A) H d u) : EnvOk K S0 H0 A H (σ.set i (some (.ref a))) (env.set i (.exc a dd d)) where
  len := by simp [E.len]
  sl := fun j s q => by
    rcases set_get q with ⟨rfl, l, rfl⟩ | ⟨n, q⟩
    · exact .inr ⟨_, set_self (by rw [E.len]; exact l), rfl, u, h1, h2⟩
    · rw [set_other n]
      exact E.sl j s q
  dis := fun j k s t b q1 q2 o1 o2 q3 q4 => by
    rcases set_get q1 with ⟨_, _, z⟩ | ⟨n1, q1⟩
    · subst z; cases o1
    rcases set_get q2 with ⟨_, _, z⟩ | ⟨n2, q2⟩
    · subst z; cases o2
    rw [set_other n1] at q3
    rw [set_other n2] at q4
    exact E.dis j k s t b q1 q2 o1 o2 q3 q4
  tr := E.tr
  nw := E.nw
  same := E.same
theorem pss_ex {ι : Type} {P : ι → Prop} {t : ι → TS} (h : ∀ i, P i → PSs X sts (t i)) : PSs X sts (fun D σ H => ∃ i, P i ∧ t i D σ H) := ⟨fun pins s σ H D I ⟨i, p, q⟩ => (h i p).run pins s σ H D I q⟩
/-- what the suite's text does to data, the exception at a, its dict at dd -/
def tsE (K : PySem.W.Frag) (C : Addr) (suite : Addr → Addr → En → Out) : Addr → Value → Option Addr → TS := fun a cls dx D σ H => ∃ dd, (cls = .ref C ∧ dx = some dd) ∧ tS K (suite a dd) D σ H
open Classical in
theorem cs_tryAs {i : Nat} {body : En → OutX} {suite : Addr → Addr → En → Out} {Wout : WX} (T : PySem.RfX.RfTxt X.prog X.K X.mg C fI) (h : PS X st (fun D σ H => tSX X.K C (wAs X.K (.ref C) i (tsE X.K C suite) Wout D) body D σ H)) : PS X st (tS X.K (sTry i body suite)) := ps_w h fun D σ H ⟨S0, H0, A, env, E, o⟩ => by
  refine ⟨S0, H0, A, env, E, ?_⟩
  unfold sTry at o
  cases hb : body env with
  | nx e => rw [hb] at o; exact o
  | bk e => rw [hb] at o; exact o
  | ct e => rw [hb] at o; exact o
  | rt d => rw [hb] at o; exact o
  | bad => rw [hb] at o; exact o
  | rs e d =>
    rw [hb] at o
    intro A' H' σ' dx v E' f' b' hx r
    refine ⟨true, T.te, fun _ a ha => ?_, fun q => nomatch q⟩
    replace o : OutOk X.K S0 H0 A H (if h : ∃ o, ∀ a dd, wipeO i (suite a dd (e.set i (.exc a dd d))) = o then Classical.choose h else .bad) D := o
    split at o
    · rename_i hex
      have hch := Classical.choose_spec hex a dx
      refine ⟨dx, ⟨rfl, rfl⟩, S0, H0, A', _, E'.set_exc (a := a) (dd := dx) hx r, ?_⟩
      have o' := OutOk.step o f' b'
      rw [← hch] at o'
      cases hs : suite a dx (e.set i (.exc a dx d)) with
      | nx e2 =>
        rw [hs] at o'
        exact fun A2 H2 σ2 E2 f2 b2 => o' A2 H2 _ (E2.un i none) f2 b2
      | bk e2 =>
        rw [hs] at o'
        exact fun A2 H2 σ2 E2 f2 b2 => o' A2 H2 _ (E2.un i none) f2 b2
      | ct e2 =>
        rw [hs] at o'
        exact fun A2 H2 σ2 E2 f2 b2 => o' A2 H2 _ (E2.un i none) f2 b2
      | rt v2 => rw [hs] at o'; exact o'
      | bad => rw [hs] at o'; exact o'.elim
    · exact o.elim
/-- try .. except Refused, without a name -/
def sTry0 (body : En → OutX) (suite : En → Out) : En → Out := fun env => match body env with
  | .nx e => .nx e
  | .bk e => .bk e
  | .ct e => .ct e
  | .rt d => .rt d
  | .bad => .bad
  | .rs e _ => suite e
theorem cs_try0 {body : En → OutX} {suite : En → Out} {Wout : WX} (T : PySem.RfX.RfTxt X.prog X.K X.mg C fI) (h : PS X st (fun D σ H => tSX X.K C (wOnly X.K (.ref C) (fun _ _ _ => tS X.K suite) Wout D) body D σ H)) : PS X st (tS X.K (sTry0 body suite)) := ps_w h fun D σ H ⟨S0, H0, A, env, E, o⟩ => by
  refine ⟨S0, H0, A, env, E, ?_⟩
  unfold sTry0 at o
  cases hb : body env with
  | nx e => rw [hb] at o; exact o
  | bk e => rw [hb] at o; exact o
  | ct e => rw [hb] at o; exact o
  | rt d => rw [hb] at o; exact o
  | bad => rw [hb] at o; exact o
  | rs e d =>
    rw [hb] at o
    intro A' H' σ' dx v E' f' b' hx r
    exact ⟨true, T.te, fun _ a ha => ⟨S0, H0, A', e, E', OutOk.step o f' b'⟩, fun q => nomatch q⟩
open Classical in
theorem sTry_ev {i : Nat} {body : En → OutX} {suite : Addr → Addr → En → Out} {env e : En} {d : PyData} {o : Out} (h1 : body env = .rs e d) (h2 : ∀ a dd, wipeO i (suite a dd (e.set i (.exc a dd d))) = o) : sTry i body suite env = o := by
  unfold sTry
  rw [h1]
  have hex : ∃ o, ∀ a dd, wipeO i (suite a dd (e.set i (.exc a dd d))) = o := ⟨o, h2⟩
  show (if h : _ then Classical.choose h else .bad) = o
  rw [dif_pos hex]
  rw [← Classical.choose_spec hex 0 0, h2]
/-- e.what -/
def eWhat (i : Nat) (a dd : Addr) : En → Option PyData := fun env => match env[i]? with
  | some (.exc a' dd' d) => if a' = a ∧ dd' = dd then some d else none
  | _ => none
theorem ce_what {i : Nat} {a dd : Addr} {oe : Obj} {cls : Value} {dx : Option Addr} {pn : List (Addr × Obj)} (T : PySem.RfX.RfTxt X.prog X.K X.mg C fI) (hz : Zc cls dx oe) (hf : ∃ vs, oe.data = .fields vs) (h1 : cls = .ref C) (h2 : dx = some dd) (he : PE (X.suite a ((a, oe) :: pn)) e (tVar i))
    (hb : attributeBase e "what" X.env (eval e X.env) = eval e X.env := by rfl) : PE (X.suite a ((a, oe) :: pn)) (.Attribute e "what" pos) (tE X.K true (eWhat i a dd)) := pe_w (pe_byRf T hz hf he hb) fun σ H Q ⟨S0, H0, A, env, d, E, hd, q⟩ => by
  unfold eWhat at hd
  split at hd
  · rename_i a' dd' d' hi
    split at hd
    · rename_i hh
      cases hd
      obtain ⟨rfl, rfl⟩ := hh
      rcases E.sl i _ hi with z | ⟨v, k1, rfl, u, k2, k3⟩
      · cases z
      exact ⟨_, k1, rfl, h1, dd', u, h2, k2, q u H (Same.refl H) (k3.wide fun _ z => sc_cl z)⟩
    · cases hd
  · cases hd
end
/-! ### a def -/
def outDX : OutX → Option Rz
  | .rt d => some (.ok d)
  | .nx _ => some (.ok .none)
  | .rs _ d => some (.ex d)
  | _ => none
def gDefX (np nN : Nat) (fB : En → OutX) : List PyData → Option Rz := fun ds => if ds.length = np then outDX (fB (env0 nN ds)) else none
section
variable {K : PySem.W.Frag} {P : Program} {w : World} {mg : Str → Option Value} {base : Heap} {C : Addr}
theorem start_ok {N : List Str} {ds : List PyData} {vs : List V} {S : Addr → Prop} {H : Hp} (r : RpA K S H ds vs) : EnvOk K S H (fun _ => False) H (L2.start N vs) (env0 N.length ds) := by
  have h : spF K (gDef ds.length N.length fun _ => .rt .none) vs H (fun _ _ => True) (fun _ _ _ => True) := ⟨S, ds, .none, r, by unfold gDef; rw [if_pos rfl]; rfl, fun _ _ _ _ => trivial⟩
  refine ⟨?_, fun i s e => ?_, fun i j es fs a e1 _ o1 => ?_, fun _ z => z.elim, fun _ z => z.elim, Same.refl H⟩
  · simp [L2.start, env0, r.length]
  · unfold env0 at e
    by_cases hi : i < ds.length
    · rw [List.getElem?_append_left (by simpa using hi), List.getElem?_map, List.getElem?_eq_getElem hi] at e
      cases e
      obtain ⟨v, e1, e2⟩ := r.get (List.getElem?_eq_getElem hi)
      refine .inr ⟨v, ?_, e2.wide fun a z => ⟨.inl z, fun y => y⟩⟩
      unfold L2.start
      rw [List.getElem?_append_left (by simpa [r.length] using hi), List.getElem?_map, e1]
      rfl
    · rw [List.getElem?_append_right (by simpa using Nat.le_of_not_lt hi)] at e
      exact .inl (List.eq_of_mem_replicate (List.mem_of_getElem? e))
  · exfalso
    unfold env0 at e1
    by_cases hi : i < ds.length
    · rw [List.getElem?_append_left (by simpa using hi), List.getElem?_map, List.getElem?_eq_getElem hi] at e1
      cases e1
      cases o1
    · rw [List.getElem?_append_right (by simpa using Nat.le_of_not_lt hi)] at e1
      cases (List.eq_of_mem_replicate (List.mem_of_getElem? e1))
      cases o1
theorem def_runX {N : List Str} {np : Nat} {fB : En → OutX} {vs : List V} {H : Hp} {Q : VK} {E : XK} (h : spX K C (gDefX np N.length fB) vs H Q E) : tSX K C (fun cls d _ H => E cls d H) fB { nx := fun _ H' => Q .non H', rt := Q } (L2.start N vs) H := by
  obtain ⟨S, ds, z, r, hg, q⟩ := h
  unfold gDefX at hg
  split at hg
  · refine ⟨S, H, fun _ => False, env0 N.length ds, start_ok r, ?_⟩
    cases ho : fB (env0 N.length ds) with
    | rt v => rw [ho] at hg; cases hg; exact q
    | nx e => rw [ho] at hg; cases hg; exact fun A' H' σ' E' _ _ => q _ H' E'.same (by rw [Rp])
    | bk e => rw [ho] at hg; cases hg
    | ct e => rw [ho] at hg; cases hg
    | rs e d => rw [ho] at hg; cases hg; exact fun A' H' σ' dx v E' _ _ hx r => q dx v H' E'.same hx (r.wide fun _ z => z.1)
    | bad => rw [ho] at hg; cases hg
  · cases hg
theorem fn_okX {x qual : Str} {st : Stmt} {f : Addr} {fd : FuncData} {N ps : List Str} {k np nN : Nat} {fB : En → OutX} {g : List PyData → Option Rz} (F : Fun K x qual st f fd) (S : FnScope N ps (defScope st)) (hp : np = ps.length) (hN : nN = N.length) (hg : g = gDefX np nN fB)
    (hb : ∀ (cdv : Value) (A : Around) (outer : List Env) (s : Shared) (H : Hp) (E : XK), Room k (A.deeper (envOfC qual (defScope st) s.heap.objs.size f cdv)) → PSs (cxOf (L2.CX P w) P w K mg base N qual (defScope st) f cdv A outer s H E) (defBody st) (tSX K C (fun cls d _ H => E cls d H) fB)) :
    FnOk P w K mg base (L2.CX P w) (k + 1) f fd ps (spX K C g) := by
  subst hp hN hg
  refine F.okX S (fun vs H Q E h => ?_) fun cdv A outer s H vs Q E hr h => ⟨_, hb cdv A outer s H E hr, def_runX h⟩
  obtain ⟨S', ds, d, r, hg, _⟩ := h
  unfold gDefX at hg
  split at hg
  · rw [r.length]; assumption
  · cases hg
end
end Mir

namespace Mir
open PySem PySem.Spec PyProof.Rows L2
section
variable {X : Cx} {e a b : Expr} {st : Stmt} {pos p : Pos} {c c1 c2 : Bool} {f g : En → Option PyData} {x : Str}
/-! ### a dict of the module with text keys and text values -/
def eKd (tab : List (Str × Str)) (g : En → Option PyData) : En → Option PyData := fun env => match g env with
  | some (.str z) => (tab.find? fun q => decide (q.1 = z)).map fun q => .str q.2
  | _ => none
theorem ce_kd {tab : List (Str × Str)} {d : Addr} (hg : Gl X x) (hm : X.mg x = some (.ref d)) (D : ∀ q ∈ tab, KDct X.K X.w d q.1 (.str q.2)) (hb : PE X b (tE X.K c1 g)) (hs : PlainIx b) (hd : (x == ("__debug__" : Str)) = false := by decide) : PE X (.Subscript (.Name x p) b pos) (tE X.K true (eKd tab g)) :=
  pe_w (pe_ix ix_kdict (pe_glob (v := .ref d) hg hm rfl hd) hb hs) fun σ H Q ⟨S0, H0, A, env, z, E, hf, q⟩ => by
    unfold eKd at hf
    split at hf
    · rename_i y hy
      cases hk : tab.find? fun q => decide (q.1 = y) with
      | none => rw [hk] at hf; cases hf
      | some r =>
        rw [hk] at hf
        cases hf
        have h1 := List.find?_some hk
        have h2 := List.mem_of_find?_eq_some hk
        refine ⟨S0, H0, A, env, _, E, hy, fun u H1 s1 r1 => ?_⟩
        rw [Rp] at r1
        have e1 : r.1 = y := by simpa using h1
        exact ⟨d, y, .str r.2, rfl, r1, e1 ▸ D r h2, q _ H1 s1 rps⟩
    · cases hf
/-! ### x.bit_length() -/
def bitsD : PyData → Option PyData
  | .int i => some (.int (Builtin.Int.intBits i : Nat))
  | _ => none
theorem ce_bits (h : PE X e (tBits (tE X.K c1 f))) : PE X e (tE X.K c (e1 bitsD f)) := pe_w h fun σ H Q ⟨S0, H0, A, env, d, E, hf, q⟩ => by
  unfold e1 at hf
  split at hf
  · rename_i x hx
    refine ⟨S0, H0, A, env, _, E, hx, fun v H1 s1 r1 => ?_⟩
    cases x with
    | int i =>
      rw [Rp] at r1
      cases hf
      exact ⟨i, r1, q _ H1 s1 (by rw [Rp])⟩
    | _ => cases hf
  · cases hf
/-! ### a def that may raise, called where it doesn't -/
def eCallNR (g : List PyData → Option Rz) (fa : En → Option (List PyData)) : En → Option PyData := fun env => match fa env with
  | some ds => match g ds with
    | some (.ok d) => some d
    | _ => none
  | none => none
theorem ce_callNR {C : Addr} {gd : List PyData → Option Rz} {fa : En → Option (List PyData)} (h : PE X e (tCallS (spX X.K C gd) (WE fun _ _ _ _ => False) (tA X.K true fa))) : PE X e (tE X.K c (eCallNR gd fa)) := pe_w h fun σ H Q ⟨S0, H0, A, env, r, En, hf, q⟩ => by
  unfold eCallNR at hf
  split at hf
  · rename_i ds hd
    split at hf
    · rename_i d hg
      cases hf
      exact ⟨S0, H0, A, env, ds, En, hd, fun vs H1 s1 r1 => ⟨Cl S0 H0 A, ds, .ok _, r1.wide fun _ z => cl_sc z, hg, fun v H2 s2 r2 => q v H2 (s1.trans s2) (r2.wide fun _ z => bd_sc (En.grow s1) z)⟩⟩
    · cases hf
  · cases hf
/-! ### a, b = x, y -/
def sPar (i j : Nat) (fa : En → Option (List PyData)) : En → Out := fun env => match fa env with
  | some [d1, d2] => .nx ((env.set i (.val d1)).set j (.val d2))
  | _ => .bad
theorem cs_par {i j : Nat} {fa : En → Option (List PyData)} (h : PS X st (tPar i j (tA X.K true fa))) : PS X st (tS X.K (sPar i j fa)) := ps_w h fun D σ H ⟨S0, H0, A, env, E, o⟩ => by
  unfold sPar at o
  split at o
  · rename_i d1 d2 hd
    refine ⟨S0, H0, A, env, _, E, hd, fun vs H1 s1 r1 => ?_⟩
    obtain ⟨v, u, rfl, r2, r3⟩ := r1.two
    exact ⟨v, u, rfl, o A H1 _ (((E.grow s1).set_val (r2.wide fun _ z => cl_sc z)).set_val (r3.wide fun _ z => cl_sc z)) (Fr.of_same s1) Sb.refl⟩
  · exact o.elim
/-! ### max over a tuple -/
def rMxT (K : PySem.W.Frag) (k : Int → List Int → Int) : List V → Hp → VK → Prop := fun vs H Q => ∃ a n ns, vs = [.ref a] ∧ SqT K H a ((n :: ns).map V.int) ∧ Q (.int (k n ns)) H
theorem call_mxT (hc : X.calm = true) (hu : X.A.units + 64 < cLine) : CallR X (.builtin "max") (rMxT X.K mxI) := by
  intro pins s σ H vs us Q I r h
  obtain ⟨a, n, ns, rfl, hs, q⟩ := h
  obtain ⟨its, rv, hl, _⟩ := I.tuple hs
  rw [Vals.ref1 r]
  obtain ⟨as, ra⟩ := readsInts (h := s.heap) rv
  refine PySem.W.max_tuple_data (I.ok.hd hc) hl (by rw [List.toList_toArray]; exact ra) (alike_ints (n :: ns)) (by rw [show PyData.int n :: ns.map PyData.int = (n :: ns).map PyData.int from rfl, depth_ints]; omega) fun i v h' tk bs hi rr k => ?_
  rw [PySem.W.maxD_ints] at rr
  obtain ⟨t, rfl⟩ := reads_int rr
  exact ⟨.int _, H, I.kept (t' := tk) k, ⟨_, rfl⟩, by rw [mxI_max]; exact q⟩
def mxTA (k : Int → List Int → Int) : List PyData → Option PyData
  | [.tuple ds] => match intsD ds with
    | some (n :: ns) => some (.int (k n ns))
    | _ => none
  | _ => none
theorem cr_mxT {K : PySem.W.Frag} {k : Int → List Int → Int} : CROk K true (rMxT K k) (mxTA k) := by
  intro S S' H vs ds d Q _ _ r h q
  unfold mxTA at h
  split at h
  · replace r := r.one
    obtain ⟨v, rfl, r⟩ := r
    rw [Rp] at r
    obtain ⟨a, xs, rfl, hs, ra⟩ := r
    split at h
    · rename_i n ns hi
      cases h
      obtain ⟨e1, _⟩ := intsD_rp hi ra
      subst e1
      exact ⟨a, n, ns, rfl, live_t hs, q _ H (Same.refl H) rp1⟩
    · cases h
  · cases h
end
end Mir

/-! Mir11: a def handed over as the first argument, and called by its local name -/
namespace Mir
open PySem PySem.Spec PyProof.Rows L2
section
variable {K : PySem.W.Frag} {P : Program} {w : World} {mg : Str → Option Value} {base : Heap} {C : Addr}
def env1 (a : Addr) (nN : Nat) (ds : List PyData) : En := .fn a :: env0 (nN - 1) ds
def gDef1 (a : Addr) (np nN : Nat) (fB : En → Out) : List PyData → Option PyData := fun ds => if ds.length = np then outD (fB (env1 a nN ds)) else none
def sp1 (a : Addr) (sp : Sp) : Sp := fun vs H Q E => ∃ us, vs = .ref a :: us ∧ sp us H Q E
theorem EnvOk.cons_fn {S : Addr → Prop} {H : Hp} {σ : L2.St} {env : En} {a : Addr} (E : EnvOk K S H (fun _ => False) H σ env) (no : ∀ s ∈ env, ow s = false) : EnvOk K S H (fun _ => False) H (some (.ref a) :: σ) (.fn a :: env) where
  len := by simp [E.len]
  sl := fun i s h => by
    cases i with
    | zero => cases h; exact .inr ⟨_, rfl, rfl⟩
    | succ i => exact E.sl i s h
  dis := fun i j s t b h1 h2 o1 o2 _ _ => by
    exfalso
    cases i with
    | zero => cases h1; cases o1
    | succ i =>
      have := no s (List.mem_of_getElem? h1)
      rw [this] at o1
      cases o1
  tr := fun _ z => z.elim
  nw := fun _ z => z.elim
  same := E.same
theorem env0_ow (nN : Nat) (ds : List PyData) : ∀ s ∈ env0 nN ds, ow s = false := fun s h => by
  unfold env0 at h
  rcases List.mem_append.mp h with h | h
  · obtain ⟨d, _, rfl⟩ := List.mem_map.mp h
    rfl
  · rw [List.eq_of_mem_replicate h]
    rfl
theorem start_ok1 {N : List Str} {ds : List PyData} {us : List V} {S : Addr → Prop} {H : Hp} {a : Addr} (hN : N ≠ []) (r : RpA K S H ds us) : EnvOk K S H (fun _ => False) H (L2.start N (.ref a :: us)) (env1 a N.length ds) := by
  cases N with
  | nil => exact absurd rfl hN
  | cons x N =>
    have e : L2.start (x :: N) (.ref a :: us) = some (.ref a) :: L2.start N us := by
      unfold L2.start
      rw [List.map_cons, List.length_cons, List.length_cons, Nat.add_sub_add_right]
      rfl
    rw [e]
    exact (start_ok (N := N) r).cons_fn (env0_ow _ _)
theorem def_run1 {N : List Str} {np : Nat} {fB : En → Out} {vs : List V} {H : Hp} {Q : VK} {E : XK} {a : Addr} (hN : N ≠ []) (h : sp1 a (spF K (gDef1 a np N.length fB)) vs H Q E) : tS K fB { nx := fun _ H' => Q .non H', rt := Q } (L2.start N vs) H := by
  obtain ⟨us, rfl, S, ds, d, r, hg, q⟩ := h
  unfold gDef1 at hg
  split at hg
  · refine ⟨S, H, fun _ => False, env1 a N.length ds, start_ok1 hN r, ?_⟩
    cases ho : fB (env1 a N.length ds) with
    | rt v =>
      rw [ho] at hg
      cases hg
      exact q
    | nx e =>
      rw [ho] at hg
      cases hg
      exact fun A' H' σ' E' _ _ => q _ H' E'.same (by rw [Rp])
    | bk e => rw [ho] at hg; cases hg
    | ct e => rw [ho] at hg; cases hg
    | bad => rw [ho] at hg; cases hg
  · cases hg
theorem fn_ok1 {x qual : Str} {st : Stmt} {f a : Addr} {fd : FuncData} {N ps : List Str} {k np nN : Nat} {fB : En → Out} {g : List PyData → Option PyData} (F : Fun K x qual st f fd) (S : FnScope N ps (defScope st)) (hp : np + 1 = ps.length) (hN : nN = N.length) (hn : N ≠ []) (hg : g = gDef1 a np nN fB)
    (hb : ∀ (cdv : Value) (A : Around) (outer : List Env) (s : Shared) (H : Hp) (E : XK), Room k (A.deeper (envOfC qual (defScope st) s.heap.objs.size f cdv)) → PSs (cxOf CX0 P w K mg base N qual (defScope st) f cdv A outer s H E).nox (defBody st) (tS K fB)) :
    FnOk P w K mg base CX0 (k + 1) f fd ps (sp1 a (spF K g)) := by
  subst hN hg
  refine F.ok S (fun vs H Q E h => ?_) fun cdv A outer s H vs Q E hr h => ⟨_, hb cdv A outer s H E hr, def_run1 hn h⟩
  obtain ⟨us, rfl, S', ds, d, r, hg, _⟩ := h
  unfold gDef1 at hg
  split at hg
  · rw [List.length_cons, r.length, ← hp]; omega
  · cases hg
open Classical in
/-- whatever the address -/
noncomputable def gAll (g : Addr → List PyData → Option PyData) : List PyData → Option PyData := fun ds => if h : ∃ d, ∀ a, g a ds = some d then some (Classical.choose h) else none
theorem gAll_of {g : Addr → List PyData → Option PyData} {ds : List PyData} {d : PyData} (h : gAll g ds = some d) (a : Addr) : g a ds = some d := by
  unfold gAll at h
  split at h
  · rename_i hx
    cases h
    exact Classical.choose_spec hx a
  · cases h
theorem gAll_ev {g : Addr → List PyData → Option PyData} {ds : List PyData} {d : PyData} (h : ∀ a, g a ds = some d) : gAll g ds = some d := by
  have hx : ∃ d, ∀ a, g a ds = some d := ⟨d, h⟩
  unfold gAll
  rw [dif_pos hx, ← Classical.choose_spec hx 0, h]
theorem fn_imp1 {k : Nat} {f a : Addr} {fd : FuncData} {ps : List Str} {g : Addr → List PyData → Option PyData} (F : FnOk P w K mg base CX0 k f fd ps (sp1 a (spF K (g a)))) : FnOk P w K mg base CX0 k f fd ps (sp1 a (spF K (gAll g))) :=
  F.imp fun vs H Q E ⟨us, e, S, ds, d, r, hg, q⟩ => ⟨us, e, S, ds, d, r, gAll_of hg a, q⟩
end
section
variable {X : Cx} {CX : CXT} {k i : Nat} {f a : Addr} {fd : FuncData} {ps : List Str} {sp : Sp} {x : Str} {p pos : Pos} {e : Expr} {es : List Expr} {t : TA} {c : Bool} {fa : En → Option (List PyData)} {gd : List PyData → Option PyData}
/-- h(def, ..) -/
theorem ce_call1 {E0 : XK} (h : PE X e (tCall (sp1 a (spF X.K gd)) [] E0 (tCons (tC (.ref a)) (tA X.K true fa)))) : PE X e (tE X.K c (eCall gd fa)) := pe_w h fun σ H Q q => by
  have z := call_run (E := E0) q
  obtain ⟨S0, H0, A, env, ds, En, hd, q⟩ := z
  refine ⟨S0, H0, A, env, ds, En, hd, fun vs H1 s1 r1 => ?_⟩
  exact ⟨vs ++ [], rfl, q vs H1 s1 r1⟩
/-- the def in slot i, called; it may raise -/
def tCallLS (i : Nat) (f : Addr) (sp : Sp) (E : L2.St → XK) (t : TA) : TE := fun σ H Q => σ[i]? = some (some (.ref f)) ∧ t σ H fun vs H1 => sp vs H1 Q (E σ)
theorem pe_callLS {E : L2.St → XK} (F : FnOk X.prog X.w X.K X.mg X.base CX k f fd ps sp) (hr : Room k X.A) (hN : X.N[i]? = some x) (hv : Vis X.env.scope x) (hk : PySem.W.keepIn X.K (.ref f) = true) (hb : Binds X.K fd ps []) (hx : ∀ σ, PassesAt CX X σ (E σ)) (ha : PA X (e :: es) t)
    (hdb : (x == ("__debug__" : Str)) = false := by decide) (hcd : (x == ("__classdict__" : Str)) = false := by decide)
    (he : starEach (e :: es) X.env = (false, eval e X.env) :: starEach es X.env := by rfl) (hpl : (backTo pos (starEach es X.env)).any (·.1) = false := by rfl) : PE X (.Call (.Name x p) (e :: es) [] pos) (tCallLS i f sp E t) := by
  refine ⟨fun pins s σ H Q I h => ?_⟩
  obtain ⟨hs, ht⟩ := h
  refine wpAny_Call_Name_kw (thn ((pe_var (pos := p) hN hv hdb hcd).run pins s σ H (fun v H1 => v = .ref f ∧ H1 = H) I ⟨.ref f, hs, rfl, rfl⟩) fun u s1 ⟨v, H1, I1, r1, q1⟩ => ?_)
  obtain ⟨rfl, rfl⟩ := q1
  cases r1
  refine PySem.W.callWith_K (h₀ := X.base) I.ok.mod.kin hk (thn (ha.run pos pins s1 σ _ _ I1 ht) fun us s2 ⟨vs, H2, I2, r, q⟩ => ⟨I2.kIn, ?_⟩) he hpl
  exact run_fnS F hr hb (hx σ) I2 r q
def xCallF (i : Nat) (a : Addr) (g : List PyData → Option Rz) (fa : En → Option RzA) : En → Option Rz := fun env => match env[i]? with
  | some (.fn b) => if b = a then xCall g fa env else none
  | _ => none
theorem xe_callF {C : Addr} {W : WX} {gx : List PyData → Option Rz} {fx : En → Option RzA} (hs : PE X e (tCallLS i a (spX X.K C gx) (WE W) (tAX X.K C W true fx))) : PE X e (tX X.K C W c (xCallF i a gx fx)) := pe_w hs fun σ H Q ⟨S0, H0, A, env, r, En, hf, q⟩ => by
  unfold xCallF at hf
  split at hf
  · rename_i b hb
    split at hf
    · rename_i e
      subst e
      have h1 : σ[i]? = some (some (.ref b)) := by
        rcases En.sl i _ hb with z | ⟨v, h1, h2⟩
        · cases z
        · rw [h1, (show v = .ref b from h2)]
      refine ⟨h1, ?_⟩
      unfold xCall at hf
      split at hf
      · rename_i ds hd
        refine ⟨S0, H0, A, env, .ok ds, En, hd, fun vs H1 s1 r1 => ⟨Cl S0 H0 A, ds, r, r1.wide fun _ z => cl_sc z, hf, ?_⟩⟩
        cases r with
        | ok d => exact fun v H2 s2 r2 => q v H2 (s1.trans s2) (r2.wide fun _ z => bd_sc (En.grow s1) z)
        | ex d => exact fun dx v H2 s2 hx r2 => q dx v H2 (s1.trans s2) hx (r2.wide fun _ z => bd_sc (En.grow s1) z)
      · rename_i d hd
        cases hf
        exact ⟨S0, H0, A, env, .ex d, En, hd, q⟩
      · cases hf
    · cases hf
  · cases hf
end
end Mir

/-! Mir12: x.extend(y), y any list that is told as data -/
namespace Mir
open PySem PySem.Spec PyProof.Rows L2
theorem sub_list_tuple' : isSubtype (.type "list") (.type "tuple") = pure false := by rw [isSubtype_type]; kernel_rfl
theorem list_extend_any (l : Addr) (items : Array Value) (n : Nat) (b : Addr) (items2 : Array Value) (n2 : Nat) (sl : Array (Option Value)) (hc0 : ¬(!items.isEmpty && Builtin.List.listTooLong (items.size + items2.size)) = true) (hc1 : items.size ≤ sizeLine) (hs2 : items.size + items2.size ≤ sizeLine + 1) :
    Meets (Builtin.«list.extend» ⟨[.ref l, .ref b], []⟩) (fun _ R s => s.heap.get? l = some { cls := .type "list", dict := none, data := .seq items n, slots := #[] } ∧ s.heap.get? b = some { cls := .type "list", dict := none, data := .seq items2 n2, slots := sl } ∧ R (.ok (.ret Value.none)) { s with heap := s.heap.update l (Obj.mapSeq fun x => x ++ items2), toks := s.toks }) :=
  .of_wp fun prog w A R s h => by
    obtain ⟨hp, g, d, tk, os⟩ := s; obtain ⟨hl, hb, h⟩ := h; have f1 := AutoSeq1.idx_int; have f2 := AutoSeq1.sub_tuple_tuple; have f3 := AutoSeq1.sub_list_list; have f4 := AutoSeq1.sub_tuple_list; have f5 := AutoSeq1.sub_list_tuple;
    have hz' : (items ++ items2).size ≤ sizeLine + 1 := by rw [Array.size_append]; exact hs2
    wp_walk using (wpAny_updateSeq hl rfl (hz := hc1) (_hz' := hz')), wpAny_loadPart' hl, wpAny_loadPart' hb; exact ⟨_, rfl, h⟩
def rExtA (K : PySem.W.Frag) : V → List V → Hp → VK → Prop := fun x vs H Q => ∃ l b xs zs, x = .ref l ∧ vs = [.ref b] ∧ H l = some (.lst xs) ∧ SqL K H b zs ∧ xs.length + zs.length ≤ sizeLine ∧ Q .non (upd H l (.lst (xs ++ zs)))
section
variable {X : Cx} {st : Stmt} {f : En → Option PyData}
theorem mt_extA : MtM X "list.extend" (rExtA X.K) := by
  intro pins s σ H x vs v us Q I rx rv h
  obtain ⟨l, b, xs, zs, rfl, rfl, hH, hB, hz, q⟩ := h
  cases rx
  obtain ⟨u, rfl, ru⟩ := rv.one
  cases ru
  obtain ⟨z, its, n, r, hl, e⟩ := I.lstM hH
  obtain ⟨its2, r2, ⟨⟨cls, dd, data, sl⟩, n2, e2, hc, hd, hs⟩, z2⟩ := I.list hB
  simp only at hc hd hs
  subst hc hd hs
  have hl2 := r2.length
  have hsz : its.toArray.size + its2.toArray.size ≤ sizeLine := by rw [List.size_toArray, List.size_toArray]; omega
  have hlong : ¬ (!its.toArray.isEmpty && Builtin.List.listTooLong (its.toArray.size + its2.toArray.size)) = true := by
    rw [notLongL hsz, Bool.and_false]
    exact Bool.false_ne_true
  refine call_meets F.slot_list_extend ⟨_, e, rfl⟩ F.entry_list_extend (F.args_list_extend_2 _ _)
    (list_extend_any l its.toArray n b its2.toArray n2 sl hlong (by rw [List.size_toArray]; omega) (by omega)) ⟨e, e2, ?_⟩
  refine ⟨.non, _, I.lset (its' := its ++ its2) hH e (by simp) (r.append r2) ?_, rfl, q⟩
  rw [List.length_append]
  omega
def sExt (i : Nat) (f : En → Option PyData) : En → Out := fun env => match f env with
  | some (.list es) => match env[i]? with
    | some (.own ds) => if ds.length + es.length < 1000000 then .nx (env.set i (.own (ds ++ es))) else .bad
    | _ => .bad
  | _ => .bad
theorem cs_ext {i : Nat} (h : PS X st (tDrop (tBM X.K "list" (rExtA X.K) (tVar i) (tCons (tE X.K true f) tNil)))) : PS X st (tS X.K (sExt i f)) := ps_w h fun D σ H ⟨S0, H0, A, env, E, o⟩ => by
  unfold sExt at o
  split at o
  · rename_i es hd
    split at o
    · rename_i ds hi
      split at o
      · rename_i hl
        rcases E.sl i _ hi with z | ⟨v, h1, a, xs, rfl, ha, hh, r⟩
        · cases z
        refine ⟨_, h1, .inl ⟨rfl, xs, .inl (.inl hh)⟩, S0, H0, A, env, _, E, hd, fun v H' s r' => ?_⟩
        have E' := E.grow s
        rw [Rp] at r'
        obtain ⟨b, zs, rfl, hb, rz⟩ := r'
        refine ⟨a, b, xs, zs, rfl, rfl, s _ _ hh, hb.sq, ?_, ?_⟩
        · rw [r.length, rz.length]
          exact Nat.le_of_lt (Nat.lt_of_lt_of_le hl (by decide))
        · have q := RpA.append (r.grow s) (rz.wide fun _ z => cl_sc z)
          refine o A _ σ (E'.mut hi h1 ha (s _ _ hh) q) (fun b u e n => ?_) Sb.refl
          have nb : b ≠ a := fun z => n (z ▸ ha)
          rw [upd_ne nb]
          exact s _ _ e
      · exact o.elim
    · exact o.elim
  · exact o.elim
end
end Mir

/-! Mir13: min(xs, key=def), told on data; the order of data -/
namespace Mir
open PySem PySem.Spec PyProof.Rows L2

/-- what a search for the least by a def needs, the state told by the best so far; Bk: an item has been drawn -/
structure LeastRun (pg : Program) (wd : World) (Ar : Around) (fd S I : Addr) (len : Nat) (C0 : Shared → Prop) (D0 : Shared → Value → Prop) (Cj : Nat → Shared → Value → Value → Prop)
    (Ej : Shared → Value → Prop) (Bk : Nat → Shared → Value → Value → Value → Prop) : Prop where
  put : ∀ j s b k up, Cj j s b k → Cj j { s with heap := s.heap.update S up, toks := s.toks } b k
  putE : ∀ s b up, Ej s b → Ej { s with heap := s.heap.update S up, toks := s.toks } b
  draw0 : ∀ s o (Qx : Option Value → Shared → Prop) (Ex : Value → Shared → Prop), C0 s → s.heap.get? S = some o → (∀ x t, D0 t x → t.heap.get? S = some o → Qx (some x) t) → wpAny (model pg wd) Ar (pyNext (.ref I)) Qx Ex s
  first : ∀ s x o (Qx : Value → Shared → Prop) (Ex : Value → Shared → Prop), D0 s x → s.heap.get? S = some o → (∀ v, o.data ≠ .cell v) → (∀ k t, Cj 0 t x k → t.heap.get? S = some o → Qx k t) → wpAny (model pg wd) Ar (call (.ref fd) [x]) Qx Ex s
  draw : ∀ j s b kb o (Qx : Option Value → Shared → Prop) (Ex : Value → Shared → Prop), j + 1 < len → Cj j s b kb → s.heap.get? S = some o → (∀ x t, Bk j t b kb x → t.heap.get? S = some o → Qx (some x) t) → wpAny (model pg wd) Ar (pyNext (.ref I)) Qx Ex s
  stop : ∀ j s b kb o (Qx : Option Value → Shared → Prop) (Ex : Value → Shared → Prop), j + 1 = len → Cj j s b kb → s.heap.get? S = some o → (∀ t, Ej t b → t.heap.get? S = some o → Qx none t) → wpAny (model pg wd) Ar (pyNext (.ref I)) Qx Ex s
  next : ∀ j s b kb x o (Qx : Value → Shared → Prop) (Ex : Value → Shared → Prop), j + 1 < len → Bk j s b kb x → s.heap.get? S = some o → (∀ v, o.data ≠ .cell v) →
    (∀ k t, t.heap.get? S = some o → (∀ (Qy : Value → Shared → Prop) (Ey : Value → Shared → Prop), (∀ r, (r = true → Cj (j + 1) t x k) → (r = false → Cj (j + 1) t b kb) → Qy (.bool r) t) → wpAny (model pg wd) Ar (richCompare .Lt k kb) Qy Ey t) → Qx k t) →
    wpAny (model pg wd) Ar (call (.ref fd) [x]) Qx Ex s

section
variable {pg : Program} {wd : World} {Ar : Around} {fd S I : Addr} {len : Nat} {C0 : Shared → Prop} {D0 : Shared → Value → Prop} {Cj : Nat → Shared → Value → Value → Prop} {Ej : Shared → Value → Prop}
  {Bk : Nat → Shared → Value → Value → Value → Prop} {Rs : Result → Shared → Prop}
theorem nm_loop : (toString "min" ++ toString ".loop" : String) = "min.loop" := by decide
theorem least_loop (L : LeastRun pg wd Ar.in1 fd S I len C0 D0 Cj Ej Bk) (kws : List (Str × Value)) : ∀ (rest j : Nat) (s : Shared) (b kb : Value) (c : Nat),
    len - (j + 1) = rest → j + 1 ≤ len → Cj j s b kb → s.heap.get? S = some { cls := .type "list", dict := none, data := .seq #[b, kb] c, slots := #[] } → (∀ b' t, Ej t b' → Rs (.ok (.ret b')) t) →
    codeAny (model pg wd) Ar (.builtin "min.loop" ⟨[.ref I, (.ref fd), .ref S], kws⟩) Rs s
  | 0, j, s, b, kb, c, e0, hj, hC, hS, hR => by
    refine codeAny_builtin F.entry_min_loop ?_
    rw [Around.under_plainId F.plain_min_loop _]
    refine wpAny_bind (wpAny_seqItems hS rfl ?_)
    refine wpAny_bind (wpAny_tryCatch (L.stop j s b kb _ _ _ (by omega) hC hS fun t hE hS1 => ?_))
    refine wpAny_bind ?_
    refine wpAny_updateSeq hS1 rfl (wpAny_bind (wpAny_letGo (wpAny_pure ?_)))
    exact hR b _ (L.putE _ _ _ hE)
  | rest + 1, j, s, b, kb, c, e0, hj, hC, hS, hR => by
    have hlt : j + 1 < len := by omega
    refine codeAny_builtin F.entry_min_loop ?_
    rw [Around.under_plainId F.plain_min_loop _]
    refine wpAny_bind (wpAny_seqItems hS rfl ?_)
    refine wpAny_bind (wpAny_tryCatch (L.draw j s b kb _ _ _ hlt hC hS fun x t hD hS1 => ?_))
    refine wpAny_bind (wpAny_tryCatch (wpAny_holding (L.next j t b kb x _ _ _ hlt hD hS1 (fun v z => by cases z) fun k t2 hS2 hB => ?_)))
    refine wpAny_bind (wpAny_tryCatch (wpAny_holding (wpAny_bind (hB _ _ fun r ht hf => ?_))))
    refine wpAny_bind (wpAny_holding (wpAny_truthy_bool ?_))
    refine wpAny_bind (wpAny_letGo (wpAny_pure ?_))
    cases r with
    | true =>
      simp only [if_true]
      refine wpAny_bind ?_
      refine wpAny_updateSeq hS2 rfl (wpAny_bind (wpAny_letGo ?_))
      rw [nm_loop]
      exact wpAny_pure ⟨plainId_quiet F.plain_min_loop _, least_loop L kws rest (j + 1) _ x k _ (by omega) hlt (L.put _ _ _ _ _ (ht rfl)) (Heap.get?_update_self _ hS2 rfl) hR⟩
    | false =>
      simp only [Bool.false_eq_true, if_false]
      refine wpAny_bind (wpAny_letGo ?_)
      rw [nm_loop]
      exact wpAny_pure ⟨plainId_quiet F.plain_min_loop _, least_loop L kws rest (j + 1) _ b kb c (by omega) hlt (hf rfl) hS2 hR⟩
theorem least_first (L : LeastRun pg wd Ar.in1 fd S I len C0 D0 Cj Ej Bk) (kws : List (Str × Value)) (hn : 0 < len) {s : Shared} {c : Nat} (hC : C0 s)
    (hS : s.heap.get? S = some { cls := .type "list", dict := none, data := .seq #[] c, slots := #[] }) (hR : ∀ b' t, Ej t b' → Rs (.ok (.ret b')) t) :
    codeAny (model pg wd) Ar (.builtin "min.loop" ⟨[.ref I, (.ref fd), .ref S], kws⟩) Rs s := by
  refine codeAny_builtin F.entry_min_loop ?_
  rw [Around.under_plainId F.plain_min_loop _]
  refine wpAny_bind (wpAny_seqItems hS rfl ?_)
  refine wpAny_bind (wpAny_tryCatch (L.draw0 s _ _ _ hC hS fun x t hD hS1 => ?_))
  refine wpAny_bind (wpAny_tryCatch (wpAny_holding (L.first t x _ _ _ hD hS1 (fun v z => by cases z) fun k t2 hC2 hS2 => ?_)))
  refine wpAny_bind ?_
  refine wpAny_updateSeq hS2 rfl ?_
  rw [nm_loop]
  exact wpAny_pure ⟨plainId_quiet F.plain_min_loop _, least_loop L kws _ 0 _ x k _ rfl hn (L.put _ _ _ _ _ hC2) (Heap.get?_update_self _ hS2 rfl) hR⟩
theorem call_least {x : Value} {Qx : Value → Shared → Prop} {Ex : Value → Shared → Prop} {s : Shared}
    (h : wpAny (model pg wd) Ar.in1 (pyIter x) (fun it t => ∃ I len C0 D0 Cj Ej Bk, it = .ref I ∧ 0 < len ∧ LeastRun pg wd Ar.in1 fd t.heap.objs.size I len C0 D0 Cj Ej Bk ∧
      C0 { t with heap := t.heap.push { cls := .type "list", data := .seq #[] 0 }, toks := t.toks } ∧ ∀ b' t', Ej t' b' → Qx b' t') Ex s) :
    wpAny (model pg wd) Ar (call (.builtin "min") [x] [(Str.ofString "key", .ref fd)]) Qx Ex s := by
  refine PyProof.Rows.kmk_tree F.kind_min F.plain_min F.entry_min (PyProof.Rows.kmk_min_key _ _) ?_
  refine wpAny_bind (wpAny_of_eq (show Builtin.Builtins.bindParams "min" ["key", "default"] 0 ⟨[], [(Str.ofString "key", Value.ref fd)]⟩ = pure [some (Value.ref fd), none] from rfl) ?_)
  refine wpAny_bind (wpAny_pure ?_)
  refine wpAny_bind (wpAny_mono h (fun it t ht => ?_) fun _ _ z => z)
  obtain ⟨I, len, C0, D0, Cj, Ej, Bk, rfl, hn, L, hC, hQ⟩ := ht
  refine wpAny_bind (wpAny_newObj_type ?_)
  rw [nm_loop]
  exact wpAny_pure ⟨plainId_quiet F.plain_min_loop _, least_first L _ hn hC (Heap.get?_push_size _ rfl) hQ⟩
end

section
variable {X : Cx} {k : Nat} {f : Addr} {fd : FuncData} {ps : List Str} {g : List PyData → Option PyData} {pins : List (Addr × Obj)} {σ : L2.St} {H H1 : Hp} {s : Shared} {S I l : Addr} {i : Nat}
/-- the state in the midst of the search: the walk over the list at l stands at i, S holds the best -/
structure Mid (X : Cx) (pins : List (Addr × Obj)) (σ : L2.St) (H : Hp) (S I l : Addr) (i : Nat) (H1 : Hp) (s : Shared) : Prop where
  inv : Inv X pins σ H1 s
  same : Same H H1
  fS : FpOk X pins H1 S
  fI : FpOk X pins H1 I
  ne : S ≠ I
  it : s.heap.IsListIter I l i
theorem Mid.put (M : Mid X pins σ H S I l i H1 s) (up : Obj → Obj) : Mid X pins σ H S I l i H1 { s with heap := s.heap.update S up, toks := s.toks } := by
  obtain ⟨f0, f1, f2, f3, f4, f5⟩ := id M.fS
  refine ⟨M.inv.turned (it := S) (fun b o hb e => (Heap.get?_update_other _ _ (Ne.symm hb)).trans e) f0 f1 f3 f4 f5, M.same, M.fS, M.fI, M.ne, ?_⟩
  obtain ⟨o, e, z⟩ := M.it
  exact ⟨o, (Heap.get?_update_other _ _ M.ne).trans e, z⟩
/-- the next item -/
theorem Mid.draw {xs : List V} {Qx : Option Value → Shared → Prop} {Ex : Value → Shared → Prop} (M : Mid X pins σ H S I l i H1 s) (hh : X.A.handled = none) (hl : SqL X.K H l xs) (hi : i ≤ xs.length) {o : Obj} (hS : s.heap.get? S = some o)
    (h1 : ∀ x xv t, xs[i]? = some xv → RelV xv x → Mid X pins σ H S I l (i + 1) H1 t → t.heap.get? S = some o → Qx (some x) t) (h2 : i = xs.length → ∀ t, Inv X pins σ H1 t → t.heap.get? S = some o → Qx none t) : wpAny (model X.prog X.w) X.A.in1 (pyNext (.ref I)) Qx Ex s := by
  obtain ⟨its, rv, hls, _⟩ := M.inv.list (M.same.seq hl)
  have hls' := hls.isList
  obtain ⟨f0, f1, f2, f3, f4, f5⟩ := id M.fI
  have hne : l ≠ I := by
    rintro rfl
    obtain ⟨oI, e1, e2, e3⟩ := M.it
    obtain ⟨oL, e4, e5, e6⟩ := hls'
    rw [e1] at e4; cases e4
    obtain ⟨w, e6⟩ := e6
    rw [e3] at e6; cases e6
  have W := (Walks.list (prog := X.prog) (w := X.w) (A := X.A.in1) hh I l hne its.toArray).toS
  have en : its.toArray.size = xs.length := by rw [List.size_toArray, ← rv.length]
  have mov : ∀ t, Moved [I] (fun a b => b = a) s t → Inv X pins σ H1 t ∧ t.heap.get? S = some o := fun t mv => by
    have z : t = { s with heap := t.heap, toks := t.toks } := by
      obtain ⟨hp, ge, d, tk, os⟩ := t
      have h1 : ge = s.gens := mv.gens
      have h2 : d = s.drawn := mv.drawn
      have h3 : os = s.os := mv.os
      subst h1 h2 h3
      rfl
    refine ⟨?_, mv.heap _ _ (fun q => M.ne (List.mem_singleton.mp q)) hS⟩
    rw [z]
    exact M.inv.turned (it := I) (fun b ob hb e => mv.heap b ob (fun q => hb (List.mem_singleton.mp q)) e) f0 f1 f3 f4 f5
  by_cases e : i = xs.length
  · refine W.done s _ _ ?_ fun t mv => ?_
    · rw [en, ← e]; exact ⟨M.it, hls'⟩
    · obtain ⟨I2, S2⟩ := mov t mv
      exact h2 e t I2 S2
  · refine W.item i s _ _ (by rw [en]; omega) ⟨M.it, hls'⟩ fun x t hx st mv => ?_
    obtain ⟨I2, S2⟩ := mov t mv
    have hx' : its[i]? = some x := by simpa using hx
    obtain ⟨xv, e1⟩ : ∃ xv, xs[i]? = some xv := ⟨_, List.getElem?_eq_getElem (by omega)⟩
    obtain ⟨u, e2, r1⟩ := rv.get e1
    rw [hx'] at e2; cases e2
    exact h1 x xv t e1 r1 ⟨I2, M.same, M.fS, M.fI, M.ne, st.1⟩ S2
theorem Mid.call (M : Mid X pins σ H S I l i H1 s) (F : FnOk X.prog X.w X.K X.mg X.base CX0 k f fd ps (spF X.K g)) (hr : Room (k + 1) X.A) (hb : Binds X.K fd ps []) {U : Addr → Prop} {x : Value} {xv : V} {d kd : PyData} (rel : RelV xv x) (r : Rp X.K U H1 d xv) (hg : g [d] = some kd)
    {o : Obj} (hS : s.heap.get? S = some o) (no : ∀ v, o.data ≠ .cell v) {Qx : Value → Shared → Prop} {Ex : Value → Shared → Prop}
    (h : ∀ kx t H2 kv, Mid X pins σ H S I l i H2 t → Same H1 H2 → RelV kv kx → Rp X.K (fun _ => True) H2 kd kv → t.heap.get? S = some o → Qx kx t) : wpAny (model X.prog X.w) X.A.in1 (call (.ref f) [x]) Qx Ex s := by
  obtain ⟨oI, eI, cI, dI⟩ := id M.it
  have I1 : Inv X (pins ++ pinsAt [S, I] s.heap) σ H1 s := M.inv.pinned (fun b hb => by
    rcases List.mem_cons.mp hb with rfl | hb
    · exact M.fS
    · rw [List.mem_singleton.mp hb]; exact M.fI) (fun b hb => by
    rcases List.mem_cons.mp hb with rfl | hb
    · exact ⟨o, hS, no⟩
    · rw [List.mem_singleton.mp hb]; exact ⟨oI, eI, fun v z => by rw [dI] at z; cases z⟩)
  have sp : spF X.K g [xv] H1 (fun v H' => Same H1 H' ∧ Rp X.K (fun _ => True) H' kd v) (fun _ _ _ => False) := ⟨U, [d], kd, RpA.cons r RpA.nil, hg, fun v H' s1 r1 => ⟨s1, r1.wide fun _ _ => trivial⟩⟩
  have hlen : ([x] : List Value).length = ps.length := (F.len _ _ _ _ sp)
  have b := hb s [x] I1.kIn (by rw [List.append_nil]; exact hlen)
  rw [List.append_nil] at b
  have e0 := I1.env0
  refine wpAny_call (codeAny_mono (F.run X.A.in1 X.stack s H1 ⟨[x], []⟩ [x] [xv] _ (fun _ _ _ => False) hr.in1 ⟨e0.frames, e0.mod, e0.bs, e0.bsz, e0.funs, e0.frf, e0.hok, e0.bare⟩ b (.cons rel .nil) sp) fun q t hq => ?_)
  cases q with
  | error e => exact False.elim hq
  | ok fl =>
    cases fl with
    | ret u =>
      obtain ⟨v, H2, I2, rv, s2, r2⟩ := I1.after hq
      have pS := I2.pin (S, o) (List.mem_append_right _ (List.mem_append_right _ (mem_pinsAt List.mem_cons_self hS)))
      have pI := I2.pin (I, oI) (List.mem_append_right _ (List.mem_append_right _ (mem_pinsAt (List.mem_cons_of_mem _ List.mem_cons_self) eI)))
      exact h u t H2 v ⟨I2.unpinned, M.same.trans s2, ⟨pS.2.1, M.fS.2⟩, ⟨pI.2.1, M.fI.2⟩, M.ne, ⟨oI, pI.1, cI, dI⟩⟩ s2 rv r2 pS.1
    | next => exact False.elim hq
    | brk => exact False.elim hq
    | cont => exact False.elim hq
/-! the first of the least keys -/
def stK (m q : PyData × PyData) : PyData × PyData := if PySem.W.dataLt q.2 m.2 = true then q else m
def lstK (m : PyData × PyData) (qs : List (PyData × PyData)) : PyData × PyData := qs.foldl stK m
def keyOk (q : PyData × PyData) : Bool := noD q.2 && decide (q.2.depth ≤ 60)
/-- the keys compare with one another -/
def keysOk (qs : List (PyData × PyData)) : Prop := (∀ q ∈ qs, keyOk q = true ∧ q.2 ≠ .none) ∧ ∀ q ∈ qs, ∀ q' ∈ qs, PySem.W.alike q.2 q'.2 = true
theorem stK_mem {m q : PyData × PyData} {qs : List (PyData × PyData)} (h1 : m ∈ qs) (h2 : q ∈ qs) : stK m q ∈ qs := by
  unfold stK
  split
  · exact h2
  · exact h1
def bestK (qs : List (PyData × PyData)) : Nat → PyData × PyData
  | 0 => qs.getD 0 (.none, .none)
  | j + 1 => stK (bestK qs j) (qs.getD (j + 1) (.none, .none))
theorem bestK_mem {qs : List (PyData × PyData)} : ∀ {j : Nat}, j < qs.length → bestK qs j ∈ qs
  | 0, h => by unfold bestK; rw [List.getD_eq_getElem?_getD, List.getElem?_eq_getElem h]; exact List.getElem_mem h
  | j + 1, h => by
    unfold bestK
    refine stK_mem (bestK_mem (by omega)) ?_
    rw [List.getD_eq_getElem?_getD, List.getElem?_eq_getElem h]; exact List.getElem_mem h
def rMinK (X : Cx) (f : Addr) (g : List PyData → Option PyData) : List V → List V → Hp → VK → Prop := fun vs zs H Q => ∃ a xs U qs, vs = [.ref a] ∧ zs = [.ref f] ∧ SqL X.K H a xs ∧ RpA X.K U H (qs.map (·.1)) xs ∧ (∀ q ∈ qs, g [q.1] = some q.2) ∧ keysOk qs ∧ 0 < qs.length ∧
  ∀ v H', Same H H' → Rp X.K U H' (bestK qs (qs.length - 1)).1 v → Q v H'
theorem Rp.reads (I : Inv X pins σ H s) {U : Addr → Prop} {d : PyData} {v : V} {u : Value} (r : Rp X.K U H d v) (n : noD d = true) (rel : RelV v u) : ∃ as, Reads s.heap u d as := Dp.reads I d v u (Rp.dp0 d v n r) rel
theorem call_minK (F : FnOk X.prog X.w X.K X.mg X.base CX0 k f fd ps (spF X.K g)) (hr : Room (k + 1) X.A) (hb : Binds X.K fd ps []) : CallRK X (.builtin "min") [Str.ofString "key"] (rMinK X f g) := by
  intro pins s σ H vs zs us ws Q I0 r rz h
  obtain ⟨l, xs, U, qs, rfl, rfl, hl, ra, hg, ⟨k1, k2⟩, hn, q⟩ := h
  obtain ⟨its, rv, hls, _⟩ := I0.list hl
  rw [Vals.ref1 r, Vals.ref1 rz]
  have hh := hr.hd
  have lq : xs.length = qs.length := by rw [ra.length, List.length_map]
  have item : ∀ {H1 : Hp} {i : Nat} {xv : V}, Same H H1 → xs[i]? = some xv → Rp X.K U H1 (qs.getD i (.none, .none)).1 xv ∧ qs.getD i (.none, .none) ∈ qs := fun {H1 i xv} s1 e => by
    have hi : i < qs.length := by
      obtain ⟨z, _⟩ := List.getElem?_eq_some_iff.mp e
      omega
    rw [List.getD_eq_getElem?_getD, List.getElem?_eq_getElem hi]
    obtain ⟨v, e1, r1⟩ := ra.get (i := i) (d := qs[i].1) (by rw [List.getElem?_map, List.getElem?_eq_getElem hi]; rfl)
    rw [e] at e1; cases e1
    exact ⟨r1.grow s1, List.getElem_mem hi⟩
  refine call_least (x := .ref l) (fd := f) ?_
  refine PySem.W.iter_listW (A := X.A.in1) hh hls.isList fun t et W st hfp hw hk => ?_
  have I1 : Inv X pins σ H t := by rw [et]; exact I0.kept (t' := s.toks) fun b o e => Heap.get?_push_of_some _ e
  have szs : s.heap.objs.size + 1 = t.heap.objs.size := by rw [et]; exact (Heap.size_push ..).symm
  refine ⟨s.heap.objs.size, qs.length, fun s' => ∃ H1, Mid X pins σ H t.heap.objs.size s.heap.objs.size l 0 H1 s', fun s' x => ∃ H1 xv, Mid X pins σ H t.heap.objs.size s.heap.objs.size l 1 H1 s' ∧ RelV xv x ∧ xs[0]? = some xv,
    fun j s' b kb => ∃ H1 bv kv, Mid X pins σ H t.heap.objs.size s.heap.objs.size l (j + 1) H1 s' ∧ RelV bv b ∧ RelV kv kb ∧ j < qs.length ∧ Rp X.K U H1 (bestK qs j).1 bv ∧ Rp X.K (fun _ => True) H1 (bestK qs j).2 kv,
    fun s' b => ∃ H1 bv, Inv X pins σ H1 s' ∧ Same H H1 ∧ FpOk X pins H1 t.heap.objs.size ∧ RelV bv b ∧ Rp X.K U H1 (bestK qs (qs.length - 1)).1 bv,
    fun j s' b kb x => ∃ H1 bv kv xv, Mid X pins σ H t.heap.objs.size s.heap.objs.size l (j + 2) H1 s' ∧ RelV bv b ∧ RelV kv kb ∧ RelV xv x ∧ xs[j + 1]? = some xv ∧ Rp X.K U H1 (bestK qs j).1 bv ∧ Rp X.K (fun _ => True) H1 (bestK qs j).2 kv, rfl, hn,
    { put := ?_, putE := ?_, draw0 := ?_, first := ?_, draw := ?_, stop := ?_, next := ?_ }, ?_, ?_⟩
  · rintro j s' b kb up ⟨H1, bv, kv, M, z⟩
    exact ⟨H1, bv, kv, M.put up, z⟩
  · rintro s' b up ⟨H1, bv, I2, s2, fS, z⟩
    obtain ⟨f0, f1, f2, f3, f4, f5⟩ := id fS
    exact ⟨H1, bv, I2.turned (fun b o hb e => (Heap.get?_update_other _ _ (Ne.symm hb)).trans e) f0 f1 f3 f4 f5, s2, fS, z⟩
  · rintro s' o Qx Ex ⟨H1, M⟩ hS hq
    refine M.draw hh hl (Nat.zero_le _) hS (fun x xv t' e1 r1 M1 S1 => hq x t' ⟨H1, xv, M1, r1, e1⟩ S1) fun e => absurd e (by omega)
  · rintro s' x o Qx Ex ⟨H1, xv, M, rx, e1⟩ hS no hq
    obtain ⟨r1, m1⟩ := item M.same e1
    refine M.call F hr hb rx r1 (hg _ m1) hS no fun kx t' H2 kv M2 s2 rk r2 S2 => hq kx t' ⟨H2, xv, kv, M2, rx, rk, hn, r1.grow s2, r2⟩ S2
  · rintro j s' b kb o Qx Ex hj ⟨H1, bv, kv, M, rb, rk, hj', r1, r2⟩ hS hq
    exact M.draw hh hl (by omega) hS (fun x xv t' e1 rx M1 S1 => hq x t' ⟨H1, bv, kv, xv, M1, rb, rk, rx, e1, r1, r2⟩ S1) fun e => absurd e (by omega)
  · rintro j s' b kb o Qx Ex hj ⟨H1, bv, kv, M, rb, rk, hj', r1, r2⟩ hS hq
    refine M.draw hh hl (by omega) hS (fun x xv t' e1 => ?_) fun _ t' I2 S2 => hq t' ⟨H1, bv, I2, M.same, M.fS, rb, ?_⟩ S2
    · rw [List.getElem?_eq_none (by omega)] at e1; cases e1
    · rw [show qs.length - 1 = j by omega]; exact r1
  · rintro j s' b kb x o Qx Ex hj ⟨H1, bv, kv, xv, M, rb, rk, rx, e1, r1, r2⟩ hS no hq
    obtain ⟨ri, mi⟩ := item M.same e1
    refine M.call F hr hb rx ri (hg _ mi) hS no fun kx t' H2 kxv M2 s2 rkx rkd S2 => hq kx t' S2 fun Qy Ey hy => ?_
    have mb : bestK qs j ∈ qs := bestK_mem (by omega)
    obtain ⟨⟨y1, y2⟩, y3⟩ := (k1 _ mi).imp_left fun z => by simpa [keyOk] using z
    obtain ⟨⟨y4, y5⟩, y6⟩ := (k1 _ mb).imp_left fun z => by simpa [keyOk] using z
    obtain ⟨as1, w1⟩ := rkd.reads M2.inv y1 rkx
    obtain ⟨as2, w2⟩ := (r2.grow s2).reads M2.inv y4 rk
    refine PySem.W.rcLt_alike _ _ X.A.in1 t' kx kb _ _ w1 w2 (k2 _ mi _ mb) y3 ?_ X.prog X.w Ey Qy (hy _ (fun e => ?_) fun e => ?_)
    · have := hr.un
      have := Nat.min_le_left (qs.getD (j + 1) (PyData.none, PyData.none)).2.depth (bestK qs j).2.depth
      show X.A.units + 1 + _ < _
      omega
    · have eb : bestK qs (j + 1) = qs.getD (j + 1) (.none, .none) := by unfold bestK stK; rw [if_pos e]
      exact ⟨H2, xv, kxv, M2, rx, rkx, hj, by rw [eb]; exact ri.grow s2, by rw [eb]; exact rkd⟩
    · have eb : bestK qs (j + 1) = bestK qs j := by
        show stK _ _ = _
        unfold stK; rw [if_neg (by rw [e]; exact Bool.false_ne_true)]
      exact ⟨H2, bv, kv, M2, rb, rk, hj, by rw [eb]; exact r1.grow s2, by rw [eb]; exact r2.grow s2⟩
  · refine ⟨H, I1.kept (t' := t.toks) fun b o e => Heap.get?_push_of_some _ e, Same.refl H, I1.fpOk (Nat.le_refl _) (I1.hok.fresh (Nat.le_refl _)), I0.fpOk (Nat.le_refl _) (I0.hok.fresh (Nat.le_refl _)), fun z => by have z' : (t.heap.objs.size : Nat) = s.heap.objs.size := z; omega, ?_⟩
    obtain ⟨o, e, z⟩ := st.1
    exact ⟨o, Heap.get?_push_of_some _ e, z⟩
  · rintro b' t' ⟨H1, bv, I2, s2, _, rb, r1⟩
    exact ⟨bv, H1, I2, rb, q bv H1 s2 r1⟩
end
/-! told on data -/
section
variable {X : Cx} {k : Nat} {f : Addr} {fd : FuncData} {ps : List Str} {gd : List PyData → Option PyData} {e : Expr} {c c1 : Bool} {fe : En → Option PyData}
def keysD (g : List PyData → Option PyData) : List PyData → Option (List (PyData × PyData))
  | [] => some []
  | d :: ds => match g [d] with
    | some kd => (keysD g ds).map ((d, kd) :: ·)
    | none => none
theorem keysD_spec {g : List PyData → Option PyData} : ∀ {ds : List PyData} {qs : List (PyData × PyData)}, keysD g ds = some qs → qs.map (·.1) = ds ∧ ∀ q ∈ qs, g [q.1] = some q.2
  | [], qs, h => by
    cases h
    exact ⟨rfl, fun _ z => nomatch z⟩
  | d :: ds, qs, h => by
    unfold keysD at h
    split at h
    · rename_i kd hk
      cases e : keysD g ds with
      | none => rw [e] at h; cases h
      | some r =>
        rw [e] at h
        cases h
        obtain ⟨h1, h2⟩ := keysD_spec e
        refine ⟨by rw [List.map_cons, h1], fun q hq => ?_⟩
        rcases List.mem_cons.mp hq with rfl | hq
        · exact hk
        · exact h2 q hq
    · cases h
/-- what all keys look like -/
def keysB (qs : List (PyData × PyData)) : Bool := qs.all fun q => keyOk q && (match q.2 with | .none => false | _ => true) && qs.all fun q' => PySem.W.alike q.2 q'.2
theorem keysB_ok {qs : List (PyData × PyData)} (h : keysB qs = true) : keysOk qs := by
  unfold keysB at h
  rw [List.all_eq_true] at h
  refine ⟨fun q hq => ?_, fun q hq q' hq' => ?_⟩
  · have := h q hq
    rw [Bool.and_eq_true, Bool.and_eq_true] at this
    refine ⟨this.1.1, fun z => ?_⟩
    rw [z] at this
    exact absurd this.1.2 Bool.false_ne_true
  · have := h q hq
    rw [Bool.and_eq_true, List.all_eq_true] at this
    exact this.2 q' hq'
def eMinK (g : List PyData → Option PyData) (f : En → Option PyData) : En → Option PyData := fun env => match f env with
  | some (.list ds) => match keysD g ds with
    | some qs => if keysB qs = true ∧ 0 < qs.length then some (bestK qs (qs.length - 1)).1 else none
    | none => none
  | _ => none
theorem ce_minK (h : PE X e (tCKw (rMinK X f gd) (tCons (tE X.K c fe) tNil) (tCons (tC (.ref f)) tNil))) : PE X e (tE X.K c (eMinK gd fe)) := pe_w h fun σ H Q ⟨S0, H0, A, env, d, E, hf, q⟩ => by
  unfold eMinK at hf
  split at hf
  · rename_i ds hd
    split at hf
    · rename_i qs hq
      split at hf
      · rename_i hk
        cases hf
        refine ⟨S0, H0, A, env, _, E, hd, fun v H1 s r => ?_⟩
        rw [Rp] at r
        obtain ⟨a, xs, rfl, hs, ra⟩ := r
        obtain ⟨m1, m2⟩ := keysD_spec hq
        exact ⟨a, xs, _, qs, rfl, rfl, hs.sq, by rw [m1]; exact ra, m2, keysB_ok hk.1, hk.2, fun v H2 s2 r2 => q v H2 (s.trans s2) r2⟩
      · cases hf
    · cases hf
  · cases hf
end
end Mir
namespace Mir
open PySem PySem.Spec PyProof.Rows L2
/-! a < b, data of any alike kind -/
section
variable {X : Cx} {K : PySem.W.Frag}
def ltOk (x y : PyData) : Bool := noD x && noD y && PySem.W.alike x y && (match x with | .none => false | _ => true) && decide (x.depth ≤ 60)
def ltU (x y : PyData) : Option PyData := if ltOk x y = true then some (.bool (PySem.W.dataLt x y)) else none
def rLtU (K : PySem.W.Frag) : R2 := fun x y H Q => ∃ S S' d e, Rp K S H d x ∧ Rp K S' H e y ∧ ltOk d e = true ∧ Q (.bl (PySem.W.dataLt d e)) H
theorem op_ltU (hu : X.A.units + 64 < cLine) : OpR X (compareOp .Lt) (rLtU X.K) := by
  intro pins s σ H x y v u Q I rx ry h
  obtain ⟨S, S', d, e, r1, r2, ok, q⟩ := h
  unfold ltOk at ok
  rw [Bool.and_eq_true, Bool.and_eq_true, Bool.and_eq_true, Bool.and_eq_true] at ok
  obtain ⟨⟨⟨⟨n1, n2⟩, al⟩, nn⟩, dp⟩ := ok
  obtain ⟨as, w1⟩ := r1.reads I n1 rx
  obtain ⟨bs, w2⟩ := r2.reads I n2 ry
  refine PySem.W.lt_data w1 w2 al (fun z => by rw [z] at nn; exact absurd nn Bool.false_ne_true) ?_ ⟨.bl _, H, I, rfl, q⟩
  have := of_decide_eq_true dp
  have := Nat.min_le_left d.depth e.depth
  omega
theorem r2_ltU : R2Ok K true (rLtU K) ltU := by
  intro S S' H x y dx dy d Q hn hS rx ry h q
  unfold ltU at h
  split at h
  · rename_i hk
    cases h
    exact ⟨_, _, dx, dy, rx, ry, hk, q _ H (Same.refl H) rpb⟩
  · cases h
end
end Mir

/-! Mir14: texts: walked, split, written, read; a tuple of texts of the module -/
namespace Mir
open PySem PySem.Spec PyProof.Rows L2
section
variable {X : Cx} {K : PySem.W.Frag} {a b e tg iter : Expr} {pos apos : Pos} {c c1 c2 : Bool} {f g : En → Option PyData} {fa : En → Option (List PyData)}
/-! ### a text, sign by sign -/
def sgD (n : Nat) : PyData := .str ⟨#[n]⟩
def sgsD (x : Str) : List PyData := x.cps.toList.map sgD
theorem wk_str {x : Str} {S : Addr → Prop} : Wk K (Its x) (fun _ => True) S (sgsD x) where
  go := fun i H _ h => by
    unfold sgsD at h
    rw [List.length_map, Array.length_toList] at h
    exact h
  yld := fun i H d v H' _ h ⟨e, n, h1, h2⟩ => by
    subst e h2
    unfold sgsD at h
    rw [List.getElem?_map, Array.getElem?_toList, h1] at h
    cases h
    exact ⟨Same.refl _, by unfold sgD; rw [Rp]⟩
  stop := fun i H _ h => by
    unfold sgsD at h
    rw [List.length_map, Array.length_toList] at h
    exact h
def iStrD (f : En → Option PyData) : En → Option (List PyData) := fun env => match f env with
  | some (.str x) => some (sgsD x)
  | _ => none
theorem ci_str {f : En → Option PyData} (h : PE X iter (tE X.K c1 f)) : PI X tg iter (tI X.K c (iStrD f)) := pi_w (pi_str h) fun σ H R ⟨S0, H0, A, env, ds, E, hf, q⟩ => by
  unfold iStrD at hf
  split at hf
  · rename_i x hd
    cases hf
    refine ⟨S0, H0, A, env, _, E, hd, fun v H1 s r => ?_⟩
    rw [Rp] at r
    subst r
    exact ⟨x, rfl, q _ H1 _ s (fun _ _ => trivial) (fun _ _ _ => trivial) wk_str⟩
  · cases hf
/-! ### one sign in a text; else as ever -/
def inX (x y : PyData) : Option PyData := match y with
  | .str z => (match x with
    | .str w => (match w.cps.toList with
      | [n] => some (.bool (decide (n ∈ z.cps.toList)))
      | _ => none)
    | _ => none)
  | .tuple ds => if (SeqAt.shaped x && SeqAt.shaped (.tuple ds)) = true then some (.bool (ds.any fun z => PyData.eqv z x)) else none
  | _ => inT x y
def notInX (x y : PyData) : Option PyData := match y with
  | .str z => (match x with
    | .str w => (match w.cps.toList with
      | [n] => some (.bool (!decide (n ∈ z.cps.toList)))
      | _ => none)
    | _ => none)
  | .tuple ds => if (SeqAt.shaped x && SeqAt.shaped (.tuple ds)) = true then some (.bool (!ds.any fun z => PyData.eqv z x)) else none
  | _ => notInT x y
def rTupD (K : PySem.W.Frag) (neg : Bool) : R2 := fun x y H Q => ∃ d ds, Dp K H x d ∧ Dp K H y (.tuple ds) ∧ SeqAt.shaped d = true ∧ SeqAt.shaped (.tuple ds) = true ∧ Q (.bl (if neg then !ds.any fun z => PyData.eqv z d else ds.any fun z => PyData.eqv z d)) H
theorem op_inTupD (hu : X.A.units + 65 < cLine) : OpR X (compareOp .In) (rTupD X.K false) := by
  intro pins s σ H x y v u Q I rx ry h
  obtain ⟨d, ds, hd, he, sd, se, q⟩ := h
  obtain ⟨as, r1⟩ := Dp.reads I d x v hd rx
  obtain ⟨bs, r2⟩ := Dp.reads I (.tuple ds) y u he ry
  exact SeqAt.in_tuple_reads r2 r1 (SeqAt.canLay_of_shaped se) (SeqAt.canLay_of_shaped sd) (room_in_shaped sd hu) ⟨.bl _, H, I, rfl, q⟩
theorem op_notInTupD (hu : X.A.units + 65 < cLine) : OpR X (compareOp .NotIn) (rTupD X.K true) := by
  intro pins s σ H x y v u Q I rx ry h
  obtain ⟨d, ds, hd, he, sd, se, q⟩ := h
  obtain ⟨as, r1⟩ := Dp.reads I d x v hd rx
  obtain ⟨bs, r2⟩ := Dp.reads I (.tuple ds) y u he ry
  exact SeqAt.notIn_tuple_reads r2 r1 (SeqAt.canLay_of_shaped se) (SeqAt.canLay_of_shaped sd) (room_in_shaped sd hu) ⟨.bl _, H, I, rfl, q⟩
def rSign : R2 := fun x y H Q => ∃ (c : Nat) (z : Str), x = .str ⟨#[c]⟩ ∧ y = .str z ∧ Q (.bl (decide (c ∈ z.cps.toList))) H
def rNotSign : R2 := fun x y H Q => ∃ (c : Nat) (z : Str), x = .str ⟨#[c]⟩ ∧ y = .str z ∧ Q (.bl (!decide (c ∈ z.cps.toList))) H
theorem op_inX (hu : X.A.units + 65 < cLine) : OpR X (compareOp .In) (fun x y H Q => ((rInD X.K x y H Q ∨ rIn X.K false x y H Q) ∨ rTupD X.K false x y H Q) ∨ rSign x y H Q) := OpR.or (OpR.or (op_inT hu) (op_inTupD hu)) op_in_sign
theorem op_notInX (hu : X.A.units + 65 < cLine) : OpR X (compareOp .NotIn) (fun x y H Q => ((rNotInD X.K x y H Q ∨ rIn X.K true x y H Q) ∨ rTupD X.K true x y H Q) ∨ rNotSign x y H Q) := OpR.or (OpR.or (op_notInT hu) (op_notInTupD hu)) op_notIn_sign
theorem one_of {w : Str} {n : Nat} (h : w.cps.toList = [n]) : w = ⟨#[n]⟩ := by
  cases w with
  | mk cps =>
    congr 1
    exact Array.toList_inj.mp h
theorem r2_inX : R2Ok K true (fun x y H Q => ((rInD K x y H Q ∨ rIn K false x y H Q) ∨ rTupD K false x y H Q) ∨ rSign x y H Q) inX := by
  intro S S' H x y dx dy d Q hn hS rx ry h q
  cases dy with
  | str z =>
    cases dx with
    | str w =>
      have h' : (match w.cps.toList with
        | [n] => some (PyData.bool (decide (n ∈ z.cps.toList)))
        | _ => none) = some d := h
      rw [Rp] at rx ry
      subst rx ry
      split at h'
      · rename_i n hw
        cases h'
        exact .inr ⟨n, z, by rw [one_of hw], rfl, q _ H (Same.refl H) rpb⟩
      · cases h'
    | none => cases h
    | bool _ => cases h
    | int _ => cases h
    | list _ => cases h
    | tuple _ => cases h
    | dict _ => cases h
  | none => exact .inl (.inl (r2_inT S S' H x y dx _ d Q hn hS rx ry h q))
  | bool _ => exact .inl (.inl (r2_inT S S' H x y dx _ d Q hn hS rx ry h q))
  | int _ => exact .inl (.inl (r2_inT S S' H x y dx _ d Q hn hS rx ry h q))
  | list _ => exact .inl (.inl (r2_inT S S' H x y dx _ d Q hn hS rx ry h q))
  | tuple ds =>
    have h' : (if (SeqAt.shaped dx && SeqAt.shaped (.tuple ds)) = true then some (PyData.bool (ds.any fun z => PyData.eqv z dx)) else none) = some d := h
    split at h'
    · rename_i hs
      rw [Bool.and_eq_true] at hs
      cases h'
      exact .inl (.inr ⟨dx, ds, rx.dp hs.1, ry.dp hs.2, hs.1, hs.2, q _ H (Same.refl H) rpb⟩)
    · cases h'
  | dict _ => exact .inl (.inl (r2_inT S S' H x y dx _ d Q hn hS rx ry h q))
theorem r2_notInX : R2Ok K true (fun x y H Q => ((rNotInD K x y H Q ∨ rIn K true x y H Q) ∨ rTupD K true x y H Q) ∨ rNotSign x y H Q) notInX := by
  intro S S' H x y dx dy d Q hn hS rx ry h q
  cases dy with
  | str z =>
    cases dx with
    | str w =>
      have h' : (match w.cps.toList with
        | [n] => some (PyData.bool (!decide (n ∈ z.cps.toList)))
        | _ => none) = some d := h
      rw [Rp] at rx ry
      subst rx ry
      split at h'
      · rename_i n hw
        cases h'
        exact .inr ⟨n, z, by rw [one_of hw], rfl, q _ H (Same.refl H) rpb⟩
      · cases h'
    | none => cases h
    | bool _ => cases h
    | int _ => cases h
    | list _ => cases h
    | tuple _ => cases h
    | dict _ => cases h
  | none => exact .inl (.inl (r2_notInT S S' H x y dx _ d Q hn hS rx ry h q))
  | bool _ => exact .inl (.inl (r2_notInT S S' H x y dx _ d Q hn hS rx ry h q))
  | int _ => exact .inl (.inl (r2_notInT S S' H x y dx _ d Q hn hS rx ry h q))
  | list _ => exact .inl (.inl (r2_notInT S S' H x y dx _ d Q hn hS rx ry h q))
  | tuple ds =>
    have h' : (if (SeqAt.shaped dx && SeqAt.shaped (.tuple ds)) = true then some (PyData.bool (!ds.any fun z => PyData.eqv z dx)) else none) = some d := h
    split at h'
    · rename_i hs
      rw [Bool.and_eq_true] at hs
      cases h'
      exact .inl (.inr ⟨dx, ds, rx.dp hs.1, ry.dp hs.2, hs.1, hs.2, q _ H (Same.refl H) rpb⟩)
    · cases h'
  | dict _ => exact .inl (.inl (r2_notInT S S' H x y dx _ d Q hn hS rx ry h q))
/-! ### str(i), int(text) -/
def strA : List PyData → Option PyData
  | [.int i] => if i.natAbs.log2 < 1920 then some (.str (toString i)) else none
  | _ => none
theorem cr_strI : CROk K true (fun xs H Q => ∃ i, xs = [.int i] ∧ i.natAbs.log2 < 1920 ∧ Q (.str (toString i)) H) strA := by
  intro S S' H vs ds d Q _ _ r h q
  unfold strA at h
  split at h
  · split at h
    · rename_i hz
      cases h
      obtain ⟨v, rfl, r1⟩ := r.one
      rw [Rp] at r1
      subst r1
      exact ⟨_, rfl, hz, q _ H (Same.refl H) (by rw [Rp])⟩
    · cases h
  · cases h
def intSA : List PyData → Option PyData
  | [.str a] => if a.length ≤ 640 then (PySem.intText? a).map .int else none
  | _ => none
theorem cr_intS : CROk K true (fun xs H Q => ∃ a n, xs = [.str a] ∧ PySem.intText? a = some n ∧ a.length ≤ 640 ∧ Q (.int n) H) intSA := by
  intro S S' H vs ds d Q _ _ r h q
  unfold intSA at h
  split at h
  · split at h
    · rename_i hz
      obtain ⟨n, hn, rfl⟩ := Option.map_eq_some_iff.mp h
      obtain ⟨v, rfl, r1⟩ := r.one
      rw [Rp] at r1
      subst r1
      exact ⟨_, n, rfl, hn, hz, q _ H (Same.refl H) rp1⟩
    · cases h
  · cases h
/-! ### s.split(t), s.endswith(t) -/
def fSplit (f g : En → Option PyData) : En → Option (List PyData) := fun env => match f env with
  | some (.str x) => (match g env with
    | some (.str y) => if (y.length == 0) = false ∧ x.length ≤ 1000000 then some ((Txt.split x y).map .str) else none
    | _ => none)
  | _ => none
theorem RpA.strs {S : Addr → Prop} {H : Hp} : ∀ xs : List Str, RpA K S H (xs.map PyData.str) (xs.map V.str)
  | [] => RpA.nil
  | x :: xs => RpA.cons (by rw [Rp]) (RpA.strs xs)
theorem cf_split (h : PE X e (tM1 (fun x xs H Q => ∃ a b, x = .str a ∧ xs = [.str b] ∧ (b.length == 0) = false ∧ a.length + 2 ≤ sizeLine ∧ rNewStrs (Txt.split a b) H Q) (tE X.K c1 f) (tE X.K c2 g))) : PE X e (tF X.K c (fSplit f g)) := pe_w h fun σ H Q ⟨S0, H0, A, env, ds, E, hf, q⟩ => by
  unfold fSplit at hf
  split at hf
  · rename_i x hx
    split at hf
    · rename_i y hy
      split at hf
      · rename_i hz
        cases hf
        refine ⟨S0, H0, A, env, _, E, hx, fun v H1 s r => ?_⟩
        rw [Rp] at r
        subst r
        refine ⟨⟨_, rfl⟩, S0, H0, A, env, _, E.grow s, hy, fun u H2 s2 r2 => ?_⟩
        rw [Rp] at r2
        subst r2
        refine ⟨_, _, rfl, rfl, hz.1, Nat.le_trans (Nat.add_le_add_right hz.2 2) (by decide), fun p hp => ?_⟩
        exact q p _ _ ((s.trans s2).free hp) ((s.trans s2).trans (same_new hp)) upd_same (RpA.strs _)
      · cases hf
    · cases hf
  · cases hf
def eEnds (f g : En → Option PyData) : En → Option PyData := fun env => match f env with
  | some (.str x) => (match g env with
    | some (.str y) => some (.bool (Txt.endswith x y))
    | _ => none)
  | _ => none
theorem ce_ends (h : PE X e (tM1 (fun x xs H Q => ∃ a b, x = .str a ∧ xs = [.str b] ∧ Q (.bl (Txt.endswith a b)) H) (tE X.K c1 f) (tE X.K c2 g))) : PE X e (tE X.K c (eEnds f g)) := pe_w h fun σ H Q ⟨S0, H0, A, env, d, E, hf, q⟩ => by
  unfold eEnds at hf
  split at hf
  · rename_i x hx
    split at hf
    · rename_i y hy
      cases hf
      refine ⟨S0, H0, A, env, _, E, hx, fun v H1 s r => ?_⟩
      rw [Rp] at r
      subst r
      refine ⟨⟨_, rfl⟩, S0, H0, A, env, _, E.grow s, hy, fun u H2 s2 r2 => ?_⟩
      rw [Rp] at r2
      subst r2
      exact ⟨_, _, rfl, rfl, q _ H2 (s.trans s2) rpb⟩
    · cases hf
  · cases hf
/-! ### f'..' -/
def fmtD : PyData → Option Str
  | .str y => if y.length ≤ 1000000 then some y else none
  | .int i => if i.natAbs.log2 < 1920 then some (toString i) else none
  | _ => none
def eFmt (f : En → Option PyData) : En → Option PyData := fun env => ((f env).bind fmtD).map .str
theorem ce_fmt (h : PE X e (tFmt (tE X.K c1 f))) : PE X e (tE X.K c (eFmt f)) := pe_w h fun σ H Q ⟨S0, H0, A, env, d, E, hf, q⟩ => by
  unfold eFmt at hf
  cases hx : f env with
  | none => rw [hx] at hf; cases hf
  | some x =>
    rw [hx] at hf
    refine ⟨S0, H0, A, env, _, E, hx, fun v H1 s r => ?_⟩
    cases x with
    | str y =>
      rw [Rp] at r
      subst r
      simp only [Option.bind_some, fmtD] at hf
      split at hf
      · rename_i hz
        cases hf
        exact .inl ⟨y, rfl, sz6 hz, q _ H1 s (by rw [Rp])⟩
      · cases hf
    | int i =>
      rw [Rp] at r
      subst r
      simp only [Option.bind_some, fmtD] at hf
      split at hf
      · rename_i hz
        cases hf
        exact .inr ⟨i, rfl, hz, q _ H1 s (by rw [Rp])⟩
      · cases hf
    | none => cases hf
    | bool _ => cases hf
    | list _ => cases hf
    | tuple _ => cases hf
    | dict _ => cases hf
def joinE : List (En → Option PyData) → Str → En → Option Str
  | [], acc, _ => some acc
  | f :: fs, acc, env => match f env with
    | some (.str y) => if (acc ++ y).length ≤ 1000000 then joinE fs (acc ++ y) env else none
    | _ => none
def eFs (fs : List (En → Option PyData)) : En → Option PyData := fun env => (joinE fs Str.empty env).map .str
theorem joins_run {σ : L2.St} {S0 A : Addr → Prop} {H0 : Hp} {env : En} {Q : Str → Hp → Prop} : ∀ {fs : List (En → Option PyData)} {acc out : Str} {H : Hp}, EnvOk K S0 H0 A H σ env → joinE fs acc env = some out → (∀ H', Same H H' → Q out H') → tJs (fs.map fun f => tE K true f) acc σ H Q
  | [], acc, out, H, E, h, q => by
    cases h
    exact q H (Same.refl H)
  | f :: fs, acc, out, H, E, h, q => by
    unfold joinE at h
    split at h
    · rename_i y hy
      split at h
      · rename_i hz
        refine ⟨S0, H0, A, env, _, E, hy, fun v H1 s r => ?_⟩
        rw [Rp] at r
        subst r
        exact ⟨y, rfl, sz6 hz, joins_run (E.grow s) h fun H' s' => q H' (s.trans s')⟩
      · cases h
    · cases h
theorem ce_fs {fs : List (En → Option PyData)} (h : PE X e (fun σ H Q => tJs (fs.map fun f => tE X.K true f) Str.empty σ H fun out H1 => Q (.str out) H1)) : PE X e (tE X.K c (eFs fs)) := pe_w h fun σ H Q ⟨S0, H0, A, env, d, E, hf, q⟩ => by
  unfold eFs at hf
  obtain ⟨out, ho, rfl⟩ := Option.map_eq_some_iff.mp hf
  exact joins_run E ho fun H' s => q _ H' s (by rw [Rp])
/-! ### a statement that is never reached -/
def sNever : En → Out := fun _ => .bad
theorem cs_never {st : Stmt} : PS X st (tS X.K sNever) := ⟨fun pins s σ H D I q => by obtain ⟨_, _, _, _, _, o⟩ := q; exact o.elim⟩
/-! ### a tuple of texts of the module -/
def KTup (K : PySem.W.Frag) (z : Addr) (xs : List Str) : Prop := ∃ (o : Obj) (its : Array Value) (n : Nat), K.lookup z = some o ∧ o.cls = .type "tuple" ∧ o.data = .seq its n ∧ its.size ≤ sizeLine ∧ Vals (xs.map V.str) its.toList
theorem KTup.sq {z : Addr} {xs : List Str} {H : Hp} (h : KTup K z xs) : SqT K H z (xs.map V.str) := .inr h
def eInG (neg : Bool) (xs : List Str) (f : En → Option PyData) : En → Option PyData := fun env => match f env with
  | some (.str y) => some (.bool (if neg then !decide (y ∈ xs) else decide (y ∈ xs)))
  | _ => none
theorem inV_strs (y : Str) : ∀ xs : List Str, inV (.str y) (xs.map V.str) = decide (y ∈ xs)
  | [] => rfl
  | x :: xs => by
    have ih := inV_strs y xs
    unfold inV at ih ⊢
    rw [List.map_cons, List.any_cons, ih]
    have e : eqV (.str x) (.str y) = decide (x = y) := by
      show (x == y) = decide (x = y)
      by_cases h : x = y
      · subst h; simp
      · rw [decide_eq_false h]; simpa using h
    rw [e]
    by_cases h : x = y
    · subst h; simp
    · have h' : ¬ y = x := fun z => h z.symm
      simp [h, h']
theorem flat_strs : ∀ xs : List Str, (xs.map V.str).all flatV = true
  | [] => rfl
  | x :: xs => by rw [List.map_cons, List.all_cons, flat_strs xs]; rfl
theorem in_run {neg : Bool} {z : Addr} {xs : List Str} (hz : KTup K z xs) {σ : L2.St} {H : Hp} {Q : VK} (q : tE K c (eInG neg xs f) σ H Q) : tOp (rIn K neg) (tE K c1 f) (tC (.ref z)) σ H Q := by
  obtain ⟨S0, H0, A, env, d, E, hf, q⟩ := q
  unfold eInG at hf
  split at hf
  · rename_i y hy
    cases hf
    refine ⟨S0, H0, A, env, _, E, hy, fun v H1 s r => ?_⟩
    rw [Rp] at r
    subst r
    refine ⟨z, xs.map V.str, rfl, .inr hz.sq, rfl, flat_strs xs, ?_⟩
    rw [inV_strs]
    have h := q (.bl (if neg then !decide (y ∈ xs) else decide (y ∈ xs))) H1 s rpb
    cases neg <;> exact h
  · cases hf
theorem ce_inG {neg : Bool} {z : Addr} {xs : List Str} {op : CmpOp} (hz : KTup X.K z xs) (ho : OpR X (compareOp op) (rIn X.K neg)) (ha : PE X a (tE X.K c1 f)) (hb : PE X b (tC (.ref z))) (hm : behindInMarks op b = false) : PE X (.Compare a [op] [b] pos) (tE X.K c (eInG neg xs f)) :=
  pe_w (pe_cmpR ho ha hb hm) fun _ _ _ q => in_run hz q
theorem ct_inG {neg : Bool} {z : Addr} {xs : List Str} {op : CmpOp} (hz : KTup X.K z xs) (ho : OpR X (compareOp op) (rIn X.K neg)) (ha : PE X a (tE X.K c1 f)) (hb : PE X b (tC (.ref z))) (hm : behindInMarks op b = false) : PT X (.Compare a [op] [b] pos) (tT X.K (t1 (eInG neg xs f))) :=
  pt_w (pt_cmpR ho ha hb hm) fun _ _ _ q => t1_run (c := true) (fun _ q => in_run hz q) q
theorem idx_first {y : Str} : ∀ (xs : List Str) (m : Nat), m < xs.idxOf y → xs[m]? ≠ some y
  | [], m, h, _ => by simp at h
  | x :: xs, m, h, e => by
    rw [List.idxOf_cons] at h
    cases hb : x == y with
    | true => rw [hb] at h; simp at h
    | false =>
      rw [hb] at h
      cases m with
      | zero =>
        have e' : x = y := by simpa using e
        rw [e'] at hb
        simp at hb
      | succ m => exact idx_first xs m (by simpa using h) (by simpa using e)
def eIdxG (xs : List Str) (f : En → Option PyData) : En → Option PyData := fun env => match f env with
  | some (.str y) => if y ∈ xs then some (.int (xs.idxOf y : Nat)) else none
  | _ => none
theorem tup_index_run {z : Addr} {xs : List Str} (hz : KTup K z xs) (ht : ∃ o, K.lookup z = some o ∧ o.cls = .type "tuple" ∧ o.dict = none) {σ : L2.St} {H : Hp} {Q : VK} (q : tE K c (eIdxG xs f) σ H Q) :
    tBM K "tuple" (fun x ys H Q => ∃ p, ∃ ws : List Str, ∃ z j, x = .ref p ∧ ys = [.str z] ∧ SqT K H p (ws.map V.str) ∧ ws[j]? = some z ∧ (∀ m, m < j → ws[m]? ≠ some z) ∧ Q (.int (j : Nat)) H) (tC (.ref z)) (tCons (tE K c1 f) tNil) σ H Q := by
  obtain ⟨S0, H0, A, env, d, E, hf, q⟩ := q
  unfold eIdxG at hf
  split at hf
  · rename_i y hy
    split at hf
    · rename_i hm
      cases hf
      refine ⟨.inr (.inl ⟨rfl, ht⟩), S0, H0, A, env, _, E, hy, fun v H1 s r => ?_⟩
      rw [Rp] at r
      subst r
      have hl : xs.idxOf y < xs.length := List.idxOf_lt_length_iff.mpr hm
      refine ⟨z, xs, y, xs.idxOf y, rfl, rfl, hz.sq, ?_, fun m hm' e => ?_, q _ H1 s rp1⟩
      · rw [List.getElem?_eq_getElem hl, List.getElem_idxOf hl]
      · exact idx_first xs m hm' e
    · cases hf
  · cases hf
theorem ce_idxG {z : Addr} {xs : List Str} (hz : KTup X.K z xs) (ht : ∃ o, X.K.lookup z = some o ∧ o.cls = .type "tuple" ∧ o.dict = none) (h : PE X e (tBM X.K "tuple" (fun x ys H Q => ∃ p, ∃ ws : List Str, ∃ z j, x = .ref p ∧ ys = [.str z] ∧ SqT X.K H p (ws.map V.str) ∧ ws[j]? = some z ∧ (∀ m, m < j → ws[m]? ≠ some z) ∧ Q (.int (j : Nat)) H) (tC (.ref z)) (tCons (tE X.K c1 f) tNil))) :
    PE X e (tE X.K c (eIdxG xs f)) := pe_w h fun _ _ _ q => tup_index_run hz ht q
/-- the tuple itself, walked -/
def iG (xs : List Str) : En → Option (List PyData) := fun _ => some (xs.map .str)
theorem wk_tupK {z : Addr} {xs : List Str} (hz : KTup K z xs) {S : Addr → Prop} : Wk K (Itt K z) (fun _ => True) S (xs.map PyData.str) where
  go := fun i H _ h => ⟨xs.map V.str, (xs.map V.str)[i]'(by simpa using h), hz.sq, by rw [List.getElem?_eq_getElem]⟩
  yld := fun i H d v H' _ h ⟨e, y⟩ => by
    subst e
    exact ⟨Same.refl _, (RpA.strs (K := K) (S := S) (H := H') xs).at h (y _ hz.sq)⟩
  stop := fun i H _ h => ⟨xs.map V.str, hz.sq, by simpa using h⟩
theorem ci_G {z : Addr} {xs : List Str} (hz : KTup X.K z xs) (h : PE X iter (tC (.ref z))) : PI X tg iter (tI X.K c (iG xs)) := pi_w (pi_tup h) fun σ H R ⟨S0, H0, A, env, ds, E, hf, q⟩ => by
  cases hf
  exact ⟨z, rfl, ⟨_, hz.sq⟩, q _ H _ (Same.refl H) (fun _ _ => trivial) (fun _ _ _ => trivial) (wk_tupK hz)⟩
end
end Mir
namespace Mir
open PySem PySem.Spec PyProof.Rows L2
section
variable {X : Cx} {K : PySem.W.Frag}
def gtU (x y : PyData) : Option PyData := if ltOk x y = true then some (.bool (PySem.W.dataLt y x)) else none
def rGtU (K : PySem.W.Frag) : R2 := fun x y H Q => ∃ S S' d e, Rp K S H d x ∧ Rp K S' H e y ∧ ltOk d e = true ∧ Q (.bl (PySem.W.dataLt e d)) H
theorem op_gtU (hu : X.A.units + 64 < cLine) : OpR X (compareOp .Gt) (rGtU X.K) := by
  intro pins s σ H x y v u Q I rx ry h
  obtain ⟨S, S', d, e, r1, r2, ok, q⟩ := h
  unfold ltOk at ok
  rw [Bool.and_eq_true, Bool.and_eq_true, Bool.and_eq_true, Bool.and_eq_true] at ok
  obtain ⟨⟨⟨⟨n1, n2⟩, al⟩, nn⟩, dp⟩ := ok
  obtain ⟨as, w1⟩ := r1.reads I n1 rx
  obtain ⟨bs, w2⟩ := r2.reads I n2 ry
  refine PySem.W.gt_data w1 w2 al (fun z => by rw [z] at nn; exact absurd nn Bool.false_ne_true) ?_ ⟨.bl _, H, I, rfl, q⟩
  have := of_decide_eq_true dp
  have := Nat.min_le_left d.depth e.depth
  omega
theorem r2_gtU : R2Ok K true (rGtU K) gtU := by
  intro S S' H x y dx dy d Q hn hS rx ry h q
  unfold gtU at h
  split at h
  · rename_i hk
    cases h
    exact ⟨_, _, dx, dy, rx, ry, hk, q _ H (Same.refl H) rpb⟩
  · cases h
end
end Mir

/-! Exc4: isinstance(e, T) of the exception that a suite holds -/
namespace Mir
open PySem PySem.Spec PyProof.Rows L2
/-- what the written part says of the class, for isinstance -/
structure KitEx (K : PySem.W.Frag) (C : Addr) : Prop where
  cl : (PySem.W.clsIn K C).isSome = true
  ha : PySem.W.findIn K (.ref C) "__class__" = some (some (.builtin "object.__class__"))
  hn : PySem.W.specialIn K (.builtin "object.__class__") "__get__" = some (some (.builtin "getset_descriptor.__get__"))
  tk : PySem.W.takesIn K (.builtin "object.__class__") = some true
  hm : PySem.W.mroIn K C (.type "object") = some true
section
variable {X : Cx} {C fI : Addr} {e b : Expr} {pos p : Pos} {c : Bool}
def rIsiEx (K : PySem.W.Frag) (C a : Addr) (dx : Option Addr) : List V → Hp → VK → Prop := fun xs H Q => ∃ (cv : V) (u : Value) (dd : Addr) (v : V), xs = [.ref a, cv] ∧ ClsV cv u ∧ PySem.W.kitOne K (.ref C) u = some true ∧ dx = some dd ∧ H dd = some (xdW v) ∧ Q (.bl true) H
theorem call_isiEx {a : Addr} {oe : Obj} {cls : Value} {dx : Option Addr} {pn : List (Addr × Obj)} (T : PySem.RfX.RfTxt X.prog X.K X.mg C fI) (KX : KitEx X.K C) (hz : Zc cls dx oe) (hf : ∃ vs, oe.data = .fields vs) (h1 : cls = .ref C) :
    CallR (X.suite a ((a, oe) :: pn)) (.builtin "isinstance") (rIsiEx X.K C a dx) := by
  intro pins s σ H xs us Q I r h
  obtain ⟨cv, u, dd, v, rfl, k, kt, ed, ea, q⟩ := h
  obtain ⟨u1, u2, rfl, r1, r2⟩ := vals2 r
  cases (show u1 = Value.ref a from r1)
  have e2 := k.eq r2
  subst e2
  subst h1
  subst ed
  obtain ⟨hp, _⟩ := I.pin (a, oe) (List.mem_append_left _ List.mem_cons_self)
  obtain ⟨vs, hd⟩ := hf
  have hx : ObjOk X.prog X.w H s.heap dd (xdW v) := I.hok dd _ ea
  obtain ⟨mA, hns, hr⟩ := hx
  obtain ⟨od, ho, hl⟩ := lookIn_ns hns
  have J : PySem.W.InstAt s.heap a oe C (some od) := ⟨hp, hz.1, by unfold PySem.W.notCls; rw [hd] <;> rfl, by rw [hz.2]; exact ho⟩
  exact PySem.W.kia_one (PySem.W.kitx_exc KX.cl T.ga T.gg T.exC KX.ha KX.hn KX.tk KX.hm) I.kIn J kt (fun z => nomatch z) fun tk => ⟨.bl true, H, I.tok tk, rfl, q⟩
def eIsiEx (i : Nat) (a dd : Addr) : En → Option PyData := fun env => match env[i]? with
  | some (.exc a' dd' _) => if a' = a ∧ dd' = dd then some (.bool true) else none
  | _ => none
theorem ce_isiEx {i : Nat} {a dd : Addr} {dx : Option Addr} {cv : V} {u : Value} (h2 : dx = some dd) (ck : ClsV cv u) (kt : PySem.W.kitOne X.K (.ref C) u = some true) (he : PE X e (tCB (rIsiEx X.K C a dx) (tCons (tVar i) (tCons (tC cv) tNil)))) : PE X e (tE X.K c (eIsiEx i a dd)) := pe_w he fun σ H Q ⟨S0, H0, A, env, d, E, hd, q⟩ => by
  unfold eIsiEx at hd
  split at hd
  · rename_i a' dd' d' hi
    split at hd
    · rename_i hh
      cases hd
      obtain ⟨rfl, rfl⟩ := hh
      rcases E.sl i _ hi with z | ⟨v, k1, rfl, w, k2, k3⟩
      · cases z
      exact ⟨_, k1, cv, u, dd', w, rfl, ck, kt, h2, k2, q _ H (Same.refl H) rpb⟩
    · cases hd
  · cases hd
end
end Mir

namespace Mir
open PySem PySem.Spec PyProof.Rows L2
/-! ### data of ints, of texts -/
theorem intsD_map : ∀ ns : List Int, intsD (ns.map PyData.int) = some ns
  | [] => rfl
  | n :: ns => by
    show (match intsD (ns.map PyData.int) with | some ns => some (n :: ns) | none => none) = _
    rw [intsD_map ns]
theorem strsD_map : ∀ ns : List Str, strsD (ns.map PyData.str) = some ns
  | [] => rfl
  | n :: ns => by
    show (match strsD (ns.map PyData.str) with | some ns => some (n :: ns) | none => none) = _
    rw [strsD_map ns]
/-- a comprehension whose element is k of each item, kept where p -/
theorem compF_filter {g : PyData → En → Option En} {ga : En → Option Bool} {fe : En → Option PyData} {env : En} {p : PyData → Bool} {k : PyData → PyData} : ∀ {ds : List PyData},
    (∀ d ∈ ds, ∃ e1, g d env = some e1 ∧ ga e1 = some (p d) ∧ (p d = true → fe e1 = some (k d))) → compF g ga fe env ds = some ((ds.filter p).map k)
  | [], _ => rfl
  | d :: ds, h => by
    obtain ⟨e1, h1, h2, h3⟩ := h d List.mem_cons_self
    have ih := compF_filter (ds := ds) fun x hx => h x (List.mem_cons_of_mem _ hx)
    simp only [compF, h1, h2]
    cases hp : p d with
    | true =>
      rw [hp] at h3
      simp only [h3 rfl, ih, List.filter_cons, hp, if_true, List.map_cons]
    | false =>
      simp only [ih, List.filter_cons, hp, Bool.false_eq_true, if_false]
theorem compF_map {g : PyData → En → Option En} {fe : En → Option PyData} {env : En} {k : PyData → PyData} {ds : List PyData} (h : ∀ d ∈ ds, ∃ e1, g d env = some e1 ∧ fe e1 = some (k d)) : compF g tYes' fe env ds = some (ds.map k) := by
  have q := compF_filter (g := g) (ga := tYes') (fe := fe) (env := env) (p := fun _ => true) (k := k) (ds := ds) fun d hd => by
    obtain ⟨e1, h1, h2⟩ := h d hd
    exact ⟨e1, h1, rfl, fun _ => h2⟩
  rw [q, List.filter_eq_self.mpr (fun _ _ => rfl)]
theorem compF_mapS {α : Type} {g : PyData → En → Option En} {fe : En → Option PyData} {env : En} {c : α → PyData} {k : α → PyData} : ∀ {xs : List α}, (∀ x ∈ xs, ∃ e1, g (c x) env = some e1 ∧ fe e1 = some (k x)) → compF g tYes' fe env (xs.map c) = some (xs.map k)
  | [], _ => rfl
  | x :: xs, h => by
    obtain ⟨e1, h1, h2⟩ := h x List.mem_cons_self
    have ih := compF_mapS (xs := xs) fun y hy => h y (List.mem_cons_of_mem _ hy)
    show compF g tYes' fe env (c x :: xs.map c) = _
    simp only [compF, h1, tYes', h2]
    rw [ih]
    rfl
/-! ### joined texts -/
def jl (ws : List Str) : Nat := (Txt.join (" " : Str) ws).length
theorem spc_len : ((" " : Str)).length = 1 := by decide +kernel
theorem len_app (x y : Str) : (x ++ y).length = x.length + y.length := by
  show (x.cps ++ y.cps).size = x.cps.size + y.cps.size
  simp
theorem jl_nil : jl [] = 0 := by
  unfold jl
  rw [TL.join_eq]
  rfl
theorem jl_one (w : Str) : jl [w] = w.length := by
  unfold jl
  rw [TL.join_eq]
  rfl
theorem jl_cons (w y : Str) (r : List Str) : jl (w :: y :: r) = w.length + 1 + jl (y :: r) := by
  unfold jl
  rw [TL.join_eq, TL.join_eq]
  show (w ++ (" " : Str) ++ Str.join (" " : Str) (y :: r)).length = _
  rw [len_app, len_app, spc_len]
theorem jl_snoc : ∀ (l : List Str) (w : Str), l ≠ [] → jl (l ++ [w]) = jl l + 1 + w.length
  | [], _, h => absurd rfl h
  | [x], w, _ => by
    show jl (x :: w :: []) = _
    rw [jl_cons, jl_one, jl_one]
  | x :: y :: r, w, _ => by
    show jl (x :: y :: (r ++ [w])) = _
    have ih := jl_snoc (y :: r) w (by simp)
    rw [jl_cons, jl_cons]
    rw [show jl (y :: (r ++ [w])) = jl (y :: r) + 1 + w.length from ih]
    omega
theorem jl_le : ∀ (l : List Str), (∀ w ∈ l, w.length ≤ 8) → jl l ≤ 9 * l.length
  | [], _ => by rw [jl_nil]; exact Nat.zero_le _
  | [x], h => by
    rw [jl_one]
    have := h x List.mem_cons_self
    simp
    omega
  | x :: y :: r, h => by
    rw [jl_cons]
    have h1 := h x List.mem_cons_self
    have h2 := jl_le (y :: r) fun w hw => h w (List.mem_cons_of_mem _ hw)
    rw [List.length_cons]
    omega
theorem word_le_jl : ∀ (l : List Str) (w : Str), w ∈ l → w.length ≤ jl l
  | [], _, h => by cases h
  | [x], w, h => by
    rw [jl_one]
    rw [List.mem_singleton.mp h]
    exact Nat.le_refl _
  | x :: y :: r, w, h => by
    rw [jl_cons]
    rcases List.mem_cons.mp h with h | h
    · subst h; omega
    · have := word_le_jl (y :: r) w h
      omega
/-! ### texts in tuples compared -/
theorem eqv_strs : ∀ xs ys : List Str, PyData.eqvAll (xs.map PyData.str) (ys.map PyData.str) = decide (xs = ys)
  | [], [] => by simp [PyData.eqvAll]
  | [], y :: ys => by simp [PyData.eqvAll]
  | x :: xs, [] => by simp [PyData.eqvAll]
  | x :: xs, y :: ys => by
    simp only [List.map_cons, PyData.eqvAll, PyData.eqv, eqv_strs xs ys]
    by_cases h : x = y
    · subst h
      simp
    · simp [h]
theorem lay_strs : ∀ xs : List Str, (∀ x ∈ xs, PyData.strOk x = true) → PyData.canLayAll0 (xs.map PyData.str) = true
  | [], _ => by simp [PyData.canLayAll0]
  | x :: xs, h => by
    simp only [List.map_cons, PyData.canLayAll0, PyData.canLay0, h x List.mem_cons_self, lay_strs xs (fun y hy => h y (List.mem_cons_of_mem _ hy)), Bool.and_self]
theorem depth_strs : ∀ xs : List Str, PyData.depthAll (xs.map PyData.str) = 0
  | [] => by simp [PyData.depthAll]
  | x :: xs => by simp [PyData.depthAll, PyData.depth, depth_strs xs]
theorem shaped_strs (xs : List Str) (h : ∀ x ∈ xs, PyData.strOk x = true) : SeqAt.shaped (.tuple (xs.map PyData.str)) = true := by
  unfold SeqAt.shaped
  simp [PyData.canLay0, lay_strs xs h, PyData.depth, depth_strs]
theorem shaped_int (i : Int) : SeqAt.shaped (.int i) = true := by
  unfold SeqAt.shaped
  simp [PyData.canLay0, PyData.depth]
theorem shaped_none : SeqAt.shaped .none = true := by
  unfold SeqAt.shaped
  simp [PyData.canLay0, PyData.depth]
theorem shaped_bool (i : Bool) : SeqAt.shaped (.bool i) = true := by
  unfold SeqAt.shaped
  simp [PyData.canLay0, PyData.depth]
theorem eqD_int (i j : Int) : eqD (.int i) (.int j) = some (.bool (decide (i = j))) := by
  unfold eqD
  rw [shaped_int, shaped_int]
  simp only [Bool.and_self, if_true, PyData.eqv]
  congr 2
theorem neD_int (i j : Int) : neD (.int i) (.int j) = some (.bool (!decide (i = j))) := by
  unfold neD
  rw [shaped_int, shaped_int]
  simp only [Bool.and_self, if_true, PyData.eqv]
  congr 3
theorem eqD_strs (xs ys : List Str) (h : ∀ x ∈ xs, PyData.strOk x = true) (h' : ∀ x ∈ ys, PyData.strOk x = true) : eqD (.tuple (xs.map PyData.str)) (.tuple (ys.map PyData.str)) = some (.bool (decide (xs = ys))) := by
  unfold eqD
  rw [shaped_strs xs h, shaped_strs ys h']
  simp only [Bool.and_self, if_true, PyData.eqv, eqv_strs]
theorem addD_tup {xs ys : List PyData} (h : xs.length + ys.length ≤ 1000000) : addD (.tuple xs) (.tuple ys) = some (.tuple (xs ++ ys)) := by
  simp only [addD, h, if_true]
theorem addD_list {xs ys : List PyData} (h : xs.length + ys.length ≤ 1000000) : addD (.list xs) (.list ys) = some (.list (xs ++ ys)) := by
  simp only [addD, h, if_true]
theorem addD_str {x y : Str} (h : x.length + y.length ≤ 1000000) : addD (.str x) (.str y) = some (.str (x ++ y)) := by
  simp only [addD, h, if_true]
/-! ### loops by a word -/
theorem loop_ix {g : PyData → En → Option En} {b : En → Out} (P : Nat → En → Prop) : ∀ (ds : List PyData) (k : Nat) (e : En), (∀ (j : Nat) d e, ds[j]? = some d → P (k + j) e → ∃ e1, g d e = some e1 ∧ ∃ e2, (b e1 = .nx e2 ∨ b e1 = .ct e2) ∧ P (k + j + 1) e2) → P k e → ∃ e', loopF g b ds e = .nx e' ∧ P (k + ds.length) e'
  | [], k, e, _, h => ⟨e, rfl, h⟩
  | d :: ds, k, e, st, h => by
    obtain ⟨e1, h1, e2, h2, h3⟩ := st 0 d e rfl h
    obtain ⟨e', h4, h5⟩ := loop_ix P ds (k + 1) e2 (fun j d' e' hj hp => by
      have hp' : P (k + (j + 1)) e' := by rw [show k + (j + 1) = k + 1 + j by omega]; exact hp
      have := st (j + 1) d' e' (by simpa using hj) hp'
      rw [show k + (j + 1) + 1 = k + 1 + j + 1 by omega] at this
      exact this) h3
    refine ⟨e', ?_, by rw [List.length_cons, show k + (ds.length + 1) = k + 1 + ds.length by omega]; exact h5⟩
    rcases h2 with h2 | h2 <;> (simp only [loopF, h1, h2]; exact h4)
theorem loop_rng {g : PyData → En → Option En} {b : En → Out} (P : Nat → En → Prop) {lo : Int} {n : Nat} {e : En} (st : ∀ (j : Nat) e, j < n → P j e → ∃ e1, g (.int (lo + (j : Nat))) e = some e1 ∧ ∃ e2, (b e1 = .nx e2 ∨ b e1 = .ct e2) ∧ P (j + 1) e2) (h : P 0 e) : ∃ e', loopF g b (rngD lo n) e = .nx e' ∧ P n e' := by
  obtain ⟨e', h1, h2⟩ := loop_ix P (rngD lo n) 0 e (fun j d e hj hp => by
    have hd := rng_get hj
    obtain ⟨l, _⟩ := List.getElem?_eq_some_iff.mp hj
    rw [rng_len] at l
    subst hd
    rw [Nat.zero_add] at hp ⊢
    exact st j e l hp) h
  rw [rng_len, Nat.zero_add] at h2
  exact ⟨e', h1, h2⟩
theorem atI_map {α : Type} (f : α → PyData) (xs : List α) (j : Nat) (x : α) (h : xs[j]? = some x) : atI (xs.map f) (j : Int) = some (f x) := atI_nat (by rw [List.getElem?_map, h]; rfl)
theorem noL_ints : ∀ ns : List Int, noLA (ns.map PyData.int) = true
  | [] => rfl
  | n :: ns => by
    show (noL (.int n) && noLA (ns.map PyData.int)) = true
    rw [noL_ints ns]; rfl
theorem sSeq_nx {s t : En → Out} {env e : En} (h : s env = .nx e) : sSeq s t env = t e := by
  unfold sSeq
  rw [h]
theorem sSeq_rt {s t : En → Out} {env : En} {d : PyData} (h : s env = .rt d) : sSeq s t env = .rt d := by
  unfold sSeq
  rw [h]
theorem addD_int (i j : Int) : addD (.int i) (.int j) = some (.int (i + j)) := rfl
theorem subD_int (i j : Int) : subD (.int i) (.int j) = some (.int (i - j)) := rfl
theorem mulD_int {i j : Int} (h : CMul i j) : mulD (.int i) (.int j) = some (.int (i * j)) := if_pos h
theorem modD_int {i j : Int} (h : 0 < j) : modD (.int i) (.int j) = some (.int (i % j)) := if_pos h
theorem divD_int {i j : Int} (h : CDiv i j) : divD (.int i) (.int j) = some (.int (i / j)) := if_pos h
theorem powD_int {i j : Int} (h : CPow i j) : powD (.int i) (.int j) = some (.int (i ^ j.toNat)) := if_pos h
theorem ltD_int (i j : Int) : ltD (.int i) (.int j) = some (.bool (decide (i < j))) := rfl
theorem leD_int (i j : Int) : leD (.int i) (.int j) = some (.bool (decide (i ≤ j))) := rfl
theorem gtD_int (i j : Int) : gtD (.int i) (.int j) = some (.bool (decide (j < i))) := rfl
theorem geD_int (i j : Int) : geD (.int i) (.int j) = some (.bool (decide (j ≤ i))) := rfl
/-! a draw, its numbers kept as letters -/
theorem draw_s1 (a b M : Int) (c' m k : Int) (n : Nat) (ds : List Int) (w y : Sl) (k1 : CMul c' a) (k2 : CMul k b) (k3 : 0 < M) (hm : (c' * a + k * b) % M = m) :
    (sSet 5 (e2 modD (eCall intA (aCons (e2 addD (e2 mulD (eVar 0) (eC (.int a))) (e2 mulD (eVar 4) (eC (.int b)))) aNil)) (eC (.int M)))) [.val (.int c'), .val (.int n), .own (ds.map .int), w, .val (.int k), y] = .nx [.val (.int c'), .val (.int n), .own (ds.map .int), w, .val (.int k), .val (.int m)] := by
  have k1 := mulD_int k1
  have k2 := mulD_int k2
  have k5 := modD_int (i := c' * a + k * b) k3
  rw [hm] at k5
  simp only [sSet, e2, eCall, aCons, aNil, intA, eC, eVar, List.getElem?_cons_zero, List.getElem?_cons_succ, List.set_cons_zero, List.set_cons_succ, addD_int, k1, k2, k5]
theorem draw_s2 (a M L : Int) (c' m k : Int) (n : Nat) (ds : List Int) (w : Sl) (hl : ds.length < 1000000) (k3 : CMul c' a) (k4 : CMul m m) (k6 : 0 < M) :
    (sApp 2 (e2 modD (eCall intA (aCons (e2 addD (e2 addD (e2 mulD (eVar 5) (eVar 5)) (e2 mulD (eVar 0) (eC (.int a)))) (eVar 4)) aNil)) (eC (.int M)))) [.val (.int c'), .val (.int n), .own (ds.map .int), w, .val (.int k), .val (.int m)] = .nx [.val (.int c'), .val (.int n), .own ((ds ++ [(m * m + c' * a + k) % M]).map .int), w, .val (.int k), .val (.int m)] := by
  have k3 := mulD_int k3
  have k4 := mulD_int k4
  have k6 := modD_int (i := m * m + c' * a + k) k6
  simp only [sApp, e2, eCall, aCons, aNil, intA, eC, eVar, List.getElem?_cons_zero, List.getElem?_cons_succ, addD_int, k3, k4, k6, List.length_map, hl, if_true, List.set_cons_zero, List.set_cons_succ, List.map_append, List.map_cons, List.map_nil]
theorem draw_s1' (a b M : Int) (c' m k : Int) (n : Nat) (ds : List Int) (w y : Sl) (k1 : CMul c' a) (k2 : CMul k b) (k3 : 0 < M) (hm : (c' * a + k * b) % M = m) :
    (sSet 5 (e2 modD (e2 addD (e2 mulD (eVar 0) (eC (.int a))) (e2 mulD (eVar 4) (eC (.int b)))) (eC (.int M)))) [.val (.int c'), .val (.int n), .own (ds.map .int), w, .val (.int k), y] = .nx [.val (.int c'), .val (.int n), .own (ds.map .int), w, .val (.int k), .val (.int m)] := by
  have k1 := mulD_int k1
  have k2 := mulD_int k2
  have k5 := modD_int (i := c' * a + k * b) k3
  rw [hm] at k5
  simp only [sSet, e2, eC, eVar, List.getElem?_cons_zero, List.getElem?_cons_succ, List.set_cons_zero, List.set_cons_succ, addD_int, k1, k2, k5]
theorem draw_s2' (a M L : Int) (c' m k : Int) (n : Nat) (ds : List Int) (w : Sl) (hl : ds.length < 1000000) (k3 : CMul c' a) (k4 : CMul m m) (k6 : 0 < M) :
    (sApp 2 (e2 modD (e2 addD (e2 addD (e2 mulD (eVar 5) (eVar 5)) (e2 mulD (eVar 0) (eC (.int a)))) (eVar 4)) (eC (.int M)))) [.val (.int c'), .val (.int n), .own (ds.map .int), w, .val (.int k), .val (.int m)] = .nx [.val (.int c'), .val (.int n), .own ((ds ++ [(m * m + c' * a + k) % M]).map .int), w, .val (.int k), .val (.int m)] := by
  have k3 := mulD_int k3
  have k4 := mulD_int k4
  have k6 := modD_int (i := m * m + c' * a + k) k6
  simp only [sApp, e2, eC, eVar, List.getElem?_cons_zero, List.getElem?_cons_succ, addD_int, k3, k4, k6, List.length_map, hl, if_true, List.set_cons_zero, List.set_cons_succ, List.map_append, List.map_cons, List.map_nil]
theorem draw_t (M : Int) (c' : Int) (n : Nat) (ds : List Int) (w x y : Sl) (hl : ds.length < 1000000) (k1 : 0 < M) (k2 : M < 1073741824) :
    sSeq (sApp 2 (e2 modD (eCall intA (aCons (eVar 0) aNil)) (eC (.int M)))) (sSet 0 (e2 divD (eVar 0) (eC (.int M)))) [.val (.int c'), .val (.int n), .own (ds.map .int), w, x, y] = .nx [.val (.int (c' / M)), .val (.int n), .own ((ds ++ [c' % M]).map .int), w, x, y] := by
  have h1 := modD_int (i := c') k1
  have h2 := divD_int (i := c') (j := M) ⟨k1, k2⟩
  simp only [sSeq, sApp, sSet, e2, eCall, aCons, aNil, intA, eC, eVar, List.getElem?_cons_zero, List.getElem?_cons_succ, List.set_cons_zero, List.set_cons_succ, h1, h2, hl, if_true, List.length_map, List.map_append, List.map_cons, List.map_nil]
theorem draw_t' (M : Int) (c' : Int) (n : Nat) (ds : List Int) (w x y : Sl) (hl : ds.length < 1000000) (k1 : 0 < M) (k2 : M < 1073741824) :
    sSeq (sApp 2 (e2 modD (eVar 0) (eC (.int M)))) (sSet 0 (e2 divD (eVar 0) (eC (.int M)))) [.val (.int c'), .val (.int n), .own (ds.map .int), w, x, y] = .nx [.val (.int (c' / M)), .val (.int n), .own ((ds ++ [c' % M]).map .int), w, x, y] := by
  have h1 := modD_int (i := c') k1
  have h2 := divD_int (i := c') (j := M) ⟨k1, k2⟩
  simp only [sSeq, sApp, sSet, e2, eC, eVar, List.getElem?_cons_zero, List.getElem?_cons_succ, List.set_cons_zero, List.set_cons_succ, h1, h2, hl, if_true, List.length_map, List.map_append, List.map_cons, List.map_nil]
theorem sIf_t {ga : En → Option Bool} {s t : En → Out} {env : En} (h : ga env = some true) : sIf ga s t env = s env := by
  unfold sIf
  rw [h]
theorem sIf_f {ga : En → Option Bool} {s t : En → Out} {env : En} (h : ga env = some false) : sIf ga s t env = t env := by
  unfold sIf
  rw [h]
theorem iR1_ev {fa : En → Option (List PyData)} {env : En} {N : Int} (h : fa env = some [.int N]) (h1 : N < 1000000) (h2 : -1000000 < N) : iR1 fa env = some (rngD 0 N.toNat) := by
  unfold iR1
  rw [h]
  exact if_pos ⟨h1, h2⟩
theorem iR2_ev {fa : En → Option (List PyData)} {env : En} {M N : Int} (h : fa env = some [.int M, .int N]) (h1 : N < 1000000000) (h2 : -1000000000 < N) (h3 : M < 1000000000) (h4 : -1000000000 < M) : iR2 fa env = some (rngD M (N - M).toNat) := by
  unfold iR2
  rw [h]
  exact if_pos ⟨⟨h1, h2⟩, h3, h4⟩
/-- a loop that may be left by a return -/
theorem loop_any {g : PyData → En → Option En} {b : En → Out} (P : Nat → En → Prop) (Q : PyData → Prop) : ∀ (ds : List PyData) (k : Nat) (e : En), (∀ (j : Nat) d e, ds[j]? = some d → P (k + j) e → ∃ e1, g d e = some e1 ∧ ((∃ e2, (b e1 = .nx e2 ∨ b e1 = .ct e2) ∧ P (k + j + 1) e2) ∨ ∃ v, b e1 = .rt v ∧ Q v)) → P k e →
    (∃ e', loopF g b ds e = .nx e' ∧ P (k + ds.length) e') ∨ ∃ v, loopF g b ds e = .rt v ∧ Q v
  | [], k, e, _, h => .inl ⟨e, rfl, h⟩
  | d :: ds, k, e, st, h => by
    obtain ⟨e1, h1, h2⟩ := st 0 d e rfl h
    rcases h2 with ⟨e2, h2, h3⟩ | ⟨v, h2, h3⟩
    · have ih := loop_any P Q ds (k + 1) e2 (fun j d' e' hj hp => by
        have hp' : P (k + (j + 1)) e' := by rw [show k + (j + 1) = k + 1 + j by omega]; exact hp
        have := st (j + 1) d' e' (by simpa using hj) hp'
        rw [show k + (j + 1) + 1 = k + 1 + j + 1 by omega] at this
        exact this) h3
      have e0 : loopF g b (d :: ds) e = loopF g b ds e2 := by
        rcases h2 with h2 | h2 <;> simp only [loopF, h1, h2]
      rw [e0, List.length_cons, show k + (ds.length + 1) = k + 1 + ds.length by omega]
      exact ih
    · exact .inr ⟨v, by simp only [loopF, h1, h2], h3⟩
theorem loop_rngA {g : PyData → En → Option En} {b : En → Out} (P : Nat → En → Prop) (Q : PyData → Prop) {lo : Int} {n : Nat} {e : En} (st : ∀ (j : Nat) e, j < n → P j e → ∃ e1, g (.int (lo + (j : Nat))) e = some e1 ∧ ((∃ e2, (b e1 = .nx e2 ∨ b e1 = .ct e2) ∧ P (j + 1) e2) ∨ ∃ v, b e1 = .rt v ∧ Q v)) (h : P 0 e) :
    (∃ e', loopF g b (rngD lo n) e = .nx e' ∧ P n e') ∨ ∃ v, loopF g b (rngD lo n) e = .rt v ∧ Q v := by
  have := loop_any P Q (rngD lo n) 0 e (fun j d e hj hp => by
    have hd := rng_get hj
    obtain ⟨l, _⟩ := List.getElem?_eq_some_iff.mp hj
    rw [rng_len] at l
    subst hd
    rw [Nat.zero_add] at hp ⊢
    exact st j e l hp) h
  rw [rng_len, Nat.zero_add] at this
  exact this
/-! evaluation, step by step -/
section
variable {env env' : En} {f g h : En → Option PyData} {fa : En → Option (List PyData)} {x y d : PyData} {ds : List PyData}
theorem e2_ev {k : PyData → PyData → Option PyData} (h1 : f env = some x) (h2 : g env = some y) (h3 : k x y = some d) : e2 k f g env = some d := by
  unfold e2
  rw [h1, h2]
  exact h3
theorem aCons_ev (h1 : f env = some x) (h2 : fa env = some ds) : aCons f fa env = some (x :: ds) := by
  unfold aCons
  rw [h1, h2]
theorem aNil_ev : aNil env = some [] := rfl
theorem eCall_ev {k : List PyData → Option PyData} (h1 : fa env = some ds) (h2 : k ds = some d) : eCall k fa env = some d := by
  unfold eCall
  rw [h1]
  exact h2
theorem sSet_ev {i : Nat} (h1 : f env = some d) : sSet i f env = .nx (env.set i (.val d)) := by
  unfold sSet
  rw [h1]
theorem sOwn_ev {i : Nat} (h1 : fa env = some ds) : sOwn i fa env = .nx (env.set i (.own ds)) := by
  unfold sOwn
  rw [h1]
theorem sRet_ev (h1 : f env = some d) : sRet f env = .rt d := by
  unfold sRet
  rw [h1]
theorem sApp_ev {i : Nat} (h1 : f env = some d) (h2 : env[i]? = some (.own ds)) (h3 : ds.length < 1000000) : sApp i f env = .nx (env.set i (.own (ds ++ [d]))) := by
  unfold sApp
  rw [h1, h2]
  exact if_pos h3
theorem sFor_ev {k : PyData → En → Option En} {b : En → Out} {o : Out} (h1 : fa env = some ds) (h2 : loopF k b ds env = o) : sFor fa k b env = o := by
  unfold sFor
  rw [h1]
  exact h2
theorem eL_ev (h1 : fa env = some ds) : eL fa env = some (.list ds) := by
  unfold eL
  rw [h1]
  rfl
theorem t1_ev {b : Bool} (h1 : f env = some (.bool b)) : t1 f env = some b := by
  unfold t1
  rw [h1]
theorem and_t {ga gb : En → Option Bool} {b : Bool} (h1 : ga env = some true) (h2 : gb env = some b) : tAnd' ga gb env = some b := by
  unfold tAnd'
  rw [h1]
  exact h2
theorem and_f {ga gb : En → Option Bool} (h1 : ga env = some false) : tAnd' ga gb env = some false := by
  unfold tAnd'
  rw [h1]
theorem or_t {ga gb : En → Option Bool} (h1 : ga env = some true) : tOr' ga gb env = some true := by
  unfold tOr'
  rw [h1]
theorem or_f {ga gb : En → Option Bool} {b : Bool} (h1 : ga env = some false) (h2 : gb env = some b) : tOr' ga gb env = some b := by
  unfold tOr'
  rw [h1]
  exact h2
theorem not_ev {ga : En → Option Bool} {b : Bool} (h1 : ga env = some b) : tNot' ga env = some (!b) := by
  unfold tNot'
  rw [h1]
  rfl
theorem eIf_t {ga : En → Option Bool} (h1 : ga env = some true) (h2 : f env = some d) : eIf ga f g env = some d := by
  unfold eIf
  rw [h1]
  exact h2
theorem eIf_f {ga : En → Option Bool} (h1 : ga env = some false) (h2 : g env = some d) : eIf ga f g env = some d := by
  unfold eIf
  rw [h1]
  exact h2
theorem eTup_ev (h1 : fa env = some ds) (h2 : ds.length ≤ 1000000) : eTup fa env = some (.tuple ds) := by
  unfold eTup
  rw [h1]
  exact if_pos h2
theorem fLst_ev (h1 : fa env = some ds) (h2 : ds.length ≤ 1000000) : fLst fa env = some ds := by
  unfold fLst
  rw [h1]
  exact if_pos h2
theorem fCmp_ev {is : List Nat} {k : PyData → En → Option En} {ga : En → Option Bool} {fe : En → Option PyData} {vs : List PyData} (h1 : fa env = some ds) (h2 : compF k ga fe (wipeE env is) ds = some vs) (h3 : vs.length ≤ 1000000) : fCmp is fa k ga fe env = some vs := by
  unfold fCmp
  simp only [h1, h2]
  exact if_pos h3
theorem eIsi_ev {T : String} {b : Bool} (h1 : f env = some d) (h2 : isiB T (tyD d) = some b) : eIsi T f env = some (.bool b) := by
  unfold eIsi
  rw [h1]
  simp only [h2]
  rfl
theorem tTr_ev {b : Bool} (h1 : f env = some d) (h2 : truD d = some b) : tTr f env = some b := by
  unfold tTr
  rw [h1]
  exact h2
theorem outD_rt {o : Out} (h : o = .rt d) : outD o = some d := by rw [h]; rfl
end
theorem gDef_ev {np nN : Nat} {fB : En → Out} {ds : List PyData} {d : PyData} (h1 : ds.length = np) (h2 : fB (env0 nN ds) = .rt d) : gDef np nN fB ds = some d := by
  unfold gDef
  rw [if_pos h1, h2]
  rfl
/-! draws read; pairs of ints -/
theorem dr_at {ds : List Int} {env : En} {i j : Nat} {k : Int} (h : eVar i env = some (.list (ds.map .int))) (hj : j < ds.length) (hk : k = (j : Nat)) : e2 ixG (eVar i) (eC (.int k)) env = some (.int (ds.getD j 0)) := by
  refine e2_ev h rfl ?_
  subst hk
  refine (atI_map PyData.int ds j (ds.getD j 0) ?_)
  simp [List.getD, hj]
theorem dr_int {ds : List Int} {env : En} {i j : Nat} {k : Int} (h : eVar i env = some (.list (ds.map .int))) (hj : j < ds.length) (hk : k = (j : Nat)) : eCall intA (aCons (e2 ixG (eVar i) (eC (.int k))) aNil) env = some (.int (ds.getD j 0)) :=
  eCall_ev (aCons_ev (dr_at h hj hk) aNil_ev) rfl
theorem dr_mod {ds : List Int} {env : En} {i j : Nat} {k m : Int} (h : eVar i env = some (.list (ds.map .int))) (hj : j < ds.length) (hk : k = (j : Nat)) (hm : 0 < m) : e2 modD (eCall intA (aCons (e2 ixG (eVar i) (eC (.int k))) aNil)) (eC (.int m)) env = some (.int (ds.getD j 0 % m)) :=
  e2_ev (dr_int h hj hk) rfl (modD_int hm)
theorem dr_mod' {ds : List Int} {env : En} {i j : Nat} {k m : Int} (h : eVar i env = some (.list (ds.map .int))) (hj : j < ds.length) (hk : k = (j : Nat)) (hm : 0 < m) : e2 modD (e2 ixG (eVar i) (eC (.int k))) (eC (.int m)) env = some (.int (ds.getD j 0 % m)) :=
  e2_ev (dr_at h hj hk) rfl (modD_int hm)
theorem mod_lt (x m : Int) (h : 0 < m) : 0 ≤ x % m ∧ x % m < m := ⟨Int.emod_nonneg _ (by omega), Int.emod_lt_of_pos _ h⟩
abbrev pr (p : Int × Int) : PyData := .tuple [.int p.1, .int p.2]
theorem shaped_pr (p : Int × Int) : SeqAt.shaped (pr p) = true := by
  unfold SeqAt.shaped
  simp [pr, PyData.canLay0, PyData.canLayAll0, PyData.depth, PyData.depthAll]
theorem lay_prs : ∀ ps : List (Int × Int), PyData.canLayAll0 (ps.map pr) = true ∧ PyData.depthAll (ps.map pr) ≤ 1
  | [] => by simp [PyData.canLayAll0, PyData.depthAll]
  | p :: ps => by
    obtain ⟨h1, h2⟩ := lay_prs ps
    simp only [List.map_cons, PyData.canLayAll0, PyData.depthAll, h1]
    simp [pr, PyData.canLay0, PyData.canLayAll0, PyData.depth, PyData.depthAll]
    omega
theorem shaped_prs (ps : List (Int × Int)) : SeqAt.shaped (.list (ps.map pr)) = true := by
  unfold SeqAt.shaped
  obtain ⟨h1, h2⟩ := lay_prs ps
  simp [PyData.canLay0, h1, PyData.depth]
  omega
theorem eqv_pr (p q : Int × Int) : PyData.eqv (pr p) (pr q) = decide (p = q) := by
  obtain ⟨a, b⟩ := p
  obtain ⟨c, d⟩ := q
  simp only [pr, PyData.eqv, PyData.eqvAll]
  by_cases h1 : a = c
  · by_cases h2 : b = d
    · simp [h1, h2]
    · simp [h1, h2]
  · simp [h1]
theorem any_pr (p : Int × Int) : ∀ ps : List (Int × Int), ((ps.map pr).any fun z => PyData.eqv z (pr p)) = decide (p ∈ ps)
  | [] => by simp
  | q :: ps => by
    rw [List.map_cons, List.any_cons, any_pr p ps, eqv_pr]
    by_cases h : q = p
    · simp [h]
    · have : ¬ p = q := fun e => h e.symm
      simp [h, this]
theorem inD_pr (p : Int × Int) (ps : List (Int × Int)) : inD (pr p) (.list (ps.map pr)) = some (.bool (decide (p ∈ ps))) := by
  unfold inD
  simp only [shaped_pr, shaped_prs, any_pr, Bool.and_self, if_true]
theorem notInD_pr (p : Int × Int) (ps : List (Int × Int)) : notInD (pr p) (.list (ps.map pr)) = some (.bool (!decide (p ∈ ps))) := by
  unfold notInD
  simp only [shaped_pr, shaped_prs, any_pr, Bool.and_self, if_true]
theorem eNot_ev {f : En → Option PyData} {env : En} {b : Bool} (h : f env = some (.bool b)) : eNot f env = some (.bool (!b)) := by
  unfold eNot
  rw [h]
theorem eN_ev {f : En → Option PyData} {env : En} {d : PyData} (h : f env = some d) (hn : noL d = true) : eN f env = some d := by
  unfold eN
  rw [h]
  exact if_pos hn
theorem eTupO_ev {i : Nat} {env : En} {ds : List PyData} (h : env[i]? = some (.own ds)) : eTupO i env = some (.tuple ds) := by
  unfold eTupO
  rw [h]
theorem eIxO_ev {i : Nat} {env : En} {ds : List PyData} {g : En → Option PyData} {k : Int} {d : PyData} (h : env[i]? = some (.own ds)) (h1 : g env = some (.int k)) (h2 : atI ds k = some d) : eIxO i g env = some d := by
  have e : eIxO i g env = (match g env with | some (.int k) => atI ds k | _ => none) := by
    unfold eIxO
    rw [h]
    all_goals rfl
  rw [e, h1]
  exact h2
theorem gDef_ev' {np nN : Nat} {fB : En → Out} {ds : List PyData} {d : PyData} (env : En) (h1 : ds.length = np) (h0 : env0 nN ds = env) (h2 : fB env = .rt d) : gDef np nN fB ds = some d := gDef_ev h1 (by rw [h0]; exact h2)
theorem neD_same {d : PyData} (h : SeqAt.shaped d = true) : neD d d = some (.bool false) := by
  unfold neD
  have h2 : d.canLay0 = true := by
    unfold SeqAt.shaped at h
    exact (Bool.and_eq_true _ _ ▸ h).1
  rw [h, SeqAt.eqv_refl d h2]
  rfl
theorem eqD_same {d : PyData} (h : SeqAt.shaped d = true) : eqD d d = some (.bool true) := by
  unfold eqD
  have h2 : d.canLay0 = true := by
    unfold SeqAt.shaped at h
    exact (Bool.and_eq_true _ _ ▸ h).1
  rw [h, SeqAt.eqv_refl d h2]
  rfl
theorem eAnd_t {f g : En → Option PyData} {env : En} {d : PyData} (h1 : f env = some (.bool true)) (h2 : g env = some d) : eAnd f g env = some d := by
  unfold eAnd
  rw [h1]
  exact h2
theorem eAnd_f {f g : En → Option PyData} {env : En} (h1 : f env = some (.bool false)) : eAnd f g env = some (.bool false) := by
  unfold eAnd
  rw [h1]
theorem sUnp_ev {f : En → Option PyData} {g : PyData → En → Option En} {env e : En} {d : PyData} (h1 : f env = some d) (h2 : g d env = some e) : sUnp f g env = .nx e := by
  unfold sUnp
  rw [h1]
  simp only [h2]
theorem iSeq_l {f : En → Option PyData} {env : En} {ds : List PyData} (h : f env = some (.list ds)) : iSeq f env = some ds := by
  unfold iSeq
  rw [h]
theorem iSeq_t {f : En → Option PyData} {env : En} {ds : List PyData} (h : f env = some (.tuple ds)) : iSeq f env = some ds := by
  unfold iSeq
  rw [h]
end Mir

/-! MathC: more meanings evaluated -/
namespace Mir
open PySem PySem.Spec PyProof.Rows L2
section
variable {f g : En → Option PyData} {fa : En → Option (List PyData)} {env : En} {ds : List PyData}
theorem cut_pre {ds : List PyData} (n : Nat) (h : n ≤ ds.length) : cutL ds none (some (n : Int)) = ds.take n := by
  unfold cutL
  rw [HT.sIx_none, HT.sIx_nat]
  simp [Nat.min_eq_left h]
theorem cut_post {ds : List PyData} (n : Nat) (h : n ≤ ds.length) : cutL ds (some (n : Int)) none = ds.drop n := by
  unfold cutL
  rw [HT.sIx_none, HT.sIx_nat, Nat.min_eq_left h]
  rw [List.take_of_length_le (by simp)]
theorem cut_mid {ds : List PyData} (m n : Nat) (h : m ≤ n) (h2 : n ≤ ds.length) : cutL ds (some (m : Int)) (some (n : Int)) = (ds.drop m).take (n - m) := by
  unfold cutL
  rw [HT.sIx_nat, HT.sIx_nat, Nat.min_eq_left h2, Nat.min_eq_left (Nat.le_trans h h2)]
theorem oSome_ev {k : Int} (h : g env = some (.int k)) : oSome g env = some (some k) := by
  unfold oSome
  rw [h]
theorem slT_pre {n : Nat} {k : Int} (h1 : f env = some (.tuple ds)) (h2 : g env = some (.int k)) (hk : k = (n : Nat)) (h3 : n ≤ ds.length) : eSl f oNone (oSome g) env = some (.tuple (ds.take n)) := by
  subst hk
  unfold eSl
  rw [h1, oSome_ev h2]
  show some (PyData.tuple (cutL ds none (some (n : Int)))) = _
  rw [cut_pre n h3]
theorem slT_post {n : Nat} {k : Int} (h1 : f env = some (.tuple ds)) (h2 : g env = some (.int k)) (hk : k = (n : Nat)) (h3 : n ≤ ds.length) : eSl f (oSome g) oNone env = some (.tuple (ds.drop n)) := by
  subst hk
  unfold eSl
  rw [h1, oSome_ev h2]
  show some (PyData.tuple (cutL ds (some (n : Int)) none)) = _
  rw [cut_post n h3]
theorem slL_pre {n : Nat} {k : Int} (h1 : f env = some (.list ds)) (h2 : g env = some (.int k)) (hk : k = (n : Nat)) (h3 : n ≤ ds.length) : eSl f oNone (oSome g) env = some (.list (ds.take n)) := by
  subst hk
  unfold eSl
  rw [h1, oSome_ev h2]
  show some (PyData.list (cutL ds none (some (n : Int)))) = _
  rw [cut_pre n h3]
theorem slL_post {n : Nat} {k : Int} (h1 : f env = some (.list ds)) (h2 : g env = some (.int k)) (hk : k = (n : Nat)) (h3 : n ≤ ds.length) : eSl f (oSome g) oNone env = some (.list (ds.drop n)) := by
  subst hk
  unfold eSl
  rw [h1, oSome_ev h2]
  show some (PyData.list (cutL ds (some (n : Int)) none)) = _
  rw [cut_post n h3]
theorem zipD_map {α β : Type} (u : α → PyData) (v : β → PyData) : ∀ (xs : List α) (ys : List β), zipD (xs.map u) (ys.map v) = (xs.zip ys).map fun q => .tuple [u q.1, v q.2]
  | [], _ => by simp [zipD]
  | _ :: _, [] => by simp [zipD]
  | x :: xs, y :: ys => by
    simp only [List.map_cons, zipD, List.zip_cons_cons]
    rw [zipD_map u v xs ys]
theorem sumA_ev {ns : List Int} (h : fa env = some [.list (ns.map .int)]) : eCall sumA fa env = some (.int ns.sum) := by
  unfold eCall
  rw [h]
  show (intsD (ns.map PyData.int)).map (fun ns => PyData.int ns.sum) = _
  rw [intsD_map]
  rfl
theorem loopF_step {g : PyData → En → Option En} {b : En → Out} {d : PyData} {ds : List PyData} {e e1 e2 : En} (h1 : g d e = some e1) (h2 : b e1 = .nx e2) : loopF g b (d :: ds) e = loopF g b ds e2 := by
  simp only [loopF, h1, h2]
theorem e1_ev {k : PyData → Option PyData} {d x : PyData} (h1 : f env = some x) (h2 : k x = some d) : e1 k f env = some d := by
  unfold e1
  rw [h1]
  exact h2
theorem ixG_t {j : Nat} {k : Int} {d : PyData} (h : ds[j]? = some d) (hk : k = (j : Nat)) : ixG (.tuple ds) (.int k) = some d := by subst hk; exact atI_nat h
theorem ixG_l {j : Nat} {k : Int} {d : PyData} (h : ds[j]? = some d) (hk : k = (j : Nat)) : ixG (.list ds) (.int k) = some d := by subst hk; exact atI_nat h
theorem len_l {i : En → Option PyData} (h : i env = some (.list ds)) : eCall lenA (aCons i aNil) env = some (.int (ds.length : Nat)) := by
  refine eCall_ev (aCons_ev h aNil_ev) ?_
  simp [lenA]
theorem len_t {i : En → Option PyData} (h : i env = some (.tuple ds)) : eCall lenA (aCons i aNil) env = some (.int (ds.length : Nat)) := by
  refine eCall_ev (aCons_ev h aNil_ev) ?_
  simp [lenA]
theorem eMinK_ev {gk : List PyData → Option PyData} {qs : List (PyData × PyData)} {d : PyData} (h1 : f env = some (.list (qs.map (·.1)))) (h2 : keysD gk (qs.map (·.1)) = some qs) (h3 : keysB qs = true) (h4 : 0 < qs.length) (h5 : (bestK qs (qs.length - 1)).1 = d) : eMinK gk f env = some d := by
  unfold eMinK
  rw [h1]
  simp only
  rw [h2]
  simp only
  rw [if_pos ⟨h3, h4⟩, h5]
theorem keysD_map {α : Type} {gk : List PyData → Option PyData} {u k : α → PyData} : ∀ {xs : List α}, (∀ x ∈ xs, gk [u x] = some (k x)) → keysD gk (xs.map u) = some (xs.map fun x => (u x, k x))
  | [], _ => rfl
  | x :: xs, h => by
    simp only [List.map_cons, keysD]
    rw [h x List.mem_cons_self, keysD_map fun y hy => h y (List.mem_cons_of_mem _ hy)]
    rfl
theorem keysB_map {α : Type} {u k : α → PyData} {xs : List α} (h1 : ∀ x ∈ xs, noD (k x) = true ∧ (k x).depth ≤ 60 ∧ k x ≠ .none) (h2 : ∀ x ∈ xs, ∀ y ∈ xs, PySem.W.alike (k x) (k y) = true) : keysB (xs.map fun x => (u x, k x)) = true := by
  unfold keysB
  rw [List.all_eq_true]
  intro q hq
  obtain ⟨x, hx, rfl⟩ := List.mem_map.mp hq
  obtain ⟨n1, n2, n3⟩ := h1 x hx
  rw [Bool.and_eq_true, Bool.and_eq_true, List.all_eq_true]
  refine ⟨⟨by simp [keyOk, n1, n2], ?_⟩, fun q' hq' => ?_⟩
  · show (match k x with | .none => false | _ => true) = true
    cases e : k x with
    | none => exact absurd e n3
    | _ => rfl
  · obtain ⟨y, hy, rfl⟩ := List.mem_map.mp hq'
    exact h2 x hx y hy
end
section
variable {κ : Type} [DecidableEq κ] {kd : κ → PyData} {kk : PyData → Option κ}
theorem getD_cons {k : κ} {p : PyData × PyData} {kvs : List (PyData × PyData)} : getD' kk (p :: kvs) k = if kk p.1 = some k then some p.2 else getD' kk kvs k := by
  unfold getD'
  rw [List.find?_cons]
  by_cases h : kk p.1 = some k
  · rw [if_pos h, decide_eq_true h]; rfl
  · rw [if_neg h, decide_eq_false h]
theorem get_app (hk : ∀ k, kk (kd k) = some k) {k q : κ} {d : PyData} : ∀ {kvs : List (PyData × PyData)}, (kvs.any fun p => decide (kk p.1 = some k)) = false → getD' kk (kvs ++ [(kd k, d)]) q = if q = k then some d else getD' kk kvs q
  | [], _ => by
    rw [List.nil_append, getD_cons]
    by_cases h : q = k
    · rw [if_pos h, if_pos (by rw [h]; exact hk k)]
    · rw [if_neg h, if_neg fun z => by rw [hk] at z; exact h (Option.some.inj z).symm]
  | p :: kvs, h => by
    rw [List.any_cons, Bool.or_eq_false_iff] at h
    have h1 : kk p.1 ≠ some k := of_decide_eq_false h.1
    rw [List.cons_append, getD_cons, getD_cons, get_app hk h.2]
    by_cases z : kk p.1 = some q
    · rw [if_pos z, if_pos z, if_neg fun e => h1 (by rw [z, e])]
    · rw [if_neg z, if_neg z]
theorem get_map {k q : κ} {d : PyData} : ∀ {kvs : List (PyData × PyData)}, getD' kk (kvs.map fun p => if kk p.1 = some k then (p.1, d) else p) q = if q = k then (if (kvs.any fun p => decide (kk p.1 = some k)) = true then some d else none) else getD' kk kvs q
  | [] => by
    by_cases h : q = k
    · rw [if_pos h]; rfl
    · rw [if_neg h]; rfl
  | p :: kvs => by
    rw [List.map_cons, getD_cons, get_map (kvs := kvs), getD_cons]
    by_cases z : kk p.1 = some k
    · rw [if_pos z]
      by_cases h : q = k
      · subst h; simp [z]
      · have h' : ¬ (some k = some q) := fun e => h (Option.some.inj e).symm
        simp [z, h, h']
    · rw [if_neg z]
      by_cases h : q = k
      · subst h
        rw [if_neg z, if_pos rfl, if_pos rfl, List.any_cons, decide_eq_false z, Bool.false_or]
      · simp [h]
theorem get_put (hk : ∀ k, kk (kd k) = some k) {k q : κ} {d : PyData} {kvs : List (PyData × PyData)} : getD' kk (putD kd kk kvs k d) q = if q = k then some d else getD' kk kvs q := by
  unfold putD
  by_cases h : (kvs.any fun p => decide (kk p.1 = some k)) = true
  · rw [if_pos h, get_map, if_pos h]
  · rw [if_neg h]
    exact get_app hk (by simpa using h)
theorem put_len {k : κ} {d : PyData} {kvs : List (PyData × PyData)} : (putD kd kk kvs k d).length ≤ kvs.length + 1 := by
  unfold putD
  split <;> simp
theorem getO_ev {i : Nat} {g : En → Option PyData} {env : En} {kvs : List (PyData × PyData)} {q : Key} {k d : PyData} (h1 : env[i]? = some (.ownK kvs)) (h2 : g env = some k) (h3 : kK k = some q) (h4 : getD' kK kvs q = some d) : eGetO i g env = some d := by
  unfold eGetO
  rw [h1]
  simp only
  rw [h2]
  simp only
  rw [h3]
  exact h4
theorem putK_ev {i : Nat} {fk f : En → Option PyData} {env : En} {kvs : List (PyData × PyData)} {q : Key} {k d : PyData} (h1 : f env = some d) (h2 : fk env = some k) (h3 : env[i]? = some (.ownK kvs)) (h4 : kK k = some q) (h5 : kvs.length < 1000000) : sPutD i fk f env = .nx (env.set i (.ownK (putD kdD kK kvs q d))) := by
  unfold sPutD
  rw [h1]
  simp only
  rw [h2]
  simp only
  rw [h3]
  simp only
  rw [h4]
  simp only
  rw [if_pos h5]
theorem chI_t {k1 k2 : Int → Int → Bool} {f g h : En → Option PyData} {env : En} {i j m : Int} (h1 : f env = some (.int i)) (h2 : g env = some (.int j)) (h3 : h env = some (.int m)) (h4 : k1 i j = true) : chI k1 k2 f g h env = some (.bool (k2 j m)) := by
  unfold chI
  rw [h1]
  simp only
  rw [h2]
  simp only
  rw [if_pos h4, h3]
end
/-! loops that look for the first that decides -/
section
theorem loop_find {α : Type} {g : PyData → En → Option En} {b : En → Out} (c : α → PyData) (o : α → Option PyData) (E : En → Prop) : ∀ (xs : List α) (e : En), E e →
    (∀ x ∈ xs, ∀ e, E e → ∃ e1, g (c x) e = some e1 ∧ match o x with | none => ∃ e2, b e1 = .nx e2 ∧ E e2 | some v => b e1 = .rt v) →
    match xs.findSome? o with | none => ∃ e', loopF g b (xs.map c) e = .nx e' ∧ E e' | some v => loopF g b (xs.map c) e = .rt v
  | [], e, he, _ => ⟨e, rfl, he⟩
  | x :: xs, e, he, h => by
    obtain ⟨e1, h1, h2⟩ := h x List.mem_cons_self e he
    rw [List.findSome?_cons]
    cases ho : o x with
    | some v =>
      rw [ho] at h2
      show loopF g b (c x :: xs.map c) e = .rt v
      simp only [loopF, h1, show b e1 = .rt v from h2]
    | none =>
      rw [ho] at h2
      obtain ⟨e2, h3, h4⟩ := h2
      have ih := loop_find c o E xs e2 h4 fun y hy => h y (List.mem_cons_of_mem _ hy)
      have st : loopF g b ((x :: xs).map c) e = loopF g b (xs.map c) e2 := by
        show loopF g b (c x :: xs.map c) e = _
        simp only [loopF, h1, h3]
      rw [st]
      exact ih
theorem rngD_map (lo : Int) (n : Nat) : rngD lo n = (List.range n).map fun k : Nat => PyData.int (lo + (k : Nat)) := rfl
theorem cond_find {α : Type} (p : α → Bool) (v : PyData) : ∀ xs : List α, xs.findSome? (fun x => if p x = true then some v else none) = if xs.any p = true then some v else none
  | [] => rfl
  | x :: xs => by
    rw [List.findSome?_cons, List.any_cons]
    cases h : p x with
    | true => simp
    | false => simpa using cond_find p v xs
end
end Mir

/-! MathT: texts: numbers written and read, rows of parts split again -/
namespace Mir
open PySem PySem.Spec PyProof.Rows L2
def num (n : Nat) : Str := Str.ofString (toString ((n : Nat) : Int))
theorem tl_num' (n : Nat) : TL.tl (num n) = TL.numL n := TL.tl_num n
theorem num_dig (n : Nat) : ∀ c ∈ TL.tl (num n), 48 ≤ c ∧ c ≤ 57 := fun c h => by rw [tl_num'] at h; exact TL.numL_digits n c h
theorem num_len {n : Nat} (h : n < 10000) : 1 ≤ (num n).length ∧ (num n).length ≤ 4 := by
  rw [TL.len_tl, tl_num']
  refine ⟨List.length_pos_iff.mpr (TL.numL_ne n), TL.numL_len (k := 4) (by decide) h⟩
theorem log_small {n : Nat} (h : n < 10000) : ((n : Nat) : Int).natAbs.log2 < 1920 := by
  rw [Int.natAbs_natCast]
  by_cases e : n = 0
  · subst e; decide
  · exact (Nat.log2_lt e).mpr (Nat.lt_of_lt_of_le h (by
      have : (10000 : Nat) ≤ 2 ^ 14 := by decide
      exact Nat.le_trans this (Nat.pow_le_pow_right (by decide) (by decide))))
section
variable {f g : En → Option PyData} {fa : En → Option (List PyData)} {env : En}
theorem strA_ev {n : Nat} {i : Int} (h : f env = some (.int i)) (hi : i = (n : Nat)) (hn : n < 10000) : eCall strA (aCons f aNil) env = some (.str (num n)) := by
  subst hi
  refine eCall_ev (aCons_ev h aNil_ev) ?_
  unfold strA
  simp only
  rw [if_pos (log_small hn)]
  rfl
theorem intSA_ev {n : Nat} (h : f env = some (.str (num n))) (hn : n < 10000) : eCall intSA (aCons f aNil) env = some (.int n) := by
  refine eCall_ev (aCons_ev h aNil_ev) ?_
  unfold intSA
  simp only
  have l := num_len hn
  rw [if_pos (by omega)]
  have e := TL.int_num (n := n) (by rw [← tl_num', ← TL.len_tl]; omega)
  rw [show intText? (num n) = some (n : Int) from e]
  rfl
/-- how a one-sign text ends a text -/
theorem ends1 {x : Str} {l : List Nat} {d c : Nat} (h : TL.tl x = l ++ [d]) : Txt.endswith x ⟨#[c]⟩ = (d == c) := by
  have ly : (⟨#[c]⟩ : Str).length = 1 := rfl
  have ty : TL.tl (⟨#[c]⟩ : Str) = [c] := rfl
  have lx : x.length = l.length + 1 := by rw [TL.len_tl, h]; simp
  have hp : TL.pre (TL.tl (⟨#[c]⟩ : Str)) ((TL.tl x).drop (x.length - 1)) = (d == c) := by
    rw [ty, h, lx]
    simp [TL.pre]
  have iff := TL.at_iff (x := x) (y := ⟨#[c]⟩) (by rw [ty]; simp) (x.length - 1)
  rw [hp] at iff
  unfold Txt.endswith
  rw [ly]
  have e1 : decide (0 + 1 ≤ x.length) = true := decide_eq_true (by omega)
  rw [e1, Bool.true_and]
  rw [Bool.eq_iff_iff, ← iff]
  exact ⟨fun z => ⟨by rw [ly]; omega, z⟩, fun z => z.2⟩
/-- x[:-1] -/
theorem cut_last {x : Str} {l : List Nat} {d : Nat} (h : TL.tl x = l ++ [d]) : TL.tl (cutS x none (some (-1))) = l := by
  have lx : x.length = l.length + 1 := by rw [TL.len_tl, h]; simp
  show ((TL.tl x).drop (HT.sIx x.length 0 none)).take (HT.sIx x.length x.length (some (-1)) - HT.sIx x.length 0 none) = l
  have e : HT.sIx x.length x.length (some (-1)) = l.length := by
    show (if (-1 : Int) < 0 then ((-1 : Int) + (x.length : Int)).toNat else min (-1 : Int).toNat x.length) = _
    rw [if_pos (by decide), lx]
    omega
  rw [e, HT.sIx_none, h]
  simp
theorem sgs_map (x : Str) : sgsD x = (TL.tl x).map sgD := rfl
theorem boolsM {α : Type} (p : α → Bool) : ∀ xs : List α, boolsD (xs.map fun x => PyData.bool (p x)) = some (xs.map p)
  | [] => rfl
  | x :: xs => by
    show (match boolsD (xs.map fun x => PyData.bool (p x)) with | some ns => some (p x :: ns) | none => none) = _
    rw [boolsM p xs]
    rfl
theorem allM {α : Type} {p : α → Bool} {xs : List α} (h : fa env = some [.list (xs.map fun x => .bool (p x))]) : eCall allA fa env = some (.bool (xs.all p)) := by
  refine eCall_ev h ?_
  show (boolsD (xs.map fun x => PyData.bool (p x))).map _ = _
  rw [boolsM]
  simp [List.all_map, Function.comp_def]
theorem anyM {α : Type} {p : α → Bool} {xs : List α} (h : fa env = some [.list (xs.map fun x => .bool (p x))]) : eCall anyA fa env = some (.bool (xs.any p)) := by
  refine eCall_ev h ?_
  show (boolsD (xs.map fun x => PyData.bool (p x))).map _ = _
  rw [boolsM]
  simp [List.any_map, Function.comp_def]
theorem inX_sign (n : Nat) (z : Str) : inX (sgD n) (.str z) = some (.bool (decide (n ∈ TL.tl z))) := rfl
theorem shaped_str {x : Str} (h : PyData.strOk x = true) : SeqAt.shaped (.str x) = true := by
  unfold SeqAt.shaped
  simp [PyData.canLay0, PyData.depth, h]
theorem strOk_of {x : Str} (h : ∀ c ∈ TL.tl x, c < 1000) : PyData.strOk x = true := by
  unfold PyData.strOk
  rw [← Array.all_toList, List.all_eq_true]
  intro c hc
  have := h c hc
  exact decide_eq_true (by omega)
theorem shaped_strL {xs : List Str} (h : ∀ x ∈ xs, PyData.strOk x = true) : SeqAt.shaped (.list (xs.map PyData.str)) = true := by
  unfold SeqAt.shaped
  simp [PyData.canLay0, lay_strs xs h, PyData.depth, depth_strs]
theorem num_ok (n : Nat) : PyData.strOk (num n) = true := strOk_of fun c h => by have := num_dig n c h; omega
/-- the lengths -/
theorem join_len (y : Str) : ∀ xs : List Str, (Txt.join y xs).length ≤ (xs.map (·.length)).sum + xs.length * y.length := by
  intro xs
  rw [TL.len_tl, TL.join_eq, TL.tl_join]
  have key : ∀ (ps : List (List Nat)), (TL.joinL (TL.tl y) ps).length ≤ (ps.map (·.length)).sum + ps.length * y.length := by
    intro ps
    induction ps with
    | nil => simp [TL.joinL]
    | cons p r ih =>
      cases r with
      | nil => simp [TL.joinL]
      | cons q r =>
        have e : TL.joinL (TL.tl y) (p :: q :: r) = p ++ (TL.tl y ++ TL.joinL (TL.tl y) (q :: r)) := rfl
        rw [e, List.length_append, List.length_append, ← TL.len_tl]
        rw [List.map_cons, List.sum_cons, List.length_cons, Nat.add_mul]
        omega
  have := key (xs.map TL.tl)
  rw [List.map_map, List.length_map] at this
  have e : xs.map ((fun x : List Nat => x.length) ∘ TL.tl) = xs.map (fun x : Str => x.length) := List.map_congr_left fun (x : Str) _ => (TL.len_tl x).symm
  rw [e] at this
  exact this
theorem join_mem {y : Str} {xs : List Str} {c : Nat} (h : c ∈ TL.tl (Txt.join y xs)) : c ∈ TL.tl y ∨ ∃ x ∈ xs, c ∈ TL.tl x := by
  rw [TL.join_eq, TL.tl_join] at h
  have key : ∀ (ps : List (List Nat)), c ∈ TL.joinL (TL.tl y) ps → c ∈ TL.tl y ∨ ∃ p ∈ ps, c ∈ p := by
    intro ps
    induction ps with
    | nil => intro h; simp [TL.joinL] at h
    | cons p r ih =>
      cases r with
      | nil => intro h; exact .inr ⟨p, List.mem_cons_self, h⟩
      | cons q r =>
        intro h
        have e : TL.joinL (TL.tl y) (p :: q :: r) = p ++ (TL.tl y ++ TL.joinL (TL.tl y) (q :: r)) := rfl
        rw [e, List.mem_append, List.mem_append] at h
        rcases h with h | h | h
        · exact .inr ⟨p, List.mem_cons_self, h⟩
        · exact .inl h
        · rcases ih h with h | ⟨z, h1, h2⟩
          · exact .inl h
          · exact .inr ⟨z, List.mem_cons_of_mem _ h1, h2⟩
  rcases key _ h with h | ⟨p, h1, h2⟩
  · exact .inl h
  · obtain ⟨x, hx, rfl⟩ := List.mem_map.mp h1
    exact .inr ⟨x, hx, h2⟩
theorem join_head {y x : Str} {xs : List Str} {c : Nat} {l : List Nat} (h : TL.tl x = c :: l) : ∃ l', TL.tl (Txt.join y (x :: xs)) = c :: l' := by
  rw [TL.join_eq, TL.tl_join]
  cases xs with
  | nil => exact ⟨l, h⟩
  | cons z xs =>
    have e : TL.joinL (TL.tl y) ((x :: z :: xs).map TL.tl) = TL.tl x ++ (TL.tl y ++ TL.joinL (TL.tl y) ((z :: xs).map TL.tl)) := rfl
    rw [e, h]
    exact ⟨_, rfl⟩
theorem eJoin_l {y : Str} {xs : List Str} (h1 : f env = some (.str y)) (h2 : g env = some (.list (xs.map .str))) (hl : (xs.map (·.length)).sum + xs.length * y.length ≤ 1000000) : eJoin f g env = some (.str (Txt.join y xs)) := by
  unfold eJoin
  refine e2_ev h1 h2 ?_
  show (match strsD (xs.map PyData.str) with | some (ys : List Str) => if (ys.map fun (z : Str) => z.length).sum + ys.length * y.length ≤ 1000000 then some (PyData.str (Txt.join y ys)) else none | none => none) = _
  rw [strsD_map]
  simp only
  rw [if_pos hl]
theorem fSplit_ev {x y : Str} (h1 : f env = some (.str x)) (h2 : g env = some (.str y)) (hy : (y.length == 0) = false) (hl : x.length ≤ 1000000) : fSplit f g env = some ((Txt.split x y).map .str) := by
  unfold fSplit
  rw [h1]
  simp only
  rw [h2]
  simp only
  rw [if_pos ⟨hy, hl⟩]
theorem eEnds_ev {x y : Str} (h1 : f env = some (.str x)) (h2 : g env = some (.str y)) : eEnds f g env = some (.bool (Txt.endswith x y)) := by
  unfold eEnds
  rw [h1]
  simp only
  rw [h2]
theorem eInG_ev {neg : Bool} {xs : List Str} {y : Str} (h : f env = some (.str y)) : eInG neg xs f env = some (.bool (if neg then !decide (y ∈ xs) else decide (y ∈ xs))) := by
  unfold eInG
  rw [h]
theorem fCat_ev' {a b : List PyData} (h1 : f env = some (.list a)) (h2 : g env = some (.list b)) (h3 : a.length + b.length ≤ 1000000) : fCat f g env = some (a ++ b) := by
  unfold fCat
  rw [h1]
  simp only
  rw [h2]
  simp only
  rw [if_pos h3]
end
end Mir

namespace Mir
open PySem PySem.Spec PyProof.Rows L2
theorem loopX_find {α : Type} {g : PyData → En → Option En} {b : En → OutX} (c : α → PyData) (o : α → Option PyData) (E : En → Prop) : ∀ (xs : List α) (e : En), E e →
    (∀ x ∈ xs, ∀ e, E e → ∃ e1, g (c x) e = some e1 ∧ match o x with | none => ∃ e2, b e1 = .nx e2 ∧ E e2 | some v => ∃ e2, b e1 = .rs e2 v) →
    match xs.findSome? o with | none => ∃ e', loopX g b (xs.map c) e = .nx e' ∧ E e' | some v => ∃ e2, loopX g b (xs.map c) e = .rs e2 v
  | [], e, he, _ => ⟨e, rfl, he⟩
  | x :: xs, e, he, h => by
    obtain ⟨e1, h1, h2⟩ := h x List.mem_cons_self e he
    rw [List.findSome?_cons]
    cases ho : o x with
    | some v =>
      rw [ho] at h2
      obtain ⟨e2, h3⟩ := h2
      exact ⟨e2, by
        show loopX g b (c x :: xs.map c) e = .rs e2 v
        simp only [loopX, h1, h3]⟩
    | none =>
      rw [ho] at h2
      obtain ⟨e2, h3, h4⟩ := h2
      have ih := loopX_find c o E xs e2 h4 fun y hy => h y (List.mem_cons_of_mem _ hy)
      have st : loopX g b ((x :: xs).map c) e = loopX g b (xs.map c) e2 := by
        show loopX g b (c x :: xs.map c) e = _
        simp only [loopX, h1, h3]
      rw [st]
      exact ih
section
variable {ga : En → Option Bool} {s t : En → OutX} {env e : En} {d : PyData}
theorem xSeq_nx' (h : s env = .nx e) : xSeq s t env = t e := by unfold xSeq; rw [h]
theorem xSeq_rs (h : s env = .rs e d) : xSeq s t env = .rs e d := by unfold xSeq; rw [h]
theorem xIf_t (h : ga env = some true) : xIf ga s t env = s env := by unfold xIf; rw [h]
theorem xIf_f (h : ga env = some false) : xIf ga s t env = t env := by unfold xIf; rw [h]
theorem up_nx {s : En → Out} (h : s env = .nx e) : up s env = .nx e := by unfold up; rw [h]; rfl
theorem xRaise_ev {f : En → Option PyData} (h : f env = some d) : xRaise f env = .rs env d := by unfold xRaise; rw [h]
theorem xFor_ev {f : En → Option (List PyData)} {g : PyData → En → Option En} {b : En → OutX} {ds : List PyData} {o : OutX} (h1 : f env = some ds) (h2 : loopX g b ds env = o) : xFor f g b env = o := by unfold xFor; rw [h1]; exact h2
end
end Mir

namespace K05
open PySem PySem.Spec PyProof.Rows L2 Mir
def topS (i : Nat) : Stmt := PySem.Challenge.pw_boundbook_k05_tables.main.body.getD i (.Pass ⟨0, 0, 0, 0⟩)
abbrev s_is_word : Stmt := topS 7
abbrev N_is_word : List Str := ["text", "character"]
theorem sc_is_word : FnScope N_is_word ["text"] (defScope s_is_word) := ⟨rfl, rfl, rfl, by decide +kernel, rfl, by decide +kernel, by decide +kernel⟩
abbrev s_are_words : Stmt := topS 8
abbrev N_are_words : List Str := ["words", "word"]
theorem sc_are_words : FnScope N_are_words ["words"] (defScope s_are_words) := ⟨rfl, rfl, rfl, by decide +kernel, rfl, by decide +kernel, by decide +kernel⟩
abbrev s_is_column : Stmt := topS 13
abbrev N_is_column : List Str := ["column", "least", "most", "percent", "align"]
theorem sc_is_column : FnScope N_is_column ["column"] (defScope s_is_column) := ⟨rfl, rfl, rfl, by decide +kernel, rfl, by decide +kernel, by decide +kernel⟩
abbrev s_are_columns : Stmt := topS 14
abbrev N_are_columns : List Str := ["columns", "column"]
theorem sc_are_columns : FnScope N_are_columns ["columns"] (defScope s_are_columns) := ⟨rfl, rfl, rfl, by decide +kernel, rfl, by decide +kernel, by decide +kernel⟩
abbrev s_is_row : Stmt := topS 15
abbrev N_is_row : List Str := ["row"]
theorem sc_is_row : FnScope N_is_row ["row"] (defScope s_is_row) := ⟨rfl, rfl, rfl, by decide +kernel, rfl, by decide +kernel, by decide +kernel⟩
abbrev s_are_rows : Stmt := topS 16
abbrev N_are_rows : List Str := ["rows", "row"]
theorem sc_are_rows : FnScope N_are_rows ["rows"] (defScope s_are_rows) := ⟨rfl, rfl, rfl, by decide +kernel, rfl, by decide +kernel, by decide +kernel⟩
abbrev s_are_heads_first : Stmt := topS 17
abbrev N_are_heads_first : List Str := ["rows", "number"]
theorem sc_are_heads_first : FnScope N_are_heads_first ["rows"] (defScope s_are_heads_first) := ⟨rfl, rfl, rfl, by decide +kernel, rfl, by decide +kernel, by decide +kernel⟩
abbrev s_are_in_order : Stmt := topS 18
abbrev N_are_in_order : List Str := ["cells", "number"]
theorem sc_are_in_order : FnScope N_are_in_order ["cells"] (defScope s_are_in_order) := ⟨rfl, rfl, rfl, by decide +kernel, rfl, by decide +kernel, by decide +kernel⟩
abbrev s_is_inside : Stmt := topS 19
abbrev N_is_inside : List Str := ["cell", "row_count", "column_count", "row", "column", "row_span", "column_span"]
theorem sc_is_inside : FnScope N_is_inside ["cell", "row_count", "column_count"] (defScope s_is_inside) := ⟨rfl, rfl, rfl, by decide +kernel, rfl, by decide +kernel, by decide +kernel⟩
abbrev s_covers : Stmt := topS 20
abbrev N_covers : List Str := ["cell", "row", "column", "first_row", "first_column", "row_span", "column_span"]
theorem sc_covers : FnScope N_covers ["cell", "row", "column"] (defScope s_covers) := ⟨rfl, rfl, rfl, by decide +kernel, rfl, by decide +kernel, by decide +kernel⟩
abbrev s_covers_both : Stmt := topS 21
abbrev N_covers_both : List Str := ["cell", "row"]
theorem sc_covers_both : FnScope N_covers_both ["cell", "row"] (defScope s_covers_both) := ⟨rfl, rfl, rfl, by decide +kernel, rfl, by decide +kernel, by decide +kernel⟩
abbrev s_is_covered_once : Stmt := topS 22
abbrev N_is_covered_once : List Str := ["table", "columns", "rows", "cells", "row", "column", "cell"]
theorem sc_is_covered_once : FnScope N_is_covered_once ["table"] (defScope s_is_covered_once) := ⟨rfl, rfl, rfl, by decide +kernel, rfl, by decide +kernel, by decide +kernel⟩
abbrev s_head_count : Stmt := topS 24
abbrev N_head_count : List Str := ["table", "row"]
theorem sc_head_count : FnScope N_head_count ["table"] (defScope s_head_count) := ⟨rfl, rfl, rfl, by decide +kernel, rfl, by decide +kernel, by decide +kernel⟩
abbrev s_check_table : Stmt := topS 23
abbrev N_check_table : List Str := ["table", "columns", "rows", "cells", "first_body_row", "cell"]
theorem sc_check_table : FnScope N_check_table ["table"] (defScope s_check_table) := ⟨rfl, rfl, rfl, by decide +kernel, rfl, by decide +kernel, by decide +kernel⟩
abbrev s_cell_at : Stmt := topS 25
abbrev N_cell_at : List Str := ["table", "row", "column", "number", "cell"]
theorem sc_cell_at : FnScope N_cell_at ["table", "row", "column"] (defScope s_cell_at) := ⟨rfl, rfl, rfl, by decide +kernel, rfl, by decide +kernel, by decide +kernel⟩
abbrev s_breakable_rows : Stmt := topS 26
abbrev N_breakable_rows : List Str := ["table", "rows", "cells", "found", "row", "keeps", "cell"]
theorem sc_breakable_rows : FnScope N_breakable_rows ["table"] (defScope s_breakable_rows) := ⟨rfl, rfl, rfl, by decide +kernel, rfl, by decide +kernel, by decide +kernel⟩
abbrev s_Lcell : Stmt := topS 28
abbrev N_Lcell : List Str := ["script", "k"]
theorem sc_Lcell : FnScope N_Lcell ["script", "k"] (defScope s_Lcell) := ⟨rfl, rfl, rfl, by decide +kernel, rfl, by decide +kernel, by decide +kernel⟩
abbrev s_Ldraws : Stmt := topS 29
abbrev N_Ldraws : List Str := ["cell", "count", "found", "is_wide", "k", "mixed"]
theorem sc_Ldraws : FnScope N_Ldraws ["cell", "count"] (defScope s_Ldraws) := ⟨rfl, rfl, rfl, by decide +kernel, rfl, by decide +kernel, by decide +kernel⟩
abbrev s_Lwords : Stmt := topS 30
abbrev N_Lwords : List Str := ["number", "k"]
theorem sc_Lwords : FnScope N_Lwords ["number"] (defScope s_Lwords) := ⟨rfl, rfl, rfl, by decide +kernel, rfl, by decide +kernel, by decide +kernel⟩
abbrev s_Lspan : Stmt := topS 31
abbrev N_Lspan : List Str := ["covered", "row", "column", "extent", "number", "rows", "columns", "heads", "down", "across"]
theorem sc_Lspan : FnScope N_Lspan ["covered", "row", "column", "extent", "number"] (defScope s_Lspan) := ⟨rfl, rfl, rfl, by decide +kernel, rfl, by decide +kernel, by decide +kernel⟩
abbrev s_Lcells : Stmt := topS 32
abbrev N_Lcells : List Str := ["extent", "draws", "covered", "cells", "row", "column", "at", "down", "across", "k"]
theorem sc_Lcells : FnScope N_Lcells ["extent", "draws"] (defScope s_Lcells) := ⟨rfl, rfl, rfl, by decide +kernel, rfl, by decide +kernel, by decide +kernel⟩
abbrev s_Ltable : Stmt := topS 33
abbrev N_Ltable : List Str := ["script", "at", "most_columns", "most_rows", "draws", "extent", "columns", "k", "least", "most", "percent", "rows"]
theorem sc_Ltable : FnScope N_Ltable ["script", "at", "most_columns", "most_rows"] (defScope s_Ltable) := ⟨rfl, rfl, rfl, by decide +kernel, rfl, by decide +kernel, by decide +kernel⟩
abbrev s_Lchanged : Stmt := topS 34
abbrev N_Lchanged : List Str := ["things", "at", "thing", "k"]
theorem sc_Lchanged : FnScope N_Lchanged ["things", "at", "thing"] (defScope s_Lchanged) := ⟨rfl, rfl, rfl, by decide +kernel, rfl, by decide +kernel, by decide +kernel⟩
abbrev s_Lspoilt : Stmt := topS 35
abbrev N_Lspoilt : List Str := ["table", "draws", "columns", "rows", "cells", "kind", "at", "cell", "column", "spans", "words"]
theorem sc_Lspoilt : FnScope N_Lspoilt ["table", "draws"] (defScope s_Lspoilt) := ⟨rfl, rfl, rfl, by decide +kernel, rfl, by decide +kernel, by decide +kernel⟩
abbrev s_Lis_word : Stmt := topS 36
abbrev N_Lis_word : List Str := ["word", "signs", "sign"]
theorem sc_Lis_word : FnScope N_Lis_word ["word"] (defScope s_Lis_word) := ⟨rfl, rfl, rfl, by decide +kernel, rfl, by decide +kernel, by decide +kernel⟩
abbrev s_Lcolumn_right : Stmt := topS 37
abbrev N_Lcolumn_right : List Str := ["column", "least", "most", "percent", "align"]
theorem sc_Lcolumn_right : FnScope N_Lcolumn_right ["column"] (defScope s_Lcolumn_right) := ⟨rfl, rfl, rfl, by decide +kernel, rfl, by decide +kernel, by decide +kernel⟩
abbrev s_Lcells_fault : Stmt := topS 38
abbrev N_Lcells_fault : List Str := ["table", "columns", "rows", "cells", "places", "k", "row", "column", "down", "across", "words", "counts", "at", "cell", "place"]
theorem sc_Lcells_fault : FnScope N_Lcells_fault ["table"] (defScope s_Lcells_fault) := ⟨rfl, rfl, rfl, by decide +kernel, rfl, by decide +kernel, by decide +kernel⟩
abbrev s_Lfault : Stmt := topS 39
abbrev N_Lfault : List Str := ["table", "columns", "rows", "cells", "column", "row", "k", "fault", "heads", "down", "across", "words", "word"]
theorem sc_Lfault : FnScope N_Lfault ["table"] (defScope s_Lfault) := ⟨rfl, rfl, rfl, by decide +kernel, rfl, by decide +kernel, by decide +kernel⟩
abbrev s_Ltold : Stmt := topS 40
abbrev N_Ltold : List Str := ["table", "e"]
theorem sc_Ltold : FnScope N_Ltold ["table"] (defScope s_Ltold) := ⟨rfl, rfl, rfl, by decide +kernel, rfl, by decide +kernel, by decide +kernel⟩
abbrev s_law : Stmt := topS 41
abbrev N_law : List Str := ["script", "table", "due", "columns", "rows", "cells", "heads", "breaks", "row", "spanned", "number", "column", "down", "across", "words", "k", "cell"]
theorem sc_law : FnScope N_law ["script"] (defScope s_law) := ⟨rfl, rfl, rfl, by decide +kernel, rfl, by decide +kernel, by decide +kernel⟩
def TUP_ALIGNS : List Str := ["left", "right", "center"]
/-! ### what each def does to data -/
def c_is_word_1 : En → Option PyData := (e2 inX (eVar 1) (eC (.str "ABCDEFGHIJKLMNOPQRSTUVWXYZabcdefghijklmnopqrstuvwxyz0123456789.,:;!?'()/")))
def f_is_word : En → Out := (sSeq (sIf (tNot' (t1 (chI (fun i j => decide (i ≤ j)) (fun i j => decide (i ≤ j)) (eC (.int 1)) (eCall lenA (aCons (eVar 0) aNil)) (eC (.int 8))))) (sRet (eC (.bool false))) sNil) (sRet (eCall allA (aCons (eL (fCmp [1] (iStrD (eVar 0)) (gVal 1) tYes' c_is_word_1)) aNil))))
def g_is_word : List PyData → Option PyData := gDef 1 2 f_is_word
def c_are_words_1 : En → Option PyData := (eCall g_is_word (aCons (eVar 1) aNil))
def f_are_words : En → Out := (sRet (eAnd (e2 leD (eCall lenA (aCons (eVar 0) aNil)) (eC (.int 4))) (eCall allA (aCons (eL (fCmp [1] (iSeq (eVar 0)) (gVal 1) tYes' c_are_words_1)) aNil))))
def g_are_words : List PyData → Option PyData := gDef 1 2 f_are_words
def f_is_column : En → Out := (sSeq (sUnp (eVar 0) (gT [1, 2, 3, 4])) (sSeq (sIf (tNot' (t1 (chI (fun i j => decide (i ≤ j)) (fun i j => decide (i ≤ j)) (eC (.int 1)) (eVar 1) (eC (.int 20))))) (sRet (eC (.bool false))) sNil) (sSeq (sIf (tAnd' (t1 (e2 isntD (eVar 2) (eC .none))) (tNot' (t1 (chI (fun i j => decide (i ≤ j)) (fun i j => decide (i ≤ j)) (eVar 1) (eVar 2) (eC (.int 40)))))) (sRet (eC (.bool false))) sNil) (sSeq (sIf (tAnd' (t1 (e2 isntD (eVar 3) (eC .none))) (tNot' (t1 (chI (fun i j => decide (i ≤ j)) (fun i j => decide (i ≤ j)) (eC (.int 1)) (eVar 3) (eC (.int 100)))))) (sRet (eC (.bool false))) sNil) (sRet (eInG false TUP_ALIGNS (eVar 4)))))))
def g_is_column : List PyData → Option PyData := gDef 1 5 f_is_column
def c_are_columns_1 : En → Option PyData := (eCall g_is_column (aCons (eVar 1) aNil))
def f_are_columns : En → Out := (sRet (eAnd (chI (fun i j => decide (i ≤ j)) (fun i j => decide (i ≤ j)) (eC (.int 1)) (eCall lenA (aCons (eVar 0) aNil)) (eC (.int 4))) (eCall allA (aCons (eL (fCmp [1] (iSeq (eVar 0)) (gVal 1) tYes' c_are_columns_1)) aNil))))
def g_are_columns : List PyData → Option PyData := gDef 1 2 f_are_columns
def f_is_row : En → Out := (sRet (chI (fun i j => decide (i ≤ j)) (fun i j => decide (i ≤ j)) (eC (.int 1)) (e2 ixG (eVar 0) (eC (.int 0))) (eC (.int 6))))
def g_is_row : List PyData → Option PyData := gDef 1 1 f_is_row
def c_are_rows_1 : En → Option PyData := (eCall g_is_row (aCons (eVar 1) aNil))
def f_are_rows : En → Out := (sRet (eAnd (chI (fun i j => decide (i ≤ j)) (fun i j => decide (i ≤ j)) (eC (.int 1)) (eCall lenA (aCons (eVar 0) aNil)) (eC (.int 4))) (eCall allA (aCons (eL (fCmp [1] (iSeq (eVar 0)) (gVal 1) tYes' c_are_rows_1)) aNil))))
def g_are_rows : List PyData → Option PyData := gDef 1 2 f_are_rows
def b_are_heads_first_1 : En → Out := (sIf (tAnd' (tTr (e2 ixG (e2 ixG (eVar 0) (eVar 1)) (eC (.int 1)))) (tNot' (tTr (e2 ixG (e2 ixG (eVar 0) (e2 subD (eVar 1) (eC (.int 1)))) (eC (.int 1)))))) (sRet (eC (.bool false))) sNil)
def f_are_heads_first : En → Out := (sSeq (sFor (iR2 (aCons (eC (.int 1)) (aCons (eCall lenA (aCons (eVar 0) aNil)) aNil))) (gVal 1) b_are_heads_first_1) (sRet (eC (.bool true))))
def g_are_heads_first : List PyData → Option PyData := gDef 1 2 f_are_heads_first
def b_are_in_order_1 : En → Out := (sIf (t1 (e2 ltU (eSl (e2 ixG (eVar 0) (eVar 1)) oNone (oSome (eC (.int 2)))) (eSl (e2 ixG (eVar 0) (e2 subD (eVar 1) (eC (.int 1)))) oNone (oSome (eC (.int 2)))))) (sRet (eC (.bool false))) sNil)
def f_are_in_order : En → Out := (sSeq (sFor (iR2 (aCons (eC (.int 1)) (aCons (eCall lenA (aCons (eVar 0) aNil)) aNil))) (gVal 1) b_are_in_order_1) (sRet (eC (.bool true))))
def g_are_in_order : List PyData → Option PyData := gDef 1 2 f_are_in_order
def f_is_inside : En → Out := (sSeq (sUnp (eSl (eVar 0) oNone (oSome (eC (.int 4)))) (gT [3, 4, 5, 6])) (sSeq (sIf (tOr' (t1 (e2 ltD (eVar 3) (eC (.int 0)))) (tOr' (t1 (e2 ltD (eVar 4) (eC (.int 0)))) (tOr' (t1 (e2 ltD (eVar 5) (eC (.int 1)))) (t1 (e2 ltD (eVar 6) (eC (.int 1))))))) (sRet (eC (.bool false))) sNil) (sRet (eAnd (e2 leD (e2 addD (eVar 3) (eVar 5)) (eVar 1)) (e2 leD (e2 addD (eVar 4) (eVar 6)) (eVar 2))))))
def g_is_inside : List PyData → Option PyData := gDef 3 7 f_is_inside
def f_covers : En → Out := (sSeq (sUnp (eSl (eVar 0) oNone (oSome (eC (.int 4)))) (gT [3, 4, 5, 6])) (sRet (eAnd (chI (fun i j => decide (i ≤ j)) (fun i j => decide (i < j)) (eC (.int 0)) (e2 subD (eVar 1) (eVar 3)) (eVar 5)) (chI (fun i j => decide (i ≤ j)) (fun i j => decide (i < j)) (eC (.int 0)) (e2 subD (eVar 2) (eVar 4)) (eVar 6)))))
def g_covers : List PyData → Option PyData := gDef 3 7 f_covers
def f_covers_both : En → Out := (sRet (chI (fun i j => decide (i < j)) (fun i j => decide (i < j)) (e2 ixG (eVar 0) (eC (.int 0))) (eVar 1) (e2 addD (e2 ixG (eVar 0) (eC (.int 0))) (e2 ixG (eVar 0) (eC (.int 2))))))
def g_covers_both : List PyData → Option PyData := gDef 2 2 f_covers_both
def c_is_covered_once_1 : En → Option PyData := (eVar 6)
def t_is_covered_once_1 : En → Option Bool := (tTr (eCall g_covers (aCons (eVar 6) (aCons (eVar 4) (aCons (eVar 5) aNil)))))
def b_is_covered_once_1 : En → Out := (sIf (t1 (e2 neD (eCall lenA (aCons (eL (fCmp [6] (iSeq (eVar 3)) (gVal 6) t_is_covered_once_1 c_is_covered_once_1)) aNil)) (eC (.int 1)))) (sRet (eC (.bool false))) sNil)
def b_is_covered_once_2 : En → Out := (sFor (iR1 (aCons (eCall lenA (aCons (eVar 1) aNil)) aNil)) (gVal 5) b_is_covered_once_1)
def f_is_covered_once : En → Out := (sSeq (sUnp (eVar 0) (gT [1, 2, 3])) (sSeq (sFor (iR1 (aCons (eCall lenA (aCons (eVar 2) aNil)) aNil)) (gVal 4) b_is_covered_once_2) (sRet (eC (.bool true)))))
def g_is_covered_once : List PyData → Option PyData := gDef 1 7 f_is_covered_once
def c_head_count_1 : En → Option PyData := (eVar 1)
def t_head_count_1 : En → Option Bool := (tTr (e2 ixG (eVar 1) (eC (.int 1))))
def f_head_count : En → Out := (sRet (eCall lenA (aCons (eL (fCmp [1] (iSeq (e2 ixG (eVar 0) (eC (.int 1)))) (gVal 1) t_head_count_1 c_head_count_1)) aNil)))
def g_head_count : List PyData → Option PyData := gDef 1 2 f_head_count
def c_check_table_1 : En → Option PyData := (eCall g_is_inside (aCons (eVar 5) (aCons (eCall lenA (aCons (eVar 2) aNil)) (aCons (eCall lenA (aCons (eVar 1) aNil)) aNil))))
def b_check_table_1 : En → OutX := (xSeq (xIf (tNot' (tTr (eCall g_are_words (aCons (e2 ixG (eVar 5) (eC (.int 4))) aNil)))) (xRaise (eC (.str "words are wrong"))) xNil) (xIf (tTr (eCall g_covers_both (aCons (eVar 5) (aCons (eVar 4) aNil)))) (xRaise (eC (.str "cell crosses the head"))) xNil))
def f_check_table : En → OutX := (xSeq (up (sUnp (eVar 0) (gT [1, 2, 3]))) (xSeq (xIf (tNot' (tTr (eCall g_are_columns (aCons (eVar 1) aNil)))) (xRaise (eC (.str "columns are wrong"))) xNil) (xSeq (xIf (tNot' (tTr (eCall g_are_rows (aCons (eVar 2) aNil)))) (xRaise (eC (.str "rows are wrong"))) xNil) (xSeq (xIf (tNot' (tTr (eCall g_are_heads_first (aCons (eVar 2) aNil)))) (xRaise (eC (.str "head rows come first"))) xNil) (xSeq (xIf (tNot' (tTr (eCall g_are_in_order (aCons (eVar 3) aNil)))) (xRaise (eC (.str "cells are not in order"))) xNil) (xSeq (xIf (tNot' (t1 (eCall allA (aCons (eL (fCmp [5] (iSeq (eVar 3)) (gVal 5) tYes' c_check_table_1)) aNil)))) (xRaise (eC (.str "cell lies outside"))) xNil) (xSeq (xIf (tNot' (tTr (eCall g_is_covered_once (aCons (eVar 0) aNil)))) (xRaise (eC (.str "place is not covered once"))) xNil) (xSeq (up (sSet 4 (eCall g_head_count (aCons (eVar 0) aNil)))) (xFor (iSeq (eVar 3)) (gVal 5) b_check_table_1)))))))))
def g_check_table : List PyData → Option Rz := gDefX 1 6 f_check_table
def b_cell_at_1 : En → Out := (sIf (tTr (eCall g_covers (aCons (eVar 4) (aCons (eVar 1) (aCons (eVar 2) aNil))))) (sRet (eVar 3)) sNil)
def f_cell_at : En → Out := (sSeq (sFor (iEnm (aCons (e2 ixG (eVar 0) (eC (.int 2))) aNil)) (gT [3, 4]) b_cell_at_1) (sRet (eC .none)))
def g_cell_at : List PyData → Option PyData := gDef 3 5 f_cell_at
def c_breakable_rows_1 : En → Option PyData := (eCall g_covers_both (aCons (eVar 6) (aCons (eVar 4) aNil)))
def b_breakable_rows_1 : En → Out := (sSeq (sSet 5 (e2 ixG (e2 ixG (eVar 1) (e2 subD (eVar 4) (eC (.int 1)))) (eC (.int 2)))) (sIf (tAnd' (tNot' (tTr (eVar 5))) (tNot' (t1 (eCall anyA (aCons (eL (fCmp [6] (iSeq (eVar 2)) (gVal 6) tYes' c_breakable_rows_1)) aNil))))) (sApp 3 (eVar 4)) sNil))
def f_breakable_rows : En → Out := (sSeq (sUnp (eSl (eVar 0) (oSome (eC (.int 1))) oNone) (gT [1, 2])) (sSeq (sOwn 3 (fLst aNil)) (sSeq (sFor (iR2 (aCons (e2 addD (eCall g_head_count (aCons (eVar 0) aNil)) (eC (.int 1))) (aCons (eCall lenA (aCons (eVar 1) aNil)) aNil))) (gVal 4) b_breakable_rows_1) (fun env => (sRet (eVar 3)) (frz 3 env)))))
def g_breakable_rows : List PyData → Option PyData := gDef 1 7 f_breakable_rows
def f_Lcell : En → Out := (sSeq (sIf (t1 (e2 ltD (eVar 1) (eCall lenA (aCons (eVar 0) aNil)))) (sRet (e2 ixG (eVar 0) (eVar 1))) sNil) (sRet (eC (.int 0))))
def g_Lcell : List PyData → Option PyData := gDef 2 2 f_Lcell
def b_Ldraws_1 : En → Out := (sIf (tTr (eVar 3)) (sSeq (sApp 2 (e2 modD (eVar 0) (eC (.int 1009)))) (sSet 0 (e2 divD (eVar 0) (eC (.int 1009))))) (sSeq (sSet 5 (e2 modD (e2 addD (e2 mulD (eVar 0) (eC (.int 48271))) (e2 mulD (eVar 4) (eC (.int 69621)))) (eC (.int 2147483647)))) (sApp 2 (e2 modD (e2 addD (e2 addD (e2 mulD (eVar 5) (eVar 5)) (e2 mulD (eVar 0) (eC (.int 31)))) (eVar 4)) (eC (.int 1000003))))))
def f_Ldraws : En → Out := (sSeq (sOwn 2 (fLst aNil)) (sSeq (sSet 3 (e2 geD (eVar 0) (e2 powD (eC (.int 10)) (eC (.int 18))))) (sSeq (sFor (iR1 (aCons (eVar 1) aNil)) (gVal 4) b_Ldraws_1) (fun env => (sRet (eVar 2)) (frz 2 env)))))
def g_Ldraws : List PyData → Option PyData := gDef 2 6 f_Ldraws
def c_Lwords_1 : En → Option PyData := (e2 ixG (eL (fLst (aCons (eC (.str "a")) (aCons (eC (.str "bb")) (aCons (eC (.str "c")) (aCons (eC (.str "dd")) aNil)))))) (e2 modD (e2 divD (eVar 0) (e2 mulD (eC (.int 7)) (e2 addD (eVar 1) (eC (.int 1))))) (eC (.int 4))))
def f_Lwords : En → Out := (sRet (eCall tupA (aCons (eL (fCmp [1] (iR1 (aCons (e2 modD (eVar 0) (eC (.int 3))) aNil)) (gVal 1) tYes' c_Lwords_1)) aNil)))
def g_Lwords : List PyData → Option PyData := gDef 1 2 f_Lwords
def f_Lspan : En → Out := (sSeq (sUnp (eVar 3) (gT [5, 6, 7])) (sSeq (sSet 8 (e2 addD (eC (.int 1)) (e2 modD (eVar 4) (eC (.int 2))))) (sSeq (sSet 9 (e2 addD (eC (.int 1)) (e2 modD (e2 divD (eVar 4) (eC (.int 2))) (eC (.int 2))))) (sSeq (sIf (t1 (e2 gtD (e2 addD (eVar 1) (eVar 8)) (eIf (t1 (e2 ltD (eVar 1) (eVar 7))) (eVar 7) (eVar 5)))) (sSet 8 (eC (.int 1))) sNil) (sSeq (sIf (tOr' (t1 (e2 gtD (e2 addD (eVar 2) (eVar 9)) (eVar 6))) (t1 (e2 inT (eTup (aCons (eVar 1) (aCons (e2 subD (e2 addD (eVar 2) (eVar 9)) (eC (.int 1))) aNil))) (eVar 0)))) (sSet 9 (eC (.int 1))) sNil) (sRet (eTup (aCons (eVar 8) (aCons (eVar 9) aNil)))))))))
def g_Lspan : List PyData → Option PyData := gDef 5 10 f_Lspan
def b_Lcells_1 : En → Out := (sApp 2 (eTup (aCons (e2 addD (eVar 4) (e2 divD (eVar 9) (eVar 8))) (aCons (e2 addD (eVar 5) (e2 modD (eVar 9) (eVar 8))) aNil))))
def b_Lcells_2 : En → Out := (sIf (t1 (e2 notInT (eTup (aCons (eVar 4) (aCons (eVar 5) aNil))) (eBor 2))) (sSeq (sSet 6 (e2 addD (e2 mulD (eC (.int 3)) (eVar 4)) (eVar 5))) (sSeq (sUnp (eN (eCall g_Lspan (aCons (eBor 2) (aCons (eVar 4) (aCons (eVar 5) (aCons (eVar 0) (aCons (e2 divD (e2 ixG (eVar 1) (e2 modD (e2 addD (e2 mulD (eVar 6) (eC (.int 5))) (eC (.int 1))) (eC (.int 40)))) (eC (.int 3))) aNil))))))) (gT [7, 8])) (sSeq (sFor (iR1 (aCons (e2 mulD (eVar 7) (eVar 8)) aNil)) (gVal 9) b_Lcells_1) (sApp 3 (eTup (aCons (eVar 4) (aCons (eVar 5) (aCons (eVar 7) (aCons (eVar 8) (aCons (eCall g_Lwords (aCons (e2 ixG (eVar 1) (e2 modD (e2 addD (e2 mulD (eVar 6) (eC (.int 7))) (eC (.int 3))) (eC (.int 40)))) aNil)) aNil)))))))))) sNil)
def b_Lcells_3 : En → Out := (sFor (iR1 (aCons (e2 ixG (eVar 0) (eC (.int 1))) aNil)) (gVal 5) b_Lcells_2)
def f_Lcells : En → Out := (sSeq (sOwn 2 (fLst aNil)) (sSeq (sOwn 3 (fLst aNil)) (sSeq (sFor (iR1 (aCons (e2 ixG (eVar 0) (eC (.int 0))) aNil)) (gVal 4) b_Lcells_3) (sRet (eTupO 3)))))
def g_Lcells : List PyData → Option PyData := gDef 2 10 f_Lcells
def b_Ltable_1 : En → Out := (sSeq (sSet 8 (e2 addD (eC (.int 1)) (e2 modD (e2 ixG (eVar 4) (e2 addD (eC (.int 4)) (eVar 7))) (eC (.int 3))))) (sSeq (sSet 9 (e2 ixG (eL (fLst (aCons (eC .none) (aCons (eC .none) (aCons (e2 addD (eVar 8) (e2 modD (e2 ixG (eVar 4) (e2 addD (eC (.int 7)) (eVar 7))) (eC (.int 4)))) aNil))))) (e2 modD (e2 ixG (eVar 4) (e2 addD (eC (.int 10)) (eVar 7))) (eC (.int 3))))) (sSeq (sSet 10 (e2 ixG (eL (fLst (aCons (eC .none) (aCons (eC .none) (aCons (eC .none) (aCons (eC (.int 20)) (aCons (eC (.int 35)) (aCons (eC (.int 50)) aNil)))))))) (e2 modD (e2 ixG (eVar 4) (e2 addD (eC (.int 13)) (eVar 7))) (eC (.int 6))))) (sApp 6 (eTup (aCons (eVar 8) (aCons (eVar 9) (aCons (eVar 10) (aCons (e2 ixG (eL (fLst (aCons (eC (.str "left")) (aCons (eC (.str "right")) (aCons (eC (.str "center")) aNil))))) (e2 modD (e2 ixG (eVar 4) (e2 addD (eC (.int 16)) (eVar 7))) (eC (.int 3)))) aNil)))))))))
def c_Ltable_1 : En → Option PyData := (eTup (aCons (e2 addD (eC (.int 1)) (e2 modD (e2 ixG (eVar 4) (e2 addD (eC (.int 19)) (eVar 7))) (eC (.int 2)))) (aCons (e2 ltD (eVar 7) (e2 ixG (eVar 5) (eC (.int 2)))) (aCons (e2 eqD (e2 modD (e2 ixG (eVar 4) (e2 addD (eC (.int 22)) (eVar 7))) (eC (.int 4))) (eC (.int 1))) aNil))))
def f_Ltable : En → Out := (sSeq (sSet 4 (eCall g_Ldraws (aCons (eCall g_Lcell (aCons (eVar 0) (aCons (eVar 1) aNil))) (aCons (eC (.int 40)) aNil)))) (sSeq (sSet 5 (eTup (aCons (e2 addD (eC (.int 1)) (e2 modD (e2 ixG (eVar 4) (eC (.int 1))) (eVar 3))) (aCons (e2 addD (eC (.int 1)) (e2 modD (e2 ixG (eVar 4) (eC (.int 0))) (eVar 2))) (aCons (eIf (t1 (e2 eqD (e2 modD (e2 ixG (eVar 4) (eC (.int 3))) (eC (.int 3))) (eC (.int 0)))) (e2 modD (e2 ixG (eVar 4) (eC (.int 2))) (eC (.int 2))) (eC (.int 0))) aNil))))) (sSeq (sOwn 6 (fLst aNil)) (sSeq (sFor (iR1 (aCons (e2 ixG (eVar 5) (eC (.int 1))) aNil)) (gVal 7) b_Ltable_1) (sSeq (sSet 11 (eL (fCmp [7] (iR1 (aCons (e2 ixG (eVar 5) (eC (.int 0))) aNil)) (gVal 7) tYes' c_Ltable_1))) (sRet (eTup (aCons (eTupO 6) (aCons (eCall tupA (aCons (eVar 11) aNil)) (aCons (eCall g_Lcells (aCons (eVar 5) (aCons (eVar 4) aNil))) aNil))))))))))
def g_Ltable : List PyData → Option PyData := gDef 4 12 f_Ltable
def c_Lchanged_1 : En → Option PyData := (eIf (t1 (e2 eqD (eVar 3) (eVar 1))) (eVar 2) (e2 ixG (eVar 0) (eVar 3)))
def f_Lchanged : En → Out := (sRet (eCall tupA (aCons (eL (fCmp [3] (iR1 (aCons (eCall lenA (aCons (eVar 0) aNil)) aNil)) (gVal 3) tYes' c_Lchanged_1)) aNil)))
def g_Lchanged : List PyData → Option PyData := gDef 3 4 f_Lchanged
def f_Lspoilt : En → Out := (sSeq (sUnp (eVar 0) (gT [2, 3, 4])) (sSeq (sSet 5 (e2 modD (e2 ixG (eVar 1) (eC (.int 0))) (eC (.int 9)))) (sSeq (sSet 6 (e2 modD (e2 ixG (eVar 1) (eC (.int 1))) (eCall lenA (aCons (eVar 4) aNil)))) (sSeq (sSet 7 (e2 ixG (eVar 4) (eVar 6))) (sSeq (sIf (t1 (e2 eqD (eVar 5) (eC (.int 1)))) (sSeq (sSet 8 (eL (fLst (aCons (eTup (aCons (eC (.int 0)) (aCons (eC .none) (aCons (eC .none) (aCons (eC (.str "left")) aNil))))) (aCons (eTup (aCons (eC (.int 3)) (aCons (eC (.int 2)) (aCons (eC .none) (aCons (eC (.str "left")) aNil))))) (aCons (eTup (aCons (eC (.int 1)) (aCons (eC .none) (aCons (eC (.int 101)) (aCons (eC (.str "left")) aNil))))) (aCons (eTup (aCons (eC (.int 1)) (aCons (eC .none) (aCons (eC .none) (aCons (eC (.str "top")) aNil))))) (aCons (eTup (aCons (eC (.int 21)) (aCons (eC .none) (aCons (eC .none) (aCons (eC (.str "left")) aNil))))) aNil)))))))) (sRet (eTup (aCons (eCall g_Lchanged (aCons (eVar 2) (aCons (e2 modD (e2 ixG (eVar 1) (eC (.int 2))) (eCall lenA (aCons (eVar 2) aNil))) (aCons (e2 ixG (eVar 8) (e2 modD (e2 ixG (eVar 1) (eC (.int 3))) (eC (.int 5)))) aNil)))) (aCons (eVar 3) (aCons (eVar 4) aNil)))))) sNil) (sSeq (sIf (t1 (e2 eqD (eVar 5) (eC (.int 2)))) (sRet (eTup (aCons (eVar 2) (aCons (eCall g_Lchanged (aCons (eVar 3) (aCons (e2 modD (e2 ixG (eVar 1) (eC (.int 2))) (eCall lenA (aCons (eVar 3) aNil))) (aCons (eTup (aCons (e2 ixG (eL (fLst (aCons (eC (.int 0)) (aCons (eC (.int 7)) aNil)))) (e2 modD (e2 ixG (eVar 1) (eC (.int 3))) (eC (.int 2)))) (aCons (eC (.bool false)) (aCons (eC (.bool false)) aNil)))) aNil)))) (aCons (eVar 4) aNil))))) sNil) (sSeq (sIf (t1 (e2 eqD (eVar 5) (eC (.int 3)))) (sRet (eTup (aCons (eVar 2) (aCons (e2 addD (eVar 3) (eTup (aCons (eTup (aCons (eC (.int 1)) (aCons (eC (.bool true)) (aCons (eC (.bool false)) aNil)))) aNil))) (aCons (eVar 4) aNil))))) sNil) (sSeq (sIf (t1 (e2 eqD (eVar 5) (eC (.int 4)))) (sSeq (sSet 9 (e2 ixG (eL (fLst (aCons (eTup (aCons (e2 addD (e2 ixG (eVar 7) (eC (.int 2))) (eC (.int 1))) (aCons (e2 ixG (eVar 7) (eC (.int 3))) aNil))) (aCons (eTup (aCons (e2 ixG (eVar 7) (eC (.int 2))) (aCons (e2 addD (e2 ixG (eVar 7) (eC (.int 3))) (eC (.int 1))) aNil))) (aCons (eTup (aCons (eC (.int 0)) (aCons (eC (.int 1)) aNil))) (aCons (eTup (aCons (eC (.int 1)) (aCons (eC (.int 4)) aNil))) aNil)))))) (e2 modD (e2 ixG (eVar 1) (eC (.int 2))) (eC (.int 4))))) (sRet (eTup (aCons (eVar 2) (aCons (eVar 3) (aCons (eCall g_Lchanged (aCons (eVar 4) (aCons (eVar 6) (aCons (e2 addD (e2 addD (eSl (eVar 7) oNone (oSome (eC (.int 2)))) (eVar 9)) (eSl (eVar 7) (oSome (eC (.int 4))) oNone)) aNil)))) aNil)))))) sNil) (sSeq (sIf (t1 (e2 eqD (eVar 5) (eC (.int 5)))) (sRet (eTup (aCons (eVar 2) (aCons (eVar 3) (aCons (eRev (eVar 4) (e1 negD (eC (.int 1)))) aNil))))) sNil) (sSeq (sIf (t1 (e2 eqD (eVar 5) (eC (.int 6)))) (sSeq (sSet 10 (e2 ixG (eL (fLst (aCons (eTup (aCons (eC (.str "aaaaaaaaa")) aNil)) (aCons (eTup (aCons (eC (.str "")) aNil)) (aCons (eTup (aCons (eC (.str "a-b")) aNil)) (aCons (eTup (aCons (eC (.str "a")) (aCons (eC (.str "b")) (aCons (eC (.str "c")) (aCons (eC (.str "d")) (aCons (eC (.str "e")) aNil)))))) (aCons (eTup (aCons (eC (.str "a b")) aNil)) aNil))))))) (e2 modD (e2 ixG (eVar 1) (eC (.int 2))) (eC (.int 5))))) (sRet (eTup (aCons (eVar 2) (aCons (eVar 3) (aCons (eCall g_Lchanged (aCons (eVar 4) (aCons (eVar 6) (aCons (e2 addD (eSl (eVar 7) oNone (oSome (eC (.int 4)))) (eTup (aCons (eVar 10) aNil))) aNil)))) aNil)))))) sNil) (sSeq (sIf (t1 (e2 eqD (eVar 5) (eC (.int 7)))) (sRet (eTup (aCons (eVar 2) (aCons (e2 addD (eTup (aCons (eTup (aCons (e2 ixG (e2 ixG (eVar 3) (eC (.int 0))) (eC (.int 0))) (aCons (eC (.bool true)) (aCons (e2 ixG (e2 ixG (eVar 3) (eC (.int 0))) (eC (.int 2))) aNil)))) aNil)) (eSl (eVar 3) (oSome (eC (.int 1))) oNone)) (aCons (eVar 4) aNil))))) sNil) (sRet (eIf (t1 (e2 eqD (eVar 5) (eC (.int 8)))) (eTup (aCons (eVar 2) (aCons (eVar 3) (aCons (eSl (eVar 4) oNone (oSome (e1 negD (eC (.int 1))))) aNil)))) (eVar 0))))))))))))))
def g_Lspoilt : List PyData → Option PyData := gDef 2 11 f_Lspoilt
def b_Lis_word_1 : En → Out := (sIf (t1 (e2 notInX (eVar 2) (eVar 1))) (sRet (eC (.bool false))) sNil)
def f_Lis_word : En → Out := (sSeq (sSet 1 (eC (.str "abcdefghijklmnopqrstuvwxyzABCDEFGHIJKLMNOPQRSTUVWXYZ0123456789.,:;!?'()/"))) (sSeq (sFor (iStrD (eVar 0)) (gVal 2) b_Lis_word_1) (sRet (chI (fun i j => decide (i ≤ j)) (fun i j => decide (i ≤ j)) (eC (.int 1)) (eCall lenA (aCons (eVar 0) aNil)) (eC (.int 8))))))
def g_Lis_word : List PyData → Option PyData := gDef 1 3 f_Lis_word
def f_Lcolumn_right : En → Out := (sSeq (sUnp (eVar 0) (gT [1, 2, 3, 4])) (sSeq (sIf (tOr' (t1 (e2 ltD (eVar 1) (eC (.int 1)))) (tOr' (t1 (e2 gtD (eVar 1) (eC (.int 20)))) (tAnd' (t1 (e2 isntD (eVar 2) (eC .none))) (tOr' (t1 (e2 ltD (eVar 2) (eVar 1))) (t1 (e2 gtD (eVar 2) (eC (.int 40)))))))) (sRet (eC (.bool false))) sNil) (sSeq (sIf (tAnd' (t1 (e2 isntD (eVar 3) (eC .none))) (tOr' (t1 (e2 ltD (eVar 3) (eC (.int 1)))) (t1 (e2 gtD (eVar 3) (eC (.int 100)))))) (sRet (eC (.bool false))) sNil) (sRet (e2 inT (eVar 4) (eTup (aCons (eC (.str "left")) (aCons (eC (.str "right")) (aCons (eC (.str "center")) aNil)))))))))
def g_Lcolumn_right : List PyData → Option PyData := gDef 1 5 f_Lcolumn_right
def c_Lcells_fault_1 : En → Option PyData := (eSl (eVar 13) oNone (oSome (eC (.int 2))))
def b_Lcells_fault_1 : En → Out := (sIf (t1 (e2 gtU (e2 ixG (eVar 4) (e2 subD (eVar 5) (eC (.int 1)))) (e2 ixG (eVar 4) (eVar 5)))) (sRet (eC (.str "cells are not in order"))) sNil)
def b_Lcells_fault_2 : En → Out := (sIf (tOr' (t1 (e2 ltD (eVar 8) (eC (.int 1)))) (tOr' (t1 (e2 ltD (eVar 9) (eC (.int 1)))) (tOr' (t1 (e2 gtU (e2 addD (eVar 6) (eVar 8)) (eCall lenA (aCons (eVar 2) aNil)))) (t1 (e2 gtU (e2 addD (eVar 7) (eVar 9)) (eCall lenA (aCons (eVar 1) aNil))))))) (sRet (eC (.str "cell lies outside"))) sNil)
def c_Lcells_fault_2 : En → Option PyData := (eC (.int 0))
def b_Lcells_fault_3 : En → Out := (sSeq (sSet 12 (e2 addD (e2 addD (e2 mulD (e2 addD (eVar 6) (e2 divD (eVar 5) (eVar 9))) (eCall lenA (aCons (eVar 1) aNil))) (eVar 7)) (e2 modD (eVar 5) (eVar 9)))) (sPut 11 (eVar 12) (e2 addD (eIxO 11 (eVar 12)) (eC (.int 1)))))
def b_Lcells_fault_4 : En → Out := (sFor (iR1 (aCons (e2 mulD (eVar 8) (eVar 9)) aNil)) (gVal 5) b_Lcells_fault_3)
def c_Lcells_fault_3 : En → Option PyData := (eC (.int 1))
def f_Lcells_fault : En → Out := (sSeq (sUnp (eVar 0) (gT [1, 2, 3])) (sSeq (sSet 4 (eL (fCmp [13] (iSeq (eVar 3)) (gVal 13) tYes' c_Lcells_fault_1))) (sSeq (sFor (iR2 (aCons (eC (.int 1)) (aCons (eCall lenA (aCons (eVar 4) aNil)) aNil))) (gVal 5) b_Lcells_fault_1) (sSeq (sFor (iSeq (eVar 3)) (gT [6, 7, 8, 9, 10]) b_Lcells_fault_2) (sSeq (sOwn 11 (fCmp [14] (iR1 (aCons (e2 mulD (eCall lenA (aCons (eVar 2) aNil)) (eCall lenA (aCons (eVar 1) aNil))) aNil)) (gVal 14) tYes' c_Lcells_fault_2)) (sSeq (sFor (iSeq (eVar 3)) (gT [6, 7, 8, 9, 10]) b_Lcells_fault_4) (sRet (eIf (t1 (e2 eqD (eBor 11) (eL (fCmp [14] (iOwn 11) (gVal 14) tYes' c_Lcells_fault_3)))) (eC .none) (eC (.str "place is not covered once"))))))))))
def g_Lcells_fault : List PyData → Option PyData := gDef 1 15 f_Lcells_fault
def b_Lfault_1 : En → Out := (sIf (tNot' (tTr (eCall g_Lcolumn_right (aCons (eVar 4) aNil)))) (sRet (eC (.str "columns are wrong"))) sNil)
def b_Lfault_2 : En → Out := (sIf (tOr' (t1 (e2 ltD (e2 ixG (eVar 5) (eC (.int 0))) (eC (.int 1)))) (t1 (e2 gtD (e2 ixG (eVar 5) (eC (.int 0))) (eC (.int 6))))) (sRet (eC (.str "rows are wrong"))) sNil)
def b_Lfault_3 : En → Out := (sIf (tAnd' (tTr (e2 ixG (e2 ixG (eVar 2) (eVar 6)) (eC (.int 1)))) (tNot' (tTr (e2 ixG (e2 ixG (eVar 2) (e2 subD (eVar 6) (eC (.int 1)))) (eC (.int 1)))))) (sRet (eC (.str "head rows come first"))) sNil)
def c_Lfault_1 : En → Option PyData := (eVar 5)
def t_Lfault_1 : En → Option Bool := (tTr (e2 ixG (eVar 5) (eC (.int 1))))
def c_Lfault_2 : En → Option PyData := (eVar 12)
def t_Lfault_2 : En → Option Bool := (tNot' (tTr (eCall g_Lis_word (aCons (eVar 12) aNil))))
def b_Lfault_4 : En → Out := (sSeq (sIf (tOr' (t1 (e2 gtD (eCall lenA (aCons (eVar 11) aNil)) (eC (.int 4)))) (t1 (e2 gtD (eCall lenA (aCons (eL (fCmp [12] (iSeq (eVar 11)) (gVal 12) t_Lfault_2 c_Lfault_2)) aNil)) (eC (.int 0))))) (sRet (eC (.str "words are wrong"))) sNil) (sIf (t1 (chI (fun i j => decide (i < j)) (fun i j => decide (i < j)) (eVar 5) (eVar 8) (e2 addD (eVar 5) (eVar 9)))) (sRet (eC (.str "cell crosses the head"))) sNil))
def f_Lfault : En → Out := (sSeq (sUnp (eVar 0) (gT [1, 2, 3])) (sSeq (sFor (iSeq (eVar 1)) (gVal 4) b_Lfault_1) (sSeq (sFor (iSeq (eVar 2)) (gVal 5) b_Lfault_2) (sSeq (sIf (t1 (e2 gtD (eCall lenA (aCons (eVar 2) aNil)) (eC (.int 4)))) (sRet (eC (.str "rows are wrong"))) sNil) (sSeq (sFor (iR2 (aCons (eC (.int 1)) (aCons (eCall lenA (aCons (eVar 2) aNil)) aNil))) (gVal 6) b_Lfault_3) (sSeq (sSet 7 (eCall g_Lcells_fault (aCons (eVar 0) aNil))) (sSeq (sIf (t1 (e2 isntD (eVar 7) (eC .none))) (sRet (eVar 7)) sNil) (sSeq (sSet 8 (eCall lenA (aCons (eL (fCmp [5] (iSeq (eVar 2)) (gVal 5) t_Lfault_1 c_Lfault_1)) aNil))) (sSeq (sFor (iSeq (eVar 3)) (gT [5, 4, 9, 10, 11]) b_Lfault_4) (sRet (eC .none)))))))))))
def g_Lfault : List PyData → Option PyData := gDef 1 13 f_Lfault
noncomputable def y_Ltold_1 : En → OutX := (xRet (xCall g_check_table (xaOk (aCons (eVar 0) aNil))))
noncomputable def u_Ltold_1 (a dd : Addr) : En → Out := (sRet (eIf (tAnd' (t1 (eIsiEx 1 a dd)) (t1 (eIsiEx 1 a dd))) (eWhat 1 a dd) (eC (.int 0))))
noncomputable def f_Ltold : En → Out := (sTry 1 y_Ltold_1 u_Ltold_1)
noncomputable def g_Ltold : List PyData → Option PyData := gDef 1 2 f_Ltold
noncomputable def c_law_1 : En → Option PyData := (eVar 8)
noncomputable def t_law_1 : En → Option Bool := (tTr (e2 ixG (eVar 8) (eC (.int 1))))
noncomputable def c_law_2 : En → Option PyData := (eVar 16)
noncomputable def t_law_2 : En → Option Bool := (t1 (chI (fun i j => decide (i < j)) (fun i j => decide (i < j)) (e2 ixG (eVar 16) (eC (.int 0))) (eVar 8) (e2 addD (e2 ixG (eVar 16) (eC (.int 0))) (e2 ixG (eVar 16) (eC (.int 2))))))
noncomputable def b_law_1 : En → Out := (sSeq (sSet 9 (eL (fCmp [16] (iSeq (eVar 5)) (gVal 16) t_law_2 c_law_2))) (sIf (tAnd' (t1 (e2 gtD (eVar 8) (eVar 6))) (tAnd' (t1 (e2 eqD (eVar 9) (eL (fLst aNil)))) (tNot' (tTr (e2 ixG (e2 ixG (eVar 4) (e2 subD (eVar 8) (eC (.int 1)))) (eC (.int 2))))))) (sApp 7 (eVar 8)) sNil))
noncomputable def b_law_2 : En → Out := (sIf (t1 (e2 neD (eCall g_cell_at (aCons (eVar 1) (aCons (e2 addD (eVar 8) (e2 divD (eVar 15) (eVar 13))) (aCons (e2 addD (eVar 11) (e2 modD (eVar 15) (eVar 13))) aNil)))) (eVar 10))) (sRet (eC (.bool false))) sNil)
noncomputable def b_law_3 : En → Out := (sSeq (sUnp (e2 ixG (eVar 5) (eVar 10)) (gT [8, 11, 12, 13, 14])) (sFor (iR1 (aCons (e2 mulD (eVar 12) (eVar 13)) aNil)) (gVal 15) b_law_2))
noncomputable def f_law : En → Out := (sSeq (sSet 1 (eCall g_Lspoilt (aCons (eCall g_Ltable (aCons (eVar 0) (aCons (eC (.int 1)) (aCons (eC (.int 3)) (aCons (eC (.int 3)) aNil))))) (aCons (eCall g_Ldraws (aCons (eCall g_Lcell (aCons (eVar 0) (aCons (eC (.int 0)) aNil))) (aCons (eC (.int 4)) aNil))) aNil)))) (sSeq (sSet 2 (eCall g_Lfault (aCons (eVar 1) aNil))) (sSeq (sIf (t1 (e2 neD (eCall g_Ltold (aCons (eVar 1) aNil)) (eVar 2))) (sRet (eC (.bool false))) sNil) (sSeq (sIf (t1 (e2 isntD (eVar 2) (eC .none))) (sRet (eC (.bool true))) sNil) (sSeq (sUnp (eVar 1) (gT [3, 4, 5])) (sSeq (sSet 6 (eCall lenA (aCons (eL (fCmp [8] (iSeq (eVar 4)) (gVal 8) t_law_1 c_law_1)) aNil))) (sSeq (sIf (t1 (e2 neD (eCall g_head_count (aCons (eVar 1) aNil)) (eVar 6))) (sRet (eC (.bool false))) sNil) (sSeq (sOwn 7 (fLst aNil)) (sSeq (sFor (iR1 (aCons (eCall lenA (aCons (eVar 4) aNil)) aNil)) (gVal 8) b_law_1) (sSeq (sIf (t1 (e2 neD (eCall g_breakable_rows (aCons (eVar 1) aNil)) (eBor 7))) (sRet (eC (.bool false))) sNil) (sSeq (sFor (iR1 (aCons (eCall lenA (aCons (eVar 5) aNil)) aNil)) (gVal 10) b_law_3) (sRet (eC (.bool true))))))))))))))
noncomputable def g_law : List PyData → Option PyData := gDef 1 17 f_law
/-! ### the text does so -/
section
variable {P : Program} {w : World} {K : PySem.W.Frag} {mg : Str → Option Value} {base : Heap}
theorem ok_is_word {f : Addr} {fd : FuncData} (F : Fun K "is_word" "is_word" s_is_word f fd) (m_len : mg "len" = none) (m_all : mg "all" = none) (g_MOST_CHARACTERS : mg "MOST_CHARACTERS" = some (.int 8 t_MOST_CHARACTERS)) (g_CHARACTERS : mg "CHARACTERS" = some (.str "ABCDEFGHIJKLMNOPQRSTUVWXYZabcdefghijklmnopqrstuvwxyz0123456789.,:;!?'()/" t_CHARACTERS)) : FnOk P w K mg base CX0 1 f fd ["text"] (spF K g_is_word) := by
  refine fn_ok (k := 0) (fB := f_is_word) (np := 1) (nN := 2) F sc_is_word rfl rfl rfl fun cdv A outer s H E hr => ?_
  have nd : N_is_word.Nodup := sc_is_word.nd
  exact ((cs_cons (cs_if (ct_not (ct_chain (c := true) (c1 := true) (c2 := true) (pt_chain op_le op_le ce_int (ce_cb (c2 := true) cr_len (pe_callB call_len (by rfl) m_len boot_len (ca_cons (ce_var (i := 0) (pv 0)) ca_nil))) (ce_c (v := .int 8) (pe_glob (by rfl) g_MOST_CHARACTERS ⟨_, rfl⟩) fun _ _ => by rw [Rp]))))
    (cs_one (cs_ret ce_bl))
    cs_nil)
    (cs_one (cs_ret (ce_cb (c2 := true) cr_all' (pe_callB (cr_all rfl) (by rfl) m_all (by decide +kernel) (ca_cons (ce_l (c := true) (cf_lc1 (c2 := true) (pe_lc (own := [("character", 1)]) (by rfl) nd (ci_str (c := true) (c1 := true) (ce_var (i := 0) (pv 0))) (blkOk_by (own := [("character", 1)]) (N := N_is_word) (sc := defScope s_is_word) (by decide +kernel)) (fun _ _ _ _ _ => (cg_name (pg_name (i := 1) nd rfl (by first | exact Or.inl rfl | exact Or.inr rfl)))) (fun _ _ _ _ _ => pts_nil) (fun _ _ _ _ _ => (ce_cmp (op_inX (hu65 hr)) r2_inX (ce_var (i := 1) (pv 1)) (ce_c (v := .str "ABCDEFGHIJKLMNOPQRSTUVWXYZabcdefghijklmnopqrstuvwxyz0123456789.,:;!?'()/") (pe_glob (by rfl) g_CHARACTERS ⟨_, rfl⟩) fun _ _ => by rw [Rp]) (by rfl)))))) ca_nil)))))))
theorem ok_are_words {f : Addr} {fd : FuncData} (F : Fun K "are_words" "are_words" s_are_words f fd) {a_is_word : Addr} {d_is_word : FuncData} (G_is_word : FnOk P w K mg base CX0 1 a_is_word d_is_word ["text"] (spF K g_is_word)) (M_is_word : mg "is_word" = some (.ref a_is_word)) (k_is_word : PySem.W.keepIn K (.ref a_is_word) = true) (b_is_word : Binds K d_is_word ["text"] []) (m_len : mg "len" = none) (m_all : mg "all" = none) (g_MOST_WORDS : mg "MOST_WORDS" = some (.int 4 t_MOST_WORDS)) : FnOk P w K mg base CX0 2 f fd ["words"] (spF K g_are_words) := by
  refine fn_ok (k := 1) (fB := f_are_words) (np := 1) (nN := 2) F sc_are_words rfl rfl rfl fun cdv A outer s H E hr => ?_
  have nd : N_are_words.Nodup := sc_are_words.nd
  exact ((cs_one (cs_ret (ce_and (ce_cmp op_le r2_B0 (ce_cb (c2 := true) cr_len (pe_callB call_len (by rfl) m_len boot_len (ca_cons (ce_var (i := 0) (pv 0)) ca_nil))) (ce_c (v := .int 4) (pe_glob (by rfl) g_MOST_WORDS ⟨_, rfl⟩) fun _ _ => by rw [Rp]) (nomark _)) (ce_one (ce_cb (c2 := true) cr_all' (pe_callB (cr_all rfl) (by rfl) m_all (by decide +kernel) (ca_cons (ce_l (c := true) (cf_lc1 (c2 := true) (pe_lc (own := [("word", 1)]) (by rfl) nd (ci_seq (ce_var (i := 0) (pv 0))) (blkOk_by (own := [("word", 1)]) (N := N_are_words) (sc := defScope s_are_words) (by decide +kernel)) (fun _ _ _ _ _ => (cg_name (pg_name (i := 1) nd rfl (by first | exact Or.inl rfl | exact Or.inr rfl)))) (fun _ _ _ _ _ => pts_nil) (fun _ _ _ _ _ => (ce_call (c := true) (pe_call G_is_word (hr.mono (by decide)) (by rfl) M_is_word k_is_word b_is_word .nil pass0 (ca_cons (ce_var (i := 1) (pv 1)) ca_nil))))))) ca_nil))))))))
theorem ok_is_column {f : Addr} {fd : FuncData} (F : Fun K "is_column" "is_column" s_is_column f fd) {z_ALIGNS : Addr} (g_ALIGNS : mg "ALIGNS" = some (.ref z_ALIGNS)) (Z_ALIGNS : KTup K z_ALIGNS TUP_ALIGNS) (Y_ALIGNS : ∃ o, K.lookup z_ALIGNS = some o ∧ o.cls = .type "tuple" ∧ o.dict = none) : FnOk P w K mg base CX0 1 f fd ["column"] (spF K g_is_column) := by
  refine fn_ok (k := 0) (fB := f_is_column) (np := 1) (nN := 5) F sc_is_column rfl rfl rfl fun cdv A outer s H E hr => ?_
  have nd : N_is_column.Nodup := sc_is_column.nd
  exact ((cs_cons (cs_unp (ps_asg (ce_var (i := 0) (pv 0)) (cg_tup (is := [1, 2, 3, 4]) (pg_tup rfl (pgs_cons (pg_name (i := 1) nd rfl (by first | exact Or.inl rfl | exact Or.inr rfl)) (pgs_cons (pg_name (i := 2) nd rfl (by first | exact Or.inl rfl | exact Or.inr rfl)) (pgs_cons (pg_name (i := 3) nd rfl (by first | exact Or.inl rfl | exact Or.inr rfl)) (pgs_cons (pg_name (i := 4) nd rfl (by first | exact Or.inl rfl | exact Or.inr rfl)) pgs_nil))))))))
    (cs_cons (cs_if (ct_not (ct_chain (c := true) (c1 := true) (c2 := true) (pt_chain op_le op_le ce_int (ce_var (i := 1) (pv 1)) ce_int)))
    (cs_one (cs_ret ce_bl))
    cs_nil)
    (cs_cons (cs_if (PW.pt (cw_and (ct_cmp op_notN r2_isnt (ce_var (i := 2) (pv 2)) ce_non (nomark _)) (cw_and1 (ct_not (ct_chain (c := true) (c1 := true) (c2 := true) (pt_chain op_le op_le (ce_var (i := 1) (pv 1)) (ce_var (i := 2) (pv 2)) ce_int))))))
    (cs_one (cs_ret ce_bl))
    cs_nil)
    (cs_cons (cs_if (PW.pt (cw_and (ct_cmp op_notN r2_isnt (ce_var (i := 3) (pv 3)) ce_non (nomark _)) (cw_and1 (ct_not (ct_chain (c := true) (c1 := true) (c2 := true) (pt_chain op_le op_le ce_int (ce_var (i := 3) (pv 3)) ce_int))))))
    (cs_one (cs_ret ce_bl))
    cs_nil)
    (cs_one (cs_ret (ce_inG (c := true) Z_ALIGNS op_in_seq (ce_var (i := 4) (pv 4)) (pe_glob (by rfl) g_ALIGNS rfl) (by rfl)))))))))
theorem ok_are_columns {f : Addr} {fd : FuncData} (F : Fun K "are_columns" "are_columns" s_are_columns f fd) {a_is_column : Addr} {d_is_column : FuncData} (G_is_column : FnOk P w K mg base CX0 1 a_is_column d_is_column ["column"] (spF K g_is_column)) (M_is_column : mg "is_column" = some (.ref a_is_column)) (k_is_column : PySem.W.keepIn K (.ref a_is_column) = true) (b_is_column : Binds K d_is_column ["column"] []) (m_len : mg "len" = none) (m_all : mg "all" = none) (g_MOST_COLUMNS : mg "MOST_COLUMNS" = some (.int 4 t_MOST_COLUMNS)) : FnOk P w K mg base CX0 2 f fd ["columns"] (spF K g_are_columns) := by
  refine fn_ok (k := 1) (fB := f_are_columns) (np := 1) (nN := 2) F sc_are_columns rfl rfl rfl fun cdv A outer s H E hr => ?_
  have nd : N_are_columns.Nodup := sc_are_columns.nd
  exact ((cs_one (cs_ret (ce_and (ce_chain (c := true) (c1 := true) (c2 := true) (pe_chain op_le op_le ce_int (ce_cb (c2 := true) cr_len (pe_callB call_len (by rfl) m_len boot_len (ca_cons (ce_var (i := 0) (pv 0)) ca_nil))) (ce_c (v := .int 4) (pe_glob (by rfl) g_MOST_COLUMNS ⟨_, rfl⟩) fun _ _ => by rw [Rp]))) (ce_one (ce_cb (c2 := true) cr_all' (pe_callB (cr_all rfl) (by rfl) m_all (by decide +kernel) (ca_cons (ce_l (c := true) (cf_lc1 (c2 := true) (pe_lc (own := [("column", 1)]) (by rfl) nd (ci_seq (ce_var (i := 0) (pv 0))) (blkOk_by (own := [("column", 1)]) (N := N_are_columns) (sc := defScope s_are_columns) (by decide +kernel)) (fun _ _ _ _ _ => (cg_name (pg_name (i := 1) nd rfl (by first | exact Or.inl rfl | exact Or.inr rfl)))) (fun _ _ _ _ _ => pts_nil) (fun _ _ _ _ _ => (ce_call (c := true) (pe_call G_is_column (hr.mono (by decide)) (by rfl) M_is_column k_is_column b_is_column .nil pass0 (ca_cons (ce_var (i := 1) (pv 1)) ca_nil))))))) ca_nil))))))))
theorem ok_is_row {f : Addr} {fd : FuncData} (F : Fun K "is_row" "is_row" s_is_row f fd)  : FnOk P w K mg base CX0 1 f fd ["row"] (spF K g_is_row) := by
  refine fn_ok (k := 0) (fB := f_is_row) (np := 1) (nN := 1) F sc_is_row rfl rfl rfl fun cdv A outer s H E hr => ?_
  have nd : N_is_row.Nodup := sc_is_row.nd
  exact ((cs_one (cs_ret (ce_chain (c := true) (c1 := true) (c2 := true) (pe_chain op_le op_le ce_int (ce_ix (ce_var (i := 0) (pv 0)) ce_int (fun _ _ => rfl)) ce_int)))))
theorem ok_are_rows {f : Addr} {fd : FuncData} (F : Fun K "are_rows" "are_rows" s_are_rows f fd) {a_is_row : Addr} {d_is_row : FuncData} (G_is_row : FnOk P w K mg base CX0 1 a_is_row d_is_row ["row"] (spF K g_is_row)) (M_is_row : mg "is_row" = some (.ref a_is_row)) (k_is_row : PySem.W.keepIn K (.ref a_is_row) = true) (b_is_row : Binds K d_is_row ["row"] []) (m_len : mg "len" = none) (m_all : mg "all" = none) (g_MOST_ROWS : mg "MOST_ROWS" = some (.int 4 t_MOST_ROWS)) : FnOk P w K mg base CX0 2 f fd ["rows"] (spF K g_are_rows) := by
  refine fn_ok (k := 1) (fB := f_are_rows) (np := 1) (nN := 2) F sc_are_rows rfl rfl rfl fun cdv A outer s H E hr => ?_
  have nd : N_are_rows.Nodup := sc_are_rows.nd
  exact ((cs_one (cs_ret (ce_and (ce_chain (c := true) (c1 := true) (c2 := true) (pe_chain op_le op_le ce_int (ce_cb (c2 := true) cr_len (pe_callB call_len (by rfl) m_len boot_len (ca_cons (ce_var (i := 0) (pv 0)) ca_nil))) (ce_c (v := .int 4) (pe_glob (by rfl) g_MOST_ROWS ⟨_, rfl⟩) fun _ _ => by rw [Rp]))) (ce_one (ce_cb (c2 := true) cr_all' (pe_callB (cr_all rfl) (by rfl) m_all (by decide +kernel) (ca_cons (ce_l (c := true) (cf_lc1 (c2 := true) (pe_lc (own := [("row", 1)]) (by rfl) nd (ci_seq (ce_var (i := 0) (pv 0))) (blkOk_by (own := [("row", 1)]) (N := N_are_rows) (sc := defScope s_are_rows) (by decide +kernel)) (fun _ _ _ _ _ => (cg_name (pg_name (i := 1) nd rfl (by first | exact Or.inl rfl | exact Or.inr rfl)))) (fun _ _ _ _ _ => pts_nil) (fun _ _ _ _ _ => (ce_call (c := true) (pe_call G_is_row (hr.mono (by decide)) (by rfl) M_is_row k_is_row b_is_row .nil pass0 (ca_cons (ce_var (i := 1) (pv 1)) ca_nil))))))) ca_nil))))))))
theorem ok_are_heads_first {f : Addr} {fd : FuncData} (F : Fun K "are_heads_first" "are_heads_first" s_are_heads_first f fd) (m_len : mg "len" = none) (m_range : mg "range" = none) : FnOk P w K mg base CX0 1 f fd ["rows"] (spF K g_are_heads_first) := by
  refine fn_ok (k := 0) (fB := f_are_heads_first) (np := 1) (nN := 2) F sc_are_heads_first rfl rfl rfl fun cdv A outer s H E hr => ?_
  have nd : N_are_heads_first.Nodup := sc_are_heads_first.nd
  exact ((cs_cons (cs_for PassesOwn.never (by rfl) (ci_r2 (pi_range2 (by rfl) m_range (ca_cons ce_int (ca_cons (ce_cb (c2 := true) cr_len (pe_callB call_len (by rfl) m_len boot_len (ca_cons (ce_var (i := 0) (pv 0)) ca_nil))) ca_nil)))) (cg_name (pg_name (i := 1) nd rfl (by first | exact Or.inl rfl | exact Or.inr rfl)))
    (cs_one (cs_if (PW.pt (cw_and (ct_tru (ce_ix (ce_ix (ce_var (i := 0) (pv 0)) (ce_var (i := 1) (pv 1)) (fun _ _ => rfl)) ce_int (fun _ _ => rfl)) (by intro _; rfl)) (cw_and1 (ct_not (ct_tru (ce_ix (ce_ix (ce_var (i := 0) (pv 0)) (ce_sub (ce_var (i := 1) (pv 1)) ce_int) (fun _ _ => rfl)) ce_int (fun _ _ => rfl)) (by intro _; rfl))))))
    (cs_one (cs_ret ce_bl))
    cs_nil)))
    (cs_one (cs_ret ce_bl))))
theorem ok_are_in_order {f : Addr} {fd : FuncData} (F : Fun K "are_in_order" "are_in_order" s_are_in_order f fd) (m_len : mg "len" = none) (m_range : mg "range" = none) : FnOk P w K mg base CX0 1 f fd ["cells"] (spF K g_are_in_order) := by
  refine fn_ok (k := 0) (fB := f_are_in_order) (np := 1) (nN := 2) F sc_are_in_order rfl rfl rfl fun cdv A outer s H E hr => ?_
  have nd : N_are_in_order.Nodup := sc_are_in_order.nd
  exact ((cs_cons (cs_for PassesOwn.never (by rfl) (ci_r2 (pi_range2 (by rfl) m_range (ca_cons ce_int (ca_cons (ce_cb (c2 := true) cr_len (pe_callB call_len (by rfl) m_len boot_len (ca_cons (ce_var (i := 0) (pv 0)) ca_nil))) ca_nil)))) (cg_name (pg_name (i := 1) nd rfl (by first | exact Or.inl rfl | exact Or.inr rfl)))
    (cs_one (cs_if (ct_cmp (op_ltU hr.units) r2_ltU (ce_sl (ce_ix (ce_var (i := 0) (pv 0)) (ce_var (i := 1) (pv 1)) (fun _ _ => rfl)) co_none (co_some ce_int)) (ce_sl (ce_ix (ce_var (i := 0) (pv 0)) (ce_sub (ce_var (i := 1) (pv 1)) ce_int) (fun _ _ => rfl)) co_none (co_some ce_int)) (nomark _))
    (cs_one (cs_ret ce_bl))
    cs_nil)))
    (cs_one (cs_ret ce_bl))))
theorem ok_is_inside {f : Addr} {fd : FuncData} (F : Fun K "is_inside" "is_inside" s_is_inside f fd)  : FnOk P w K mg base CX0 1 f fd ["cell", "row_count", "column_count"] (spF K g_is_inside) := by
  refine fn_ok (k := 0) (fB := f_is_inside) (np := 3) (nN := 7) F sc_is_inside rfl rfl rfl fun cdv A outer s H E hr => ?_
  have nd : N_is_inside.Nodup := sc_is_inside.nd
  exact ((cs_cons (cs_unp (ps_asg (ce_sl (ce_var (i := 0) (pv 0)) co_none (co_some ce_int)) (cg_tup (is := [3, 4, 5, 6]) (pg_tup rfl (pgs_cons (pg_name (i := 3) nd rfl (by first | exact Or.inl rfl | exact Or.inr rfl)) (pgs_cons (pg_name (i := 4) nd rfl (by first | exact Or.inl rfl | exact Or.inr rfl)) (pgs_cons (pg_name (i := 5) nd rfl (by first | exact Or.inl rfl | exact Or.inr rfl)) (pgs_cons (pg_name (i := 6) nd rfl (by first | exact Or.inl rfl | exact Or.inr rfl)) pgs_nil))))))))
    (cs_cons (cs_if (PW.pt (cw_or (ct_cmp op_lt r2_B0 (ce_var (i := 3) (pv 3)) ce_int (nomark _)) (cw_or (ct_cmp op_lt r2_B0 (ce_var (i := 4) (pv 4)) ce_int (nomark _)) (cw_or (ct_cmp op_lt r2_B0 (ce_var (i := 5) (pv 5)) ce_int (nomark _)) (cw_or1 (ct_cmp op_lt r2_B0 (ce_var (i := 6) (pv 6)) ce_int (nomark _)))))))
    (cs_one (cs_ret ce_bl))
    cs_nil)
    (cs_one (cs_ret (ce_and (ce_cmp op_le r2_B0 (ce_add (ce_var (i := 3) (pv 3)) (ce_var (i := 5) (pv 5))) (ce_var (i := 1) (pv 1)) (nomark _)) (ce_one (ce_cmp op_le r2_B0 (ce_add (ce_var (i := 4) (pv 4)) (ce_var (i := 6) (pv 6))) (ce_var (i := 2) (pv 2)) (nomark _)))))))))
theorem ok_covers {f : Addr} {fd : FuncData} (F : Fun K "covers" "covers" s_covers f fd)  : FnOk P w K mg base CX0 1 f fd ["cell", "row", "column"] (spF K g_covers) := by
  refine fn_ok (k := 0) (fB := f_covers) (np := 3) (nN := 7) F sc_covers rfl rfl rfl fun cdv A outer s H E hr => ?_
  have nd : N_covers.Nodup := sc_covers.nd
  exact ((cs_cons (cs_unp (ps_asg (ce_sl (ce_var (i := 0) (pv 0)) co_none (co_some ce_int)) (cg_tup (is := [3, 4, 5, 6]) (pg_tup rfl (pgs_cons (pg_name (i := 3) nd rfl (by first | exact Or.inl rfl | exact Or.inr rfl)) (pgs_cons (pg_name (i := 4) nd rfl (by first | exact Or.inl rfl | exact Or.inr rfl)) (pgs_cons (pg_name (i := 5) nd rfl (by first | exact Or.inl rfl | exact Or.inr rfl)) (pgs_cons (pg_name (i := 6) nd rfl (by first | exact Or.inl rfl | exact Or.inr rfl)) pgs_nil))))))))
    (cs_one (cs_ret (ce_and (ce_chain (c := true) (c1 := true) (c2 := true) (pe_chain op_le op_lt ce_int (ce_sub (ce_var (i := 1) (pv 1)) (ce_var (i := 3) (pv 3))) (ce_var (i := 5) (pv 5)))) (ce_one (ce_chain (c := true) (c1 := true) (c2 := true) (pe_chain op_le op_lt ce_int (ce_sub (ce_var (i := 2) (pv 2)) (ce_var (i := 4) (pv 4))) (ce_var (i := 6) (pv 6))))))))))
theorem ok_covers_both {f : Addr} {fd : FuncData} (F : Fun K "covers_both" "covers_both" s_covers_both f fd)  : FnOk P w K mg base CX0 1 f fd ["cell", "row"] (spF K g_covers_both) := by
  refine fn_ok (k := 0) (fB := f_covers_both) (np := 2) (nN := 2) F sc_covers_both rfl rfl rfl fun cdv A outer s H E hr => ?_
  have nd : N_covers_both.Nodup := sc_covers_both.nd
  exact ((cs_one (cs_ret (ce_chain (c := true) (c1 := true) (c2 := true) (pe_chain op_lt op_lt (ce_ix (ce_var (i := 0) (pv 0)) ce_int (fun _ _ => rfl)) (ce_var (i := 1) (pv 1)) (ce_add (ce_ix (ce_var (i := 0) (pv 0)) ce_int (fun _ _ => rfl)) (ce_ix (ce_var (i := 0) (pv 0)) ce_int (fun _ _ => rfl))))))))
theorem ok_is_covered_once {f : Addr} {fd : FuncData} (F : Fun K "is_covered_once" "is_covered_once" s_is_covered_once f fd) {a_covers : Addr} {d_covers : FuncData} (G_covers : FnOk P w K mg base CX0 1 a_covers d_covers ["cell", "row", "column"] (spF K g_covers)) (M_covers : mg "covers" = some (.ref a_covers)) (k_covers : PySem.W.keepIn K (.ref a_covers) = true) (b_covers : Binds K d_covers ["cell", "row", "column"] []) (m_len : mg "len" = none) (m_range : mg "range" = none) : FnOk P w K mg base CX0 2 f fd ["table"] (spF K g_is_covered_once) := by
  refine fn_ok (k := 1) (fB := f_is_covered_once) (np := 1) (nN := 7) F sc_is_covered_once rfl rfl rfl fun cdv A outer s H E hr => ?_
  have nd : N_is_covered_once.Nodup := sc_is_covered_once.nd
  exact ((cs_cons (cs_unp (ps_asg (ce_var (i := 0) (pv 0)) (cg_tup (is := [1, 2, 3]) (pg_tup rfl (pgs_cons (pg_name (i := 1) nd rfl (by first | exact Or.inl rfl | exact Or.inr rfl)) (pgs_cons (pg_name (i := 2) nd rfl (by first | exact Or.inl rfl | exact Or.inr rfl)) (pgs_cons (pg_name (i := 3) nd rfl (by first | exact Or.inl rfl | exact Or.inr rfl)) pgs_nil)))))))
    (cs_cons (cs_for PassesOwn.never (by rfl) (ci_r1 (pi_range1 (by rfl) m_range (ca_cons (ce_cb (c2 := true) cr_len (pe_callB call_len (by rfl) m_len boot_len (ca_cons (ce_var (i := 2) (pv 2)) ca_nil))) ca_nil))) (cg_name (pg_name (i := 4) nd rfl (by first | exact Or.inl rfl | exact Or.inr rfl)))
    (cs_one (cs_for PassesOwn.never (by rfl) (ci_r1 (pi_range1 (by rfl) m_range (ca_cons (ce_cb (c2 := true) cr_len (pe_callB call_len (by rfl) m_len boot_len (ca_cons (ce_var (i := 1) (pv 1)) ca_nil))) ca_nil))) (cg_name (pg_name (i := 5) nd rfl (by first | exact Or.inl rfl | exact Or.inr rfl)))
    (cs_one (cs_if (ct_cmp (op_neD hr.units) r2_ne (ce_cb (c2 := true) cr_len (pe_callB call_len (by rfl) m_len boot_len (ca_cons (ce_l (c := true) (cf_lc (c2 := true) (pe_lc (own := [("cell", 6)]) (by rfl) nd (ci_seq (ce_var (i := 3) (pv 3))) (blkOk_by (own := [("cell", 6)]) (N := N_is_covered_once) (sc := defScope s_is_covered_once) (by decide +kernel)) (fun _ _ _ _ _ => (cg_name (pg_name (i := 6) nd rfl (by first | exact Or.inl rfl | exact Or.inr rfl)))) (fun _ _ _ _ _ => (pts_one (ct_tru (ce_call (c := true) (pe_call G_covers (hr.mono (by decide)) (by rfl) M_covers k_covers b_covers .nil pass0 (ca_cons (ce_var (i := 6) (pv 6)) (ca_cons (ce_var (i := 4) (pv 4)) (ca_cons (ce_var (i := 5) (pv 5)) ca_nil))))) (by intro _; rfl)))) (fun _ _ _ _ _ => (ce_var (i := 6) (pv 6)))))) ca_nil))) ce_int (nomark _))
    (cs_one (cs_ret ce_bl))
    cs_nil)))))
    (cs_one (cs_ret ce_bl)))))
theorem ok_head_count {f : Addr} {fd : FuncData} (F : Fun K "head_count" "head_count" s_head_count f fd) (m_len : mg "len" = none) : FnOk P w K mg base CX0 1 f fd ["table"] (spF K g_head_count) := by
  refine fn_ok (k := 0) (fB := f_head_count) (np := 1) (nN := 2) F sc_head_count rfl rfl rfl fun cdv A outer s H E hr => ?_
  have nd : N_head_count.Nodup := sc_head_count.nd
  exact ((cs_one (cs_ret (ce_cb (c2 := true) cr_len (pe_callB call_len (by rfl) m_len boot_len (ca_cons (ce_l (c := true) (cf_lc (c2 := true) (pe_lc (own := [("row", 1)]) (by rfl) nd (ci_seq (ce_ix (ce_var (i := 0) (pv 0)) ce_int (fun _ _ => rfl))) (blkOk_by (own := [("row", 1)]) (N := N_head_count) (sc := defScope s_head_count) (by decide +kernel)) (fun _ _ _ _ _ => (cg_name (pg_name (i := 1) nd rfl (by first | exact Or.inl rfl | exact Or.inr rfl)))) (fun _ _ _ _ _ => (pts_one (ct_tru (ce_ix (ce_var (i := 1) (pv 1)) ce_int (fun _ _ => rfl)) (by intro _; rfl)))) (fun _ _ _ _ _ => (ce_var (i := 1) (pv 1)))))) ca_nil))))))
theorem ok_check_table {f : Addr} {fd : FuncData} (F : Fun K "check_table" "check_table" s_check_table f fd) {C fI : Addr} (T : PySem.RfX.RfTxt P K mg C fI) {a_are_columns : Addr} {d_are_columns : FuncData} (G_are_columns : FnOk P w K mg base CX0 2 a_are_columns d_are_columns ["columns"] (spF K g_are_columns)) (M_are_columns : mg "are_columns" = some (.ref a_are_columns)) (k_are_columns : PySem.W.keepIn K (.ref a_are_columns) = true) (b_are_columns : Binds K d_are_columns ["columns"] []) {a_are_rows : Addr} {d_are_rows : FuncData} (G_are_rows : FnOk P w K mg base CX0 2 a_are_rows d_are_rows ["rows"] (spF K g_are_rows)) (M_are_rows : mg "are_rows" = some (.ref a_are_rows)) (k_are_rows : PySem.W.keepIn K (.ref a_are_rows) = true) (b_are_rows : Binds K d_are_rows ["rows"] []) {a_are_heads_first : Addr} {d_are_heads_first : FuncData} (G_are_heads_first : FnOk P w K mg base CX0 1 a_are_heads_first d_are_heads_first ["rows"] (spF K g_are_heads_first)) (M_are_heads_first : mg "are_heads_first" = some (.ref a_are_heads_first)) (k_are_heads_first : PySem.W.keepIn K (.ref a_are_heads_first) = true) (b_are_heads_first : Binds K d_are_heads_first ["rows"] []) {a_are_in_order : Addr} {d_are_in_order : FuncData} (G_are_in_order : FnOk P w K mg base CX0 1 a_are_in_order d_are_in_order ["cells"] (spF K g_are_in_order)) (M_are_in_order : mg "are_in_order" = some (.ref a_are_in_order)) (k_are_in_order : PySem.W.keepIn K (.ref a_are_in_order) = true) (b_are_in_order : Binds K d_are_in_order ["cells"] []) {a_is_inside : Addr} {d_is_inside : FuncData} (G_is_inside : FnOk P w K mg base CX0 1 a_is_inside d_is_inside ["cell", "row_count", "column_count"] (spF K g_is_inside)) (M_is_inside : mg "is_inside" = some (.ref a_is_inside)) (k_is_inside : PySem.W.keepIn K (.ref a_is_inside) = true) (b_is_inside : Binds K d_is_inside ["cell", "row_count", "column_count"] []) {a_is_covered_once : Addr} {d_is_covered_once : FuncData} (G_is_covered_once : FnOk P w K mg base CX0 2 a_is_covered_once d_is_covered_once ["table"] (spF K g_is_covered_once)) (M_is_covered_once : mg "is_covered_once" = some (.ref a_is_covered_once)) (k_is_covered_once : PySem.W.keepIn K (.ref a_is_covered_once) = true) (b_is_covered_once : Binds K d_is_covered_once ["table"] []) {a_head_count : Addr} {d_head_count : FuncData} (G_head_count : FnOk P w K mg base CX0 1 a_head_count d_head_count ["table"] (spF K g_head_count)) (M_head_count : mg "head_count" = some (.ref a_head_count)) (k_head_count : PySem.W.keepIn K (.ref a_head_count) = true) (b_head_count : Binds K d_head_count ["table"] []) {a_are_words : Addr} {d_are_words : FuncData} (G_are_words : FnOk P w K mg base CX0 2 a_are_words d_are_words ["words"] (spF K g_are_words)) (M_are_words : mg "are_words" = some (.ref a_are_words)) (k_are_words : PySem.W.keepIn K (.ref a_are_words) = true) (b_are_words : Binds K d_are_words ["words"] []) {a_covers_both : Addr} {d_covers_both : FuncData} (G_covers_both : FnOk P w K mg base CX0 1 a_covers_both d_covers_both ["cell", "row"] (spF K g_covers_both)) (M_covers_both : mg "covers_both" = some (.ref a_covers_both)) (k_covers_both : PySem.W.keepIn K (.ref a_covers_both) = true) (b_covers_both : Binds K d_covers_both ["cell", "row"] []) (m_len : mg "len" = none) (m_all : mg "all" = none) : FnOk P w K mg base (L2.CX P w) 4 f fd ["table"] (spX K C g_check_table) := by
  refine fn_okX (k := 3) (fB := f_check_table) (np := 1) (nN := 6) F sc_check_table rfl rfl rfl fun cdv A outer s H E hr => ?_
  have nd : N_check_table.Nodup := sc_check_table.nd
  exact ((sx_cons (sx_up (cs_unp (ps_asg (ce_var (i := 0) (pv 0)) (cg_tup (is := [1, 2, 3]) (pg_tup rfl (pgs_cons (pg_name (i := 1) nd rfl (by first | exact Or.inl rfl | exact Or.inr rfl)) (pgs_cons (pg_name (i := 2) nd rfl (by first | exact Or.inl rfl | exact Or.inr rfl)) (pgs_cons (pg_name (i := 3) nd rfl (by first | exact Or.inl rfl | exact Or.inr rfl)) pgs_nil))))))))
    (sx_cons (sx_if (ct_not (ct_tru (ce_call (c := true) (pe_call G_are_columns (hr.mono (by decide)) (by rfl) M_are_columns k_are_columns b_are_columns .nil pass0 (ca_cons (ce_var (i := 1) (pv 1)) ca_nil))) (by intro _; rfl)))
    (sx_one (sx_raise (ps_raiseRf (by rfl) T hr (takes_of rfl rfl rfl rfl) (by exact (pa_cons ce_str pa_nil)))))
    sx_nil)
    (sx_cons (sx_if (ct_not (ct_tru (ce_call (c := true) (pe_call G_are_rows (hr.mono (by decide)) (by rfl) M_are_rows k_are_rows b_are_rows .nil pass0 (ca_cons (ce_var (i := 2) (pv 2)) ca_nil))) (by intro _; rfl)))
    (sx_one (sx_raise (ps_raiseRf (by rfl) T hr (takes_of rfl rfl rfl rfl) (by exact (pa_cons ce_str pa_nil)))))
    sx_nil)
    (sx_cons (sx_if (ct_not (ct_tru (ce_call (c := true) (pe_call G_are_heads_first (hr.mono (by decide)) (by rfl) M_are_heads_first k_are_heads_first b_are_heads_first .nil pass0 (ca_cons (ce_var (i := 2) (pv 2)) ca_nil))) (by intro _; rfl)))
    (sx_one (sx_raise (ps_raiseRf (by rfl) T hr (takes_of rfl rfl rfl rfl) (by exact (pa_cons ce_str pa_nil)))))
    sx_nil)
    (sx_cons (sx_if (ct_not (ct_tru (ce_call (c := true) (pe_call G_are_in_order (hr.mono (by decide)) (by rfl) M_are_in_order k_are_in_order b_are_in_order .nil pass0 (ca_cons (ce_var (i := 3) (pv 3)) ca_nil))) (by intro _; rfl)))
    (sx_one (sx_raise (ps_raiseRf (by rfl) T hr (takes_of rfl rfl rfl rfl) (by exact (pa_cons ce_str pa_nil)))))
    sx_nil)
    (sx_cons (sx_if (ct_not (ct_val (ce_cb (c2 := true) cr_all' (pe_callB (cr_all rfl) (by rfl) m_all (by decide +kernel) (ca_cons (ce_l (c := true) (cf_lc1 (c2 := true) (pe_lc (own := [("cell", 5)]) (by rfl) nd (ci_seq (ce_var (i := 3) (pv 3))) (blkOk_by (own := [("cell", 5)]) (N := N_check_table) (sc := defScope s_check_table) (by decide +kernel)) (fun _ _ _ _ _ => (cg_name (pg_name (i := 5) nd rfl (by first | exact Or.inl rfl | exact Or.inr rfl)))) (fun _ _ _ _ _ => pts_nil) (fun _ _ _ _ _ => (ce_call (c := true) (pe_call G_is_inside (hr.mono (by decide)) (by rfl) M_is_inside k_is_inside b_is_inside .nil pass0 (ca_cons (ce_var (i := 5) (pv 5)) (ca_cons (ce_cb (c2 := true) cr_len (pe_callB call_len (by rfl) m_len boot_len (ca_cons (ce_var (i := 2) (pv 2)) ca_nil))) (ca_cons (ce_cb (c2 := true) cr_len (pe_callB call_len (by rfl) m_len boot_len (ca_cons (ce_var (i := 1) (pv 1)) ca_nil))) ca_nil))))))))) ca_nil)))))
    (sx_one (sx_raise (ps_raiseRf (by rfl) T hr (takes_of rfl rfl rfl rfl) (by exact (pa_cons ce_str pa_nil)))))
    sx_nil)
    (sx_cons (sx_if (ct_not (ct_tru (ce_call (c := true) (pe_call G_is_covered_once (hr.mono (by decide)) (by rfl) M_is_covered_once k_is_covered_once b_is_covered_once .nil pass0 (ca_cons (ce_var (i := 0) (pv 0)) ca_nil))) (by intro _; rfl)))
    (sx_one (sx_raise (ps_raiseRf (by rfl) T hr (takes_of rfl rfl rfl rfl) (by exact (pa_cons ce_str pa_nil)))))
    sx_nil)
    (sx_cons (sx_up (cs_set (ps_set (i := 4) nd rfl (by first | exact Or.inl rfl | exact Or.inr rfl) (ce_call (c := true) (pe_call G_head_count (hr.mono (by decide)) (by rfl) M_head_count k_head_count b_head_count .nil pass0 (ca_cons (ce_var (i := 0) (pv 0)) ca_nil))))))
    (sx_one (sx_for (passes_of rfl) (by rfl) (ci_seq (ce_var (i := 3) (pv 3))) (cg_name (pg_name (i := 5) nd rfl (by first | exact Or.inl rfl | exact Or.inr rfl)))
    (sx_cons (sx_if (ct_not (ct_tru (ce_call (c := true) (pe_call G_are_words (hr.mono (by decide)) (by rfl) M_are_words k_are_words b_are_words .nil pass0 (ca_cons (ce_ix (ce_var (i := 5) (pv 5)) ce_int (fun _ _ => rfl)) ca_nil))) (by intro _; rfl)))
    (sx_one (sx_raise (ps_raiseRf (by rfl) T hr (takes_of rfl rfl rfl rfl) (by exact (pa_cons ce_str pa_nil)))))
    sx_nil)
    (sx_one (sx_if (ct_tru (ce_call (c := true) (pe_call G_covers_both (hr.mono (by decide)) (by rfl) M_covers_both k_covers_both b_covers_both .nil pass0 (ca_cons (ce_var (i := 5) (pv 5)) (ca_cons (ce_var (i := 4) (pv 4)) ca_nil)))) (by intro _; rfl))
    (sx_one (sx_raise (ps_raiseRf (by rfl) T hr (takes_of rfl rfl rfl rfl) (by exact (pa_cons ce_str pa_nil)))))
    sx_nil))))))))))))))
theorem ok_cell_at {f : Addr} {fd : FuncData} (F : Fun K "cell_at" "cell_at" s_cell_at f fd) {a_covers : Addr} {d_covers : FuncData} (G_covers : FnOk P w K mg base CX0 1 a_covers d_covers ["cell", "row", "column"] (spF K g_covers)) (M_covers : mg "covers" = some (.ref a_covers)) (k_covers : PySem.W.keepIn K (.ref a_covers) = true) (b_covers : Binds K d_covers ["cell", "row", "column"] []) (m_enumerate : mg "enumerate" = none) : FnOk P w K mg base CX0 2 f fd ["table", "row", "column"] (spF K g_cell_at) := by
  refine fn_ok (k := 1) (fB := f_cell_at) (np := 3) (nN := 5) F sc_cell_at rfl rfl rfl fun cdv A outer s H E hr => ?_
  have nd : N_cell_at.Nodup := sc_cell_at.nd
  exact ((cs_cons (cs_for PassesOwn.never (by rfl) (ci_enum (pi_enumA (by rfl) m_enumerate (ca_cons (ce_ix (ce_var (i := 0) (pv 0)) ce_int (fun _ _ => rfl)) ca_nil))) (cg_tup (is := [3, 4]) (pg_tup rfl (pgs_cons (pg_name (i := 3) nd rfl (by first | exact Or.inl rfl | exact Or.inr rfl)) (pgs_cons (pg_name (i := 4) nd rfl (by first | exact Or.inl rfl | exact Or.inr rfl)) pgs_nil))))
    (cs_one (cs_if (ct_tru (ce_call (c := true) (pe_call G_covers (hr.mono (by decide)) (by rfl) M_covers k_covers b_covers .nil pass0 (ca_cons (ce_var (i := 4) (pv 4)) (ca_cons (ce_var (i := 1) (pv 1)) (ca_cons (ce_var (i := 2) (pv 2)) ca_nil))))) (by intro _; rfl))
    (cs_one (cs_ret (ce_var (i := 3) (pv 3))))
    cs_nil)))
    (cs_one (cs_ret ce_non))))
theorem ok_breakable_rows {f : Addr} {fd : FuncData} (F : Fun K "breakable_rows" "breakable_rows" s_breakable_rows f fd) {a_head_count : Addr} {d_head_count : FuncData} (G_head_count : FnOk P w K mg base CX0 1 a_head_count d_head_count ["table"] (spF K g_head_count)) (M_head_count : mg "head_count" = some (.ref a_head_count)) (k_head_count : PySem.W.keepIn K (.ref a_head_count) = true) (b_head_count : Binds K d_head_count ["table"] []) {a_covers_both : Addr} {d_covers_both : FuncData} (G_covers_both : FnOk P w K mg base CX0 1 a_covers_both d_covers_both ["cell", "row"] (spF K g_covers_both)) (M_covers_both : mg "covers_both" = some (.ref a_covers_both)) (k_covers_both : PySem.W.keepIn K (.ref a_covers_both) = true) (b_covers_both : Binds K d_covers_both ["cell", "row"] []) (m_len : mg "len" = none) (m_range : mg "range" = none) (m_any : mg "any" = none) : FnOk P w K mg base CX0 2 f fd ["table"] (spF K g_breakable_rows) := by
  refine fn_ok (k := 1) (fB := f_breakable_rows) (np := 1) (nN := 7) F sc_breakable_rows rfl rfl rfl fun cdv A outer s H E hr => ?_
  have nd : N_breakable_rows.Nodup := sc_breakable_rows.nd
  exact ((cs_cons (cs_unp (ps_asg (ce_sl (ce_var (i := 0) (pv 0)) (co_some ce_int) co_none) (cg_tup (is := [1, 2]) (pg_tup rfl (pgs_cons (pg_name (i := 1) nd rfl (by first | exact Or.inl rfl | exact Or.inr rfl)) (pgs_cons (pg_name (i := 2) nd rfl (by first | exact Or.inl rfl | exact Or.inr rfl)) pgs_nil))))))
    (cs_cons (cs_own (ps_set (i := 3) nd rfl (by first | exact Or.inl rfl | exact Or.inr rfl) (cf_lst (c := true) ca_nil)))
    (cs_cons (cs_for PassesOwn.never (by rfl) (ci_r2 (pi_range2 (by rfl) m_range (ca_cons (ce_add (ce_call (c := true) (pe_call G_head_count (hr.mono (by decide)) (by rfl) M_head_count k_head_count b_head_count .nil pass0 (ca_cons (ce_var (i := 0) (pv 0)) ca_nil))) ce_int) (ca_cons (ce_cb (c2 := true) cr_len (pe_callB call_len (by rfl) m_len boot_len (ca_cons (ce_var (i := 1) (pv 1)) ca_nil))) ca_nil)))) (cg_name (pg_name (i := 4) nd rfl (by first | exact Or.inl rfl | exact Or.inr rfl)))
    (cs_cons (cs_set (ps_set (i := 5) nd rfl (by first | exact Or.inl rfl | exact Or.inr rfl) (ce_ix (ce_ix (ce_var (i := 1) (pv 1)) (ce_sub (ce_var (i := 4) (pv 4)) ce_int) (fun _ _ => rfl)) ce_int (fun _ _ => rfl))))
    (cs_one (cs_if (PW.pt (cw_and (ct_not (ct_tru (ce_var (i := 5) (pv 5)) (by intro _; rfl))) (cw_and1 (ct_not (ct_val (ce_cb (c2 := true) cr_any' (pe_callB (cr_any rfl) (by rfl) m_any (by decide +kernel) (ca_cons (ce_l (c := true) (cf_lc1 (c2 := true) (pe_lc (own := [("cell", 6)]) (by rfl) nd (ci_seq (ce_var (i := 2) (pv 2))) (blkOk_by (own := [("cell", 6)]) (N := N_breakable_rows) (sc := defScope s_breakable_rows) (by decide +kernel)) (fun _ _ _ _ _ => (cg_name (pg_name (i := 6) nd rfl (by first | exact Or.inl rfl | exact Or.inr rfl)))) (fun _ _ _ _ _ => pts_nil) (fun _ _ _ _ _ => (ce_call (c := true) (pe_call G_covers_both (hr.mono (by decide)) (by rfl) M_covers_both k_covers_both b_covers_both .nil pass0 (ca_cons (ce_var (i := 6) (pv 6)) (ca_cons (ce_var (i := 4) (pv 4)) ca_nil)))))))) ca_nil))))))))
    (cs_one (cs_app (ps_expr (pe_bm PySem.F.plainAttrs_list PySem.F.slot_list_append PySem.F.type_list_append mt_append (pv 3) (pa_cons (ce_var (i := 4) (pv 4)) pa_nil)))))
    cs_nil))))
    (cs_one (cs_frz (i := 3) (cs_ret (ce_var (i := 3) (pv 3)))))))))
theorem ok_Lcell {f : Addr} {fd : FuncData} (F : Fun K "_law_cell" "_law_cell" s_Lcell f fd) (m_len : mg "len" = none) : FnOk P w K mg base CX0 1 f fd ["script", "k"] (spF K g_Lcell) := by
  refine fn_ok (k := 0) (fB := f_Lcell) (np := 2) (nN := 2) F sc_Lcell rfl rfl rfl fun cdv A outer s H E hr => ?_
  have nd : N_Lcell.Nodup := sc_Lcell.nd
  exact ((cs_cons (cs_if (ct_cmp op_lt r2_B0 (ce_var (i := 1) (pv 1)) (ce_cb (c2 := true) cr_len (pe_callB call_len (by rfl) m_len boot_len (ca_cons (ce_var (i := 0) (pv 0)) ca_nil))) (nomark _))
    (cs_one (cs_ret (ce_ix (ce_var (i := 0) (pv 0)) (ce_var (i := 1) (pv 1)) (fun _ _ => rfl))))
    cs_nil)
    (cs_one (cs_ret ce_int))))
theorem ok_Ldraws {f : Addr} {fd : FuncData} (F : Fun K "_law_draws" "_law_draws" s_Ldraws f fd) (m_range : mg "range" = none) : FnOk P w K mg base CX0 1 f fd ["cell", "count"] (spF K g_Ldraws) := by
  refine fn_ok (k := 0) (fB := f_Ldraws) (np := 2) (nN := 6) F sc_Ldraws rfl rfl rfl fun cdv A outer s H E hr => ?_
  have nd : N_Ldraws.Nodup := sc_Ldraws.nd
  exact ((cs_cons (cs_own (ps_set (i := 2) nd rfl (by first | exact Or.inl rfl | exact Or.inr rfl) (cf_lst (c := true) ca_nil)))
    (cs_cons (cs_set (ps_set (i := 3) nd rfl (by first | exact Or.inl rfl | exact Or.inr rfl) (ce_cmp op_ge r2_B0 (ce_var (i := 0) (pv 0)) (ce_pow ce_int ce_int) (nomark _))))
    (cs_cons (cs_for PassesOwn.never (by rfl) (ci_r1 (pi_range1 (by rfl) m_range (ca_cons (ce_var (i := 1) (pv 1)) ca_nil))) (cg_name (pg_name (i := 4) nd rfl (by first | exact Or.inl rfl | exact Or.inr rfl)))
    (cs_one (cs_if (ct_tru (ce_var (i := 3) (pv 3)) (by intro _; rfl))
    (cs_cons (cs_app (ps_expr (pe_bm PySem.F.plainAttrs_list PySem.F.slot_list_append PySem.F.type_list_append mt_append (pv 2) (pa_cons (ce_mod (ce_var (i := 0) (pv 0)) ce_int) pa_nil))))
    (cs_one (cs_set (ps_set (i := 0) nd rfl (by first | exact Or.inl rfl | exact Or.inr rfl) (ce_div (ce_var (i := 0) (pv 0)) ce_int)))))
    (cs_cons (cs_set (ps_set (i := 5) nd rfl (by first | exact Or.inl rfl | exact Or.inr rfl) (ce_mod (ce_add (ce_mul (ce_var (i := 0) (pv 0)) ce_int) (ce_mul (ce_var (i := 4) (pv 4)) ce_int)) ce_int)))
    (cs_one (cs_app (ps_expr (pe_bm PySem.F.plainAttrs_list PySem.F.slot_list_append PySem.F.type_list_append mt_append (pv 2) (pa_cons (ce_mod (ce_add (ce_add (ce_mul (ce_var (i := 5) (pv 5)) (ce_var (i := 5) (pv 5))) (ce_mul (ce_var (i := 0) (pv 0)) ce_int)) (ce_var (i := 4) (pv 4))) ce_int) pa_nil)))))))))
    (cs_one (cs_frz (i := 2) (cs_ret (ce_var (i := 2) (pv 2)))))))))
theorem ok_Lwords {f : Addr} {fd : FuncData} (F : Fun K "_law_words" "_law_words" s_Lwords f fd) (m_range : mg "range" = none) (m_tuple : mg "tuple" = none) : FnOk P w K mg base CX0 1 f fd ["number"] (spF K g_Lwords) := by
  refine fn_ok (k := 0) (fB := f_Lwords) (np := 1) (nN := 2) F sc_Lwords rfl rfl rfl fun cdv A outer s H E hr => ?_
  have nd : N_Lwords.Nodup := sc_Lwords.nd
  exact ((cs_one (cs_ret (ce_cb (c2 := true) cr_tup (pe_callTy call_tuple_of (by rfl) m_tuple (by decide +kernel) (ca_cons (ce_l (c := true) (cf_lc1 (c2 := true) (pe_lc (own := [("k", 1)]) (by rfl) nd (ci_r1 (pi_range1 (by rfl) m_range (ca_cons (ce_mod (ce_var (i := 0) (pv 0)) ce_int) ca_nil))) (blkOk_by (own := [("k", 1)]) (N := N_Lwords) (sc := defScope s_Lwords) (by decide +kernel)) (fun _ _ _ _ _ => (cg_name (pg_name (i := 1) nd rfl (by first | exact Or.inl rfl | exact Or.inr rfl)))) (fun _ _ _ _ _ => pts_nil) (fun _ _ _ _ _ => (ce_ix (ce_l (c := true) (cf_lst (c := true) (ca_cons ce_str (ca_cons ce_str (ca_cons ce_str (ca_cons ce_str ca_nil)))))) (ce_mod (ce_div (ce_var (i := 0) (pv 0)) (ce_mul ce_int (ce_add (ce_var (i := 1) (pv 1)) ce_int))) ce_int) (fun _ _ => rfl)))))) ca_nil))))))
theorem ok_Lspan {f : Addr} {fd : FuncData} (F : Fun K "_law_span" "_law_span" s_Lspan f fd)  : FnOk P w K mg base CX0 1 f fd ["covered", "row", "column", "extent", "number"] (spF K g_Lspan) := by
  refine fn_ok (k := 0) (fB := f_Lspan) (np := 5) (nN := 10) F sc_Lspan rfl rfl rfl fun cdv A outer s H E hr => ?_
  have nd : N_Lspan.Nodup := sc_Lspan.nd
  exact ((cs_cons (cs_unp (ps_asg (ce_var (i := 3) (pv 3)) (cg_tup (is := [5, 6, 7]) (pg_tup rfl (pgs_cons (pg_name (i := 5) nd rfl (by first | exact Or.inl rfl | exact Or.inr rfl)) (pgs_cons (pg_name (i := 6) nd rfl (by first | exact Or.inl rfl | exact Or.inr rfl)) (pgs_cons (pg_name (i := 7) nd rfl (by first | exact Or.inl rfl | exact Or.inr rfl)) pgs_nil)))))))
    (cs_cons (cs_set (ps_set (i := 8) nd rfl (by first | exact Or.inl rfl | exact Or.inr rfl) (ce_add ce_int (ce_mod (ce_var (i := 4) (pv 4)) ce_int))))
    (cs_cons (cs_set (ps_set (i := 9) nd rfl (by first | exact Or.inl rfl | exact Or.inr rfl) (ce_add ce_int (ce_mod (ce_div (ce_var (i := 4) (pv 4)) ce_int) ce_int))))
    (cs_cons (cs_if (ct_cmp op_gt r2_B0 (ce_add (ce_var (i := 1) (pv 1)) (ce_var (i := 8) (pv 8))) (ce_if (ct_cmp op_lt r2_B0 (ce_var (i := 1) (pv 1)) (ce_var (i := 7) (pv 7)) (nomark _)) (ce_var (i := 7) (pv 7)) (ce_var (i := 5) (pv 5))) (nomark _))
    (cs_one (cs_set (ps_set (i := 8) nd rfl (by first | exact Or.inl rfl | exact Or.inr rfl) ce_int)))
    cs_nil)
    (cs_cons (cs_if (PW.pt (cw_or (ct_cmp op_gt r2_B0 (ce_add (ce_var (i := 2) (pv 2)) (ce_var (i := 9) (pv 9))) (ce_var (i := 6) (pv 6)) (nomark _)) (cw_or1 (ct_cmp (op_inT (hu65 hr)) r2_inT (ce_tup (ca_cons (ce_var (i := 1) (pv 1)) (ca_cons (ce_sub (ce_add (ce_var (i := 2) (pv 2)) (ce_var (i := 9) (pv 9))) ce_int) ca_nil))) (ce_var (i := 0) (pv 0)) (by rfl)))))
    (cs_one (cs_set (ps_set (i := 9) nd rfl (by first | exact Or.inl rfl | exact Or.inr rfl) ce_int)))
    cs_nil)
    (cs_one (cs_ret (ce_tup (ca_cons (ce_var (i := 8) (pv 8)) (ca_cons (ce_var (i := 9) (pv 9)) ca_nil)))))))))))
theorem ok_Lcells {f : Addr} {fd : FuncData} (F : Fun K "_law_cells" "_law_cells" s_Lcells f fd) {a_Lspan : Addr} {d_Lspan : FuncData} (G_Lspan : FnOk P w K mg base CX0 1 a_Lspan d_Lspan ["covered", "row", "column", "extent", "number"] (spF K g_Lspan)) (M_Lspan : mg "_law_span" = some (.ref a_Lspan)) (k_Lspan : PySem.W.keepIn K (.ref a_Lspan) = true) (b_Lspan : Binds K d_Lspan ["covered", "row", "column", "extent", "number"] []) {a_Lwords : Addr} {d_Lwords : FuncData} (G_Lwords : FnOk P w K mg base CX0 1 a_Lwords d_Lwords ["number"] (spF K g_Lwords)) (M_Lwords : mg "_law_words" = some (.ref a_Lwords)) (k_Lwords : PySem.W.keepIn K (.ref a_Lwords) = true) (b_Lwords : Binds K d_Lwords ["number"] []) (m_range : mg "range" = none) (m_tuple : mg "tuple" = none) : FnOk P w K mg base CX0 2 f fd ["extent", "draws"] (spF K g_Lcells) := by
  refine fn_ok (k := 1) (fB := f_Lcells) (np := 2) (nN := 10) F sc_Lcells rfl rfl rfl fun cdv A outer s H E hr => ?_
  have nd : N_Lcells.Nodup := sc_Lcells.nd
  exact ((cs_cons (cs_own (ps_set (i := 2) nd rfl (by first | exact Or.inl rfl | exact Or.inr rfl) (cf_lst (c := true) ca_nil)))
    (cs_cons (cs_own (ps_set (i := 3) nd rfl (by first | exact Or.inl rfl | exact Or.inr rfl) (cf_lst (c := true) ca_nil)))
    (cs_cons (cs_for PassesOwn.never (by rfl) (ci_r1 (pi_range1 (by rfl) m_range (ca_cons (ce_ix (ce_var (i := 0) (pv 0)) ce_int (fun _ _ => rfl)) ca_nil))) (cg_name (pg_name (i := 4) nd rfl (by first | exact Or.inl rfl | exact Or.inr rfl)))
    (cs_one (cs_for PassesOwn.never (by rfl) (ci_r1 (pi_range1 (by rfl) m_range (ca_cons (ce_ix (ce_var (i := 0) (pv 0)) ce_int (fun _ _ => rfl)) ca_nil))) (cg_name (pg_name (i := 5) nd rfl (by first | exact Or.inl rfl | exact Or.inr rfl)))
    (cs_one (cs_if (ct_cmp (op_notInT (hu65 hr)) r2_notInT (ce_b (ce_tup (ca_cons (ce_var (i := 4) (pv 4)) (ca_cons (ce_var (i := 5) (pv 5)) ca_nil)))) (ce_bor (i := 2) (pv 2)) (by rfl))
    (cs_cons (cs_set (ps_set (i := 6) nd rfl (by first | exact Or.inl rfl | exact Or.inr rfl) (ce_add (ce_mul ce_int (ce_var (i := 4) (pv 4))) (ce_var (i := 5) (pv 5)))))
    (cs_cons (cs_unp (ps_asg (ce_callB (c := true) (pe_call G_Lspan (hr.mono (by decide)) (by rfl) M_Lspan k_Lspan b_Lspan .nil pass0 (ca_cons (ce_bor (i := 2) (pv 2)) (ca_cons (ce_b (ce_var (i := 4) (pv 4))) (ca_cons (ce_b (ce_var (i := 5) (pv 5))) (ca_cons (ce_b (ce_var (i := 0) (pv 0))) (ca_cons (ce_b (ce_div (ce_ix (ce_var (i := 1) (pv 1)) (ce_mod (ce_add (ce_mul (ce_var (i := 6) (pv 6)) ce_int) ce_int) ce_int) (fun _ _ => rfl)) ce_int)) ca_nil))))))) (cg_tup (is := [7, 8]) (pg_tup rfl (pgs_cons (pg_name (i := 7) nd rfl (by first | exact Or.inl rfl | exact Or.inr rfl)) (pgs_cons (pg_name (i := 8) nd rfl (by first | exact Or.inl rfl | exact Or.inr rfl)) pgs_nil))))))
    (cs_cons (cs_for PassesOwn.never (by rfl) (ci_r1 (pi_range1 (by rfl) m_range (ca_cons (ce_mul (ce_var (i := 7) (pv 7)) (ce_var (i := 8) (pv 8))) ca_nil))) (cg_name (pg_name (i := 9) nd rfl (by first | exact Or.inl rfl | exact Or.inr rfl)))
    (cs_one (cs_app (ps_expr (pe_bm PySem.F.plainAttrs_list PySem.F.slot_list_append PySem.F.type_list_append mt_append (pv 2) (pa_cons (ce_tup (ca_cons (ce_add (ce_var (i := 4) (pv 4)) (ce_div (ce_var (i := 9) (pv 9)) (ce_var (i := 8) (pv 8)))) (ca_cons (ce_add (ce_var (i := 5) (pv 5)) (ce_mod (ce_var (i := 9) (pv 9)) (ce_var (i := 8) (pv 8)))) ca_nil))) pa_nil))))))
    (cs_one (cs_app (ps_expr (pe_bm PySem.F.plainAttrs_list PySem.F.slot_list_append PySem.F.type_list_append mt_append (pv 3) (pa_cons (ce_tup (ca_cons (ce_var (i := 4) (pv 4)) (ca_cons (ce_var (i := 5) (pv 5)) (ca_cons (ce_var (i := 7) (pv 7)) (ca_cons (ce_var (i := 8) (pv 8)) (ca_cons (ce_call (c := true) (pe_call G_Lwords (hr.mono (by decide)) (by rfl) M_Lwords k_Lwords b_Lwords .nil pass0 (ca_cons (ce_ix (ce_var (i := 1) (pv 1)) (ce_mod (ce_add (ce_mul (ce_var (i := 6) (pv 6)) ce_int) ce_int) ce_int) (fun _ _ => rfl)) ca_nil))) ca_nil)))))) pa_nil))))))))
    cs_nil)))))
    (cs_one (cs_ret (ce_tupO (i := 3) (pe_callTy call_tuple_of (by rfl) m_tuple (by decide +kernel) (pa_cons (pv 3) pa_nil)))))))))
theorem ok_Ltable {f : Addr} {fd : FuncData} (F : Fun K "_law_table" "_law_table" s_Ltable f fd) {a_Ldraws : Addr} {d_Ldraws : FuncData} (G_Ldraws : FnOk P w K mg base CX0 1 a_Ldraws d_Ldraws ["cell", "count"] (spF K g_Ldraws)) (M_Ldraws : mg "_law_draws" = some (.ref a_Ldraws)) (k_Ldraws : PySem.W.keepIn K (.ref a_Ldraws) = true) (b_Ldraws : Binds K d_Ldraws ["cell", "count"] []) {a_Lcell : Addr} {d_Lcell : FuncData} (G_Lcell : FnOk P w K mg base CX0 1 a_Lcell d_Lcell ["script", "k"] (spF K g_Lcell)) (M_Lcell : mg "_law_cell" = some (.ref a_Lcell)) (k_Lcell : PySem.W.keepIn K (.ref a_Lcell) = true) (b_Lcell : Binds K d_Lcell ["script", "k"] []) {a_Lcells : Addr} {d_Lcells : FuncData} (G_Lcells : FnOk P w K mg base CX0 2 a_Lcells d_Lcells ["extent", "draws"] (spF K g_Lcells)) (M_Lcells : mg "_law_cells" = some (.ref a_Lcells)) (k_Lcells : PySem.W.keepIn K (.ref a_Lcells) = true) (b_Lcells : Binds K d_Lcells ["extent", "draws"] []) (m_range : mg "range" = none) (m_tuple : mg "tuple" = none) : FnOk P w K mg base CX0 3 f fd ["script", "at", "most_columns", "most_rows"] (spF K g_Ltable) := by
  refine fn_ok (k := 2) (fB := f_Ltable) (np := 4) (nN := 12) F sc_Ltable rfl rfl rfl fun cdv A outer s H E hr => ?_
  have nd : N_Ltable.Nodup := sc_Ltable.nd
  exact ((cs_cons (cs_set (ps_set (i := 4) nd rfl (by first | exact Or.inl rfl | exact Or.inr rfl) (ce_call (c := true) (pe_call G_Ldraws (hr.mono (by decide)) (by rfl) M_Ldraws k_Ldraws b_Ldraws .nil pass0 (ca_cons (ce_call (c := true) (pe_call G_Lcell (hr.mono (by decide)) (by rfl) M_Lcell k_Lcell b_Lcell .nil pass0 (ca_cons (ce_var (i := 0) (pv 0)) (ca_cons (ce_var (i := 1) (pv 1)) ca_nil)))) (ca_cons ce_int ca_nil))))))
    (cs_cons (cs_set (ps_set (i := 5) nd rfl (by first | exact Or.inl rfl | exact Or.inr rfl) (ce_tup (ca_cons (ce_add ce_int (ce_mod (ce_ix (ce_var (i := 4) (pv 4)) ce_int (fun _ _ => rfl)) (ce_var (i := 3) (pv 3)))) (ca_cons (ce_add ce_int (ce_mod (ce_ix (ce_var (i := 4) (pv 4)) ce_int (fun _ _ => rfl)) (ce_var (i := 2) (pv 2)))) (ca_cons (ce_if (ct_cmp (op_eqD hr.units) r2_eq (ce_mod (ce_ix (ce_var (i := 4) (pv 4)) ce_int (fun _ _ => rfl)) ce_int) ce_int (nomark _)) (ce_mod (ce_ix (ce_var (i := 4) (pv 4)) ce_int (fun _ _ => rfl)) ce_int) ce_int) ca_nil))))))
    (cs_cons (cs_own (ps_set (i := 6) nd rfl (by first | exact Or.inl rfl | exact Or.inr rfl) (cf_lst (c := true) ca_nil)))
    (cs_cons (cs_for PassesOwn.never (by rfl) (ci_r1 (pi_range1 (by rfl) m_range (ca_cons (ce_ix (ce_var (i := 5) (pv 5)) ce_int (fun _ _ => rfl)) ca_nil))) (cg_name (pg_name (i := 7) nd rfl (by first | exact Or.inl rfl | exact Or.inr rfl)))
    (cs_cons (cs_set (ps_set (i := 8) nd rfl (by first | exact Or.inl rfl | exact Or.inr rfl) (ce_add ce_int (ce_mod (ce_ix (ce_var (i := 4) (pv 4)) (ce_add ce_int (ce_var (i := 7) (pv 7))) (fun _ _ => rfl)) ce_int))))
    (cs_cons (cs_set (ps_set (i := 9) nd rfl (by first | exact Or.inl rfl | exact Or.inr rfl) (ce_ix (ce_l (c := true) (cf_lst (c := true) (ca_cons ce_non (ca_cons ce_non (ca_cons (ce_add (ce_var (i := 8) (pv 8)) (ce_mod (ce_ix (ce_var (i := 4) (pv 4)) (ce_add ce_int (ce_var (i := 7) (pv 7))) (fun _ _ => rfl)) ce_int)) ca_nil))))) (ce_mod (ce_ix (ce_var (i := 4) (pv 4)) (ce_add ce_int (ce_var (i := 7) (pv 7))) (fun _ _ => rfl)) ce_int) (fun _ _ => rfl))))
    (cs_cons (cs_set (ps_set (i := 10) nd rfl (by first | exact Or.inl rfl | exact Or.inr rfl) (ce_ix (ce_l (c := true) (cf_lst (c := true) (ca_cons ce_non (ca_cons ce_non (ca_cons ce_non (ca_cons ce_int (ca_cons ce_int (ca_cons ce_int ca_nil)))))))) (ce_mod (ce_ix (ce_var (i := 4) (pv 4)) (ce_add ce_int (ce_var (i := 7) (pv 7))) (fun _ _ => rfl)) ce_int) (fun _ _ => rfl))))
    (cs_one (cs_app (ps_expr (pe_bm PySem.F.plainAttrs_list PySem.F.slot_list_append PySem.F.type_list_append mt_append (pv 6) (pa_cons (ce_tup (ca_cons (ce_var (i := 8) (pv 8)) (ca_cons (ce_var (i := 9) (pv 9)) (ca_cons (ce_var (i := 10) (pv 10)) (ca_cons (ce_ix (ce_l (c := true) (cf_lst (c := true) (ca_cons ce_str (ca_cons ce_str (ca_cons ce_str ca_nil))))) (ce_mod (ce_ix (ce_var (i := 4) (pv 4)) (ce_add ce_int (ce_var (i := 7) (pv 7))) (fun _ _ => rfl)) ce_int) (fun _ _ => rfl)) ca_nil))))) pa_nil)))))))))
    (cs_cons (cs_lcV1 (ps_setLc (i := 11) (own := [("k", 7)]) rfl nd rfl rfl (sw_true rfl rfl rfl (by decide +kernel)) (ci_r1 (pi_range1 (by rfl) m_range (ca_cons (ce_ix (ce_var (i := 5) (pv 5)) ce_int (fun _ _ => rfl)) ca_nil))) (blkOk_by (own := [("k", 7)]) (N := N_Ltable) (sc := defScope s_Ltable) (by decide +kernel)) (fun _ _ _ _ _ => (cg_name (pg_name (i := 7) nd rfl (by first | exact Or.inl rfl | exact Or.inr rfl)))) (fun _ _ _ _ _ => pts_nil) (fun _ _ _ _ _ => (ce_tup (ca_cons (ce_add ce_int (ce_mod (ce_ix (ce_var (i := 4) (pv 4)) (ce_add ce_int (ce_var (i := 7) (pv 7))) (fun _ _ => rfl)) ce_int)) (ca_cons (ce_cmp op_lt r2_B0 (ce_var (i := 7) (pv 7)) (ce_ix (ce_var (i := 5) (pv 5)) ce_int (fun _ _ => rfl)) (nomark _)) (ca_cons (ce_cmp (op_eqD hr.units) r2_eq (ce_mod (ce_ix (ce_var (i := 4) (pv 4)) (ce_add ce_int (ce_var (i := 7) (pv 7))) (fun _ _ => rfl)) ce_int) ce_int (nomark _)) ca_nil)))))))
    (cs_one (cs_ret (ce_tup (ca_cons (ce_tupO (i := 6) (pe_callTy call_tuple_of (by rfl) m_tuple (by decide +kernel) (pa_cons (pv 6) pa_nil))) (ca_cons (ce_cb (c2 := true) cr_tup (pe_callTy call_tuple_of (by rfl) m_tuple (by decide +kernel) (ca_cons (ce_var (i := 11) (pv 11)) ca_nil))) (ca_cons (ce_call (c := true) (pe_call G_Lcells (hr.mono (by decide)) (by rfl) M_Lcells k_Lcells b_Lcells .nil pass0 (ca_cons (ce_var (i := 5) (pv 5)) (ca_cons (ce_var (i := 4) (pv 4)) ca_nil)))) ca_nil))))))))))))
theorem ok_Lchanged {f : Addr} {fd : FuncData} (F : Fun K "_law_changed" "_law_changed" s_Lchanged f fd) (m_len : mg "len" = none) (m_range : mg "range" = none) (m_tuple : mg "tuple" = none) : FnOk P w K mg base CX0 1 f fd ["things", "at", "thing"] (spF K g_Lchanged) := by
  refine fn_ok (k := 0) (fB := f_Lchanged) (np := 3) (nN := 4) F sc_Lchanged rfl rfl rfl fun cdv A outer s H E hr => ?_
  have nd : N_Lchanged.Nodup := sc_Lchanged.nd
  exact ((cs_one (cs_ret (ce_cb (c2 := true) cr_tup (pe_callTy call_tuple_of (by rfl) m_tuple (by decide +kernel) (ca_cons (ce_l (c := true) (cf_lc1 (c2 := true) (pe_lc (own := [("k", 3)]) (by rfl) nd (ci_r1 (pi_range1 (by rfl) m_range (ca_cons (ce_cb (c2 := true) cr_len (pe_callB call_len (by rfl) m_len boot_len (ca_cons (ce_var (i := 0) (pv 0)) ca_nil))) ca_nil))) (blkOk_by (own := [("k", 3)]) (N := N_Lchanged) (sc := defScope s_Lchanged) (by decide +kernel)) (fun _ _ _ _ _ => (cg_name (pg_name (i := 3) nd rfl (by first | exact Or.inl rfl | exact Or.inr rfl)))) (fun _ _ _ _ _ => pts_nil) (fun _ _ _ _ _ => (ce_if (ct_cmp (op_eqD hr.units) r2_eq (ce_var (i := 3) (pv 3)) (ce_var (i := 1) (pv 1)) (nomark _)) (ce_var (i := 2) (pv 2)) (ce_ix (ce_var (i := 0) (pv 0)) (ce_var (i := 3) (pv 3)) (fun _ _ => rfl))))))) ca_nil))))))
theorem ok_Lspoilt {f : Addr} {fd : FuncData} (F : Fun K "_law_spoilt" "_law_spoilt" s_Lspoilt f fd) {a_Lchanged : Addr} {d_Lchanged : FuncData} (G_Lchanged : FnOk P w K mg base CX0 1 a_Lchanged d_Lchanged ["things", "at", "thing"] (spF K g_Lchanged)) (M_Lchanged : mg "_law_changed" = some (.ref a_Lchanged)) (k_Lchanged : PySem.W.keepIn K (.ref a_Lchanged) = true) (b_Lchanged : Binds K d_Lchanged ["things", "at", "thing"] []) (m_len : mg "len" = none) : FnOk P w K mg base CX0 2 f fd ["table", "draws"] (spF K g_Lspoilt) := by
  refine fn_ok (k := 1) (fB := f_Lspoilt) (np := 2) (nN := 11) F sc_Lspoilt rfl rfl rfl fun cdv A outer s H E hr => ?_
  have nd : N_Lspoilt.Nodup := sc_Lspoilt.nd
  exact ((cs_cons (cs_unp (ps_asg (ce_var (i := 0) (pv 0)) (cg_tup (is := [2, 3, 4]) (pg_tup rfl (pgs_cons (pg_name (i := 2) nd rfl (by first | exact Or.inl rfl | exact Or.inr rfl)) (pgs_cons (pg_name (i := 3) nd rfl (by first | exact Or.inl rfl | exact Or.inr rfl)) (pgs_cons (pg_name (i := 4) nd rfl (by first | exact Or.inl rfl | exact Or.inr rfl)) pgs_nil)))))))
    (cs_cons (cs_set (ps_set (i := 5) nd rfl (by first | exact Or.inl rfl | exact Or.inr rfl) (ce_mod (ce_ix (ce_var (i := 1) (pv 1)) ce_int (fun _ _ => rfl)) ce_int)))
    (cs_cons (cs_set (ps_set (i := 6) nd rfl (by first | exact Or.inl rfl | exact Or.inr rfl) (ce_mod (ce_ix (ce_var (i := 1) (pv 1)) ce_int (fun _ _ => rfl)) (ce_cb (c2 := true) cr_len (pe_callB call_len (by rfl) m_len boot_len (ca_cons (ce_var (i := 4) (pv 4)) ca_nil))))))
    (cs_cons (cs_set (ps_set (i := 7) nd rfl (by first | exact Or.inl rfl | exact Or.inr rfl) (ce_ix (ce_var (i := 4) (pv 4)) (ce_var (i := 6) (pv 6)) (fun _ _ => rfl))))
    (cs_cons (cs_if (ct_cmp (op_eqD hr.units) r2_eq (ce_var (i := 5) (pv 5)) ce_int (nomark _))
    (cs_cons (cs_set (ps_set (i := 8) nd rfl (by first | exact Or.inl rfl | exact Or.inr rfl) (ce_l (c := true) (cf_lst (c := true) (ca_cons (ce_tup (ca_cons ce_int (ca_cons ce_non (ca_cons ce_non (ca_cons ce_str ca_nil))))) (ca_cons (ce_tup (ca_cons ce_int (ca_cons ce_int (ca_cons ce_non (ca_cons ce_str ca_nil))))) (ca_cons (ce_tup (ca_cons ce_int (ca_cons ce_non (ca_cons ce_int (ca_cons ce_str ca_nil))))) (ca_cons (ce_tup (ca_cons ce_int (ca_cons ce_non (ca_cons ce_non (ca_cons ce_str ca_nil))))) (ca_cons (ce_tup (ca_cons ce_int (ca_cons ce_non (ca_cons ce_non (ca_cons ce_str ca_nil))))) ca_nil)))))))))
    (cs_one (cs_ret (ce_tup (ca_cons (ce_call (c := true) (pe_call G_Lchanged (hr.mono (by decide)) (by rfl) M_Lchanged k_Lchanged b_Lchanged .nil pass0 (ca_cons (ce_var (i := 2) (pv 2)) (ca_cons (ce_mod (ce_ix (ce_var (i := 1) (pv 1)) ce_int (fun _ _ => rfl)) (ce_cb (c2 := true) cr_len (pe_callB call_len (by rfl) m_len boot_len (ca_cons (ce_var (i := 2) (pv 2)) ca_nil)))) (ca_cons (ce_ix (ce_var (i := 8) (pv 8)) (ce_mod (ce_ix (ce_var (i := 1) (pv 1)) ce_int (fun _ _ => rfl)) ce_int) (fun _ _ => rfl)) ca_nil))))) (ca_cons (ce_var (i := 3) (pv 3)) (ca_cons (ce_var (i := 4) (pv 4)) ca_nil)))))))
    cs_nil)
    (cs_cons (cs_if (ct_cmp (op_eqD hr.units) r2_eq (ce_var (i := 5) (pv 5)) ce_int (nomark _))
    (cs_one (cs_ret (ce_tup (ca_cons (ce_var (i := 2) (pv 2)) (ca_cons (ce_call (c := true) (pe_call G_Lchanged (hr.mono (by decide)) (by rfl) M_Lchanged k_Lchanged b_Lchanged .nil pass0 (ca_cons (ce_var (i := 3) (pv 3)) (ca_cons (ce_mod (ce_ix (ce_var (i := 1) (pv 1)) ce_int (fun _ _ => rfl)) (ce_cb (c2 := true) cr_len (pe_callB call_len (by rfl) m_len boot_len (ca_cons (ce_var (i := 3) (pv 3)) ca_nil)))) (ca_cons (ce_tup (ca_cons (ce_ix (ce_l (c := true) (cf_lst (c := true) (ca_cons ce_int (ca_cons ce_int ca_nil)))) (ce_mod (ce_ix (ce_var (i := 1) (pv 1)) ce_int (fun _ _ => rfl)) ce_int) (fun _ _ => rfl)) (ca_cons ce_bl (ca_cons ce_bl ca_nil)))) ca_nil))))) (ca_cons (ce_var (i := 4) (pv 4)) ca_nil))))))
    cs_nil)
    (cs_cons (cs_if (ct_cmp (op_eqD hr.units) r2_eq (ce_var (i := 5) (pv 5)) ce_int (nomark _))
    (cs_one (cs_ret (ce_tup (ca_cons (ce_var (i := 2) (pv 2)) (ca_cons (ce_add (ce_var (i := 3) (pv 3)) (ce_tup (ca_cons (ce_tup (ca_cons ce_int (ca_cons ce_bl (ca_cons ce_bl ca_nil)))) ca_nil))) (ca_cons (ce_var (i := 4) (pv 4)) ca_nil))))))
    cs_nil)
    (cs_cons (cs_if (ct_cmp (op_eqD hr.units) r2_eq (ce_var (i := 5) (pv 5)) ce_int (nomark _))
    (cs_cons (cs_set (ps_set (i := 9) nd rfl (by first | exact Or.inl rfl | exact Or.inr rfl) (ce_ix (ce_l (c := true) (cf_lst (c := true) (ca_cons (ce_tup (ca_cons (ce_add (ce_ix (ce_var (i := 7) (pv 7)) ce_int (fun _ _ => rfl)) ce_int) (ca_cons (ce_ix (ce_var (i := 7) (pv 7)) ce_int (fun _ _ => rfl)) ca_nil))) (ca_cons (ce_tup (ca_cons (ce_ix (ce_var (i := 7) (pv 7)) ce_int (fun _ _ => rfl)) (ca_cons (ce_add (ce_ix (ce_var (i := 7) (pv 7)) ce_int (fun _ _ => rfl)) ce_int) ca_nil))) (ca_cons (ce_tup (ca_cons ce_int (ca_cons ce_int ca_nil))) (ca_cons (ce_tup (ca_cons ce_int (ca_cons ce_int ca_nil))) ca_nil)))))) (ce_mod (ce_ix (ce_var (i := 1) (pv 1)) ce_int (fun _ _ => rfl)) ce_int) (fun _ _ => rfl))))
    (cs_one (cs_ret (ce_tup (ca_cons (ce_var (i := 2) (pv 2)) (ca_cons (ce_var (i := 3) (pv 3)) (ca_cons (ce_call (c := true) (pe_call G_Lchanged (hr.mono (by decide)) (by rfl) M_Lchanged k_Lchanged b_Lchanged .nil pass0 (ca_cons (ce_var (i := 4) (pv 4)) (ca_cons (ce_var (i := 6) (pv 6)) (ca_cons (ce_add (ce_add (ce_sl (ce_var (i := 7) (pv 7)) co_none (co_some ce_int)) (ce_var (i := 9) (pv 9))) (ce_sl (ce_var (i := 7) (pv 7)) (co_some ce_int) co_none)) ca_nil))))) ca_nil)))))))
    cs_nil)
    (cs_cons (cs_if (ct_cmp (op_eqD hr.units) r2_eq (ce_var (i := 5) (pv 5)) ce_int (nomark _))
    (cs_one (cs_ret (ce_tup (ca_cons (ce_var (i := 2) (pv 2)) (ca_cons (ce_var (i := 3) (pv 3)) (ca_cons (ce_rev (ce_var (i := 4) (pv 4)) (ce_neg ce_int)) ca_nil))))))
    cs_nil)
    (cs_cons (cs_if (ct_cmp (op_eqD hr.units) r2_eq (ce_var (i := 5) (pv 5)) ce_int (nomark _))
    (cs_cons (cs_set (ps_set (i := 10) nd rfl (by first | exact Or.inl rfl | exact Or.inr rfl) (ce_ix (ce_l (c := true) (cf_lst (c := true) (ca_cons (ce_tup (ca_cons ce_str ca_nil)) (ca_cons (ce_tup (ca_cons ce_str ca_nil)) (ca_cons (ce_tup (ca_cons ce_str ca_nil)) (ca_cons (ce_tup (ca_cons ce_str (ca_cons ce_str (ca_cons ce_str (ca_cons ce_str (ca_cons ce_str ca_nil)))))) (ca_cons (ce_tup (ca_cons ce_str ca_nil)) ca_nil))))))) (ce_mod (ce_ix (ce_var (i := 1) (pv 1)) ce_int (fun _ _ => rfl)) ce_int) (fun _ _ => rfl))))
    (cs_one (cs_ret (ce_tup (ca_cons (ce_var (i := 2) (pv 2)) (ca_cons (ce_var (i := 3) (pv 3)) (ca_cons (ce_call (c := true) (pe_call G_Lchanged (hr.mono (by decide)) (by rfl) M_Lchanged k_Lchanged b_Lchanged .nil pass0 (ca_cons (ce_var (i := 4) (pv 4)) (ca_cons (ce_var (i := 6) (pv 6)) (ca_cons (ce_add (ce_sl (ce_var (i := 7) (pv 7)) co_none (co_some ce_int)) (ce_tup (ca_cons (ce_var (i := 10) (pv 10)) ca_nil))) ca_nil))))) ca_nil)))))))
    cs_nil)
    (cs_cons (cs_if (ct_cmp (op_eqD hr.units) r2_eq (ce_var (i := 5) (pv 5)) ce_int (nomark _))
    (cs_one (cs_ret (ce_tup (ca_cons (ce_var (i := 2) (pv 2)) (ca_cons (ce_add (ce_tup (ca_cons (ce_tup (ca_cons (ce_ix (ce_ix (ce_var (i := 3) (pv 3)) ce_int (fun _ _ => rfl)) ce_int (fun _ _ => rfl)) (ca_cons ce_bl (ca_cons (ce_ix (ce_ix (ce_var (i := 3) (pv 3)) ce_int (fun _ _ => rfl)) ce_int (fun _ _ => rfl)) ca_nil)))) ca_nil)) (ce_sl (ce_var (i := 3) (pv 3)) (co_some ce_int) co_none)) (ca_cons (ce_var (i := 4) (pv 4)) ca_nil))))))
    cs_nil)
    (cs_one (cs_ret (ce_if (ct_cmp (op_eqD hr.units) r2_eq (ce_var (i := 5) (pv 5)) ce_int (nomark _)) (ce_tup (ca_cons (ce_var (i := 2) (pv 2)) (ca_cons (ce_var (i := 3) (pv 3)) (ca_cons (ce_sl (ce_var (i := 4) (pv 4)) co_none (co_some (ce_neg ce_int))) ca_nil)))) (ce_var (i := 0) (pv 0)))))))))))))))))
theorem ok_Lis_word {f : Addr} {fd : FuncData} (F : Fun K "_law_is_word" "_law_is_word" s_Lis_word f fd) (m_len : mg "len" = none) : FnOk P w K mg base CX0 1 f fd ["word"] (spF K g_Lis_word) := by
  refine fn_ok (k := 0) (fB := f_Lis_word) (np := 1) (nN := 3) F sc_Lis_word rfl rfl rfl fun cdv A outer s H E hr => ?_
  have nd : N_Lis_word.Nodup := sc_Lis_word.nd
  exact ((cs_cons (cs_set (ps_set (i := 1) nd rfl (by first | exact Or.inl rfl | exact Or.inr rfl) ce_str))
    (cs_cons (cs_for PassesOwn.never (by rfl) (ci_str (c := true) (c1 := true) (ce_var (i := 0) (pv 0))) (cg_name (pg_name (i := 2) nd rfl (by first | exact Or.inl rfl | exact Or.inr rfl)))
    (cs_one (cs_if (ct_cmp (op_notInX (hu65 hr)) r2_notInX (ce_var (i := 2) (pv 2)) (ce_var (i := 1) (pv 1)) (by rfl))
    (cs_one (cs_ret ce_bl))
    cs_nil)))
    (cs_one (cs_ret (ce_chain (c := true) (c1 := true) (c2 := true) (pe_chain op_le op_le ce_int (ce_cb (c2 := true) cr_len (pe_callB call_len (by rfl) m_len boot_len (ca_cons (ce_var (i := 0) (pv 0)) ca_nil))) ce_int)))))))
theorem ok_Lcolumn_right {f : Addr} {fd : FuncData} (F : Fun K "_law_column_right" "_law_column_right" s_Lcolumn_right f fd)  : FnOk P w K mg base CX0 1 f fd ["column"] (spF K g_Lcolumn_right) := by
  refine fn_ok (k := 0) (fB := f_Lcolumn_right) (np := 1) (nN := 5) F sc_Lcolumn_right rfl rfl rfl fun cdv A outer s H E hr => ?_
  have nd : N_Lcolumn_right.Nodup := sc_Lcolumn_right.nd
  exact ((cs_cons (cs_unp (ps_asg (ce_var (i := 0) (pv 0)) (cg_tup (is := [1, 2, 3, 4]) (pg_tup rfl (pgs_cons (pg_name (i := 1) nd rfl (by first | exact Or.inl rfl | exact Or.inr rfl)) (pgs_cons (pg_name (i := 2) nd rfl (by first | exact Or.inl rfl | exact Or.inr rfl)) (pgs_cons (pg_name (i := 3) nd rfl (by first | exact Or.inl rfl | exact Or.inr rfl)) (pgs_cons (pg_name (i := 4) nd rfl (by first | exact Or.inl rfl | exact Or.inr rfl)) pgs_nil))))))))
    (cs_cons (cs_if (PW.pt (cw_or (ct_cmp op_lt r2_B0 (ce_var (i := 1) (pv 1)) ce_int (nomark _)) (cw_or (ct_cmp op_gt r2_B0 (ce_var (i := 1) (pv 1)) ce_int (nomark _)) (cw_or1 (PW.pt (cw_and (ct_cmp op_notN r2_isnt (ce_var (i := 2) (pv 2)) ce_non (nomark _)) (cw_and1 (PW.pt (cw_or (ct_cmp op_lt r2_B0 (ce_var (i := 2) (pv 2)) (ce_var (i := 1) (pv 1)) (nomark _)) (cw_or1 (ct_cmp op_gt r2_B0 (ce_var (i := 2) (pv 2)) ce_int (nomark _))))))))))))
    (cs_one (cs_ret ce_bl))
    cs_nil)
    (cs_cons (cs_if (PW.pt (cw_and (ct_cmp op_notN r2_isnt (ce_var (i := 3) (pv 3)) ce_non (nomark _)) (cw_and1 (PW.pt (cw_or (ct_cmp op_lt r2_B0 (ce_var (i := 3) (pv 3)) ce_int (nomark _)) (cw_or1 (ct_cmp op_gt r2_B0 (ce_var (i := 3) (pv 3)) ce_int (nomark _))))))))
    (cs_one (cs_ret ce_bl))
    cs_nil)
    (cs_one (cs_ret (ce_cmp (op_inT (hu65 hr)) r2_inT (ce_var (i := 4) (pv 4)) (ce_tup (ca_cons ce_str (ca_cons ce_str (ca_cons ce_str ca_nil)))) (by rfl))))))))
theorem ok_Lcells_fault {f : Addr} {fd : FuncData} (F : Fun K "_law_cells_fault" "_law_cells_fault" s_Lcells_fault f fd) (m_len : mg "len" = none) (m_range : mg "range" = none) : FnOk P w K mg base CX0 1 f fd ["table"] (spF K g_Lcells_fault) := by
  refine fn_ok (k := 0) (fB := f_Lcells_fault) (np := 1) (nN := 15) F sc_Lcells_fault rfl rfl rfl fun cdv A outer s H E hr => ?_
  have nd : N_Lcells_fault.Nodup := sc_Lcells_fault.nd
  exact ((cs_cons (cs_unp (ps_asg (ce_var (i := 0) (pv 0)) (cg_tup (is := [1, 2, 3]) (pg_tup rfl (pgs_cons (pg_name (i := 1) nd rfl (by first | exact Or.inl rfl | exact Or.inr rfl)) (pgs_cons (pg_name (i := 2) nd rfl (by first | exact Or.inl rfl | exact Or.inr rfl)) (pgs_cons (pg_name (i := 3) nd rfl (by first | exact Or.inl rfl | exact Or.inr rfl)) pgs_nil)))))))
    (cs_cons (cs_lcV1 (ps_setLc (i := 4) (own := [("cell", 13)]) rfl nd rfl rfl (sw_true rfl rfl rfl (by decide +kernel)) (ci_seq (ce_var (i := 3) (pv 3))) (blkOk_by (own := [("cell", 13)]) (N := N_Lcells_fault) (sc := defScope s_Lcells_fault) (by decide +kernel)) (fun _ _ _ _ _ => (cg_name (pg_name (i := 13) nd rfl (by first | exact Or.inl rfl | exact Or.inr rfl)))) (fun _ _ _ _ _ => pts_nil) (fun _ _ _ _ _ => (ce_sl (ce_var (i := 13) (pv 13)) co_none (co_some ce_int)))))
    (cs_cons (cs_for PassesOwn.never (by rfl) (ci_r2 (pi_range2 (by rfl) m_range (ca_cons ce_int (ca_cons (ce_cb (c2 := true) cr_len (pe_callB call_len (by rfl) m_len boot_len (ca_cons (ce_var (i := 4) (pv 4)) ca_nil))) ca_nil)))) (cg_name (pg_name (i := 5) nd rfl (by first | exact Or.inl rfl | exact Or.inr rfl)))
    (cs_one (cs_if (ct_cmp (op_gtU hr.units) r2_gtU (ce_ix (ce_var (i := 4) (pv 4)) (ce_sub (ce_var (i := 5) (pv 5)) ce_int) (fun _ _ => rfl)) (ce_ix (ce_var (i := 4) (pv 4)) (ce_var (i := 5) (pv 5)) (fun _ _ => rfl)) (nomark _))
    (cs_one (cs_ret ce_str))
    cs_nil)))
    (cs_cons (cs_for PassesOwn.never (by rfl) (ci_seq (ce_var (i := 3) (pv 3))) (cg_tup (is := [6, 7, 8, 9, 10]) (pg_tup rfl (pgs_cons (pg_name (i := 6) nd rfl (by first | exact Or.inl rfl | exact Or.inr rfl)) (pgs_cons (pg_name (i := 7) nd rfl (by first | exact Or.inl rfl | exact Or.inr rfl)) (pgs_cons (pg_name (i := 8) nd rfl (by first | exact Or.inl rfl | exact Or.inr rfl)) (pgs_cons (pg_name (i := 9) nd rfl (by first | exact Or.inl rfl | exact Or.inr rfl)) (pgs_cons (pg_name (i := 10) nd rfl (by first | exact Or.inl rfl | exact Or.inr rfl)) pgs_nil)))))))
    (cs_one (cs_if (PW.pt (cw_or (ct_cmp op_lt r2_B0 (ce_var (i := 8) (pv 8)) ce_int (nomark _)) (cw_or (ct_cmp op_lt r2_B0 (ce_var (i := 9) (pv 9)) ce_int (nomark _)) (cw_or (ct_cmp (op_gtU hr.units) r2_gtU (ce_add (ce_var (i := 6) (pv 6)) (ce_var (i := 8) (pv 8))) (ce_cb (c2 := true) cr_len (pe_callB call_len (by rfl) m_len boot_len (ca_cons (ce_var (i := 2) (pv 2)) ca_nil))) (nomark _)) (cw_or1 (ct_cmp (op_gtU hr.units) r2_gtU (ce_add (ce_var (i := 7) (pv 7)) (ce_var (i := 9) (pv 9))) (ce_cb (c2 := true) cr_len (pe_callB call_len (by rfl) m_len boot_len (ca_cons (ce_var (i := 1) (pv 1)) ca_nil))) (nomark _)))))))
    (cs_one (cs_ret ce_str))
    cs_nil)))
    (cs_cons (cs_lcO1 (ps_setLc (i := 11) (own := [("place", 14)]) rfl nd rfl rfl (sw_true rfl rfl rfl (by decide +kernel)) (ci_r1 (pi_range1 (by rfl) m_range (ca_cons (ce_mul (ce_cb (c2 := true) cr_len (pe_callB call_len (by rfl) m_len boot_len (ca_cons (ce_var (i := 2) (pv 2)) ca_nil))) (ce_cb (c2 := true) cr_len (pe_callB call_len (by rfl) m_len boot_len (ca_cons (ce_var (i := 1) (pv 1)) ca_nil)))) ca_nil))) (blkOk_by (own := [("place", 14)]) (N := N_Lcells_fault) (sc := defScope s_Lcells_fault) (by decide +kernel)) (fun _ _ _ _ _ => (cg_name (pg_name (i := 14) nd rfl (by first | exact Or.inl rfl | exact Or.inr rfl)))) (fun _ _ _ _ _ => pts_nil) (fun _ _ _ _ _ => ce_int)))
    (cs_cons (cs_for PassesOwn.never (by rfl) (ci_seq (ce_var (i := 3) (pv 3))) (cg_tup (is := [6, 7, 8, 9, 10]) (pg_tup rfl (pgs_cons (pg_name (i := 6) nd rfl (by first | exact Or.inl rfl | exact Or.inr rfl)) (pgs_cons (pg_name (i := 7) nd rfl (by first | exact Or.inl rfl | exact Or.inr rfl)) (pgs_cons (pg_name (i := 8) nd rfl (by first | exact Or.inl rfl | exact Or.inr rfl)) (pgs_cons (pg_name (i := 9) nd rfl (by first | exact Or.inl rfl | exact Or.inr rfl)) (pgs_cons (pg_name (i := 10) nd rfl (by first | exact Or.inl rfl | exact Or.inr rfl)) pgs_nil)))))))
    (cs_one (cs_for PassesOwn.never (by rfl) (ci_r1 (pi_range1 (by rfl) m_range (ca_cons (ce_mul (ce_var (i := 8) (pv 8)) (ce_var (i := 9) (pv 9))) ca_nil))) (cg_name (pg_name (i := 5) nd rfl (by first | exact Or.inl rfl | exact Or.inr rfl)))
    (cs_cons (cs_set (ps_set (i := 12) nd rfl (by first | exact Or.inl rfl | exact Or.inr rfl) (ce_add (ce_add (ce_mul (ce_add (ce_var (i := 6) (pv 6)) (ce_div (ce_var (i := 5) (pv 5)) (ce_var (i := 9) (pv 9)))) (ce_cb (c2 := true) cr_len (pe_callB call_len (by rfl) m_len boot_len (ca_cons (ce_var (i := 1) (pv 1)) ca_nil)))) (ce_var (i := 7) (pv 7))) (ce_mod (ce_var (i := 5) (pv 5)) (ce_var (i := 9) (pv 9))))))
    (cs_one (cs_put (ps_asg (ce_add (ce_ixO (i := 11) (pv 11) (ce_var (i := 12) (pv 12)) (fun _ _ => rfl)) ce_int) (pg_sub (pv 11) (ce_var (i := 12) (pv 12)) set_list))))))))
    (cs_one (cs_ret (ce_if (ct_cmp (op_eqD hr.units) r2_eq (ce_bor (i := 11) (pv 11)) (ce_b (ce_l (c := true) (cf_lc1 (c2 := true) (pe_lc (own := [("place", 14)]) (by rfl) nd (ci_own (i := 11) (pv 11)) (blkOk_by (own := [("place", 14)]) (N := N_Lcells_fault) (sc := defScope s_Lcells_fault) (by decide +kernel)) (fun _ _ _ _ _ => (cg_name (pg_name (i := 14) nd rfl (by first | exact Or.inl rfl | exact Or.inr rfl)))) (fun _ _ _ _ _ => pts_nil) (fun _ _ _ _ _ => ce_int))))) (nomark _)) ce_non ce_str))))))))))
theorem ok_Lfault {f : Addr} {fd : FuncData} (F : Fun K "_law_fault" "_law_fault" s_Lfault f fd) {a_Lcolumn_right : Addr} {d_Lcolumn_right : FuncData} (G_Lcolumn_right : FnOk P w K mg base CX0 1 a_Lcolumn_right d_Lcolumn_right ["column"] (spF K g_Lcolumn_right)) (M_Lcolumn_right : mg "_law_column_right" = some (.ref a_Lcolumn_right)) (k_Lcolumn_right : PySem.W.keepIn K (.ref a_Lcolumn_right) = true) (b_Lcolumn_right : Binds K d_Lcolumn_right ["column"] []) {a_Lcells_fault : Addr} {d_Lcells_fault : FuncData} (G_Lcells_fault : FnOk P w K mg base CX0 1 a_Lcells_fault d_Lcells_fault ["table"] (spF K g_Lcells_fault)) (M_Lcells_fault : mg "_law_cells_fault" = some (.ref a_Lcells_fault)) (k_Lcells_fault : PySem.W.keepIn K (.ref a_Lcells_fault) = true) (b_Lcells_fault : Binds K d_Lcells_fault ["table"] []) {a_Lis_word : Addr} {d_Lis_word : FuncData} (G_Lis_word : FnOk P w K mg base CX0 1 a_Lis_word d_Lis_word ["word"] (spF K g_Lis_word)) (M_Lis_word : mg "_law_is_word" = some (.ref a_Lis_word)) (k_Lis_word : PySem.W.keepIn K (.ref a_Lis_word) = true) (b_Lis_word : Binds K d_Lis_word ["word"] []) (m_len : mg "len" = none) (m_range : mg "range" = none) : FnOk P w K mg base CX0 2 f fd ["table"] (spF K g_Lfault) := by
  refine fn_ok (k := 1) (fB := f_Lfault) (np := 1) (nN := 13) F sc_Lfault rfl rfl rfl fun cdv A outer s H E hr => ?_
  have nd : N_Lfault.Nodup := sc_Lfault.nd
  exact ((cs_cons (cs_unp (ps_asg (ce_var (i := 0) (pv 0)) (cg_tup (is := [1, 2, 3]) (pg_tup rfl (pgs_cons (pg_name (i := 1) nd rfl (by first | exact Or.inl rfl | exact Or.inr rfl)) (pgs_cons (pg_name (i := 2) nd rfl (by first | exact Or.inl rfl | exact Or.inr rfl)) (pgs_cons (pg_name (i := 3) nd rfl (by first | exact Or.inl rfl | exact Or.inr rfl)) pgs_nil)))))))
    (cs_cons (cs_for PassesOwn.never (by rfl) (ci_seq (ce_var (i := 1) (pv 1))) (cg_name (pg_name (i := 4) nd rfl (by first | exact Or.inl rfl | exact Or.inr rfl)))
    (cs_one (cs_if (ct_not (ct_tru (ce_call (c := true) (pe_call G_Lcolumn_right (hr.mono (by decide)) (by rfl) M_Lcolumn_right k_Lcolumn_right b_Lcolumn_right .nil pass0 (ca_cons (ce_var (i := 4) (pv 4)) ca_nil))) (by intro _; rfl)))
    (cs_one (cs_ret ce_str))
    cs_nil)))
    (cs_cons (cs_for PassesOwn.never (by rfl) (ci_seq (ce_var (i := 2) (pv 2))) (cg_name (pg_name (i := 5) nd rfl (by first | exact Or.inl rfl | exact Or.inr rfl)))
    (cs_one (cs_if (PW.pt (cw_or (ct_cmp op_lt r2_B0 (ce_ix (ce_var (i := 5) (pv 5)) ce_int (fun _ _ => rfl)) ce_int (nomark _)) (cw_or1 (ct_cmp op_gt r2_B0 (ce_ix (ce_var (i := 5) (pv 5)) ce_int (fun _ _ => rfl)) ce_int (nomark _)))))
    (cs_one (cs_ret ce_str))
    cs_nil)))
    (cs_cons (cs_if (ct_cmp op_gt r2_B0 (ce_cb (c2 := true) cr_len (pe_callB call_len (by rfl) m_len boot_len (ca_cons (ce_var (i := 2) (pv 2)) ca_nil))) ce_int (nomark _))
    (cs_one (cs_ret ce_str))
    cs_nil)
    (cs_cons (cs_for PassesOwn.never (by rfl) (ci_r2 (pi_range2 (by rfl) m_range (ca_cons ce_int (ca_cons (ce_cb (c2 := true) cr_len (pe_callB call_len (by rfl) m_len boot_len (ca_cons (ce_var (i := 2) (pv 2)) ca_nil))) ca_nil)))) (cg_name (pg_name (i := 6) nd rfl (by first | exact Or.inl rfl | exact Or.inr rfl)))
    (cs_one (cs_if (PW.pt (cw_and (ct_tru (ce_ix (ce_ix (ce_var (i := 2) (pv 2)) (ce_var (i := 6) (pv 6)) (fun _ _ => rfl)) ce_int (fun _ _ => rfl)) (by intro _; rfl)) (cw_and1 (ct_not (ct_tru (ce_ix (ce_ix (ce_var (i := 2) (pv 2)) (ce_sub (ce_var (i := 6) (pv 6)) ce_int) (fun _ _ => rfl)) ce_int (fun _ _ => rfl)) (by intro _; rfl))))))
    (cs_one (cs_ret ce_str))
    cs_nil)))
    (cs_cons (cs_set (ps_set (i := 7) nd rfl (by first | exact Or.inl rfl | exact Or.inr rfl) (ce_call (c := true) (pe_call G_Lcells_fault (hr.mono (by decide)) (by rfl) M_Lcells_fault k_Lcells_fault b_Lcells_fault .nil pass0 (ca_cons (ce_var (i := 0) (pv 0)) ca_nil)))))
    (cs_cons (cs_if (ct_cmp op_notN r2_isnt (ce_var (i := 7) (pv 7)) ce_non (nomark _))
    (cs_one (cs_ret (ce_var (i := 7) (pv 7))))
    cs_nil)
    (cs_cons (cs_set (ps_set (i := 8) nd rfl (by first | exact Or.inl rfl | exact Or.inr rfl) (ce_cb (c2 := true) cr_len (pe_callB call_len (by rfl) m_len boot_len (ca_cons (ce_l (c := true) (cf_lc (c2 := true) (pe_lc (own := [("row", 5)]) (by rfl) nd (ci_seq (ce_var (i := 2) (pv 2))) (blkOk_by (own := [("row", 5)]) (N := N_Lfault) (sc := defScope s_Lfault) (by decide +kernel)) (fun _ _ _ _ _ => (cg_name (pg_name (i := 5) nd rfl (by first | exact Or.inl rfl | exact Or.inr rfl)))) (fun _ _ _ _ _ => (pts_one (ct_tru (ce_ix (ce_var (i := 5) (pv 5)) ce_int (fun _ _ => rfl)) (by intro _; rfl)))) (fun _ _ _ _ _ => (ce_var (i := 5) (pv 5)))))) ca_nil)))))
    (cs_cons (cs_for PassesOwn.never (by rfl) (ci_seq (ce_var (i := 3) (pv 3))) (cg_tup (is := [5, 4, 9, 10, 11]) (pg_tup rfl (pgs_cons (pg_name (i := 5) nd rfl (by first | exact Or.inl rfl | exact Or.inr rfl)) (pgs_cons (pg_name (i := 4) nd rfl (by first | exact Or.inl rfl | exact Or.inr rfl)) (pgs_cons (pg_name (i := 9) nd rfl (by first | exact Or.inl rfl | exact Or.inr rfl)) (pgs_cons (pg_name (i := 10) nd rfl (by first | exact Or.inl rfl | exact Or.inr rfl)) (pgs_cons (pg_name (i := 11) nd rfl (by first | exact Or.inl rfl | exact Or.inr rfl)) pgs_nil)))))))
    (cs_cons (cs_if (PW.pt (cw_or (ct_cmp op_gt r2_B0 (ce_cb (c2 := true) cr_len (pe_callB call_len (by rfl) m_len boot_len (ca_cons (ce_var (i := 11) (pv 11)) ca_nil))) ce_int (nomark _)) (cw_or1 (ct_cmp op_gt r2_B0 (ce_cb (c2 := true) cr_len (pe_callB call_len (by rfl) m_len boot_len (ca_cons (ce_l (c := true) (cf_lc (c2 := true) (pe_lc (own := [("word", 12)]) (by rfl) nd (ci_seq (ce_var (i := 11) (pv 11))) (blkOk_by (own := [("word", 12)]) (N := N_Lfault) (sc := defScope s_Lfault) (by decide +kernel)) (fun _ _ _ _ _ => (cg_name (pg_name (i := 12) nd rfl (by first | exact Or.inl rfl | exact Or.inr rfl)))) (fun _ _ _ _ _ => (pts_one (ct_not (ct_tru (ce_call (c := true) (pe_call G_Lis_word (hr.mono (by decide)) (by rfl) M_Lis_word k_Lis_word b_Lis_word .nil pass0 (ca_cons (ce_var (i := 12) (pv 12)) ca_nil))) (by intro _; rfl))))) (fun _ _ _ _ _ => (ce_var (i := 12) (pv 12)))))) ca_nil))) ce_int (nomark _)))))
    (cs_one (cs_ret ce_str))
    cs_nil)
    (cs_one (cs_if (ct_chain (c := true) (c1 := true) (c2 := true) (pt_chain op_lt op_lt (ce_var (i := 5) (pv 5)) (ce_var (i := 8) (pv 8)) (ce_add (ce_var (i := 5) (pv 5)) (ce_var (i := 9) (pv 9)))))
    (cs_one (cs_ret ce_str))
    cs_nil))))
    (cs_one (cs_ret ce_non))))))))))))
theorem ok_Ltold {f : Addr} {fd : FuncData} (F : Fun K "_law_told" "_law_told" s_Ltold f fd) {C fI : Addr} (T : PySem.RfX.RfTxt P K mg C fI) {a_check_table : Addr} {d_check_table : FuncData} (G_check_table : FnOk P w K mg base (L2.CX P w) 4 a_check_table d_check_table ["table"] (spX K C g_check_table)) (M_check_table : mg "check_table" = some (.ref a_check_table)) (k_check_table : PySem.W.keepIn K (.ref a_check_table) = true) (b_check_table : Binds K d_check_table ["table"] []) (m_isinstance : mg "isinstance" = none) (m_ValueError : mg "ValueError" = none) {zc_BookError : Addr} (gc_BookError : mg "BookError" = some (.ref zc_BookError)) (kq_BookError : PySem.W.kitOne K (.ref C) (.ref zc_BookError) = some true) (kq_ValueError : PySem.W.kitOne K (.ref C) (.type "ValueError") = some true) (KX : KitEx K C) : FnOk P w K mg base CX0 6 f fd ["table"] (spF K g_Ltold) := by
  refine fn_ok (k := 5) (fB := f_Ltold) (np := 1) (nN := 2) F sc_Ltold rfl rfl rfl fun cdv A outer s H E hr => ?_
  have nd : N_Ltold.Nodup := sc_Ltold.nd
  exact ((cs_one (cs_tryAs (i := 1) (body := y_Ltold_1) (suite := u_Ltold_1) (Wout := fun _ _ _ _ => False) T (ps_try_as (i := 1) (tb := fun W => tSX _ C W y_Ltold_1) (ts := tsE _ C u_Ltold_1) (Wout := fun _ _ _ _ => False) rfl rfl nd rfl rfl ⟨rfl, by decide, Or.inl T.gC⟩ takes0 (fun W pn xe tk po => (sx_one (sx_ret (xe_call (c := true) (pe_callS G_check_table (hr.mono (by decide)) (by rfl) M_check_table k_check_table b_check_table (fun σ => passAt tk σ) (xa_ok (ca_cons (ce_var (i := 0) (pv 0)) ca_nil)))))))
    (fun a oe cls d pn hz hf => pss_ex fun dd hh => (cs_one (cs_ret (ce_if (PW.pt (cw_and (ct_val (ce_isiEx (c := true) (i := 1) hh.2 (ClsV.own zc_BookError) kq_BookError (pe_callB (call_isiEx T KX hz hf hh.1) (by rfl) m_isinstance (by decide +kernel) (pa_cons (pv 1) (pa_cons (pe_glob (by rfl) gc_BookError rfl) pa_nil))))) (cw_and1 (ct_val (ce_isiEx (c := true) (i := 1) hh.2 (ClsV.ty "ValueError") kq_ValueError (pe_callB (call_isiEx T KX hz hf hh.1) (by rfl) m_isinstance (by decide +kernel) (pa_cons (pv 1) (pa_cons (pe_bltn (v := .ty "ValueError") (by rfl) m_ValueError (by decide +kernel) rfl) pa_nil)))))))) (ce_what (i := 1) T hz hf hh.1 hh.2 (pv 1)) ce_int))))))))
theorem ok_law {f : Addr} {fd : FuncData} (F : Fun K "law" "law" s_law f fd) {a_Lspoilt : Addr} {d_Lspoilt : FuncData} (G_Lspoilt : FnOk P w K mg base CX0 2 a_Lspoilt d_Lspoilt ["table", "draws"] (spF K g_Lspoilt)) (M_Lspoilt : mg "_law_spoilt" = some (.ref a_Lspoilt)) (k_Lspoilt : PySem.W.keepIn K (.ref a_Lspoilt) = true) (b_Lspoilt : Binds K d_Lspoilt ["table", "draws"] []) {a_Ltable : Addr} {d_Ltable : FuncData} (G_Ltable : FnOk P w K mg base CX0 3 a_Ltable d_Ltable ["script", "at", "most_columns", "most_rows"] (spF K g_Ltable)) (M_Ltable : mg "_law_table" = some (.ref a_Ltable)) (k_Ltable : PySem.W.keepIn K (.ref a_Ltable) = true) (b_Ltable : Binds K d_Ltable ["script", "at", "most_columns", "most_rows"] []) {a_Ldraws : Addr} {d_Ldraws : FuncData} (G_Ldraws : FnOk P w K mg base CX0 1 a_Ldraws d_Ldraws ["cell", "count"] (spF K g_Ldraws)) (M_Ldraws : mg "_law_draws" = some (.ref a_Ldraws)) (k_Ldraws : PySem.W.keepIn K (.ref a_Ldraws) = true) (b_Ldraws : Binds K d_Ldraws ["cell", "count"] []) {a_Lcell : Addr} {d_Lcell : FuncData} (G_Lcell : FnOk P w K mg base CX0 1 a_Lcell d_Lcell ["script", "k"] (spF K g_Lcell)) (M_Lcell : mg "_law_cell" = some (.ref a_Lcell)) (k_Lcell : PySem.W.keepIn K (.ref a_Lcell) = true) (b_Lcell : Binds K d_Lcell ["script", "k"] []) {a_Lfault : Addr} {d_Lfault : FuncData} (G_Lfault : FnOk P w K mg base CX0 2 a_Lfault d_Lfault ["table"] (spF K g_Lfault)) (M_Lfault : mg "_law_fault" = some (.ref a_Lfault)) (k_Lfault : PySem.W.keepIn K (.ref a_Lfault) = true) (b_Lfault : Binds K d_Lfault ["table"] []) {a_Ltold : Addr} {d_Ltold : FuncData} (G_Ltold : FnOk P w K mg base CX0 6 a_Ltold d_Ltold ["table"] (spF K g_Ltold)) (M_Ltold : mg "_law_told" = some (.ref a_Ltold)) (k_Ltold : PySem.W.keepIn K (.ref a_Ltold) = true) (b_Ltold : Binds K d_Ltold ["table"] []) {a_head_count : Addr} {d_head_count : FuncData} (G_head_count : FnOk P w K mg base CX0 1 a_head_count d_head_count ["table"] (spF K g_head_count)) (M_head_count : mg "head_count" = some (.ref a_head_count)) (k_head_count : PySem.W.keepIn K (.ref a_head_count) = true) (b_head_count : Binds K d_head_count ["table"] []) {a_breakable_rows : Addr} {d_breakable_rows : FuncData} (G_breakable_rows : FnOk P w K mg base CX0 2 a_breakable_rows d_breakable_rows ["table"] (spF K g_breakable_rows)) (M_breakable_rows : mg "breakable_rows" = some (.ref a_breakable_rows)) (k_breakable_rows : PySem.W.keepIn K (.ref a_breakable_rows) = true) (b_breakable_rows : Binds K d_breakable_rows ["table"] []) {a_cell_at : Addr} {d_cell_at : FuncData} (G_cell_at : FnOk P w K mg base CX0 2 a_cell_at d_cell_at ["table", "row", "column"] (spF K g_cell_at)) (M_cell_at : mg "cell_at" = some (.ref a_cell_at)) (k_cell_at : PySem.W.keepIn K (.ref a_cell_at) = true) (b_cell_at : Binds K d_cell_at ["table", "row", "column"] []) (m_len : mg "len" = none) (m_range : mg "range" = none) : FnOk P w K mg base CX0 7 f fd ["script"] (spF K g_law) := by
  refine fn_ok (k := 6) (fB := f_law) (np := 1) (nN := 17) F sc_law rfl rfl rfl fun cdv A outer s H E hr => ?_
  have nd : N_law.Nodup := sc_law.nd
  exact ((cs_cons (cs_set (ps_set (i := 1) nd rfl (by first | exact Or.inl rfl | exact Or.inr rfl) (ce_call (c := true) (pe_call G_Lspoilt (hr.mono (by decide)) (by rfl) M_Lspoilt k_Lspoilt b_Lspoilt .nil pass0 (ca_cons (ce_call (c := true) (pe_call G_Ltable (hr.mono (by decide)) (by rfl) M_Ltable k_Ltable b_Ltable .nil pass0 (ca_cons (ce_var (i := 0) (pv 0)) (ca_cons ce_int (ca_cons ce_int (ca_cons ce_int ca_nil)))))) (ca_cons (ce_call (c := true) (pe_call G_Ldraws (hr.mono (by decide)) (by rfl) M_Ldraws k_Ldraws b_Ldraws .nil pass0 (ca_cons (ce_call (c := true) (pe_call G_Lcell (hr.mono (by decide)) (by rfl) M_Lcell k_Lcell b_Lcell .nil pass0 (ca_cons (ce_var (i := 0) (pv 0)) (ca_cons ce_int ca_nil)))) (ca_cons ce_int ca_nil)))) ca_nil))))))
    (cs_cons (cs_set (ps_set (i := 2) nd rfl (by first | exact Or.inl rfl | exact Or.inr rfl) (ce_call (c := true) (pe_call G_Lfault (hr.mono (by decide)) (by rfl) M_Lfault k_Lfault b_Lfault .nil pass0 (ca_cons (ce_var (i := 1) (pv 1)) ca_nil)))))
    (cs_cons (cs_if (ct_cmp (op_neD hr.units) r2_ne (ce_call (c := true) (pe_call G_Ltold (hr.mono (by decide)) (by rfl) M_Ltold k_Ltold b_Ltold .nil pass0 (ca_cons (ce_var (i := 1) (pv 1)) ca_nil))) (ce_var (i := 2) (pv 2)) (nomark _))
    (cs_one (cs_ret ce_bl))
    cs_nil)
    (cs_cons (cs_if (ct_cmp op_notN r2_isnt (ce_var (i := 2) (pv 2)) ce_non (nomark _))
    (cs_one (cs_ret ce_bl))
    cs_nil)
    (cs_cons (cs_unp (ps_asg (ce_var (i := 1) (pv 1)) (cg_tup (is := [3, 4, 5]) (pg_tup rfl (pgs_cons (pg_name (i := 3) nd rfl (by first | exact Or.inl rfl | exact Or.inr rfl)) (pgs_cons (pg_name (i := 4) nd rfl (by first | exact Or.inl rfl | exact Or.inr rfl)) (pgs_cons (pg_name (i := 5) nd rfl (by first | exact Or.inl rfl | exact Or.inr rfl)) pgs_nil)))))))
    (cs_cons (cs_set (ps_set (i := 6) nd rfl (by first | exact Or.inl rfl | exact Or.inr rfl) (ce_cb (c2 := true) cr_len (pe_callB call_len (by rfl) m_len boot_len (ca_cons (ce_l (c := true) (cf_lc (c2 := true) (pe_lc (own := [("row", 8)]) (by rfl) nd (ci_seq (ce_var (i := 4) (pv 4))) (blkOk_by (own := [("row", 8)]) (N := N_law) (sc := defScope s_law) (by decide +kernel)) (fun _ _ _ _ _ => (cg_name (pg_name (i := 8) nd rfl (by first | exact Or.inl rfl | exact Or.inr rfl)))) (fun _ _ _ _ _ => (pts_one (ct_tru (ce_ix (ce_var (i := 8) (pv 8)) ce_int (fun _ _ => rfl)) (by intro _; rfl)))) (fun _ _ _ _ _ => (ce_var (i := 8) (pv 8)))))) ca_nil)))))
    (cs_cons (cs_if (ct_cmp (op_neD hr.units) r2_ne (ce_call (c := true) (pe_call G_head_count (hr.mono (by decide)) (by rfl) M_head_count k_head_count b_head_count .nil pass0 (ca_cons (ce_var (i := 1) (pv 1)) ca_nil))) (ce_var (i := 6) (pv 6)) (nomark _))
    (cs_one (cs_ret ce_bl))
    cs_nil)
    (cs_cons (cs_own (ps_set (i := 7) nd rfl (by first | exact Or.inl rfl | exact Or.inr rfl) (cf_lst (c := true) ca_nil)))
    (cs_cons (cs_for PassesOwn.never (by rfl) (ci_r1 (pi_range1 (by rfl) m_range (ca_cons (ce_cb (c2 := true) cr_len (pe_callB call_len (by rfl) m_len boot_len (ca_cons (ce_var (i := 4) (pv 4)) ca_nil))) ca_nil))) (cg_name (pg_name (i := 8) nd rfl (by first | exact Or.inl rfl | exact Or.inr rfl)))
    (cs_cons (cs_lcV (ps_setLc (i := 9) (own := [("cell", 16)]) rfl nd rfl rfl (sw_true rfl rfl rfl (by decide +kernel)) (ci_seq (ce_var (i := 5) (pv 5))) (blkOk_by (own := [("cell", 16)]) (N := N_law) (sc := defScope s_law) (by decide +kernel)) (fun _ _ _ _ _ => (cg_name (pg_name (i := 16) nd rfl (by first | exact Or.inl rfl | exact Or.inr rfl)))) (fun _ _ _ _ _ => (pts_one (ct_chain (c := true) (c1 := true) (c2 := true) (pt_chain op_lt op_lt (ce_ix (ce_var (i := 16) (pv 16)) ce_int (fun _ _ => rfl)) (ce_var (i := 8) (pv 8)) (ce_add (ce_ix (ce_var (i := 16) (pv 16)) ce_int (fun _ _ => rfl)) (ce_ix (ce_var (i := 16) (pv 16)) ce_int (fun _ _ => rfl))))))) (fun _ _ _ _ _ => (ce_var (i := 16) (pv 16)))))
    (cs_one (cs_if (PW.pt (cw_and (ct_cmp op_gt r2_B0 (ce_var (i := 8) (pv 8)) (ce_var (i := 6) (pv 6)) (nomark _)) (cw_and (ct_cmp (op_eqD hr.units) r2_eq (ce_var (i := 9) (pv 9)) (ce_l (c := true) (cf_lst (c := true) ca_nil)) (nomark _)) (cw_and1 (ct_not (ct_tru (ce_ix (ce_ix (ce_var (i := 4) (pv 4)) (ce_sub (ce_var (i := 8) (pv 8)) ce_int) (fun _ _ => rfl)) ce_int (fun _ _ => rfl)) (by intro _; rfl)))))))
    (cs_one (cs_app (ps_expr (pe_bm PySem.F.plainAttrs_list PySem.F.slot_list_append PySem.F.type_list_append mt_append (pv 7) (pa_cons (ce_var (i := 8) (pv 8)) pa_nil)))))
    cs_nil))))
    (cs_cons (cs_if (ct_cmp (op_neD hr.units) r2_ne (ce_b (ce_call (c := true) (pe_call G_breakable_rows (hr.mono (by decide)) (by rfl) M_breakable_rows k_breakable_rows b_breakable_rows .nil pass0 (ca_cons (ce_var (i := 1) (pv 1)) ca_nil)))) (ce_bor (i := 7) (pv 7)) (nomark _))
    (cs_one (cs_ret ce_bl))
    cs_nil)
    (cs_cons (cs_for PassesOwn.never (by rfl) (ci_r1 (pi_range1 (by rfl) m_range (ca_cons (ce_cb (c2 := true) cr_len (pe_callB call_len (by rfl) m_len boot_len (ca_cons (ce_var (i := 5) (pv 5)) ca_nil))) ca_nil))) (cg_name (pg_name (i := 10) nd rfl (by first | exact Or.inl rfl | exact Or.inr rfl)))
    (cs_cons (cs_unp (ps_asg (ce_ix (ce_var (i := 5) (pv 5)) (ce_var (i := 10) (pv 10)) (fun _ _ => rfl)) (cg_tup (is := [8, 11, 12, 13, 14]) (pg_tup rfl (pgs_cons (pg_name (i := 8) nd rfl (by first | exact Or.inl rfl | exact Or.inr rfl)) (pgs_cons (pg_name (i := 11) nd rfl (by first | exact Or.inl rfl | exact Or.inr rfl)) (pgs_cons (pg_name (i := 12) nd rfl (by first | exact Or.inl rfl | exact Or.inr rfl)) (pgs_cons (pg_name (i := 13) nd rfl (by first | exact Or.inl rfl | exact Or.inr rfl)) (pgs_cons (pg_name (i := 14) nd rfl (by first | exact Or.inl rfl | exact Or.inr rfl)) pgs_nil)))))))))
    (cs_one (cs_for PassesOwn.never (by rfl) (ci_r1 (pi_range1 (by rfl) m_range (ca_cons (ce_mul (ce_var (i := 12) (pv 12)) (ce_var (i := 13) (pv 13))) ca_nil))) (cg_name (pg_name (i := 15) nd rfl (by first | exact Or.inl rfl | exact Or.inr rfl)))
    (cs_one (cs_if (ct_cmp (op_neD hr.units) r2_ne (ce_call (c := true) (pe_call G_cell_at (hr.mono (by decide)) (by rfl) M_cell_at k_cell_at b_cell_at .nil pass0 (ca_cons (ce_var (i := 1) (pv 1)) (ca_cons (ce_add (ce_var (i := 8) (pv 8)) (ce_div (ce_var (i := 15) (pv 15)) (ce_var (i := 13) (pv 13)))) (ca_cons (ce_add (ce_var (i := 11) (pv 11)) (ce_mod (ce_var (i := 15) (pv 15)) (ce_var (i := 13) (pv 13)))) ca_nil))))) (ce_var (i := 10) (pv 10)) (nomark _))
    (cs_one (cs_ret ce_bl))
    cs_nil))))))
    (cs_one (cs_ret ce_bl))))))))))))))
end
/-! ### the end -/
theorem all_mk {l : PySem.W.OpenLaw} {w : World} {K : PySem.W.Frag} {h : Heap} {mg : Str → Option Value} {fa : Addr} (X : K.In h) (G : h.Ns mainGlobals mg) (hfa : mg "law" = some (.ref fa))
    {f_is_word : Addr} {od_is_word an_is_word : Option Addr} {sl_is_word : Array (Option Value)} {oc_is_word kV_is_word dc_is_word pm_is_word cd_is_word ct_is_word : Value}
    (a_is_word : PySem.W.nsIn K mainGlobals "is_word" = some (some (.ref f_is_word))) (l_is_word : K.lookup f_is_word = some ⟨oc_is_word, od_is_word, .func (PySem.W.fnOf "is_word" "is_word" (defArgs s_is_word) (defBody s_is_word) (defScope s_is_word) .none kV_is_word dc_is_word pm_is_word an_is_word cd_is_word ct_is_word), sl_is_word⟩) (c_is_word : PySem.W.codeIn K cd_is_word "is_word" = true) (k_is_word : PySem.W.keepIn K (.ref f_is_word) = true)
    {f_are_words : Addr} {od_are_words an_are_words : Option Addr} {sl_are_words : Array (Option Value)} {oc_are_words kV_are_words dc_are_words pm_are_words cd_are_words ct_are_words : Value}
    (a_are_words : PySem.W.nsIn K mainGlobals "are_words" = some (some (.ref f_are_words))) (l_are_words : K.lookup f_are_words = some ⟨oc_are_words, od_are_words, .func (PySem.W.fnOf "are_words" "are_words" (defArgs s_are_words) (defBody s_are_words) (defScope s_are_words) .none kV_are_words dc_are_words pm_are_words an_are_words cd_are_words ct_are_words), sl_are_words⟩) (c_are_words : PySem.W.codeIn K cd_are_words "are_words" = true) (k_are_words : PySem.W.keepIn K (.ref f_are_words) = true)
    {f_is_column : Addr} {od_is_column an_is_column : Option Addr} {sl_is_column : Array (Option Value)} {oc_is_column kV_is_column dc_is_column pm_is_column cd_is_column ct_is_column : Value}
    (a_is_column : PySem.W.nsIn K mainGlobals "is_column" = some (some (.ref f_is_column))) (l_is_column : K.lookup f_is_column = some ⟨oc_is_column, od_is_column, .func (PySem.W.fnOf "is_column" "is_column" (defArgs s_is_column) (defBody s_is_column) (defScope s_is_column) .none kV_is_column dc_is_column pm_is_column an_is_column cd_is_column ct_is_column), sl_is_column⟩) (c_is_column : PySem.W.codeIn K cd_is_column "is_column" = true) (k_is_column : PySem.W.keepIn K (.ref f_is_column) = true)
    {f_are_columns : Addr} {od_are_columns an_are_columns : Option Addr} {sl_are_columns : Array (Option Value)} {oc_are_columns kV_are_columns dc_are_columns pm_are_columns cd_are_columns ct_are_columns : Value}
    (a_are_columns : PySem.W.nsIn K mainGlobals "are_columns" = some (some (.ref f_are_columns))) (l_are_columns : K.lookup f_are_columns = some ⟨oc_are_columns, od_are_columns, .func (PySem.W.fnOf "are_columns" "are_columns" (defArgs s_are_columns) (defBody s_are_columns) (defScope s_are_columns) .none kV_are_columns dc_are_columns pm_are_columns an_are_columns cd_are_columns ct_are_columns), sl_are_columns⟩) (c_are_columns : PySem.W.codeIn K cd_are_columns "are_columns" = true) (k_are_columns : PySem.W.keepIn K (.ref f_are_columns) = true)
    {f_is_row : Addr} {od_is_row an_is_row : Option Addr} {sl_is_row : Array (Option Value)} {oc_is_row kV_is_row dc_is_row pm_is_row cd_is_row ct_is_row : Value}
    (a_is_row : PySem.W.nsIn K mainGlobals "is_row" = some (some (.ref f_is_row))) (l_is_row : K.lookup f_is_row = some ⟨oc_is_row, od_is_row, .func (PySem.W.fnOf "is_row" "is_row" (defArgs s_is_row) (defBody s_is_row) (defScope s_is_row) .none kV_is_row dc_is_row pm_is_row an_is_row cd_is_row ct_is_row), sl_is_row⟩) (c_is_row : PySem.W.codeIn K cd_is_row "is_row" = true) (k_is_row : PySem.W.keepIn K (.ref f_is_row) = true)
    {f_are_rows : Addr} {od_are_rows an_are_rows : Option Addr} {sl_are_rows : Array (Option Value)} {oc_are_rows kV_are_rows dc_are_rows pm_are_rows cd_are_rows ct_are_rows : Value}
    (a_are_rows : PySem.W.nsIn K mainGlobals "are_rows" = some (some (.ref f_are_rows))) (l_are_rows : K.lookup f_are_rows = some ⟨oc_are_rows, od_are_rows, .func (PySem.W.fnOf "are_rows" "are_rows" (defArgs s_are_rows) (defBody s_are_rows) (defScope s_are_rows) .none kV_are_rows dc_are_rows pm_are_rows an_are_rows cd_are_rows ct_are_rows), sl_are_rows⟩) (c_are_rows : PySem.W.codeIn K cd_are_rows "are_rows" = true) (k_are_rows : PySem.W.keepIn K (.ref f_are_rows) = true)
    {f_are_heads_first : Addr} {od_are_heads_first an_are_heads_first : Option Addr} {sl_are_heads_first : Array (Option Value)} {oc_are_heads_first kV_are_heads_first dc_are_heads_first pm_are_heads_first cd_are_heads_first ct_are_heads_first : Value}
    (a_are_heads_first : PySem.W.nsIn K mainGlobals "are_heads_first" = some (some (.ref f_are_heads_first))) (l_are_heads_first : K.lookup f_are_heads_first = some ⟨oc_are_heads_first, od_are_heads_first, .func (PySem.W.fnOf "are_heads_first" "are_heads_first" (defArgs s_are_heads_first) (defBody s_are_heads_first) (defScope s_are_heads_first) .none kV_are_heads_first dc_are_heads_first pm_are_heads_first an_are_heads_first cd_are_heads_first ct_are_heads_first), sl_are_heads_first⟩) (c_are_heads_first : PySem.W.codeIn K cd_are_heads_first "are_heads_first" = true) (k_are_heads_first : PySem.W.keepIn K (.ref f_are_heads_first) = true)
    {f_are_in_order : Addr} {od_are_in_order an_are_in_order : Option Addr} {sl_are_in_order : Array (Option Value)} {oc_are_in_order kV_are_in_order dc_are_in_order pm_are_in_order cd_are_in_order ct_are_in_order : Value}
    (a_are_in_order : PySem.W.nsIn K mainGlobals "are_in_order" = some (some (.ref f_are_in_order))) (l_are_in_order : K.lookup f_are_in_order = some ⟨oc_are_in_order, od_are_in_order, .func (PySem.W.fnOf "are_in_order" "are_in_order" (defArgs s_are_in_order) (defBody s_are_in_order) (defScope s_are_in_order) .none kV_are_in_order dc_are_in_order pm_are_in_order an_are_in_order cd_are_in_order ct_are_in_order), sl_are_in_order⟩) (c_are_in_order : PySem.W.codeIn K cd_are_in_order "are_in_order" = true) (k_are_in_order : PySem.W.keepIn K (.ref f_are_in_order) = true)
    {f_is_inside : Addr} {od_is_inside an_is_inside : Option Addr} {sl_is_inside : Array (Option Value)} {oc_is_inside kV_is_inside dc_is_inside pm_is_inside cd_is_inside ct_is_inside : Value}
    (a_is_inside : PySem.W.nsIn K mainGlobals "is_inside" = some (some (.ref f_is_inside))) (l_is_inside : K.lookup f_is_inside = some ⟨oc_is_inside, od_is_inside, .func (PySem.W.fnOf "is_inside" "is_inside" (defArgs s_is_inside) (defBody s_is_inside) (defScope s_is_inside) .none kV_is_inside dc_is_inside pm_is_inside an_is_inside cd_is_inside ct_is_inside), sl_is_inside⟩) (c_is_inside : PySem.W.codeIn K cd_is_inside "is_inside" = true) (k_is_inside : PySem.W.keepIn K (.ref f_is_inside) = true)
    {f_covers : Addr} {od_covers an_covers : Option Addr} {sl_covers : Array (Option Value)} {oc_covers kV_covers dc_covers pm_covers cd_covers ct_covers : Value}
    (a_covers : PySem.W.nsIn K mainGlobals "covers" = some (some (.ref f_covers))) (l_covers : K.lookup f_covers = some ⟨oc_covers, od_covers, .func (PySem.W.fnOf "covers" "covers" (defArgs s_covers) (defBody s_covers) (defScope s_covers) .none kV_covers dc_covers pm_covers an_covers cd_covers ct_covers), sl_covers⟩) (c_covers : PySem.W.codeIn K cd_covers "covers" = true) (k_covers : PySem.W.keepIn K (.ref f_covers) = true)
    {f_covers_both : Addr} {od_covers_both an_covers_both : Option Addr} {sl_covers_both : Array (Option Value)} {oc_covers_both kV_covers_both dc_covers_both pm_covers_both cd_covers_both ct_covers_both : Value}
    (a_covers_both : PySem.W.nsIn K mainGlobals "covers_both" = some (some (.ref f_covers_both))) (l_covers_both : K.lookup f_covers_both = some ⟨oc_covers_both, od_covers_both, .func (PySem.W.fnOf "covers_both" "covers_both" (defArgs s_covers_both) (defBody s_covers_both) (defScope s_covers_both) .none kV_covers_both dc_covers_both pm_covers_both an_covers_both cd_covers_both ct_covers_both), sl_covers_both⟩) (c_covers_both : PySem.W.codeIn K cd_covers_both "covers_both" = true) (k_covers_both : PySem.W.keepIn K (.ref f_covers_both) = true)
    {f_is_covered_once : Addr} {od_is_covered_once an_is_covered_once : Option Addr} {sl_is_covered_once : Array (Option Value)} {oc_is_covered_once kV_is_covered_once dc_is_covered_once pm_is_covered_once cd_is_covered_once ct_is_covered_once : Value}
    (a_is_covered_once : PySem.W.nsIn K mainGlobals "is_covered_once" = some (some (.ref f_is_covered_once))) (l_is_covered_once : K.lookup f_is_covered_once = some ⟨oc_is_covered_once, od_is_covered_once, .func (PySem.W.fnOf "is_covered_once" "is_covered_once" (defArgs s_is_covered_once) (defBody s_is_covered_once) (defScope s_is_covered_once) .none kV_is_covered_once dc_is_covered_once pm_is_covered_once an_is_covered_once cd_is_covered_once ct_is_covered_once), sl_is_covered_once⟩) (c_is_covered_once : PySem.W.codeIn K cd_is_covered_once "is_covered_once" = true) (k_is_covered_once : PySem.W.keepIn K (.ref f_is_covered_once) = true)
    {f_head_count : Addr} {od_head_count an_head_count : Option Addr} {sl_head_count : Array (Option Value)} {oc_head_count kV_head_count dc_head_count pm_head_count cd_head_count ct_head_count : Value}
    (a_head_count : PySem.W.nsIn K mainGlobals "head_count" = some (some (.ref f_head_count))) (l_head_count : K.lookup f_head_count = some ⟨oc_head_count, od_head_count, .func (PySem.W.fnOf "head_count" "head_count" (defArgs s_head_count) (defBody s_head_count) (defScope s_head_count) .none kV_head_count dc_head_count pm_head_count an_head_count cd_head_count ct_head_count), sl_head_count⟩) (c_head_count : PySem.W.codeIn K cd_head_count "head_count" = true) (k_head_count : PySem.W.keepIn K (.ref f_head_count) = true)
    {f_check_table : Addr} {od_check_table an_check_table : Option Addr} {sl_check_table : Array (Option Value)} {oc_check_table kV_check_table dc_check_table pm_check_table cd_check_table ct_check_table : Value}
    (a_check_table : PySem.W.nsIn K mainGlobals "check_table" = some (some (.ref f_check_table))) (l_check_table : K.lookup f_check_table = some ⟨oc_check_table, od_check_table, .func (PySem.W.fnOf "check_table" "check_table" (defArgs s_check_table) (defBody s_check_table) (defScope s_check_table) .none kV_check_table dc_check_table pm_check_table an_check_table cd_check_table ct_check_table), sl_check_table⟩) (c_check_table : PySem.W.codeIn K cd_check_table "check_table" = true) (k_check_table : PySem.W.keepIn K (.ref f_check_table) = true)
    {f_cell_at : Addr} {od_cell_at an_cell_at : Option Addr} {sl_cell_at : Array (Option Value)} {oc_cell_at kV_cell_at dc_cell_at pm_cell_at cd_cell_at ct_cell_at : Value}
    (a_cell_at : PySem.W.nsIn K mainGlobals "cell_at" = some (some (.ref f_cell_at))) (l_cell_at : K.lookup f_cell_at = some ⟨oc_cell_at, od_cell_at, .func (PySem.W.fnOf "cell_at" "cell_at" (defArgs s_cell_at) (defBody s_cell_at) (defScope s_cell_at) .none kV_cell_at dc_cell_at pm_cell_at an_cell_at cd_cell_at ct_cell_at), sl_cell_at⟩) (c_cell_at : PySem.W.codeIn K cd_cell_at "cell_at" = true) (k_cell_at : PySem.W.keepIn K (.ref f_cell_at) = true)
    {f_breakable_rows : Addr} {od_breakable_rows an_breakable_rows : Option Addr} {sl_breakable_rows : Array (Option Value)} {oc_breakable_rows kV_breakable_rows dc_breakable_rows pm_breakable_rows cd_breakable_rows ct_breakable_rows : Value}
    (a_breakable_rows : PySem.W.nsIn K mainGlobals "breakable_rows" = some (some (.ref f_breakable_rows))) (l_breakable_rows : K.lookup f_breakable_rows = some ⟨oc_breakable_rows, od_breakable_rows, .func (PySem.W.fnOf "breakable_rows" "breakable_rows" (defArgs s_breakable_rows) (defBody s_breakable_rows) (defScope s_breakable_rows) .none kV_breakable_rows dc_breakable_rows pm_breakable_rows an_breakable_rows cd_breakable_rows ct_breakable_rows), sl_breakable_rows⟩) (c_breakable_rows : PySem.W.codeIn K cd_breakable_rows "breakable_rows" = true) (k_breakable_rows : PySem.W.keepIn K (.ref f_breakable_rows) = true)
    {f_Lcell : Addr} {od_Lcell an_Lcell : Option Addr} {sl_Lcell : Array (Option Value)} {oc_Lcell kV_Lcell dc_Lcell pm_Lcell cd_Lcell ct_Lcell : Value}
    (a_Lcell : PySem.W.nsIn K mainGlobals "_law_cell" = some (some (.ref f_Lcell))) (l_Lcell : K.lookup f_Lcell = some ⟨oc_Lcell, od_Lcell, .func (PySem.W.fnOf "_law_cell" "_law_cell" (defArgs s_Lcell) (defBody s_Lcell) (defScope s_Lcell) .none kV_Lcell dc_Lcell pm_Lcell an_Lcell cd_Lcell ct_Lcell), sl_Lcell⟩) (c_Lcell : PySem.W.codeIn K cd_Lcell "_law_cell" = true) (k_Lcell : PySem.W.keepIn K (.ref f_Lcell) = true)
    {f_Ldraws : Addr} {od_Ldraws an_Ldraws : Option Addr} {sl_Ldraws : Array (Option Value)} {oc_Ldraws kV_Ldraws dc_Ldraws pm_Ldraws cd_Ldraws ct_Ldraws : Value}
    (a_Ldraws : PySem.W.nsIn K mainGlobals "_law_draws" = some (some (.ref f_Ldraws))) (l_Ldraws : K.lookup f_Ldraws = some ⟨oc_Ldraws, od_Ldraws, .func (PySem.W.fnOf "_law_draws" "_law_draws" (defArgs s_Ldraws) (defBody s_Ldraws) (defScope s_Ldraws) .none kV_Ldraws dc_Ldraws pm_Ldraws an_Ldraws cd_Ldraws ct_Ldraws), sl_Ldraws⟩) (c_Ldraws : PySem.W.codeIn K cd_Ldraws "_law_draws" = true) (k_Ldraws : PySem.W.keepIn K (.ref f_Ldraws) = true)
    {f_Lwords : Addr} {od_Lwords an_Lwords : Option Addr} {sl_Lwords : Array (Option Value)} {oc_Lwords kV_Lwords dc_Lwords pm_Lwords cd_Lwords ct_Lwords : Value}
    (a_Lwords : PySem.W.nsIn K mainGlobals "_law_words" = some (some (.ref f_Lwords))) (l_Lwords : K.lookup f_Lwords = some ⟨oc_Lwords, od_Lwords, .func (PySem.W.fnOf "_law_words" "_law_words" (defArgs s_Lwords) (defBody s_Lwords) (defScope s_Lwords) .none kV_Lwords dc_Lwords pm_Lwords an_Lwords cd_Lwords ct_Lwords), sl_Lwords⟩) (c_Lwords : PySem.W.codeIn K cd_Lwords "_law_words" = true) (k_Lwords : PySem.W.keepIn K (.ref f_Lwords) = true)
    {f_Lspan : Addr} {od_Lspan an_Lspan : Option Addr} {sl_Lspan : Array (Option Value)} {oc_Lspan kV_Lspan dc_Lspan pm_Lspan cd_Lspan ct_Lspan : Value}
    (a_Lspan : PySem.W.nsIn K mainGlobals "_law_span" = some (some (.ref f_Lspan))) (l_Lspan : K.lookup f_Lspan = some ⟨oc_Lspan, od_Lspan, .func (PySem.W.fnOf "_law_span" "_law_span" (defArgs s_Lspan) (defBody s_Lspan) (defScope s_Lspan) .none kV_Lspan dc_Lspan pm_Lspan an_Lspan cd_Lspan ct_Lspan), sl_Lspan⟩) (c_Lspan : PySem.W.codeIn K cd_Lspan "_law_span" = true) (k_Lspan : PySem.W.keepIn K (.ref f_Lspan) = true)
    {f_Lcells : Addr} {od_Lcells an_Lcells : Option Addr} {sl_Lcells : Array (Option Value)} {oc_Lcells kV_Lcells dc_Lcells pm_Lcells cd_Lcells ct_Lcells : Value}
    (a_Lcells : PySem.W.nsIn K mainGlobals "_law_cells" = some (some (.ref f_Lcells))) (l_Lcells : K.lookup f_Lcells = some ⟨oc_Lcells, od_Lcells, .func (PySem.W.fnOf "_law_cells" "_law_cells" (defArgs s_Lcells) (defBody s_Lcells) (defScope s_Lcells) .none kV_Lcells dc_Lcells pm_Lcells an_Lcells cd_Lcells ct_Lcells), sl_Lcells⟩) (c_Lcells : PySem.W.codeIn K cd_Lcells "_law_cells" = true) (k_Lcells : PySem.W.keepIn K (.ref f_Lcells) = true)
    {f_Ltable : Addr} {od_Ltable an_Ltable : Option Addr} {sl_Ltable : Array (Option Value)} {oc_Ltable kV_Ltable dc_Ltable pm_Ltable cd_Ltable ct_Ltable : Value}
    (a_Ltable : PySem.W.nsIn K mainGlobals "_law_table" = some (some (.ref f_Ltable))) (l_Ltable : K.lookup f_Ltable = some ⟨oc_Ltable, od_Ltable, .func (PySem.W.fnOf "_law_table" "_law_table" (defArgs s_Ltable) (defBody s_Ltable) (defScope s_Ltable) .none kV_Ltable dc_Ltable pm_Ltable an_Ltable cd_Ltable ct_Ltable), sl_Ltable⟩) (c_Ltable : PySem.W.codeIn K cd_Ltable "_law_table" = true) (k_Ltable : PySem.W.keepIn K (.ref f_Ltable) = true)
    {f_Lchanged : Addr} {od_Lchanged an_Lchanged : Option Addr} {sl_Lchanged : Array (Option Value)} {oc_Lchanged kV_Lchanged dc_Lchanged pm_Lchanged cd_Lchanged ct_Lchanged : Value}
    (a_Lchanged : PySem.W.nsIn K mainGlobals "_law_changed" = some (some (.ref f_Lchanged))) (l_Lchanged : K.lookup f_Lchanged = some ⟨oc_Lchanged, od_Lchanged, .func (PySem.W.fnOf "_law_changed" "_law_changed" (defArgs s_Lchanged) (defBody s_Lchanged) (defScope s_Lchanged) .none kV_Lchanged dc_Lchanged pm_Lchanged an_Lchanged cd_Lchanged ct_Lchanged), sl_Lchanged⟩) (c_Lchanged : PySem.W.codeIn K cd_Lchanged "_law_changed" = true) (k_Lchanged : PySem.W.keepIn K (.ref f_Lchanged) = true)
    {f_Lspoilt : Addr} {od_Lspoilt an_Lspoilt : Option Addr} {sl_Lspoilt : Array (Option Value)} {oc_Lspoilt kV_Lspoilt dc_Lspoilt pm_Lspoilt cd_Lspoilt ct_Lspoilt : Value}
    (a_Lspoilt : PySem.W.nsIn K mainGlobals "_law_spoilt" = some (some (.ref f_Lspoilt))) (l_Lspoilt : K.lookup f_Lspoilt = some ⟨oc_Lspoilt, od_Lspoilt, .func (PySem.W.fnOf "_law_spoilt" "_law_spoilt" (defArgs s_Lspoilt) (defBody s_Lspoilt) (defScope s_Lspoilt) .none kV_Lspoilt dc_Lspoilt pm_Lspoilt an_Lspoilt cd_Lspoilt ct_Lspoilt), sl_Lspoilt⟩) (c_Lspoilt : PySem.W.codeIn K cd_Lspoilt "_law_spoilt" = true) (k_Lspoilt : PySem.W.keepIn K (.ref f_Lspoilt) = true)
    {f_Lis_word : Addr} {od_Lis_word an_Lis_word : Option Addr} {sl_Lis_word : Array (Option Value)} {oc_Lis_word kV_Lis_word dc_Lis_word pm_Lis_word cd_Lis_word ct_Lis_word : Value}
    (a_Lis_word : PySem.W.nsIn K mainGlobals "_law_is_word" = some (some (.ref f_Lis_word))) (l_Lis_word : K.lookup f_Lis_word = some ⟨oc_Lis_word, od_Lis_word, .func (PySem.W.fnOf "_law_is_word" "_law_is_word" (defArgs s_Lis_word) (defBody s_Lis_word) (defScope s_Lis_word) .none kV_Lis_word dc_Lis_word pm_Lis_word an_Lis_word cd_Lis_word ct_Lis_word), sl_Lis_word⟩) (c_Lis_word : PySem.W.codeIn K cd_Lis_word "_law_is_word" = true) (k_Lis_word : PySem.W.keepIn K (.ref f_Lis_word) = true)
    {f_Lcolumn_right : Addr} {od_Lcolumn_right an_Lcolumn_right : Option Addr} {sl_Lcolumn_right : Array (Option Value)} {oc_Lcolumn_right kV_Lcolumn_right dc_Lcolumn_right pm_Lcolumn_right cd_Lcolumn_right ct_Lcolumn_right : Value}
    (a_Lcolumn_right : PySem.W.nsIn K mainGlobals "_law_column_right" = some (some (.ref f_Lcolumn_right))) (l_Lcolumn_right : K.lookup f_Lcolumn_right = some ⟨oc_Lcolumn_right, od_Lcolumn_right, .func (PySem.W.fnOf "_law_column_right" "_law_column_right" (defArgs s_Lcolumn_right) (defBody s_Lcolumn_right) (defScope s_Lcolumn_right) .none kV_Lcolumn_right dc_Lcolumn_right pm_Lcolumn_right an_Lcolumn_right cd_Lcolumn_right ct_Lcolumn_right), sl_Lcolumn_right⟩) (c_Lcolumn_right : PySem.W.codeIn K cd_Lcolumn_right "_law_column_right" = true) (k_Lcolumn_right : PySem.W.keepIn K (.ref f_Lcolumn_right) = true)
    {f_Lcells_fault : Addr} {od_Lcells_fault an_Lcells_fault : Option Addr} {sl_Lcells_fault : Array (Option Value)} {oc_Lcells_fault kV_Lcells_fault dc_Lcells_fault pm_Lcells_fault cd_Lcells_fault ct_Lcells_fault : Value}
    (a_Lcells_fault : PySem.W.nsIn K mainGlobals "_law_cells_fault" = some (some (.ref f_Lcells_fault))) (l_Lcells_fault : K.lookup f_Lcells_fault = some ⟨oc_Lcells_fault, od_Lcells_fault, .func (PySem.W.fnOf "_law_cells_fault" "_law_cells_fault" (defArgs s_Lcells_fault) (defBody s_Lcells_fault) (defScope s_Lcells_fault) .none kV_Lcells_fault dc_Lcells_fault pm_Lcells_fault an_Lcells_fault cd_Lcells_fault ct_Lcells_fault), sl_Lcells_fault⟩) (c_Lcells_fault : PySem.W.codeIn K cd_Lcells_fault "_law_cells_fault" = true) (k_Lcells_fault : PySem.W.keepIn K (.ref f_Lcells_fault) = true)
    {f_Lfault : Addr} {od_Lfault an_Lfault : Option Addr} {sl_Lfault : Array (Option Value)} {oc_Lfault kV_Lfault dc_Lfault pm_Lfault cd_Lfault ct_Lfault : Value}
    (a_Lfault : PySem.W.nsIn K mainGlobals "_law_fault" = some (some (.ref f_Lfault))) (l_Lfault : K.lookup f_Lfault = some ⟨oc_Lfault, od_Lfault, .func (PySem.W.fnOf "_law_fault" "_law_fault" (defArgs s_Lfault) (defBody s_Lfault) (defScope s_Lfault) .none kV_Lfault dc_Lfault pm_Lfault an_Lfault cd_Lfault ct_Lfault), sl_Lfault⟩) (c_Lfault : PySem.W.codeIn K cd_Lfault "_law_fault" = true) (k_Lfault : PySem.W.keepIn K (.ref f_Lfault) = true)
    {f_Ltold : Addr} {od_Ltold an_Ltold : Option Addr} {sl_Ltold : Array (Option Value)} {oc_Ltold kV_Ltold dc_Ltold pm_Ltold cd_Ltold ct_Ltold : Value}
    (a_Ltold : PySem.W.nsIn K mainGlobals "_law_told" = some (some (.ref f_Ltold))) (l_Ltold : K.lookup f_Ltold = some ⟨oc_Ltold, od_Ltold, .func (PySem.W.fnOf "_law_told" "_law_told" (defArgs s_Ltold) (defBody s_Ltold) (defScope s_Ltold) .none kV_Ltold dc_Ltold pm_Ltold an_Ltold cd_Ltold ct_Ltold), sl_Ltold⟩) (c_Ltold : PySem.W.codeIn K cd_Ltold "_law_told" = true) (k_Ltold : PySem.W.keepIn K (.ref f_Ltold) = true)
    {f_law : Addr} {od_law an_law : Option Addr} {sl_law : Array (Option Value)} {oc_law kV_law dc_law pm_law cd_law ct_law : Value}
    (a_law : PySem.W.nsIn K mainGlobals "law" = some (some (.ref f_law))) (l_law : K.lookup f_law = some ⟨oc_law, od_law, .func (PySem.W.fnOf "law" "law" (defArgs s_law) (defBody s_law) (defScope s_law) .none kV_law dc_law pm_law an_law cd_law ct_law), sl_law⟩) (c_law : PySem.W.codeIn K cd_law "law" = true) (k_law : PySem.W.keepIn K (.ref f_law) = true)
    (z_len : PySem.W.nsIn K mainGlobals "len" = some none)
    (z_all : PySem.W.nsIn K mainGlobals "all" = some none)
    (z_range : PySem.W.nsIn K mainGlobals "range" = some none)
    (z_enumerate : PySem.W.nsIn K mainGlobals "enumerate" = some none)
    (z_any : PySem.W.nsIn K mainGlobals "any" = some none)
    (z_tuple : PySem.W.nsIn K mainGlobals "tuple" = some none)
    (z_isinstance : PySem.W.nsIn K mainGlobals "isinstance" = some none)
    (z_ValueError : PySem.W.nsIn K mainGlobals "ValueError" = some none)
    (y_MOST_CHARACTERS : PySem.W.nsIn K mainGlobals "MOST_CHARACTERS" = some (some (.int 8 t_MOST_CHARACTERS)))
    (y_CHARACTERS : PySem.W.nsIn K mainGlobals "CHARACTERS" = some (some (.str "ABCDEFGHIJKLMNOPQRSTUVWXYZabcdefghijklmnopqrstuvwxyz0123456789.,:;!?'()/" t_CHARACTERS)))
    (y_MOST_WORDS : PySem.W.nsIn K mainGlobals "MOST_WORDS" = some (some (.int 4 t_MOST_WORDS)))
    (y_MOST_COLUMNS : PySem.W.nsIn K mainGlobals "MOST_COLUMNS" = some (some (.int 4 t_MOST_COLUMNS)))
    (y_MOST_ROWS : PySem.W.nsIn K mainGlobals "MOST_ROWS" = some (some (.int 4 t_MOST_ROWS)))
    {z_ALIGNS : Addr} {n_ALIGNS : Nat} {sl_ALIGNS : Array (Option Value)} {t_ALIGNS_0 : Tok} {t_ALIGNS_1 : Tok} {t_ALIGNS_2 : Tok} (y_ALIGNS : PySem.W.nsIn K mainGlobals "ALIGNS" = some (some (.ref z_ALIGNS))) (v_ALIGNS : K.lookup z_ALIGNS = some ⟨.type "tuple", none, .seq #[.str "left" t_ALIGNS_0, .str "right" t_ALIGNS_1, .str "center" t_ALIGNS_2] n_ALIGNS, sl_ALIGNS⟩)
    {C fI : Addr} {Cnm Cq : Str} {CN : Addr} {Cbs Cbm : List Value} {Csn : List Str} {Csub : List Value} {Cab : Bool} {Ccol : Option Bool} {Cdd : Option Addr} {Ck0 Ck1 Ck2 Ck3 Ck5 : Option Value}
    {Ioc Idoc Ipm Ict : Value} {Iod Ian : Option Addr} {Ida Icc : Addr} {Isl : Array (Option Value)} {Ivs : Array Value} {Ifile : Str} {Itf : Tok} {Ic1 Ic2 : Value} {Id1 Id2 : Option Addr} {Is1 Is2 : Array (Option Value)}
    (qgC : PySem.W.nsIn K mainGlobals "Refused" = some (some (.ref C))) (qcls : K.lookup C = some (excClassObj Cnm Cq C CN Cbs Cbm true Csn Csub Cab Ccol Cdd Ck0 Ck1 Ck2 Ck3 Ck5 "ValueError.__new__")) (qbm : PySem.HandSPX.refsVE Cbm = true)
    (qsa : PySem.W.findIn K (.ref C) "__setattr__" = some (some (.builtin "object.__setattr__"))) (qga : PySem.W.findIn K (.ref C) "__getattribute__" = some (some (.builtin "BaseException.__getattribute__"))) (qgg : PySem.W.findIn K (.ref C) "__getattr__" = some none) (qnoN : PySem.W.findIn K (.ref C) "what" = some none)
    (qiC : PySem.W.findIn K (.ref C) "__init__" = some (some (.ref fI))) (qtC : PySem.W.typeIn K (.ref fI) = some (.type "function")) (qkC : PySem.W.keepIn K (.ref C) = true) (qexC : PySem.W.subIn K (.ref C) (.type "BaseException") = some true) (qtyC : PySem.W.typeIn K (.ref C) = some (.type "type")) (qhdC : PySem.W.hasDictIn K C = true)
    (qic : PySem.W.isClsIn K C = true) (qsC : PySem.W.subIn K (.ref C) (.ref C) = some true) (qsup : PySem.W.nsIn K mainGlobals "super" = some none) (qopq : PySem.W.nsIn K cStatics "thirdparty.any" = some none) (qsIn : PySem.W.ks_superIn K C C "__init__" = some (some (.builtin "ValueError.__init__"))) (qhB : PySem.W.subIn K (.ref C) (.type "ValueError") = some true)
    (qmro : PySem.W.mroIn K C (.ref C) = some true) (qtop : (l.prog.main.scope.names.lookup ("super" : Str)).isSome = false)
    (qfn : K.lookup fI = some ⟨Ioc, Iod, .func (PySem.W.fnX "__init__" "Refused.__init__" PySem.RfX.iA PySem.RfX.iB PySem.RfX.iS [("__class__", Icc)] .none .none Idoc Ipm Ian (.ref Ida) Ict), Isl⟩) (qcd : PySem.W.codeIn K (.ref Ida) "Refused.__init__" = true)
    (qco : K.lookup Ida = some ⟨Ic1, Id1, .fields Ivs, Is1⟩) (qvs : Ivs[2]? = some (.str Ifile Itf)) (qfile : ((l.prog.main.file : Str) == Ifile) = true) (qcell : K.lookup Icc = some ⟨Ic2, Id2, .cell (some (.ref C)), Is2⟩)
    (qkx1 : (PySem.W.clsIn K C).isSome = true) (qkx2 : PySem.W.findIn K (.ref C) "__class__" = some (some (.builtin "object.__class__"))) (qkx3 : PySem.W.specialIn K (.builtin "object.__class__") "__get__" = some (some (.builtin "getset_descriptor.__get__"))) (qkx4 : PySem.W.takesIn K (.builtin "object.__class__") = some true) (qkx5 : PySem.W.mroIn K C (.type "object") = some true)
    {zc_BookError : Addr} (yc_BookError : PySem.W.nsIn K mainGlobals "BookError" = some (some (.ref zc_BookError))) (kq_BookError : PySem.W.kitOne K (.ref C) (.ref zc_BookError) = some true)
    (kq_ValueError : PySem.W.kitOne K (.ref C) (.type "ValueError") = some true)
    : ∃ fd : FuncData, (∀ (s : Shared) (v : Value), BindsTo s fd ⟨[v], []⟩ [("script", v)]) ∧ ∀ base : Heap, K.In base → base.Ns mainGlobals mg → FnOk l.prog w K mg base CX0 7 fa fd ["script"] (spF K g_law) := by
  have e := hfa.symm.trans (PySem.W.mg_of X G a_law)
  cases e
  have F_is_word := fun_mk (st := s_is_word) l_is_word c_is_word k_is_word
  have b_is_word := F_is_word.binds (ps := ["text"]) fun _ _ _ _ _ _ us hl => match us, hl with | [_], _ => rfl
  have F_are_words := fun_mk (st := s_are_words) l_are_words c_are_words k_are_words
  have b_are_words := F_are_words.binds (ps := ["words"]) fun _ _ _ _ _ _ us hl => match us, hl with | [_], _ => rfl
  have F_is_column := fun_mk (st := s_is_column) l_is_column c_is_column k_is_column
  have b_is_column := F_is_column.binds (ps := ["column"]) fun _ _ _ _ _ _ us hl => match us, hl with | [_], _ => rfl
  have F_are_columns := fun_mk (st := s_are_columns) l_are_columns c_are_columns k_are_columns
  have b_are_columns := F_are_columns.binds (ps := ["columns"]) fun _ _ _ _ _ _ us hl => match us, hl with | [_], _ => rfl
  have F_is_row := fun_mk (st := s_is_row) l_is_row c_is_row k_is_row
  have b_is_row := F_is_row.binds (ps := ["row"]) fun _ _ _ _ _ _ us hl => match us, hl with | [_], _ => rfl
  have F_are_rows := fun_mk (st := s_are_rows) l_are_rows c_are_rows k_are_rows
  have b_are_rows := F_are_rows.binds (ps := ["rows"]) fun _ _ _ _ _ _ us hl => match us, hl with | [_], _ => rfl
  have F_are_heads_first := fun_mk (st := s_are_heads_first) l_are_heads_first c_are_heads_first k_are_heads_first
  have b_are_heads_first := F_are_heads_first.binds (ps := ["rows"]) fun _ _ _ _ _ _ us hl => match us, hl with | [_], _ => rfl
  have F_are_in_order := fun_mk (st := s_are_in_order) l_are_in_order c_are_in_order k_are_in_order
  have b_are_in_order := F_are_in_order.binds (ps := ["cells"]) fun _ _ _ _ _ _ us hl => match us, hl with | [_], _ => rfl
  have F_is_inside := fun_mk (st := s_is_inside) l_is_inside c_is_inside k_is_inside
  have b_is_inside := F_is_inside.binds (ps := ["cell", "row_count", "column_count"]) fun _ _ _ _ _ _ us hl => match us, hl with | [_, _, _], _ => rfl
  have F_covers := fun_mk (st := s_covers) l_covers c_covers k_covers
  have b_covers := F_covers.binds (ps := ["cell", "row", "column"]) fun _ _ _ _ _ _ us hl => match us, hl with | [_, _, _], _ => rfl
  have F_covers_both := fun_mk (st := s_covers_both) l_covers_both c_covers_both k_covers_both
  have b_covers_both := F_covers_both.binds (ps := ["cell", "row"]) fun _ _ _ _ _ _ us hl => match us, hl with | [_, _], _ => rfl
  have F_is_covered_once := fun_mk (st := s_is_covered_once) l_is_covered_once c_is_covered_once k_is_covered_once
  have b_is_covered_once := F_is_covered_once.binds (ps := ["table"]) fun _ _ _ _ _ _ us hl => match us, hl with | [_], _ => rfl
  have F_head_count := fun_mk (st := s_head_count) l_head_count c_head_count k_head_count
  have b_head_count := F_head_count.binds (ps := ["table"]) fun _ _ _ _ _ _ us hl => match us, hl with | [_], _ => rfl
  have F_check_table := fun_mk (st := s_check_table) l_check_table c_check_table k_check_table
  have b_check_table := F_check_table.binds (ps := ["table"]) fun _ _ _ _ _ _ us hl => match us, hl with | [_], _ => rfl
  have F_cell_at := fun_mk (st := s_cell_at) l_cell_at c_cell_at k_cell_at
  have b_cell_at := F_cell_at.binds (ps := ["table", "row", "column"]) fun _ _ _ _ _ _ us hl => match us, hl with | [_, _, _], _ => rfl
  have F_breakable_rows := fun_mk (st := s_breakable_rows) l_breakable_rows c_breakable_rows k_breakable_rows
  have b_breakable_rows := F_breakable_rows.binds (ps := ["table"]) fun _ _ _ _ _ _ us hl => match us, hl with | [_], _ => rfl
  have F_Lcell := fun_mk (st := s_Lcell) l_Lcell c_Lcell k_Lcell
  have b_Lcell := F_Lcell.binds (ps := ["script", "k"]) fun _ _ _ _ _ _ us hl => match us, hl with | [_, _], _ => rfl
  have F_Ldraws := fun_mk (st := s_Ldraws) l_Ldraws c_Ldraws k_Ldraws
  have b_Ldraws := F_Ldraws.binds (ps := ["cell", "count"]) fun _ _ _ _ _ _ us hl => match us, hl with | [_, _], _ => rfl
  have F_Lwords := fun_mk (st := s_Lwords) l_Lwords c_Lwords k_Lwords
  have b_Lwords := F_Lwords.binds (ps := ["number"]) fun _ _ _ _ _ _ us hl => match us, hl with | [_], _ => rfl
  have F_Lspan := fun_mk (st := s_Lspan) l_Lspan c_Lspan k_Lspan
  have b_Lspan := F_Lspan.binds (ps := ["covered", "row", "column", "extent", "number"]) fun _ _ _ _ _ _ us hl => match us, hl with | [_, _, _, _, _], _ => rfl
  have F_Lcells := fun_mk (st := s_Lcells) l_Lcells c_Lcells k_Lcells
  have b_Lcells := F_Lcells.binds (ps := ["extent", "draws"]) fun _ _ _ _ _ _ us hl => match us, hl with | [_, _], _ => rfl
  have F_Ltable := fun_mk (st := s_Ltable) l_Ltable c_Ltable k_Ltable
  have b_Ltable := F_Ltable.binds (ps := ["script", "at", "most_columns", "most_rows"]) fun _ _ _ _ _ _ us hl => match us, hl with | [_, _, _, _], _ => rfl
  have F_Lchanged := fun_mk (st := s_Lchanged) l_Lchanged c_Lchanged k_Lchanged
  have b_Lchanged := F_Lchanged.binds (ps := ["things", "at", "thing"]) fun _ _ _ _ _ _ us hl => match us, hl with | [_, _, _], _ => rfl
  have F_Lspoilt := fun_mk (st := s_Lspoilt) l_Lspoilt c_Lspoilt k_Lspoilt
  have b_Lspoilt := F_Lspoilt.binds (ps := ["table", "draws"]) fun _ _ _ _ _ _ us hl => match us, hl with | [_, _], _ => rfl
  have F_Lis_word := fun_mk (st := s_Lis_word) l_Lis_word c_Lis_word k_Lis_word
  have b_Lis_word := F_Lis_word.binds (ps := ["word"]) fun _ _ _ _ _ _ us hl => match us, hl with | [_], _ => rfl
  have F_Lcolumn_right := fun_mk (st := s_Lcolumn_right) l_Lcolumn_right c_Lcolumn_right k_Lcolumn_right
  have b_Lcolumn_right := F_Lcolumn_right.binds (ps := ["column"]) fun _ _ _ _ _ _ us hl => match us, hl with | [_], _ => rfl
  have F_Lcells_fault := fun_mk (st := s_Lcells_fault) l_Lcells_fault c_Lcells_fault k_Lcells_fault
  have b_Lcells_fault := F_Lcells_fault.binds (ps := ["table"]) fun _ _ _ _ _ _ us hl => match us, hl with | [_], _ => rfl
  have F_Lfault := fun_mk (st := s_Lfault) l_Lfault c_Lfault k_Lfault
  have b_Lfault := F_Lfault.binds (ps := ["table"]) fun _ _ _ _ _ _ us hl => match us, hl with | [_], _ => rfl
  have F_Ltold := fun_mk (st := s_Ltold) l_Ltold c_Ltold k_Ltold
  have b_Ltold := F_Ltold.binds (ps := ["table"]) fun _ _ _ _ _ _ us hl => match us, hl with | [_], _ => rfl
  have F_law := fun_mk (st := s_law) l_law c_law k_law
  have b_law := F_law.binds (ps := ["script"]) fun _ _ _ _ _ _ us hl => match us, hl with | [_], _ => rfl
  have T : PySem.RfX.RfTxt l.prog K mg C fI :=
    { gC := PySem.W.mg_of X G qgC, cls := ⟨Cnm, Cq, CN, Cbs, Cbm, Csn, Csub, Cab, Ccol, Cdd, Ck0, Ck1, Ck2, Ck3, Ck5, qcls, qbm⟩, sa := qsa, ga := qga, gg := qgg, noN := qnoN, iC := qiC, tC := qtC, kC := qkC, exC := qexC, tyC := qtyC, hdC := qhdC, te := L2.exm_selfR qexC qic qtyC qsC, sup := PySem.W.mg_none_of X G qsup, opq := qopq, sIn := qsIn, hB := qhB, mro := qmro, top := qtop,
      fn := ⟨_, _, _, _, _, _, _, _, _, _, _, _, _, _, _, _, _, _, qfn, qcd, qco, qvs, qfile, qcell⟩ }
  have Z_ALIGNS : KTup K z_ALIGNS TUP_ALIGNS := ⟨_, _, _, v_ALIGNS, rfl, rfl, (show 3 ≤ sizeLine by decide), (.cons ⟨_, rfl⟩ (.cons ⟨_, rfl⟩ (.cons ⟨_, rfl⟩ .nil)))⟩
  have Y_ALIGNS : ∃ o, K.lookup z_ALIGNS = some o ∧ o.cls = .type "tuple" ∧ o.dict = none := ⟨_, v_ALIGNS, rfl, rfl⟩
  refine ⟨PySem.W.fnOf "law" "law" (defArgs s_law) (defBody s_law) (defScope s_law) .none kV_law dc_law pm_law an_law cd_law ct_law, fun s v => .of_eq rfl, fun base _ _ => ?_⟩
  have H_is_word := ok_is_word (P := l.prog) (w := w) (mg := mg) (base := base) F_is_word (PySem.W.mg_none_of X G z_len) (PySem.W.mg_none_of X G z_all) (PySem.W.mg_of X G y_MOST_CHARACTERS) (PySem.W.mg_of X G y_CHARACTERS)
  have H_are_words := ok_are_words (P := l.prog) (w := w) (mg := mg) (base := base) F_are_words H_is_word (PySem.W.mg_of X G a_is_word) k_is_word b_is_word (PySem.W.mg_none_of X G z_len) (PySem.W.mg_none_of X G z_all) (PySem.W.mg_of X G y_MOST_WORDS)
  have H_is_column := ok_is_column (P := l.prog) (w := w) (mg := mg) (base := base) F_is_column (PySem.W.mg_of X G y_ALIGNS) Z_ALIGNS Y_ALIGNS
  have H_are_columns := ok_are_columns (P := l.prog) (w := w) (mg := mg) (base := base) F_are_columns H_is_column (PySem.W.mg_of X G a_is_column) k_is_column b_is_column (PySem.W.mg_none_of X G z_len) (PySem.W.mg_none_of X G z_all) (PySem.W.mg_of X G y_MOST_COLUMNS)
  have H_is_row := ok_is_row (P := l.prog) (w := w) (mg := mg) (base := base) F_is_row
  have H_are_rows := ok_are_rows (P := l.prog) (w := w) (mg := mg) (base := base) F_are_rows H_is_row (PySem.W.mg_of X G a_is_row) k_is_row b_is_row (PySem.W.mg_none_of X G z_len) (PySem.W.mg_none_of X G z_all) (PySem.W.mg_of X G y_MOST_ROWS)
  have H_are_heads_first := ok_are_heads_first (P := l.prog) (w := w) (mg := mg) (base := base) F_are_heads_first (PySem.W.mg_none_of X G z_len) (PySem.W.mg_none_of X G z_range)
  have H_are_in_order := ok_are_in_order (P := l.prog) (w := w) (mg := mg) (base := base) F_are_in_order (PySem.W.mg_none_of X G z_len) (PySem.W.mg_none_of X G z_range)
  have H_is_inside := ok_is_inside (P := l.prog) (w := w) (mg := mg) (base := base) F_is_inside
  have H_covers := ok_covers (P := l.prog) (w := w) (mg := mg) (base := base) F_covers
  have H_covers_both := ok_covers_both (P := l.prog) (w := w) (mg := mg) (base := base) F_covers_both
  have H_is_covered_once := ok_is_covered_once (P := l.prog) (w := w) (mg := mg) (base := base) F_is_covered_once H_covers (PySem.W.mg_of X G a_covers) k_covers b_covers (PySem.W.mg_none_of X G z_len) (PySem.W.mg_none_of X G z_range)
  have H_head_count := ok_head_count (P := l.prog) (w := w) (mg := mg) (base := base) F_head_count (PySem.W.mg_none_of X G z_len)
  have H_check_table := ok_check_table (P := l.prog) (w := w) (mg := mg) (base := base) F_check_table T H_are_columns (PySem.W.mg_of X G a_are_columns) k_are_columns b_are_columns H_are_rows (PySem.W.mg_of X G a_are_rows) k_are_rows b_are_rows H_are_heads_first (PySem.W.mg_of X G a_are_heads_first) k_are_heads_first b_are_heads_first H_are_in_order (PySem.W.mg_of X G a_are_in_order) k_are_in_order b_are_in_order H_is_inside (PySem.W.mg_of X G a_is_inside) k_is_inside b_is_inside H_is_covered_once (PySem.W.mg_of X G a_is_covered_once) k_is_covered_once b_is_covered_once H_head_count (PySem.W.mg_of X G a_head_count) k_head_count b_head_count H_are_words (PySem.W.mg_of X G a_are_words) k_are_words b_are_words H_covers_both (PySem.W.mg_of X G a_covers_both) k_covers_both b_covers_both (PySem.W.mg_none_of X G z_len) (PySem.W.mg_none_of X G z_all)
  have H_cell_at := ok_cell_at (P := l.prog) (w := w) (mg := mg) (base := base) F_cell_at H_covers (PySem.W.mg_of X G a_covers) k_covers b_covers (PySem.W.mg_none_of X G z_enumerate)
  have H_breakable_rows := ok_breakable_rows (P := l.prog) (w := w) (mg := mg) (base := base) F_breakable_rows H_head_count (PySem.W.mg_of X G a_head_count) k_head_count b_head_count H_covers_both (PySem.W.mg_of X G a_covers_both) k_covers_both b_covers_both (PySem.W.mg_none_of X G z_len) (PySem.W.mg_none_of X G z_range) (PySem.W.mg_none_of X G z_any)
  have H_Lcell := ok_Lcell (P := l.prog) (w := w) (mg := mg) (base := base) F_Lcell (PySem.W.mg_none_of X G z_len)
  have H_Ldraws := ok_Ldraws (P := l.prog) (w := w) (mg := mg) (base := base) F_Ldraws (PySem.W.mg_none_of X G z_range)
  have H_Lwords := ok_Lwords (P := l.prog) (w := w) (mg := mg) (base := base) F_Lwords (PySem.W.mg_none_of X G z_range) (PySem.W.mg_none_of X G z_tuple)
  have H_Lspan := ok_Lspan (P := l.prog) (w := w) (mg := mg) (base := base) F_Lspan
  have H_Lcells := ok_Lcells (P := l.prog) (w := w) (mg := mg) (base := base) F_Lcells H_Lspan (PySem.W.mg_of X G a_Lspan) k_Lspan b_Lspan H_Lwords (PySem.W.mg_of X G a_Lwords) k_Lwords b_Lwords (PySem.W.mg_none_of X G z_range) (PySem.W.mg_none_of X G z_tuple)
  have H_Ltable := ok_Ltable (P := l.prog) (w := w) (mg := mg) (base := base) F_Ltable H_Ldraws (PySem.W.mg_of X G a_Ldraws) k_Ldraws b_Ldraws H_Lcell (PySem.W.mg_of X G a_Lcell) k_Lcell b_Lcell H_Lcells (PySem.W.mg_of X G a_Lcells) k_Lcells b_Lcells (PySem.W.mg_none_of X G z_range) (PySem.W.mg_none_of X G z_tuple)
  have H_Lchanged := ok_Lchanged (P := l.prog) (w := w) (mg := mg) (base := base) F_Lchanged (PySem.W.mg_none_of X G z_len) (PySem.W.mg_none_of X G z_range) (PySem.W.mg_none_of X G z_tuple)
  have H_Lspoilt := ok_Lspoilt (P := l.prog) (w := w) (mg := mg) (base := base) F_Lspoilt H_Lchanged (PySem.W.mg_of X G a_Lchanged) k_Lchanged b_Lchanged (PySem.W.mg_none_of X G z_len)
  have H_Lis_word := ok_Lis_word (P := l.prog) (w := w) (mg := mg) (base := base) F_Lis_word (PySem.W.mg_none_of X G z_len)
  have H_Lcolumn_right := ok_Lcolumn_right (P := l.prog) (w := w) (mg := mg) (base := base) F_Lcolumn_right
  have H_Lcells_fault := ok_Lcells_fault (P := l.prog) (w := w) (mg := mg) (base := base) F_Lcells_fault (PySem.W.mg_none_of X G z_len) (PySem.W.mg_none_of X G z_range)
  have H_Lfault := ok_Lfault (P := l.prog) (w := w) (mg := mg) (base := base) F_Lfault H_Lcolumn_right (PySem.W.mg_of X G a_Lcolumn_right) k_Lcolumn_right b_Lcolumn_right H_Lcells_fault (PySem.W.mg_of X G a_Lcells_fault) k_Lcells_fault b_Lcells_fault H_Lis_word (PySem.W.mg_of X G a_Lis_word) k_Lis_word b_Lis_word (PySem.W.mg_none_of X G z_len) (PySem.W.mg_none_of X G z_range)
  have H_Ltold := ok_Ltold (P := l.prog) (w := w) (mg := mg) (base := base) F_Ltold T H_check_table (PySem.W.mg_of X G a_check_table) k_check_table b_check_table (PySem.W.mg_none_of X G z_isinstance) (PySem.W.mg_none_of X G z_ValueError) (PySem.W.mg_of X G yc_BookError) kq_BookError kq_ValueError ⟨qkx1, qkx2, qkx3, qkx4, qkx5⟩
  have H_law := ok_law (P := l.prog) (w := w) (mg := mg) (base := base) F_law H_Lspoilt (PySem.W.mg_of X G a_Lspoilt) k_Lspoilt b_Lspoilt H_Ltable (PySem.W.mg_of X G a_Ltable) k_Ltable b_Ltable H_Ldraws (PySem.W.mg_of X G a_Ldraws) k_Ldraws b_Ldraws H_Lcell (PySem.W.mg_of X G a_Lcell) k_Lcell b_Lcell H_Lfault (PySem.W.mg_of X G a_Lfault) k_Lfault b_Lfault H_Ltold (PySem.W.mg_of X G a_Ltold) k_Ltold b_Ltold H_head_count (PySem.W.mg_of X G a_head_count) k_head_count b_head_count H_breakable_rows (PySem.W.mg_of X G a_breakable_rows) k_breakable_rows b_breakable_rows H_cell_at (PySem.W.mg_of X G a_cell_at) k_cell_at b_cell_at (PySem.W.mg_none_of X G z_len) (PySem.W.mg_none_of X G z_range)
  exact H_law
end K05

namespace K05
open PySem PySem.Spec PyProof.Rows L2 Mir
theorem inT_pr (p : Int × Int) (ps : List (Int × Int)) : inT (pr p) (.list (ps.map pr)) = some (.bool (decide (p ∈ ps))) := inD_pr p ps
theorem notInT_pr (p : Int × Int) (ps : List (Int × Int)) : notInT (pr p) (.list (ps.map pr)) = some (.bool (!decide (p ∈ ps))) := by
  unfold notInT
  rw [inT_pr]
/-! the law's draws -/
theorem cell_ev (ns : List Int) (k : Nat) : g_Lcell [.list (ns.map .int), .int k] = some (.int (ns.getD k 0)) := by
  show outD (f_Lcell [.val (.list (ns.map .int)), .val (.int k)]) = _
  by_cases h : k < ns.length
  · have e1 : atI (ns.map PyData.int) (k : Int) = some (.int (ns.getD k 0)) := atI_map _ _ _ _ (by simp [List.getD, h])
    simp [f_Lcell, sSeq, sIf, t1, e2, eVar, eCall, aCons, aNil, lenA, ltD, i2, h, sRet, ixG, e1, outD]
  · have e1 : ns.getD k 0 = 0 := by simp [List.getD, List.getElem?_eq_none (Nat.le_of_not_lt h)]
    simp [f_Lcell, sSeq, sIf, t1, e2, eVar, eCall, aCons, aNil, lenA, ltD, i2, h, sRet, ixG, e1, outD, sNil, eC]
theorem pow18 : ∃ z : Int, powD (.int 10) (.int 18) = some (.int z) := by
  refine ⟨10 ^ (18 : Int).toNat, ?_⟩
  show (if CPow 10 18 then some (PyData.int (10 ^ (18 : Int).toNat)) else none) = _
  rw [if_pos ⟨by decide, by decide, by decide⟩]
theorem z1 (c z : Int) (n : Nat) (hp : powD (.int 10) (.int 18) = some (.int z)) : sSet 3 (e2 geD (eVar 0) (e2 powD (eC (.int 10)) (eC (.int 18)))) [.val (.int c), .val (.int n), .own [], .un, .un, .un] = .nx [.val (.int c), .val (.int n), .own [], .val (.bool (decide (z ≤ c))), .un, .un] := sSet_ev (e2_ev rfl (e2_ev rfl rfl hp) (geD_int c z))
theorem z2 (c z : Int) (n : Nat) (hn : n ≤ 1000) : iR1 (aCons (eVar 1) aNil) [.val (.int c), .val (.int n), .own [], .val (.bool (decide (z ≤ c))), .un, .un] = some (rngD 0 n) := by
    have := iR1_ev (fa := aCons (eVar 1) aNil) (env := [.val (.int c), .val (.int n), .own [], .val (.bool (decide (z ≤ c))), .un, .un]) (N := n) rfl (by omega) (by omega)
    rw [Int.toNat_natCast] at this
    exact this
theorem z3 (c z c' : Int) (n : Nat) (hn : n ≤ 1000) (ds : List Int) (x y : Sl) (h1 : loopF (gVal 4) b_Ldraws_1 (rngD 0 n) [.val (.int c), .val (.int n), .own [], .val (.bool (decide (z ≤ c))), .un, .un] = .nx [.val (.int c'), .val (.int n), .own (ds.map PyData.int), .val (.bool (decide (z ≤ c))), x, y])
 (hp : powD (.int 10) (.int 18) = some (.int z)) : f_Ldraws [.val (.int c), .val (.int n), .un, .un, .un, .un] = .rt (.list (ds.map PyData.int)) := by
    have k1 : sOwn 2 (fLst aNil) [.val (.int c), .val (.int n), .un, .un, .un, .un] = .nx [.val (.int c), .val (.int n), .own [], .un, .un, .un] := rfl
    unfold f_Ldraws
    rw [sSeq_nx k1, sSeq_nx (z1 c z n hp), sSeq_nx (sFor_ev (z2 c z n hn) h1)]
    rfl
theorem z4 (c : Int) (n : Nat) (ds : List Int) (this : f_Ldraws [.val (.int c), .val (.int n), .un, .un, .un, .un] = .rt (.list (ds.map PyData.int))) : g_Ldraws [.int c, .int n] = some (.list (ds.map PyData.int)) := gDef_ev (fB := f_Ldraws) rfl this
theorem draws_key (c : Int) (n : Nat) (hn : n ≤ 1000) (wide : Bool) : ∃ (c' : Int) (ds : List Int) (x y : Sl), loopF (gVal 4) b_Ldraws_1 (rngD 0 n) [.val (.int c), .val (.int n), .own [], .val (.bool wide), .un, .un] = .nx [.val (.int c'), .val (.int n), .own (ds.map .int), .val (.bool wide), x, y] ∧ ds.length = n ∧ ∀ d ∈ ds, 0 ≤ d ∧ d < 1000003 := by
  have key : ∃ e', loopF (gVal 4) b_Ldraws_1 (rngD 0 n) [.val (.int c), .val (.int n), .own [], .val (.bool wide), .un, .un] = .nx e' ∧
      (∃ (c' : Int) (ds : List Int) (x y : Sl), e' = [.val (.int c'), .val (.int n), .own (ds.map .int), .val (.bool wide), x, y] ∧ ds.length = n ∧ ∀ d ∈ ds, 0 ≤ d ∧ d < 1000003) := by
    refine loop_rng (fun j e => ∃ (c' : Int) (ds : List Int) (x y : Sl), e = [.val (.int c'), .val (.int n), .own (ds.map .int), .val (.bool wide), x, y] ∧ ds.length = j ∧ ∀ d ∈ ds, 0 ≤ d ∧ d < 1000003) ?_ ⟨c, [], .un, .un, rfl, rfl, fun d h => by cases h⟩
    rintro j e hj ⟨c', ds, x, y, rfl, hd, hb⟩
    obtain ⟨k, hk⟩ : ∃ k : Int, k = 0 + (j : Nat) := ⟨_, rfl⟩
    have hk1 : 0 ≤ k ∧ k < 1000 := by omega
    rw [← hk]
    refine ⟨[.val (.int c'), .val (.int n), .own (ds.map .int), .val (.bool wide), .val (.int k), y], rfl, ?_⟩
    have hl : ds.length < 1000000 := by omega
    cases wide with
    | true =>
      refine ⟨_, .inl (show b_Ldraws_1 _ = .nx [.val (.int (c' / 1009)), .val (.int n), .own ((ds ++ [c' % 1009]).map .int), .val (.bool true), .val (.int k), y] from ?_), c' / 1009, ds ++ [c' % 1009], .val (.int k), y, rfl, by simp [hd], ?_⟩
      · unfold b_Ldraws_1
        rw [sIf_t (by rfl)]
        exact draw_t' 1009 c' n ds _ _ y hl (by decide) (by decide)
      · intro d h
        rcases List.mem_append.mp h with h | h
        · exact hb d h
        · rw [List.mem_singleton.mp h]
          have h1 := Int.emod_nonneg c' (show (1009 : Int) ≠ 0 by decide)
          have h2 := Int.emod_lt_of_pos c' (show (0 : Int) < 1009 by decide)
          omega
    | false =>
      obtain ⟨m, hm⟩ : ∃ m : Int, (c' * 48271 + k * 69621) % 2147483647 = m := ⟨_, rfl⟩
      have hm1 : 0 ≤ m := by rw [← hm]; exact Int.emod_nonneg _ (by decide)
      have hm2 : m < 2147483647 := by rw [← hm]; exact Int.emod_lt_of_pos _ (by decide)
      obtain ⟨v, hv⟩ : ∃ v : Int, (m * m + c' * 31 + k) % 1000003 = v := ⟨_, rfl⟩
      have hv1 : 0 ≤ v := by rw [← hv]; exact Int.emod_nonneg _ (by decide)
      have hv2 : v < 1000003 := by rw [← hv]; exact Int.emod_lt_of_pos _ (by decide)
      refine ⟨_, .inl (show b_Ldraws_1 _ = .nx [.val (.int c'), .val (.int n), .own ((ds ++ [v]).map .int), .val (.bool false), .val (.int k), .val (.int m)] from ?_), c', ds ++ [v], .val (.int k), .val (.int m), rfl, by simp [hd], ?_⟩
      · unfold b_Ldraws_1
        rw [sIf_f (by rfl)]
        rw [sSeq_nx (draw_s1' 48271 69621 2147483647 c' m k n ds _ y (.inr (by omega)) (.inr (by omega)) (by decide) hm)]
        rw [← hv]
        exact draw_s2' 31 1000003 0 c' m k n ds _ hl (.inr (by omega)) (.inl (by omega)) (by decide)
      · intro d h
        rcases List.mem_append.mp h with h | h
        · exact hb d h
        · rw [List.mem_singleton.mp h]
          exact ⟨hv1, hv2⟩
  obtain ⟨e', h1, c', ds, x, y, rfl, h2, h3⟩ := key
  exact ⟨c', ds, x, y, h1, h2, h3⟩
theorem draws_ev (c : Int) (n : Nat) (hn : n ≤ 1000) : ∃ ds : List Int, g_Ldraws [.int c, .int n] = some (.list (ds.map .int)) ∧ ds.length = n ∧ ∀ d ∈ ds, 0 ≤ d ∧ d < 1000003 := by
  obtain ⟨z, hp⟩ := pow18
  obtain ⟨c', ds, x, y, h1, h2, h3⟩ := draws_key c n hn (decide (z ≤ c))
  exact ⟨ds, z4 c n ds (z3 c z c' n hn ds x y h1 hp), h2, h3⟩
/-! the table of three columns and rows by the digits of a cell -/
def pool4 : List Str := ["a", "bb", "c", "dd"]
theorem pool4_ok : ∀ w ∈ pool4, 1 ≤ w.length ∧ w.length ≤ 2 ∧ PyData.strOk w = true := by decide +kernel
theorem pick_ev {α : Type} (c : α → PyData) (xs : List α) (i : Int) (h : 0 ≤ i ∧ i < xs.length) : ∃ x ∈ xs, atI (xs.map c) i = some (c x) := by
  have h3 : i.toNat < xs.length := by omega
  refine ⟨xs[i.toNat], List.getElem_mem h3, ?_⟩
  have := atI_map c xs i.toNat _ (List.getElem?_eq_getElem h3)
  rw [Int.toNat_of_nonneg h.1] at this
  exact this
theorem compF_pick4 {g : PyData → En → Option En} {fe : En → Option PyData} {env : En} {lo : Int} {n : Nat} {Q : Str → Prop} (h : ∀ j : Nat, j < n → ∃ e1 w, g (.int (lo + (j : Nat))) env = some e1 ∧ fe e1 = some (.str w) ∧ Q w) :
    ∃ ws : List Str, compF g tYes' fe env (rngD lo n) = some (ws.map .str) ∧ ws.length = n ∧ ∀ w ∈ ws, Q w := by
  have aux : ∀ (ks : List Nat), (∀ j ∈ ks, j < n) → ∃ ws : List Str, compF g tYes' fe env (ks.map fun k => .int (lo + (k : Nat))) = some (ws.map .str) ∧ ws.length = ks.length ∧ ∀ w ∈ ws, Q w := by
    intro ks
    induction ks with
    | nil => exact fun _ => ⟨[], rfl, rfl, fun w h => by cases h⟩
    | cons k ks ih =>
      intro hk
      obtain ⟨ws, h1, h2, h3⟩ := ih fun j hj => hk j (List.mem_cons_of_mem _ hj)
      obtain ⟨e1, w, q1, q2, q3⟩ := h k (hk k List.mem_cons_self)
      refine ⟨w :: ws, ?_, by simp [h2], fun v hv => ?_⟩
      · simp only [List.map_cons, compF, q1, tYes', q2]
        rw [h1]
      · rcases List.mem_cons.mp hv with e | hv
        · rw [e]; exact q3
        · exact h3 v hv
  obtain ⟨ws, h1, h2, h3⟩ := aux (List.range n) fun j hj => List.mem_range.mp hj
  exact ⟨ws, h1, by rw [h2, List.length_range], h3⟩
theorem kwords_ev (c : Int) : ∃ ws : List Str, g_Lwords [.int c] = some (.tuple (ws.map .str)) ∧ ws.length ≤ 2 ∧ ∀ w ∈ ws, w ∈ pool4 := by
  have m0 := mod_lt c 3 (by decide)
  obtain ⟨N, hN⟩ : ∃ N : Int, N = c % 3 := ⟨_, rfl⟩
  rw [← hN] at m0
  obtain ⟨ws, h1, h2, h3⟩ := compF_pick4 (g := gVal 1) (fe := c_Lwords_1) (env := [.val (.int c), .un]) (lo := 0) (n := N.toNat) (Q := fun w => w ∈ pool4) fun j hj => by
    obtain ⟨k, hk⟩ : ∃ k : Int, k = 0 + (j : Nat) := ⟨_, rfl⟩
    rw [← hk]
    have m1 := mod_lt (c / (7 * (k + 1))) 4 (by decide)
    obtain ⟨w, hw, ha⟩ := pick_ev PyData.str pool4 (c / (7 * (k + 1)) % 4) ⟨m1.1, m1.2⟩
    refine ⟨[.val (.int c), .val (.int k)], w, rfl, ?_, hw⟩
    exact e2_ev (x := .list (pool4.map .str)) rfl (e2_ev (e2_ev rfl (e2_ev rfl (e2_ev rfl rfl (addD_int _ _)) (mulD_int (.inl (by decide)))) (divD_int ⟨by omega, by omega⟩)) rfl (modD_int (by decide))) ha
  refine ⟨ws, ?_, by omega, h3⟩
  refine gDef_ev' (fB := f_Lwords) [.val (.int c), .un] rfl rfl ?_
  unfold f_Lwords
  exact sRet_ev (eCall_ev (aCons_ev (eL_ev (fCmp_ev (iR1_ev (N := N) (aCons_ev (by rw [hN]; exact e2_ev rfl rfl (modD_int (by decide))) aNil_ev) (by omega) (by omega)) h1 (by rw [List.length_map]; omega))) aNil_ev) rfl)
theorem kspan_ev (ps : List (Int × Int)) (r c R C H n : Int) (hr : 0 ≤ r ∧ r < R) (hc : 0 ≤ c ∧ c < C) (hH : H ≤ R) : ∃ d a : Int, g_Lspan [.list (ps.map pr), .int r, .int c, .tuple [.int R, .int C, .int H], .int n] = some (.tuple [.int d, .int a]) ∧ (1 ≤ d ∧ d ≤ 2) ∧ (1 ≤ a ∧ a ≤ 2) ∧ r + d ≤ R ∧ c + a ≤ C := by
  have m0 := mod_lt n 2 (by decide)
  have m1 := mod_lt (n / 2) 2 (by decide)
  obtain ⟨d0, hd0⟩ : ∃ d0 : Int, d0 = 1 + n % 2 := ⟨_, rfl⟩
  obtain ⟨a0, ha0⟩ : ∃ a0 : Int, a0 = 1 + n / 2 % 2 := ⟨_, rfl⟩
  obtain ⟨Z, hZ⟩ : ∃ Z : Int, Z = if r < H then H else R := ⟨_, rfl⟩
  have hZR : Z ≤ R := by rw [hZ]; split <;> omega
  obtain ⟨X, hX⟩ : ∃ X : PyData, X = .tuple [.int R, .int C, .int H] := ⟨_, rfl⟩
  obtain ⟨Y, hY⟩ : ∃ Y : PyData, Y = .list (ps.map pr) := ⟨_, rfl⟩
  obtain ⟨d, hd1, hd2, hd3⟩ : ∃ d : Int, sIf (t1 (e2 gtD (e2 addD (eVar 1) (eVar 8)) (eIf (t1 (e2 ltD (eVar 1) (eVar 7))) (eVar 7) (eVar 5)))) (sSet 8 (eC (.int 1))) sNil [.val Y, .val (.int r), .val (.int c), .val X, .val (.int n), .val (.int R), .val (.int C), .val (.int H), .val (.int d0), .val (.int a0)] = .nx [.val Y, .val (.int r), .val (.int c), .val X, .val (.int n), .val (.int R), .val (.int C), .val (.int H), .val (.int d), .val (.int a0)] ∧ (1 ≤ d ∧ d ≤ 2) ∧ r + d ≤ R := by
    have hif : eIf (t1 (e2 ltD (eVar 1) (eVar 7))) (eVar 7) (eVar 5) [.val Y, .val (.int r), .val (.int c), .val X, .val (.int n), .val (.int R), .val (.int C), .val (.int H), .val (.int d0), .val (.int a0)] = some (.int Z) := by
      rw [hZ]
      by_cases z : r < H
      · rw [if_pos z]; exact eIf_t (t1_ev (e2_ev rfl rfl ((ltD_int _ _).trans (by rw [decide_eq_true z])))) rfl
      · rw [if_neg z]; exact eIf_f (t1_ev (e2_ev rfl rfl ((ltD_int _ _).trans (by rw [decide_eq_false z])))) rfl
    have hc := t1_ev (e2_ev (e2_ev (f := eVar 1) (g := eVar 8) rfl rfl (addD_int r d0)) hif (gtD_int _ _))
    by_cases z : Z < r + d0
    · rw [decide_eq_true z] at hc
      exact ⟨1, (sIf_t hc).trans rfl, by omega, by omega⟩
    · rw [decide_eq_false z] at hc
      exact ⟨d0, (sIf_f hc).trans rfl, by omega, by omega⟩
  obtain ⟨a, ha1, ha2, ha3⟩ : ∃ a : Int, sIf (tOr' (t1 (e2 gtD (e2 addD (eVar 2) (eVar 9)) (eVar 6))) (t1 (e2 inT (eTup (aCons (eVar 1) (aCons (e2 subD (e2 addD (eVar 2) (eVar 9)) (eC (.int 1))) aNil))) (eVar 0)))) (sSet 9 (eC (.int 1))) sNil [.val Y, .val (.int r), .val (.int c), .val X, .val (.int n), .val (.int R), .val (.int C), .val (.int H), .val (.int d), .val (.int a0)] = .nx [.val Y, .val (.int r), .val (.int c), .val X, .val (.int n), .val (.int R), .val (.int C), .val (.int H), .val (.int d), .val (.int a)] ∧ (1 ≤ a ∧ a ≤ 2) ∧ c + a ≤ C := by
    have h1 : t1 (e2 gtD (e2 addD (eVar 2) (eVar 9)) (eVar 6)) [.val Y, .val (.int r), .val (.int c), .val X, .val (.int n), .val (.int R), .val (.int C), .val (.int H), .val (.int d), .val (.int a0)] = some (decide (C < c + a0)) := t1_ev (e2_ev (e2_ev rfl rfl (addD_int c a0)) rfl (gtD_int _ _))
    have h2 : t1 (e2 inT (eTup (aCons (eVar 1) (aCons (e2 subD (e2 addD (eVar 2) (eVar 9)) (eC (.int 1))) aNil))) (eVar 0)) [.val Y, .val (.int r), .val (.int c), .val X, .val (.int n), .val (.int R), .val (.int C), .val (.int H), .val (.int d), .val (.int a0)] = some (decide ((r, c + a0 - 1) ∈ ps)) := by
      rw [hY]
      exact t1_ev (e2_ev (eTup_ev (aCons_ev rfl (aCons_ev (e2_ev (e2_ev rfl rfl (addD_int _ _)) rfl (subD_int _ _)) aNil_ev)) (by simp)) rfl (inT_pr (r, c + a0 - 1) ps))
    by_cases z : C < c + a0
    · rw [decide_eq_true z] at h1
      exact ⟨1, (sIf_t (or_t h1)).trans rfl, by omega, by omega⟩
    · rw [decide_eq_false z] at h1
      have h3 := or_f h1 h2
      by_cases y : (r, c + a0 - 1) ∈ ps
      · rw [decide_eq_true y] at h3
        exact ⟨1, (sIf_t h3).trans rfl, by omega, by omega⟩
      · rw [decide_eq_false y] at h3
        exact ⟨a0, (sIf_f h3).trans rfl, by omega, by omega⟩
  refine ⟨d, a, ?_, hd2, ha2, hd3, ha3⟩
  rw [← hX, ← hY]
  refine gDef_ev' (fB := f_Lspan) [.val Y, .val (.int r), .val (.int c), .val X, .val (.int n), .un, .un, .un, .un, .un] rfl rfl ?_
  unfold f_Lspan
  refine (sSeq_nx (e := [.val Y, .val (.int r), .val (.int c), .val X, .val (.int n), .val (.int R), .val (.int C), .val (.int H), .un, .un]) (by rw [hX]; rfl)).trans ?_
  refine (sSeq_nx (e := [.val Y, .val (.int r), .val (.int c), .val X, .val (.int n), .val (.int R), .val (.int C), .val (.int H), .val (.int d0), .un]) (by rw [hd0]; exact sSet_ev (e2_ev rfl (e2_ev rfl rfl (modD_int (by decide))) (addD_int _ _)))).trans ?_
  refine (sSeq_nx (e := [.val Y, .val (.int r), .val (.int c), .val X, .val (.int n), .val (.int R), .val (.int C), .val (.int H), .val (.int d0), .val (.int a0)]) (by rw [ha0]; exact sSet_ev (e2_ev rfl (e2_ev (e2_ev rfl rfl (divD_int ⟨by decide, by decide⟩)) rfl (modD_int (by decide))) (addD_int _ _)))).trans ?_
  rw [sSeq_nx hd1, sSeq_nx ha1]
  exact sRet_ev (by rfl)
structure LCell where
  r : Int
  c : Int
  h : Int
  w : Int
  ws : List Str
abbrev cellD (x : LCell) : PyData := .tuple [.int x.r, .int x.c, .int x.h, .int x.w, .tuple (x.ws.map .str)]
structure CellOk (R C : Int) (x : LCell) : Prop where
  r : 0 ≤ x.r
  c : 0 ≤ x.c
  h : 1 ≤ x.h
  w : 1 ≤ x.w
  rh : x.r + x.h ≤ R
  cw : x.c + x.w ≤ C
  l : x.ws.length ≤ 4
  p : ∀ w ∈ x.ws, w ∈ pool4
  /-- no more words than three rows of text and two lines between give room for -/
  f : (x.ws.length : Int) ≤ 3 * x.h - 1
theorem dr_ix {ds : List Int} {i : Int} (h : 0 ≤ i ∧ i < ds.length) : atI (ds.map PyData.int) i = some (.int (ds.getD i.toNat 0)) := by
  have h3 : i.toNat < ds.length := by omega
  have := atI_map PyData.int ds i.toNat (ds.getD i.toNat 0) (by simp [List.getD, h3])
  rw [Int.toNat_of_nonneg h.1] at this
  exact this
theorem kcells_ev (ds : List Int) (hl : ds.length = 40) (R C H : Int) (hR : 1 ≤ R ∧ R ≤ 3) (hC : 1 ≤ C ∧ C ≤ 3) (hH : H ≤ R) :
    ∃ cs : List LCell, g_Lcells [.tuple [.int R, .int C, .int H], .list (ds.map .int)] = some (.tuple (cs.map cellD)) ∧ cs.length ≤ 9 ∧ (∀ x ∈ cs, CellOk R C x) ∧ cs ≠ [] := by
  obtain ⟨X, hX⟩ : ∃ X : PyData, X = .tuple [.int R, .int C, .int H] := ⟨_, rfl⟩
  obtain ⟨Y, hY⟩ : ∃ Y : PyData, Y = .list (ds.map .int) := ⟨_, rfl⟩
  rw [← hX, ← hY]
  have inner : ∀ (r : Int) (ps : List (Int × Int)) (cs : List LCell) (y5 y6 y7 y8 y9 : Sl), 0 ≤ r ∧ r < R → (ps ≠ [] → cs ≠ []) → ps.length ≤ 1000 → cs.length ≤ 9 → (∀ x ∈ cs, CellOk R C x) →
      ∃ (ps' : List (Int × Int)) (cs' : List LCell) (z5 z6 z7 z8 z9 : Sl), b_Lcells_3 [.val X, .val Y, .own (ps.map pr), .own (cs.map cellD), .val (.int r), y5, y6, y7, y8, y9] = .nx [.val X, .val Y, .own (ps'.map pr), .own (cs'.map cellD), .val (.int r), z5, z6, z7, z8, z9] ∧ ps'.length ≤ ps.length + 12 ∧ cs'.length ≤ cs.length + 3 ∧ (∀ x ∈ cs', CellOk R C x) ∧ cs' ≠ [] := by
    intro r ps cs y5 y6 y7 y8 y9 hr hne hps hcs hok
    have hrg := iR1_ev (fa := aCons (e2 ixG (eVar 0) (eC (.int 1))) aNil) (env := [.val X, .val Y, .own (ps.map pr), .own (cs.map cellD), .val (.int r), y5, y6, y7, y8, y9]) (N := C) (by rw [hX]; rfl) (by omega) (by omega)
    have hlp := loop_rng (g := gVal 5) (b := b_Lcells_2) (lo := 0) (n := C.toNat) (e := [.val X, .val Y, .own (ps.map pr), .own (cs.map cellD), .val (.int r), y5, y6, y7, y8, y9])
      (fun j e => ∃ (ps' : List (Int × Int)) (cs' : List LCell) (z5 z6 z7 z8 z9 : Sl), ps'.length ≤ ps.length + 4 * j ∧ cs'.length ≤ cs.length + j ∧ (∀ x ∈ cs', CellOk R C x) ∧ ((1 ≤ j → cs' ≠ []) ∧ (ps' ≠ [] → cs' ≠ [])) ∧ e = [.val X, .val Y, .own (ps'.map pr), .own (cs'.map cellD), .val (.int r), z5, z6, z7, z8, z9]) (fun j e hj he => by
        obtain ⟨ps', cs', z5, z6, z7, z8, z9, q1, q2, q3, q4, rfl⟩ := he
        obtain ⟨c, hc⟩ : ∃ c : Int, c = 0 + (j : Nat) := ⟨_, rfl⟩
        rw [← hc]
        have hj3 : j < 3 := by omega
        refine ⟨[.val X, .val Y, .own (ps'.map pr), .own (cs'.map cellD), .val (.int r), .val (.int c), z6, z7, z8, z9], rfl, ?_⟩
        have ht : t1 (e2 notInT (eTup (aCons (eVar 4) (aCons (eVar 5) aNil))) (eBor 2)) [.val X, .val Y, .own (ps'.map pr), .own (cs'.map cellD), .val (.int r), .val (.int c), z6, z7, z8, z9] = some (!decide ((r, c) ∈ ps')) :=
          t1_ev (e2_ev rfl rfl (notInT_pr (r, c) ps'))
        by_cases y : (r, c) ∈ ps'
        · rw [decide_eq_true y] at ht
          exact ⟨_, .inl ((sIf_f ht).trans rfl), ps', cs', _, _, _, _, _, by omega, by omega, q3, ⟨fun _ => q4.2 (fun h => by rw [h] at y; cases y), q4.2⟩, rfl⟩
        · rw [decide_eq_false y] at ht
          obtain ⟨at_, hat⟩ : ∃ at_ : Int, at_ = 3 * r + c := ⟨_, rfl⟩
          have n1 := mod_lt (at_ * 5 + 1) 40 (by decide)
          have n2 := mod_lt (at_ * 7 + 3) 40 (by decide)
          obtain ⟨v1, hv1⟩ : ∃ v1 : Int, atI (ds.map PyData.int) ((at_ * 5 + 1) % 40) = some (.int v1) := ⟨_, dr_ix ⟨n1.1, by omega⟩⟩
          obtain ⟨v2, hv2⟩ : ∃ v2 : Int, atI (ds.map PyData.int) ((at_ * 7 + 3) % 40) = some (.int v2) := ⟨_, dr_ix ⟨n2.1, by omega⟩⟩
          obtain ⟨d, a, s1, s2, s3, s4, s5⟩ := kspan_ev ps' r c R C H (v1 / 3) hr (by omega) hH
          obtain ⟨ws, w1, w2, w3⟩ := kwords_ev v2
          have hm : 1 ≤ d * a ∧ d * a ≤ 4 := by
            rcases (by omega : d = 1 ∨ d = 2) with e | e <;> (subst e; omega)
          obtain ⟨N, hN⟩ : ∃ N : Int, N = d * a := ⟨_, rfl⟩
          rw [← hN] at hm
          have g6 : sSet 6 (e2 addD (e2 mulD (eC (.int 3)) (eVar 4)) (eVar 5)) [.val X, .val Y, .own (ps'.map pr), .own (cs'.map cellD), .val (.int r), .val (.int c), z6, z7, z8, z9] = .nx [.val X, .val Y, .own (ps'.map pr), .own (cs'.map cellD), .val (.int r), .val (.int c), .val (.int at_), z7, z8, z9] := by
            rw [hat]; exact sSet_ev (e2_ev (e2_ev rfl rfl (mulD_int (.inl (by decide)))) rfl (addD_int _ _))
          have g7 : sUnp (eN (eCall g_Lspan (aCons (eBor 2) (aCons (eVar 4) (aCons (eVar 5) (aCons (eVar 0) (aCons (e2 divD (e2 ixG (eVar 1) (e2 modD (e2 addD (e2 mulD (eVar 6) (eC (.int 5))) (eC (.int 1))) (eC (.int 40)))) (eC (.int 3))) aNil))))))) (gT [7, 8]) [.val X, .val Y, .own (ps'.map pr), .own (cs'.map cellD), .val (.int r), .val (.int c), .val (.int at_), z7, z8, z9] = .nx [.val X, .val Y, .own (ps'.map pr), .own (cs'.map cellD), .val (.int r), .val (.int c), .val (.int at_), .val (.int d), .val (.int a), z9] := by
            unfold sUnp
            rw [eN_ev (d := .tuple [.int d, .int a]) (eCall_ev (aCons_ev rfl (aCons_ev rfl (aCons_ev rfl (aCons_ev rfl (aCons_ev (e2_ev (e2_ev (x := .list (ds.map .int)) (by rw [hY]; rfl) (e2_ev (e2_ev (e2_ev rfl rfl (mulD_int (.inr (by decide)))) rfl (addD_int _ _)) rfl (modD_int (by decide))) hv1) rfl (divD_int ⟨by decide, by decide⟩)) aNil_ev))))) (by rw [hX]; exact s1)) rfl]
            rfl
          have hr2 := iR1_ev (fa := aCons (e2 mulD (eVar 7) (eVar 8)) aNil) (env := [.val X, .val Y, .own (ps'.map pr), .own (cs'.map cellD), .val (.int r), .val (.int c), .val (.int at_), .val (.int d), .val (.int a), z9]) (N := N) (aCons_ev (by rw [hN]; exact e2_ev rfl rfl (mulD_int (.inl (by omega)))) aNil_ev) (by omega) (by omega)
          have hl2 := loop_rng (g := gVal 9) (b := b_Lcells_1) (lo := 0) (n := N.toNat) (e := [.val X, .val Y, .own (ps'.map pr), .own (cs'.map cellD), .val (.int r), .val (.int c), .val (.int at_), .val (.int d), .val (.int a), z9])
            (fun j e => ∃ (qs : List (Int × Int)) (y : Sl), qs.length = ps'.length + j ∧ e = [.val X, .val Y, .own (qs.map pr), .own (cs'.map cellD), .val (.int r), .val (.int c), .val (.int at_), .val (.int d), .val (.int a), y]) (fun j e hj he => by
              obtain ⟨qs, y, hq, rfl⟩ := he
              obtain ⟨k, hk⟩ : ∃ k : Int, k = 0 + (j : Nat) := ⟨_, rfl⟩
              rw [← hk]
              refine ⟨[.val X, .val Y, .own (qs.map pr), .own (cs'.map cellD), .val (.int r), .val (.int c), .val (.int at_), .val (.int d), .val (.int a), .val (.int k)], rfl, [.val X, .val Y, .own ((qs ++ [(r + k / a, c + k % a)]).map pr), .own (cs'.map cellD), .val (.int r), .val (.int c), .val (.int at_), .val (.int d), .val (.int a), .val (.int k)], .inl ?_, qs ++ [(r + k / a, c + k % a)], _, by simp [hq]; omega, rfl⟩
              unfold b_Lcells_1
              rw [List.map_append]
              exact sApp_ev (i := 2) (eTup_ev (aCons_ev (e2_ev rfl (e2_ev rfl rfl (divD_int ⟨by omega, by omega⟩)) (addD_int _ _)) (aCons_ev (e2_ev rfl (e2_ev rfl rfl (modD_int (by omega))) (addD_int _ _)) aNil_ev)) (by simp)) rfl (by rw [List.length_map]; omega)) ⟨ps', z9, rfl, rfl⟩
          obtain ⟨e', k1, qs, y9', k2, rfl⟩ := hl2
          refine ⟨[.val X, .val Y, .own (qs.map pr), .own ((cs' ++ [(⟨r, c, d, a, ws⟩ : LCell)]).map cellD), .val (.int r), .val (.int c), .val (.int at_), .val (.int d), .val (.int a), y9'], .inl ?_, qs, cs' ++ [⟨r, c, d, a, ws⟩], _, _, _, _, _, by omega, by simp; omega, ?_, ⟨fun _ => by simp, fun _ => by simp⟩, rfl⟩
          · unfold b_Lcells_2
            refine (sIf_t ht).trans ?_
            rw [sSeq_nx g6, sSeq_nx g7, sSeq_nx (sFor_ev hr2 k1), List.map_append]
            exact sApp_ev (i := 3) (eTup_ev (aCons_ev rfl (aCons_ev rfl (aCons_ev rfl (aCons_ev rfl (aCons_ev (eCall_ev (aCons_ev (e2_ev (x := .list (ds.map .int)) (by rw [hY]; rfl) (e2_ev (e2_ev (e2_ev rfl rfl (mulD_int (.inr (by decide)))) rfl (addD_int _ _)) rfl (modD_int (by decide))) hv2) aNil_ev) w1) aNil_ev))))) (by simp)) rfl (by rw [List.length_map]; omega)
          · intro x hx
            rcases List.mem_append.mp hx with hx | hx
            · exact q3 x hx
            · rw [List.mem_singleton.mp hx]
              exact ⟨hr.1, by show 0 ≤ c; omega, s2.1, s3.1, s4, s5, by show ws.length ≤ 4; omega, w3, by show (ws.length : Int) ≤ 3 * d - 1; omega⟩) ⟨ps, cs, _, _, _, _, _, by omega, by omega, hok, ⟨fun h => absurd h (by decide), hne⟩, rfl⟩
    obtain ⟨e', h1, ps', cs', z5, z6, z7, z8, z9, q1, q2, q3, q4, rfl⟩ := hlp
    exact ⟨ps', cs', z5, z6, z7, z8, z9, sFor_ev hrg h1, by omega, by omega, q3, q4.1 (by omega)⟩
  have hrg := iR1_ev (fa := aCons (e2 ixG (eVar 0) (eC (.int 0))) aNil) (env := [.val X, .val Y, .own [], .own [], .un, .un, .un, .un, .un, .un]) (N := R) (by rw [hX]; rfl) (by omega) (by omega)
  have hlp := loop_rng (g := gVal 4) (b := b_Lcells_3) (lo := 0) (n := R.toNat) (e := [.val X, .val Y, .own [], .own [], .un, .un, .un, .un, .un, .un])
    (fun j e => ∃ (ps : List (Int × Int)) (cs : List LCell) (y4 y5 y6 y7 y8 y9 : Sl), ps.length ≤ 12 * j ∧ cs.length ≤ 3 * j ∧ (∀ x ∈ cs, CellOk R C x) ∧ ((1 ≤ j → cs ≠ []) ∧ (ps ≠ [] → cs ≠ [])) ∧ e = [.val X, .val Y, .own (ps.map pr), .own (cs.map cellD), y4, y5, y6, y7, y8, y9]) (fun j e hj he => by
      obtain ⟨ps, cs, y4, y5, y6, y7, y8, y9, q1, q2, q3, q4, rfl⟩ := he
      obtain ⟨r, hr⟩ : ∃ r : Int, r = 0 + (j : Nat) := ⟨_, rfl⟩
      rw [← hr]
      obtain ⟨ps', cs', z5, z6, z7, z8, z9, k0, k1, k2, k3, k4⟩ := inner r ps cs y5 y6 y7 y8 y9 (by omega) q4.2 (by omega) (by omega) q3
      exact ⟨[.val X, .val Y, .own (ps.map pr), .own (cs.map cellD), .val (.int r), y5, y6, y7, y8, y9], rfl, _, .inl k0, ps', cs', _, _, _, _, _, _, by omega, by omega, k3, ⟨fun _ => k4, fun _ => k4⟩, rfl⟩) ⟨[], [], .un, .un, .un, .un, .un, .un, by simp, by simp, (fun x hx => by cases hx), ⟨fun h => absurd h (by decide), fun h => absurd rfl h⟩, rfl⟩
  obtain ⟨e', h1, ps, cs, y4, y5, y6, y7, y8, y9, q1, q2, q3, q4, rfl⟩ := hlp
  refine ⟨cs, ?_, by omega, q3, q4.1 (by omega)⟩
  refine gDef_ev' (fB := f_Lcells) [.val X, .val Y, .un, .un, .un, .un, .un, .un, .un, .un] rfl rfl ?_
  unfold f_Lcells
  refine (sSeq_nx (e := [.val X, .val Y, .own [], .un, .un, .un, .un, .un, .un, .un]) (by rfl)).trans ?_
  refine (sSeq_nx (e := [.val X, .val Y, .own [], .own [], .un, .un, .un, .un, .un, .un]) (by rfl)).trans ?_
  refine (sSeq_nx (sFor_ev hrg h1)).trans ?_
  exact sRet_ev (eTupO_ev rfl)
/-- a column: least, most, percent, align -/
structure LCol where
  least : Int
  most : Option Int
  pc : Option Int
  al : Str
def oD : Option Int → PyData
  | none => .none
  | some i => .int i
abbrev colD (x : LCol) : PyData := .tuple [.int x.least, oD x.most, oD x.pc, .str x.al]
structure ColOk (x : LCol) : Prop where
  least : 1 ≤ x.least ∧ x.least ≤ 3
  most : ∀ m, x.most = some m → x.least ≤ m ∧ m ≤ 6
  pc : ∀ p, x.pc = some p → 20 ≤ p ∧ p ≤ 50
  al : x.al ∈ (["left", "right", "center"] : List Str)
/-- a row: least, is_head, keeps -/
abbrev LRow := Int × Bool × Bool
abbrev rowD (x : LRow) : PyData := .tuple [.int x.1, .bool x.2.1, .bool x.2.2]
structure LTab where
  cols : List LCol
  rows : List LRow
  cells : List LCell
abbrev tabD (t : LTab) : PyData := .tuple [.tuple (t.cols.map colD), .tuple (t.rows.map rowD), .tuple (t.cells.map cellD)]
structure TabOk (t : LTab) : Prop where
  nc : 1 ≤ t.cols.length ∧ t.cols.length ≤ 3
  nr : 1 ≤ t.rows.length ∧ t.rows.length ≤ 3
  col : ∀ x ∈ t.cols, ColOk x
  row : ∀ x ∈ t.rows, 1 ≤ x.1 ∧ x.1 ≤ 2
  cl : ∀ x ∈ t.cells, CellOk t.rows.length t.cols.length x
  cn : t.cells.length ≤ 9
  ne : t.cells ≠ []
theorem opt_pick (env : En) (i : Nat) (fs : List (Option Int)) (k : Int) {f g : En → Option PyData} (hf : f env = some (.list (fs.map oD))) (hg : g env = some (.int k)) (h : 0 ≤ k ∧ k < fs.length) : ∃ o ∈ fs, e2 ixG f g env = some (oD o) := by
  obtain ⟨o, ho, ha⟩ := pick_ev oD fs k h
  exact ⟨o, ho, e2_ev hf hg ha⟩
theorem ktable_ev (ns : List Int) (st : Nat) : ∃ t : LTab, g_Ltable [.list (ns.map .int), .int (st : Nat), .int 3, .int 3] = some (tabD t) ∧ TabOk t := by
  obtain ⟨S, hS⟩ : ∃ S : PyData, S = .list (ns.map .int) := ⟨_, rfl⟩
  have hcell : ∀ k : Nat, g_Lcell [S, .int (k : Nat)] = some (.int (ns.getD k 0)) := fun k => by rw [hS]; exact cell_ev ns k
  rw [← hS]
  obtain ⟨ds, hd, hl, hb⟩ := draws_ev (ns.getD st 0) 40 (by decide)
  have m0 := mod_lt (ds.getD 0 0) 3 (by decide)
  have m1 := mod_lt (ds.getD 1 0) 3 (by decide)
  have m2 := mod_lt (ds.getD 2 0) 2 (by decide)
  obtain ⟨C, hC⟩ : ∃ C : Int, C = 1 + ds.getD 0 0 % 3 := ⟨_, rfl⟩
  obtain ⟨R, hR⟩ : ∃ R : Int, R = 1 + ds.getD 1 0 % 3 := ⟨_, rfl⟩
  obtain ⟨t, ht⟩ : ∃ t : Int, t = (st : Nat) := ⟨_, rfl⟩
  have hc1 := hcell st
  rw [← ht] at hc1 ⊢
  obtain ⟨Y, hY⟩ : ∃ Y : PyData, Y = .list (ds.map .int) := ⟨_, rfl⟩
  obtain ⟨H, hH1, hH2⟩ : ∃ H : Int, eIf (t1 (e2 eqD (e2 modD (e2 ixG (eVar 4) (eC (.int 3))) (eC (.int 3))) (eC (.int 0)))) (e2 modD (e2 ixG (eVar 4) (eC (.int 2))) (eC (.int 2))) (eC (.int 0)) [.val S, .val (.int t), .val (.int 3), .val (.int 3), .val Y, .un, .un, .un, .un, .un, .un, .un] = some (.int H) ∧ 0 ≤ H ∧ H ≤ 1 := by
    have hv : eVar 4 [.val S, .val (.int t), .val (.int 3), .val (.int 3), .val Y, .un, .un, .un, .un, .un, .un, .un] = some (.list (ds.map .int)) := by rw [hY]; rfl
    by_cases q : ds.getD 3 0 % 3 = 0
    · exact ⟨_, eIf_t (t1_ev (e2_ev (dr_mod' (ds := ds) hv (j := 3) (by omega) rfl (by decide)) rfl ((eqD_int _ _).trans (by rw [decide_eq_true q])))) (dr_mod' (ds := ds) hv (j := 2) (by omega) rfl (by decide)), by omega, by omega⟩
    · exact ⟨0, eIf_f (t1_ev (e2_ev (dr_mod' (ds := ds) hv (j := 3) (by omega) rfl (by decide)) rfl ((eqD_int _ _).trans (by rw [decide_eq_false q])))) rfl, by omega, by omega⟩
  obtain ⟨cs, k1, k2, k3, k4⟩ := kcells_ev ds hl R C H (by omega) (by omega) (by omega)
  obtain ⟨X, hX⟩ : ∃ X : PyData, X = .tuple [.int R, .int C, .int H] := ⟨_, rfl⟩
  rw [← hX, ← hY] at k1
  have hrg := iR1_ev (fa := aCons (e2 ixG (eVar 5) (eC (.int 1))) aNil) (env := [.val S, .val (.int t), .val (.int 3), .val (.int 3), .val Y, .val X, .own [], .un, .un, .un, .un, .un]) (N := C) (by rw [hX]; rfl) (by omega) (by omega)
  have hlp := loop_rng (g := gVal 7) (b := b_Ltable_1) (lo := 0) (n := C.toNat) (e := [.val S, .val (.int t), .val (.int 3), .val (.int 3), .val Y, .val X, .own [], .un, .un, .un, .un, .un])
    (fun j e => ∃ (cl : List LCol) (y7 y8 y9 y10 : Sl), cl.length = j ∧ (∀ x ∈ cl, ColOk x) ∧ e = [.val S, .val (.int t), .val (.int 3), .val (.int 3), .val Y, .val X, .own (cl.map colD), y7, y8, y9, y10, .un]) (fun j e hj he => by
      obtain ⟨cl, y7, y8, y9, y10, q1, q2, rfl⟩ := he
      obtain ⟨k, hk⟩ : ∃ k : Int, k = 0 + (j : Nat) := ⟨_, rfl⟩
      rw [← hk]
      have hk2 : 0 ≤ k ∧ k < 3 := by omega
      refine ⟨[.val S, .val (.int t), .val (.int 3), .val (.int 3), .val Y, .val X, .own (cl.map colD), .val (.int k), y8, y9, y10, .un], rfl, ?_⟩
      have hdr : ∀ (o : Int) (m : Int) (z8 z9 z10 : Sl), 0 ≤ o ∧ o ≤ 37 → 0 < m → e2 modD (e2 ixG (eVar 4) (e2 addD (eC (.int o)) (eVar 7))) (eC (.int m)) [.val S, .val (.int t), .val (.int 3), .val (.int 3), .val Y, .val X, .own (cl.map colD), .val (.int k), z8, z9, z10, .un] = some (.int (ds.getD (o + k).toNat 0 % m)) := fun o m z8 z9 z10 ho hm => by
        rw [hY]
        exact e2_ev (e2_ev (x := .list (ds.map .int)) rfl (e2_ev rfl rfl (addD_int _ _)) (dr_ix ⟨by omega, by omega⟩)) rfl (modD_int hm)
      have n4 := mod_lt (ds.getD (4 + k).toNat 0) 3 (by decide)
      have n7 := mod_lt (ds.getD (7 + k).toNat 0) 4 (by decide)
      have n10 := mod_lt (ds.getD (10 + k).toNat 0) 3 (by decide)
      have n13 := mod_lt (ds.getD (13 + k).toNat 0) 6 (by decide)
      have n16 := mod_lt (ds.getD (16 + k).toNat 0) 3 (by decide)
      obtain ⟨l, hl8⟩ : ∃ l : Int, l = 1 + ds.getD (4 + k).toNat 0 % 3 := ⟨_, rfl⟩
      obtain ⟨mo, hmo, hmo2⟩ := opt_pick [.val S, .val (.int t), .val (.int 3), .val (.int 3), .val Y, .val X, .own (cl.map colD), .val (.int k), .val (.int l), y9, y10, .un] 0 [none, none, some (l + ds.getD (7 + k).toNat 0 % 4)] _
        (f := eL (fLst (aCons (eC .none) (aCons (eC .none) (aCons (e2 addD (eVar 8) (e2 modD (e2 ixG (eVar 4) (e2 addD (eC (.int 7)) (eVar 7))) (eC (.int 4)))) aNil)))))
        (eL_ev (fLst_ev (aCons_ev rfl (aCons_ev rfl (aCons_ev (e2_ev rfl (hdr 7 4 _ _ _ (by decide) (by decide)) (addD_int _ _)) aNil_ev))) (by simp))) (hdr 10 3 _ _ _ (by decide) (by decide)) ⟨n10.1, n10.2⟩
      obtain ⟨pc, hpc, hpc2⟩ := opt_pick [.val S, .val (.int t), .val (.int 3), .val (.int 3), .val Y, .val X, .own (cl.map colD), .val (.int k), .val (.int l), .val (oD mo), y10, .un] 0 [none, none, none, some 20, some 35, some 50] _
        (f := eL (fLst (aCons (eC .none) (aCons (eC .none) (aCons (eC .none) (aCons (eC (.int 20)) (aCons (eC (.int 35)) (aCons (eC (.int 50)) aNil))))))))
        rfl (hdr 13 6 _ _ _ (by decide) (by decide)) ⟨n13.1, n13.2⟩
      obtain ⟨al, hal, hal2⟩ := pick_ev PyData.str (["left", "right", "center"] : List Str) _ ⟨n16.1, n16.2⟩
      refine ⟨[.val S, .val (.int t), .val (.int 3), .val (.int 3), .val Y, .val X, .own ((cl ++ [(⟨l, mo, pc, al⟩ : LCol)]).map colD), .val (.int k), .val (.int l), .val (oD mo), .val (oD pc), .un], .inl ?_, cl ++ [⟨l, mo, pc, al⟩], _, _, _, _, by simp [q1], ?_, rfl⟩
      · unfold b_Ltable_1
        refine (sSeq_nx (e := [.val S, .val (.int t), .val (.int 3), .val (.int 3), .val Y, .val X, .own (cl.map colD), .val (.int k), .val (.int l), y9, y10, .un]) (by rw [hl8]; exact sSet_ev (e2_ev rfl (hdr 4 3 _ _ _ (by decide) (by decide)) (addD_int _ _)))).trans ?_
        refine (sSeq_nx (e := [.val S, .val (.int t), .val (.int 3), .val (.int 3), .val Y, .val X, .own (cl.map colD), .val (.int k), .val (.int l), .val (oD mo), y10, .un]) (sSet_ev hmo2)).trans ?_
        refine (sSeq_nx (e := [.val S, .val (.int t), .val (.int 3), .val (.int 3), .val Y, .val X, .own (cl.map colD), .val (.int k), .val (.int l), .val (oD mo), .val (oD pc), .un]) (sSet_ev hpc2)).trans ?_
        rw [List.map_append]
        exact sApp_ev (i := 6) (eTup_ev (aCons_ev rfl (aCons_ev rfl (aCons_ev rfl (aCons_ev (e2_ev (x := .list ((["left", "right", "center"] : List Str).map .str)) rfl (hdr 16 3 _ _ _ (by decide) (by decide)) hal2) aNil_ev)))) (by simp)) rfl (by rw [List.length_map]; omega)
      · intro x hx
        rcases List.mem_append.mp hx with hx | hx
        · exact q2 x hx
        · rw [List.mem_singleton.mp hx]
          refine ⟨⟨by show 1 ≤ l; omega, by show l ≤ 3; omega⟩, fun m hm => ?_, fun p hp => ?_, hal⟩
          · have hm : mo = some m := hm
            rw [hm] at hmo
            simp at hmo
            exact ⟨by show l ≤ m; omega, by omega⟩
          · have hp : pc = some p := hp
            rw [hp] at hpc
            simp at hpc
            omega) ⟨[], .un, .un, .un, .un, rfl, (fun x hx => by cases hx), rfl⟩
  obtain ⟨e', h1, cl, y7, y8, y9, y10, q1, q2, rfl⟩ := hlp
  have hrows : ∃ rs : List LRow, rs.length = R.toNat ∧ (∀ x ∈ rs, 1 ≤ x.1 ∧ x.1 ≤ 2) ∧ compF (gVal 7) tYes' c_Ltable_1 [.val S, .val (.int t), .val (.int 3), .val (.int 3), .val Y, .val X, .own (cl.map colD), .un, y8, y9, y10, .un] (rngD 0 R.toNat) = some (rs.map rowD) := by
    have aux : ∀ ks : List Nat, (∀ k ∈ ks, k < 3) → ∃ rs : List LRow, rs.length = ks.length ∧ (∀ x ∈ rs, 1 ≤ x.1 ∧ x.1 ≤ 2) ∧ compF (gVal 7) tYes' c_Ltable_1 [.val S, .val (.int t), .val (.int 3), .val (.int 3), .val Y, .val X, .own (cl.map colD), .un, y8, y9, y10, .un] (ks.map fun k => .int (0 + (k : Nat))) = some (rs.map rowD) := by
      intro ks
      induction ks with
      | nil => exact fun _ => ⟨[], rfl, (fun x hx => by cases hx), rfl⟩
      | cons j ks ih =>
        intro hks
        obtain ⟨rs, z0, z1, z2⟩ := ih fun k hk => hks k (List.mem_cons_of_mem _ hk)
        have hj := hks j List.mem_cons_self
        obtain ⟨k, hk⟩ : ∃ k : Int, k = 0 + (j : Nat) := ⟨_, rfl⟩
        have hdr : ∀ (o : Int) (m : Int), 0 ≤ o ∧ o ≤ 37 → 0 < m → e2 modD (e2 ixG (eVar 4) (e2 addD (eC (.int o)) (eVar 7))) (eC (.int m)) [.val S, .val (.int t), .val (.int 3), .val (.int 3), .val Y, .val X, .own (cl.map colD), .val (.int k), y8, y9, y10, .un] = some (.int (ds.getD (o + k).toNat 0 % m)) := fun o m ho hm => by
          rw [hY]
          exact e2_ev (e2_ev (x := .list (ds.map .int)) rfl (e2_ev rfl rfl (addD_int _ _)) (dr_ix ⟨by omega, by omega⟩)) rfl (modD_int hm)
        have n19 := mod_lt (ds.getD (19 + k).toNat 0) 2 (by decide)
        refine ⟨(1 + ds.getD (19 + k).toNat 0 % 2, decide (k < H), decide (ds.getD (22 + k).toNat 0 % 4 = 1)) :: rs, by simp [z0], fun x hx => ?_, ?_⟩
        · rcases List.mem_cons.mp hx with e | hx
          · rw [e]
            exact ⟨by show 1 ≤ 1 + ds.getD (19 + k).toNat 0 % 2; omega, by show 1 + ds.getD (19 + k).toNat 0 % 2 ≤ 2; omega⟩
          · exact z1 x hx
        · rw [List.map_cons, ← hk]
          have hce : c_Ltable_1 [.val S, .val (.int t), .val (.int 3), .val (.int 3), .val Y, .val X, .own (cl.map colD), .val (.int k), y8, y9, y10, .un] = some (rowD (1 + ds.getD (19 + k).toNat 0 % 2, decide (k < H), decide (ds.getD (22 + k).toNat 0 % 4 = 1))) :=
            eTup_ev (aCons_ev (e2_ev rfl (hdr 19 2 (by decide) (by decide)) (addD_int _ _)) (aCons_ev (e2_ev rfl (e2_ev (x := X) (y := .int 2) (d := .int H) rfl rfl (by rw [hX]; rfl)) (ltD_int _ _)) (aCons_ev (e2_ev (hdr 22 4 (by decide) (by decide)) rfl (eqD_int _ _)) aNil_ev))) (by simp)
          simp only [compF, gVal, List.set_cons_succ, List.set_cons_zero, tYes', hce]
          rw [z2]
          rfl
    obtain ⟨rs, z0, z1, z2⟩ := aux (List.range R.toNat) fun k hk => by have := List.mem_range.mp hk; omega
    exact ⟨rs, by rw [z0, List.length_range], z1, z2⟩
  obtain ⟨rs, r1, r2, r3⟩ := hrows
  have hRc : ((rs.length : Nat) : Int) = R := by omega
  have hCc : ((cl.length : Nat) : Int) = C := by omega
  refine ⟨⟨cl, rs, cs⟩, ?_, ⟨by show 1 ≤ cl.length ∧ cl.length ≤ 3; omega, by show 1 ≤ rs.length ∧ rs.length ≤ 3; omega, q2, r2, by show ∀ x ∈ cs, CellOk (rs.length : Nat) (cl.length : Nat) x; rw [hRc, hCc]; exact k3, k2, k4⟩⟩
  refine gDef_ev' (fB := f_Ltable) [.val S, .val (.int t), .val (.int 3), .val (.int 3), .un, .un, .un, .un, .un, .un, .un, .un] rfl rfl ?_
  unfold f_Ltable
  refine (sSeq_nx (e := [.val S, .val (.int t), .val (.int 3), .val (.int 3), .val Y, .un, .un, .un, .un, .un, .un, .un]) (by rw [hY]; exact sSet_ev (eCall_ev (aCons_ev (eCall_ev (aCons_ev rfl (aCons_ev rfl aNil_ev)) hc1) (aCons_ev rfl aNil_ev)) hd))).trans ?_
  refine (sSeq_nx (e := [.val S, .val (.int t), .val (.int 3), .val (.int 3), .val Y, .val X, .un, .un, .un, .un, .un, .un]) ?_).trans ?_
  · have hv : eVar 4 [.val S, .val (.int t), .val (.int 3), .val (.int 3), .val Y, .un, .un, .un, .un, .un, .un, .un] = some (.list (ds.map .int)) := by rw [hY]; rfl
    rw [hX, hR, hC]
    exact sSet_ev (eTup_ev (aCons_ev (e2_ev rfl (e2_ev (dr_at (ds := ds) hv (j := 1) (by omega) rfl) rfl (modD_int (by decide))) (addD_int _ _)) (aCons_ev (e2_ev rfl (e2_ev (dr_at (ds := ds) hv (j := 0) (by omega) rfl) rfl (modD_int (by decide))) (addD_int _ _)) (aCons_ev hH1 aNil_ev))) (by simp))
  refine (sSeq_nx (e := [.val S, .val (.int t), .val (.int 3), .val (.int 3), .val Y, .val X, .own [], .un, .un, .un, .un, .un]) (by rfl)).trans ?_
  refine (sSeq_nx (sFor_ev hrg h1)).trans ?_
  refine (sSeq_nx (e := [.val S, .val (.int t), .val (.int 3), .val (.int 3), .val Y, .val X, .own (cl.map colD), y7, y8, y9, y10, .val (.list (rs.map rowD))]) (sSet_ev (eL_ev (fCmp_ev (iR1_ev (N := R) (aCons_ev (by rw [hX]; rfl) aNil_ev) (by omega) (by omega)) r3 (by rw [List.length_map]; omega))))).trans ?_
  exact sRet_ev (eTup_ev (aCons_ev (eTupO_ev rfl) (aCons_ev (eCall_ev (aCons_ev rfl aNil_ev) rfl) (aCons_ev (eCall_ev (aCons_ev rfl (aCons_ev rfl aNil_ev)) k1) aNil_ev))) (by simp))
/-! check_table on any table -/
def ALN : List Str := ["left", "right", "center"]
def optB (f : Int → Bool) : Option Int → Bool
  | none => true
  | some m => f m
def colB (x : LCol) : Bool := decide (1 ≤ x.least ∧ x.least ≤ 20) && optB (fun m => decide (x.least ≤ m ∧ m ≤ 40)) x.most && optB (fun p => decide (1 ≤ p ∧ p ≤ 100)) x.pc && decide (x.al ∈ ALN)
theorem ch2 (i j m : Int) (f g h : En → Option PyData) (env : En) (h1 : f env = some (.int i)) (h2 : g env = some (.int j)) (h3 : h env = some (.int m)) : chI (fun i j => decide (i ≤ j)) (fun i j => decide (i ≤ j)) f g h env = some (.bool (decide (i ≤ j ∧ j ≤ m))) := by
  unfold chI
  rw [h1]
  simp only
  rw [h2]
  simp only
  by_cases q : i ≤ j
  · rw [if_pos (decide_eq_true q), h3]; simp [q]
  · rw [if_neg (by simpa using q)]; simp [q]
theorem ch1 (i j m : Int) (f g h : En → Option PyData) (env : En) (h1 : f env = some (.int i)) (h2 : g env = some (.int j)) (h3 : h env = some (.int m)) : chI (fun i j => decide (i ≤ j)) (fun i j => decide (i < j)) f g h env = some (.bool (decide (i ≤ j ∧ j < m))) := by
  unfold chI
  rw [h1]
  simp only
  rw [h2]
  simp only
  by_cases q : i ≤ j
  · rw [if_pos (decide_eq_true q), h3]; simp [q]
  · rw [if_neg (by simpa using q)]; simp [q]
theorem ch0 (i j m : Int) (f g h : En → Option PyData) (env : En) (h1 : f env = some (.int i)) (h2 : g env = some (.int j)) (h3 : h env = some (.int m)) : chI (fun i j => decide (i < j)) (fun i j => decide (i < j)) f g h env = some (.bool (decide (i < j ∧ j < m))) := by
  unfold chI
  rw [h1]
  simp only
  rw [h2]
  simp only
  by_cases q : i < j
  · rw [if_pos (decide_eq_true q), h3]; simp [q]
  · rw [if_neg (by simpa using q)]; simp [q]
theorem sIf_b {ga : En → Option Bool} {s t : En → Out} {env : En} {b : Bool} (h : ga env = some b) : sIf ga s t env = if b = true then s env else t env := by
  cases b
  · rw [sIf_f h]; rfl
  · rw [sIf_t h]; rfl
theorem or_b {ga gb : En → Option Bool} {env : En} {a b : Bool} (h1 : ga env = some a) (h2 : gb env = some b) : tOr' ga gb env = some (a || b) := by
  cases a
  · exact or_f h1 h2
  · exact or_t h1
theorem and_b {ga gb : En → Option Bool} {env : En} {a b : Bool} (h1 : ga env = some a) (h2 : gb env = some b) : tAnd' ga gb env = some (a && b) := by
  cases a
  · exact and_f h1
  · exact and_t h1 h2
theorem eAnd_b {f g : En → Option PyData} {env : En} {a b : Bool} (h1 : f env = some (.bool a)) (h2 : g env = some (.bool b)) : eAnd f g env = some (.bool (a && b)) := by
  cases a
  · exact eAnd_f h1
  · exact eAnd_t h1 h2
/-- statements that return under a condition, then go on -/
theorem guard_b {ga : En → Option Bool} {f : En → Option PyData} {t : En → Out} {env : En} {b : Bool} {d r : PyData} (h : ga env = some b) (h1 : f env = some d) (h2 : b = false → t env = .rt r) : sSeq (sIf ga (sRet f) sNil) t env = .rt (if b = true then d else r) := by
  cases b
  · rw [sSeq_nx (show sIf ga (sRet f) sNil env = .nx env from (sIf_f h).trans rfl)]
    exact h2 rfl
  · exact sSeq_rt ((sIf_t h).trans (sRet_ev h1))
theorem is_column_ev (x : LCol) : g_is_column [colD x] = some (.bool (colB x)) := by
  obtain ⟨l, m, p, al⟩ := x
  obtain ⟨M, hM⟩ : ∃ M, M = oD m := ⟨_, rfl⟩
  obtain ⟨P, hP⟩ : ∃ M, M = oD p := ⟨_, rfl⟩
  refine gDef_ev' [.val (colD ⟨l, m, p, al⟩), .un, .un, .un, .un] rfl rfl ?_
  unfold f_is_column
  show sSeq _ _ [.val (.tuple [.int l, oD m, oD p, .str al]), .un, .un, .un, .un] = _
  rw [← hM, ← hP]
  refine (sSeq_nx (e := [.val (.tuple [.int l, M, P, .str al]), .val (.int l), .val M, .val P, .val (.str al)]) (sUnp_ev rfl rfl)).trans ?_
  have b2 : ∃ b2, (tAnd' (t1 (e2 isntD (eVar 2) (eC .none))) (tNot' (t1 (chI (fun i j => decide (i ≤ j)) (fun i j => decide (i ≤ j)) (eVar 1) (eVar 2) (eC (.int 40)))))) [.val (.tuple [.int l, M, P, .str al]), .val (.int l), .val M, .val P, .val (.str al)] = some b2 ∧ b2 = !optB (fun m => decide (l ≤ m ∧ m ≤ 40)) m := by
    cases m with
    | none => subst hM; exact ⟨_, and_f (t1_ev (e2_ev rfl rfl rfl)), rfl⟩
    | some m => subst hM; exact ⟨_, and_b (t1_ev (e2_ev rfl rfl rfl)) (not_ev (t1_ev (ch2 _ _ _ _ _ _ _ rfl rfl rfl))), by simp [noneB, optB, oD]⟩
  have b3 : ∃ b2, (tAnd' (t1 (e2 isntD (eVar 3) (eC .none))) (tNot' (t1 (chI (fun i j => decide (i ≤ j)) (fun i j => decide (i ≤ j)) (eC (.int 1)) (eVar 3) (eC (.int 100)))))) [.val (.tuple [.int l, M, P, .str al]), .val (.int l), .val M, .val P, .val (.str al)] = some b2 ∧ b2 = !optB (fun p => decide (1 ≤ p ∧ p ≤ 100)) p := by
    cases p with
    | none => subst hP; exact ⟨_, and_f (t1_ev (e2_ev rfl rfl rfl)), rfl⟩
    | some m => subst hP; exact ⟨_, and_b (t1_ev (e2_ev rfl rfl rfl)) (not_ev (t1_ev (ch2 _ _ _ _ _ _ _ rfl rfl rfl))), by simp [noneB, optB, oD]⟩
  obtain ⟨b2, h2, e2⟩ := b2
  obtain ⟨b3, h3, e3⟩ := b3
  refine (guard_b (not_ev (t1_ev (ch2 _ _ _ _ _ _ _ rfl rfl rfl))) rfl fun q1 => guard_b h2 rfl fun q2 => guard_b h3 rfl fun q3 => sRet_ev (eInG_ev rfl)).trans ?_
  congr 1
  unfold colB
  subst e2 e3
  have ea : decide (al ∈ TUP_ALIGNS) = decide (al ∈ ALN) := rfl
  cases h1 : decide (1 ≤ l ∧ l ≤ 20) <;> cases h2' : optB (fun m => decide (l ≤ m ∧ m ≤ 40)) m <;> cases h3' : optB (fun p => decide (1 ≤ p ∧ p ≤ 100)) p <;> simp [h1, h2', h3', ea]
theorem all_ev {α : Type} {fa : En → Option (List PyData)} {env : En} {p : α → Bool} {xs : List α} (h : fa env = some (xs.map fun x => .bool (p x))) : eCall allA (aCons (eL fa) aNil) env = some (.bool (xs.all p)) := allM (aCons_ev (eL_ev h) aNil_ev)
theorem are_columns_ev (xs : List LCol) (hl : xs.length ≤ 1000) : g_are_columns [.tuple (xs.map colD)] = some (.bool (decide (1 ≤ xs.length ∧ xs.length ≤ 4) && xs.all colB)) := by
  refine gDef_ev' [.val (.tuple (xs.map colD)), .un] rfl rfl (sRet_ev (eAnd_b ((ch2 1 (xs.length : Nat) 4 _ _ _ _ rfl ((len_t rfl).trans (by simp)) rfl).trans (by congr 3; simp; omega)) (all_ev (p := colB) ?_)))
  exact fCmp_ev (ds := xs.map colD) rfl (compF_mapS fun x hx => ⟨[.val (.tuple (xs.map colD)), .val (colD x)], rfl, eCall_ev (aCons_ev rfl aNil_ev) (is_column_ev x)⟩) (by simp; omega)
def rowB (x : LRow) : Bool := decide (1 ≤ x.1 ∧ x.1 ≤ 6)
theorem is_row_ev (x : LRow) : g_is_row [rowD x] = some (.bool (rowB x)) := gDef_ev' [.val (rowD x)] rfl rfl (sRet_ev (ch2 _ _ _ _ _ _ _ rfl (e2_ev rfl rfl rfl) rfl))
theorem are_rows_ev (xs : List LRow) (hl : xs.length ≤ 1000) : g_are_rows [.tuple (xs.map rowD)] = some (.bool (decide (1 ≤ xs.length ∧ xs.length ≤ 4) && xs.all rowB)) := by
  refine gDef_ev' [.val (.tuple (xs.map rowD)), .un] rfl rfl (sRet_ev (eAnd_b ((ch2 1 (xs.length : Nat) 4 _ _ _ _ rfl ((len_t rfl).trans (by simp)) rfl).trans (by congr 3; simp; omega)) (all_ev (p := rowB) ?_)))
  exact fCmp_ev (ds := xs.map rowD) rfl (compF_mapS fun x hx => ⟨[.val (.tuple (xs.map rowD)), .val (rowD x)], rfl, eCall_ev (aCons_ev rfl aNil_ev) (is_row_ev x)⟩) (by simp; omega)
def rowAt (xs : List LRow) (j : Nat) : LRow := xs.getD j (0, false, false)
def headBad (xs : List LRow) (j : Nat) : Bool := (rowAt xs (j + 1)).2.1 && !(rowAt xs j).2.1
theorem row_get (xs : List LRow) {j : Nat} (h : j < xs.length) : (xs.map rowD)[j]? = some (rowD (rowAt xs j)) := by
  unfold rowAt
  rw [List.getElem?_map, List.getD_eq_getElem?_getD, List.getElem?_eq_getElem h]; rfl
/-- the range from 1 to n -/
theorem rng1_ev {fa : En → Option (List PyData)} {env : En} {n : Nat} (h : fa env = some [.int 1, .int (n : Nat)]) (hn : n ≤ 100000) : iR2 fa env = some ((List.range (n - 1)).map fun k : Nat => PyData.int (1 + (k : Nat))) := by
  rw [iR2_ev h (by omega) (by omega) (by decide) (by decide), show (((n : Nat) : Int) - 1).toNat = n - 1 by omega]
  rfl
theorem are_heads_first_ev (xs : List LRow) (hl : xs.length ≤ 1000) : g_are_heads_first [.tuple (xs.map rowD)] = some (.bool (!(List.range (xs.length - 1)).any (headBad xs))) := by
  refine gDef_ev' [.val (.tuple (xs.map rowD)), .un] rfl rfl ?_
  have key := loop_find (g := gVal 1) (b := b_are_heads_first_1) (fun k : Nat => PyData.int (1 + (k : Nat))) (fun k => if headBad xs k = true then some (.bool false) else none) (fun e => ∃ y, e = [.val (.tuple (xs.map rowD)), y]) (List.range (xs.length - 1)) [.val (.tuple (xs.map rowD)), .un] ⟨_, rfl⟩ (fun k hk e he => by
    obtain ⟨y, rfl⟩ := he
    have kl := List.mem_range.mp hk
    obtain ⟨v, hv⟩ : ∃ v : Int, v = 1 + (k : Nat) := ⟨_, rfl⟩
    rw [← hv]
    refine ⟨[.val (.tuple (xs.map rowD)), .val (.int v)], rfl, ?_⟩
    have t : (tAnd' (tTr (e2 ixG (e2 ixG (eVar 0) (eVar 1)) (eC (.int 1)))) (tNot' (tTr (e2 ixG (e2 ixG (eVar 0) (e2 subD (eVar 1) (eC (.int 1)))) (eC (.int 1)))))) [.val (.tuple (xs.map rowD)), .val (.int v)] = some (headBad xs k) :=
      and_b (tTr_ev (e2_ev (e2_ev rfl rfl (ixG_t (row_get xs (j := k + 1) (by omega)) (by omega))) rfl rfl) rfl) (not_ev (tTr_ev (e2_ev (e2_ev rfl (e2_ev rfl rfl rfl) (ixG_t (row_get xs (j := k) (by omega)) (by omega))) rfl rfl) rfl))
    unfold b_are_heads_first_1
    cases q : headBad xs k with
    | true => rw [q] at t; exact (sIf_t t).trans rfl
    | false => rw [q] at t; exact ⟨_, (sIf_f t).trans rfl, _, rfl⟩)
  rw [cond_find] at key
  have hrg : iR2 (aCons (eC (.int 1)) (aCons (eCall lenA (aCons (eVar 0) aNil)) aNil)) [.val (.tuple (xs.map rowD)), .un] = _ := rng1_ev (n := xs.length) (aCons_ev rfl (aCons_ev ((len_t rfl).trans (by simp)) aNil_ev)) (by omega)
  unfold f_are_heads_first
  cases q : (List.range (xs.length - 1)).any (headBad xs) with
  | true =>
    rw [q] at key
    exact sSeq_rt (sFor_ev hrg key)
  | false =>
    rw [q] at key
    obtain ⟨e', h1, y, rfl⟩ := key
    exact (sSeq_nx (sFor_ev hrg h1)).trans rfl
theorem compF_filterS {α : Type} {g : PyData → En → Option En} {ga : En → Option Bool} {fe : En → Option PyData} {env : En} {c k : α → PyData} {p : α → Bool} : ∀ {xs : List α},
    (∀ x ∈ xs, ∃ e1, g (c x) env = some e1 ∧ ga e1 = some (p x) ∧ fe e1 = some (k x)) → compF g ga fe env (xs.map c) = some ((xs.filter p).map k)
  | [], _ => rfl
  | x :: xs, h => by
    obtain ⟨e1, h1, h2, h3⟩ := h x List.mem_cons_self
    have ih := compF_filterS (xs := xs) fun y hy => h y (List.mem_cons_of_mem _ hy)
    simp only [List.map_cons, compF, h1, h2, List.filter_cons]
    cases hp : p x with
    | true => simp only [h3, ih, if_true, List.map_cons]
    | false => simp only [ih, Bool.false_eq_true, if_false]
/-! cells -/
def ltp (a b : Int × Int) : Bool := if a.1 = b.1 then decide (a.2 < b.2) else decide (a.1 < b.1)
theorem dataLt_pr (a b c d : Int) : PySem.W.dataLt (.tuple [.int a, .int b]) (.tuple [.int c, .int d]) = ltp (a, b) (c, d) := PySem.W.DatumOrd.lt_eq (α := Int × Int) (a, b) (c, d)
theorem ltOk_pr (a b c d : Int) : ltOk (.tuple [.int a, .int b]) (.tuple [.int c, .int d]) = true := by
  unfold ltOk
  simp [noD, noDA, PySem.W.alike, PySem.W.alikeAll, PyData.depth, PyData.depthAll]
theorem ltU_pr (a b c d : Int) : ltU (.tuple [.int a, .int b]) (.tuple [.int c, .int d]) = some (.bool (ltp (a, b) (c, d))) := by
  unfold ltU
  rw [if_pos (ltOk_pr a b c d), dataLt_pr]
theorem gtU_pr (a b c d : Int) : gtU (.tuple [.int a, .int b]) (.tuple [.int c, .int d]) = some (.bool (ltp (c, d) (a, b))) := by
  unfold gtU
  rw [if_pos (ltOk_pr a b c d), dataLt_pr]
def cz : LCell := ⟨0, 0, 0, 0, []⟩
def cellAt (xs : List LCell) (j : Nat) : LCell := xs.getD j cz
theorem cell_get (xs : List LCell) {j : Nat} (h : j < xs.length) : (xs.map cellD)[j]? = some (cellD (cellAt xs j)) := by
  unfold cellAt
  rw [List.getElem?_map, List.getD_eq_getElem?_getD, List.getElem?_eq_getElem h]; rfl
def plc (x : LCell) : Int × Int := (x.r, x.c)
def ordBad (xs : List LCell) (j : Nat) : Bool := ltp (plc (cellAt xs (j + 1))) (plc (cellAt xs j))
theorem are_in_order_ev (xs : List LCell) (hl : xs.length ≤ 1000) : g_are_in_order [.tuple (xs.map cellD)] = some (.bool (!(List.range (xs.length - 1)).any (ordBad xs))) := by
  refine gDef_ev' [.val (.tuple (xs.map cellD)), .un] rfl rfl ?_
  have key := loop_find (g := gVal 1) (b := b_are_in_order_1) (fun k : Nat => PyData.int (1 + (k : Nat))) (fun k => if ordBad xs k = true then some (.bool false) else none) (fun e => ∃ y, e = [.val (.tuple (xs.map cellD)), y]) (List.range (xs.length - 1)) [.val (.tuple (xs.map cellD)), .un] ⟨_, rfl⟩ (fun k hk e he => by
    obtain ⟨y, rfl⟩ := he
    have kl := List.mem_range.mp hk
    obtain ⟨v, hv⟩ : ∃ v : Int, v = 1 + (k : Nat) := ⟨_, rfl⟩
    rw [← hv]
    refine ⟨[.val (.tuple (xs.map cellD)), .val (.int v)], rfl, ?_⟩
    have t : (t1 (e2 ltU (eSl (e2 ixG (eVar 0) (eVar 1)) oNone (oSome (eC (.int 2)))) (eSl (e2 ixG (eVar 0) (e2 subD (eVar 1) (eC (.int 1)))) oNone (oSome (eC (.int 2)))))) [.val (.tuple (xs.map cellD)), .val (.int v)] = some (ordBad xs k) :=
      t1_ev (e2_ev (slT_pre (n := 2) (e2_ev rfl rfl (ixG_t (cell_get xs (j := k + 1) (by omega)) (by omega))) rfl rfl (by simp)) (slT_pre (n := 2) (e2_ev rfl (e2_ev rfl rfl rfl) (ixG_t (cell_get xs (j := k) (by omega)) (by omega))) rfl rfl (by simp)) (ltU_pr _ _ _ _))
    unfold b_are_in_order_1
    cases q : ordBad xs k with
    | true => rw [q] at t; exact (sIf_t t).trans rfl
    | false => rw [q] at t; exact ⟨_, (sIf_f t).trans rfl, _, rfl⟩)
  rw [cond_find] at key
  have hrg : iR2 (aCons (eC (.int 1)) (aCons (eCall lenA (aCons (eVar 0) aNil)) aNil)) [.val (.tuple (xs.map cellD)), .un] = _ := rng1_ev (n := xs.length) (aCons_ev rfl (aCons_ev ((len_t rfl).trans (by simp)) aNil_ev)) (by omega)
  unfold f_are_in_order
  cases q : (List.range (xs.length - 1)).any (ordBad xs) with
  | true =>
    rw [q] at key
    exact sSeq_rt (sFor_ev hrg key)
  | false =>
    rw [q] at key
    obtain ⟨e', h1, y, rfl⟩ := key
    exact (sSeq_nx (sFor_ev hrg h1)).trans rfl
def insB (R C : Int) (x : LCell) : Bool := !(decide (x.r < 0) || (decide (x.c < 0) || (decide (x.h < 1) || decide (x.w < 1)))) && (decide (x.r + x.h ≤ R) && decide (x.c + x.w ≤ C))
theorem is_inside_ev (x : LCell) (R C : Int) : g_is_inside [cellD x, .int R, .int C] = some (.bool (insB R C x)) := by
  refine gDef_ev' [.val (cellD x), .val (.int R), .val (.int C), .un, .un, .un, .un] rfl rfl ?_
  unfold f_is_inside
  refine (sSeq_nx (e := [.val (cellD x), .val (.int R), .val (.int C), .val (.int x.r), .val (.int x.c), .val (.int x.h), .val (.int x.w)]) (sUnp_ev (slT_pre (n := 4) rfl rfl rfl (by simp)) rfl)).trans ?_
  refine (guard_b (or_b (t1_ev (e2_ev rfl rfl (ltD_int _ _))) (or_b (t1_ev (e2_ev rfl rfl (ltD_int _ _))) (or_b (t1_ev (e2_ev rfl rfl (ltD_int _ _))) (t1_ev (e2_ev rfl rfl (ltD_int _ _)))))) rfl fun _ => sRet_ev (eAnd_b (e2_ev (e2_ev rfl rfl rfl) rfl (leD_int _ _)) (e2_ev (e2_ev rfl rfl rfl) rfl (leD_int _ _)))).trans ?_
  unfold insB
  cases (decide (x.r < 0) || (decide (x.c < 0) || (decide (x.h < 1) || decide (x.w < 1)))) <;> rfl
def cov (i j : Int) (x : LCell) : Bool := decide (0 ≤ i - x.r ∧ i - x.r < x.h) && decide (0 ≤ j - x.c ∧ j - x.c < x.w)
theorem covers_ev (x : LCell) (i j : Int) : g_covers [cellD x, .int i, .int j] = some (.bool (cov i j x)) := by
  refine gDef_ev' [.val (cellD x), .val (.int i), .val (.int j), .un, .un, .un, .un] rfl rfl ?_
  unfold f_covers
  refine (sSeq_nx (e := [.val (cellD x), .val (.int i), .val (.int j), .val (.int x.r), .val (.int x.c), .val (.int x.h), .val (.int x.w)]) (sUnp_ev (slT_pre (n := 4) rfl rfl rfl (by simp)) rfl)).trans ?_
  exact sRet_ev (eAnd_b (ch1 _ _ _ _ _ _ _ rfl (e2_ev rfl rfl rfl) rfl) (ch1 _ _ _ _ _ _ _ rfl (e2_ev rfl rfl rfl) rfl))
def covN (xs : List LCell) (i j : Int) : Nat := (xs.filter (cov i j)).length
def onceB (R C : Nat) (xs : List LCell) : Bool := (List.range R).all fun i => (List.range C).all fun j => decide (covN xs i j = 1)
/-- two nested loops over ranges that return at the first place -/
theorem not_any {α : Type} (p : α → Bool) (xs : List α) : (xs.any fun x => !p x) = !xs.all p := by
  induction xs with
  | nil => rfl
  | cons x xs ih => rw [List.any_cons, List.all_cons, ih, Bool.not_and]
theorem rng0_ev {fa : En → Option (List PyData)} {env : En} {n : Nat} (h : fa env = some [.int (n : Nat)]) (hn : n ≤ 100000) : iR1 fa env = some ((List.range n).map fun k : Nat => PyData.int (0 + (k : Nat))) := by
  rw [iR1_ev h (by omega) (by omega), Int.toNat_natCast]
  rfl
theorem is_covered_once_ev (t : LTab) (h1 : t.cols.length ≤ 1000) (h2 : t.rows.length ≤ 1000) (h3 : t.cells.length ≤ 1000) : g_is_covered_once [tabD t] = some (.bool (onceB t.rows.length t.cols.length t.cells)) := by
  obtain ⟨A, hA⟩ : ∃ A, A = tabD t := ⟨_, rfl⟩
  obtain ⟨B, hB⟩ : ∃ A, A = PyData.tuple (t.cols.map colD) := ⟨_, rfl⟩
  obtain ⟨D, hD⟩ : ∃ A, A = PyData.tuple (t.rows.map rowD) := ⟨_, rfl⟩
  refine gDef_ev' [.val (tabD t), .un, .un, .un, .un, .un, .un] rfl rfl ?_
  unfold f_is_covered_once
  refine (sSeq_nx (e := [.val A, .val B, .val D, .val (.tuple (t.cells.map cellD)), .un, .un, .un]) (by rw [hA, hB, hD]; exact sUnp_ev rfl rfl)).trans ?_
  have inner : ∀ (i : Nat) (v : Int), v = 0 + (i : Nat) → ∀ y5 y6 : Sl, match (List.range t.cols.length).findSome? (fun j : Nat => if (!decide (covN t.cells i j = 1)) = true then some (PyData.bool false) else none) with
      | none => ∃ e', loopF (gVal 5) b_is_covered_once_1 ((List.range t.cols.length).map fun j : Nat => PyData.int (0 + (j : Nat))) [.val A, .val B, .val D, .val (.tuple (t.cells.map cellD)), .val (.int v), y5, y6] = .nx e' ∧ ∃ y5 y6, e' = [.val A, .val B, .val D, .val (.tuple (t.cells.map cellD)), .val (.int v), y5, y6]
      | some d => loopF (gVal 5) b_is_covered_once_1 ((List.range t.cols.length).map fun j : Nat => PyData.int (0 + (j : Nat))) [.val A, .val B, .val D, .val (.tuple (t.cells.map cellD)), .val (.int v), y5, y6] = .rt d := fun i v hv y5 y6 =>
    loop_find (g := gVal 5) (b := b_is_covered_once_1) (fun j : Nat => PyData.int (0 + (j : Nat))) (fun j => if (!decide (covN t.cells i j = 1)) = true then some (.bool false) else none) (fun e => ∃ y5 y6, e = [.val A, .val B, .val D, .val (.tuple (t.cells.map cellD)), .val (.int v), y5, y6]) (List.range t.cols.length) _ ⟨y5, y6, rfl⟩ (fun j hj e he => by
      obtain ⟨y5, y6, rfl⟩ := he
      obtain ⟨w, hw⟩ : ∃ v : Int, v = 0 + (j : Nat) := ⟨_, rfl⟩
      rw [← hw]
      refine ⟨[.val A, .val B, .val D, .val (.tuple (t.cells.map cellD)), .val (.int v), .val (.int w), y6], rfl, ?_⟩
      have hc : fCmp [6] (iSeq (eVar 3)) (gVal 6) t_is_covered_once_1 c_is_covered_once_1 [.val A, .val B, .val D, .val (.tuple (t.cells.map cellD)), .val (.int v), .val (.int w), y6] = some ((t.cells.filter (cov i j)).map cellD) := by
        refine fCmp_ev (ds := t.cells.map cellD) rfl (compF_filterS fun x hx => ⟨[.val A, .val B, .val D, .val (.tuple (t.cells.map cellD)), .val (.int v), .val (.int w), .val (cellD x)], rfl, ?_, rfl⟩) (by rw [List.length_map]; exact Nat.le_trans (List.length_filter_le _ _) (by omega))
        refine tTr_ev (eCall_ev (aCons_ev rfl (aCons_ev rfl (aCons_ev rfl aNil_ev))) (covers_ev x v w)) ?_
        rw [hv, hw, Int.zero_add, Int.zero_add]
        rfl
      have tt : t1 (e2 neD (eCall lenA (aCons (eL (fCmp [6] (iSeq (eVar 3)) (gVal 6) t_is_covered_once_1 c_is_covered_once_1)) aNil)) (eC (.int 1))) [.val A, .val B, .val D, .val (.tuple (t.cells.map cellD)), .val (.int v), .val (.int w), y6] = some (!decide (covN t.cells i j = 1)) := by
        refine t1_ev (e2_ev (len_l (eL_ev hc)) rfl ((neD_int _ _).trans ?_))
        congr 3
        rw [List.length_map]
        show decide (((covN t.cells i j : Nat) : Int) = 1) = decide (covN t.cells i j = 1)
        by_cases q : covN t.cells i j = 1
        · rw [decide_eq_true q, decide_eq_true (by omega)]
        · rw [decide_eq_false q, decide_eq_false (by omega)]
      unfold b_is_covered_once_1
      cases q : (!decide (covN t.cells i j = 1)) with
      | true => rw [q] at tt; exact (sIf_t tt).trans rfl
      | false => rw [q] at tt; exact ⟨_, (sIf_f tt).trans rfl, _, _, rfl⟩)
  have key := loop_find (g := gVal 4) (b := b_is_covered_once_2) (fun k : Nat => PyData.int (0 + (k : Nat))) (fun i => if (!(List.range t.cols.length).all fun j => decide (covN t.cells i j = 1)) = true then some (.bool false) else none) (fun e => ∃ y4 y5 y6, e = [.val A, .val B, .val D, .val (.tuple (t.cells.map cellD)), y4, y5, y6]) (List.range t.rows.length) [.val A, .val B, .val D, .val (.tuple (t.cells.map cellD)), .un, .un, .un] ⟨_, _, _, rfl⟩ (fun i hi e he => by
    obtain ⟨y4, y5, y6, rfl⟩ := he
    obtain ⟨v, hv⟩ : ∃ v : Int, v = 0 + (i : Nat) := ⟨_, rfl⟩
    rw [← hv]
    refine ⟨[.val A, .val B, .val D, .val (.tuple (t.cells.map cellD)), .val (.int v), y5, y6], rfl, ?_⟩
    have inn := inner i v hv y5 y6
    rw [cond_find (fun j : Nat => !decide (covN t.cells i j = 1))] at inn
    have hrg : iR1 (aCons (eCall lenA (aCons (eVar 1) aNil)) aNil) [.val A, .val B, .val D, .val (.tuple (t.cells.map cellD)), .val (.int v), y5, y6] = _ := rng0_ev (n := t.cols.length) (aCons_ev ((len_t (ds := t.cols.map colD) (by rw [hB]; rfl)).trans (by simp)) aNil_ev) (by omega)
    have eq : ((List.range t.cols.length).any fun j : Nat => !decide (covN t.cells i j = 1)) = !(List.range t.cols.length).all fun j => decide (covN t.cells i j = 1) := not_any _ _
    rw [eq] at inn
    unfold b_is_covered_once_2
    cases q : (!(List.range t.cols.length).all fun j => decide (covN t.cells i j = 1)) with
    | true => rw [q] at inn; exact sFor_ev hrg inn
    | false =>
      rw [q] at inn
      obtain ⟨e', h1, y5, y6, rfl⟩ := inn
      exact ⟨_, sFor_ev hrg h1, _, _, _, rfl⟩)
  rw [cond_find (fun i : Nat => !(List.range t.cols.length).all fun j => decide (covN t.cells i j = 1))] at key
  have eq : ((List.range t.rows.length).any fun i : Nat => !(List.range t.cols.length).all fun j => decide (covN t.cells i j = 1)) = !onceB t.rows.length t.cols.length t.cells := not_any _ _
  rw [eq] at key
  have hrg : iR1 (aCons (eCall lenA (aCons (eVar 2) aNil)) aNil) [.val A, .val B, .val D, .val (.tuple (t.cells.map cellD)), .un, .un, .un] = _ := rng0_ev (n := t.rows.length) (aCons_ev ((len_t (ds := t.rows.map rowD) (by rw [hD]; rfl)).trans (by simp)) aNil_ev) (by omega)
  cases q : onceB t.rows.length t.cols.length t.cells with
  | false =>
    rw [q] at key
    exact sSeq_rt (sFor_ev hrg key)
  | true =>
    rw [q] at key
    obtain ⟨e', h1, y4, y5, y6, rfl⟩ := key
    exact (sSeq_nx (sFor_ev hrg h1)).trans rfl
def heads (t : LTab) : Nat := (t.rows.filter fun x => x.2.1).length
theorem head_count_ev (t : LTab) (h : t.rows.length ≤ 1000) : g_head_count [tabD t] = some (.int (heads t)) := by
  refine gDef_ev' [.val (tabD t), .un] rfl rfl (sRet_ev ((len_l (ds := (t.rows.filter fun x => x.2.1).map rowD) (eL_ev ?_)).trans ?_))
  · exact fCmp_ev (ds := t.rows.map rowD) (iSeq_t (e2_ev rfl rfl rfl)) (compF_filterS fun x hx => ⟨[.val (tabD t), .val (rowD x)], rfl, tTr_ev (e2_ev rfl rfl rfl) rfl, rfl⟩) (by rw [List.length_map]; exact Nat.le_trans (List.length_filter_le _ _) (by omega))
  · rw [List.length_map]; rfl
/-! words -/
def CHS : Str := "ABCDEFGHIJKLMNOPQRSTUVWXYZabcdefghijklmnopqrstuvwxyz0123456789.,:;!?'()/"
def wordB (w : Str) : Bool := decide (1 ≤ w.length ∧ w.length ≤ 8) && (TL.tl w).all fun c => decide (c ∈ TL.tl CHS)
theorem len_s {i : En → Option PyData} {env : En} {x : Str} (h : i env = some (.str x)) (hl : x.length ≤ 1000000) : eCall lenA (aCons i aNil) env = some (.int (x.length : Nat)) := eCall_ev (aCons_ev h aNil_ev) (if_pos hl)
theorem is_word_ev (w : Str) (hl : w.length ≤ 1000) : g_is_word [.str w] = some (.bool (wordB w)) := by
  refine gDef_ev' [.val (.str w), .un] rfl rfl ?_
  unfold f_is_word
  refine (guard_b (not_ev (t1_ev ((ch2 1 (w.length : Nat) 8 _ _ _ _ rfl (len_s rfl (by omega)) rfl)))) rfl fun _ => sRet_ev (all_ev (p := fun c => decide (c ∈ TL.tl CHS)) (xs := TL.tl w) ?_)).trans ?_
  · exact fCmp_ev (ds := (TL.tl w).map sgD) rfl (compF_mapS fun c hc => ⟨[.val (.str w), .val (sgD c)], rfl, e2_ev rfl rfl (inX_sign _ _)⟩) (by rw [List.length_map, ← TL.len_tl]; omega)
  · unfold wordB
    have e : decide ((1 : Int) ≤ ((w.length : Nat) : Int) ∧ ((w.length : Nat) : Int) ≤ 8) = decide (1 ≤ w.length ∧ w.length ≤ 8) := by
      by_cases q : 1 ≤ w.length ∧ w.length ≤ 8
      · rw [decide_eq_true q, decide_eq_true (by omega)]
      · rw [decide_eq_false q, decide_eq_false (by omega)]
    rw [e]
    cases decide (1 ≤ w.length ∧ w.length ≤ 8) <;> rfl
def wordsB (ws : List Str) : Bool := decide (ws.length ≤ 4) && ws.all wordB
theorem are_words_ev (ws : List Str) (hl : ws.length ≤ 1000) (hw : ∀ w ∈ ws, w.length ≤ 1000) : g_are_words [.tuple (ws.map .str)] = some (.bool (wordsB ws)) := by
  refine gDef_ev' [.val (.tuple (ws.map .str)), .un] rfl rfl (sRet_ev (eAnd_b ((e2_ev (len_t rfl) rfl (leD_int _ _)).trans ?_) (all_ev (p := wordB) ?_)))
  · congr 3
    rw [List.length_map]
    simp
    omega
  · exact fCmp_ev (ds := ws.map .str) rfl (compF_mapS fun w hm => ⟨[.val (.tuple (ws.map .str)), .val (.str w)], rfl, eCall_ev (aCons_ev rfl aNil_ev) (is_word_ev w (hw w hm))⟩) (by simp; omega)
theorem covers_both_ev (x : LCell) (i : Int) : g_covers_both [cellD x, .int i] = some (.bool (decide (x.r < i ∧ i < x.r + x.h))) := gDef_ev' [.val (cellD x), .val (.int i)] rfl rfl (sRet_ev (ch0 _ _ _ _ _ _ _ (e2_ev rfl rfl rfl) rfl (e2_ev (e2_ev rfl rfl rfl) (e2_ev rfl rfl rfl) rfl)))
/-! the whole check -/
structure Sane (t : LTab) : Prop where
  nc : 1 ≤ t.cols.length ∧ t.cols.length ≤ 4
  nr : 1 ≤ t.rows.length ∧ t.rows.length ≤ 4
  cn : t.cells.length ≤ 100
  ws : ∀ x ∈ t.cells, x.ws.length ≤ 100 ∧ ∀ w ∈ x.ws, w.length ≤ 100
  pos : ∀ x ∈ t.cells, 0 ≤ x.r ∧ x.r ≤ 100 ∧ 0 ≤ x.c ∧ x.c ≤ 100 ∧ -100 ≤ x.h ∧ x.h ≤ 100 ∧ -100 ≤ x.w ∧ x.w ≤ 100
def cellF (H : Nat) (x : LCell) : Option Str := if wordsB x.ws = true then (if decide (x.r < (H : Nat) ∧ ((H : Nat) : Int) < x.r + x.h) = true then some "cell crosses the head" else none) else some "words are wrong"
def faultS (t : LTab) : Option Str :=
  if t.cols.all colB = false then some "columns are wrong"
  else if t.rows.all rowB = false then some "rows are wrong"
  else if (List.range (t.rows.length - 1)).any (headBad t.rows) = true then some "head rows come first"
  else if (List.range (t.cells.length - 1)).any (ordBad t.cells) = true then some "cells are not in order"
  else if t.cells.all (insB t.rows.length t.cols.length) = false then some "cell lies outside"
  else if onceB t.rows.length t.cols.length t.cells = false then some "place is not covered once"
  else t.cells.findSome? (cellF (heads t))
def rzS : Option Str → Rz
  | none => .ok .none
  | some x => .ex (.str x)
theorem xg_t {ga : En → Option Bool} {t : En → OutX} {env : En} {m : Str} (h : ga env = some true) : xSeq (xIf ga (xRaise (eC (.str m))) xNil) t env = .rs env (.str m) := xSeq_rs ((xIf_t h).trans (xRaise_ev rfl))
theorem xg_f {ga : En → Option Bool} {s t : En → OutX} {env : En} (h : ga env = some false) : xSeq (xIf ga s xNil) t env = t env := xSeq_nx' ((xIf_f h).trans rfl)
theorem gDefX_ev {np nN : Nat} {fB : En → OutX} {ds : List PyData} {r : Rz} (env : En) (h1 : ds.length = np) (h0 : env0 nN ds = env) (h2 : outDX (fB env) = some r) : gDefX np nN fB ds = some r := by
  unfold gDefX
  rw [if_pos h1, h0, h2]
theorem check_table_ev (t : LTab) (S : Sane t) : g_check_table [tabD t] = some (rzS (faultS t)) := by
  obtain ⟨A, hA⟩ : ∃ A, A = tabD t := ⟨_, rfl⟩
  obtain ⟨B, hB⟩ : ∃ A, A = PyData.tuple (t.cols.map colD) := ⟨_, rfl⟩
  obtain ⟨D, hD⟩ : ∃ A, A = PyData.tuple (t.rows.map rowD) := ⟨_, rfl⟩
  obtain ⟨c1, c2⟩ := S.nc
  obtain ⟨r1, r2⟩ := S.nr
  have cn := S.cn
  refine gDefX_ev [.val (tabD t), .un, .un, .un, .un, .un] rfl rfl ?_
  unfold f_check_table
  rw [xSeq_nx' (e := [.val A, .val B, .val D, .val (.tuple (t.cells.map cellD)), .un, .un]) (up_nx (by rw [hA, hB, hD]; exact sUnp_ev rfl rfl))]
  have e1 : (tNot' (tTr (eCall g_are_columns (aCons (eVar 1) aNil)))) [.val A, .val B, .val D, .val (.tuple (t.cells.map cellD)), .un, .un] = some (!(t.cols.all colB)) := by
    refine not_ev (tTr_ev (eCall_ev (aCons_ev (x := B) rfl aNil_ev) (by rw [hB]; exact are_columns_ev _ (by omega))) ?_)
    rw [decide_eq_true (by omega)]; rfl
  have e2' : (tNot' (tTr (eCall g_are_rows (aCons (eVar 2) aNil)))) [.val A, .val B, .val D, .val (.tuple (t.cells.map cellD)), .un, .un] = some (!(t.rows.all rowB)) := by
    refine not_ev (tTr_ev (eCall_ev (aCons_ev (x := D) rfl aNil_ev) (by rw [hD]; exact are_rows_ev _ (by omega))) ?_)
    rw [decide_eq_true (by omega)]; rfl
  have e3 : (tNot' (tTr (eCall g_are_heads_first (aCons (eVar 2) aNil)))) [.val A, .val B, .val D, .val (.tuple (t.cells.map cellD)), .un, .un] = some ((List.range (t.rows.length - 1)).any (headBad t.rows)) := by
    have := not_ev (tTr_ev (env := [.val A, .val B, .val D, .val (.tuple (t.cells.map cellD)), .un, .un]) (eCall_ev (fa := aCons (eVar 2) aNil) (aCons_ev (x := D) rfl aNil_ev) (by rw [hD]; exact are_heads_first_ev _ (by omega))) rfl)
    rw [Bool.not_not] at this
    exact this
  have e4 : (tNot' (tTr (eCall g_are_in_order (aCons (eVar 3) aNil)))) [.val A, .val B, .val D, .val (.tuple (t.cells.map cellD)), .un, .un] = some ((List.range (t.cells.length - 1)).any (ordBad t.cells)) := by
    have := not_ev (tTr_ev (env := [.val A, .val B, .val D, .val (.tuple (t.cells.map cellD)), .un, .un]) (eCall_ev (fa := aCons (eVar 3) aNil) (aCons_ev rfl aNil_ev) (are_in_order_ev t.cells (by omega))) rfl)
    rw [Bool.not_not] at this
    exact this
  have e5 : (tNot' (t1 (eCall allA (aCons (eL (fCmp [5] (iSeq (eVar 3)) (gVal 5) tYes' c_check_table_1)) aNil)))) [.val A, .val B, .val D, .val (.tuple (t.cells.map cellD)), .un, .un] = some (!(t.cells.all (insB t.rows.length t.cols.length))) := by
    refine not_ev (t1_ev (all_ev ?_))
    refine fCmp_ev (ds := t.cells.map cellD) rfl (compF_mapS fun x hx => ⟨[.val A, .val B, .val D, .val (.tuple (t.cells.map cellD)), .un, .val (cellD x)], rfl, ?_⟩) (by simp; omega)
    exact eCall_ev (aCons_ev rfl (aCons_ev (len_t (ds := t.rows.map rowD) (by rw [hD]; rfl)) (aCons_ev (len_t (ds := t.cols.map colD) (by rw [hB]; rfl)) aNil_ev))) (by rw [List.length_map, List.length_map]; exact is_inside_ev x _ _)
  have e6 : (tNot' (tTr (eCall g_is_covered_once (aCons (eVar 0) aNil)))) [.val A, .val B, .val D, .val (.tuple (t.cells.map cellD)), .un, .un] = some (!(onceB t.rows.length t.cols.length t.cells)) := not_ev (tTr_ev (eCall_ev (aCons_ev (x := A) rfl aNil_ev) (by rw [hA]; exact is_covered_once_ev t (by omega) (by omega) (by omega))) rfl)
  unfold faultS
  -- the guards, one by one
  by_cases g1 : t.cols.all colB = false
  · rw [if_pos g1]
    rw [g1] at e1
    rw [xg_t (show _ = some true from e1)]
    rfl
  rw [if_neg g1]
  rw [Bool.not_eq_false] at g1
  rw [g1] at e1
  rw [xg_f (show _ = some false from e1)]
  by_cases g2 : t.rows.all rowB = false
  · rw [if_pos g2]
    rw [g2] at e2'
    rw [xg_t (show _ = some true from e2')]
    rfl
  rw [if_neg g2]
  rw [Bool.not_eq_false] at g2
  rw [g2] at e2'
  rw [xg_f (show _ = some false from e2')]
  by_cases g3 : (List.range (t.rows.length - 1)).any (headBad t.rows) = true
  · rw [if_pos g3]
    rw [g3] at e3
    rw [xg_t (show _ = some true from e3)]
    rfl
  rw [if_neg g3]
  rw [Bool.not_eq_true] at g3
  rw [g3] at e3
  rw [xg_f (show _ = some false from e3)]
  by_cases g4 : (List.range (t.cells.length - 1)).any (ordBad t.cells) = true
  · rw [if_pos g4]
    rw [g4] at e4
    rw [xg_t (show _ = some true from e4)]
    rfl
  rw [if_neg g4]
  rw [Bool.not_eq_true] at g4
  rw [g4] at e4
  rw [xg_f (show _ = some false from e4)]
  by_cases g5 : t.cells.all (insB t.rows.length t.cols.length) = false
  · rw [if_pos g5]
    rw [g5] at e5
    rw [xg_t (show _ = some true from e5)]
    rfl
  rw [if_neg g5]
  rw [Bool.not_eq_false] at g5
  rw [g5] at e5
  rw [xg_f (show _ = some false from e5)]
  by_cases g6 : onceB t.rows.length t.cols.length t.cells = false
  · rw [if_pos g6]
    rw [g6] at e6
    rw [xg_t (show _ = some true from e6)]
    rfl
  rw [if_neg g6]
  rw [Bool.not_eq_false] at g6
  rw [g6] at e6
  rw [xg_f (show _ = some false from e6)]
  rw [xSeq_nx' (e := [.val A, .val B, .val D, .val (.tuple (t.cells.map cellD)), .val (.int (heads t)), .un]) (up_nx (sSet_ev (eCall_ev (aCons_ev (x := A) rfl aNil_ev) (by rw [hA]; exact head_count_ev t (by omega)))))]
  have key := loopX_find (g := gVal 5) (b := b_check_table_1) cellD (fun x => (cellF (heads t) x).map PyData.str) (fun e => ∃ y, e = [.val A, .val B, .val D, .val (.tuple (t.cells.map cellD)), .val (.int (heads t)), y]) t.cells [.val A, .val B, .val D, .val (.tuple (t.cells.map cellD)), .val (.int (heads t)), .un] ⟨_, rfl⟩ (fun x hx e he => by
    obtain ⟨y, rfl⟩ := he
    refine ⟨[.val A, .val B, .val D, .val (.tuple (t.cells.map cellD)), .val (.int (heads t)), .val (cellD x)], rfl, ?_⟩
    obtain ⟨w1, w2⟩ := S.ws x hx
    have t1' : (tNot' (tTr (eCall g_are_words (aCons (e2 ixG (eVar 5) (eC (.int 4))) aNil)))) [.val A, .val B, .val D, .val (.tuple (t.cells.map cellD)), .val (.int (heads t)), .val (cellD x)] = some (!wordsB x.ws) := not_ev (tTr_ev (eCall_ev (aCons_ev (e2_ev rfl rfl rfl) aNil_ev) (are_words_ev x.ws (by omega) fun w hw => by have := w2 w hw; omega)) rfl)
    have t2' : (tTr (eCall g_covers_both (aCons (eVar 5) (aCons (eVar 4) aNil)))) [.val A, .val B, .val D, .val (.tuple (t.cells.map cellD)), .val (.int (heads t)), .val (cellD x)] = some (decide (x.r < (heads t : Nat) ∧ ((heads t : Nat) : Int) < x.r + x.h)) := tTr_ev (eCall_ev (aCons_ev rfl (aCons_ev rfl aNil_ev)) (covers_both_ev x _)) rfl
    unfold b_check_table_1 cellF
    cases q : wordsB x.ws with
    | false =>
      rw [q] at t1'
      simp only [Bool.false_eq_true, if_false, Option.map_some]
      exact ⟨_, xg_t (show _ = some true from t1')⟩
    | true =>
      rw [q] at t1'
      simp only [if_true]
      rw [xg_f (show _ = some false from t1')]
      cases q2 : decide (x.r < (heads t : Nat) ∧ ((heads t : Nat) : Int) < x.r + x.h) with
      | true =>
        rw [q2] at t2'
        simp only [if_true, Option.map_some]
        exact ⟨_, (xIf_t t2').trans (xRaise_ev rfl)⟩
      | false =>
        rw [q2] at t2'
        simp only [Bool.false_eq_true, if_false, Option.map_none]
        exact ⟨_, (xIf_f t2').trans rfl, _, rfl⟩)
  have fm : t.cells.findSome? (fun x => (cellF (heads t) x).map PyData.str) = (t.cells.findSome? (cellF (heads t))).map PyData.str := by
    induction t.cells with
    | nil => rfl
    | cons x xs ih =>
      rw [List.findSome?_cons, List.findSome?_cons]
      cases cellF (heads t) x with
      | none => simpa using ih
      | some m => rfl
  rw [fm] at key
  cases q : t.cells.findSome? (cellF (heads t)) with
  | none =>
    rw [q] at key
    obtain ⟨e', h1, y, rfl⟩ := key
    rw [xFor_ev rfl h1]
    rfl
  | some m =>
    rw [q] at key
    obtain ⟨e2, h1⟩ := key
    rw [xFor_ev rfl h1]
    rfl
/-! the law's own checks -/
theorem gtU_int (i j : Int) : gtU (.int i) (.int j) = some (.bool (decide (j < i))) := by
  unfold gtU
  rw [if_pos (by simp [ltOk, noD, PySem.W.alike, PyData.depth])]
  rw [show PySem.W.dataLt (.int j) (.int i) = decide (j < i) from PySem.W.DatumOrd.lt_eq (α := Int) j i]
theorem eqv_str (x y : Str) : PyData.eqv (.str x) (.str y) = decide (x = y) := by
  rfl
theorem inT_strs (al : Str) (xs : List Str) : inT (.str al) (.tuple (xs.map .str)) = some (.bool (decide (al ∈ xs))) := by
  show (if (flatD (.str al) && (xs.map PyData.str).all flatD) = true then some (PyData.bool ((xs.map PyData.str).any fun z => PyData.eqv z (.str al))) else none) = _
  have h1 : ((xs.map PyData.str).all flatD) = true := by
    rw [List.all_eq_true]
    intro d hd
    obtain ⟨x, _, rfl⟩ := List.mem_map.mp hd
    rfl
  rw [if_pos (by rw [h1]; rfl)]
  congr 2
  clear h1
  induction xs with
  | nil => rfl
  | cons x xs ih =>
    rw [List.map_cons, List.any_cons, ih, eqv_str]
    by_cases q : x = al
    · subst q; simp
    · have q' : ¬ al = x := fun h => q h.symm
      simp [q, q']
theorem Lcolumn_right_ev (x : LCol) : g_Lcolumn_right [colD x] = some (.bool (colB x)) := by
  obtain ⟨l, m, p, al⟩ := x
  obtain ⟨M, hM⟩ : ∃ M, M = oD m := ⟨_, rfl⟩
  obtain ⟨P, hP⟩ : ∃ M, M = oD p := ⟨_, rfl⟩
  refine gDef_ev' [.val (colD ⟨l, m, p, al⟩), .un, .un, .un, .un] rfl rfl ?_
  unfold f_Lcolumn_right
  show sSeq _ _ [.val (.tuple [.int l, oD m, oD p, .str al]), .un, .un, .un, .un] = _
  rw [← hM, ← hP]
  refine (sSeq_nx (e := [.val (.tuple [.int l, M, P, .str al]), .val (.int l), .val M, .val P, .val (.str al)]) (sUnp_ev rfl rfl)).trans ?_
  have b2 : ∃ b2, (tAnd' (t1 (e2 isntD (eVar 2) (eC .none))) (tOr' (t1 (e2 ltD (eVar 2) (eVar 1))) (t1 (e2 gtD (eVar 2) (eC (.int 40)))))) [.val (.tuple [.int l, M, P, .str al]), .val (.int l), .val M, .val P, .val (.str al)] = some b2 ∧ b2 = !optB (fun m => decide (l ≤ m ∧ m ≤ 40)) m := by
    cases m with
    | none => subst hM; exact ⟨_, and_f (t1_ev (e2_ev rfl rfl rfl)), rfl⟩
    | some m =>
      subst hM
      refine ⟨_, and_b (t1_ev (e2_ev rfl rfl rfl)) (or_b (t1_ev (e2_ev rfl rfl (ltD_int _ _))) (t1_ev (e2_ev rfl rfl (gtD_int _ _)))), ?_⟩
      by_cases q1 : m < l <;> by_cases q2 : 40 < m <;> simp [noneB, optB, oD, q1, q2] <;> omega
  have b3 : ∃ b2, (tAnd' (t1 (e2 isntD (eVar 3) (eC .none))) (tOr' (t1 (e2 ltD (eVar 3) (eC (.int 1)))) (t1 (e2 gtD (eVar 3) (eC (.int 100)))))) [.val (.tuple [.int l, M, P, .str al]), .val (.int l), .val M, .val P, .val (.str al)] = some b2 ∧ b2 = !optB (fun p => decide (1 ≤ p ∧ p ≤ 100)) p := by
    cases p with
    | none => subst hP; exact ⟨_, and_f (t1_ev (e2_ev rfl rfl rfl)), rfl⟩
    | some m =>
      subst hP
      refine ⟨_, and_b (t1_ev (e2_ev rfl rfl rfl)) (or_b (t1_ev (e2_ev rfl rfl (ltD_int _ _))) (t1_ev (e2_ev rfl rfl (gtD_int _ _)))), ?_⟩
      by_cases q1 : m < 1 <;> by_cases q2 : 100 < m <;> simp [noneB, optB, oD, q1, q2] <;> omega
  obtain ⟨b2, h2, e2⟩ := b2
  obtain ⟨b3, h3, e3⟩ := b3
  refine (guard_b (or_b (t1_ev (e2_ev rfl rfl (ltD_int _ _))) (or_b (t1_ev (e2_ev rfl rfl (gtD_int _ _))) h2)) rfl fun q1 => guard_b h3 rfl fun q3 => sRet_ev (e2_ev rfl (eTup_ev (aCons_ev rfl (aCons_ev rfl (aCons_ev rfl aNil_ev))) (by simp)) (inT_strs al ALN))).trans ?_
  congr 1
  unfold colB
  subst e2 e3
  by_cases q1 : l < 1
  · simp [q1, show ¬ 1 ≤ l by omega]
  by_cases q2 : 20 < l
  · simp [q2, show ¬ l ≤ 20 by omega]
  have q3 : 1 ≤ l ∧ l ≤ 20 := by omega
  cases h2' : optB (fun m => decide (l ≤ m ∧ m ≤ 40)) m <;> cases h3' : optB (fun p => decide (1 ≤ p ∧ p ≤ 100)) p <;> simp [q1, q2, q3, h2', h3']
def LCH : Str := "abcdefghijklmnopqrstuvwxyzABCDEFGHIJKLMNOPQRSTUVWXYZ0123456789.,:;!?'()/"
theorem lch1 : ∀ n ∈ TL.tl LCH, n ∈ TL.tl CHS := by decide +kernel
theorem lch2 : ∀ n ∈ TL.tl CHS, n ∈ TL.tl LCH := by decide +kernel
theorem lch (n : Nat) : decide (n ∈ TL.tl LCH) = decide (n ∈ TL.tl CHS) := by
  by_cases q : n ∈ TL.tl CHS
  · rw [decide_eq_true q, decide_eq_true (lch2 n q)]
  · rw [decide_eq_false q, decide_eq_false (fun h => q (lch1 n h))]
theorem notInX_sign (n : Nat) (z : Str) : notInX (sgD n) (.str z) = some (.bool (!decide (n ∈ TL.tl z))) := rfl
theorem Lis_word_ev (w : Str) (hl : w.length ≤ 1000) : g_Lis_word [.str w] = some (.bool (wordB w)) := by
  refine gDef_ev' [.val (.str w), .un, .un] rfl rfl ?_
  unfold f_Lis_word
  refine (sSeq_nx (e := [.val (.str w), .val (.str LCH), .un]) (sSet_ev rfl)).trans ?_
  have key := loop_find (g := gVal 2) (b := b_Lis_word_1) sgD (fun n => if (!decide (n ∈ TL.tl CHS)) = true then some (.bool false) else none) (fun e => ∃ y, e = [.val (.str w), .val (.str LCH), y]) (TL.tl w) [.val (.str w), .val (.str LCH), .un] ⟨_, rfl⟩ (fun n hn e he => by
    obtain ⟨y, rfl⟩ := he
    refine ⟨[.val (.str w), .val (.str LCH), .val (sgD n)], rfl, ?_⟩
    have t : t1 (e2 notInX (eVar 2) (eVar 1)) [.val (.str w), .val (.str LCH), .val (sgD n)] = some (!decide (n ∈ TL.tl CHS)) := t1_ev (e2_ev rfl rfl (by rw [notInX_sign, lch]))
    unfold b_Lis_word_1
    cases q : (!decide (n ∈ TL.tl CHS)) with
    | true => rw [q] at t; exact (sIf_t t).trans rfl
    | false => rw [q] at t; exact ⟨_, (sIf_f t).trans rfl, _, rfl⟩)
  rw [cond_find (fun n => !decide (n ∈ TL.tl CHS)), not_any] at key
  have hrg : iStrD (eVar 0) [.val (.str w), .val (.str LCH), .un] = some ((TL.tl w).map sgD) := rfl
  unfold wordB
  have e : decide ((1 : Int) ≤ ((w.length : Nat) : Int) ∧ ((w.length : Nat) : Int) ≤ 8) = decide (1 ≤ w.length ∧ w.length ≤ 8) := by
    by_cases q : 1 ≤ w.length ∧ w.length ≤ 8
    · rw [decide_eq_true q, decide_eq_true (by omega)]
    · rw [decide_eq_false q, decide_eq_false (by omega)]
  cases q : (TL.tl w).all (fun n => decide (n ∈ TL.tl CHS)) with
  | false =>
    rw [q] at key
    refine (sSeq_rt (sFor_ev hrg key)).trans ?_
    rw [Bool.and_false]
  | true =>
    rw [q] at key
    obtain ⟨e', h1, y, rfl⟩ := key
    refine (sSeq_nx (sFor_ev hrg h1)).trans (sRet_ev ((ch2 1 (w.length : Nat) 8 _ _ _ _ rfl (len_s rfl (by omega)) rfl).trans ?_))
    rw [e, Bool.and_true]
/-! the count of covers by place -/
def cntL (N : Nat) (F : Nat → Int) : List PyData := (List.range N).map fun k : Nat => PyData.int (F k)
theorem cntL_get {N : Nat} {F : Nat → Int} {a : Nat} (h : a < N) : (cntL N F)[a]? = some (.int (F a)) := by
  unfold cntL
  rw [List.getElem?_map, List.getElem?_range h]; rfl
theorem cntL_len (N : Nat) (F : Nat → Int) : (cntL N F).length = N := by unfold cntL; simp
theorem cntL_set {N : Nat} {F : Nat → Int} {a : Nat} {i : Int} : (cntL N F).set a (.int i) = cntL N (fun k => if k = a then i else F k) := by
  apply List.ext_getElem?
  intro k
  rw [List.getElem?_set, cntL_len]
  by_cases hk : k < N
  · rw [cntL_get hk, cntL_get hk]
    by_cases q : a = k
    · subst q; rw [if_pos rfl, if_pos hk, if_pos rfl]
    · rw [if_neg q, if_neg (fun h => q h.symm)]
  · rw [List.getElem?_eq_none (by rw [cntL_len]; omega), List.getElem?_eq_none (by rw [cntL_len]; omega)]
    by_cases q : a = k
    · rw [if_pos q, if_neg (by omega)]
    · rw [if_neg q]
/-- the places that the first n turns of a cell at r, c of h, w have counted -/
def inP (r c h w n i j : Nat) : Prop := (r ≤ i ∧ i < r + h) ∧ (c ≤ j ∧ j < c + w) ∧ (i - r) * w + (j - c) < n
instance (r c h w n i j : Nat) : Decidable (inP r c h w n i j) := by unfold inP; exact inferInstance
theorem dm_eq {C i j : Nat} (h : j < C) : (i * C + j) / C = i ∧ (i * C + j) % C = j := by
  have hC0 : 0 < C := by omega
  constructor
  · rw [Nat.add_comm, Nat.add_mul_div_right _ _ hC0, Nat.div_eq_of_lt h, Nat.zero_add]
  · rw [Nat.add_comm, Nat.add_mul_mod_self_right, Nat.mod_eq_of_lt h]
theorem inP_step {r c h w n C k q m : Nat} (hm : m < w) (hq : q < h) (hn : n = q * w + m) (hC : c + w ≤ C) : inP r c h w (n + 1) (k / C) (k % C) ↔ inP r c h w n (k / C) (k % C) ∨ k = (r + q) * C + (c + m) := by
  have hC0 : 0 < C := by omega
  have e2 : k / C * C + k % C = k := by rw [Nat.mul_comm]; exact Nat.div_add_mod k C
  have m2 := Nat.mod_lt k hC0
  obtain ⟨i, hi⟩ : ∃ i, i = k / C := ⟨_, rfl⟩
  obtain ⟨j, hj⟩ : ∃ j, j = k % C := ⟨_, rfl⟩
  rw [← hi, ← hj] at e2 ⊢
  rw [← hj] at m2
  unfold inP
  constructor
  · rintro ⟨a1, a2, a3⟩
    by_cases z : (i - r) * w + (j - c) < n
    · exact .inl ⟨a1, a2, z⟩
    · right
      have z' : n = (i - r) * w + (j - c) := by omega
      obtain ⟨b1, b2⟩ := dm_eq (C := w) (i := i - r) (j := j - c) (by omega)
      obtain ⟨b3, b4⟩ := dm_eq (C := w) (i := q) (j := m) hm
      rw [← z', hn, b3] at b1
      rw [← z', hn, b4] at b2
      rw [b1, b2, show r + (i - r) = i by omega, show c + (j - c) = j by omega]
      exact e2.symm
  · rintro (⟨a1, a2, a3⟩ | z)
    · exact ⟨a1, a2, by omega⟩
    · obtain ⟨b1, b2⟩ := dm_eq (C := C) (i := r + q) (j := c + m) (by omega)
      rw [z, b1] at hi
      rw [z, b2] at hj
      rw [hi, hj, show r + q - r = q by omega, show c + m - c = m by omega]
      omega
theorem inP_new {r c h w n C q m : Nat} (hm : m < w) (hn : n = q * w + m) (hC : c + w ≤ C) : ¬ inP r c h w n (((r + q) * C + (c + m)) / C) (((r + q) * C + (c + m)) % C) := by
  obtain ⟨b1, b2⟩ := dm_eq (C := C) (i := r + q) (j := c + m) (by omega)
  unfold inP
  rw [b1, b2, show r + q - r = q by omega, show c + m - c = m by omega]
  omega
theorem inP_end {r c h w i j : Nat} : inP r c h w (h * w) i j ↔ (r ≤ i ∧ i < r + h) ∧ (c ≤ j ∧ j < c + w) := by
  unfold inP
  constructor
  · rintro ⟨a, b, _⟩; exact ⟨a, b⟩
  · rintro ⟨a, b⟩
    refine ⟨a, b, ?_⟩
    have := Nat.mul_le_mul_right w (show (i - r) + 1 ≤ h by omega)
    rw [Nat.add_mul] at this
    omega
def outB (R C : Int) (x : LCell) : Bool := decide (x.h < 1) || (decide (x.w < 1) || (decide (R < x.r + x.h) || decide (C < x.c + x.w)))
theorem outB_ins {R C : Int} {x : LCell} (h : 0 ≤ x.r ∧ 0 ≤ x.c) : outB R C x = !insB R C x := by
  unfold outB insB
  rw [decide_eq_false (show ¬ x.r < 0 by omega), decide_eq_false (show ¬ x.c < 0 by omega)]
  by_cases q1 : x.h < 1 <;> by_cases q2 : x.w < 1 <;> by_cases q3 : R < x.r + x.h <;> by_cases q4 : C < x.c + x.w <;> simp [q1, q2, q3, q4] <;> omega
structure Ins (R C : Nat) (x : LCell) : Prop where
  r : 0 ≤ x.r
  c : 0 ≤ x.c
  h : 1 ≤ x.h
  w : 1 ≤ x.w
  rh : x.r + x.h ≤ (R : Nat)
  cw : x.c + x.w ≤ (C : Nat)
theorem ins_of {R C : Nat} {x : LCell} (h : insB R C x = true) : Ins R C x := by
  unfold insB at h
  simp at h
  exact ⟨by omega, by omega, by omega, by omega, by omega, by omega⟩
def cvN (C : Nat) (x : LCell) (k : Nat) : Int := if cov ((k / C : Nat) : Int) ((k % C : Nat) : Int) x = true then 1 else 0
theorem cell_turn (A D P0 M : PyData) (R C : Nat) (bs : List PyData) (hB : M = .tuple bs) (hbl : bs.length = C) (hR : R ≤ 4) (hC : C ≤ 4) (cc y10 y12 y13 y14 : Sl) (y5 : Sl) (x : LCell) (F : Nat → Int) (I : Ins R C x) :
    ∃ z5 z12, b_Lcells_fault_4 [.val A, .val M, .val D, cc, .val P0, y5, .val (.int x.r), .val (.int x.c), .val (.int x.h), .val (.int x.w), y10, .own (cntL (R * C) F), y12, y13, y14] = .nx [.val A, .val M, .val D, cc, .val P0, z5, .val (.int x.r), .val (.int x.c), .val (.int x.h), .val (.int x.w), y10, .own (cntL (R * C) fun k => F k + cvN C x k), z12, y13, y14] := by
  obtain ⟨xr, xc, xh, xw, ws⟩ := x
  obtain ⟨i1, i2, i3, i4, i5, i6⟩ := I
  dsimp only at i1 i2 i3 i4 i5 i6 ⊢
  obtain ⟨r, rfl⟩ := Int.eq_ofNat_of_zero_le i1
  obtain ⟨c, rfl⟩ := Int.eq_ofNat_of_zero_le i2
  obtain ⟨h, rfl⟩ := Int.eq_ofNat_of_zero_le (show 0 ≤ xh by omega)
  obtain ⟨w, rfl⟩ := Int.eq_ofNat_of_zero_le (show 0 ≤ xw by omega)
  have hw : 0 < w := by omega
  have hhw : h * w ≤ 16 := Nat.mul_le_mul (show h ≤ 4 by omega) (show w ≤ 4 by omega)
  have hlen : ∀ e : En, eVar 1 e = some M → eCall lenA (aCons (eVar 1) aNil) e = some (.int (C : Nat)) := fun e he => by
    rw [hB] at he
    exact (len_t he).trans (by rw [hbl])
  obtain ⟨z, hz1, z5, z12, rfl⟩ := loop_rng (g := gVal 5) (b := b_Lcells_fault_3) (lo := 0) (n := h * w) (e := [.val A, .val M, .val D, cc, .val P0, y5, .val (.int (r : Nat)), .val (.int (c : Nat)), .val (.int (h : Nat)), .val (.int (w : Nat)), y10, .own (cntL (R * C) F), y12, y13, y14])
    (fun n e => ∃ z5 z12, e = [.val A, .val M, .val D, cc, .val P0, z5, .val (.int (r : Nat)), .val (.int (c : Nat)), .val (.int (h : Nat)), .val (.int (w : Nat)), y10, .own (cntL (R * C) fun k => F k + if inP r c h w n (k / C) (k % C) then 1 else 0), z12, y13, y14]) (fun n e hn he => by
      obtain ⟨z5, z12, rfl⟩ := he
      obtain ⟨v, hv⟩ : ∃ v : Int, v = 0 + (n : Nat) := ⟨_, rfl⟩
      rw [← hv]
      have hv' : v = (n : Nat) := by omega
      have m1 := Nat.mod_lt n hw
      have d1 : n / w < h := Nat.div_lt_of_lt_mul (by rw [Nat.mul_comm]; exact hn)
      have dv : v / ((w : Nat) : Int) = ((n / w : Nat) : Int) := by rw [hv', ← Int.natCast_ediv]
      have mv : v % ((w : Nat) : Int) = ((n % w : Nat) : Int) := by rw [hv', ← Int.natCast_emod]
      have nq : n = n / w * w + n % w := by rw [Nat.mul_comm]; exact (Nat.div_add_mod n w).symm
      obtain ⟨q, hq⟩ : ∃ q, q = n / w := ⟨_, rfl⟩
      obtain ⟨m, hm⟩ : ∃ q, q = n % w := ⟨_, rfl⟩
      rw [← hq, ← hm] at nq
      rw [← hq] at d1 dv
      rw [← hm] at m1 mv
      obtain ⟨a, ha⟩ : ∃ a : Nat, a = (r + q) * C + (c + m) := ⟨_, rfl⟩
      have haN : a < R * C := by
        have := Nat.mul_le_mul_right C (show r + q + 1 ≤ R by omega)
        rw [Nat.add_mul] at this
        omega
      refine ⟨[.val A, .val M, .val D, cc, .val P0, .val (.int v), .val (.int (r : Nat)), .val (.int (c : Nat)), .val (.int (h : Nat)), .val (.int (w : Nat)), y10, .own (cntL (R * C) fun k => F k + if inP r c h w n (k / C) (k % C) then 1 else 0), z12, y13, y14], rfl, _, .inl ?_, .val (.int v), .val (.int (a : Nat)), rfl⟩
      unfold b_Lcells_fault_3
      have he : (((r : Nat) : Int) + v / ((w : Nat) : Int)) * ((C : Nat) : Int) + ((c : Nat) : Int) + v % ((w : Nat) : Int) = ((a : Nat) : Int) := by
        rw [dv, mv, ha]
        push_cast
        omega
      have hCM : CMul (((r : Nat) : Int) + v / ((w : Nat) : Int)) ((C : Nat) : Int) := by
        rw [dv]
        first | exact .inr (by omega) | exact .inl (by omega)
      refine (sSeq_nx (e := [.val A, .val M, .val D, cc, .val P0, .val (.int v), .val (.int (r : Nat)), .val (.int (c : Nat)), .val (.int (h : Nat)), .val (.int (w : Nat)), y10, .own (cntL (R * C) fun k => F k + if inP r c h w n (k / C) (k % C) then 1 else 0), .val (.int (a : Nat)), y13, y14]) (sSet_ev ?_)).trans ?_
      · rw [← he]
        exact e2_ev (e2_ev (e2_ev (e2_ev rfl (e2_ev rfl rfl (divD_int ⟨by omega, by omega⟩)) (addD_int _ _)) (hlen _ rfl) (mulD_int hCM)) rfl (addD_int _ _)) (e2_ev rfl rfl (modD_int (by omega))) (addD_int _ _)
      · have hv1 : e2 addD (eIxO 11 (eVar 12)) (eC (.int 1)) [.val A, .val M, .val D, cc, .val P0, .val (.int v), .val (.int (r : Nat)), .val (.int (c : Nat)), .val (.int (h : Nat)), .val (.int (w : Nat)), y10, .own (cntL (R * C) fun k => F k + if inP r c h w n (k / C) (k % C) then 1 else 0), .val (.int (a : Nat)), y13, y14] = some (.int (F a + 1)) := by
          refine e2_ev (eIxO_ev (i := 11) rfl rfl (atI_nat (cntL_get haN))) rfl ?_
          rw [if_neg (by rw [ha]; exact inP_new m1 nq (by omega))]
          rw [addD_int, Int.add_zero]
        unfold sPut
        rw [hv1]
        show (match (match ixD (cntL (R * C) fun k => F k + if inP r c h w n (k / C) (k % C) then 1 else 0).length (.int (a : Nat)) with | some j => Out.nx (List.set [.val A, .val M, .val D, cc, .val P0, .val (.int v), .val (.int (r : Nat)), .val (.int (c : Nat)), .val (.int (h : Nat)), .val (.int (w : Nat)), y10, .own (cntL (R * C) fun k => F k + if inP r c h w n (k / C) (k % C) then 1 else 0), .val (.int (a : Nat)), y13, y14] 11 (.own ((cntL (R * C) fun k => F k + if inP r c h w n (k / C) (k % C) then 1 else 0).set j (.int (F a + 1))))) | none => .bad) with | o => o) = _
        rw [cntL_len]
        have hix : ixD (R * C) (.int (a : Nat)) = some a := by
          show ixN (R * C) ((a : Nat) : Int) = some a
          unfold ixN
          rw [if_pos (by omega), if_pos (by omega)]
          rfl
        rw [hix]
        simp only
        rw [cntL_set]
        have hF : (fun k => if k = a then F a + 1 else F k + if inP r c h w n (k / C) (k % C) then 1 else 0) = (fun k => F k + if inP r c h w (n + 1) (k / C) (k % C) then 1 else 0) := by
          funext k
          by_cases q : k = a
          · subst q
            rw [if_pos rfl, if_pos ((inP_step m1 d1 nq (by omega)).mpr (.inr ha))]
          · rw [if_neg q]
            by_cases q2 : inP r c h w n (k / C) (k % C)
            · rw [if_pos q2, if_pos ((inP_step m1 d1 nq (by omega)).mpr (.inl q2))]
            · rw [if_neg q2, if_neg (fun hh => ((inP_step m1 d1 nq (by omega)).mp hh).elim q2 (fun e => q (e.trans ha.symm)))]
        rw [hF]
        rfl) ⟨y5, y12, by
        have hF : F = (fun k => F k + if inP r c h w 0 (k / C) (k % C) then 1 else 0) := by
          funext k
          rw [if_neg (fun hh => by unfold inP at hh; omega), Int.add_zero]
        rw [← hF]⟩
  have hF : (fun k => F k + if inP r c h w (h * w) (k / C) (k % C) then (1 : Int) else 0) = (fun k => F k + cvN C ⟨(r : Nat), (c : Nat), (h : Nat), (w : Nat), ws⟩ k) := by
    funext k
    unfold cvN cov
    congr 1
    by_cases q : inP r c h w (h * w) (k / C) (k % C)
    · have q' := inP_end.mp q
      rw [if_pos q, if_pos]
      rw [Bool.and_eq_true, decide_eq_true_iff, decide_eq_true_iff]
      dsimp only
      omega
    · rw [if_neg q, if_neg]
      intro hh
      rw [Bool.and_eq_true, decide_eq_true_iff, decide_eq_true_iff] at hh
      dsimp only at hh
      exact q (inP_end.mpr (by omega))
  rw [hF] at hz1
  refine ⟨z5, z12, ?_⟩
  unfold b_Lcells_fault_4
  refine sFor_ev ?_ hz1
  have := iR1_ev (fa := aCons (e2 mulD (eVar 8) (eVar 9)) aNil) (env := [.val A, .val M, .val D, cc, .val P0, y5, .val (.int (r : Nat)), .val (.int (c : Nat)), .val (.int (h : Nat)), .val (.int (w : Nat)), y10, .own (cntL (R * C) F), y12, y13, y14]) (N := ((h * w : Nat) : Int)) (aCons_ev (by rw [Int.natCast_mul]; exact e2_ev rfl rfl (mulD_int (.inl (by omega)))) aNil_ev) (by omega) (by omega)
  rw [Int.toNat_natCast] at this
  exact this
def plD (x : LCell) : PyData := pr (plc x)
theorem pl_get (xs : List LCell) {j : Nat} (h : j < xs.length) : (xs.map plD)[j]? = some (pr (plc (cellAt xs j))) := by
  unfold cellAt
  rw [List.getElem?_map, List.getD_eq_getElem?_getD, List.getElem?_eq_getElem h]; rfl
theorem cells_turn (A D P0 M : PyData) (R C : Nat) (bs : List PyData) (hB : M = .tuple bs) (hbl : bs.length = C) (hR : R ≤ 4) (hC : C ≤ 4) (cc y13 y14 : Sl) : ∀ (xs : List LCell) (F : Nat → Int) (y5 y6 y7 y8 y9 y10 y12 : Sl), (∀ x ∈ xs, Ins R C x) →
    ∃ z5 z6 z7 z8 z9 z10 z12, loopF (gT [6, 7, 8, 9, 10]) b_Lcells_fault_4 (xs.map cellD) [.val A, .val M, .val D, cc, .val P0, y5, y6, y7, y8, y9, y10, .own (cntL (R * C) F), y12, y13, y14] = .nx [.val A, .val M, .val D, cc, .val P0, z5, z6, z7, z8, z9, z10, .own (cntL (R * C) fun k => F k + (covN xs ((k / C : Nat) : Int) ((k % C : Nat) : Int) : Nat)), z12, y13, y14]
  | [], F, y5, y6, y7, y8, y9, y10, y12, _ => ⟨y5, y6, y7, y8, y9, y10, y12, by
    have : F = (fun k => F k + (covN [] ((k / C : Nat) : Int) ((k % C : Nat) : Int) : Nat)) := by funext k; simp [covN]
    rw [← this]; rfl⟩
  | x :: xs, F, y5, y6, y7, y8, y9, y10, y12, h => by
    obtain ⟨z5, z12, h1⟩ := cell_turn A D P0 M R C bs hB hbl hR hC cc (.val (.tuple (x.ws.map .str))) y12 y13 y14 y5 x F (h x List.mem_cons_self)
    obtain ⟨w5, w6, w7, w8, w9, w10, w12, h2⟩ := cells_turn A D P0 M R C bs hB hbl hR hC cc y13 y14 xs (fun k => F k + cvN C x k) z5 (.val (.int x.r)) (.val (.int x.c)) (.val (.int x.h)) (.val (.int x.w)) (.val (.tuple (x.ws.map .str))) z12 (fun y hy => h y (List.mem_cons_of_mem _ hy))
    refine ⟨w5, w6, w7, w8, w9, w10, w12, ?_⟩
    have hF : (fun k => F k + cvN C x k + (covN xs ((k / C : Nat) : Int) ((k % C : Nat) : Int) : Nat)) = (fun k => F k + (covN (x :: xs) ((k / C : Nat) : Int) ((k % C : Nat) : Int) : Nat)) := by
      funext k
      unfold cvN covN
      rw [List.filter_cons]
      by_cases q : cov ((k / C : Nat) : Int) ((k % C : Nat) : Int) x = true
      · rw [if_pos q, if_pos q, List.length_cons]; omega
      · rw [if_neg q, if_neg q]; omega
    rw [← hF]
    refine Eq.trans ?_ h2
    show loopF (gT [6, 7, 8, 9, 10]) b_Lcells_fault_4 (cellD x :: xs.map cellD) _ = _
    have hg : gT [6, 7, 8, 9, 10] (cellD x) [.val A, .val M, .val D, cc, .val P0, y5, y6, y7, y8, y9, y10, .own (cntL (R * C) F), y12, y13, y14] = some [.val A, .val M, .val D, cc, .val P0, y5, .val (.int x.r), .val (.int x.c), .val (.int x.h), .val (.int x.w), .val (.tuple (x.ws.map .str)), .own (cntL (R * C) F), y12, y13, y14] := rfl
    simp only [loopF, hg, h1]
def cfault (t : LTab) : Option Str :=
  if (List.range (t.cells.length - 1)).any (ordBad t.cells) = true then some "cells are not in order"
  else if t.cells.all (insB t.rows.length t.cols.length) = false then some "cell lies outside"
  else if onceB t.rows.length t.cols.length t.cells = false then some "place is not covered once"
  else none
def oS : Option Str → PyData
  | none => .none
  | some x => .str x
theorem eqv_ints : ∀ xs ys : List Int, PyData.eqvAll (xs.map PyData.int) (ys.map PyData.int) = decide (xs = ys)
  | [], [] => by simp [PyData.eqvAll]
  | [], y :: ys => by simp [PyData.eqvAll]
  | x :: xs, [] => by simp [PyData.eqvAll]
  | x :: xs, y :: ys => by
    simp only [List.map_cons, PyData.eqvAll, PyData.eqv, eqv_ints xs ys]
    by_cases h : x = y
    · subst h
      simp
    · simp [h]
theorem lay_ints : ∀ xs : List Int, PyData.canLayAll0 (xs.map PyData.int) = true ∧ PyData.depthAll (xs.map PyData.int) = 0
  | [] => by simp [PyData.canLayAll0, PyData.depthAll]
  | x :: xs => by
    obtain ⟨h1, h2⟩ := lay_ints xs
    simp [PyData.canLayAll0, PyData.canLay0, PyData.depthAll, PyData.depth, h1, h2]
theorem shaped_ints (xs : List Int) : SeqAt.shaped (.list (xs.map PyData.int)) = true ∧ SeqAt.shaped (.tuple (xs.map PyData.int)) = true := by
  obtain ⟨h1, h2⟩ := lay_ints xs
  unfold SeqAt.shaped
  simp [PyData.canLay0, h1, PyData.depth, h2]
theorem eqD_ints (xs ys : List Int) : eqD (.list (xs.map .int)) (.list (ys.map .int)) = some (.bool (decide (xs = ys))) := by
  unfold eqD
  simp only [(shaped_ints xs).1, (shaped_ints ys).1, Bool.and_self, if_true, PyData.eqv, eqv_ints]
theorem eqD_intT (xs ys : List Int) : eqD (.tuple (xs.map .int)) (.tuple (ys.map .int)) = some (.bool (decide (xs = ys))) := by
  unfold eqD
  simp only [(shaped_ints xs).2, (shaped_ints ys).2, Bool.and_self, if_true, PyData.eqv, eqv_ints]
theorem once_cnt (R C : Nat) (xs : List LCell) : decide ((List.range (R * C)).map (fun k : Nat => (0 : Int) + ((covN xs ((k / C : Nat) : Int) ((k % C : Nat) : Int) : Nat) : Int)) = (List.range (R * C)).map fun _ => (1 : Int)) = onceB R C xs := by
  have hl : onceB R C xs = true ↔ ∀ i < R, ∀ j < C, covN xs i j = 1 := by
    unfold onceB
    simp [List.all_eq_true]
  by_cases q : onceB R C xs = true
  · rw [q]
    refine decide_eq_true (List.map_congr_left fun k hk => ?_)
    have hk := List.mem_range.mp hk
    have hC : 0 < C := Nat.pos_of_ne_zero fun h => by subst h; simp at hk
    have := hl.mp q (k / C) (Nat.div_lt_of_lt_mul (by rw [Nat.mul_comm]; exact hk)) (k % C) (Nat.mod_lt _ hC)
    rw [this]; rfl
  · rw [Bool.eq_false_iff.mpr q]
    refine decide_eq_false fun h => q (hl.mpr fun i hi j hj => ?_)
    have hk : i * C + j < R * C := by
      have := Nat.mul_le_mul_right C (show i + 1 ≤ R by omega)
      rw [Nat.add_mul] at this
      omega
    have := List.map_inj_left.mp h (i * C + j) (List.mem_range.mpr hk)
    obtain ⟨b1, b2⟩ := dm_eq (C := C) (i := i) (j := j) hj
    rw [b1, b2] at this
    omega
theorem Lcells_fault_ev (t : LTab) (S : Sane t) : g_Lcells_fault [tabD t] = some (oS (cfault t)) := by
  obtain ⟨A, hA⟩ : ∃ A, A = tabD t := ⟨_, rfl⟩
  obtain ⟨B, hB⟩ : ∃ A, A = PyData.tuple (t.cols.map colD) := ⟨_, rfl⟩
  obtain ⟨D, hD⟩ : ∃ A, A = PyData.tuple (t.rows.map rowD) := ⟨_, rfl⟩
  obtain ⟨CC, hCC⟩ : ∃ A, A = PyData.tuple (t.cells.map cellD) := ⟨_, rfl⟩
  obtain ⟨PL, hPL⟩ : ∃ A, A = PyData.list (t.cells.map plD) := ⟨_, rfl⟩
  obtain ⟨c1, c2⟩ := S.nc
  obtain ⟨r1, r2⟩ := S.nr
  have cn := S.cn
  refine gDef_ev' [.val (tabD t), .un, .un, .un, .un, .un, .un, .un, .un, .un, .un, .un, .un, .un, .un] rfl rfl ?_
  unfold f_Lcells_fault
  refine (sSeq_nx (e := [.val A, .val B, .val D, .val CC, .un, .un, .un, .un, .un, .un, .un, .un, .un, .un, .un]) (by rw [hA, hB, hD, hCC]; exact sUnp_ev rfl rfl)).trans ?_
  refine (sSeq_nx (e := [.val A, .val B, .val D, .val CC, .val PL, .un, .un, .un, .un, .un, .un, .un, .un, .un, .un]) (by
    rw [hPL]
    exact sSet_ev (eL_ev (fCmp_ev (ds := t.cells.map cellD) (iSeq_t (by rw [hCC]; rfl)) (compF_mapS (k := plD) fun x hx => ⟨[.val A, .val B, .val D, .val CC, .un, .un, .un, .un, .un, .un, .un, .un, .un, .val (cellD x), .un], rfl, slT_pre (ds := [.int x.r, .int x.c, .int x.h, .int x.w, .tuple (x.ws.map .str)]) (n := 2) rfl rfl rfl (by simp)⟩) (by rw [List.length_map]; omega))))).trans ?_
  have key := loop_find (g := gVal 5) (b := b_Lcells_fault_1) (fun k : Nat => PyData.int (1 + (k : Nat))) (fun k => if ordBad t.cells k = true then some (.str "cells are not in order") else none) (fun e => ∃ y, e = [.val A, .val B, .val D, .val CC, .val PL, y, .un, .un, .un, .un, .un, .un, .un, .un, .un]) (List.range (t.cells.length - 1)) [.val A, .val B, .val D, .val CC, .val PL, .un, .un, .un, .un, .un, .un, .un, .un, .un, .un] ⟨_, rfl⟩ (fun k hk e he => by
    obtain ⟨y, rfl⟩ := he
    have kl := List.mem_range.mp hk
    obtain ⟨v, hv⟩ : ∃ v : Int, v = 1 + (k : Nat) := ⟨_, rfl⟩
    rw [← hv]
    refine ⟨[.val A, .val B, .val D, .val CC, .val PL, .val (.int v), .un, .un, .un, .un, .un, .un, .un, .un, .un], rfl, ?_⟩
    have t : (t1 (e2 gtU (e2 ixG (eVar 4) (e2 subD (eVar 5) (eC (.int 1)))) (e2 ixG (eVar 4) (eVar 5)))) [.val A, .val B, .val D, .val CC, .val PL, .val (.int v), .un, .un, .un, .un, .un, .un, .un, .un, .un] = some (ordBad t.cells k) := by
      rw [hPL]
      exact t1_ev (e2_ev (e2_ev rfl (e2_ev rfl rfl rfl) (ixG_l (pl_get t.cells (j := k) (by omega)) (by omega))) (e2_ev rfl rfl (ixG_l (pl_get t.cells (j := k + 1) (by omega)) (by omega))) (gtU_pr _ _ _ _))
    unfold b_Lcells_fault_1
    cases q : ordBad _ k with
    | true => rw [q] at t; exact (sIf_t t).trans rfl
    | false => rw [q] at t; exact ⟨_, (sIf_f t).trans rfl, _, rfl⟩)
  rw [cond_find] at key
  have hrg : iR2 (aCons (eC (.int 1)) (aCons (eCall lenA (aCons (eVar 4) aNil)) aNil)) [.val A, .val B, .val D, .val CC, .val PL, .un, .un, .un, .un, .un, .un, .un, .un, .un, .un] = _ := rng1_ev (n := t.cells.length) (aCons_ev rfl (aCons_ev ((len_l (ds := t.cells.map plD) (by rw [hPL]; rfl)).trans (by simp)) aNil_ev)) (by omega)
  unfold cfault
  by_cases g4 : (List.range (t.cells.length - 1)).any (ordBad t.cells) = true
  · rw [if_pos g4]
    rw [g4] at key
    exact sSeq_rt (sFor_ev hrg key)
  rw [if_neg g4]
  rw [Bool.not_eq_true] at g4
  rw [g4] at key
  obtain ⟨e', h1, y5, rfl⟩ := key
  refine (sSeq_nx (sFor_ev hrg h1)).trans ?_
  have key := loop_find (g := gT [6, 7, 8, 9, 10]) (b := b_Lcells_fault_2) cellD (fun x => if outB t.rows.length t.cols.length x = true then some (.str "cell lies outside") else none) (fun e => ∃ y6 y7 y8 y9 y10, e = [.val A, .val B, .val D, .val CC, .val PL, y5, y6, y7, y8, y9, y10, .un, .un, .un, .un]) t.cells [.val A, .val B, .val D, .val CC, .val PL, y5, .un, .un, .un, .un, .un, .un, .un, .un, .un] ⟨_, _, _, _, _, rfl⟩ (fun x hx e he => by
    obtain ⟨y6, y7, y8, y9, y10, rfl⟩ := he
    refine ⟨[.val A, .val B, .val D, .val CC, .val PL, y5, .val (.int x.r), .val (.int x.c), .val (.int x.h), .val (.int x.w), .val (.tuple (x.ws.map .str)), .un, .un, .un, .un], rfl, ?_⟩
    have tt : (tOr' (t1 (e2 ltD (eVar 8) (eC (.int 1)))) (tOr' (t1 (e2 ltD (eVar 9) (eC (.int 1)))) (tOr' (t1 (e2 gtU (e2 addD (eVar 6) (eVar 8)) (eCall lenA (aCons (eVar 2) aNil)))) (t1 (e2 gtU (e2 addD (eVar 7) (eVar 9)) (eCall lenA (aCons (eVar 1) aNil))))))) [.val A, .val B, .val D, .val CC, .val PL, y5, .val (.int x.r), .val (.int x.c), .val (.int x.h), .val (.int x.w), .val (.tuple (x.ws.map .str)), .un, .un, .un, .un] = some (outB t.rows.length t.cols.length x) :=
      or_b (t1_ev (e2_ev rfl rfl (ltD_int _ _))) (or_b (t1_ev (e2_ev rfl rfl (ltD_int _ _))) (or_b (t1_ev (e2_ev (e2_ev rfl rfl (addD_int _ _)) ((len_t (ds := t.rows.map rowD) (by rw [hD]; rfl)).trans (by rw [List.length_map])) (gtU_int _ _))) (t1_ev (e2_ev (e2_ev rfl rfl (addD_int _ _)) ((len_t (ds := t.cols.map colD) (by rw [hB]; rfl)).trans (by rw [List.length_map])) (gtU_int _ _)))))
    unfold b_Lcells_fault_2
    cases q : outB t.rows.length t.cols.length x with
    | true => rw [q] at tt; exact (sIf_t tt).trans rfl
    | false => rw [q] at tt; exact ⟨_, (sIf_f tt).trans rfl, _, _, _, _, _, rfl⟩)
  rw [cond_find] at key
  have hout : t.cells.any (outB t.rows.length t.cols.length) = !t.cells.all (insB t.rows.length t.cols.length) := by
    rw [← not_any]
    have : ∀ xs : List LCell, (∀ x ∈ xs, 0 ≤ x.r ∧ 0 ≤ x.c) → xs.any (outB t.rows.length t.cols.length) = xs.any fun x => !insB t.rows.length t.cols.length x := by
      intro xs
      induction xs with
      | nil => intro _; rfl
      | cons x xs ih =>
        intro h
        rw [List.any_cons, List.any_cons, ih fun y hy => h y (List.mem_cons_of_mem _ hy), outB_ins (h x List.mem_cons_self)]
    exact this _ fun x hx => ⟨(S.pos x hx).1, (S.pos x hx).2.2.1⟩
  rw [hout] at key
  have hrg2 : iSeq (eVar 3) [.val A, .val B, .val D, .val CC, .val PL, y5, .un, .un, .un, .un, .un, .un, .un, .un, .un] = some (t.cells.map cellD) := iSeq_t (by rw [hCC]; rfl)
  by_cases g5 : t.cells.all (insB t.rows.length t.cols.length) = false
  · rw [if_pos g5]
    rw [g5] at key
    exact sSeq_rt (sFor_ev hrg2 key)
  rw [if_neg g5]
  rw [Bool.not_eq_false] at g5
  rw [g5] at key
  obtain ⟨e', h2, y6, y7, y8, y9, y10, rfl⟩ := key
  refine (sSeq_nx (sFor_ev hrg2 h2)).trans ?_
  have hRC : t.rows.length * t.cols.length ≤ 16 := Nat.mul_le_mul r2 c2
  refine (sSeq_nx (e := [.val A, .val B, .val D, .val CC, .val PL, y5, y6, y7, y8, y9, y10, .own (cntL (t.rows.length * t.cols.length) fun _ => 0), .un, .un, .un]) ?_).trans ?_
  · have hr3 : iR1 (aCons (e2 mulD (eCall lenA (aCons (eVar 2) aNil)) (eCall lenA (aCons (eVar 1) aNil))) aNil) [.val A, .val B, .val D, .val CC, .val PL, y5, y6, y7, y8, y9, y10, .un, .un, .un, .un] = some ((List.range (t.rows.length * t.cols.length)).map fun k : Nat => PyData.int (0 + (k : Nat))) := by
      refine rng0_ev (n := t.rows.length * t.cols.length) (aCons_ev ((e2_ev ((len_t (ds := t.rows.map rowD) (by rw [hD]; rfl)).trans (by rw [List.length_map])) ((len_t (ds := t.cols.map colD) (by rw [hB]; rfl)).trans (by rw [List.length_map])) (mulD_int (.inl (by omega)))).trans ?_) aNil_ev) (by omega)
      rw [Int.natCast_mul]
    exact sOwn_ev (fCmp_ev hr3 (compF_mapS (k := fun k : Nat => PyData.int 0) fun x hx => ⟨_, rfl, rfl⟩) (by rw [cntL_len]; omega))
  obtain ⟨z5, z6, z7, z8, z9, z10, z12, h3⟩ := cells_turn A D PL B t.rows.length t.cols.length (t.cols.map colD) hB (List.length_map ..) r2 c2 (.val CC) .un .un t.cells (fun _ => 0) y5 y6 y7 y8 y9 y10 .un (fun x hx => ins_of (List.all_eq_true.mp g5 x hx))
  refine (sSeq_nx (sFor_ev (iSeq_t (by rw [hCC]; rfl)) h3)).trans ?_
  have hq : t1 (e2 eqD (eBor 11) (eL (fCmp [14] (iOwn 11) (gVal 14) tYes' c_Lcells_fault_3))) [.val A, .val B, .val D, .val CC, .val PL, z5, z6, z7, z8, z9, z10, .own (cntL (t.rows.length * t.cols.length) fun k => 0 + (covN t.cells ((k / t.cols.length : Nat) : Int) ((k % t.cols.length : Nat) : Int) : Nat)), z12, .un, .un] = some (onceB t.rows.length t.cols.length t.cells) := by
    rw [← once_cnt]
    refine t1_ev (e2_ev rfl (eL_ev (fCmp_ev (ds := cntL (t.rows.length * t.cols.length) fun k => 0 + (covN t.cells ((k / t.cols.length : Nat) : Int) ((k % t.cols.length : Nat) : Int) : Nat)) rfl (compF_mapS (k := fun k : Nat => PyData.int 1) fun x hx => ⟨_, rfl, rfl⟩) (by rw [List.length_map, List.length_range]; omega))) ?_)
    have := eqD_ints ((List.range (t.rows.length * t.cols.length)).map (fun k : Nat => (0 : Int) + ((covN t.cells ((k / t.cols.length : Nat) : Int) ((k % t.cols.length : Nat) : Int) : Nat) : Int))) ((List.range (t.rows.length * t.cols.length)).map fun _ => (1 : Int))
    rw [List.map_map, List.map_map] at this
    exact this
  by_cases g6 : onceB t.rows.length t.cols.length t.cells = false
  · rw [if_pos g6]
    rw [g6] at hq
    exact sRet_ev (eIf_f hq rfl)
  · rw [if_neg g6]
    rw [Bool.not_eq_false] at g6
    rw [g6] at hq
    exact sRet_ev (eIf_t hq rfl)
def faultT (t : LTab) : Option Str := if t.cols.all colB = false then some "columns are wrong"
  else if t.rows.all rowB = false then some "rows are wrong"
  else if (List.range (t.rows.length - 1)).any (headBad t.rows) = true then some "head rows come first"
  else match cfault t with
    | some m => some m
    | none => t.cells.findSome? (cellF (heads t))
theorem faultS_eq (t : LTab) : faultS t = faultT t := by
  unfold faultS faultT cfault
  repeat' split
  all_goals first | rfl | simp_all
theorem heads_le (t : LTab) : heads t ≤ t.rows.length := List.length_filter_le _ _
theorem notw (ws : List Str) : decide ((0 : Int) < (((ws.filter fun w => !wordB w).length : Nat) : Int)) = !ws.all wordB := by
  induction ws with
  | nil => rfl
  | cons w ws ih =>
    rw [List.filter_cons, List.all_cons]
    cases q : wordB w with
    | true => simpa using ih
    | false =>
      rw [if_pos (by rfl), List.length_cons]
      simp
theorem Lfault_ev (t : LTab) (S : Sane t) : g_Lfault [tabD t] = some (oS (faultS t)) := by
  obtain ⟨A, hA⟩ : ∃ A, A = tabD t := ⟨_, rfl⟩
  obtain ⟨B, hB⟩ : ∃ A, A = PyData.tuple (t.cols.map colD) := ⟨_, rfl⟩
  obtain ⟨D, hD⟩ : ∃ A, A = PyData.tuple (t.rows.map rowD) := ⟨_, rfl⟩
  obtain ⟨CC, hCC⟩ : ∃ A, A = PyData.tuple (t.cells.map cellD) := ⟨_, rfl⟩
  obtain ⟨c1, c2⟩ := S.nc
  obtain ⟨r1, r2⟩ := S.nr
  have cn := S.cn
  have hcf : g_Lcells_fault [A] = some (oS (cfault t)) := by rw [hA]; exact Lcells_fault_ev t S
  refine gDef_ev' [.val (tabD t), .un, .un, .un, .un, .un, .un, .un, .un, .un, .un, .un, .un] rfl rfl ?_
  rw [faultS_eq]
  unfold faultT
  unfold f_Lfault
  refine (sSeq_nx (e := [.val A, .val B, .val D, .val CC, .un, .un, .un, .un, .un, .un, .un, .un, .un]) (by rw [hA, hB, hD, hCC]; exact sUnp_ev rfl rfl)).trans ?_
  -- columns
  have key := loop_find (g := gVal 4) (b := b_Lfault_1) colD (fun x => if (!colB x) = true then some (.str "columns are wrong") else none) (fun e => ∃ y4, e = [.val A, .val B, .val D, .val CC, y4, .un, .un, .un, .un, .un, .un, .un, .un]) t.cols [.val A, .val B, .val D, .val CC, .un, .un, .un, .un, .un, .un, .un, .un, .un] ⟨_, rfl⟩ (fun x hx e he => by
    obtain ⟨y4, rfl⟩ := he
    refine ⟨[.val A, .val B, .val D, .val CC, .val (colD x), .un, .un, .un, .un, .un, .un, .un, .un], rfl, ?_⟩
    have tt : (tNot' (tTr (eCall g_Lcolumn_right (aCons (eVar 4) aNil)))) [.val A, .val B, .val D, .val CC, .val (colD x), .un, .un, .un, .un, .un, .un, .un, .un] = some (!colB x) := not_ev (tTr_ev (eCall_ev (aCons_ev rfl aNil_ev) (Lcolumn_right_ev x)) rfl)
    unfold b_Lfault_1
    cases q : (!colB x) with
    | true => rw [q] at tt; exact (sIf_t tt).trans rfl
    | false => rw [q] at tt; exact ⟨_, (sIf_f tt).trans rfl, _, rfl⟩)
  rw [cond_find (fun x => !colB x), not_any] at key
  have hrg : iSeq (eVar 1) [.val A, .val B, .val D, .val CC, .un, .un, .un, .un, .un, .un, .un, .un, .un] = some (t.cols.map colD) := iSeq_t (by rw [hB]; rfl)
  by_cases g1 : t.cols.all colB = false
  · rw [if_pos g1]
    rw [g1] at key
    exact sSeq_rt (sFor_ev hrg key)
  rw [if_neg g1]
  rw [Bool.not_eq_false] at g1
  rw [g1] at key
  obtain ⟨e', h1, y4, rfl⟩ := key
  refine (sSeq_nx (sFor_ev hrg h1)).trans ?_
  -- rows
  have key := loop_find (g := gVal 5) (b := b_Lfault_2) rowD (fun x => if (!rowB x) = true then some (.str "rows are wrong") else none) (fun e => ∃ y5, e = [.val A, .val B, .val D, .val CC, y4, y5, .un, .un, .un, .un, .un, .un, .un]) t.rows [.val A, .val B, .val D, .val CC, y4, .un, .un, .un, .un, .un, .un, .un, .un] ⟨_, rfl⟩ (fun x hx e he => by
    obtain ⟨y5, rfl⟩ := he
    refine ⟨[.val A, .val B, .val D, .val CC, y4, .val (rowD x), .un, .un, .un, .un, .un, .un, .un], rfl, ?_⟩
    have tt : (tOr' (t1 (e2 ltD (e2 ixG (eVar 5) (eC (.int 0))) (eC (.int 1)))) (t1 (e2 gtD (e2 ixG (eVar 5) (eC (.int 0))) (eC (.int 6))))) [.val A, .val B, .val D, .val CC, y4, .val (rowD x), .un, .un, .un, .un, .un, .un, .un] = some (!rowB x) := by
      refine (or_b (t1_ev (e2_ev (e2_ev rfl rfl rfl) rfl (ltD_int _ _))) (t1_ev (e2_ev (e2_ev rfl rfl rfl) rfl (gtD_int _ _)))).trans ?_
      congr 1
      unfold rowB
      by_cases q1 : x.1 < 1 <;> by_cases q2 : 6 < x.1 <;> simp [q1, q2] <;> omega
    unfold b_Lfault_2
    cases q : (!rowB x) with
    | true => rw [q] at tt; exact (sIf_t tt).trans rfl
    | false => rw [q] at tt; exact ⟨_, (sIf_f tt).trans rfl, _, rfl⟩)
  rw [cond_find (fun x => !rowB x), not_any] at key
  have hrg : iSeq (eVar 2) [.val A, .val B, .val D, .val CC, y4, .un, .un, .un, .un, .un, .un, .un, .un] = some (t.rows.map rowD) := iSeq_t (by rw [hD]; rfl)
  by_cases g2 : t.rows.all rowB = false
  · rw [if_pos g2]
    rw [g2] at key
    exact sSeq_rt (sFor_ev hrg key)
  rw [if_neg g2]
  rw [Bool.not_eq_false] at g2
  rw [g2] at key
  obtain ⟨e', h2, y5, rfl⟩ := key
  refine (sSeq_nx (sFor_ev hrg h2)).trans ?_
  have hlr : ∀ e : En, eVar 2 e = some D → eCall lenA (aCons (eVar 2) aNil) e = some (.int (t.rows.length : Nat)) := fun e he => (len_t (ds := t.rows.map rowD) (by rw [he, hD])).trans (by rw [List.length_map])
  refine (sSeq_nx (e := [.val A, .val B, .val D, .val CC, y4, y5, .un, .un, .un, .un, .un, .un, .un]) ((sIf_f (t1_ev (e2_ev (hlr _ rfl) rfl ((gtD_int _ _).trans (by rw [decide_eq_false (by omega)]))))).trans rfl)).trans ?_
  -- head rows
  have key := loop_find (g := gVal 6) (b := b_Lfault_3) (fun k : Nat => PyData.int (1 + (k : Nat))) (fun k => if headBad t.rows k = true then some (.str "head rows come first") else none) (fun e => ∃ y, e = [.val A, .val B, .val D, .val CC, y4, y5, y, .un, .un, .un, .un, .un, .un]) (List.range (t.rows.length - 1)) [.val A, .val B, .val D, .val CC, y4, y5, .un, .un, .un, .un, .un, .un, .un] ⟨_, rfl⟩ (fun k hk e he => by
    obtain ⟨y, rfl⟩ := he
    have kl := List.mem_range.mp hk
    obtain ⟨v, hv⟩ : ∃ v : Int, v = 1 + (k : Nat) := ⟨_, rfl⟩
    rw [← hv]
    refine ⟨[.val A, .val B, .val D, .val CC, y4, y5, .val (.int v), .un, .un, .un, .un, .un, .un], rfl, ?_⟩
    have tt : (tAnd' (tTr (e2 ixG (e2 ixG (eVar 2) (eVar 6)) (eC (.int 1)))) (tNot' (tTr (e2 ixG (e2 ixG (eVar 2) (e2 subD (eVar 6) (eC (.int 1)))) (eC (.int 1)))))) [.val A, .val B, .val D, .val CC, y4, y5, .val (.int v), .un, .un, .un, .un, .un, .un] = some (headBad t.rows k) := by
      rw [hD]
      exact and_b (tTr_ev (e2_ev (e2_ev rfl rfl (ixG_t (row_get t.rows (j := k + 1) (by omega)) (by omega))) rfl rfl) rfl) (not_ev (tTr_ev (e2_ev (e2_ev rfl (e2_ev rfl rfl rfl) (ixG_t (row_get t.rows (j := k) (by omega)) (by omega))) rfl rfl) rfl))
    unfold b_Lfault_3
    cases q : headBad t.rows k with
    | true => rw [q] at tt; exact (sIf_t tt).trans rfl
    | false => rw [q] at tt; exact ⟨_, (sIf_f tt).trans rfl, _, rfl⟩)
  rw [cond_find] at key
  have hrg : iR2 (aCons (eC (.int 1)) (aCons (eCall lenA (aCons (eVar 2) aNil)) aNil)) [.val A, .val B, .val D, .val CC, y4, y5, .un, .un, .un, .un, .un, .un, .un] = _ := rng1_ev (n := t.rows.length) (aCons_ev rfl (aCons_ev (hlr _ rfl) aNil_ev)) (by omega)
  by_cases g3 : (List.range (t.rows.length - 1)).any (headBad t.rows) = true
  · rw [if_pos g3]
    rw [g3] at key
    exact sSeq_rt (sFor_ev hrg key)
  rw [if_neg g3]
  rw [Bool.not_eq_true] at g3
  rw [g3] at key
  obtain ⟨e', h3, y6, rfl⟩ := key
  refine (sSeq_nx (sFor_ev hrg h3)).trans ?_
  -- the cells
  refine (sSeq_nx (e := [.val A, .val B, .val D, .val CC, y4, y5, y6, .val (oS (cfault t)), .un, .un, .un, .un, .un]) (sSet_ev (eCall_ev (aCons_ev rfl aNil_ev) hcf))).trans ?_
  cases g4 : cfault t with
  | some m =>
    dsimp only
    exact sSeq_rt ((sIf_t (t1_ev (e2_ev (x := .str m) rfl rfl rfl))).trans (sRet_ev rfl))
  | none =>
    dsimp only
    refine (sSeq_nx (e := [.val A, .val B, .val D, .val CC, y4, y5, y6, .val .none, .un, .un, .un, .un, .un]) ((sIf_f (t1_ev (e2_ev (x := .none) rfl rfl rfl))).trans rfl)).trans ?_
    refine (sSeq_nx (e := [.val A, .val B, .val D, .val CC, y4, y5, y6, .val .none, .val (.int (heads t)), .un, .un, .un, .un]) (sSet_ev ((len_l (ds := (t.rows.filter fun x => x.2.1).map rowD) (eL_ev (fCmp_ev (ds := t.rows.map rowD) (iSeq_t (by rw [hD]; rfl)) (compF_filterS fun x hx => ⟨[.val A, .val B, .val D, .val CC, y4, .val (rowD x), y6, .val .none, .un, .un, .un, .un, .un], rfl, tTr_ev (e2_ev rfl rfl rfl) rfl, rfl⟩) (by rw [List.length_map]; exact Nat.le_trans (List.length_filter_le _ _) (by omega))))).trans (by rw [List.length_map]; rfl)))).trans ?_
    have key := loop_find (g := gT [5, 4, 9, 10, 11]) (b := b_Lfault_4) cellD (fun x => (cellF (heads t) x).map PyData.str) (fun e => ∃ y4 y5 y9 y10 y11, e = [.val A, .val B, .val D, .val CC, y4, y5, y6, .val .none, .val (.int (heads t)), y9, y10, y11, .un]) t.cells [.val A, .val B, .val D, .val CC, y4, y5, y6, .val .none, .val (.int (heads t)), .un, .un, .un, .un] ⟨_, _, _, _, _, rfl⟩ (fun x hx e he => by
      obtain ⟨y4, y5, y9, y10, y11, rfl⟩ := he
      obtain ⟨w1, w2⟩ := S.ws x hx
      refine ⟨[.val A, .val B, .val D, .val CC, .val (.int x.c), .val (.int x.r), y6, .val .none, .val (.int (heads t)), .val (.int x.h), .val (.int x.w), .val (.tuple (x.ws.map .str)), .un], rfl, ?_⟩
      have ta : (tOr' (t1 (e2 gtD (eCall lenA (aCons (eVar 11) aNil)) (eC (.int 4)))) (t1 (e2 gtD (eCall lenA (aCons (eL (fCmp [12] (iSeq (eVar 11)) (gVal 12) t_Lfault_2 c_Lfault_2)) aNil)) (eC (.int 0))))) [.val A, .val B, .val D, .val CC, .val (.int x.c), .val (.int x.r), y6, .val .none, .val (.int (heads t)), .val (.int x.h), .val (.int x.w), .val (.tuple (x.ws.map .str)), .un] = some (!wordsB x.ws) := by
        refine (or_b (t1_ev (e2_ev ((len_t (ds := x.ws.map .str) rfl).trans (by rw [List.length_map])) rfl (gtD_int _ _))) (t1_ev (e2_ev ((len_l (ds := (x.ws.filter fun w => !wordB w).map .str) (eL_ev (fCmp_ev (ds := x.ws.map .str) (iSeq_t rfl) (compF_filterS fun w hw => ⟨[.val A, .val B, .val D, .val CC, .val (.int x.c), .val (.int x.r), y6, .val .none, .val (.int (heads t)), .val (.int x.h), .val (.int x.w), .val (.tuple (x.ws.map .str)), .val (.str w)], rfl, not_ev (tTr_ev (eCall_ev (aCons_ev rfl aNil_ev) (Lis_word_ev w (by have := w2 w hw; omega))) rfl), rfl⟩) (by rw [List.length_map]; exact Nat.le_trans (List.length_filter_le _ _) (by omega))))).trans (by rw [List.length_map])) rfl (gtD_int _ _)))).trans ?_
        rw [notw]
        unfold wordsB
        by_cases q : x.ws.length ≤ 4
        · rw [decide_eq_true q, decide_eq_false (by omega)]; rfl
        · rw [decide_eq_false q, decide_eq_true (by omega)]; rfl
      have tb : t1 (chI (fun i j => decide (i < j)) (fun i j => decide (i < j)) (eVar 5) (eVar 8) (e2 addD (eVar 5) (eVar 9))) [.val A, .val B, .val D, .val CC, .val (.int x.c), .val (.int x.r), y6, .val .none, .val (.int (heads t)), .val (.int x.h), .val (.int x.w), .val (.tuple (x.ws.map .str)), .un] = some (decide (x.r < (heads t : Nat) ∧ ((heads t : Nat) : Int) < x.r + x.h)) := t1_ev (ch0 _ _ _ _ _ _ _ rfl rfl (e2_ev rfl rfl rfl))
      unfold b_Lfault_4 cellF
      cases q : wordsB x.ws with
      | false =>
        rw [q] at ta
        simp only [Bool.false_eq_true, if_false, Option.map_some]
        exact sSeq_rt ((sIf_t ta).trans rfl)
      | true =>
        rw [q] at ta
        simp only [if_true]
        cases q2 : decide (x.r < (heads t : Nat) ∧ ((heads t : Nat) : Int) < x.r + x.h) with
        | true =>
          rw [q2] at tb
          simp only [if_true, Option.map_some]
          exact (sSeq_nx ((sIf_f ta).trans rfl)).trans ((sIf_t tb).trans (sRet_ev rfl))
        | false =>
          rw [q2] at tb
          simp only [Bool.false_eq_true, if_false, Option.map_none]
          exact ⟨_, (sSeq_nx ((sIf_f ta).trans rfl)).trans ((sIf_f tb).trans rfl), _, _, _, _, _, rfl⟩)
    have fm : t.cells.findSome? (fun x => (cellF (heads t) x).map PyData.str) = (t.cells.findSome? (cellF (heads t))).map PyData.str := by
      induction t.cells with
      | nil => rfl
      | cons x xs ih =>
        rw [List.findSome?_cons, List.findSome?_cons]
        cases cellF (heads t) x with
        | none => simpa using ih
        | some m => rfl
    rw [fm] at key
    have hrg : iSeq (eVar 3) [.val A, .val B, .val D, .val CC, y4, y5, y6, .val .none, .val (.int (heads t)), .un, .un, .un, .un] = some (t.cells.map cellD) := iSeq_t (by rw [hCC]; rfl)
    cases q : t.cells.findSome? (cellF (heads t)) with
    | none =>
      rw [q] at key
      obtain ⟨e', h5, y4, y5, y9, y10, y11, rfl⟩ := key
      exact (sSeq_nx (sFor_ev hrg h5)).trans rfl
    | some m =>
      rw [q] at key
      exact sSeq_rt (sFor_ev hrg key)
theorem Ltold_ev (t : LTab) (S : Sane t) : g_Ltold [tabD t] = some (oS (faultS t)) := by
  have hb := check_table_ev t S
  obtain ⟨A, hA⟩ : ∃ A, A = tabD t := ⟨_, rfl⟩
  rw [← hA] at hb ⊢
  refine gDef_ev' [.val A, .un] rfl rfl ?_
  unfold f_Ltold
  have hx : xCall g_check_table (xaOk (aCons (eVar 0) aNil)) [.val A, .un] = some (rzS (faultS t)) := hb
  cases q : faultS t with
  | none =>
    rw [q] at hx
    unfold sTry y_Ltold_1 xRet
    rw [hx]
    rfl
  | some m =>
    rw [q] at hx
    refine sTry_ev (e := [.val A, .un]) (d := .str m) (by unfold y_Ltold_1 xRet; rw [hx]; rfl) fun a dd => ?_
    unfold u_Ltold_1
    have hi : eIsiEx 1 a dd [.val A, .exc a dd (.str m)] = some (.bool true) := by
      unfold eIsiEx
      show (if a = a ∧ dd = dd then some (PyData.bool true) else none) = _
      rw [if_pos ⟨rfl, rfl⟩]
    show wipeO 1 (sRet _ [.val A, .exc a dd (.str m)]) = _
    rw [sRet_ev (d := .str m) (eIf_t (and_b (t1_ev hi) (t1_ev hi)) (by simp [eWhat]))]
    rfl
/-! what is spoilt -/
theorem Lchanged_ev {α : Type} (c : α → PyData) (xs : List α) (a : Nat) (i : Int) (y : α) (hi : i = (a : Nat)) (h : a < xs.length) (hl : xs.length ≤ 1000) : g_Lchanged [.tuple (xs.map c), .int i, c y] = some (.tuple ((xs.set a y).map c)) := by
  obtain ⟨T, hT⟩ : ∃ T, T = PyData.tuple (xs.map c) := ⟨_, rfl⟩
  rw [← hT]
  refine gDef_ev' [.val T, .val (.int i), .val (c y), .un] rfl rfl ?_
  unfold f_Lchanged
  have hrg : iR1 (aCons (eCall lenA (aCons (eVar 0) aNil)) aNil) [.val T, .val (.int i), .val (c y), .un] = _ := rng0_ev (n := xs.length) (aCons_ev ((len_t (ds := xs.map c) (by rw [hT]; rfl)).trans (by rw [List.length_map])) aNil_ev) (by omega)
  have hc : compF (gVal 3) tYes' c_Lchanged_1 [.val T, .val (.int i), .val (c y), .un] ((List.range xs.length).map fun k : Nat => PyData.int (0 + (k : Nat))) = some ((List.range xs.length).map fun k => c ((xs.set a y).getD k y)) := by
    refine compF_mapS fun k hk => ?_
    have hk := List.mem_range.mp hk
    obtain ⟨v, hv⟩ : ∃ v : Int, v = 0 + (k : Nat) := ⟨_, rfl⟩
    rw [← hv]
    refine ⟨[.val T, .val (.int i), .val (c y), .val (.int v)], rfl, ?_⟩
    have tt : t1 (e2 eqD (eVar 3) (eVar 1)) [.val T, .val (.int i), .val (c y), .val (.int v)] = some (decide (v = i)) := t1_ev (e2_ev rfl rfl (eqD_int _ _))
    by_cases q : k = a
    · subst q
      rw [decide_eq_true (by omega)] at tt
      refine (eIf_t tt rfl).trans ?_
      rw [List.getD_eq_getElem?_getD, List.getElem?_set_self h]
      rfl
    · rw [decide_eq_false (by omega)] at tt
      refine (eIf_f tt (e2_ev rfl rfl (show ixG T (.int v) = _ from by rw [hT]; exact ixG_t (j := k) (d := c xs[k]) (by rw [List.getElem?_map, List.getElem?_eq_getElem hk]; rfl) (by omega)))).trans ?_
      rw [List.getD_eq_getElem?_getD, List.getElem?_set_ne (fun e => q e.symm), List.getElem?_eq_getElem hk]
      rfl
  have hm : ((List.range xs.length).map fun k => c ((xs.set a y).getD k y)) = (xs.set a y).map c := by
    apply List.ext_getElem?
    intro k
    by_cases hk : k < xs.length
    · rw [List.getElem?_map, List.getElem?_range hk, List.getElem?_map, List.getElem?_eq_getElem (by rw [List.length_set]; exact hk)]
      simp only [Option.map_some]
      rw [List.getD_eq_getElem?_getD, List.getElem?_eq_getElem (by rw [List.length_set]; exact hk)]
      rfl
    · rw [List.getElem?_eq_none (by simp; omega), List.getElem?_eq_none (by simp; omega)]
  rw [hm] at hc
  exact sRet_ev (eCall_ev (aCons_ev (eL_ev (fCmp_ev hrg hc (by rw [List.length_map, List.length_set]; omega))) aNil_ev) rfl)
theorem cutL_init {ds : List PyData} : cutL ds none (some (-1)) = ds.dropLast := by
  have e : HT.sIx ds.length ds.length (some (-1)) = ds.length - 1 := by
    show (if (-1 : Int) < 0 then ((-1 : Int) + (ds.length : Int)).toNat else min (-1 : Int).toNat ds.length) = _
    rw [if_pos (by decide)]
    omega
  unfold cutL
  rw [e, HT.sIx_none, List.dropLast_eq_take]
  rfl
theorem sane_of (t : LTab) (T : TabOk t) : Sane t := by
  obtain ⟨c1, c2⟩ := T.nc
  obtain ⟨r1, r2⟩ := T.nr
  have cn := T.cn
  refine ⟨⟨c1, by omega⟩, ⟨r1, by omega⟩, by omega, fun x hx => ?_, fun x hx => ?_⟩
  · have k := T.cl x hx
    have kl := k.l
    exact ⟨by omega, fun w hw => by have := (pool4_ok w (k.p w hw)).2.1; omega⟩
  · have k := T.cl x hx
    have a1 := k.r
    have a2 := k.c
    have a3 := k.h
    have a4 := k.w
    have a5 := k.rh
    have a6 := k.cw
    omega
theorem mem_setP {α : Type} {xs : List α} {a : Nat} {y z : α} (h : z ∈ xs.set a y) : z ∈ xs ∨ z = y := by
  rcases List.mem_or_eq_of_mem_set h with h | h
  · exact .inl h
  · exact .inr h
def badCols : List LCol := [⟨0, none, none, "left"⟩, ⟨3, some 2, none, "left"⟩, ⟨1, none, some 101, "left"⟩, ⟨1, none, none, "top"⟩, ⟨21, none, none, "left"⟩]
def badWords : List (List Str) := [["aaaaaaaaa"], [""], ["a-b"], ["a", "b", "c", "d", "e"], ["a b"]]
theorem badWords_ok : ∀ ws ∈ badWords, ws.length ≤ 100 ∧ ∀ w ∈ ws, w.length ≤ 100 := by decide +kernel
theorem spoilt_ev (t : LTab) (T : TabOk t) (ds : List Int) (hl : ds.length = 4) : ∃ t' : LTab, g_Lspoilt [tabD t, .list (ds.map .int)] = some (tabD t') ∧ Sane t' := by
  have S := sane_of t T
  obtain ⟨c1, c2⟩ := T.nc
  obtain ⟨r1, r2⟩ := T.nr
  have cn := T.cn
  have cne : 0 < t.cells.length := List.length_pos_iff.mpr T.ne
  obtain ⟨A, hA⟩ : ∃ A, A = tabD t := ⟨_, rfl⟩
  obtain ⟨DR, hDR⟩ : ∃ A, A = PyData.list (ds.map .int) := ⟨_, rfl⟩
  obtain ⟨B, hB⟩ : ∃ A, A = PyData.tuple (t.cols.map colD) := ⟨_, rfl⟩
  obtain ⟨D, hD⟩ : ∃ A, A = PyData.tuple (t.rows.map rowD) := ⟨_, rfl⟩
  obtain ⟨CC, hCC⟩ : ∃ A, A = PyData.tuple (t.cells.map cellD) := ⟨_, rfl⟩
  obtain ⟨kd, hkd⟩ : ∃ k, k = ds.getD 0 0 % 9 := ⟨_, rfl⟩
  have m1 := mod_lt (ds.getD 1 0) (t.cells.length : Nat) (by omega)
  obtain ⟨a, ha⟩ := Int.eq_ofNat_of_zero_le m1.1
  have al : a < t.cells.length := by omega
  obtain ⟨x, hx⟩ : ∃ x, x = cellAt t.cells a := ⟨_, rfl⟩
  have hxm : x ∈ t.cells := by
    rw [hx]
    unfold cellAt
    rw [List.getD_eq_getElem?_getD, List.getElem?_eq_getElem al]
    exact List.getElem_mem al
  have hdr : ∀ (j : Nat) (k m : Int) (e : En), eVar 1 e = some DR → j < 4 → k = (j : Nat) → 0 < m → e2 modD (e2 ixG (eVar 1) (eC (.int k))) (eC (.int m)) e = some (.int (ds.getD j 0 % m)) := fun j k m e he hj hk hm => dr_mod' (by rw [he, hDR]) (by omega) hk hm
  have hdr2 : ∀ (j : Nat) (k m : Int) (f : En → Option PyData) (e : En), eVar 1 e = some DR → f e = some (.int m) → j < 4 → k = (j : Nat) → 0 < m → e2 modD (e2 ixG (eVar 1) (eC (.int k))) f e = some (.int (ds.getD j 0 % m)) := fun j k m f e he hf hj hk hm => e2_ev (dr_at (ds := ds) (by rw [he, hDR]) (by omega) hk) hf (modD_int hm)
  have hlB : ∀ e : En, eVar 2 e = some B → eCall lenA (aCons (eVar 2) aNil) e = some (.int (t.cols.length : Nat)) := fun e he => (len_t (ds := t.cols.map colD) (by rw [he, hB])).trans (by rw [List.length_map])
  have hlD : ∀ e : En, eVar 3 e = some D → eCall lenA (aCons (eVar 3) aNil) e = some (.int (t.rows.length : Nat)) := fun e he => (len_t (ds := t.rows.map rowD) (by rw [he, hD])).trans (by rw [List.length_map])
  have hlC : ∀ e : En, eVar 4 e = some CC → eCall lenA (aCons (eVar 4) aNil) e = some (.int (t.cells.length : Nat)) := fun e he => (len_t (ds := t.cells.map cellD) (by rw [he, hCC])).trans (by rw [List.length_map])
  have pre : f_Lspoilt [.val A, .val DR, .un, .un, .un, .un, .un, .un, .un, .un, .un] = _ :=
    (sSeq_nx (e := [.val A, .val DR, .val B, .val D, .val CC, .un, .un, .un, .un, .un, .un]) (by rw [hA, hB, hD, hCC]; exact sUnp_ev rfl rfl)).trans
    ((sSeq_nx (e := [.val A, .val DR, .val B, .val D, .val CC, .val (.int kd), .un, .un, .un, .un, .un]) (by rw [hkd]; exact sSet_ev (hdr 0 0 9 _ rfl (by decide) rfl (by decide)))).trans
    ((sSeq_nx (e := [.val A, .val DR, .val B, .val D, .val CC, .val (.int kd), .val (.int (a : Nat)), .un, .un, .un, .un]) (by rw [← ha]; exact sSet_ev (hdr2 1 1 _ _ _ rfl (hlC _ rfl) (by decide) rfl (by omega)))).trans
    (sSeq_nx (e := [.val A, .val DR, .val B, .val D, .val CC, .val (.int kd), .val (.int (a : Nat)), .val (cellD x), .un, .un, .un]) (by rw [hx]; exact sSet_ev (e2_ev rfl rfl (show ixG CC (.int (a : Nat)) = _ from by rw [hCC]; exact ixG_t (cell_get t.cells al) rfl))))))
  have fin : ∀ t', f_Lspoilt [.val A, .val DR, .un, .un, .un, .un, .un, .un, .un, .un, .un] = .rt (tabD t') → g_Lspoilt [tabD t, .list (ds.map .int)] = some (tabD t') := fun t' h => by
    rw [← hA, ← hDR]
    exact gDef_ev' [.val A, .val DR, .un, .un, .un, .un, .un, .un, .un, .un, .un] rfl rfl h
  obtain ⟨E, hE⟩ : ∃ E : En, E = [.val A, .val DR, .val B, .val D, .val CC, .val (.int kd), .val (.int (a : Nat)), .val (cellD x), .un, .un, .un] := ⟨_, rfl⟩
  rw [← hE] at pre
  have cond : ∀ n : Int, t1 (e2 eqD (eVar 5) (eC (.int n))) E = some (decide (kd = n)) := fun n => by
    rw [hE]
    exact t1_ev (e2_ev rfl rfl (eqD_int _ _))
  have no : ∀ (n : Int) (s r : En → Out), kd ≠ n → sSeq (sIf (t1 (e2 eqD (eVar 5) (eC (.int n)))) s sNil) r E = r E := fun n s r h => sSeq_nx ((sIf_f ((cond n).trans (by rw [decide_eq_false h]))).trans rfl)
  have yes : ∀ (n : Int) (s r : En → Out) (d : PyData), kd = n → s E = .rt d → sSeq (sIf (t1 (e2 eqD (eVar 5) (eC (.int n)))) s sNil) r E = .rt d := fun n s r d h h2 => sSeq_rt ((sIf_t ((cond n).trans (by rw [decide_eq_true h]))).trans h2)
  by_cases q1 : kd = 1
  · have n3 := mod_lt (ds.getD 3 0) 5 (by decide)
    obtain ⟨y, hy, hya⟩ := pick_ev colD badCols (ds.getD 3 0 % 5) ⟨n3.1, n3.2⟩
    have n2 := mod_lt (ds.getD 2 0) (t.cols.length : Nat) (by omega)
    obtain ⟨b, hb⟩ := Int.eq_ofNat_of_zero_le n2.1
    refine ⟨⟨t.cols.set b y, t.rows, t.cells⟩, fin _ (pre.trans (yes 1 _ _ _ q1 ?_)), ⟨by simp; omega, S.nr, S.cn, S.ws, S.pos⟩⟩
    rw [hE]
    refine (sSeq_nx (e := [.val A, .val DR, .val B, .val D, .val CC, .val (.int kd), .val (.int (a : Nat)), .val (cellD x), .val (.list (badCols.map colD)), .un, .un]) (sSet_ev rfl)).trans (sRet_ev (eTup_ev (aCons_ev (eCall_ev (aCons_ev rfl (aCons_ev (hdr2 2 2 _ _ _ rfl (hlB _ rfl) (by decide) rfl (by omega)) (aCons_ev (e2_ev (x := .list (badCols.map colD)) rfl (hdr 3 3 5 _ rfl (by decide) rfl (by decide)) hya) aNil_ev))) (by rw [hB]; exact Lchanged_ev colD t.cols b _ y hb (by omega) (by omega))) (aCons_ev (x := D) rfl (aCons_ev (x := CC) rfl aNil_ev))) (by simp)))|>.trans ?_
    rw [hD, hCC]
  by_cases q2 : kd = 2
  · have n3 := mod_lt (ds.getD 3 0) 2 (by decide)
    obtain ⟨y, hy, hya⟩ := pick_ev PyData.int ([0, 7] : List Int) (ds.getD 3 0 % 2) ⟨n3.1, n3.2⟩
    have n2 := mod_lt (ds.getD 2 0) (t.rows.length : Nat) (by omega)
    obtain ⟨b, hb⟩ := Int.eq_ofNat_of_zero_le n2.1
    refine ⟨⟨t.cols, t.rows.set b (y, false, false), t.cells⟩, fin _ (pre.trans ((no 1 _ _ q1).trans (yes 2 _ _ _ q2 ?_))), ⟨S.nc, by simp; omega, S.cn, S.ws, S.pos⟩⟩
    rw [hE]
    refine (sRet_ev (eTup_ev (aCons_ev (x := B) rfl (aCons_ev (eCall_ev (aCons_ev rfl (aCons_ev (hdr2 2 2 _ _ _ rfl (hlD _ rfl) (by decide) rfl (by omega)) (aCons_ev (eTup_ev (aCons_ev (e2_ev (x := .list (([0, 7] : List Int).map .int)) rfl (hdr 3 3 2 _ rfl (by decide) rfl (by decide)) hya) (aCons_ev rfl (aCons_ev rfl aNil_ev))) (by simp)) aNil_ev))) (by rw [hD]; exact Lchanged_ev rowD t.rows b _ (y, false, false) hb (by omega) (by omega))) (aCons_ev (x := CC) rfl aNil_ev))) (by simp))).trans ?_
    rw [hB, hCC]
  by_cases q3 : kd = 3
  · refine ⟨⟨t.cols, t.rows ++ [(1, true, false)], t.cells⟩, fin _ (pre.trans ((no 1 _ _ q1).trans ((no 2 _ _ q2).trans (yes 3 _ _ _ q3 ?_)))), ⟨S.nc, by simp; omega, S.cn, S.ws, S.pos⟩⟩
    rw [hE]
    refine (sRet_ev (eTup_ev (aCons_ev (x := B) rfl (aCons_ev (e2_ev (x := D) (y := .tuple [.tuple [.int 1, .bool true, .bool false]]) rfl rfl (by rw [hD]; exact addD_tup (by simp; omega))) (aCons_ev (x := CC) rfl aNil_ev))) (by simp))).trans ?_
    rw [hB, hCC]
    simp [tabD]
  by_cases q4 : kd = 4
  · have n2 := mod_lt (ds.getD 2 0) 4 (by decide)
    obtain ⟨y, hy, hya⟩ := pick_ev pr ([(x.h + 1, x.w), (x.h, x.w + 1), (0, 1), (1, 4)] : List (Int × Int)) (ds.getD 2 0 % 4) ⟨n2.1, n2.2⟩
    have kx := S.pos x hxm
    have kt := T.cl x hxm
    have b1 := kt.h
    have b2 := kt.w
    have b3 := kt.rh
    have b4 := kt.cw
    have yb : 0 ≤ y.1 ∧ y.1 ≤ 5 ∧ 0 ≤ y.2 ∧ y.2 ≤ 5 := by
      simp only [List.mem_cons, List.not_mem_nil, or_false] at hy
      rcases hy with e | e | e | e <;> rw [e] <;> dsimp only <;> omega
    have hset : ∀ z ∈ t.cells.set a ⟨x.r, x.c, y.1, y.2, x.ws⟩, z ∈ t.cells ∨ z = ⟨x.r, x.c, y.1, y.2, x.ws⟩ := fun z hz => mem_setP hz
    refine ⟨⟨t.cols, t.rows, t.cells.set a ⟨x.r, x.c, y.1, y.2, x.ws⟩⟩, fin _ (pre.trans ((no 1 _ _ q1).trans ((no 2 _ _ q2).trans ((no 3 _ _ q3).trans (yes 4 _ _ _ q4 ?_))))), ⟨S.nc, S.nr, by simp; omega, fun z hz => ?_, fun z hz => ?_⟩⟩
    · rw [hE]
      refine (sSeq_nx (e := [.val A, .val DR, .val B, .val D, .val CC, .val (.int kd), .val (.int (a : Nat)), .val (cellD x), .un, .val (pr y), .un]) (sSet_ev (e2_ev (x := .list (([(x.h + 1, x.w), (x.h, x.w + 1), (0, 1), (1, 4)] : List (Int × Int)).map pr)) rfl (hdr 2 2 4 _ rfl (by decide) rfl (by decide)) hya))).trans ((sRet_ev (eTup_ev (aCons_ev (x := B) rfl (aCons_ev (x := D) rfl (aCons_ev (eCall_ev (aCons_ev rfl (aCons_ev rfl (aCons_ev (e2_ev (e2_ev (slT_pre (ds := [.int x.r, .int x.c, .int x.h, .int x.w, .tuple (x.ws.map .str)]) (n := 2) rfl rfl rfl (by simp)) rfl (addD_tup (by simp))) (slT_post (ds := [.int x.r, .int x.c, .int x.h, .int x.w, .tuple (x.ws.map .str)]) (n := 4) rfl rfl rfl (by simp)) (addD_tup (by simp))) aNil_ev))) (by rw [hCC]; exact Lchanged_ev cellD t.cells a _ ⟨x.r, x.c, y.1, y.2, x.ws⟩ rfl al (by omega))) aNil_ev))) (by simp))).trans ?_)
      rw [hB, hD]
    · rcases hset z hz with h | h
      · exact S.ws z h
      · rw [h]; exact S.ws x hxm
    · rcases hset z hz with h | h
      · exact S.pos z h
      · rw [h]; dsimp only; omega
  by_cases q5 : kd = 5
  · refine ⟨⟨t.cols, t.rows, t.cells.reverse⟩, fin _ (pre.trans ((no 1 _ _ q1).trans ((no 2 _ _ q2).trans ((no 3 _ _ q3).trans ((no 4 _ _ q4).trans (yes 5 _ _ _ q5 ?_)))))), ⟨S.nc, S.nr, by simp; omega, fun z hz => S.ws z (List.mem_reverse.mp hz), fun z hz => S.pos z (List.mem_reverse.mp hz)⟩⟩
    rw [hE]
    refine (sRet_ev (eTup_ev (aCons_ev (x := B) rfl (aCons_ev (x := D) rfl (aCons_ev (x := .tuple (t.cells.map cellD).reverse) (by rw [hCC]; rfl) aNil_ev))) (by simp))).trans ?_
    rw [hB, hD, ← List.map_reverse]
  by_cases q6 : kd = 6
  · have n2 := mod_lt (ds.getD 2 0) 5 (by decide)
    obtain ⟨y, hy, hya⟩ := pick_ev (fun ws : List Str => PyData.tuple (ws.map .str)) badWords (ds.getD 2 0 % 5) ⟨n2.1, n2.2⟩
    have hset : ∀ z ∈ t.cells.set a ⟨x.r, x.c, x.h, x.w, y⟩, z ∈ t.cells ∨ z = ⟨x.r, x.c, x.h, x.w, y⟩ := fun z hz => mem_setP hz
    refine ⟨⟨t.cols, t.rows, t.cells.set a ⟨x.r, x.c, x.h, x.w, y⟩⟩, fin _ (pre.trans ((no 1 _ _ q1).trans ((no 2 _ _ q2).trans ((no 3 _ _ q3).trans ((no 4 _ _ q4).trans ((no 5 _ _ q5).trans (yes 6 _ _ _ q6 ?_))))))), ⟨S.nc, S.nr, by simp; omega, fun z hz => ?_, fun z hz => ?_⟩⟩
    · rw [hE]
      refine (sSeq_nx (e := [.val A, .val DR, .val B, .val D, .val CC, .val (.int kd), .val (.int (a : Nat)), .val (cellD x), .un, .un, .val (.tuple (y.map .str))]) (sSet_ev (e2_ev (x := .list (badWords.map fun ws : List Str => PyData.tuple (ws.map .str))) rfl (hdr 2 2 5 _ rfl (by decide) rfl (by decide)) hya))).trans ((sRet_ev (eTup_ev (aCons_ev (x := B) rfl (aCons_ev (x := D) rfl (aCons_ev (eCall_ev (aCons_ev rfl (aCons_ev rfl (aCons_ev (e2_ev (slT_pre (ds := [.int x.r, .int x.c, .int x.h, .int x.w, .tuple (x.ws.map .str)]) (n := 4) rfl rfl rfl (by simp)) (eTup_ev (aCons_ev rfl aNil_ev) (by simp)) (addD_tup (by simp))) aNil_ev))) (by rw [hCC]; exact Lchanged_ev cellD t.cells a _ ⟨x.r, x.c, x.h, x.w, y⟩ rfl al (by omega))) aNil_ev))) (by simp))).trans ?_)
      rw [hB, hD]
    · rcases hset z hz with h | h
      · exact S.ws z h
      · rw [h]; exact badWords_ok y hy
    · rcases hset z hz with h | h
      · exact S.pos z h
      · rw [h]; exact S.pos x hxm
  by_cases q7 : kd = 7
  · obtain ⟨rw0, rws, hrs⟩ : ∃ r rs, t.rows = r :: rs := by
      cases h : t.rows with
      | nil => rw [h] at r1; simp at r1
      | cons r rs => exact ⟨r, rs, rfl⟩
    have hlen : rws.length + 1 = t.rows.length := by rw [hrs]; rfl
    refine ⟨⟨t.cols, (rw0.1, true, rw0.2.2) :: rws, t.cells⟩, fin _ (pre.trans ((no 1 _ _ q1).trans ((no 2 _ _ q2).trans ((no 3 _ _ q3).trans ((no 4 _ _ q4).trans ((no 5 _ _ q5).trans ((no 6 _ _ q6).trans (yes 7 _ _ _ q7 ?_)))))))), ⟨S.nc, by simp; omega, S.cn, S.ws, S.pos⟩⟩
    rw [hE]
    have hD2 : D = .tuple (rowD rw0 :: rws.map rowD) := by rw [hD, hrs]; rfl
    refine (sRet_ev (eTup_ev (aCons_ev (x := B) rfl (aCons_ev (e2_ev (x := .tuple [.tuple [.int rw0.1, .bool true, .bool rw0.2.2]]) (y := .tuple (rws.map rowD)) (by rw [hD2]; exact eTup_ev (aCons_ev (eTup_ev (aCons_ev (e2_ev (e2_ev (x := .tuple (rowD rw0 :: rws.map rowD)) (y := .int 0) (d := rowD rw0) rfl rfl (ixG_t (j := 0) rfl rfl)) rfl rfl) (aCons_ev rfl (aCons_ev (e2_ev (e2_ev (x := .tuple (rowD rw0 :: rws.map rowD)) (y := .int 0) (d := rowD rw0) rfl rfl (ixG_t (j := 0) rfl rfl)) rfl rfl) aNil_ev))) (by simp)) aNil_ev) (by simp)) ((slT_post (n := 1) (ds := rowD rw0 :: rws.map rowD) (by rw [hD2]; rfl) rfl rfl (by simp)).trans rfl) (addD_tup (by simp; omega))) (aCons_ev (x := CC) rfl aNil_ev))) (by simp))).trans ?_
    rw [hB, hCC]
    rfl
  by_cases q8 : kd = 8
  · refine ⟨⟨t.cols, t.rows, t.cells.dropLast⟩, fin _ (pre.trans ((no 1 _ _ q1).trans ((no 2 _ _ q2).trans ((no 3 _ _ q3).trans ((no 4 _ _ q4).trans ((no 5 _ _ q5).trans ((no 6 _ _ q6).trans ((no 7 _ _ q7).trans ?_)))))))), ⟨S.nc, S.nr, by simp; omega, fun z hz => S.ws z (List.dropLast_subset _ hz), fun z hz => S.pos z (List.dropLast_subset _ hz)⟩⟩
    have c8 := cond 8
    rw [decide_eq_true q8] at c8
    rw [hE] at c8 ⊢
    refine (sRet_ev (eIf_t c8 (eTup_ev (aCons_ev (x := B) rfl (aCons_ev (x := D) rfl (aCons_ev (x := .tuple (t.cells.map cellD).dropLast) (by
      rw [hCC]
      show some (PyData.tuple (cutL (t.cells.map cellD) none (some (-1)))) = _
      rw [cutL_init]) aNil_ev))) (by simp)))).trans ?_
    rw [hB, hD, ← List.map_dropLast]
  · refine ⟨t, fin _ (pre.trans ((no 1 _ _ q1).trans ((no 2 _ _ q2).trans ((no 3 _ _ q3).trans ((no 4 _ _ q4).trans ((no 5 _ _ q5).trans ((no 6 _ _ q6).trans ((no 7 _ _ q7).trans ?_)))))))), S⟩
    have c8 := cond 8
    rw [decide_eq_false q8] at c8
    rw [hE] at c8 ⊢
    refine (sRet_ev (eIf_f c8 rfl)).trans ?_
    rw [hA]
/-! the rest of the law -/
theorem any_ev {α : Type} {fa : En → Option (List PyData)} {env : En} {p : α → Bool} {xs : List α} (h : fa env = some (xs.map fun x => .bool (p x))) : eCall anyA (aCons (eL fa) aNil) env = some (.bool (xs.any p)) := anyM (aCons_ev (eL_ev h) aNil_ev)
theorem msg_ok (t : LTab) : ∀ m, faultS t = some m → PyData.strOk m = true := by
  have hc : ∀ (H : Nat) (xs : List LCell) (m : Str), xs.findSome? (cellF H) = some m → PyData.strOk m = true := by
    intro H xs
    induction xs with
    | nil => intro m h; cases h
    | cons x xs ih =>
      intro m h
      rw [List.findSome?_cons] at h
      cases q : cellF H x with
      | none => rw [q] at h; exact ih m h
      | some m' =>
        rw [q] at h
        cases h
        unfold cellF at q
        split at q
        · split at q
          · cases q; decide +kernel
          · cases q
        · cases q; decide +kernel
  intro m h
  unfold faultS at h
  split at h
  · cases h; decide +kernel
  split at h
  · cases h; decide +kernel
  split at h
  · cases h; decide +kernel
  split at h
  · cases h; decide +kernel
  split at h
  · cases h; decide +kernel
  split at h
  · cases h; decide +kernel
  exact hc _ _ m h
theorem shaped_oS (t : LTab) : SeqAt.shaped (oS (faultS t)) = true := by
  cases q : faultS t with
  | none => exact shaped_none
  | some m => exact shaped_str (msg_ok t m q)
theorem chs_lt : ∀ n ∈ TL.tl CHS, n < 1000 := by decide +kernel
theorem word_ok {w : Str} (h : wordB w = true) : PyData.strOk w = true := by
  unfold wordB at h
  rw [Bool.and_eq_true, List.all_eq_true] at h
  exact strOk_of fun c hc => chs_lt c (of_decide_eq_true (h.2 c hc))
theorem lay_cells : ∀ xs : List LCell, (∀ x ∈ xs, ∀ w ∈ x.ws, PyData.strOk w = true) → PyData.canLayAll0 (xs.map cellD) = true ∧ PyData.depthAll (xs.map cellD) ≤ 2
  | [], _ => by simp [PyData.canLayAll0, PyData.depthAll]
  | x :: xs, h => by
    obtain ⟨h1, h2⟩ := lay_cells xs fun y hy => h y (List.mem_cons_of_mem _ hy)
    have h3 := lay_strs x.ws (h x List.mem_cons_self)
    have h4 := depth_strs x.ws
    simp [PyData.canLayAll0, PyData.canLay0, PyData.depthAll, PyData.depth, h1, h3, h4]
    omega
theorem spanned_ev (xs : List LCell) (h : ∀ x ∈ xs, ∀ w ∈ x.ws, PyData.strOk w = true) : eqD (.list (xs.map cellD)) (.list []) = some (.bool xs.isEmpty) := by
  obtain ⟨h1, h2⟩ := lay_cells xs h
  have hs : SeqAt.shaped (.list (xs.map cellD)) = true := by
    unfold SeqAt.shaped
    simp [PyData.canLay0, PyData.depth, h1]
    omega
  unfold eqD
  rw [hs, show SeqAt.shaped (.list []) = true from by unfold SeqAt.shaped; simp [PyData.canLay0, PyData.depth, PyData.canLayAll0, PyData.depthAll]]
  cases xs with
  | nil => simp [PyData.eqv, PyData.eqvAll]
  | cons x xs => simp [PyData.eqv, PyData.eqvAll]
def bothB (i : Int) (x : LCell) : Bool := decide (x.r < i ∧ i < x.r + x.h)
def keepB (t : LTab) (i : Nat) : Bool := !(rowAt t.rows (i - 1)).2.2 && !t.cells.any (bothB (i : Nat))
def brkB (t : LTab) (i : Nat) : Bool := decide (heads t < i) && keepB t i
theorem filter_empty_any {α : Type} (p : α → Bool) : ∀ xs : List α, (xs.filter p).isEmpty = !xs.any p
  | [] => rfl
  | x :: xs => by
    rw [List.filter_cons, List.any_cons]
    cases h : p x with
    | true => rfl
    | false => simpa using filter_empty_any p xs
theorem brk_eq (t : LTab) : (List.range t.rows.length).filter (brkB t) = ((List.range (t.rows.length - (heads t + 1))).map fun k => heads t + 1 + k).filter (keepB t) := by
  obtain ⟨H, hH⟩ : ∃ H, H = heads t := ⟨_, rfl⟩
  have nop : ∀ n, n ≤ H + 1 → (List.range n).filter (brkB t) = [] := fun n hn => by
    rw [List.filter_eq_nil_iff]
    intro i hi
    have := List.mem_range.mp hi
    unfold brkB
    rw [decide_eq_false (by omega)]
    simp
  rw [← hH]
  by_cases q : H + 1 ≤ t.rows.length
  · have e : t.rows.length = (H + 1) + (t.rows.length - (H + 1)) := by omega
    obtain ⟨n, hn⟩ : ∃ n, n = t.rows.length - (H + 1) := ⟨_, rfl⟩
    rw [← hn] at e ⊢
    rw [e, List.range_add, List.filter_append, nop _ (Nat.le_refl _), List.nil_append]
    refine List.filter_congr fun i hi => ?_
    obtain ⟨k, _, rfl⟩ := List.mem_map.mp hi
    unfold brkB
    rw [decide_eq_true (by omega)]
    rfl
  · rw [nop _ (by omega), show t.rows.length - (H + 1) = 0 by omega]
    rfl
theorem breakable_rows_ev (t : LTab) (S : Sane t) : g_breakable_rows [tabD t] = some (.list (((List.range t.rows.length).filter (brkB t)).map fun i : Nat => PyData.int (i : Nat))) := by
  obtain ⟨A, hA⟩ : ∃ A, A = tabD t := ⟨_, rfl⟩
  obtain ⟨D, hD⟩ : ∃ A, A = PyData.tuple (t.rows.map rowD) := ⟨_, rfl⟩
  obtain ⟨CC, hCC⟩ : ∃ A, A = PyData.tuple (t.cells.map cellD) := ⟨_, rfl⟩
  obtain ⟨r1, r2⟩ := S.nr
  have cn := S.cn
  have hle := heads_le t
  refine gDef_ev' [.val (tabD t), .un, .un, .un, .un, .un, .un] rfl rfl ?_
  unfold f_breakable_rows
  rw [← hA]
  refine (sSeq_nx (e := [.val A, .val D, .val CC, .un, .un, .un, .un]) (by
    rw [hA, hD, hCC]
    exact sUnp_ev (slT_post (ds := [.tuple (t.cols.map colD), .tuple (t.rows.map rowD), .tuple (t.cells.map cellD)]) (n := 1) rfl rfl rfl (by simp)) rfl)).trans ?_
  refine (sSeq_nx (e := [.val A, .val D, .val CC, .own [], .un, .un, .un]) rfl).trans ?_
  obtain ⟨n, hn⟩ : ∃ n, n = t.rows.length - (heads t + 1) := ⟨_, rfl⟩
  obtain ⟨e', h1, y4, y5, y6, rfl⟩ := loop_rng (g := gVal 4) (b := b_breakable_rows_1) (lo := ((heads t : Nat) : Int) + 1) (n := n) (e := [.val A, .val D, .val CC, .own [], .un, .un, .un])
    (fun j e => ∃ y4 y5 y6, e = [.val A, .val D, .val CC, .own ((((List.range j).map fun k => heads t + 1 + k).filter (keepB t)).map fun i : Nat => PyData.int (i : Nat)), y4, y5, y6]) (fun j e hj he => by
      obtain ⟨y4, y5, y6, rfl⟩ := he
      obtain ⟨v, hv⟩ : ∃ v : Int, v = ((heads t : Nat) : Int) + 1 + (j : Nat) := ⟨_, rfl⟩
      rw [← hv]
      have hv2 : v = ((heads t + 1 + j : Nat) : Int) := by omega
      refine ⟨[.val A, .val D, .val CC, .own ((((List.range j).map fun k => heads t + 1 + k).filter (keepB t)).map fun i : Nat => PyData.int (i : Nat)), .val (.int v), y5, y6], rfl, ?_⟩
      have s1 : sSet 5 (e2 ixG (e2 ixG (eVar 1) (e2 subD (eVar 4) (eC (.int 1)))) (eC (.int 2))) [.val A, .val D, .val CC, .own ((((List.range j).map fun k => heads t + 1 + k).filter (keepB t)).map fun i : Nat => PyData.int (i : Nat)), .val (.int v), y5, y6] = .nx [.val A, .val D, .val CC, .own ((((List.range j).map fun k => heads t + 1 + k).filter (keepB t)).map fun i : Nat => PyData.int (i : Nat)), .val (.int v), .val (.bool (rowAt t.rows (heads t + j)).2.2), y6] := by
        refine sSet_ev (e2_ev (e2_ev rfl (e2_ev rfl rfl rfl) (show ixG D (.int (v - 1)) = _ from by rw [hD]; exact ixG_t (row_get t.rows (j := heads t + j) (by omega)) (by omega))) rfl rfl)
      have t2 : tAnd' (tNot' (tTr (eVar 5))) (tNot' (t1 (eCall anyA (aCons (eL (fCmp [6] (iSeq (eVar 2)) (gVal 6) tYes' c_breakable_rows_1)) aNil)))) [.val A, .val D, .val CC, .own ((((List.range j).map fun k => heads t + 1 + k).filter (keepB t)).map fun i : Nat => PyData.int (i : Nat)), .val (.int v), .val (.bool (rowAt t.rows (heads t + j)).2.2), y6] = some (keepB t (heads t + 1 + j)) := by
        refine (and_b (not_ev (tTr_ev (d := .bool (rowAt t.rows (heads t + j)).2.2) rfl rfl)) (not_ev (t1_ev (any_ev (p := bothB v) (xs := t.cells) (fCmp_ev (ds := t.cells.map cellD) (iSeq_t (by rw [hCC]; rfl)) (compF_mapS fun x hx => ⟨_, rfl, eCall_ev (aCons_ev rfl (aCons_ev rfl aNil_ev)) (covers_both_ev x v)⟩) (by rw [List.length_map]; omega)))))).trans ?_
        unfold keepB
        rw [hv2, show heads t + 1 + j - 1 = heads t + j by omega]
      unfold b_breakable_rows_1
      rw [List.range_succ, List.map_append, List.filter_append, List.map_append]
      refine ⟨_, .inl ((sSeq_nx s1).trans ?_), .val (.int v), .val (.bool (rowAt t.rows (heads t + j)).2.2), y6, rfl⟩
      cases q : keepB t (heads t + 1 + j) with
      | true =>
        rw [q] at t2
        rw [show ([j].map fun k => heads t + 1 + k).filter (keepB t) = [heads t + 1 + j] from by simp [q]]
        refine (sIf_t t2).trans ?_
        rw [show ([heads t + 1 + j].map fun i : Nat => PyData.int (i : Nat)) = [.int v] from by rw [hv2]; rfl]
        exact sApp_ev (i := 3) rfl rfl (by rw [List.length_map]; exact Nat.lt_of_le_of_lt (List.length_filter_le _ _) (by simp; omega))
      | false =>
        rw [q] at t2
        rw [show ([j].map fun k => heads t + 1 + k).filter (keepB t) = [] from by simp [q]]
        rw [List.map_nil, List.append_nil]
        exact (sIf_f t2).trans rfl) ⟨.un, .un, .un, rfl⟩
  have hrg : iR2 (aCons (e2 addD (eCall g_head_count (aCons (eVar 0) aNil)) (eC (.int 1))) (aCons (eCall lenA (aCons (eVar 1) aNil)) aNil)) [.val A, .val D, .val CC, .own [], .un, .un, .un] = some (rngD (((heads t : Nat) : Int) + 1) n) := by
    refine (iR2_ev (aCons_ev (e2_ev (eCall_ev (aCons_ev (x := A) rfl aNil_ev) (by rw [hA]; exact head_count_ev t (by omega))) rfl (addD_int _ _)) (aCons_ev ((len_t (ds := t.rows.map rowD) (by rw [hD]; rfl)).trans (by rw [List.length_map])) aNil_ev)) (by omega) (by omega) (by omega) (by omega)).trans ?_
    congr 2
    omega
  refine (sSeq_nx (sFor_ev hrg h1)).trans ?_
  rw [brk_eq, ← hn]
  rfl
theorem cat_loop (A : PyData) (i j : Int) : ∀ (xs : List LCell) (o n : Nat) (x : LCell) (y3 y4 : Sl), xs[n]? = some x → cov i j x = true → (xs.filter (cov i j)).length = 1 → loopF (gT [3, 4]) b_cell_at_1 (enumD o (xs.map cellD)) [.val A, .val (.int i), .val (.int j), y3, y4] = .rt (.int ((o + n : Nat) : Int))
  | [], o, n, x, y3, y4, h, _, _ => by simp at h
  | z :: xs, o, n, x, y3, y4, h, hc, hl => by
    have tt : tTr (eCall g_covers (aCons (eVar 4) (aCons (eVar 1) (aCons (eVar 2) aNil)))) [.val A, .val (.int i), .val (.int j), .val (.int ((o : Nat) : Int)), .val (cellD z)] = some (cov i j z) := tTr_ev (eCall_ev (aCons_ev rfl (aCons_ev rfl (aCons_ev rfl aNil_ev))) (covers_ev z i j)) rfl
    have hg : gT [3, 4] (.tuple [.int ((o : Nat) : Int), cellD z]) [.val A, .val (.int i), .val (.int j), y3, y4] = some [.val A, .val (.int i), .val (.int j), .val (.int ((o : Nat) : Int)), .val (cellD z)] := rfl
    show loopF (gT [3, 4]) b_cell_at_1 (.tuple [.int ((o : Nat) : Int), cellD z] :: enumD (o + 1) (xs.map cellD)) _ = _
    cases n with
    | zero =>
      have e : z = x := by simpa using h
      rw [← e] at hc
      rw [hc] at tt
      have hb : b_cell_at_1 [.val A, .val (.int i), .val (.int j), .val (.int ((o : Nat) : Int)), .val (cellD z)] = .rt (.int ((o : Nat) : Int)) := (sIf_t tt).trans (sRet_ev rfl)
      simp only [loopF, hg, hb]
      rfl
    | succ n =>
      have h' : xs[n]? = some x := by simpa using h
      have hz : cov i j z = false := by
        cases q : cov i j z with
        | false => rfl
        | true =>
          rw [List.filter_cons, if_pos q, List.length_cons] at hl
          have hm : x ∈ xs.filter (cov i j) := List.mem_filter.mpr ⟨List.mem_of_getElem? h', hc⟩
          have := List.length_pos_of_mem hm
          omega
      rw [List.filter_cons, hz, if_neg (by simp)] at hl
      rw [hz] at tt
      have hb : b_cell_at_1 [.val A, .val (.int i), .val (.int j), .val (.int ((o : Nat) : Int)), .val (cellD z)] = .nx [.val A, .val (.int i), .val (.int j), .val (.int ((o : Nat) : Int)), .val (cellD z)] := (sIf_f tt).trans rfl
      have ih := cat_loop A i j xs (o + 1) n x (.val (.int ((o : Nat) : Int))) (.val (cellD z)) h' hc hl
      simp only [loopF, hg, hb]
      rw [ih, show o + 1 + n = o + (n + 1) by omega]
theorem cell_at_ev (t : LTab) (i j : Int) (n : Nat) (x : LCell) (h : t.cells[n]? = some x) (hc : cov i j x = true) (hl : covN t.cells i j = 1) : g_cell_at [tabD t, .int i, .int j] = some (.int (n : Nat)) := by
  have key := cat_loop (tabD t) i j t.cells 0 n x .un .un h hc hl
  rw [Nat.zero_add] at key
  obtain ⟨A, hA⟩ : ∃ A, A = tabD t := ⟨_, rfl⟩
  rw [← hA] at key ⊢
  refine gDef_ev' [.val A, .val (.int i), .val (.int j), .un, .un] rfl rfl ?_
  unfold f_cell_at
  refine sSeq_rt (sFor_ev ?_ key)
  rw [hA]
  rfl
theorem words_of (t : LTab) (h : faultS t = none) : (∀ x ∈ t.cells, ∀ w ∈ x.ws, PyData.strOk w = true) ∧ (∀ x ∈ t.cells, Ins t.rows.length t.cols.length x) ∧ onceB t.rows.length t.cols.length t.cells = true := by
  unfold faultS at h
  split at h
  · cases h
  split at h
  · cases h
  split at h
  · cases h
  split at h
  · cases h
  split at h
  · cases h
  rename_i _ _ _ _ g5
  split at h
  · cases h
  rename_i g6
  rw [Bool.not_eq_false] at g5 g6
  refine ⟨fun x hx w hw => ?_, fun x hx => ins_of (List.all_eq_true.mp g5 x hx), g6⟩
  have hx2 := List.findSome?_eq_none_iff.mp h x hx
  unfold cellF at hx2
  split at hx2
  · rename_i hw2
    unfold wordsB at hw2
    rw [Bool.and_eq_true, List.all_eq_true] at hw2
    exact word_ok (hw2.2 w hw)
  · cases hx2
theorem cover_once (t : LTab) (h : onceB t.rows.length t.cols.length t.cells = true) (i j : Int) (hi : 0 ≤ i ∧ i < t.rows.length) (hj : 0 ≤ j ∧ j < t.cols.length) : covN t.cells i j = 1 := by
  obtain ⟨a, rfl⟩ := Int.eq_ofNat_of_zero_le hi.1
  obtain ⟨b, rfl⟩ := Int.eq_ofNat_of_zero_le hj.1
  unfold onceB at h
  rw [List.all_eq_true] at h
  have h2 := h a (List.mem_range.mpr (by omega))
  rw [List.all_eq_true] at h2
  exact of_decide_eq_true (h2 b (List.mem_range.mpr (by omega)))
theorem law_true (ns : List Int) (hn : ns.length ≤ 63) : g_law [.list (ns.map .int)] = some (.bool true) := by
  obtain ⟨t0, ht0, T0⟩ := ktable_ev ns 1
  obtain ⟨ds, hds, hl, hb⟩ := draws_ev (ns.getD 0 0) 4 (by decide)
  have hc0 := cell_ev ns 0
  obtain ⟨t, ht, S⟩ := spoilt_ev t0 T0 ds hl
  have due := Lfault_ev t S
  have told := Ltold_ev t S
  have hsh := shaped_oS t
  obtain ⟨SC, hSC⟩ : ∃ A, A = PyData.list (ns.map .int) := ⟨_, rfl⟩
  obtain ⟨A, hA⟩ : ∃ A, A = tabD t := ⟨_, rfl⟩
  rw [← hSC] at ht0 hc0 ⊢
  rw [← hA] at ht due told
  refine gDef_ev' [.val SC, .un, .un, .un, .un, .un, .un, .un, .un, .un, .un, .un, .un, .un, .un, .un, .un] rfl rfl ?_
  unfold f_law
  refine (sSeq_nx (e := [.val SC, .val A, .un, .un, .un, .un, .un, .un, .un, .un, .un, .un, .un, .un, .un, .un, .un]) (sSet_ev (eCall_ev (aCons_ev (eCall_ev (aCons_ev rfl (aCons_ev rfl (aCons_ev rfl (aCons_ev rfl aNil_ev)))) ht0) (aCons_ev (eCall_ev (aCons_ev (eCall_ev (aCons_ev rfl (aCons_ev rfl aNil_ev)) hc0) (aCons_ev rfl aNil_ev)) hds) aNil_ev)) ht))).trans ?_
  obtain ⟨F, hF⟩ : ∃ F, F = oS (faultS t) := ⟨_, rfl⟩
  rw [← hF] at due told hsh
  refine (sSeq_nx (e := [.val SC, .val A, .val F, .un, .un, .un, .un, .un, .un, .un, .un, .un, .un, .un, .un, .un, .un]) (sSet_ev (eCall_ev (aCons_ev rfl aNil_ev) due))).trans ?_
  refine (sSeq_nx (e := [.val SC, .val A, .val F, .un, .un, .un, .un, .un, .un, .un, .un, .un, .un, .un, .un, .un, .un]) ((sIf_f (t1_ev (e2_ev (eCall_ev (aCons_ev rfl aNil_ev) told) rfl (neD_same hsh)))).trans rfl)).trans ?_
  cases hq : faultS t with
  | some m =>
    rw [hq] at hF
    refine sSeq_rt ((sIf_t (t1_ev (e2_ev (x := F) (y := .none) rfl rfl (by rw [hF]; rfl)))).trans (sRet_ev rfl))
  | none =>
  rw [hq] at hF
  obtain ⟨hws, hin, hon⟩ := words_of t hq
  obtain ⟨r1, r2⟩ := S.nr
  obtain ⟨c1, c2⟩ := S.nc
  have cn := S.cn
  refine (sSeq_nx (e := [.val SC, .val A, .val F, .un, .un, .un, .un, .un, .un, .un, .un, .un, .un, .un, .un, .un, .un]) ((sIf_f (t1_ev (e2_ev (x := F) (y := .none) rfl rfl (by rw [hF]; rfl)))).trans rfl)).trans ?_
  obtain ⟨B, hB⟩ : ∃ A, A = PyData.tuple (t.cols.map colD) := ⟨_, rfl⟩
  obtain ⟨D, hD⟩ : ∃ A, A = PyData.tuple (t.rows.map rowD) := ⟨_, rfl⟩
  obtain ⟨CC, hCC⟩ : ∃ A, A = PyData.tuple (t.cells.map cellD) := ⟨_, rfl⟩
  refine (sSeq_nx (e := [.val SC, .val A, .val F, .val B, .val D, .val CC, .un, .un, .un, .un, .un, .un, .un, .un, .un, .un, .un]) (by rw [hA, hB, hD, hCC]; exact sUnp_ev rfl rfl)).trans ?_
  refine (sSeq_nx (e := [.val SC, .val A, .val F, .val B, .val D, .val CC, .val (.int (heads t)), .un, .un, .un, .un, .un, .un, .un, .un, .un, .un]) (sSet_ev ((len_l (ds := (t.rows.filter fun x => x.2.1).map rowD) (eL_ev (fCmp_ev (ds := t.rows.map rowD) (iSeq_t (by rw [hD]; rfl)) (compF_filterS fun x hx => ⟨[.val SC, .val A, .val F, .val B, .val D, .val CC, .un, .un, .val (rowD x), .un, .un, .un, .un, .un, .un, .un, .un], rfl, tTr_ev (e2_ev rfl rfl rfl) rfl, rfl⟩) (by rw [List.length_map]; exact Nat.le_trans (List.length_filter_le _ _) (by omega))))).trans (by rw [List.length_map]; rfl)))).trans ?_
  refine (sSeq_nx (e := [.val SC, .val A, .val F, .val B, .val D, .val CC, .val (.int (heads t)), .un, .un, .un, .un, .un, .un, .un, .un, .un, .un]) ((sIf_f (t1_ev (e2_ev (eCall_ev (aCons_ev (x := A) rfl aNil_ev) (by rw [hA]; exact head_count_ev t (by omega))) rfl (neD_same (shaped_int _))))).trans rfl)).trans ?_
  refine (sSeq_nx (e := [.val SC, .val A, .val F, .val B, .val D, .val CC, .val (.int (heads t)), .own [], .un, .un, .un, .un, .un, .un, .un, .un, .un]) rfl).trans ?_
  -- the rows where pages may break
  obtain ⟨e', h1, y8, y9, y16, rfl⟩ := loop_rng (g := gVal 8) (b := b_law_1) (lo := 0) (n := t.rows.length) (e := [.val SC, .val A, .val F, .val B, .val D, .val CC, .val (.int (heads t)), .own [], .un, .un, .un, .un, .un, .un, .un, .un, .un])
    (fun j e => ∃ y8 y9 y16, e = [.val SC, .val A, .val F, .val B, .val D, .val CC, .val (.int (heads t)), .own (((List.range j).filter (brkB t)).map fun i : Nat => PyData.int (i : Nat)), y8, y9, .un, .un, .un, .un, .un, .un, y16]) (fun j e hj he => by
      obtain ⟨y8, y9, y16, rfl⟩ := he
      obtain ⟨v, hv⟩ : ∃ v : Int, v = 0 + (j : Nat) := ⟨_, rfl⟩
      rw [← hv]
      have hv2 : v = (j : Nat) := by omega
      obtain ⟨O, hO⟩ : ∃ O, O = (((List.range j).filter (brkB t)).map fun i : Nat => PyData.int (i : Nat)) := ⟨_, rfl⟩
      rw [List.range_succ, List.filter_append, List.map_append, ← hO]
      have hOl : O.length < 1000000 := by rw [hO, List.length_map]; exact Nat.lt_of_le_of_lt (List.length_filter_le _ _) (by simp; omega)
      refine ⟨[.val SC, .val A, .val F, .val B, .val D, .val CC, .val (.int (heads t)), .own O, .val (.int v), y9, .un, .un, .un, .un, .un, .un, y16], rfl, ?_⟩
      obtain ⟨P, hP⟩ : ∃ P, P = t.cells.filter (bothB v) := ⟨_, rfl⟩
      have s1 : sSet 9 (eL (fCmp [16] (iSeq (eVar 5)) (gVal 16) t_law_2 c_law_2)) [.val SC, .val A, .val F, .val B, .val D, .val CC, .val (.int (heads t)), .own O, .val (.int v), y9, .un, .un, .un, .un, .un, .un, y16] = .nx [.val SC, .val A, .val F, .val B, .val D, .val CC, .val (.int (heads t)), .own O, .val (.int v), .val (.list (P.map cellD)), .un, .un, .un, .un, .un, .un, y16] := by
        rw [hP]
        exact sSet_ev (eL_ev (fCmp_ev (ds := t.cells.map cellD) (iSeq_t (by rw [hCC]; rfl)) (compF_filterS (p := bothB v) fun x hx => ⟨[.val SC, .val A, .val F, .val B, .val D, .val CC, .val (.int (heads t)), .own O, .val (.int v), y9, .un, .un, .un, .un, .un, .un, .val (cellD x)], rfl, t1_ev (ch0 _ _ _ _ _ _ _ (e2_ev rfl rfl rfl) rfl (e2_ev (e2_ev rfl rfl rfl) (e2_ev rfl rfl rfl) rfl)), rfl⟩) (by rw [List.length_map]; exact Nat.le_trans (List.length_filter_le _ _) (by omega))))
      have sp : eqD (.list (P.map cellD)) (.list []) = some (.bool (!t.cells.any (bothB v))) := by
        rw [spanned_ev P (fun x hx => hws x (by rw [hP] at hx; exact (List.mem_filter.mp hx).1)), hP, filter_empty_any]
      have t2 : tAnd' (t1 (e2 gtD (eVar 8) (eVar 6))) (tAnd' (t1 (e2 eqD (eVar 9) (eL (fLst aNil)))) (tNot' (tTr (e2 ixG (e2 ixG (eVar 4) (e2 subD (eVar 8) (eC (.int 1)))) (eC (.int 2)))))) [.val SC, .val A, .val F, .val B, .val D, .val CC, .val (.int (heads t)), .own O, .val (.int v), .val (.list (P.map cellD)), .un, .un, .un, .un, .un, .un, y16] = some (brkB t j) := by
        have c1 : t1 (e2 gtD (eVar 8) (eVar 6)) [.val SC, .val A, .val F, .val B, .val D, .val CC, .val (.int (heads t)), .own O, .val (.int v), .val (.list (P.map cellD)), .un, .un, .un, .un, .un, .un, y16] = some (decide (heads t < j)) := by
          refine (t1_ev (e2_ev rfl rfl (gtD_int _ _))).trans ?_
          congr 1
          by_cases q : heads t < j
          · rw [decide_eq_true q, decide_eq_true (by omega)]
          · rw [decide_eq_false q, decide_eq_false (by omega)]
        unfold brkB
        by_cases q : heads t < j
        · rw [decide_eq_true q] at c1 ⊢
          refine (and_t c1 (and_b (t1_ev (e2_ev rfl rfl sp)) (not_ev (tTr_ev (e2_ev (e2_ev rfl (e2_ev rfl rfl rfl) (show ixG D (.int (v - 1)) = _ from by rw [hD]; exact ixG_t (row_get t.rows (j := j - 1) (by omega)) (by omega))) rfl rfl) rfl)))).trans ?_
          unfold keepB
          rw [hv2, Bool.true_and, Bool.and_comm]
        · rw [decide_eq_false q] at c1 ⊢
          exact and_f c1
      unfold b_law_1
      refine ⟨_, .inl ((sSeq_nx s1).trans ?_), .val (.int v), .val (.list (P.map cellD)), y16, rfl⟩
      cases q : brkB t j with
      | true =>
        rw [q] at t2
        rw [show [j].filter (brkB t) = [j] from by simp [q]]
        refine (sIf_t t2).trans ?_
        rw [show ([j].map fun i : Nat => PyData.int (i : Nat)) = [.int v] from by rw [hv2]; rfl]
        exact sApp_ev (i := 7) rfl rfl hOl
      | false =>
        rw [q] at t2
        rw [show [j].filter (brkB t) = [] from by simp [q]]
        rw [List.map_nil, List.append_nil]
        exact (sIf_f t2).trans rfl) ⟨.un, .un, .un, rfl⟩
  have hrg : iR1 (aCons (eCall lenA (aCons (eVar 4) aNil)) aNil) [.val SC, .val A, .val F, .val B, .val D, .val CC, .val (.int (heads t)), .own [], .un, .un, .un, .un, .un, .un, .un, .un, .un] = some (rngD 0 t.rows.length) := by
    have := rng0_ev (n := t.rows.length) (fa := aCons (eCall lenA (aCons (eVar 4) aNil)) aNil) (env := [.val SC, .val A, .val F, .val B, .val D, .val CC, .val (.int (heads t)), .own [], .un, .un, .un, .un, .un, .un, .un, .un, .un]) (aCons_ev ((len_t (ds := t.rows.map rowD) (by rw [hD]; rfl)).trans (by rw [List.length_map])) aNil_ev) (by omega)
    exact this
  refine (sSeq_nx (sFor_ev hrg h1)).trans ?_
  obtain ⟨O, hO⟩ : ∃ O : List Int, O = (((List.range t.rows.length).filter (brkB t)).map fun i : Nat => (i : Int)) := ⟨_, rfl⟩
  have hO2 : (((List.range t.rows.length).filter (brkB t)).map fun i : Nat => PyData.int (i : Nat)) = O.map .int := by rw [hO, List.map_map]; rfl
  have hbr := breakable_rows_ev t S
  rw [hO2, ← hA] at hbr
  rw [hO2]
  refine (sSeq_nx (e := [.val SC, .val A, .val F, .val B, .val D, .val CC, .val (.int (heads t)), .own (O.map .int), y8, y9, .un, .un, .un, .un, .un, .un, y16]) ((sIf_f (t1_ev (e2_ev (eCall_ev (aCons_ev rfl aNil_ev) hbr) rfl (neD_same (shaped_ints O).1)))).trans rfl)).trans ?_
  -- the cells by place
  obtain ⟨OO, hOO⟩ : ∃ q, q = Sl.own (O.map .int) := ⟨_, rfl⟩
  rw [← hOO]
  obtain ⟨HH, hHH⟩ : ∃ q, q = PyData.int (heads t) := ⟨_, rfl⟩
  rw [← hHH]
  obtain ⟨e', h2, z8, z10, z11, z12, z13, z14, z15, rfl⟩ := loop_rng (g := gVal 10) (b := b_law_3) (lo := 0) (n := t.cells.length) (e := [.val SC, .val A, .val F, .val B, .val D, .val CC, .val HH, OO, y8, y9, .un, .un, .un, .un, .un, .un, y16])
    (fun j e => ∃ z8 z10 z11 z12 z13 z14 z15, e = [.val SC, .val A, .val F, .val B, .val D, .val CC, .val HH, OO, z8, y9, z10, z11, z12, z13, z14, z15, y16]) (fun j e hj he => by
      obtain ⟨z8, z10, z11, z12, z13, z14, z15, rfl⟩ := he
      obtain ⟨v, hv⟩ : ∃ v : Int, v = 0 + (j : Nat) := ⟨_, rfl⟩
      rw [← hv]
      have hv2 : v = (j : Nat) := by omega
      refine ⟨[.val SC, .val A, .val F, .val B, .val D, .val CC, .val HH, OO, z8, y9, .val (.int v), z11, z12, z13, z14, z15, y16], rfl, ?_⟩
      obtain ⟨x, hx⟩ : ∃ x, x = t.cells[j] := ⟨_, rfl⟩
      have hxg : t.cells[j]? = some x := by rw [hx, List.getElem?_eq_getElem hj]
      have hxm : x ∈ t.cells := List.mem_of_getElem? hxg
      obtain ⟨i1, i2, i3, i4, i5, i6⟩ := hin x hxm
      have hmul : 0 ≤ x.h * x.w ∧ x.h * x.w ≤ 16 := by
        refine ⟨Int.mul_nonneg (by omega) (by omega), ?_⟩
        have := Int.mul_le_mul (show x.h ≤ 4 by omega) (show x.w ≤ 4 by omega) (by omega) (by decide)
        omega
      have s1 : sUnp (e2 ixG (eVar 5) (eVar 10)) (gT [8, 11, 12, 13, 14]) [.val SC, .val A, .val F, .val B, .val D, .val CC, .val HH, OO, z8, y9, .val (.int v), z11, z12, z13, z14, z15, y16] = .nx [.val SC, .val A, .val F, .val B, .val D, .val CC, .val HH, OO, .val (.int x.r), y9, .val (.int v), .val (.int x.c), .val (.int x.h), .val (.int x.w), .val (.tuple (x.ws.map .str)), z15, y16] := by
        refine sUnp_ev (d := cellD x) (e2_ev rfl rfl (show ixG CC (.int v) = _ from by rw [hCC]; exact ixG_t (j := j) (by rw [List.getElem?_map, hxg]; rfl) hv2)) rfl
      obtain ⟨e', k1, w15, rfl⟩ := loop_rng (g := gVal 15) (b := b_law_2) (lo := 0) (n := (x.h * x.w).toNat) (e := [.val SC, .val A, .val F, .val B, .val D, .val CC, .val HH, OO, .val (.int x.r), y9, .val (.int v), .val (.int x.c), .val (.int x.h), .val (.int x.w), .val (.tuple (x.ws.map .str)), z15, y16])
        (fun n e => ∃ z15, e = [.val SC, .val A, .val F, .val B, .val D, .val CC, .val HH, OO, .val (.int x.r), y9, .val (.int v), .val (.int x.c), .val (.int x.h), .val (.int x.w), .val (.tuple (x.ws.map .str)), z15, y16]) (fun n e hn he => by
          obtain ⟨z15, rfl⟩ := he
          obtain ⟨k, hk⟩ : ∃ k : Int, k = 0 + (n : Nat) := ⟨_, rfl⟩
          rw [← hk]
          have k0 : 0 ≤ k := by omega
          have kl : k < x.h * x.w := by omega
          have d1 : 0 ≤ k / x.w := Int.ediv_nonneg k0 (by omega)
          have d2 : k / x.w < x.h := Int.ediv_lt_of_lt_mul (by omega) kl
          have m1 := mod_lt k x.w (by omega)
          have hcv : cov (x.r + k / x.w) (x.c + k % x.w) x = true := by
            unfold cov
            rw [Bool.and_eq_true, decide_eq_true_iff, decide_eq_true_iff]
            omega
          have hone := cover_once t hon (x.r + k / x.w) (x.c + k % x.w) (by omega) (by omega)
          have hcat := cell_at_ev t _ _ j x hxg hcv hone
          rw [← hA, ← hv2] at hcat
          refine ⟨[.val SC, .val A, .val F, .val B, .val D, .val CC, .val HH, OO, .val (.int x.r), y9, .val (.int v), .val (.int x.c), .val (.int x.h), .val (.int x.w), .val (.tuple (x.ws.map .str)), .val (.int k), y16], rfl, [.val SC, .val A, .val F, .val B, .val D, .val CC, .val HH, OO, .val (.int x.r), y9, .val (.int v), .val (.int x.c), .val (.int x.h), .val (.int x.w), .val (.tuple (x.ws.map .str)), .val (.int k), y16], .inl ?_, .val (.int k), rfl⟩
          unfold b_law_2
          refine (sIf_f (t1_ev (e2_ev (eCall_ev (aCons_ev rfl (aCons_ev (e2_ev rfl (e2_ev rfl rfl (divD_int ⟨by omega, by omega⟩)) (addD_int _ _)) (aCons_ev (e2_ev rfl (e2_ev rfl rfl (modD_int (by omega))) (addD_int _ _)) aNil_ev))) hcat) rfl (neD_same (shaped_int _))))).trans rfl) ⟨z15, rfl⟩
      refine ⟨[.val SC, .val A, .val F, .val B, .val D, .val CC, .val HH, OO, .val (.int x.r), y9, .val (.int v), .val (.int x.c), .val (.int x.h), .val (.int x.w), .val (.tuple (x.ws.map .str)), w15, y16], .inl ?_, .val (.int x.r), .val (.int v), .val (.int x.c), .val (.int x.h), .val (.int x.w), .val (.tuple (x.ws.map .str)), w15, rfl⟩
      unfold b_law_3
      refine (sSeq_nx s1).trans (sFor_ev (iR1_ev (N := x.h * x.w) (aCons_ev (e2_ev rfl rfl (mulD_int (.inl (by omega)))) aNil_ev) (by omega) (by omega)) k1)) ⟨_, _, _, _, _, _, _, rfl⟩
  have hrg2 : iR1 (aCons (eCall lenA (aCons (eVar 5) aNil)) aNil) [.val SC, .val A, .val F, .val B, .val D, .val CC, .val HH, OO, y8, y9, .un, .un, .un, .un, .un, .un, y16] = some (rngD 0 t.cells.length) := by
    have := rng0_ev (n := t.cells.length) (fa := aCons (eCall lenA (aCons (eVar 5) aNil)) aNil) (env := [.val SC, .val A, .val F, .val B, .val D, .val CC, .val HH, OO, y8, y9, .un, .un, .un, .un, .un, .un, y16]) (aCons_ev ((len_t (ds := t.cells.map cellD) (by rw [hCC]; rfl)).trans (by rw [List.length_map])) aNil_ev) (by omega)
    exact this
  exact (sSeq_nx (sFor_ev hrg2 h2)).trans rfl
end K05

open PySem PySem.W PyProof.Rows
set_option maxHeartbeats 0 in
theorem PySem.Challenge.cw_boundbook_k05_tables_holds : PySem.Challenge.rw_boundbook_k05_tables.Holds := by
  w_on; o_law; k_head; (case hw => w_witness2)
  k_fill
  refine L2.walk_of (l := PySem.Challenge.rw_boundbook_k05_tables) (n := 63) (k := 7) (x := "script") (CX := fun _ => L2.CX0) (sp := fun w => Mir.spF _ K05.g_law) rfl (by decide) rfl ⟨rfl, by decide, by decide⟩ (fun w h Y => PySem.W.kIn_of Y) ?F (fun w H a ns hl hO hS => Mir.law_end hS (K05.law_true ns hl)) (fun _ _ _ _ _ h => h)
  case F =>
    intro w mg fa h KX G hmg
    refine' K05.all_mk KX G hmg ?a_is_word ?l_is_word ?c_is_word ?k_is_word ?a_are_words ?l_are_words ?c_are_words ?k_are_words ?a_is_column ?l_is_column ?c_is_column ?k_is_column ?a_are_columns ?l_are_columns ?c_are_columns ?k_are_columns ?a_is_row ?l_is_row ?c_is_row ?k_is_row ?a_are_rows ?l_are_rows ?c_are_rows ?k_are_rows ?a_are_heads_first ?l_are_heads_first ?c_are_heads_first ?k_are_heads_first ?a_are_in_order ?l_are_in_order ?c_are_in_order ?k_are_in_order ?a_is_inside ?l_is_inside ?c_is_inside ?k_is_inside ?a_covers ?l_covers ?c_covers ?k_covers ?a_covers_both ?l_covers_both ?c_covers_both ?k_covers_both ?a_is_covered_once ?l_is_covered_once ?c_is_covered_once ?k_is_covered_once ?a_head_count ?l_head_count ?c_head_count ?k_head_count ?a_check_table ?l_check_table ?c_check_table ?k_check_table ?a_cell_at ?l_cell_at ?c_cell_at ?k_cell_at ?a_breakable_rows ?l_breakable_rows ?c_breakable_rows ?k_breakable_rows ?a_Lcell ?l_Lcell ?c_Lcell ?k_Lcell ?a_Ldraws ?l_Ldraws ?c_Ldraws ?k_Ldraws ?a_Lwords ?l_Lwords ?c_Lwords ?k_Lwords ?a_Lspan ?l_Lspan ?c_Lspan ?k_Lspan ?a_Lcells ?l_Lcells ?c_Lcells ?k_Lcells ?a_Ltable ?l_Ltable ?c_Ltable ?k_Ltable ?a_Lchanged ?l_Lchanged ?c_Lchanged ?k_Lchanged ?a_Lspoilt ?l_Lspoilt ?c_Lspoilt ?k_Lspoilt ?a_Lis_word ?l_Lis_word ?c_Lis_word ?k_Lis_word ?a_Lcolumn_right ?l_Lcolumn_right ?c_Lcolumn_right ?k_Lcolumn_right ?a_Lcells_fault ?l_Lcells_fault ?c_Lcells_fault ?k_Lcells_fault ?a_Lfault ?l_Lfault ?c_Lfault ?k_Lfault ?a_Ltold ?l_Ltold ?c_Ltold ?k_Ltold ?a_law ?l_law ?c_law ?k_law ?z_len ?z_all ?z_range ?z_enumerate ?z_any ?z_tuple ?z_isinstance ?z_ValueError ?y_MOST_CHARACTERS ?y_CHARACTERS ?y_MOST_WORDS ?y_MOST_COLUMNS ?y_MOST_ROWS ?y_ALIGNS ?v_ALIGNS ?qgC ?qcls ?qbm ?qsa ?qga ?qgg ?qnoN ?qiC ?qtC ?qkC ?qexC ?qtyC ?qhdC ?qic ?qsC ?qsup ?qopq ?qsIn ?qhB ?qmro ?qtop ?qfn ?qcd ?qco ?qvs ?qfile ?qcell ?qkx1 ?qkx2 ?qkx3 ?qkx4 ?qkx5 ?yc_BookError ?kq_BookError ?kq_ValueError
    (case a_is_word => k_is)
    (case l_is_word => k_is)
    (case c_is_word => k_is)
    (case k_is_word => k_is)
    (case a_are_words => k_is)
    (case l_are_words => k_is)
    (case c_are_words => k_is)
    (case k_are_words => k_is)
    (case a_is_column => k_is)
    (case l_is_column => k_is)
    (case c_is_column => k_is)
    (case k_is_column => k_is)
    (case a_are_columns => k_is)
    (case l_are_columns => k_is)
    (case c_are_columns => k_is)
    (case k_are_columns => k_is)
    (case a_is_row => k_is)
    (case l_is_row => k_is)
    (case c_is_row => k_is)
    (case k_is_row => k_is)
    (case a_are_rows => k_is)
    (case l_are_rows => k_is)
    (case c_are_rows => k_is)
    (case k_are_rows => k_is)
    (case a_are_heads_first => k_is)
    (case l_are_heads_first => k_is)
    (case c_are_heads_first => k_is)
    (case k_are_heads_first => k_is)
    (case a_are_in_order => k_is)
    (case l_are_in_order => k_is)
    (case c_are_in_order => k_is)
    (case k_are_in_order => k_is)
    (case a_is_inside => k_is)
    (case l_is_inside => k_is)
    (case c_is_inside => k_is)
    (case k_is_inside => k_is)
    (case a_covers => k_is)
    (case l_covers => k_is)
    (case c_covers => k_is)
    (case k_covers => k_is)
    (case a_covers_both => k_is)
    (case l_covers_both => k_is)
    (case c_covers_both => k_is)
    (case k_covers_both => k_is)
    (case a_is_covered_once => k_is)
    (case l_is_covered_once => k_is)
    (case c_is_covered_once => k_is)
    (case k_is_covered_once => k_is)
    (case a_head_count => k_is)
    (case l_head_count => k_is)
    (case c_head_count => k_is)
    (case k_head_count => k_is)
    (case a_check_table => k_is)
    (case l_check_table => k_is)
    (case c_check_table => k_is)
    (case k_check_table => k_is)
    (case a_cell_at => k_is)
    (case l_cell_at => k_is)
    (case c_cell_at => k_is)
    (case k_cell_at => k_is)
    (case a_breakable_rows => k_is)
    (case l_breakable_rows => k_is)
    (case c_breakable_rows => k_is)
    (case k_breakable_rows => k_is)
    (case a_Lcell => k_is)
    (case l_Lcell => k_is)
    (case c_Lcell => k_is)
    (case k_Lcell => k_is)
    (case a_Ldraws => k_is)
    (case l_Ldraws => k_is)
    (case c_Ldraws => k_is)
    (case k_Ldraws => k_is)
    (case a_Lwords => k_is)
    (case l_Lwords => k_is)
    (case c_Lwords => k_is)
    (case k_Lwords => k_is)
    (case a_Lspan => k_is)
    (case l_Lspan => k_is)
    (case c_Lspan => k_is)
    (case k_Lspan => k_is)
    (case a_Lcells => k_is)
    (case l_Lcells => k_is)
    (case c_Lcells => k_is)
    (case k_Lcells => k_is)
    (case a_Ltable => k_is)
    (case l_Ltable => k_is)
    (case c_Ltable => k_is)
    (case k_Ltable => k_is)
    (case a_Lchanged => k_is)
    (case l_Lchanged => k_is)
    (case c_Lchanged => k_is)
    (case k_Lchanged => k_is)
    (case a_Lspoilt => k_is)
    (case l_Lspoilt => k_is)
    (case c_Lspoilt => k_is)
    (case k_Lspoilt => k_is)
    (case a_Lis_word => k_is)
    (case l_Lis_word => k_is)
    (case c_Lis_word => k_is)
    (case k_Lis_word => k_is)
    (case a_Lcolumn_right => k_is)
    (case l_Lcolumn_right => k_is)
    (case c_Lcolumn_right => k_is)
    (case k_Lcolumn_right => k_is)
    (case a_Lcells_fault => k_is)
    (case l_Lcells_fault => k_is)
    (case c_Lcells_fault => k_is)
    (case k_Lcells_fault => k_is)
    (case a_Lfault => k_is)
    (case l_Lfault => k_is)
    (case c_Lfault => k_is)
    (case k_Lfault => k_is)
    (case a_Ltold => k_is)
    (case l_Ltold => k_is)
    (case c_Ltold => k_is)
    (case k_Ltold => k_is)
    (case a_law => k_is)
    (case l_law => k_is)
    (case c_law => k_is)
    (case k_law => k_is)
    (case z_len => k_is)
    (case z_all => k_is)
    (case z_range => k_is)
    (case z_enumerate => k_is)
    (case z_any => k_is)
    (case z_tuple => k_is)
    (case z_isinstance => k_is)
    (case z_ValueError => k_is)
    (case y_MOST_CHARACTERS => k_is)
    (case y_CHARACTERS => k_is)
    (case y_MOST_WORDS => k_is)
    (case y_MOST_COLUMNS => k_is)
    (case y_MOST_ROWS => k_is)
    (case y_ALIGNS => k_is)
    (case v_ALIGNS => k_is)
    (case qgC => k_is)
    (case qcls => k_is)
    (case qbm => first | rfl | kernel_rfl | decide +kernel | k_is)
    (case qsa => k_is)
    (case qga => k_is)
    (case qgg => k_is)
    (case qnoN => k_is)
    (case qiC => k_is)
    (case qtC => k_is)
    (case qkC => k_is)
    (case qexC => k_is)
    (case qtyC => k_is)
    (case qhdC => k_is)
    (case qic => k_is)
    (case qsC => k_is)
    (case qsup => k_is)
    (case qopq => k_is)
    (case qsIn => ks_is)
    (case qhB => k_is)
    (case qmro => k_is)
    (case qtop => first | rfl | kernel_rfl | decide +kernel | k_is)
    (case qfn => k_is)
    (case qcd => k_is)
    (case qco => k_is)
    (case qvs => first | rfl | kernel_rfl | decide +kernel | k_is)
    (case qfile => first | rfl | kernel_rfl | decide +kernel | k_is)
    (case qcell => k_is)
    (case qkx1 => first | rfl | kernel_rfl | decide +kernel | k_is)
    (case qkx2 => k_is)
    (case qkx3 => first | rfl | kernel_rfl | decide +kernel | k_is)
    (case qkx4 => first | rfl | kernel_rfl | decide +kernel | k_is)
    (case qkx5 => k_is)
    (case yc_BookError => k_is)
    (case kq_BookError => first | rfl | kernel_rfl | decide +kernel | k_is)
    (case kq_ValueError => first | rfl | kernel_rfl | decide +kernel | k_is)


import PyProof.Rows.All
import Wide.All
import OpenK.AllK
import Wide.FinOn
import HandS.ForMost
import HandS.Deep
import HandS.TupAny
import KE.DatumOrd
import HandS.SortKw
import HandS.IsInst
import KE.GoesEnum
import HandS.Zip
import HandS.TupMul
import HandS.Style
import KE.KRevSl
import HandS.Dict
import HandS.ForExc
import KE.KExcSuper
import HandS.TryOnly
import HandS.WideBits
import HandS.More
import HandS.CallLocal
import KE.DataMinKey
import HandS.FStr
import HandS.Strs
import KE.KExcIs
import HandS.Conv
import KE.SortData
import KE.DataMinMax
import PyProof.Claim2Refuses
import PySem.Challenge.RW_boundbook_k17_fewest_pages
set_option Elab.async false
set_option linter.all false
set_option maxRecDepth 100000
set_option maxHeartbeats 8000000
/-! Mir: pure data (PyData) for what a def handles, an environment by slots with lists that are owned, and what a piece of code does to it. -/
namespace Mir
open PySem PySem.Spec PyProof.Rows L2

/-! ### data in the heap; S: where its lists may stand -/
/-- a list of the written part -/
def KL (K : PySem.W.Frag) (a : Addr) (xs : List V) : Prop := ∃ (o : Obj) (its : Array Value) (n : Nat), K.lookup a = some o ∧ o.cls = .type "list" ∧ o.dict = none ∧ o.data = .seq its n ∧ its.size ≤ sizeLine ∧ Vals xs its.toList
def LsAt (K : PySem.W.Frag) (S : Addr → Prop) (H : Hp) (a : Addr) (xs : List V) : Prop := (S a ∧ Rd H a (.lst xs)) ∨ KL K a xs
theorem LsAt.sq {K : PySem.W.Frag} {S : Addr → Prop} {H : Hp} {a : Addr} {xs : List V} (h : LsAt K S H a xs) : SqL K H a xs := h.imp (fun z => z.2) id
theorem LsAt.of {K : PySem.W.Frag} {S : Addr → Prop} {H : Hp} {a : Addr} {xs : List V} (s : S a) (h : SqL K H a xs) : LsAt K S H a xs := h.imp (fun z => ⟨s, z⟩) id
/-- what never changes, and is no tuple -/
def fz : HO → Bool
  | .frz _ _ => true
  | .xd _ => true
  | _ => false
/-- keys as data -/
def kdD : Key → PyData
  | .inl i => .int i
  | .inr x => .str x
def kdT (k : List Key) : PyData := .tuple (k.map kdD)
mutual
def Rp (K : PySem.W.Frag) (S : Addr → Prop) (H : Hp) : PyData → V → Prop
  | .none, v => v = .non
  | .bool b, v => v = .bl b
  | .int i, v => v = .int i
  | .str x, v => v = .str x
  | .list ds, v => ∃ a xs, v = .ref a ∧ LsAt K S H a xs ∧ RpA K S H ds xs
  | .tuple ds, v => ∃ a xs, v = .ref a ∧ H a = some (.tup xs) ∧ RpA K S H ds xs
  | .dict kvs, v => ∃ a od, v = .ref a ∧ ((∃ ws, H a = some (.frz od (.dT ws)) ∧ RpD K S H (List Key) kdT kvs ws) ∨ ∃ ws, H a = some (.frz od (.dK ws)) ∧ RpD K S H Key kdD kvs ws)
def RpA (K : PySem.W.Frag) (S : Addr → Prop) (H : Hp) : List PyData → List V → Prop
  | [], vs => vs = []
  | d :: ds, vs => ∃ v r, vs = v :: r ∧ Rp K S H d v ∧ RpA K S H ds r
def RpD (K : PySem.W.Frag) (S : Addr → Prop) (H : Hp) (κ : Type) (kd : κ → PyData) : List (PyData × PyData) → List (κ × V) → Prop
  | [], vs => vs = []
  | (k, d) :: ds, vs => ∃ q v r, vs = (q, v) :: r ∧ k = kd q ∧ Rp K S H d v ∧ RpD K S H κ kd ds r
end
section
variable {K : PySem.W.Frag} {S S' : Addr → Prop} {H H' : Hp}
mutual
theorem Rp.mono (hL : ∀ a xs, S a → Rd H a (.lst xs) → S' a ∧ Rd H' a (.lst xs)) (hT : ∀ a xs, H a = some (.tup xs) → H' a = some (.tup xs)) (hD : ∀ a u, fz u = true → H a = some u → H' a = some u) : ∀ (d : PyData) (v : V), Rp K S H d v → Rp K S' H' d v
  | .none, _, h => by rw [Rp] at h ⊢; exact h
  | .bool _, _, h => by rw [Rp] at h ⊢; exact h
  | .int _, _, h => by rw [Rp] at h ⊢; exact h
  | .str _, _, h => by rw [Rp] at h ⊢; exact h
  | .list ds, _, h => by
    rw [Rp] at h ⊢
    obtain ⟨a, xs, e, q, r⟩ := h
    exact ⟨a, xs, e, q.imp (fun z => hL a xs z.1 z.2) id, RpA.mono hL hT hD ds xs r⟩
  | .tuple ds, _, h => by
    rw [Rp] at h ⊢
    obtain ⟨a, xs, e, q, r⟩ := h
    exact ⟨a, xs, e, hT a xs q, RpA.mono hL hT hD ds xs r⟩
  | .dict kvs, _, h => by
    rw [Rp] at h ⊢
    obtain ⟨a, od, e, q⟩ := h
    refine ⟨a, od, e, ?_⟩
    rcases q with ⟨ws, q, r⟩ | ⟨ws, q, r⟩
    · exact .inl ⟨ws, hD _ _ rfl q, RpD.mono hL hT hD _ _ kvs ws r⟩
    · exact .inr ⟨ws, hD _ _ rfl q, RpD.mono hL hT hD _ _ kvs ws r⟩
theorem RpA.mono (hL : ∀ a xs, S a → Rd H a (.lst xs) → S' a ∧ Rd H' a (.lst xs)) (hT : ∀ a xs, H a = some (.tup xs) → H' a = some (.tup xs)) (hD : ∀ a u, fz u = true → H a = some u → H' a = some u) : ∀ (ds : List PyData) (vs : List V), RpA K S H ds vs → RpA K S' H' ds vs
  | [], _, h => by rw [RpA] at h ⊢; exact h
  | d :: ds, _, h => by
    rw [RpA] at h ⊢
    obtain ⟨v, r, e, h1, h2⟩ := h
    exact ⟨v, r, e, Rp.mono hL hT hD d v h1, RpA.mono hL hT hD ds r h2⟩
theorem RpD.mono (hL : ∀ a xs, S a → Rd H a (.lst xs) → S' a ∧ Rd H' a (.lst xs)) (hT : ∀ a xs, H a = some (.tup xs) → H' a = some (.tup xs)) (hD : ∀ a u, fz u = true → H a = some u → H' a = some u) (κ : Type) (kd : κ → PyData) : ∀ (ds : List (PyData × PyData)) (vs : List (κ × V)), RpD K S H κ kd ds vs → RpD K S' H' κ kd ds vs
  | [], _, h => by rw [RpD] at h ⊢; exact h
  | (k, d) :: ds, _, h => by
    rw [RpD] at h ⊢
    obtain ⟨q, v, r, e, ek, h1, h2⟩ := h
    exact ⟨q, v, r, e, ek, Rp.mono hL hT hD d v h1, RpD.mono hL hT hD κ kd ds r h2⟩
end
theorem same_d (e : Same H H') : ∀ a u, fz u = true → H a = some u → H' a = some u := fun a u _ h => e _ _ h
theorem same_rd {a : Addr} {u : HO} (e : Same H H') (h : Rd H a u) : Rd H' a u := by
  rcases h with h | ⟨o, h⟩
  · exact .inl (e _ _ h)
  · exact .inr ⟨o, e _ _ h⟩
theorem same_t {a : Addr} {xs : List V} (e : Same H H') (h : H a = some (.tup xs)) : H' a = some (.tup xs) := e _ _ h
theorem live_t {a : Addr} {xs : List V} (h : H a = some (.tup xs)) : SqT K H a xs := .inl (.inl h)
theorem Rp.grow (e : Same H H') {d : PyData} {v : V} (h : Rp K S H d v) : Rp K S H' d v := Rp.mono (fun _ _ s q => ⟨s, same_rd e q⟩) (fun _ _ q => same_t e q) (same_d e) d v h
theorem RpA.grow (e : Same H H') {ds : List PyData} {vs : List V} (h : RpA K S H ds vs) : RpA K S H' ds vs := RpA.mono (fun _ _ s q => ⟨s, same_rd e q⟩) (fun _ _ q => same_t e q) (same_d e) ds vs h
theorem RpD.grow (e : Same H H') {κ : Type} {kd : κ → PyData} {ds : List (PyData × PyData)} {vs : List (κ × V)} (h : RpD K S H κ kd ds vs) : RpD K S H' κ kd ds vs := RpD.mono (fun _ _ s q => ⟨s, same_rd e q⟩) (fun _ _ q => same_t e q) (same_d e) κ kd ds vs h
theorem Rp.wide (w : ∀ a, S a → S' a) {d : PyData} {v : V} (h : Rp K S H d v) : Rp K S' H d v := Rp.mono (fun _ _ s q => ⟨w _ s, q⟩) (fun _ _ q => q) (fun _ _ _ q => q) d v h
theorem RpA.wide (w : ∀ a, S a → S' a) {ds : List PyData} {vs : List V} (h : RpA K S H ds vs) : RpA K S' H ds vs := RpA.mono (fun _ _ s q => ⟨w _ s, q⟩) (fun _ _ q => q) (fun _ _ _ q => q) ds vs h
theorem RpD.wide (w : ∀ a, S a → S' a) {κ : Type} {kd : κ → PyData} {ds : List (PyData × PyData)} {vs : List (κ × V)} (h : RpD K S H κ kd ds vs) : RpD K S' H κ kd ds vs := RpD.mono (fun _ _ s q => ⟨w _ s, q⟩) (fun _ _ q => q) (fun _ _ _ q => q) κ kd ds vs h
theorem RpA.length : ∀ {ds : List PyData} {vs : List V}, RpA K S H ds vs → vs.length = ds.length
  | [], _, h => by rw [RpA] at h; rw [h]; rfl
  | d :: ds, _, h => by
    rw [RpA] at h
    obtain ⟨v, r, e, _, h2⟩ := h
    rw [e, List.length_cons, List.length_cons, RpA.length h2]
theorem RpA.get : ∀ {ds : List PyData} {vs : List V} {i : Nat} {d : PyData}, RpA K S H ds vs → ds[i]? = some d → ∃ v, vs[i]? = some v ∧ Rp K S H d v
  | [], _, _, _, _, e => by simp at e
  | d :: ds, _, 0, d', h, e => by
    rw [RpA] at h
    obtain ⟨v, r, rfl, h1, _⟩ := h
    simp at e
    subst e
    exact ⟨v, rfl, h1⟩
  | d :: ds, _, i + 1, d', h, e => by
    rw [RpA] at h
    obtain ⟨v, r, rfl, _, h2⟩ := h
    obtain ⟨u, e1, e2⟩ := RpA.get (i := i) (d := d') h2 (by simpa using e)
    exact ⟨u, by simpa using e1, e2⟩
theorem RpA.append : ∀ {ds es : List PyData} {vs us : List V}, RpA K S H ds vs → RpA K S H es us → RpA K S H (ds ++ es) (vs ++ us)
  | [], _, _, _, h, g => by rw [RpA] at h; subst h; exact g
  | d :: ds, _, _, _, h, g => by
    rw [RpA] at h
    obtain ⟨v, r, rfl, h1, h2⟩ := h
    show RpA K S H (d :: (ds ++ _)) (v :: (r ++ _))
    rw [RpA]
    exact ⟨v, _, rfl, h1, RpA.append h2 g⟩
theorem RpA.nil : RpA K S H [] [] := by rw [RpA]
theorem RpA.cons {d : PyData} {v : V} {ds : List PyData} {vs : List V} (h : Rp K S H d v) (g : RpA K S H ds vs) : RpA K S H (d :: ds) (v :: vs) := by
  rw [RpA]
  exact ⟨v, vs, rfl, h, g⟩
theorem RpA.set : ∀ {ds : List PyData} {vs : List V} {i : Nat} {d : PyData} {v : V}, RpA K S H ds vs → Rp K S H d v → RpA K S H (ds.set i d) (vs.set i v)
  | [], _, _, _, _, h, _ => by rw [RpA] at h; subst h; exact RpA.nil
  | e :: ds, _, 0, d', v', h, g => by
    rw [RpA] at h
    obtain ⟨v, r, rfl, h1, h2⟩ := h
    exact RpA.cons g h2
  | e :: ds, _, i + 1, d', v', h, g => by
    rw [RpA] at h
    obtain ⟨v, r, rfl, h1, h2⟩ := h
    exact RpA.cons h1 (RpA.set h2 g)
theorem RpA.take : ∀ {ds : List PyData} {vs : List V} (n : Nat), RpA K S H ds vs → RpA K S H (ds.take n) (vs.take n)
  | _, _, 0, _ => by simpa using RpA.nil
  | [], _, n + 1, h => by rw [RpA] at h; subst h; exact RpA.nil
  | e :: ds, _, n + 1, h => by
    rw [RpA] at h
    obtain ⟨v, r, rfl, h1, h2⟩ := h
    exact RpA.cons h1 (RpA.take n h2)
theorem RpA.drop : ∀ {ds : List PyData} {vs : List V} (n : Nat), RpA K S H ds vs → RpA K S H (ds.drop n) (vs.drop n)
  | _, _, 0, h => by simpa using h
  | [], _, n + 1, h => by rw [RpA] at h; subst h; exact RpA.nil
  | e :: ds, _, n + 1, h => by
    rw [RpA] at h
    obtain ⟨v, r, rfl, h1, h2⟩ := h
    exact RpA.drop n h2
mutual
/-- no dict in it -/
def noD : PyData → Bool
  | .list ds => noDA ds
  | .tuple ds => noDA ds
  | .dict _ => false
  | .none => true
  | .bool _ => true
  | .int _ => true
  | .str _ => true
def noDA : List PyData → Bool
  | [] => true
  | d :: ds => noD d && noDA ds
end
mutual
theorem Rp.dp0 : ∀ (d : PyData) (v : V), noD d = true → Rp K S H d v → Dp K H v d
  | .none, _, _, h => by rw [Rp] at h; subst h; exact .non
  | .bool b, _, _, h => by rw [Rp] at h; subst h; exact .bl b
  | .int i, _, _, h => by rw [Rp] at h; subst h; exact .int i
  | .str x, _, _, h => by rw [Rp] at h; subst h; exact .str x
  | .list ds, _, n, h => by
    rw [Rp] at h
    rw [noD] at n
    obtain ⟨a, xs, rfl, q, r⟩ := h
    exact .lst q.sq (RpA.dp0 ds xs n r)
  | .tuple ds, _, n, h => by
    rw [Rp] at h
    rw [noD] at n
    obtain ⟨a, xs, rfl, q, r⟩ := h
    exact .tup (live_t q) (RpA.dp0 ds xs n r)
  | .dict _, _, n, _ => by rw [noD] at n; cases n
theorem RpA.dp0 : ∀ (ds : List PyData) (vs : List V), noDA ds = true → RpA K S H ds vs → DpAll K H vs ds
  | [], _, _, h => by rw [RpA] at h; subst h; exact .nil
  | d :: ds, _, n, h => by
    rw [RpA] at h
    rw [noDA, Bool.and_eq_true] at n
    obtain ⟨v, r, rfl, h1, h2⟩ := h
    exact .cons (Rp.dp0 d v n.1 h1) (RpA.dp0 ds r n.2 h2)
end
mutual
theorem noD_lay : ∀ d : PyData, d.canLay0 = true → noD d = true
  | .none, _ => by rw [noD]
  | .bool _, _ => by rw [noD]
  | .int _, _ => by rw [noD]
  | .str _, _ => by rw [noD]
  | .list ds, h => by rw [noD]; exact noDA_lay ds (by simpa [PyData.canLay0] using h)
  | .tuple ds, h => by rw [noD]; exact noDA_lay ds (by simpa [PyData.canLay0] using h)
  | .dict _, h => by simp [PyData.canLay0] at h
theorem noDA_lay : ∀ ds : List PyData, PyData.canLayAll0 ds = true → noDA ds = true
  | [], _ => by rw [noDA]
  | d :: ds, h => by
    simp only [PyData.canLayAll0, Bool.and_eq_true] at h
    rw [noDA, noD_lay d h.1, noDA_lay ds h.2]; rfl
end
theorem Rp.dp {d : PyData} {v : V} (h : Rp K S H d v) (s : SeqAt.shaped d = true) : Dp K H v d := Rp.dp0 d v (noD_lay d (by
  unfold SeqAt.shaped at s
  rw [Bool.and_eq_true] at s
  exact s.1)) h
/-! data without lists -/
mutual
def noL : PyData → Bool
  | .list _ => false
  | .tuple ds => noLA ds
  | .dict _ => false
  | .none => true
  | .bool _ => true
  | .int _ => true
  | .str _ => true
def noLA : List PyData → Bool
  | [] => true
  | d :: ds => noL d && noLA ds
end
mutual
theorem Rp.noL : ∀ (d : PyData) (v : V), noL d = true → Rp K S H d v → Rp K S' H d v
  | .none, _, _, h => by rw [Rp] at h ⊢; exact h
  | .bool _, _, _, h => by rw [Rp] at h ⊢; exact h
  | .int _, _, _, h => by rw [Rp] at h ⊢; exact h
  | .str _, _, _, h => by rw [Rp] at h ⊢; exact h
  | .list ds, _, n, _ => by rw [Mir.noL] at n; cases n
  | .tuple ds, _, n, h => by
    rw [Rp] at h ⊢
    rw [Mir.noL] at n
    obtain ⟨a, xs, e, q, r⟩ := h
    exact ⟨a, xs, e, q, RpA.noL ds xs n r⟩
  | .dict _, _, n, _ => by rw [Mir.noL] at n; cases n
theorem RpA.noL : ∀ (ds : List PyData) (vs : List V), noLA ds = true → RpA K S H ds vs → RpA K S' H ds vs
  | [], _, _, h => by rw [RpA] at h ⊢; exact h
  | d :: ds, _, n, h => by
    rw [RpA] at h ⊢
    rw [noLA, Bool.and_eq_true] at n
    obtain ⟨v, r, e, h1, h2⟩ := h
    exact ⟨v, r, e, Rp.noL d v n.1 h1, RpA.noL ds r n.2 h2⟩
end
end

/-! ### the environment -/
inductive Sl where
  | un
  | val (d : PyData)
  | own (ds : List PyData)
  | ownT (kvs : List (PyData × PyData))
  | ownK (kvs : List (PyData × PyData))
  | exc (a dd : Addr) (d : PyData)
  | fn (a : Addr)
def ow : Sl → Bool
  | .own _ => true
  | .ownT _ => true
  | .ownK _ => true
  | _ => false
def isMut : HO → Bool
  | .lst _ => true
  | .dT _ => true
  | .dK _ => true
  | _ => false
abbrev En := List Sl
def Bd (S0 : Addr → Prop) (H0 : Hp) : Addr → Prop := fun a => S0 a ∨ H0 a = none
def Cl (S0 : Addr → Prop) (H0 : Hp) (A : Addr → Prop) : Addr → Prop := fun a => Bd S0 H0 a ∧ ¬ A a
def SC (c : Bool) (S0 : Addr → Prop) (H0 : Hp) (A : Addr → Prop) : Addr → Prop := fun a => c = true → Cl S0 H0 A a
def SlOk (K : PySem.W.Frag) (S A : Addr → Prop) (H : Hp) : Sl → V → Prop
  | .un, _ => True
  | .val d, v => Rp K S H d v
  | .own ds, v => ∃ a xs, v = .ref a ∧ A a ∧ H a = some (.lst xs) ∧ RpA K S H ds xs
  | .ownT kvs, v => ∃ a ws, v = .ref a ∧ A a ∧ H a = some (.dT ws) ∧ RpD K S H (List Key) kdT kvs ws
  | .ownK kvs, v => ∃ a ws, v = .ref a ∧ A a ∧ H a = some (.dK ws) ∧ RpD K S H Key kdD kvs ws
  | .exc a dd d, v => v = .ref a ∧ ∃ u, H dd = some (.xd [(("what" : Str), u)]) ∧ Rp K S H d u
  | .fn a, v => v = .ref a
structure EnvOk (K : PySem.W.Frag) (S0 : Addr → Prop) (H0 : Hp) (A : Addr → Prop) (H : Hp) (σ : L2.St) (env : En) : Prop where
  len : σ.length = env.length
  sl : ∀ (i : Nat) (s : Sl), env[i]? = some s → s = .un ∨ ∃ v, σ[i]? = some (some v) ∧ SlOk K (Cl S0 H0 A) A H s v
  dis : ∀ (i j : Nat) (s t : Sl) (a : Addr), env[i]? = some s → env[j]? = some t → ow s = true → ow t = true → σ[i]? = some (some (.ref a)) → σ[j]? = some (some (.ref a)) → i = j
  tr : ∀ a, A a → ∃ u, H a = some u ∧ isMut u = true
  nw : ∀ a, A a → H0 a = none
  same : Same H0 H
def Fr (A : Addr → Prop) (H H' : Hp) : Prop := ∀ a o, H a = some o → ¬ A a → H' a = some o
def Sb (A : Addr → Prop) (H : Hp) (A' : Addr → Prop) : Prop := ∀ a, A' a → A a ∨ H a = none
section
variable {K : PySem.W.Frag} {S0 S : Addr → Prop} {H0 H H' H'' : Hp} {A A' A'' : Addr → Prop} {σ : L2.St} {env : En}
theorem Fr.of_same (e : Same H H') : Fr A H H' := fun a o h _ => e a o h
theorem Fr.refl : Fr A H H := fun _ _ h _ => h
theorem Sb.refl : Sb A H A := fun _ h => .inl h
theorem Fr.trans (h1 : Fr A H H') (s1 : Sb A H A') (h2 : Fr A' H' H'') : Fr A H H'' := fun a o h n => h2 a o (h1 a o h n) fun z => by
  rcases s1 a z with q | q
  · exact n q
  · rw [h] at q; cases q
theorem Sb.trans (h1 : Fr A H H') (s1 : Sb A H A') (s2 : Sb A' H' A'') : Sb A H A'' := fun a z => by
  rcases s2 a z with q | q
  · exact s1 a q
  · cases e : H a with
    | none => exact .inr rfl
    | some o =>
      by_cases n : A a
      · exact .inl n
      · rw [h1 a o e n] at q; cases q
theorem fz_mut {u : HO} (h : fz u = true) (m : isMut u = true) : False := by
  cases u <;> first | (cases h; done) | (cases m; done)
theorem EnvOk.no_frz (E : EnvOk K S0 H0 A H σ env) {a : Addr} {u : HO} (z : fz u = true) (ha : A a) (h : H a = some u) : False := by
  obtain ⟨w, e, m⟩ := E.tr a ha
  rw [h] at e; cases e; exact fz_mut z m
theorem EnvOk.no_tup (E : EnvOk K S0 H0 A H σ env) {a : Addr} {xs : List V} (ha : A a) (h : H a = some (.tup xs)) : False := by
  obtain ⟨w, e, m⟩ := E.tr a ha
  rw [h] at e; cases e; cases m
theorem cl_new (E : EnvOk K S0 H0 A H σ env) {p : Addr} (h : H p = none) : Cl S0 H0 A p := by
  refine ⟨.inr (E.same.free h), fun z => ?_⟩
  obtain ⟨u, q, _⟩ := E.tr p z
  rw [h] at q; cases q
theorem sc_new (E : EnvOk K S0 H0 A H σ env) {c : Bool} {p : Addr} (h : H p = none) : SC c S0 H0 A p := fun _ => cl_new E h
theorem SlOk.mono {S' : Addr → Prop} (hL : ∀ a xs, S a → Rd H a (.lst xs) → S' a ∧ Rd H' a (.lst xs)) (hT : ∀ a xs, H a = some (.tup xs) → H' a = some (.tup xs)) (hD : ∀ a u, fz u = true → H a = some u → H' a = some u) (hA : ∀ a u, A a → H a = some u → isMut u = true → A' a ∧ H' a = some u) {s : Sl} {v : V} (h : SlOk K S A H s v) : SlOk K S' A' H' s v := by
  cases s with
  | un => trivial
  | val d => exact Rp.mono hL hT hD d v h
  | own ds =>
    obtain ⟨a, xs, e1, ha, hh, r⟩ := h
    obtain ⟨k1, k2⟩ := hA a _ ha hh rfl
    exact ⟨a, xs, e1, k1, k2, RpA.mono hL hT hD _ _ r⟩
  | ownT ds =>
    obtain ⟨a, xs, e1, ha, hh, r⟩ := h
    obtain ⟨k1, k2⟩ := hA a _ ha hh rfl
    exact ⟨a, xs, e1, k1, k2, RpD.mono hL hT hD _ _ _ _ r⟩
  | ownK ds =>
    obtain ⟨a, xs, e1, ha, hh, r⟩ := h
    obtain ⟨k1, k2⟩ := hA a _ ha hh rfl
    exact ⟨a, xs, e1, k1, k2, RpD.mono hL hT hD _ _ _ _ r⟩
  | exc a dd d =>
    obtain ⟨e1, u, hh, r⟩ := h
    exact ⟨e1, u, hD _ _ rfl hh, Rp.mono hL hT hD _ _ r⟩
  | fn a => exact h
/-- but for one place, that this slot does not stand at -/
theorem SlOk.at {S' : Addr → Prop} {p : Addr} (hL : ∀ a xs, S a → Rd H a (.lst xs) → S' a ∧ Rd H' a (.lst xs)) (hT : ∀ a xs, H a = some (.tup xs) → H' a = some (.tup xs)) (hD : ∀ a u, fz u = true → H a = some u → H' a = some u) (hA : ∀ a u, A a → H a = some u → isMut u = true → a ≠ p → A' a ∧ H' a = some u) {s : Sl} {v : V} (hp : ow s = true → v ≠ .ref p) (h : SlOk K S A H s v) : SlOk K S' A' H' s v := by
  cases s with
  | un => trivial
  | val d => exact Rp.mono hL hT hD d v h
  | own ds =>
    obtain ⟨a, xs, rfl, ha, hh, r⟩ := h
    obtain ⟨k1, k2⟩ := hA a _ ha hh rfl fun e => hp rfl (by rw [e])
    exact ⟨a, xs, rfl, k1, k2, RpA.mono hL hT hD _ _ r⟩
  | ownT ds =>
    obtain ⟨a, xs, rfl, ha, hh, r⟩ := h
    obtain ⟨k1, k2⟩ := hA a _ ha hh rfl fun e => hp rfl (by rw [e])
    exact ⟨a, xs, rfl, k1, k2, RpD.mono hL hT hD _ _ _ _ r⟩
  | ownK ds =>
    obtain ⟨a, xs, rfl, ha, hh, r⟩ := h
    obtain ⟨k1, k2⟩ := hA a _ ha hh rfl fun e => hp rfl (by rw [e])
    exact ⟨a, xs, rfl, k1, k2, RpD.mono hL hT hD _ _ _ _ r⟩
  | exc a dd d =>
    obtain ⟨e1, u, hh, r⟩ := h
    exact ⟨e1, u, hD _ _ rfl hh, Rp.mono hL hT hD _ _ r⟩
  | fn a => exact h
theorem SlOk.ref {s : Sl} {v : V} (o : ow s = true) (h : SlOk K S A H s v) : ∃ a u, v = .ref a ∧ A a ∧ H a = some u ∧ isMut u = true := by
  cases s with
  | un => cases o
  | val _ => cases o
  | own ds => obtain ⟨a, xs, e1, ha, hh, _⟩ := h; exact ⟨a, _, e1, ha, hh, rfl⟩
  | ownT ds => obtain ⟨a, xs, e1, ha, hh, _⟩ := h; exact ⟨a, _, e1, ha, hh, rfl⟩
  | ownK ds => obtain ⟨a, xs, e1, ha, hh, _⟩ := h; exact ⟨a, _, e1, ha, hh, rfl⟩
  | exc _ _ _ => cases o
  | fn _ => cases o
theorem SlOk.grow (e : Same H H') {s : Sl} {v : V} (h : SlOk K S A H s v) : SlOk K S A H' s v := SlOk.mono (fun _ _ s q => ⟨s, same_rd e q⟩) (fun _ _ q => same_t e q) (same_d e) (fun a u ha hu _ => ⟨ha, e _ _ hu⟩) h
theorem EnvOk.grow (E : EnvOk K S0 H0 A H σ env) (e : Same H H') : EnvOk K S0 H0 A H' σ env where
  len := E.len
  sl := fun i s h => (E.sl i s h).imp id fun ⟨v, h1, h2⟩ => ⟨v, h1, h2.grow e⟩
  dis := E.dis
  tr := fun a h => let ⟨u, q, m⟩ := E.tr a h; ⟨u, e _ _ q, m⟩
  nw := E.nw
  same := E.same.trans e
theorem set_get {α : Type} {l : List α} {i j : Nat} {x y : α} (h : (l.set i x)[j]? = some y) : (i = j ∧ j < l.length ∧ y = x) ∨ (i ≠ j ∧ l[j]? = some y) := by
  rw [List.getElem?_set] at h
  by_cases e : i = j
  · rw [if_pos e] at h
    by_cases q : i < l.length
    · rw [if_pos q] at h
      exact .inl ⟨e, e ▸ q, (Option.some.inj h).symm⟩
    · rw [if_neg q] at h; cases h
  · rw [if_neg e] at h
    exact .inr ⟨e, h⟩
theorem set_self {α : Type} {l : List α} {i : Nat} {x : α} (h : i < l.length) : (l.set i x)[i]? = some x := by simp [h]
theorem set_other {α : Type} {l : List α} {i j : Nat} {x : α} (h : i ≠ j) : (l.set i x)[j]? = l[j]? := by simp [List.getElem?_set, h]
theorem EnvOk.set_val (E : EnvOk K S0 H0 A H σ env) {i : Nat} {d : PyData} {v : V} (h : Rp K (Cl S0 H0 A) H d v) : EnvOk K S0 H0 A H (σ.set i (some v)) (env.set i (.val d)) where
  len := by simp [E.len]
  sl := fun j s q => by
    rcases set_get q with ⟨rfl, l, rfl⟩ | ⟨n, q⟩
    · exact .inr ⟨v, set_self (by rw [E.len]; exact l), h⟩
    · rw [set_other n]
      exact E.sl j s q
  dis := fun j k s t a q1 q2 o1 o2 q3 q4 => by
    rcases set_get q1 with ⟨_, _, z⟩ | ⟨n1, q1⟩
    · subst z; cases o1
    rcases set_get q2 with ⟨_, _, z⟩ | ⟨n2, q2⟩
    · subst z; cases o2
    rw [set_other n1] at q3
    rw [set_other n2] at q4
    exact E.dis j k s t a q1 q2 o1 o2 q3 q4
  tr := E.tr
  nw := E.nw
  same := E.same
/-- a fresh thing is kept by the slot i alone -/
theorem EnvOk.set_new (E : EnvOk K S0 H0 A H σ env) {i : Nat} {s0 : Sl} {u0 : HO} {p : Addr} (hs : Same H H') (hn : H p = none) (hp : H' p = some u0) (hm : isMut u0 = true) (ho : ow s0 = true) (h : SlOk K (fun a => Cl S0 H0 A a ∧ a ≠ p) (fun a => A a ∨ a = p) H' s0 (.ref p)) :
    EnvOk K S0 H0 (fun a => A a ∨ a = p) H' (σ.set i (some (.ref p))) (env.set i s0) where
  len := by simp [E.len]
  sl := fun j s q => by
    have wd : ∀ a, (Cl S0 H0 A a ∧ a ≠ p) → Cl S0 H0 (fun a => A a ∨ a = p) a := fun a z => ⟨z.1.1, fun y => y.elim z.1.2 z.2⟩
    rcases set_get q with ⟨rfl, l, rfl⟩ | ⟨n, q⟩
    · exact .inr ⟨_, set_self (by rw [E.len]; exact l), SlOk.mono (fun a xs z r => ⟨wd a z, r⟩) (fun _ _ z => z) (fun _ _ _ z => z) (fun _ _ z y _ => ⟨z, y⟩) h⟩
    · rw [set_other n]
      refine (E.sl j s q).imp id fun ⟨v, h1, h2⟩ => ⟨v, h1, ?_⟩
      have hL : ∀ a ys, Cl S0 H0 A a → Rd H a (.lst ys) → Cl S0 H0 (fun a => A a ∨ a = p) a ∧ Rd H' a (.lst ys) := fun a ys z r => ⟨wd a ⟨z, fun e => by
        subst e
        rcases r with r | ⟨o, r⟩ <;> (rw [hn] at r; cases r)⟩, same_rd hs r⟩
      exact SlOk.mono hL (fun _ _ z => same_t hs z) (same_d hs) (fun a u ha hu _ => ⟨.inl ha, hs _ _ hu⟩) h2
  dis := fun j k s t a q1 q2 o1 o2 q3 q4 => by
    have no : ∀ (m : Nat) (g : Sl), env[m]? = some g → ow g = true → σ[m]? ≠ some (some (.ref p)) := fun m g g1 og g2 => by
      rcases E.sl m _ g1 with z | ⟨v, z1, z2⟩
      · subst z; cases og
      · rw [g2] at z1
        cases z1
        obtain ⟨a, u, e, ha, hu, _⟩ := z2.ref og
        cases e
        rw [hn] at hu; cases hu
    rcases set_get q1 with ⟨rfl, l1, z⟩ | ⟨n1, q1⟩
    · rcases set_get q2 with ⟨e2, l2, z2⟩ | ⟨n2, q2⟩
      · exact e2
      · rw [set_self (by rw [E.len]; exact l1)] at q3
        cases q3
        rw [set_other n2] at q4
        exact absurd q4 (no k _ q2 o2)
    · rw [set_other n1] at q3
      rcases set_get q2 with ⟨rfl, l2, z2⟩ | ⟨n2, q2⟩
      · rw [set_self (by rw [E.len]; exact l2)] at q4
        cases q4
        exact absurd q3 (no j _ q1 o1)
      · rw [set_other n2] at q4
        exact E.dis j k s t a q1 q2 o1 o2 q3 q4
  tr := fun a h => by
    rcases h with h | rfl
    · obtain ⟨u, q, m⟩ := E.tr a h
      exact ⟨u, hs _ _ q, m⟩
    · exact ⟨u0, hp, hm⟩
  nw := fun a h => by
    rcases h with h | rfl
    · exact E.nw a h
    · exact E.same.free hn
  same := E.same.trans hs
/-- a fresh list is kept by the slot i alone -/
theorem EnvOk.set_own (E : EnvOk K S0 H0 A H σ env) {i : Nat} {ds : List PyData} {xs : List V} {p : Addr} (hs : Same H H') (hn : H p = none) (hp : H' p = some (.lst xs)) (h : RpA K (fun a => Cl S0 H0 A a ∧ a ≠ p) H' ds xs) :
    EnvOk K S0 H0 (fun a => A a ∨ a = p) H' (σ.set i (some (.ref p))) (env.set i (.own ds)) := E.set_new hs hn hp rfl rfl ⟨p, xs, rfl, .inr rfl, hp, h⟩
/-- an owned thing is changed -/
theorem EnvOk.mutG (E : EnvOk K S0 H0 A H σ env) {i : Nat} {s0 s1 : Sl} {u0 u1 : HO} {a : Addr} (hi : env[i]? = some s0) (o0 : ow s0 = true) (o1 : ow s1 = true) (hv : σ[i]? = some (some (.ref a))) (ha : A a) (hp : H a = some u0) (m0 : isMut u0 = true) (m1 : isMut u1 = true)
    (h : SlOk K (Cl S0 H0 A) A (upd H a u1) s1 (.ref a)) : EnvOk K S0 H0 A (upd H a u1) σ (env.set i s1) := by
  have hL : ∀ b ys, Cl S0 H0 A b → Rd H b (.lst ys) → Cl S0 H0 A b ∧ Rd (upd H a u1) b (.lst ys) := fun b ys z r => ⟨z, by
    have n : b ≠ a := fun e => z.2 (e ▸ ha)
    rcases r with r | ⟨o, r⟩
    · exact .inl (by rw [upd_ne n]; exact r)
    · exact .inr ⟨o, by rw [upd_ne n]; exact r⟩⟩
  have nf : ∀ b u, fz u = true → H b = some u → b ≠ a := fun b u z r e => E.no_frz z ha (e ▸ r)
  have hT : ∀ b ys, H b = some (.tup ys) → upd H a u1 b = some (.tup ys) := fun b ys r => by rw [upd_ne (fun e => E.no_tup ha (e ▸ r))]; exact r
  have hD : ∀ b u, fz u = true → H b = some u → upd H a u1 b = some u := fun b u z r => by rw [upd_ne (nf _ _ z r)]; exact r
  have hl : i < env.length := by
    obtain ⟨q, _⟩ := List.getElem?_eq_some_iff.mp hi
    exact q
  refine ⟨by simp [E.len], fun j s q => ?_, fun j k s t b q1 q2 p1 p2 q3 q4 => ?_, fun b hb => ?_, E.nw, fun b o q => ?_⟩
  · rcases set_get q with ⟨rfl, l, rfl⟩ | ⟨n, q⟩
    · exact .inr ⟨_, hv, h⟩
    · refine (E.sl j s q).imp id fun ⟨v, h1, h2⟩ => ⟨v, h1, ?_⟩
      exact SlOk.at (p := a) hL hT hD (fun b u hb hu _ hn => ⟨hb, by rw [upd_ne hn]; exact hu⟩) (fun os e => n (E.dis i j s0 s a hi q o0 os hv (by rw [h1, e]))) h2
  · have back : ∀ (m : Nat) (g : Sl), (env.set i s1)[m]? = some g → ow g = true → ∃ g', env[m]? = some g' ∧ ow g' = true := fun m g q og => by
      rcases set_get q with ⟨rfl, _, _⟩ | ⟨_, q⟩
      · exact ⟨s0, hi, o0⟩
      · exact ⟨g, q, og⟩
    obtain ⟨s', r1, z1⟩ := back j s q1 p1
    obtain ⟨t', r2, z2⟩ := back k t q2 p2
    exact E.dis j k s' t' b r1 r2 z1 z2 q3 q4
  · by_cases e : b = a
    · subst e
      exact ⟨u1, upd_same, m1⟩
    · obtain ⟨u, q, m⟩ := E.tr b hb
      exact ⟨u, by rw [upd_ne e]; exact q, m⟩
  · have n : b ≠ a := fun e => by
      subst e
      have z := E.nw b ha
      rw [q] at z; cases z
    rw [upd_ne n]
    exact E.same b o q
theorem EnvOk.upd_mono (E : EnvOk K S0 H0 A H σ env) {a : Addr} {u1 : HO} (ha : A a) : (∀ b ys, Cl S0 H0 A b → Rd H b (.lst ys) → Cl S0 H0 A b ∧ Rd (upd H a u1) b (.lst ys)) ∧ (∀ b ys, H b = some (.tup ys) → upd H a u1 b = some (.tup ys)) ∧ ∀ b u, fz u = true → H b = some u → upd H a u1 b = some u := by
  have nf : ∀ b u, fz u = true → H b = some u → b ≠ a := fun b u z r e => E.no_frz z ha (e ▸ r)
  refine ⟨fun b ys z r => ⟨z, ?_⟩, fun b ys r => by rw [upd_ne (fun e => E.no_tup ha (e ▸ r))]; exact r, fun b u z r => by rw [upd_ne (nf _ _ z r)]; exact r⟩
  have n : b ≠ a := fun e => z.2 (e ▸ ha)
  rcases r with r | ⟨o, r⟩
  · exact .inl (by rw [upd_ne n]; exact r)
  · exact .inr ⟨o, by rw [upd_ne n]; exact r⟩
/-- an owned list is changed -/
theorem EnvOk.mut (E : EnvOk K S0 H0 A H σ env) {i : Nat} {ds ds' : List PyData} {xs xs' : List V} {a : Addr} (hi : env[i]? = some (.own ds)) (hv : σ[i]? = some (some (.ref a))) (ha : A a) (hp : H a = some (.lst xs)) (h : RpA K (Cl S0 H0 A) H ds' xs') :
    EnvOk K S0 H0 A (upd H a (.lst xs')) σ (env.set i (.own ds')) := by
  obtain ⟨hL, hT, hD⟩ := E.upd_mono (u1 := .lst xs') ha
  exact E.mutG hi rfl rfl hv ha hp rfl rfl ⟨a, xs', rfl, ha, upd_same, RpA.mono hL hT hD _ _ h⟩
def frz (i : Nat) (env : En) : En := match env[i]? with
  | some (.own ds) => env.set i (.val (.list ds))
  | _ => env
theorem EnvOk.frz (E : EnvOk K S0 H0 A H σ env) (i : Nat) : ∃ A', EnvOk K S0 H0 A' H σ (Mir.frz i env) ∧ ∀ a, A' a → A a := by
  unfold Mir.frz
  split
  · rename_i ds hi
    rcases E.sl i _ hi with z | ⟨v, h1, a, xs, rfl, ha, hh, r⟩
    · cases z
    have wd : ∀ b, Cl S0 H0 A b → Cl S0 H0 (fun b => A b ∧ b ≠ a) b := fun b z => ⟨z.1, fun y => z.2 y.1⟩
    refine ⟨fun b => A b ∧ b ≠ a, ⟨by simp [E.len], fun j s q => ?_, fun j k s t b q1 q2 o1 o2 q3 q4 => ?_, fun b hb => E.tr b hb.1, fun b hb => E.nw b hb.1, E.same⟩, fun _ z => z.1⟩
    · rcases set_get q with ⟨rfl, l, rfl⟩ | ⟨n, q⟩
      · refine .inr ⟨_, h1, ?_⟩
        show Rp K _ H (.list ds) _
        rw [Rp]
        exact ⟨a, xs, rfl, .inl ⟨⟨.inr (E.nw a ha), fun y => y.2 rfl⟩, .inl hh⟩, r.wide wd⟩
      · refine (E.sl j s q).imp id fun ⟨v, h2, h3⟩ => ⟨v, h2, ?_⟩
        exact SlOk.at (p := a) (fun b xs z r => ⟨wd b z, r⟩) (fun _ _ z => z) (fun _ _ _ z => z) (fun b u hb hu _ hn => ⟨⟨hb, hn⟩, hu⟩) (fun os e => n (E.dis i j _ s a hi q rfl os h1 (by rw [h2, e]))) h3
    · rcases set_get q1 with ⟨_, _, z⟩ | ⟨n1, q1⟩
      · subst z; cases o1
      rcases set_get q2 with ⟨_, _, z⟩ | ⟨n2, q2⟩
      · subst z; cases o2
      exact E.dis j k s t b q1 q2 o1 o2 q3 q4
  · exact ⟨A, E, fun _ z => z⟩
/-- a dict is let go: it is locked -/
theorem EnvOk.lockD (E : EnvOk K S0 H0 A H σ env) {i : Nat} {s0 : Sl} {d : PyData} {u0 : HO} {a : Addr} {od : Obj} (hi : env[i]? = some s0) (o0 : ow s0 = true) (hv : σ[i]? = some (some (.ref a))) (ha : A a) (hp : H a = some u0)
    (h : Rp K (Cl S0 H0 A) (upd H a (.frz od u0)) d (.ref a)) : EnvOk K S0 H0 (fun b => A b ∧ b ≠ a) (upd H a (.frz od u0)) σ (env.set i (.val d)) := by
  obtain ⟨hL, hT, hD⟩ := E.upd_mono (u1 := .frz od u0) ha
  have wd : ∀ b, Cl S0 H0 A b → Cl S0 H0 (fun b => A b ∧ b ≠ a) b := fun b z => ⟨z.1, fun y => z.2 y.1⟩
  refine ⟨by simp [E.len], fun j s q => ?_, fun j k s t b q1 q2 o1 o2 q3 q4 => ?_, fun b hb => ?_, fun b hb => E.nw b hb.1, fun b o q => ?_⟩
  · rcases set_get q with ⟨rfl, l, rfl⟩ | ⟨n, q⟩
    · exact .inr ⟨_, hv, Rp.wide wd h⟩
    · refine (E.sl j s q).imp id fun ⟨v, h2, h3⟩ => ⟨v, h2, ?_⟩
      exact SlOk.at (p := a) (fun b xs z r => ⟨wd b z, (hL b xs z r).2⟩) hT hD (fun b u hb hu _ hn => ⟨⟨hb, hn⟩, by rw [upd_ne hn]; exact hu⟩) (fun os e => n (E.dis i j _ s a hi q o0 os hv (by rw [h2, e]))) h3
  · rcases set_get q1 with ⟨_, _, z⟩ | ⟨n1, q1⟩
    · subst z; cases o1
    rcases set_get q2 with ⟨_, _, z⟩ | ⟨n2, q2⟩
    · subst z; cases o2
    exact E.dis j k s t b q1 q2 o1 o2 q3 q4
  · obtain ⟨u, q, m⟩ := E.tr b hb.1
    exact ⟨u, by rw [upd_ne hb.2]; exact q, m⟩
  · have n : b ≠ a := fun e => by
      subst e
      have z := E.nw b ha
      rw [q] at z; cases z
    rw [upd_ne n]
    exact E.same b o q
end
end Mir

namespace Mir
open PySem PySem.Spec PyProof.Rows L2

/-! ### readings -/
def tE (K : PySem.W.Frag) (c : Bool) (f : En → Option PyData) : TE := fun σ H Q => ∃ S0 H0 A env d, EnvOk K S0 H0 A H σ env ∧ f env = some d ∧ ∀ v H', Same H H' → Rp K (SC c S0 H0 A) H' d v → Q v H'
/-- a fresh list -/
def tF (K : PySem.W.Frag) (c : Bool) (f : En → Option (List PyData)) : TE := fun σ H Q => ∃ S0 H0 A env ds, EnvOk K S0 H0 A H σ env ∧ f env = some ds ∧ ∀ p xs H', H p = none → Same H H' → H' p = some (.lst xs) → RpA K (fun a => SC c S0 H0 A a ∧ a ≠ p) H' ds xs → Q (.ref p) H'
def tT (K : PySem.W.Frag) (f : En → Option Bool) : TT := fun σ H Q => ∃ S0 H0 A env b, EnvOk K S0 H0 A H σ env ∧ f env = some b ∧ ∀ H', Same H H' → Q b H'
def tA (K : PySem.W.Frag) (c : Bool) (f : En → Option (List PyData)) : TA := fun σ H Q => ∃ S0 H0 A env ds, EnvOk K S0 H0 A H σ env ∧ f env = some ds ∧ ∀ vs H', Same H H' → RpA K (SC c S0 H0 A) H' ds vs → Q vs H'
/-- a target: touches the slots vs alone -/
def tG (K : PySem.W.Frag) (vs : List Nat) (g : PyData → En → Option En) : TG := fun v σ H Q => ∃ S0 H0 A env d env', EnvOk K S0 H0 A H σ env ∧ Rp K (Cl S0 H0 A) H d v ∧ g d env = some env' ∧ ∀ σ', EnvOk K S0 H0 A H σ' env' → wipe σ' vs = wipe σ vs → Q σ' H

inductive Out where
  | nx (e : En)
  | bk (e : En)
  | ct (e : En)
  | rt (d : PyData)
  | bad
def OutOk (K : PySem.W.Frag) (S0 : Addr → Prop) (H0 : Hp) (A : Addr → Prop) (H : Hp) (o : Out) (D : Ends) : Prop := match o with
  | .nx e => ∀ A' H' σ', EnvOk K S0 H0 A' H' σ' e → Fr A H H' → Sb A H A' → D.nx σ' H'
  | .bk e => ∀ A' H' σ', EnvOk K S0 H0 A' H' σ' e → Fr A H H' → Sb A H A' → D.bk σ' H'
  | .ct e => ∀ A' H' σ', EnvOk K S0 H0 A' H' σ' e → Fr A H H' → Sb A H A' → D.ct σ' H'
  | .rt d => ∀ v H', Same H0 H' → Rp K (Bd S0 H0) H' d v → D.rt v H'
  | .bad => False
def tS (K : PySem.W.Frag) (f : En → Out) : TS := fun D σ H => ∃ S0 H0 A env, EnvOk K S0 H0 A H σ env ∧ OutOk K S0 H0 A H (f env) D

section
variable {K : PySem.W.Frag} {S0 S : Addr → Prop} {H0 H H' H'' : Hp} {A A' A'' : Addr → Prop} {σ : L2.St} {env : En} {D : Ends}
theorem OutOk.step {o : Out} (h : OutOk K S0 H0 A H o D) (f : Fr A H H') (s : Sb A H A') : OutOk K S0 H0 A' H' o D := by
  cases o with
  | nx e => exact fun A2 H2 σ2 E f2 s2 => h A2 H2 σ2 E (f.trans s f2) (Sb.trans f s s2)
  | bk e => exact fun A2 H2 σ2 E f2 s2 => h A2 H2 σ2 E (f.trans s f2) (Sb.trans f s s2)
  | ct e => exact fun A2 H2 σ2 E f2 s2 => h A2 H2 σ2 E (f.trans s f2) (Sb.trans f s s2)
  | rt d => exact h
  | bad => exact h
theorem sc_cl {c : Bool} {a : Addr} (h : Cl S0 H0 A a) : SC c S0 H0 A a := fun _ => h
theorem cl_sc {a : Addr} (h : SC true S0 H0 A a) : Cl S0 H0 A a := h rfl
end

section
variable {X : Cx} {a b e : Expr} {es : List Expr} {pos : Pos} {c c1 c2 : Bool} {f g : En → Option PyData} {fa : En → Option (List PyData)} {fb : En → Option Bool}
theorem pe_w {t t' : TE} (h : PE X e t) (w : ∀ σ H Q, t' σ H Q → t σ H Q) : PE X e t' := ⟨fun pins s σ H Q I q => h.run pins s σ H Q I (w σ H Q q)⟩
theorem pt_w {t t' : TT} (h : PT X e t) (w : ∀ σ H Q, t' σ H Q → t σ H Q) : PT X e t' := ⟨fun pins s σ H Q I q => h.run pins s σ H Q I (w σ H Q q)⟩
theorem pw_w {t t' : TT} (h : PW X e t) (w : ∀ σ H Q, t' σ H Q → t σ H Q) : PW X e t' := ⟨fun wh pins s σ H Q I q => h.run wh pins s σ H Q I (w σ H Q q)⟩
theorem pa_w {t t' : TA} (h : PA X es t) (w : ∀ σ H Q, t' σ H Q → t σ H Q) : PA X es t' := ⟨fun pos pins s σ H Q I q => h.run pos pins s σ H Q I (w σ H Q q)⟩
theorem ps_w {st : Stmt} {t t' : TS} (h : PS X st t) (w : ∀ D σ H, t' D σ H → t D σ H) : PS X st t' := ⟨fun pins s σ H D I q => h.run pins s σ H D I (w D σ H q)⟩
theorem pss_w {st : List Stmt} {t t' : TS} (h : PSs X st t) (w : ∀ D σ H, t' D σ H → t D σ H) : PSs X st t' := ⟨fun pins s σ H D I q => h.run pins s σ H D I (w D σ H q)⟩
theorem pg_w {tg : Expr} {t t' : TG} (h : PG X tg t) (w : ∀ v σ H Q, t' v σ H Q → t v σ H Q) : PG X tg t' := ⟨fun pins s σ H v u Q I r q => h.run pins s σ H v u Q I r (w v σ H Q q)⟩

/-- what is clean may be borrowed -/
theorem ce_b (h : PE X e (tE X.K true f)) : PE X e (tE X.K false f) := pe_w h fun σ H Q ⟨S0, H0, A, env, d, E, hf, q⟩ =>
  ⟨S0, H0, A, env, d, E, hf, fun v H' s r => q v H' s (r.wide fun _ _ z => nomatch z)⟩
theorem ca_b (h : PA X es (tA X.K true fa)) : PA X es (tA X.K false fa) := pa_w h fun σ H Q ⟨S0, H0, A, env, d, E, hf, q⟩ =>
  ⟨S0, H0, A, env, d, E, hf, fun v H' s r => q v H' s (r.wide fun _ _ z => nomatch z)⟩
/-- a fresh list as a value -/
def eL (f : En → Option (List PyData)) : En → Option PyData := fun env => (f env).map .list
theorem ce_l (h : PE X e (tF X.K c fa)) : PE X e (tE X.K c (eL fa)) := pe_w h fun σ H Q ⟨S0, H0, A, env, d, E, hf, q⟩ => by
  unfold eL at hf
  cases hd : fa env with
  | none => rw [hd] at hf; cases hf
  | some ds =>
    rw [hd] at hf
    cases hf
    refine ⟨S0, H0, A, env, ds, E, hd, fun p xs H' hn s hp r => q _ H' s ?_⟩
    rw [Rp]
    exact ⟨p, xs, rfl, .inl ⟨sc_new E hn, .inl hp⟩, r.wide fun _ z => z.1⟩
/-- a value without lists is clean -/
def eN (f : En → Option PyData) : En → Option PyData := fun env => (f env).bind fun d => if noL d = true then some d else none
theorem ce_n (h : PE X e (tE X.K false f)) : PE X e (tE X.K c (eN f)) := pe_w h fun σ H Q ⟨S0, H0, A, env, d, E, hf, q⟩ => by
  unfold eN at hf
  cases hd : f env with
  | none => rw [hd] at hf; cases hf
  | some d' =>
    rw [hd] at hf
    by_cases n : noL d' = true
    · have hf' : (if noL d' = true then some d' else none) = some d := hf
      rw [if_pos n] at hf'
      cases hf'
      exact ⟨S0, H0, A, env, d, E, hd, fun v H' s r => q v H' s (Rp.noL d v n r)⟩
    · have hf' : (if noL d' = true then some d' else none) = some d := hf
      rw [if_neg n] at hf'; cases hf'

/-! ### names, constants -/
def eVar (i : Nat) : En → Option PyData := fun env => match env[i]? with
  | some (.val d) => some d
  | _ => none
def eBor (i : Nat) : En → Option PyData := fun env => match env[i]? with
  | some (.own ds) => some (.list ds)
  | _ => none
theorem ce_var {i : Nat} (h : PE X e (tVar i)) : PE X e (tE X.K true (eVar i)) := pe_w h fun σ H Q ⟨S0, H0, A, env, d, E, hf, q⟩ => by
  unfold eVar at hf
  split at hf
  · rename_i d' hi
    cases hf
    rcases E.sl i _ hi with z | ⟨v, h1, h2⟩
    · cases z
    · exact ⟨v, h1, q v H (Same.refl H) (Rp.wide (fun _ z => sc_cl z) h2)⟩
  · cases hf
theorem ce_bor {i : Nat} (h : PE X e (tVar i)) : PE X e (tE X.K false (eBor i)) := pe_w h fun σ H Q ⟨S0, H0, A, env, d, E, hf, q⟩ => by
  unfold eBor at hf
  split at hf
  · rename_i ds hi
    cases hf
    rcases E.sl i _ hi with z | ⟨v, h1, a, xs, rfl, ha, hh, r⟩
    · cases z
    · refine ⟨_, h1, q _ H (Same.refl H) ?_⟩
      rw [Rp]
      exact ⟨a, xs, rfl, .inl ⟨(fun z => nomatch z), .inl hh⟩, r.wide fun _ _ z => nomatch z⟩
  · cases hf
def eC (d : PyData) : En → Option PyData := fun _ => some d
theorem ce_c {v : V} {d : PyData} (h : PE X e (tC v)) (r : ∀ S H, Rp X.K S H d v) : PE X e (tE X.K true (eC d)) := pe_w h fun σ H Q ⟨S0, H0, A, env, d', E, hf, q⟩ => by
  cases hf
  exact q v H (Same.refl H) (r _ _)
theorem ce_int {i : Int} {j : Nat} : PE X (.Constant (.int i) j pos) (tE X.K true (eC (.int i))) := ce_c pe_int fun _ _ => by rw [Rp]
theorem ce_bl {i : Bool} {j : Nat} : PE X (.Constant (.bool i) j pos) (tE X.K true (eC (.bool i))) := ce_c pe_bl fun _ _ => by rw [Rp]
theorem ce_non {j : Nat} : PE X (.Constant .none j pos) (tE X.K true (eC .none)) := ce_c pe_non fun _ _ => by rw [Rp]
theorem ce_str {i : Str} {j : Nat} : PE X (.Constant (.str i) j pos) (tE X.K true (eC (.str i))) := ce_c pe_str fun _ _ => by rw [Rp]

/-! ### operations on two values -/
/-- sc: the value has no lists -/
def R2Ok (K : PySem.W.Frag) (sc : Bool) (r : R2) (h : PyData → PyData → Option PyData) : Prop := ∀ (S S' : Addr → Prop) (H : Hp) (x y : V) (dx dy d : PyData) (Q : VK), (∀ p, H p = none → S p) → (sc = true ∨ S' = S) → Rp K S H dx x → Rp K S H dy y → h dx dy = some d →
  (∀ v H', Same H H' → Rp K S' H' d v → Q v H') → r x y H Q
def e2 (h : PyData → PyData → Option PyData) (f g : En → Option PyData) : En → Option PyData := fun env => match f env with
  | some x => match g env with
    | some y => h x y
    | none => none
  | none => none
theorem e2_some {h : PyData → PyData → Option PyData} {env : En} {d : PyData} (q : e2 h f g env = some d) : ∃ x y, f env = some x ∧ g env = some y ∧ h x y = some d := by
  unfold e2 at q
  split at q
  · split at q
    · exact ⟨_, _, by assumption, by assumption, q⟩
    · cases q
  · cases q
theorem e2_run {K : PySem.W.Frag} {sc : Bool} {r : R2} {h : PyData → PyData → Option PyData} (R : R2Ok K sc r h) (hc : sc = true ∨ c2 = c1) {σ : L2.St} {H : Hp} {Q : VK} (q : tE K c2 (e2 h f g) σ H Q) : tOp r (tE K c1 f) (tE K c1 g) σ H Q := by
  obtain ⟨S0, H0, A, env, d, E, hf, q⟩ := q
  obtain ⟨x, y, h1, h2, h3⟩ := e2_some hf
  refine ⟨S0, H0, A, env, x, E, h1, fun v H1 s1 r1 => ⟨S0, H0, A, env, y, E.grow s1, h2, fun u H2 s2 r2 => ?_⟩⟩
  refine R (SC c1 S0 H0 A) (SC c2 S0 H0 A) H2 v u x y d Q (fun p hp => sc_new (E.grow (s1.trans s2)) hp) (hc.imp id fun z => by rw [z]) (r1.grow s2) r2 h3 fun z H3 s3 r3 => q z H3 ((s1.trans s2).trans s3) r3
theorem ce_op {op : Operator} {r : R2} {h : PyData → PyData → Option PyData} {sc : Bool} (ho : OpR X (binaryOp op) r) (R : R2Ok X.K sc r h) (ha : PE X a (tE X.K c1 f)) (hb : PE X b (tE X.K c1 g)) (hc : sc = true ∨ c2 = c1 := by first | exact .inl rfl | exact .inr rfl) :
    PE X (.BinOp a op b pos) (tE X.K c2 (e2 h f g)) := pe_w (pe_op ho ha hb) fun _ _ _ q => e2_run R hc q
theorem ce_cmp {op : CmpOp} {r : R2} {h : PyData → PyData → Option PyData} (ho : OpR X (compareOp op) r) (R : R2Ok X.K true r h) (ha : PE X a (tE X.K c1 f)) (hb : PE X b (tE X.K c1 g)) (hm : behindInMarks op b = false) :
    PE X (.Compare a [op] [b] pos) (tE X.K true (e2 h f g)) := pe_w (pe_cmpR ho ha hb hm) fun _ _ _ q => e2_run R (.inl rfl) q
/-- a value as a test -/
def t1 (f : En → Option PyData) : En → Option Bool := fun env => match f env with
  | some (.bool b) => some b
  | _ => none
theorem t1_some {env : En} {b : Bool} (q : t1 f env = some b) : f env = some (.bool b) := by
  unfold t1 at q
  split at q
  · rename_i h
    cases q
    exact h
  · cases q
theorem t1_run {K : PySem.W.Frag} {t : TE} {σ : L2.St} {H : Hp} {Q : Bool → Hp → Prop} (ht : ∀ Q, tE K c f σ H Q → t σ H Q) (q : tT K (t1 f) σ H Q) : t σ H fun x H1 => ∃ c, x = .bl c ∧ Q c H1 := by
  obtain ⟨S0, H0, A, env, d, E, hf, q⟩ := q
  refine ht _ ⟨S0, H0, A, env, _, E, t1_some hf, fun v H' s r => ⟨d, ?_, q H' s⟩⟩
  rw [Rp] at r
  exact r
theorem ct_cmp {op : CmpOp} {r : R2} {h : PyData → PyData → Option PyData} (ho : OpR X (compareOp op) r) (R : R2Ok X.K true r h) (ha : PE X a (tE X.K c1 f)) (hb : PE X b (tE X.K c1 g)) (hm : behindInMarks op b = false) :
    PT X (.Compare a [op] [b] pos) (tT X.K (t1 (e2 h f g))) := pt_w (pt_cmpR ho ha hb hm) fun σ H Q q => t1_run (c := true) (fun Q q => e2_run R (.inl rfl) q) q
theorem ct_val (ha : PE X e (tE X.K c f)) (he : ∀ whole, isTrue e X.env whole = (do let v ← whole; standAt e.pos; holding [v] (truthy v)) := by intro _; rfl) : PT X e (tT X.K (t1 f)) := pt_w (pt_val ha he) fun σ H Q q => t1_run (fun Q q => q) q

/-! ### truth -/
def truD : PyData → Option Bool
  | .none => some false
  | .bool b => some b
  | .int i => some (i != 0)
  | .str y => if y.length ≤ 1000000 then some ((y.length : Int) != 0) else none
  | .list ds => some (!ds.isEmpty)
  | .tuple ds => some (!ds.isEmpty)
  | .dict _ => none
theorem sz6 {n : Nat} (h : n ≤ 1000000) : n ≤ sizeLine := Nat.le_trans h (by decide)
theorem rpA_empty {K : PySem.W.Frag} {S : Addr → Prop} {H : Hp} {ds : List PyData} {xs : List V} (r : RpA K S H ds xs) : (!ds.isEmpty) = !xs.isEmpty := by
  cases ds with
  | nil => rw [RpA] at r; subst r; rfl
  | cons d ds =>
    rw [RpA] at r
    obtain ⟨v, r', rfl, _⟩ := r
    rfl
theorem truD_ok {K : PySem.W.Frag} {S : Addr → Prop} {H : Hp} {d : PyData} {v : V} {b : Bool} (r : Rp K S H d v) (h : truD d = some b) : TruV K v H b := by
  cases d with
  | none => rw [Rp] at r; subst r; cases h; rfl
  | bool k => rw [Rp] at r; subst r; cases h; rfl
  | int k => rw [Rp] at r; subst r; cases h; rfl
  | str k =>
    rw [Rp] at r; subst r
    simp only [truD] at h
    by_cases q : k.length ≤ 1000000
    · rw [if_pos q] at h; cases h; exact ⟨sz6 q, rfl⟩
    · rw [if_neg q] at h; cases h
  | list ds =>
    rw [Rp] at r
    obtain ⟨a, xs, rfl, q, r⟩ := r
    cases h
    exact .inl ⟨xs, q.sq, rpA_empty r⟩
  | tuple ds =>
    rw [Rp] at r
    obtain ⟨a, xs, rfl, q, r⟩ := r
    cases h
    exact .inr (.inl ⟨xs, live_t q, rpA_empty r⟩)
  | dict k => cases h
def tTr (f : En → Option PyData) : En → Option Bool := fun env => (f env).bind truD
theorem ct_tru (ha : PE X e (tE X.K c f)) (he : ∀ whole, isTrue e X.env whole = (do let v ← whole; standAt e.pos; holding [v] (truthy v)) := by intro _; rfl) : PT X e (tT X.K (tTr f)) := pt_w (pt_truth ha he) fun σ H Q ⟨S0, H0, A, env, b, E, hf, q⟩ => by
  unfold tTr at hf
  cases hd : f env with
  | none => rw [hd] at hf; cases hf
  | some d =>
    rw [hd] at hf
    exact ⟨S0, H0, A, env, d, E, hd, fun v H' s r => ⟨b, truD_ok r hf, q H' s⟩⟩

/-! ### and, or, not -/
variable {ga gb : En → Option Bool} {rest : List Expr}
def tAnd' (ga gb : En → Option Bool) : En → Option Bool := fun env => match ga env with
  | some true => gb env
  | some false => some false
  | none => none
def tOr' (ga gb : En → Option Bool) : En → Option Bool := fun env => match ga env with
  | some true => some true
  | some false => gb env
  | none => none
def tNot' (ga : En → Option Bool) : En → Option Bool := fun env => (ga env).map (!·)
theorem and_run {K : PySem.W.Frag} {σ : L2.St} {H : Hp} {Q : Bool → Hp → Prop} (q : tT K (tAnd' ga gb) σ H Q) : tAnd (tT K ga) (tT K gb) σ H Q := by
  obtain ⟨S0, H0, A, env, b, E, hf, q⟩ := q
  unfold tAnd' at hf
  split at hf
  · rename_i h
    exact ⟨S0, H0, A, env, true, E, h, fun H' s => iteT <| ⟨S0, H0, A, env, b, E.grow s, hf, fun H2 s2 => q H2 (s.trans s2)⟩⟩
  · rename_i h
    cases hf
    exact ⟨S0, H0, A, env, false, E, h, fun H' s => iteF <| q H' s⟩
  · cases hf
theorem or_run {K : PySem.W.Frag} {σ : L2.St} {H : Hp} {Q : Bool → Hp → Prop} (q : tT K (tOr' ga gb) σ H Q) : tOr (tT K ga) (tT K gb) σ H Q := by
  obtain ⟨S0, H0, A, env, b, E, hf, q⟩ := q
  unfold tOr' at hf
  split at hf
  · rename_i h
    cases hf
    exact ⟨S0, H0, A, env, true, E, h, fun H' s => iteT <| q H' s⟩
  · rename_i h
    exact ⟨S0, H0, A, env, false, E, h, fun H' s => iteF <| ⟨S0, H0, A, env, b, E.grow s, hf, fun H2 s2 => q H2 (s.trans s2)⟩⟩
  · cases hf
theorem cw_and1 (ha : PT X a (tT X.K ga)) : PW X (.BoolOp .And [a] pos) (tT X.K ga) := pw_and1 ha
theorem cw_or1 (ha : PT X a (tT X.K ga)) : PW X (.BoolOp .Or [a] pos) (tT X.K ga) := pw_or1 ha
theorem cw_and (ha : PT X a (tT X.K ga)) (hb : PW X (.BoolOp .And (b :: rest) pos) (tT X.K gb)) : PW X (.BoolOp .And (a :: b :: rest) pos) (tT X.K (tAnd' ga gb)) := pw_w (pw_and ha hb) fun _ _ _ q => and_run q
theorem cw_or (ha : PT X a (tT X.K ga)) (hb : PW X (.BoolOp .Or (b :: rest) pos) (tT X.K gb)) : PW X (.BoolOp .Or (a :: b :: rest) pos) (tT X.K (tOr' ga gb)) := pw_w (pw_or ha hb) fun _ _ _ q => or_run q
theorem ct_not (ha : PT X a (tT X.K ga)) : PT X (.UnaryOp .Not a pos) (tT X.K (tNot' ga)) := pt_w (pt_not ha) fun σ H Q ⟨S0, H0, A, env, b, E, hf, q⟩ => by
  unfold tNot' at hf
  cases hd : ga env with
  | none => rw [hd] at hf; cases hf
  | some d =>
    rw [hd] at hf
    cases hf
    exact ⟨S0, H0, A, env, d, E, hd, q⟩
/-- and, or, not as values -/
def eB (ga : En → Option Bool) : En → Option PyData := fun env => (ga env).map .bool
theorem ce_one {op : BoolOp} (h : PE X a (tE X.K c f)) : PE X (.BoolOp op [a] pos) (tE X.K c f) := pe_one h
def eAnd (f g : En → Option PyData) : En → Option PyData := fun env => match f env with
  | some (.bool true) => g env
  | some (.bool false) => some (.bool false)
  | _ => none
def eOr (f g : En → Option PyData) : En → Option PyData := fun env => match f env with
  | some (.bool true) => some (.bool true)
  | some (.bool false) => g env
  | _ => none
theorem ce_and (ha : PE X a (tE X.K c1 f)) (hb : PE X (.BoolOp .And (b :: rest) pos) (tE X.K c g)) : PE X (.BoolOp .And (a :: b :: rest) pos) (tE X.K c (eAnd f g)) := pe_w (pe_and ha hb) fun σ H Q ⟨S0, H0, A, env, d, E, hf, q⟩ => by
  unfold eAnd at hf
  split at hf
  · rename_i h
    refine ⟨S0, H0, A, env, _, E, h, fun v H' s r => ?_⟩
    rw [Rp] at r
    exact ⟨true, r, iteT <| ⟨S0, H0, A, env, d, E.grow s, hf, fun v2 H2 s2 r2 => q v2 H2 (s.trans s2) r2⟩⟩
  · rename_i h
    cases hf
    refine ⟨S0, H0, A, env, _, E, h, fun v H' s r => ?_⟩
    rw [Rp] at r
    exact ⟨false, r, iteF <| q _ H' s (by rw [Rp])⟩
  · cases hf
theorem ce_or (ha : PE X a (tE X.K c1 f)) (hb : PE X (.BoolOp .Or (b :: rest) pos) (tE X.K c g)) : PE X (.BoolOp .Or (a :: b :: rest) pos) (tE X.K c (eOr f g)) := pe_w (pe_or ha hb) fun σ H Q ⟨S0, H0, A, env, d, E, hf, q⟩ => by
  unfold eOr at hf
  split at hf
  · rename_i h
    cases hf
    refine ⟨S0, H0, A, env, _, E, h, fun v H' s r => ?_⟩
    rw [Rp] at r
    exact ⟨true, r, iteT <| q _ H' s (by rw [Rp])⟩
  · rename_i h
    refine ⟨S0, H0, A, env, _, E, h, fun v H' s r => ?_⟩
    rw [Rp] at r
    exact ⟨false, r, iteF <| ⟨S0, H0, A, env, d, E.grow s, hf, fun v2 H2 s2 r2 => q v2 H2 (s.trans s2) r2⟩⟩
  · cases hf
def eNot (f : En → Option PyData) : En → Option PyData := fun env => match f env with
  | some (.bool b) => some (.bool (!b))
  | _ => none
theorem ce_not (ha : PE X a (tE X.K c1 f)) : PE X (.UnaryOp .Not a pos) (tE X.K true (eNot f)) := pe_w (pe_not ha) fun σ H Q ⟨S0, H0, A, env, d, E, hf, q⟩ => by
  unfold eNot at hf
  split at hf
  · rename_i k h
    cases hf
    refine ⟨S0, H0, A, env, _, E, h, fun v H' s r => ?_⟩
    rw [Rp] at r
    exact ⟨k, r, q _ H' s (by rw [Rp])⟩
  · cases hf
def eIf (ga : En → Option Bool) (f g : En → Option PyData) : En → Option PyData := fun env => match ga env with
  | some true => f env
  | some false => g env
  | none => none
theorem ce_if {t : Expr} (ht : PT X t (tT X.K ga)) (ha : PE X a (tE X.K c f)) (hb : PE X b (tE X.K c g)) : PE X (.IfExp t a b pos) (tE X.K c (eIf ga f g)) := pe_w (pe_ifExp ht ha hb) fun σ H Q ⟨S0, H0, A, env, d, E, hf, q⟩ => by
  unfold eIf at hf
  split at hf
  · rename_i h
    exact ⟨S0, H0, A, env, _, E, h, fun H' s => iteT <| ⟨S0, H0, A, env, d, E.grow s, hf, fun v2 H2 s2 r2 => q v2 H2 (s.trans s2) r2⟩⟩
  · rename_i h
    exact ⟨S0, H0, A, env, _, E, h, fun H' s => iteF <| ⟨S0, H0, A, env, d, E.grow s, hf, fun v2 H2 s2 r2 => q v2 H2 (s.trans s2) r2⟩⟩
  · cases hf

/-! ### argument lists, displays -/
def aNil : En → Option (List PyData) := fun _ => some []
def aCons (f : En → Option PyData) (g : En → Option (List PyData)) : En → Option (List PyData) := fun env => match f env with
  | some d => match g env with
    | some ds => some (d :: ds)
    | none => none
  | none => none
theorem aCons_some {env : En} {es : List PyData} (q : aCons f fa env = some es) : ∃ d ds, f env = some d ∧ fa env = some ds ∧ es = d :: ds := by
  unfold aCons at q
  split at q
  · split at q
    · cases q
      exact ⟨_, _, by assumption, by assumption, rfl⟩
    · cases q
  · cases q
theorem ca_nil : PA X [] (tA X.K c aNil) := pa_w pa_nil fun σ H Q ⟨S0, H0, A, env, d, E, hf, q⟩ => by
  cases hf
  exact q [] H (Same.refl H) RpA.nil
theorem ca_cons (ha : PE X e (tE X.K c f)) (hr : PA X es (tA X.K c fa)) (hs : starEach (e :: es) X.env = (false, eval e X.env) :: starEach es X.env := by rfl) : PA X (e :: es) (tA X.K c (aCons f fa)) := pa_w (pa_cons ha hr hs) fun σ H Q ⟨S0, H0, A, env, d, E, hf, q⟩ => by
  obtain ⟨d1, ds, h1, h2, rfl⟩ := aCons_some hf
  exact ⟨S0, H0, A, env, d1, E, h1, fun v H1 s1 r1 => ⟨S0, H0, A, env, ds, E.grow s1, h2, fun vs H2 s2 r2 => q _ H2 (s1.trans s2) (RpA.cons (r1.grow s2) r2)⟩⟩
def eTup (fa : En → Option (List PyData)) : En → Option PyData := fun env => match fa env with
  | some ds => if ds.length ≤ 1000000 then some (.tuple ds) else none
  | none => none
theorem eTup_some {env : En} {d : PyData} (q : eTup fa env = some d) : ∃ ds, fa env = some ds ∧ ds.length ≤ 1000000 ∧ d = .tuple ds := by
  unfold eTup at q
  split at q
  · split at q
    · cases q; exact ⟨_, by assumption, by assumption, rfl⟩
    · cases q
  · cases q
theorem ce_tup {x1 : Nat} (h : PA X es (tA X.K c fa)) : PE X (.Tuple es x1 pos) (tE X.K c (eTup fa)) := pe_w (pe_tup h) fun σ H Q ⟨S0, H0, A, env, d, E, hf, q⟩ => by
  obtain ⟨ds, h1, h2, rfl⟩ := eTup_some hf
  refine ⟨S0, H0, A, env, ds, E, h1, fun vs H1 s1 r1 => ⟨by rw [r1.length]; exact sz6 h2, fun p hp => q _ _ (s1.trans fun b o z => by rw [upd_ne (ne_of_none z hp)]; exact z) ?_⟩⟩
  rw [Rp]
  exact ⟨p, vs, rfl, upd_same, r1.grow fun b o z => by rw [upd_ne (ne_of_none z hp)]; exact z⟩
def fLst (fa : En → Option (List PyData)) : En → Option (List PyData) := fun env => match fa env with
  | some ds => if ds.length ≤ 1000000 then some ds else none
  | none => none
theorem fLst_some {env : En} {d : List PyData} (q : fLst fa env = some d) : fa env = some d ∧ d.length ≤ 1000000 := by
  unfold fLst at q
  split at q
  · split at q
    · cases q; exact ⟨by assumption, by assumption⟩
    · cases q
  · cases q
theorem same_new {H : Hp} {p : Addr} {o : HO} (h : H p = none) : Same H (upd H p o) := fun b u e => by
  rw [upd_ne (ne_of_none e h)]
  exact e
/-- items that stood ahead of the new list do not lean on it -/
theorem RpA.apart {K : PySem.W.Frag} {S : Addr → Prop} {H H' : Hp} {p : Addr} {ds : List PyData} {vs : List V} (h : RpA K S H ds vs) (hp : H p = none) (s : Same H H') : RpA K (fun a => S a ∧ a ≠ p) H' ds vs :=
  RpA.mono (fun a xs z r => ⟨⟨z, fun e => by
    subst e
    rcases r with r | ⟨o, r⟩ <;> (rw [hp] at r; cases r)⟩, same_rd s r⟩) (fun _ _ z => same_t s z) (same_d s) ds vs h
theorem Rp.apart {K : PySem.W.Frag} {S : Addr → Prop} {H H' : Hp} {p : Addr} {d : PyData} {v : V} (h : Rp K S H d v) (hp : H p = none) (s : Same H H') : Rp K (fun a => S a ∧ a ≠ p) H' d v :=
  Rp.mono (fun a xs z r => ⟨⟨z, fun e => by
    subst e
    rcases r with r | ⟨o, r⟩ <;> (rw [hp] at r; cases r)⟩, same_rd s r⟩) (fun _ _ z => same_t s z) (same_d s) d v h
theorem cf_lst (h : PA X es (tA X.K c fa)) : PE X (.List es pos) (tF X.K c (fLst fa)) := pe_w (pe_lst h) fun σ H Q ⟨S0, H0, A, env, ds, E, hf, q⟩ => by
  obtain ⟨h1, h2⟩ := fLst_some hf
  refine ⟨S0, H0, A, env, ds, E, h1, fun vs H1 s1 r1 => ⟨by rw [r1.length]; exact sz6 h2, fun p hp => ?_⟩⟩
  exact q p vs _ (s1.free hp) (s1.trans (same_new hp)) upd_same (r1.apart hp (same_new hp))
end

/-! ### statements -/
section
variable {X : Cx} {e : Expr} {pos pos' : Pos} {c : Bool} {f : En → Option PyData} {fa : En → Option (List PyData)} {ga : En → Option Bool} {s t : En → Out} {st : Stmt} {sts : List Stmt}
def sNil : En → Out := fun env => .nx env
def sSeq (s t : En → Out) : En → Out := fun env => match s env with
  | .nx e => t e
  | .bk e => .bk e
  | .ct e => .ct e
  | .rt d => .rt d
  | .bad => .bad
theorem cs_nil : PSs X [] (tS X.K sNil) := pss_w pss_nil fun D σ H ⟨S0, H0, A, env, E, o⟩ => o A H σ E Fr.refl Sb.refl
theorem cs_cons (h1 : PS X st (tS X.K s)) (h2 : PSs X sts (tS X.K t)) : PSs X (st :: sts) (tS X.K (sSeq s t)) := pss_w (pss_cons h1 h2) fun D σ H ⟨S0, H0, A, env, E, o⟩ => by
  refine ⟨S0, H0, A, env, E, ?_⟩
  unfold sSeq at o
  cases hs : s env with
  | nx e =>
    rw [hs] at o
    exact fun A' H' σ' E' f' b' => ⟨S0, H0, A', e, E', OutOk.step o f' b'⟩
  | bk e => rw [hs] at o; exact o
  | ct e => rw [hs] at o; exact o
  | rt d => rw [hs] at o; exact o
  | bad => rw [hs] at o; exact o
theorem cs_one (h1 : PS X st (tS X.K s)) : PSs X [st] (tS X.K s) := pss_one h1
/-- ahead of the statement the list of the slot i is let go -/
theorem cs_frz {i : Nat} (h : PS X st (tS X.K s)) : PS X st (tS X.K fun env => s (frz i env)) := ps_w h fun D σ H ⟨S0, H0, A, env, E, o⟩ => by
  obtain ⟨A', E', w⟩ := E.frz i
  exact ⟨S0, H0, A', _, E', OutOk.step o Fr.refl fun a z => .inl (w a z)⟩
theorem css_frz {i : Nat} (h : PSs X sts (tS X.K s)) : PSs X sts (tS X.K fun env => s (frz i env)) := pss_w h fun D σ H ⟨S0, H0, A, env, E, o⟩ => by
  obtain ⟨A', E', w⟩ := E.frz i
  exact ⟨S0, H0, A', _, E', OutOk.step o Fr.refl fun a z => .inl (w a z)⟩
def sSet (i : Nat) (f : En → Option PyData) : En → Out := fun env => match f env with
  | some d => .nx (env.set i (.val d))
  | none => .bad
def sOwn (i : Nat) (f : En → Option (List PyData)) : En → Out := fun env => match f env with
  | some d => .nx (env.set i (.own d))
  | none => .bad
theorem set_run {K : PySem.W.Frag} {i : Nat} {D : Ends} {σ : L2.St} {H : Hp} (h : tS K (sSet i f) D σ H) : tAsg (tE K true f) (gName i) D σ H := by
  obtain ⟨S0, H0, A, env, E, o⟩ := h
  unfold sSet at o
  cases hd : f env with
  | none => rw [hd] at o; exact o.elim
  | some d =>
    rw [hd] at o
    exact ⟨S0, H0, A, env, d, E, hd, fun v H' s r => o A H' _ ((E.grow s).set_val (r.wide fun _ z => cl_sc z)) (Fr.of_same s) Sb.refl⟩
theorem own_run {K : PySem.W.Frag} {i : Nat} {D : Ends} {σ : L2.St} {H : Hp} (h : tS K (sOwn i fa) D σ H) : tAsg (tF K true fa) (gName i) D σ H := by
  obtain ⟨S0, H0, A, env, E, o⟩ := h
  unfold sOwn at o
  cases hd : fa env with
  | none => rw [hd] at o; exact o.elim
  | some ds =>
    rw [hd] at o
    refine ⟨S0, H0, A, env, ds, E, hd, fun p xs H' hn s hp r => o _ H' _ (E.set_own s hn hp (r.wide fun _ z => ⟨cl_sc z.1, z.2⟩)) (Fr.of_same s) fun a z => z.imp id fun e => by rw [e]; exact hn⟩
theorem cs_set {i : Nat} (h : PS X st (tAsg (tE X.K true f) (gName i))) : PS X st (tS X.K (sSet i f)) := ps_w h fun _ _ _ q => set_run q
theorem cs_own {i : Nat} (h : PS X st (tAsg (tF X.K true fa) (gName i))) : PS X st (tS X.K (sOwn i fa)) := ps_w h fun _ _ _ q => own_run q
/-- x.append(e), x an owned list -/
def sApp (i : Nat) (f : En → Option PyData) : En → Out := fun env => match f env with
  | some d => match env[i]? with
    | some (.own ds) => if ds.length < 1000000 then .nx (env.set i (.own (ds ++ [d]))) else .bad
    | _ => .bad
  | none => .bad
theorem app_run {K : PySem.W.Frag} {i : Nat} {D : Ends} {σ : L2.St} {H : Hp} (h : tS K (sApp i f) D σ H) : tDrop (tBM K "list" rAppend (tVar i) (tCons (tE K true f) tNil)) D σ H := by
  obtain ⟨S0, H0, A, env, E, o⟩ := h
  unfold sApp at o
  cases hd : f env with
  | none => rw [hd] at o; exact o.elim
  | some d =>
    rw [hd] at o
    replace o : OutOk K S0 H0 A H (match env[i]? with
      | some (.own ds) => if ds.length < 1000000 then .nx (env.set i (.own (ds ++ [d]))) else .bad
      | _ => .bad) D := o
    split at o
    · rename_i ds hi
      split at o
      · rename_i hl
        rcases E.sl i _ hi with z | ⟨v, h1, a, xs, rfl, ha, hh, r⟩
        · cases z
        refine ⟨_, h1, .inl ⟨rfl, xs, .inl (.inl hh)⟩, S0, H0, A, env, d, E, hd, fun v H' s r' => ?_⟩
        have E' := E.grow s
        refine ⟨a, xs, v, rfl, rfl, s _ _ hh, ?_, ?_⟩
        · rw [r.length]
          exact Nat.lt_of_lt_of_le hl (by decide)
        · have q := RpA.append (r.grow s) (RpA.cons (r'.wide fun _ z => cl_sc z) RpA.nil)
          refine o A _ σ (E'.mut hi h1 ha (s _ _ hh) q) (fun b u e n => ?_) Sb.refl
          have nb : b ≠ a := fun z => n (z ▸ ha)
          rw [upd_ne nb]
          exact s _ _ e
      · exact o.elim
    · exact o.elim
theorem cs_app {i : Nat} (h : PS X st (tDrop (tBM X.K "list" rAppend (tVar i) (tCons (tE X.K true f) tNil)))) : PS X st (tS X.K (sApp i f)) := ps_w h fun _ _ _ q => app_run q
/-- x[k] = e, x an owned list -/
def ixD (n : Nat) (k : PyData) : Option Nat := match k with
  | .int i => ixN n i
  | _ => none
def sPut (i : Nat) (fk f : En → Option PyData) : En → Out := fun env => match f env with
  | some d => match env[i]? with
    | some (.own ds) => match fk env with
      | some k => match ixD ds.length k with
        | some j => .nx (env.set i (.own (ds.set j d)))
        | none => .bad
      | none => .bad
    | _ => .bad
  | none => .bad
theorem put_run {K : PySem.W.Frag} {i : Nat} {fk : En → Option PyData} {D : Ends} {σ : L2.St} {H : Hp} (h : tS K (sPut i fk f) D σ H) : tAsg (tE K true f) (gSub (tVar i) (tE K c fk) rSetL) D σ H := by
  obtain ⟨S0, H0, A, env, E, o⟩ := h
  unfold sPut at o
  cases hd : f env with
  | none => rw [hd] at o; exact o.elim
  | some d =>
    rw [hd] at o
    refine ⟨S0, H0, A, env, d, E, hd, fun v H1 s1 r1 => ?_⟩
    cases hi : env[i]? with
    | none => rw [hi] at o; exact o.elim
    | some sl =>
      rw [hi] at o
      cases sl with
      | un => exact o.elim
      | val _ => exact o.elim
      | ownT _ => exact o.elim
      | ownK _ => exact o.elim
      | exc _ _ _ => exact o.elim
      | fn _ => exact o.elim
      | own ds =>
        cases hk : fk env with
        | none => rw [hk] at o; exact o.elim
        | some k =>
          rw [hk] at o
          cases hj : ixD ds.length k with
          | none => simp only [hj] at o; exact o.elim
          | some j =>
            simp only [hj] at o
            rcases E.sl i _ hi with z | ⟨_, h1, a, xs, rfl, ha, hh, r⟩
            · cases z
            refine ⟨_, h1, S0, H0, A, env, k, E.grow s1, hk, fun u H2 s2 r2 => ?_⟩
            cases k with
            | int m =>
              rw [Rp] at r2
              have hh2 := s2 _ _ (s1 _ _ hh)
              refine ⟨a, xs, m, j, rfl, r2, hh2, by rw [r.length]; exact hj, ?_⟩
              have q := (r.grow (s1.trans s2)).set (i := j) ((r1.wide fun _ z => cl_sc z).grow s2)
              refine o A _ σ ((E.grow (s1.trans s2)).mut hi h1 ha hh2 q) (fun b u e n => ?_) Sb.refl
              have nb : b ≠ a := fun z => n (z ▸ ha)
              rw [upd_ne nb]
              exact (s1.trans s2) _ _ e
            | none => cases hj
            | bool _ => cases hj
            | str _ => cases hj
            | list _ => cases hj
            | tuple _ => cases hj
            | dict _ => cases hj
theorem cs_put {i : Nat} {fk : En → Option PyData} (h : PS X st (tAsg (tE X.K true f) (gSub (tVar i) (tE X.K c fk) rSetL))) : PS X st (tS X.K (sPut i fk f)) := ps_w h fun _ _ _ q => put_run q
def sIf (ga : En → Option Bool) (s t : En → Out) : En → Out := fun env => match ga env with
  | some true => s env
  | some false => t env
  | none => .bad
theorem cs_if {a b : List Stmt} (hc : PT X e (tT X.K ga)) (ha : PSs X a (tS X.K s)) (hb : PSs X b (tS X.K t)) : PS X (.If e a b pos) (tS X.K (sIf ga s t)) := ps_w (ps_if hc ha hb) fun D σ H ⟨S0, H0, A, env, E, o⟩ => by
  unfold sIf at o
  cases hd : ga env with
  | none => rw [hd] at o; exact o.elim
  | some k =>
    rw [hd] at o
    refine ⟨S0, H0, A, env, k, E, hd, fun H' sm => ?_⟩
    cases k with
    | true => exact iteT <| ⟨S0, H0, A, env, E.grow sm, OutOk.step o (Fr.of_same sm) Sb.refl⟩
    | false => exact iteF <| ⟨S0, H0, A, env, E.grow sm, OutOk.step o (Fr.of_same sm) Sb.refl⟩
def sRet (f : En → Option PyData) : En → Out := fun env => match f env with
  | some d => .rt d
  | none => .bad
theorem cs_ret (h : PE X e (tE X.K true f)) : PS X (.Return (some e) pos) (tS X.K (sRet f)) := ps_w (ps_ret h) fun D σ H ⟨S0, H0, A, env, E, o⟩ => by
  unfold sRet at o
  cases hd : f env with
  | none => rw [hd] at o; exact o.elim
  | some d =>
    rw [hd] at o
    exact ⟨S0, H0, A, env, d, E, hd, fun v H' sm r => o v H' (E.same.trans sm) (r.wide fun _ z => (cl_sc z).1)⟩
def sRetN : En → Out := fun _ => .rt .none
theorem cs_retN : PS X (.Return none pos) (tS X.K sRetN) := ps_w ps_retN fun D σ H ⟨S0, H0, A, env, E, o⟩ => o _ H E.same (by rw [Rp])
def sBrk : En → Out := fun env => .bk env
def sCnt : En → Out := fun env => .ct env
theorem cs_brk : PS X (.Break pos) (tS X.K sBrk) := ps_w ps_break fun D σ H ⟨S0, H0, A, env, E, o⟩ => o A H σ E Fr.refl Sb.refl
theorem cs_cnt : PS X (.Continue pos) (tS X.K sCnt) := ps_w ps_continue fun D σ H ⟨S0, H0, A, env, E, o⟩ => o A H σ E Fr.refl Sb.refl
theorem cs_pass : PS X (.Pass pos) (tS X.K sNil) := ps_w ps_pass fun D σ H ⟨S0, H0, A, env, E, o⟩ => o A H σ E Fr.refl Sb.refl
/-- an expression for nothing -/
def sDrop (f : En → Option PyData) : En → Out := fun env => match f env with
  | some _ => .nx env
  | none => .bad
theorem cs_drop (h : PS X st (tDrop (tE X.K c f))) : PS X st (tS X.K (sDrop f)) := ps_w h fun D σ H ⟨S0, H0, A, env, E, o⟩ => by
  unfold sDrop at o
  cases hd : f env with
  | none => rw [hd] at o; exact o.elim
  | some d =>
    rw [hd] at o
    exact ⟨S0, H0, A, env, d, E, hd, fun v H' sm r => o A H' σ (E.grow sm) (Fr.of_same sm) Sb.refl⟩
/-- x += e, ints -/
def sAug (i : Nat) (k : Int → Int → Int) (f : En → Option PyData) : En → Out := fun env => match env[i]? with
  | some (.val (.int x)) => match f env with
    | some (.int y) => .nx (env.set i (.val (.int (k x y))))
    | _ => .bad
  | _ => .bad
theorem cs_aug {i : Nat} {k : Int → Int → Int} (h : PS X st (tAug i (tE X.K c f) (ipI k))) : PS X st (tS X.K (sAug i k f)) := ps_w h fun D σ H ⟨S0, H0, A, env, E, o⟩ => by
  unfold sAug at o
  split at o
  · rename_i x hi
    rcases E.sl i _ hi with z | ⟨v, h1, h2⟩
    · cases z
    have h2' : Rp X.K (Cl S0 H0 A) H (.int x) v := h2
    rw [Rp] at h2'
    subst h2'
    split at o
    · rename_i y hd
      refine ⟨_, h1, S0, H0, A, env, _, E, hd, fun u H' sm r => ?_⟩
      rw [Rp] at r
      refine ⟨x, y, rfl, r, o A H' _ ((E.grow sm).set_val (by rw [Rp])) (Fr.of_same sm) Sb.refl⟩
    · exact o.elim
  · exact o.elim
end
end Mir

namespace Mir
open PySem PySem.Spec PyProof.Rows L2

/-! ### targets -/
def gVal (i : Nat) : PyData → En → Option En := fun d env => some (env.set i (.val d))
def gMany : List Nat → List PyData → En → Option En
  | [], [], env => some env
  | i :: is, d :: ds, env => gMany is ds (env.set i (.val d))
  | _, _, _ => none
def gT (is : List Nat) : PyData → En → Option En := fun d env => match d with
  | .tuple ds => gMany is ds env
  | _ => none
def gsOf : List Nat → TGs
  | [] => gNil
  | i :: is => gCons (gName i) (gsOf is)
section
variable {X : Cx} {tg e iter : Expr} {pos : Pos} {K : PySem.W.Frag} {S0 : Addr → Prop} {H0 H H1 : Hp} {A : Addr → Prop} {σ : L2.St} {env : En}
theorem wipe_set {i : Nat} {x : Option V} : ∀ {is : List Nat}, (wipe (σ.set i x) is).set i none = (wipe σ is).set i none
  | [] => by simp [wipe]
  | j :: is => by
    show ((wipe (σ.set i x) is).set j none).set i none = ((wipe σ is).set j none).set i none
    by_cases h : j = i
    · subst h
      rw [List.set_set, List.set_set]
      exact wipe_set
    · rw [List.set_comm _ _ h, List.set_comm _ _ h, wipe_set]
theorem wipe_get (i : Nat) : ∀ (vs : List Nat), (wipe σ vs)[i]? = if i ∈ vs then (σ[i]?).map (fun _ => none) else σ[i]?
  | [] => by simp [wipe]
  | j :: vs => by
    show ((wipe σ vs).set j none)[i]? = _
    rw [List.getElem?_set, wipe_length]
    by_cases h : j = i
    · subst h
      rw [if_pos rfl, if_pos List.mem_cons_self]
      by_cases l : j < σ.length
      · rw [if_pos l, List.getElem?_eq_getElem l]; rfl
      · rw [if_neg l, List.getElem?_eq_none (by omega)]; rfl
    · rw [if_neg h, wipe_get i vs]
      by_cases m : i ∈ vs
      · rw [if_pos m, if_pos (List.mem_cons_of_mem _ m)]
      · rw [if_neg m, if_neg (fun z => by
          rcases List.mem_cons.mp z with z | z
          · exact h z.symm
          · exact m z)]
theorem wipe_wipe (vs : List Nat) : wipe (wipe σ vs) vs = wipe σ vs := by
  apply List.ext_getElem?
  intro i
  rw [wipe_get, wipe_get]
  split
  · cases σ[i]? <;> rfl
  · rfl
theorem cg_name {i : Nat} (h : PG X tg (gName i)) : PG X tg (tG X.K [i] (gVal i)) := pg_w h fun v σ H Q ⟨S0, H0, A, env, d, env', E, r, hg, q⟩ => by
  cases hg
  refine q _ (E.set_val r) ?_
  show (σ.set i (some v)).set i none = σ.set i none
  rw [List.set_set]
theorem many_run : ∀ {is : List Nat} {ds : List PyData} {vs : List V} {σ : L2.St} {env env' : En} {Q : L2.St → Hp → Prop}, EnvOk K S0 H0 A H σ env → RpA K (Cl S0 H0 A) H ds vs → gMany is ds env = some env' →
    (∀ σ', EnvOk K S0 H0 A H σ' env' → wipe σ' is = wipe σ is → Q σ' H) → gsOf is vs σ H Q
  | [], [], _, σ, env, env', Q, E, r, g, q => by
    rw [RpA] at r
    subst r
    cases g
    exact ⟨rfl, q σ E rfl⟩
  | [], _ :: _, _, _, _, _, _, _, _, g, _ => by cases g
  | _ :: _, [], _, _, _, _, _, _, _, g, _ => by cases g
  | i :: is, d :: ds, _, σ, env, env', Q, E, r, g, q => by
    rw [RpA] at r
    obtain ⟨v, r', rfl, h1, h2⟩ := r
    refine ⟨v, r', rfl, ?_⟩
    show gsOf is r' (σ.set i (some v)) H Q
    refine many_run (E.set_val h1) h2 g fun σ' E' w => q σ' E' ?_
    show (wipe σ' is).set i none = (wipe σ is).set i none
    rw [w, wipe_set]
theorem gMany_len : ∀ {is : List Nat} {ds : List PyData} {env env' : En}, gMany is ds env = some env' → ds.length = is.length
  | [], [], _, _, _ => rfl
  | [], _ :: _, _, _, g => by cases g
  | _ :: _, [], _, _, g => by cases g
  | _ :: is, _ :: ds, env, env', g => by
    rw [List.length_cons, List.length_cons, gMany_len (is := is) (ds := ds) g]
theorem cg_tup {is : List Nat} {n : Nat} (h : PG X tg (gTup X.K n (gsOf is))) (hn : n = is.length := by rfl) : PG X tg (tG X.K is (gT is)) := pg_w h fun v σ H Q ⟨S0, H0, A, env, d, env', E, r, hg, q⟩ => by
  cases d with
  | tuple ds =>
    rw [Rp] at r
    obtain ⟨a, xs, rfl, hs, ra⟩ := r
    exact ⟨a, xs, rfl, live_t hs, by rw [ra.length, hn]; exact gMany_len hg, many_run E ra hg q⟩
  | _ => cases hg

/-! ### what is walked -/
structure Wk (K : PySem.W.Frag) (J : It) (G : Hp → Prop) (S : Addr → Prop) (ds : List PyData) : Prop where
  go : ∀ i H, G H → i < ds.length → J.go i H
  yld : ∀ (i : Nat) H d x H', G H → ds[i]? = some d → J.yld i H x H' → Same H H' ∧ Rp K S H' d x
  stop : ∀ i H, G H → ds.length ≤ i → J.stop i H
/-- c: it stands still while the code runs -/
def tI (K : PySem.W.Frag) (c : Bool) (f : En → Option (List PyData)) : TI := fun σ H R => ∃ S0 H0 A env ds, EnvOk K S0 H0 A H σ env ∧ f env = some ds ∧ ∀ J H' G, Same H H' → (∀ H2, Same H' H2 → G H2) → (c = true → ∀ H2, Fr A H' H2 → G H2) →
  Wk K J G (fun b => Cl S0 H0 A b ∧ H' b ≠ none) ds → R J H'
theorem pi_w {t t' : TI} (h : PI X tg iter t) (w : ∀ σ H R, t' σ H R → t σ H R) : PI X tg iter t' := ⟨fun pins s σ H R I q => h.run pins s σ H R I (w σ H R q)⟩
def iAny (K : PySem.W.Frag) (tl : TE) : TI := fun σ H R => tl σ H fun x H1 => ∃ a, x = .ref a ∧ (((∃ xs, SqL K H1 a xs) ∧ R (Itl K a) H1) ∨ ((∃ xs, SqT K H1 a xs) ∧ R (Itt K a) H1))
theorem pi_any {l : Expr} {tl : TE} (hl : PE X l tl) : PI X tg l (iAny X.K tl) := by
  constructor
  intro pins s σ H R I h
  refine thn (hl.run pins s σ H _ I h) ?_
  rintro v t ⟨x, H1, I1, r1, a, rfl, h1⟩
  cases r1
  have nx : ∀ (o : Obj) (b : Addr) (u : Obj), t.heap.get? b = some u → (t.heap.push o).get? b = some u := fun o b u e => Heap.get?_push_of_some _ e
  rcases h1 with ⟨⟨xs, hq⟩, q⟩ | ⟨⟨xs, hq⟩, q⟩
  · obtain ⟨its, rv, pl, hz⟩ := I1.list hq
    refine wpAny_pyIter_list pl.isList ⟨t.heap.objs.size, [t.heap.objs.size], _, _, H1, rfl, I1.kept (t' := t.toks) (nx _), turn_list a _, ⟨_, Heap.get?_push_size _ rfl, rfl, rfl⟩, ?_, q⟩
    intro b hb
    rw [List.mem_singleton.mp hb]
    exact I1.fpOk (Nat.le_refl _) (I1.hok.fresh (Nat.le_refl _))
  · obtain ⟨its, rv, pl, hz⟩ := I1.tuple hq
    refine wpAny_pyIter_tuple (show t.heap.IsTuple a its.toArray from pl) ⟨t.heap.objs.size, [t.heap.objs.size], _, _, H1, rfl, I1.kept (t' := t.toks) (nx _), turn_tuple a _, ⟨_, Heap.get?_push_size _ rfl, rfl, rfl⟩, ?_, q⟩
    intro b hb
    rw [List.mem_singleton.mp hb]
    exact I1.fpOk (Nat.le_refl _) (I1.hok.fresh (Nat.le_refl _))
theorem fr_rd {u : HO} {a : Addr} (f : Fr A H H1) (n : ¬ A a) (h : Rd H a u) : Rd H1 a u := by
  rcases h with h | ⟨o, h⟩
  · exact .inl (f a _ h n)
  · exact .inr ⟨o, f a _ h n⟩
theorem fr_t (E : EnvOk K S0 H0 A H σ env) (f : Fr A H H1) {a : Addr} {xs : List V} (h : H a = some (.tup xs)) : H1 a = some (.tup xs) := f a _ h fun z => E.no_tup z h
theorem fr_d (E : EnvOk K S0 H0 A H σ env) (f : Fr A H H1) : ∀ a u, fz u = true → H a = some u → H1 a = some u := fun a u y h => f a _ h fun z => E.no_frz y z h
/-- what is clean stands still -/
theorem RpA.fr (E : EnvOk K S0 H0 A H σ env) (f : Fr A H H1) {S : Addr → Prop} (w : ∀ a, S a → ¬ A a) {ds : List PyData} {vs : List V} (h : RpA K S H ds vs) : RpA K (fun b => S b ∧ H b ≠ none) H1 ds vs :=
  RpA.mono (fun a xs z r => ⟨⟨z, fun e => by rcases r with r | ⟨o, r⟩ <;> (rw [e] at r; cases r)⟩, fr_rd f (w a z) r⟩) (fun _ _ z => fr_t E f z) (fr_d E f) ds vs h
theorem RpA.sm (s : Same H H1) {S : Addr → Prop} {ds : List PyData} {vs : List V} (h : RpA K S H ds vs) : RpA K (fun b => S b ∧ H b ≠ none) H1 ds vs :=
  RpA.mono (fun a xs z r => ⟨⟨z, fun e => by rcases r with r | ⟨o, r⟩ <;> (rw [e] at r; cases r)⟩, same_rd s r⟩) (fun _ _ z => same_t s z) (same_d s) ds vs h
theorem RpA.at {S : Addr → Prop} {ds : List PyData} {vs : List V} {i : Nat} {d : PyData} {x : V} (h : RpA K S H ds vs) (e : ds[i]? = some d) (g : vs[i]? = some x) : Rp K S H d x := by
  obtain ⟨v, e1, e2⟩ := h.get e
  rw [e1] at g
  cases g
  exact e2
theorem wk_list {a : Addr} {xs : List V} {ds : List PyData} {S : Addr → Prop} : Wk K (Itl K a) (fun H => SqL K H a xs ∧ RpA K S H ds xs) S ds where
  go := fun i H g l => ⟨xs, xs[i]'(by rw [g.2.length]; exact l), g.1, by rw [List.getElem?_eq_getElem]⟩
  yld := fun i H d x H' g e y => by
    obtain ⟨rfl, y⟩ := y
    exact ⟨Same.refl _, g.2.at e (y xs g.1)⟩
  stop := fun i H g l => ⟨xs, g.1, by rw [g.2.length]; exact l⟩
theorem wk_tup {a : Addr} {xs : List V} {ds : List PyData} {S : Addr → Prop} : Wk K (Itt K a) (fun H => H a = some (.tup xs) ∧ RpA K S H ds xs) S ds where
  go := fun i H g l => ⟨xs, xs[i]'(by rw [g.2.length]; exact l), live_t g.1, by rw [List.getElem?_eq_getElem]⟩
  yld := fun i H d x H' g e y => by
    obtain ⟨rfl, y⟩ := y
    exact ⟨Same.refl _, g.2.at e (y xs (live_t g.1))⟩
  stop := fun i H g l => ⟨xs, live_t g.1, by rw [g.2.length]; exact l⟩
def iSeq (f : En → Option PyData) : En → Option (List PyData) := fun env => match f env with
  | some (.list ds) => some ds
  | some (.tuple ds) => some ds
  | _ => none
theorem ci_seq {f : En → Option PyData} (h : PE X iter (tE X.K true f)) : PI X tg iter (tI X.K true (iSeq f)) := pi_w (pi_any h) fun σ H R ⟨S0, H0, A, env, ds, E, hf, q⟩ => by
  unfold iSeq at hf
  split at hf
  · rename_i es hd
    cases hf
    refine ⟨S0, H0, A, env, _, E, hd, fun v H1 s r => ?_⟩
    rw [Rp] at r
    obtain ⟨a, xs, rfl, hs, ra⟩ := r
    have ra' : RpA X.K (Cl S0 H0 A) H1 ds xs := ra.wide fun _ z => cl_sc z
    exact ⟨a, rfl, .inl ⟨⟨xs, hs.sq⟩, q _ H1 _ s (fun H2 s2 => ⟨s2.seq hs.sq, ra'.sm s2⟩) (fun _ H2 f2 => ⟨hs.imp (fun z => fr_rd f2 (cl_sc z.1).2 z.2) id, ra'.fr (E.grow s) f2 fun _ z => z.2⟩) wk_list⟩⟩
  · rename_i es hd
    cases hf
    refine ⟨S0, H0, A, env, _, E, hd, fun v H1 s r => ?_⟩
    rw [Rp] at r
    obtain ⟨a, xs, rfl, hs, ra⟩ := r
    have ra' : RpA X.K (Cl S0 H0 A) H1 ds xs := ra.wide fun _ z => cl_sc z
    exact ⟨a, rfl, .inr ⟨⟨xs, live_t hs⟩, q _ H1 _ s (fun H2 s2 => ⟨same_t s2 hs, ra'.sm s2⟩) (fun _ H2 f2 => ⟨fr_t (E.grow s) f2 hs, ra'.fr (E.grow s) f2 fun _ z => z.2⟩) wk_tup⟩⟩
  · cases hf
/-- an owned list, walked by a comprehension -/
def iOwn (i : Nat) : En → Option (List PyData) := fun env => match env[i]? with
  | some (.own ds) => some ds
  | _ => none
theorem ci_own {i : Nat} (h : PE X iter (tVar i)) : PI X tg iter (tI X.K false (iOwn i)) := pi_w (pi_any h) fun σ H R ⟨S0, H0, A, env, ds, E, hf, q⟩ => by
  unfold iOwn at hf
  split at hf
  · rename_i es hi
    cases hf
    rcases E.sl i _ hi with z | ⟨v, h1, a, xs, rfl, ha, hh, r⟩
    · cases z
    exact ⟨_, h1, a, rfl, .inl ⟨⟨xs, .inl (.inl hh)⟩, q _ H _ (Same.refl H) (fun H2 s2 => ⟨.inl (.inl (s2 _ _ hh)), r.sm s2⟩) (fun z => nomatch z) wk_list⟩⟩
  · cases hf
/-! ranges -/
def rngD (lo : Int) (n : Nat) : List PyData := (List.range n).map fun k => .int (lo + (k : Nat))
theorem rng_len (lo : Int) (n : Nat) : (rngD lo n).length = n := by simp [rngD]
theorem rng_get {lo : Int} {n i : Nat} {d : PyData} (h : (rngD lo n)[i]? = some d) : d = .int (lo + (i : Nat)) := by
  unfold rngD at h
  rw [List.getElem?_map] at h
  cases q : (List.range n)[i]? with
  | none => rw [q] at h; cases h
  | some k =>
    rw [q] at h
    rw [List.getElem?_range (by
      obtain ⟨l, _⟩ := List.getElem?_eq_some_iff.mp q
      simpa using l)] at q
    cases q
    exact (Option.some.inj h).symm
theorem wk_rng {lo : Int} {n : Nat} {S : Addr → Prop} : Wk K (Itr lo n) (fun _ => True) S (rngD lo n) where
  go := fun i H _ l => by rw [rng_len] at l; exact l
  yld := fun i H d x H' _ e y => by
    obtain ⟨rfl, rfl⟩ := y
    rw [rng_get e]
    exact ⟨Same.refl _, by rw [Rp]⟩
  stop := fun i H _ l => by rw [rng_len] at l; exact l
def iR1 (fa : En → Option (List PyData)) : En → Option (List PyData) := fun env => match fa env with
  | some [.int j] => if j < 1000000 ∧ -1000000 < j then some (rngD 0 j.toNat) else none
  | _ => none
def iR2 (fa : En → Option (List PyData)) : En → Option (List PyData) := fun env => match fa env with
  | some [.int i, .int j] => if (j < 1000000000 ∧ -1000000000 < j) ∧ i < 1000000000 ∧ -1000000000 < i then some (rngD i (j - i).toNat) else none
  | _ => none
theorem RpA.one {S : Addr → Prop} {d : PyData} {vs : List V} (h : RpA K S H [d] vs) : ∃ v, vs = [v] ∧ Rp K S H d v := by
  rw [RpA] at h
  obtain ⟨v, r, rfl, h1, h2⟩ := h
  rw [RpA] at h2
  subst h2
  exact ⟨v, rfl, h1⟩
theorem RpA.two {S : Addr → Prop} {d e : PyData} {vs : List V} (h : RpA K S H [d, e] vs) : ∃ v u, vs = [v, u] ∧ Rp K S H d v ∧ Rp K S H e u := by
  rw [RpA] at h
  obtain ⟨v, r, rfl, h1, h2⟩ := h
  obtain ⟨u, rfl, h3⟩ := h2.one
  exact ⟨v, u, rfl, h1, h3⟩
theorem ci_r1 {c : Bool} {fa : En → Option (List PyData)} (h : PI X tg iter (iRng1 (tA X.K c fa))) : PI X tg iter (tI X.K true (iR1 fa)) := pi_w h fun σ H R ⟨S0, H0, A, env, ds, E, hf, q⟩ => by
  unfold iR1 at hf
  split at hf
  · rename_i j hd
    split at hf
    · rename_i hj
      cases hf
      refine ⟨S0, H0, A, env, _, E, hd, fun vs H1 s r => ?_⟩
      obtain ⟨v, rfl, r1⟩ := r.one
      rw [Rp] at r1
      subst r1
      exact ⟨j, rfl, by omega, by omega, q _ H1 _ s (fun _ _ => trivial) (fun _ _ _ => trivial) wk_rng⟩
    · cases hf
  · cases hf
theorem ci_r2 {c : Bool} {fa : En → Option (List PyData)} (h : PI X tg iter (iRng2 (tA X.K c fa))) : PI X tg iter (tI X.K true (iR2 fa)) := pi_w h fun σ H R ⟨S0, H0, A, env, ds, E, hf, q⟩ => by
  unfold iR2 at hf
  split at hf
  · rename_i i j hd
    split at hf
    · rename_i hj
      cases hf
      refine ⟨S0, H0, A, env, _, E, hd, fun vs H1 s r => ?_⟩
      obtain ⟨v, u, rfl, r1, r2⟩ := r.two
      rw [Rp] at r1 r2
      subst r1 r2
      exact ⟨i, j, rfl, ⟨by omega, by omega, by omega, by omega⟩, q _ H1 _ s (fun _ _ => trivial) (fun _ _ _ => trivial) wk_rng⟩
    · cases hf
  · cases hf

/-! ### for, while -/
def loopF (g : PyData → En → Option En) (b : En → Out) : List PyData → En → Out
  | [], e => .nx e
  | d :: ds, e => match g d e with
    | none => .bad
    | some e1 => match b e1 with
      | .nx e2 => loopF g b ds e2
      | .ct e2 => loopF g b ds e2
      | .bk e2 => .nx e2
      | .rt v => .rt v
      | .bad => .bad
def sFor (f : En → Option (List PyData)) (g : PyData → En → Option En) (b : En → Out) : En → Out := fun env => match f env with
  | some ds => loopF g b ds env
  | none => .bad
theorem for_run {f : En → Option (List PyData)} {g : PyData → En → Option En} {b : En → Out} {vs : List Nat} {D : Ends} (h : tS K (sFor f g b) D σ H) : tFor (tI K true f) (tG K vs g) (tS K b) D σ H := by
  obtain ⟨S0, H0, A, env, E, o⟩ := h
  unfold sFor at o
  cases hd : f env with
  | none => rw [hd] at o; exact o.elim
  | some ds =>
    rw [hd] at o
    refine ⟨S0, H0, A, env, ds, E, hd, fun J H1 G s _ gF wk => ?_⟩
    refine ⟨fun i m σ' H' => m = ds.length - i ∧ i ≤ ds.length ∧ ∃ A' env', EnvOk K S0 H0 A' H' σ' env' ∧ Fr A H1 H' ∧ Sb A H1 A' ∧ OutOk K S0 H0 A' H' (loopF g b (ds.drop i) env') D,
      ⟨_, rfl, Nat.zero_le _, A, env, E.grow s, Fr.refl, Sb.refl, OutOk.step o (Fr.of_same s) Sb.refl⟩, ?_⟩
    rintro i m σ' H' ⟨rfl, hi, A', env', E', f', b', o'⟩
    by_cases hlt : i < ds.length
    · have hdr : ds.drop i = ds[i] :: ds.drop (i + 1) := List.drop_eq_getElem_cons hlt
      rw [hdr] at o'
      refine .inr ⟨wk.go i H' (gF rfl H' f') hlt, fun σ2 H2 => ∃ A2 e2, EnvOk K S0 H0 A2 H2 σ2 e2 ∧ Fr A H1 H2 ∧ Sb A H1 A2 ∧ OutOk K S0 H0 A2 H2 (loopF g b (ds.drop (i + 1)) e2) D, ?_, fun x Hx y => ?_⟩
      · rintro σ2 H2 ⟨A2, e2, z⟩
        exact ⟨ds.length - (i + 1), by omega, rfl, hlt, A2, e2, z⟩
      · obtain ⟨sx, rx⟩ := wk.yld i H' _ x Hx (gF rfl H' f') (List.getElem?_eq_getElem hlt) y
        have rx' : Rp K (Cl S0 H0 A') Hx ds[i] x := rx.wide fun a z => ⟨z.1.1, fun y => by
          rcases b' a y with k | k
          · exact z.1.2 k
          · exact z.2 k⟩
        simp only [loopF] at o'
        cases hg : g ds[i] env' with
        | none => rw [hg] at o'; exact o'.elim
        | some e1 =>
          rw [hg] at o'
          refine ⟨S0, H0, A', env', _, e1, E'.grow sx, rx', hg, fun σ1 E1 _ => ⟨S0, H0, A', e1, E1, ?_⟩⟩
          have fs : Fr A' H' Hx := Fr.of_same sx
          cases hb : b e1 with
          | nx e2 =>
            simp only [hb] at o'
            exact fun A2 H2 σ2 E2 f2 b2 => ⟨A2, e2, E2, f'.trans b' (fs.trans Sb.refl f2), Sb.trans f' b' (Sb.trans fs Sb.refl b2), OutOk.step o' (fs.trans Sb.refl f2) (Sb.trans fs Sb.refl b2)⟩
          | ct e2 =>
            simp only [hb] at o'
            exact fun A2 H2 σ2 E2 f2 b2 => ⟨A2, e2, E2, f'.trans b' (fs.trans Sb.refl f2), Sb.trans f' b' (Sb.trans fs Sb.refl b2), OutOk.step o' (fs.trans Sb.refl f2) (Sb.trans fs Sb.refl b2)⟩
          | bk e2 =>
            simp only [hb] at o'
            exact fun A2 H2 σ2 E2 f2 b2 => o' A2 H2 σ2 E2 (fs.trans Sb.refl f2) (Sb.trans fs Sb.refl b2)
          | rt v => simp only [hb] at o'; exact o'
          | bad => simp only [hb] at o'; exact o'
    · have hdr : ds.drop i = [] := List.drop_eq_nil_of_le (by omega)
      rw [hdr] at o'
      exact .inl ⟨wk.stop i H' (gF rfl H' f') (by omega), o' A' H' σ' E' Fr.refl Sb.refl⟩
def whlF (c : En → Option Bool) (b : En → Out) : Nat → En → Out
  | 0, _ => .bad
  | n + 1, e => match c e with
    | none => .bad
    | some false => .nx e
    | some true => match b e with
      | .nx e2 => whlF c b n e2
      | .ct e2 => whlF c b n e2
      | .bk e2 => .nx e2
      | .rt v => .rt v
      | .bad => .bad
theorem while_run {c : En → Option Bool} {b : En → Out} {n : Nat} {D : Ends} (h : tS K (whlF c b n) D σ H) : tWhile (tT K c) (tS K b) D σ H := by
  obtain ⟨S0, H0, A, env, E, o⟩ := h
  refine ⟨fun m σ' H' => ∃ A' env', EnvOk K S0 H0 A' H' σ' env' ∧ Fr A H H' ∧ Sb A H A' ∧ OutOk K S0 H0 A' H' (whlF c b m env') D, ⟨n, A, env, E, Fr.refl, Sb.refl, o⟩, ?_⟩
  rintro m σ' H' ⟨A', env', E', f', b', o'⟩
  cases m with
  | zero => exact o'.elim
  | succ m =>
    simp only [whlF] at o'
    cases hc : c env' with
    | none => rw [hc] at o'; exact o'.elim
    | some k =>
      rw [hc] at o'
      refine ⟨S0, H0, A', env', k, E', hc, fun H2 s2 => ?_⟩
      have fs : Fr A' H' H2 := Fr.of_same s2
      cases k with
      | false => exact iteF (o' A' H2 σ' (E'.grow s2) fs Sb.refl)
      | true =>
        refine iteT ⟨fun σ3 H3 => ∃ A3 e3, EnvOk K S0 H0 A3 H3 σ3 e3 ∧ Fr A H H3 ∧ Sb A H A3 ∧ OutOk K S0 H0 A3 H3 (whlF c b m e3) D, ?_, S0, H0, A', env', E'.grow s2, ?_⟩
        · rintro σ3 H3 ⟨A3, e3, z⟩
          exact ⟨m, Nat.lt_succ_self m, A3, e3, z⟩
        · cases hb : b env' with
          | nx e2 =>
            simp only [hb] at o'
            exact fun A2 H3 σ2 E2 f2 b2 => ⟨A2, e2, E2, f'.trans b' (fs.trans Sb.refl f2), Sb.trans f' b' (Sb.trans fs Sb.refl b2), OutOk.step o' (fs.trans Sb.refl f2) (Sb.trans fs Sb.refl b2)⟩
          | ct e2 =>
            simp only [hb] at o'
            exact fun A2 H3 σ2 E2 f2 b2 => ⟨A2, e2, E2, f'.trans b' (fs.trans Sb.refl f2), Sb.trans f' b' (Sb.trans fs Sb.refl b2), OutOk.step o' (fs.trans Sb.refl f2) (Sb.trans fs Sb.refl b2)⟩
          | bk e2 =>
            simp only [hb] at o'
            exact fun A2 H3 σ2 E2 f2 b2 => o' A2 H3 σ2 E2 (fs.trans Sb.refl f2) (Sb.trans fs Sb.refl b2)
          | rt v => simp only [hb] at o'; exact o'
          | bad => simp only [hb] at o'; exact o'
variable {st : Stmt} {f : En → Option (List PyData)} {g : PyData → En → Option En} {b : En → Out} {vs : List Nat}
theorem cs_for {body : List Stmt} (hp : PassesOwn (model X.prog X.w) X.A X.env X.xe) (hc : X.calm = true) (hi : PI X tg iter (tI X.K true f)) (hg : PG X tg (tG X.K vs g)) (hb : PSs X body (tS X.K b)) (hs : ∀ x, foldedSetIterable iter X.env x = pure x := by intro _; rfl) :
    PS X (.For tg iter body [] pos) (tS X.K (sFor f g b)) := ps_w (ps_for hp hc hi hg hb hs) fun _ _ _ q => for_run q
theorem cs_while {body : List Stmt} {c : En → Option Bool} (n : Nat) (hp : PassesOwn (model X.prog X.w) X.A X.env X.xe) (hc : PT X e (tT X.K c)) (hb : PSs X body (tS X.K b)) : PS X (.While e body [] pos) (tS X.K (whlF c b n)) := ps_w (ps_while hp hc hb) fun _ _ _ q => while_run q
/-- a, b, .. = e -/
def sUnp (f : En → Option PyData) (g : PyData → En → Option En) : En → Out := fun env => match f env with
  | some d => match g d env with
    | some e => .nx e
    | none => .bad
  | none => .bad
theorem cs_unp {fe : En → Option PyData} (h : PS X st (tAsg (tE X.K true fe) (tG X.K vs g))) : PS X st (tS X.K (sUnp fe g)) := ps_w h fun D σ H ⟨S0, H0, A, env, E, o⟩ => by
  unfold sUnp at o
  cases hd : fe env with
  | none => rw [hd] at o; exact o.elim
  | some d =>
    simp only [hd] at o
    cases hg : g d env with
    | none => simp only [hg] at o; exact o.elim
    | some e =>
      simp only [hg] at o
      exact ⟨S0, H0, A, env, d, E, hd, fun v H1 s r => ⟨S0, H0, A, env, d, e, E.grow s, r.wide fun _ z => cl_sc z, hg, fun σ' E' _ => o A H1 σ' E' (Fr.of_same s) Sb.refl⟩⟩

/-! ### comprehensions -/
def wipeE : En → List Nat → En
  | env, [] => env
  | env, i :: is => (wipeE env is).set i .un
theorem EnvOk.un (E : EnvOk K S0 H0 A H σ env) (i : Nat) (o : Option V) : EnvOk K S0 H0 A H (σ.set i o) (env.set i .un) where
  len := by simp [E.len]
  sl := fun j s q => by
    rcases set_get q with ⟨rfl, l, rfl⟩ | ⟨n, q⟩
    · exact .inl rfl
    · rw [set_other n]
      exact E.sl j s q
  dis := fun j k s t a q1 q2 o1 o2 q3 q4 => by
    rcases set_get q1 with ⟨_, _, z⟩ | ⟨n1, q1⟩
    · subst z; cases o1
    rcases set_get q2 with ⟨_, _, z⟩ | ⟨n2, q2⟩
    · subst z; cases o2
    rw [set_other n1] at q3
    rw [set_other n2] at q4
    exact E.dis j k s t a q1 q2 o1 o2 q3 q4
  tr := E.tr
  nw := E.nw
  same := E.same
theorem EnvOk.wipe (E : EnvOk K S0 H0 A H σ env) : ∀ is : List Nat, EnvOk K S0 H0 A H (L2.wipe σ is) (wipeE env is)
  | [] => E
  | i :: is => EnvOk.un (EnvOk.wipe E is) i none
/-- a new thing that no slot keeps -/
theorem EnvOk.add (E : EnvOk K S0 H0 A H σ env) {u0 : HO} {p : Addr} (hs : Same H H1) (hn : H p = none) (hp : H1 p = some u0) (hm : isMut u0 = true := by rfl) : EnvOk K S0 H0 (fun a => A a ∨ a = p) H1 σ env where
  len := E.len
  sl := fun j s q => by
    refine (E.sl j s q).imp id fun ⟨v, h1, h2⟩ => ⟨v, h1, ?_⟩
    have hL : ∀ a ys, Cl S0 H0 A a → Rd H a (.lst ys) → Cl S0 H0 (fun a => A a ∨ a = p) a ∧ Rd H1 a (.lst ys) := fun a ys z r => ⟨⟨z.1, fun y => by
      rcases y with y | y
      · exact z.2 y
      · subst y
        rcases r with r | ⟨o, r⟩ <;> (rw [hn] at r; cases r)⟩, same_rd hs r⟩
    exact SlOk.mono hL (fun _ _ z => same_t hs z) (same_d hs) (fun a u ha hu _ => ⟨.inl ha, hs _ _ hu⟩) h2
  dis := E.dis
  tr := fun a h => by
    rcases h with h | rfl
    · obtain ⟨u, q, m⟩ := E.tr a h
      exact ⟨u, hs _ _ q, m⟩
    · exact ⟨u0, hp, hm⟩
  nw := fun a h => by
    rcases h with h | rfl
    · exact E.nw a h
    · exact E.same.free hn
  same := E.same.trans hs
def compF (g : PyData → En → Option En) (ga : En → Option Bool) (fe : En → Option PyData) (env : En) : List PyData → Option (List PyData)
  | [] => some []
  | d :: ds => match g d env with
    | none => none
    | some e1 => match ga e1 with
      | none => none
      | some false => compF g ga fe env ds
      | some true => match fe e1 with
        | none => none
        | some v => match compF g ga fe env ds with
          | none => none
          | some vs => some (v :: vs)
def fCmp (is : List Nat) (f : En → Option (List PyData)) (g : PyData → En → Option En) (ga : En → Option Bool) (fe : En → Option PyData) : En → Option (List PyData) := fun env => match f env with
  | none => none
  | some ds => match compF g ga fe (wipeE env is) ds with
    | none => none
    | some vs => if vs.length ≤ 1000000 then some vs else none
def tYes' : En → Option Bool := fun _ => some true
theorem yes_run {Q : Bool → Hp → Prop} (h : tT K tYes' σ H Q) : tYes σ H Q := by
  obtain ⟨S0, H0, A, env, b, E, hb, q⟩ := h
  cases hb
  exact q H (Same.refl H)
theorem upd_monoD {S : Addr → Prop} {p : Addr} {u0 u1 : HO} (hp : H p = some u0) (hm : isMut u0 = true) : (∀ a zs, (S a ∧ a ≠ p) → Rd H a (.lst zs) → (S a ∧ a ≠ p) ∧ Rd (upd H p u1) a (.lst zs)) ∧ (∀ a zs, H a = some (.tup zs) → upd H p u1 a = some (.tup zs)) ∧ ∀ a u, fz u = true → H a = some u → upd H p u1 a = some u := by
  have nf : ∀ a u, fz u = true → H a = some u → a ≠ p := fun a u z r e => by rw [e, hp] at r; cases r; exact fz_mut z hm
  refine ⟨fun a zs z r => ⟨z, ?_⟩, fun a zs r => by rw [upd_ne (fun e => by rw [e, hp] at r; cases r; cases hm)]; exact r, fun a u z r => by rw [upd_ne (nf _ _ z r)]; exact r⟩
  rcases r with r | ⟨o, r⟩
  · exact .inl (by rw [upd_ne z.2]; exact r)
  · exact .inr ⟨o, by rw [upd_ne z.2]; exact r⟩
theorem RpA.updD {S : Addr → Prop} {p : Addr} {xs ys : List V} {ds : List PyData} {vs : List V} (h : RpA K (fun a => S a ∧ a ≠ p) H ds vs) (hp : H p = some (.lst xs)) : RpA K (fun a => S a ∧ a ≠ p) (upd H p (.lst ys)) ds vs := by
  obtain ⟨h1, h2, h3⟩ := upd_monoD (S := S) (u1 := .lst ys) hp rfl
  exact RpA.mono h1 h2 h3 ds vs h
theorem lc_run {c c2 : Bool} {ga : En → Option Bool} {fe : En → Option PyData} {is : List Nat} {tt : TT} {Q : VK} (ht : ∀ σ H Q, tT K ga σ H Q → tt σ H Q) (h : tF K c2 (fCmp is f g ga fe) σ H Q) : tLc (tI K c f) (tG K is g) tt (tE K true fe) is σ H Q := by
  obtain ⟨S0, H0, A, env, res, E, hf, q⟩ := h
  unfold fCmp at hf
  cases hd : f env with
  | none => rw [hd] at hf; cases hf
  | some ds =>
    simp only [hd] at hf
    cases hc : compF g ga fe (wipeE env is) ds with
    | none => simp only [hc] at hf; cases hf
    | some vs =>
      simp only [hc] at hf
      split at hf
      · rename_i hlen
        cases hf
        refine ⟨S0, H0, A, env, ds, E, hd, fun J H1 G s gS _ wk D hD => ?_⟩
        have E1 := E.grow s
        refine ⟨fun i m H2 => m = ds.length - i ∧ i ≤ ds.length ∧ Same H1 H2 ∧ ∃ acc accD rest, H2 D = some (.lst acc) ∧ RpA K (fun a => Cl S0 H0 A a ∧ a ≠ D) H2 accD acc ∧ compF g ga fe (wipeE env is) (ds.drop i) = some rest ∧ accD ++ rest = res,
          ⟨_, rfl, Nat.zero_le _, same_new hD, [], [], res, upd_same, RpA.nil, hc, rfl⟩, ?_⟩
        rintro i m H2 ⟨rfl, hi, s2, acc, accD, rest, hacc, racc, hrest, hres⟩
        by_cases hlt : i < ds.length
        · have hdr : ds.drop i = ds[i] :: ds.drop (i + 1) := List.drop_eq_getElem_cons hlt
          rw [hdr] at hrest
          refine .inr ⟨wk.go i H2 (gS H2 s2) hlt, fun H3 => Same H1 H3 ∧ ∃ acc accD rest, H3 D = some (.lst acc) ∧ RpA K (fun a => Cl S0 H0 A a ∧ a ≠ D) H3 accD acc ∧ compF g ga fe (wipeE env is) (ds.drop (i + 1)) = some rest ∧ accD ++ rest = res, ?_, fun x Hx y => ?_⟩
          · rintro H3 ⟨s3, z⟩
            exact ⟨ds.length - (i + 1), by omega, rfl, hlt, s3, z⟩
          · obtain ⟨sx, rx⟩ := wk.yld i H2 _ x Hx (gS H2 s2) (List.getElem?_eq_getElem hlt) y
            have E2 : EnvOk K S0 H0 (fun a => A a ∨ a = D) Hx (L2.wipe σ is) (wipeE env is) := (E1.wipe is).add (s2.trans sx) hD (sx _ _ hacc)
            have rx' : Rp K (Cl S0 H0 (fun a => A a ∨ a = D)) Hx ds[i] x := rx.wide fun a z => ⟨z.1.1, fun y => by
              rcases y with k | k
              · exact z.1.2 k
              · exact z.2 (by rw [k]; exact hD)⟩
            simp only [compF] at hrest
            cases hg : g ds[i] (wipeE env is) with
            | none => rw [hg] at hrest; cases hrest
            | some e1 =>
              simp only [hg] at hrest
              refine ⟨S0, H0, _, _, _, e1, E2, rx', hg, fun σ2 E3 w3 => ⟨by rw [w3, wipe_wipe], ht _ _ _ ?_⟩⟩
              cases hga : ga e1 with
              | none => simp only [hga] at hrest; cases hrest
              | some k =>
                refine ⟨S0, H0, _, e1, k, E3, hga, fun H3 s3 => ?_⟩
                cases k with
                | false =>
                  simp only [hga] at hrest
                  exact iteF ⟨(s2.trans sx).trans s3, acc, accD, rest, s3 _ _ (sx _ _ hacc), (racc.grow sx).grow s3, hrest, hres⟩
                | true =>
                  simp only [hga] at hrest
                  cases hfe : fe e1 with
                  | none => simp only [hfe] at hrest; cases hrest
                  | some v =>
                    simp only [hfe] at hrest
                    cases hr2 : compF g ga fe (wipeE env is) (ds.drop (i + 1)) with
                    | none => simp only [hr2] at hrest; cases hrest
                    | some rest2 =>
                      simp only [hr2] at hrest
                      cases hrest
                      refine iteT ⟨S0, H0, _, e1, v, E3.grow s3, hfe, fun y H4 s4 r4 => ?_⟩
                      have h4 := s4 _ _ (s3 _ _ (sx _ _ hacc))
                      have r4' : Rp K (fun a => Cl S0 H0 A a ∧ a ≠ D) H4 v y := r4.wide fun a z => ⟨⟨(cl_sc z).1, fun k => (cl_sc z).2 (.inl k)⟩, fun k => (cl_sc z).2 (.inr k)⟩
                      have al : acc.length < sizeLine := by
                        rw [racc.length]
                        have : accD.length < res.length := by rw [← hres]; simp
                        exact Nat.lt_of_lt_of_le this (sz6 hlen)
                      refine ⟨acc, h4, al, fun b u e => ?_, acc ++ [y], accD ++ [v], rest2, upd_same, ?_, rfl, by rw [← hres]; simp⟩
                      · rw [upd_ne (ne_of_none e hD)]
                        exact s4 _ _ (s3 _ _ (sx _ _ (s2 _ _ e)))
                      · exact RpA.updD ((((racc.grow sx).grow s3).grow s4).append (RpA.cons r4' RpA.nil)) h4
        · have hdr : ds.drop i = [] := List.drop_eq_nil_of_le (by omega)
          rw [hdr] at hrest
          cases hrest
          rw [List.append_nil] at hres
          subst hres
          exact .inl ⟨wk.stop i H2 (gS H2 s2) (by omega), q D acc H2 (s.free hD) (s.trans s2) hacc (racc.wide fun a z => ⟨fun _ => z.1, z.2⟩)⟩
      · cases hf
theorem cf_lc {c c2 : Bool} {ga : En → Option Bool} {fe : En → Option PyData} {is : List Nat} (h : PE X e (tLc (tI X.K c f) (tG X.K is g) (tT X.K ga) (tE X.K true fe) is)) : PE X e (tF X.K c2 (fCmp is f g ga fe)) := pe_w h fun _ _ _ q => lc_run (fun _ _ _ z => z) q
theorem cf_lc1 {c c2 : Bool} {fe : En → Option PyData} {is : List Nat} (h : PE X e (tLc (tI X.K c f) (tG X.K is g) tYes (tE X.K true fe) is)) : PE X e (tF X.K c2 (fCmp is f g tYes' fe)) := pe_w h fun _ _ _ q => lc_run (fun _ _ _ z => yes_run z) q
theorem cs_lcO {i : Nat} {c : Bool} {ga : En → Option Bool} {fe : En → Option PyData} {is : List Nat} (h : PS X st (tAsg (tLc (tI X.K c f) (tG X.K is g) (tT X.K ga) (tE X.K true fe) is) (gName i))) : PS X st (tS X.K (sOwn i (fCmp is f g ga fe))) :=
  ps_w h fun D σ H q => lc_run (c2 := true) (fun _ _ _ z => z) (own_run q)
theorem cs_lcO1 {i : Nat} {c : Bool} {fe : En → Option PyData} {is : List Nat} (h : PS X st (tAsg (tLc (tI X.K c f) (tG X.K is g) tYes (tE X.K true fe) is) (gName i))) : PS X st (tS X.K (sOwn i (fCmp is f g tYes' fe))) :=
  ps_w h fun D σ H q => lc_run (c2 := true) (fun _ _ _ z => yes_run z) (own_run q)
end
end Mir

namespace Mir
open PySem PySem.Spec PyProof.Rows L2

/-! ### a def -/
def spF (K : PySem.W.Frag) (g : List PyData → Option PyData) : Sp := fun vs H Q _ => ∃ S ds d, RpA K S H ds vs ∧ g ds = some d ∧ ∀ v H', Same H H' → Rp K (Bd S H) H' d v → Q v H'
def env0 (nN : Nat) (ds : List PyData) : En := ds.map .val ++ List.replicate (nN - ds.length) .un
def outD : Out → Option PyData
  | .rt d => some d
  | .nx _ => some .none
  | _ => none
def gDef (np nN : Nat) (fB : En → Out) : List PyData → Option PyData := fun ds => if ds.length = np then outD (fB (env0 nN ds)) else none
section
variable {K : PySem.W.Frag}
theorem def_run {N : List Str} {np : Nat} {fB : En → Out} {vs : List V} {H : Hp} {Q : VK} {E : XK} (h : spF K (gDef np N.length fB) vs H Q E) : tS K fB { nx := fun _ H' => Q .non H', rt := Q } (L2.start N vs) H := by
  obtain ⟨S, ds, d, r, hg, q⟩ := h
  unfold gDef at hg
  split at hg
  · refine ⟨S, H, fun _ => False, env0 N.length ds, ⟨?_, fun i s e => ?_, fun i j es fs a e1 _ o1 => ?_, fun _ z => z.elim, fun _ z => z.elim, Same.refl H⟩, ?_⟩
    · simp [L2.start, env0, r.length]
    · unfold env0 at e
      by_cases hi : i < ds.length
      · rw [List.getElem?_append_left (by simpa using hi), List.getElem?_map, List.getElem?_eq_getElem hi] at e
        cases e
        obtain ⟨v, e1, e2⟩ := r.get (List.getElem?_eq_getElem hi)
        refine .inr ⟨v, ?_, e2.wide fun a z => ⟨.inl z, fun y => y⟩⟩
        unfold L2.start
        rw [List.getElem?_append_left (by simpa [r.length] using hi), List.getElem?_map, e1]
        rfl
      · rw [List.getElem?_append_right (by simpa using Nat.le_of_not_lt hi)] at e
        exact .inl (List.eq_of_mem_replicate (List.mem_of_getElem? e))
    · exfalso
      unfold env0 at e1
      by_cases hi : i < ds.length
      · rw [List.getElem?_append_left (by simpa using hi), List.getElem?_map, List.getElem?_eq_getElem hi] at e1
        cases e1
        cases o1
      · rw [List.getElem?_append_right (by simpa using Nat.le_of_not_lt hi)] at e1
        cases (List.eq_of_mem_replicate (List.mem_of_getElem? e1))
        cases o1
    · cases ho : fB (env0 N.length ds) with
      | rt v =>
        rw [ho] at hg
        cases hg
        exact q
      | nx e =>
        rw [ho] at hg
        cases hg
        exact fun A' H' σ' E' _ _ => q _ H' E'.same (by rw [Rp])
      | bk e => rw [ho] at hg; cases hg
      | ct e => rw [ho] at hg; cases hg
      | bad => rw [ho] at hg; cases hg
  · cases hg
variable {P : Program} {w : World} {mg : Str → Option Value} {base : Heap}
theorem fn_ok {x qual : Str} {st : Stmt} {f : Addr} {fd : FuncData} {N ps : List Str} {k np nN : Nat} {fB : En → Out} {g : List PyData → Option PyData} (F : Fun K x qual st f fd) (S : FnScope N ps (defScope st)) (hp : np = ps.length) (hN : nN = N.length) (hg : g = gDef np nN fB)
    (hb : ∀ (cdv : Value) (A : Around) (outer : List Env) (s : Shared) (H : Hp) (E : XK), Room k (A.deeper (envOfC qual (defScope st) s.heap.objs.size f cdv)) → PSs (cxOf CX0 P w K mg base N qual (defScope st) f cdv A outer s H E).nox (defBody st) (tS K fB)) :
    FnOk P w K mg base CX0 (k + 1) f fd ps (spF K g) := by
  subst hp hN hg
  refine F.ok S (fun vs H Q E h => ?_) fun cdv A outer s H vs Q E hr h => ⟨_, hb cdv A outer s H E hr, def_run h⟩
  obtain ⟨S', ds, d, r, hg, _⟩ := h
  unfold gDef at hg
  split at hg
  · rw [r.length]; assumption
  · cases hg
theorem fn_imp {k : Nat} {f : Addr} {fd : FuncData} {ps : List Str} {g g' : List PyData → Option PyData} (F : FnOk P w K mg base CX0 k f fd ps (spF K g)) (h : ∀ ds d, g' ds = some d → g ds = some d) : FnOk P w K mg base CX0 k f fd ps (spF K g') :=
  F.imp fun vs H Q E ⟨S, ds, d, r, hg, q⟩ => ⟨S, ds, d, r, h ds d hg, q⟩
end

/-! ### calls -/
def eCall (g : List PyData → Option PyData) (fa : En → Option (List PyData)) : En → Option PyData := fun env => match fa env with
  | some ds => g ds
  | none => none
section
variable {X : Cx} {a b e : Expr} {es : List Expr} {pos p : Pos} {x : Str} {c c1 c2 : Bool} {f g : En → Option PyData} {fa : En → Option (List PyData)} {fb : En → Option Bool}
theorem bd_sc {K : PySem.W.Frag} {S0 A : Addr → Prop} {H0 H : Hp} {σ : L2.St} {env : En} (E : EnvOk K S0 H0 A H σ env) {c : Bool} {a : Addr} (h : Bd (Cl S0 H0 A) H a) : SC c S0 H0 A a := fun _ => by
  rcases h with h | h
  · exact h
  · exact cl_new E h
theorem call_run {K : PySem.W.Frag} {σ : L2.St} {H : Hp} {Q : VK} {E : XK} {gd : List PyData → Option PyData} (h : tE K c (eCall gd fa) σ H Q) : tCall (spF K gd) [] E (tA K true fa) σ H Q := by
  obtain ⟨S0, H0, A, env, d, En, hf, q⟩ := h
  unfold eCall at hf
  cases hd : fa env with
  | none => rw [hd] at hf; cases hf
  | some ds =>
    simp only [hd] at hf
    refine ⟨S0, H0, A, env, ds, En, hd, fun vs H1 s r => ?_⟩
    show spF K gd (vs ++ []) H1 Q E
    rw [List.append_nil]
    exact ⟨Cl S0 H0 A, ds, d, r.wide fun _ z => cl_sc z, hf, fun v H2 s2 r2 => q v H2 (s.trans s2) (r2.wide fun _ z => bd_sc (En.grow s) z)⟩
theorem callB_run {K : PySem.W.Frag} {σ : L2.St} {H : Hp} {Q : VK} {E : XK} {gd : List PyData → Option PyData} (h : tE K c (eN (eCall gd fa)) σ H Q) : tCall (spF K gd) [] E (tA K false fa) σ H Q := by
  obtain ⟨S0, H0, A, env, d, En, hf, q⟩ := h
  unfold eN at hf
  cases hc : eCall gd fa env with
  | none => rw [hc] at hf; cases hf
  | some d' =>
    rw [hc] at hf
    have hf' : (if noL d' = true then some d' else none) = some d := hf
    by_cases n : noL d' = true
    · rw [if_pos n] at hf'
      cases hf'
      unfold eCall at hc
      cases hd : fa env with
      | none => rw [hd] at hc; cases hc
      | some ds =>
        simp only [hd] at hc
        refine ⟨S0, H0, A, env, ds, En, hd, fun vs H1 s r => ?_⟩
        show spF K gd (vs ++ []) H1 Q E
        rw [List.append_nil]
        exact ⟨_, ds, d, r, hc, fun v H2 s2 r2 => q v H2 (s.trans s2) (Rp.noL d v n r2)⟩
    · rw [if_neg n] at hf'; cases hf'
variable {E : XK} {gd : List PyData → Option PyData}
theorem ce_call (h : PE X e (tCall (spF X.K gd) [] E (tA X.K true fa))) : PE X e (tE X.K c (eCall gd fa)) := pe_w h fun _ _ _ q => call_run q
theorem ce_callB (h : PE X e (tCall (spF X.K gd) [] E (tA X.K false fa))) : PE X e (tE X.K c (eN (eCall gd fa))) := pe_w h fun _ _ _ q => callB_run q
theorem ce_call0 (h : PE X e (tCall (spF X.K gd) [] E tNil)) : PE X e (tE X.K c (eCall gd aNil)) := pe_w h fun σ H Q q => by
  obtain ⟨S0, H0, A, env, ds, En, hd, q⟩ := call_run (E := E) q
  cases hd
  exact q [] H (Same.refl H) RpA.nil

/-! ### built-ins called -/
def CROk (K : PySem.W.Frag) (sc : Bool) (r : List V → Hp → VK → Prop) (h : List PyData → Option PyData) : Prop := ∀ (S S' : Addr → Prop) (H : Hp) (vs : List V) (ds : List PyData) (d : PyData) (Q : VK), (∀ p, H p = none → S p) → (sc = true ∨ S' = S) → RpA K S H ds vs → h ds = some d →
  (∀ v H', Same H H' → Rp K S' H' d v → Q v H') → r vs H Q
theorem cb_run {K : PySem.W.Frag} {sc : Bool} {r : List V → Hp → VK → Prop} {h : List PyData → Option PyData} (R : CROk K sc r h) (hc : sc = true ∨ c2 = c1) {σ : L2.St} {H : Hp} {Q : VK} (q : tE K c2 (eCall h fa) σ H Q) : tCB r (tA K c1 fa) σ H Q := by
  obtain ⟨S0, H0, A, env, d, E, hf, q⟩ := q
  unfold eCall at hf
  cases hd : fa env with
  | none => rw [hd] at hf; cases hf
  | some ds =>
    simp only [hd] at hf
    exact ⟨S0, H0, A, env, ds, E, hd, fun vs H1 s1 r1 => R (SC c1 S0 H0 A) (SC c2 S0 H0 A) H1 vs ds d Q (fun p hp => sc_new (E.grow s1) hp) (hc.imp id fun z => by rw [z]) r1 hf fun v H2 s2 r2 => q v H2 (s1.trans s2) r2⟩
theorem ce_cb {sc : Bool} {r : List V → Hp → VK → Prop} {h : List PyData → Option PyData} (R : CROk X.K sc r h) (he : PE X e (tCB r (tA X.K c1 fa))) (hc : sc = true ∨ c2 = c1 := by first | exact .inl rfl | exact .inr rfl) : PE X e (tE X.K c2 (eCall h fa)) := pe_w he fun _ _ _ q => cb_run R hc q
theorem rp1 {K : PySem.W.Frag} {S : Addr → Prop} {H : Hp} {i : Int} : Rp K S H (.int i) (.int i) := by rw [Rp]
theorem rpb {K : PySem.W.Frag} {S : Addr → Prop} {H : Hp} {i : Bool} : Rp K S H (.bool i) (.bl i) := by rw [Rp]
theorem rps {K : PySem.W.Frag} {S : Addr → Prop} {H : Hp} {i : Str} : Rp K S H (.str i) (.str i) := by rw [Rp]
def lenA : List PyData → Option PyData
  | [.list ds] => some (.int ds.length)
  | [.tuple ds] => some (.int ds.length)
  | [.str x] => if x.length ≤ 1000000 then some (.int x.length) else none
  | _ => none
theorem cr_len {K : PySem.W.Frag} : CROk K true (fun xs H Q => ∃ x n, xs = [x] ∧ LenV K x H n ∧ Q (.int n) H) lenA := by
  intro S S' H vs ds d Q _ _ r h q
  unfold lenA at h
  split at h
  · cases h
    replace r := r.one
    obtain ⟨v, rfl, r⟩ := r
    rw [Rp] at r
    obtain ⟨a, xs, rfl, hs, ra⟩ := r
    exact ⟨_, _, rfl, .inl ⟨xs, hs.sq, rfl⟩, q _ H (Same.refl H) (by rw [ra.length]; exact rp1)⟩
  · cases h
    replace r := r.one
    obtain ⟨v, rfl, r⟩ := r
    rw [Rp] at r
    obtain ⟨a, xs, rfl, hs, ra⟩ := r
    exact ⟨_, _, rfl, .inr ⟨xs, live_t hs, rfl⟩, q _ H (Same.refl H) (by rw [ra.length]; exact rp1)⟩
  · split at h
    · rename_i hl
      cases h
      replace r := r.one
      obtain ⟨v, rfl, r⟩ := r
      rw [Rp] at r
      subst r
      exact ⟨_, _, rfl, ⟨sz6 hl, rfl⟩, q _ H (Same.refl H) rp1⟩
    · cases h
  · cases h
def intA : List PyData → Option PyData
  | [.int i] => some (.int i)
  | [.bool k] => some (.int (if k then 1 else 0))
  | _ => none
theorem cr_int {K : PySem.W.Frag} : CROk K true (fun xs H Q => (∃ i, xs = [.int i] ∧ Q (.int i) H) ∨ ∃ k, xs = [.bl k] ∧ Q (.int (if k then 1 else 0)) H) intA := by
  intro S S' H vs ds d Q _ _ r h q
  unfold intA at h
  split at h
  · cases h
    replace r := r.one
    obtain ⟨v, rfl, r⟩ := r
    rw [Rp] at r
    subst r
    exact .inl ⟨_, rfl, q _ H (Same.refl H) rp1⟩
  · cases h
    replace r := r.one
    obtain ⟨v, rfl, r⟩ := r
    rw [Rp] at r
    subst r
    exact .inr ⟨_, rfl, q _ H (Same.refl H) rp1⟩
  · cases h
def tupA : List PyData → Option PyData
  | [.list ds] => some (.tuple ds)
  | [.tuple ds] => some (.tuple ds)
  | _ => none
theorem cr_tup {K : PySem.W.Frag} : CROk K false (fun xs H Q => ∃ p ys, xs = [.ref p] ∧ ((SqL K H p ys ∧ ∀ l, H l = none → Q (.ref l) (upd H l (.tup ys))) ∨ (SqT K H p ys ∧ Q (.ref p) H))) tupA := by
  intro S S' H vs ds d Q hn hS r h q
  have hS' : S' = S := hS.elim (fun z => nomatch z) id
  subst hS'
  unfold tupA at h
  split at h
  · cases h
    replace r := r.one
    obtain ⟨v, rfl, r⟩ := r
    rw [Rp] at r
    obtain ⟨a, xs, rfl, hs, ra⟩ := r
    refine ⟨a, xs, rfl, .inl ⟨hs.sq, fun l hl => q _ _ (same_new hl) ?_⟩⟩
    rw [Rp]
    exact ⟨l, xs, rfl, upd_same, ra.grow (same_new hl)⟩
  · cases h
    replace r := r.one
    obtain ⟨v, rfl, r⟩ := r
    have r' := r
    rw [Rp] at r
    obtain ⟨a, xs, rfl, hs, ra⟩ := r
    exact ⟨a, xs, rfl, .inr ⟨live_t hs, q _ H (Same.refl H) r'⟩⟩
  · cases h
/-- tuple(x), x owned: its items are clean -/
def eTupO (i : Nat) : En → Option PyData := fun env => match env[i]? with
  | some (.own ds) => some (.tuple ds)
  | _ => none
theorem ce_tupO {i : Nat} (h : PE X e (tCB (fun xs H Q => ∃ p ys, xs = [.ref p] ∧ ((SqL X.K H p ys ∧ ∀ l, H l = none → Q (.ref l) (upd H l (.tup ys))) ∨ (SqT X.K H p ys ∧ Q (.ref p) H))) (tCons (tVar i) tNil))) : PE X e (tE X.K true (eTupO i)) := pe_w h fun σ H Q ⟨S0, H0, A, env, d, E, hf, q⟩ => by
  unfold eTupO at hf
  split at hf
  · rename_i ds hi
    cases hf
    rcases E.sl i _ hi with z | ⟨v, h1, a, xs, rfl, ha, hh, r⟩
    · cases z
    refine ⟨_, h1, a, xs, rfl, .inl ⟨.inl (.inl hh), fun l hl => q _ _ (same_new hl) ?_⟩⟩
    rw [Rp]
    exact ⟨l, xs, rfl, upd_same, (r.wide fun _ z => sc_cl z).grow (same_new hl)⟩
  · cases hf
/-- list(x): a fresh one -/
def fList (f : En → Option PyData) : En → Option (List PyData) := fun env => match f env with
  | some (.list ds) => some ds
  | some (.tuple ds) => some ds
  | _ => none
theorem cf_list (h : PE X e (tCB (fun xs H Q => ∃ p ys, xs = [.ref p] ∧ (SqL X.K H p ys ∨ SqT X.K H p ys) ∧ ∀ l, H l = none → Q (.ref l) (upd H l (.lst ys))) (tCons (tE X.K true f) tNil))) : PE X e (tF X.K c (fList f)) := pe_w h fun σ H Q ⟨S0, H0, A, env, d, E, hf, q⟩ => by
  unfold fList at hf
  split at hf
  · rename_i ds hd
    cases hf
    refine ⟨S0, H0, A, env, _, E, hd, fun v H1 s r => ?_⟩
    rw [Rp] at r
    obtain ⟨a, xs, rfl, hs, ra⟩ := r
    exact ⟨a, xs, rfl, .inl hs.sq, fun l hl => q l xs _ (s.free hl) (s.trans (same_new hl)) upd_same ((ra.wide fun _ z => sc_cl (cl_sc z)).apart hl (same_new hl))⟩
  · rename_i ds hd
    cases hf
    refine ⟨S0, H0, A, env, _, E, hd, fun v H1 s r => ?_⟩
    rw [Rp] at r
    obtain ⟨a, xs, rfl, hs, ra⟩ := r
    exact ⟨a, xs, rfl, .inr (live_t hs), fun l hl => q l xs _ (s.free hl) (s.trans (same_new hl)) upd_same ((ra.wide fun _ z => sc_cl (cl_sc z)).apart hl (same_new hl))⟩
  · cases hf
/-! max, min -/
def intsD : List PyData → Option (List Int)
  | [] => some []
  | .int i :: ds => match intsD ds with
    | some ns => some (i :: ns)
    | none => none
  | _ :: _ => none
theorem intsD_rp {K : PySem.W.Frag} {S : Addr → Prop} {H : Hp} : ∀ {ds : List PyData} {ns : List Int} {xs : List V}, intsD ds = some ns → RpA K S H ds xs → xs = ns.map V.int ∧ ds = ns.map PyData.int
  | [], ns, xs, h, r => by
    rw [RpA] at r
    cases h
    exact ⟨r, rfl⟩
  | .int i :: ds, ns, xs, h, r => by
    rw [RpA] at r
    obtain ⟨v, r', rfl, h1, h2⟩ := r
    rw [Rp] at h1
    simp only [intsD] at h
    split at h
    · rename_i ms hm
      cases h
      obtain ⟨e1, e2⟩ := intsD_rp hm h2
      subst h1
      exact ⟨by rw [e1]; rfl, by rw [e2]; rfl⟩
    · cases h
  | .none :: _, _, _, h, _ => by cases h
  | .bool _ :: _, _, _, h, _ => by cases h
  | .str _ :: _, _, _, h, _ => by cases h
  | .list _ :: _, _, _, h, _ => by cases h
  | .tuple _ :: _, _, _, h, _ => by cases h
  | .dict _ :: _, _, _, h, _ => by cases h
def mxI : Int → List Int → Int
  | m, [] => m
  | m, x :: xs => mxI (if x > m then x else m) xs
def mnI : Int → List Int → Int
  | m, [] => m
  | m, x :: xs => mnI (if x < m then x else m) xs
theorem mxI_spec : ∀ (xs : List Int) (m : Int), mxI m xs ∈ m :: xs ∧ ∀ y ∈ m :: xs, y ≤ mxI m xs
  | [], m => ⟨List.mem_cons_self, fun y h => by simp at h; rw [h]; exact Int.le_refl _⟩
  | x :: xs, m => by
    obtain ⟨h1, h2⟩ := mxI_spec xs (if x > m then x else m)
    refine ⟨?_, fun y h => ?_⟩
    · show mxI (if x > m then x else m) xs ∈ _
      rcases List.mem_cons.mp h1 with h | h
      · rw [h]
        split <;> simp
      · exact List.mem_cons_of_mem _ (List.mem_cons_of_mem _ h)
    · show y ≤ mxI (if x > m then x else m) xs
      have h3 := h2 (if x > m then x else m) List.mem_cons_self
      rcases List.mem_cons.mp h with h | h
      · subst h
        split at h3 <;> (split <;> omega)
      · rcases List.mem_cons.mp h with h | h
        · subst h
          split at h3 <;> (split <;> omega)
        · exact h2 y (List.mem_cons_of_mem _ h)
theorem mnI_spec : ∀ (xs : List Int) (m : Int), mnI m xs ∈ m :: xs ∧ ∀ y ∈ m :: xs, mnI m xs ≤ y
  | [], m => ⟨List.mem_cons_self, fun y h => by simp at h; rw [h]; exact Int.le_refl _⟩
  | x :: xs, m => by
    obtain ⟨h1, h2⟩ := mnI_spec xs (if x < m then x else m)
    refine ⟨?_, fun y h => ?_⟩
    · show mnI (if x < m then x else m) xs ∈ _
      rcases List.mem_cons.mp h1 with h | h
      · rw [h]
        split <;> simp
      · exact List.mem_cons_of_mem _ (List.mem_cons_of_mem _ h)
    · show mnI (if x < m then x else m) xs ≤ y
      have h3 := h2 (if x < m then x else m) List.mem_cons_self
      rcases List.mem_cons.mp h with h | h
      · subst h
        split at h3 <;> (split <;> omega)
      · rcases List.mem_cons.mp h with h | h
        · subst h
          split at h3 <;> (split <;> omega)
        · exact h2 y (List.mem_cons_of_mem _ h)
def mx1 (k : Int → List Int → Int) : List PyData → Option PyData
  | [.list ds] => match intsD ds with
    | some (n :: ns) => some (.int (k n ns))
    | _ => none
  | _ => none
theorem cr_mx {K : PySem.W.Frag} : CROk K true (rMax K) (mx1 mxI) := by
  intro S S' H vs ds d Q _ _ r h q
  unfold mx1 at h
  split at h
  · replace r := r.one
    obtain ⟨v, rfl, r⟩ := r
    rw [Rp] at r
    obtain ⟨a, xs, rfl, hs, ra⟩ := r
    split at h
    · rename_i n ns hi
      cases h
      obtain ⟨e1, _⟩ := intsD_rp hi ra
      subst e1
      refine ⟨a, n :: ns, rfl, hs.sq, Nat.zero_lt_succ _, fun m hm hy => ?_⟩
      obtain ⟨k1, k2⟩ := mxI_spec ns n
      have e : m = mxI n ns := Int.le_antisymm (k2 m hm) (hy _ k1)
      rw [e]
      exact q _ H (Same.refl H) rp1
    · cases h
  · cases h
theorem cr_mn {K : PySem.W.Frag} : CROk K true (rMin K) (mx1 mnI) := by
  intro S S' H vs ds d Q _ _ r h q
  unfold mx1 at h
  split at h
  · replace r := r.one
    obtain ⟨v, rfl, r⟩ := r
    rw [Rp] at r
    obtain ⟨a, xs, rfl, hs, ra⟩ := r
    split at h
    · rename_i n ns hi
      cases h
      obtain ⟨e1, _⟩ := intsD_rp hi ra
      subst e1
      refine ⟨a, n :: ns, rfl, hs.sq, Nat.zero_lt_succ _, fun m hm hy => ?_⟩
      obtain ⟨k1, k2⟩ := mnI_spec ns n
      have e : m = mnI n ns := Int.le_antisymm (hy _ k1) (k2 m hm)
      rw [e]
      exact q _ H (Same.refl H) rp1
    · cases h
  · cases h
def mx2 : List PyData → Option PyData
  | [.int i, .int j] => some (.int (if j > i then j else i))
  | _ => none
def mn2 : List PyData → Option PyData
  | [.int i, .int j] => some (.int (if j < i then j else i))
  | _ => none
theorem cr_mx2 {K : PySem.W.Frag} : CROk K true (fun xs H Q => ∃ i j, xs = [.int i, .int j] ∧ Q (.int (if j > i then j else i)) H) mx2 := by
  intro S S' H vs ds d Q _ _ r h q
  unfold mx2 at h
  split at h
  · cases h
    obtain ⟨v, u, rfl, r1, r2⟩ := r.two
    rw [Rp] at r1 r2
    subst r1 r2
    exact ⟨_, _, rfl, q _ H (Same.refl H) rp1⟩
  · cases h
theorem cr_mn2 {K : PySem.W.Frag} : CROk K true (fun xs H Q => ∃ i j, xs = [.int i, .int j] ∧ Q (.int (if j < i then j else i)) H) mn2 := by
  intro S S' H vs ds d Q _ _ r h q
  unfold mn2 at h
  split at h
  · cases h
    obtain ⟨v, u, rfl, r1, r2⟩ := r.two
    rw [Rp] at r1 r2
    subst r1 r2
    exact ⟨_, _, rfl, q _ H (Same.refl H) rp1⟩
  · cases h
/-- max(xs, default=d), min likewise: ints -/
def rMxD (K : PySem.W.Frag) (k : Int → List Int → Int) : List V → List V → Hp → VK → Prop := fun vs zs H Q => ∃ a ns y, vs = [.ref a] ∧ zs = [y] ∧ SqL K H a (ns.map V.int) ∧ (match ns with
  | [] => Q y H
  | n :: ns => Q (.int (k n ns)) H)
theorem readsInts {h : Heap} : ∀ {ns : List Int} {us : List Value}, Vals (ns.map V.int) us → ∃ as, ReadsAll h us (ns.map PyData.int) as
  | [], _, r => by
    cases r
    exact ⟨_, ReadsAll.nil⟩
  | n :: ns, _, r => by
    cases r with
    | cons r1 r2 =>
      obtain ⟨t, rfl⟩ := r1
      obtain ⟨as, h2⟩ := readsInts r2
      exact ⟨_, ReadsAll.cons (Reads.int n t) h2⟩
theorem mxI_max : ∀ (ns : List Int) (n : Int), ns.foldl max n = mxI n ns
  | [], _ => rfl
  | x :: ns, n => by
    show ns.foldl max (max n x) = mxI (if x > n then x else n) ns
    rw [mxI_max ns]
    congr 1
    by_cases h : x > n
    · rw [if_pos h]; omega
    · rw [if_neg h]; omega
theorem mnI_min : ∀ (ns : List Int) (n : Int), ns.foldl min n = mnI n ns
  | [], _ => rfl
  | x :: ns, n => by
    show ns.foldl min (min n x) = mnI (if x < n then x else n) ns
    rw [mnI_min ns]
    congr 1
    by_cases h : x < n
    · rw [if_pos h]; omega
    · rw [if_neg h]; omega
theorem alike_ints (ns : List Int) : PySem.W.AlikeAll (ns.map PyData.int) := PySem.W.alikeAll_datum (α := Int) ns
theorem depth_ints : ∀ (ns : List Int), PyData.depthAll (ns.map PyData.int) = 0
  | [] => by simp [PyData.depthAll]
  | n :: ns => by simp [PyData.depthAll, PyData.depth, depth_ints ns]
theorem reads_int {h : Heap} {u : Value} {i : Int} {as : List Addr} (r : Reads h u (.int i) as) : ∃ t, u = .int i t := by
  cases r
  exact ⟨_, rfl⟩
theorem call_mxD (hc : X.calm = true) (hu : X.A.units + 64 < cLine) : CallRK X (.builtin "max") [Str.ofString "default"] (rMxD X.K mxI) := by
  intro pins s σ H vs zs us ws Q I r rz h
  obtain ⟨a, ns, y, rfl, rfl, hs, q⟩ := h
  obtain ⟨its, rv, hl, _⟩ := I.list hs
  rw [Vals.ref1 r]
  obtain ⟨u, rfl, ru⟩ := vals1 rz
  obtain ⟨as, ra⟩ := readsInts (h := s.heap) rv
  refine PySem.W.max_list_default (I.ok.hd hc) hl.isList (by rw [List.toList_toArray]; exact ra) (alike_ints ns) (by rw [depth_ints]; omega) (fun e h' tk k => ?_) fun z zs i v h' tk bs e hi rr k => ?_
  · cases ns with
    | nil => exact ⟨y, H, I.kept (t' := tk) k, ru, q⟩
    | cons _ _ => cases e
  · cases ns with
    | nil => cases e
    | cons n ns =>
      cases e
      rw [PySem.W.maxD_ints] at rr
      obtain ⟨t, rfl⟩ := reads_int rr
      exact ⟨.int _, H, I.kept (t' := tk) k, ⟨_, rfl⟩, by rw [mxI_max]; exact q⟩
theorem call_mnD (hc : X.calm = true) (hu : X.A.units + 64 < cLine) : CallRK X (.builtin "min") [Str.ofString "default"] (rMxD X.K mnI) := by
  intro pins s σ H vs zs us ws Q I r rz h
  obtain ⟨a, ns, y, rfl, rfl, hs, q⟩ := h
  obtain ⟨its, rv, hl, _⟩ := I.list hs
  rw [Vals.ref1 r]
  obtain ⟨u, rfl, ru⟩ := vals1 rz
  obtain ⟨as, ra⟩ := readsInts (h := s.heap) rv
  refine PySem.W.min_list_default (I.ok.hd hc) hl.isList (by rw [List.toList_toArray]; exact ra) (alike_ints ns) (by rw [depth_ints]; omega) (fun e h' tk k => ?_) fun z zs i v h' tk bs e hi rr k => ?_
  · cases ns with
    | nil => exact ⟨y, H, I.kept (t' := tk) k, ru, q⟩
    | cons _ _ => cases e
  · cases ns with
    | nil => cases e
    | cons n ns =>
      cases e
      rw [PySem.W.minD_ints] at rr
      obtain ⟨t, rfl⟩ := reads_int rr
      exact ⟨.int _, H, I.kept (t' := tk) k, ⟨_, rfl⟩, by rw [mnI_min]; exact q⟩
def eMxD (k : Int → List Int → Int) (f g : En → Option PyData) : En → Option PyData := fun env => match f env with
  | some (.list ds) => match g env with
    | some d => match intsD ds with
      | some [] => some d
      | some (n :: ns) => some (.int (k n ns))
      | none => none
    | none => none
  | _ => none
theorem ce_mxD {k : Int → List Int → Int} (h : PE X e (tCKw (rMxD X.K k) (tCons (tE X.K c1 f) tNil) (tCons (tE X.K c g) tNil))) : PE X e (tE X.K c (eMxD k f g)) := pe_w h fun σ H Q ⟨S0, H0, A, env, d, E, hf, q⟩ => by
  unfold eMxD at hf
  split at hf
  · rename_i ds hd
    split at hf
    · rename_i d2 hd2
      refine ⟨S0, H0, A, env, _, E, hd, fun v H1 s r => ⟨S0, H0, A, env, d2, E.grow s, hd2, fun u H2 s2 r2 => ?_⟩⟩
      rw [Rp] at r
      obtain ⟨a, xs, rfl, hs, ra⟩ := r
      split at hf
      · rename_i hi
        cases hf
        obtain ⟨e1, _⟩ := intsD_rp hi ra
        subst e1
        exact ⟨a, [], u, rfl, rfl, s2.seq hs.sq, q u H2 (s.trans s2) r2⟩
      · rename_i n ns hi
        cases hf
        obtain ⟨e1, _⟩ := intsD_rp hi ra
        subst e1
        exact ⟨a, n :: ns, u, rfl, rfl, s2.seq hs.sq, q _ H2 (s.trans s2) rp1⟩
      · cases hf
    · cases hf
  · cases hf
/-! isinstance(x, T), T a built-in class -/
def tyD : PyData → String
  | .none => "NoneType"
  | .bool _ => "bool"
  | .int _ => "int"
  | .str _ => "str"
  | .list _ => "list"
  | .tuple _ => "tuple"
  | .dict _ => "dict"
theorem tyX_of {K : PySem.W.Frag} {S : Addr → Prop} {H : Hp} {d : PyData} {v : V} (nd : tyD d ≠ "dict") (r : Rp K S H d v) : TyX K H v (.type (tyD d)) := by
  cases d with
  | none => rw [Rp] at r; subst r; exact .base .non
  | bool k => rw [Rp] at r; subst r; exact .base (.bl k)
  | int k => rw [Rp] at r; subst r; exact .base (.int k)
  | str k => rw [Rp] at r; subst r; exact .base (.str k)
  | list ds =>
    rw [Rp] at r
    obtain ⟨a, xs, rfl, hs, _⟩ := r
    rcases hs with ⟨_, hs | ⟨o, hs⟩⟩ | ⟨o, its, n, hk, hc, _⟩
    · exact .base (.lst hs)
    · exact .base (.frz hs)
    · exact .kList hk hc
  | tuple ds =>
    rw [Rp] at r
    obtain ⟨a, xs, rfl, hs, _⟩ := r
    exact .base (.tup hs)
  | dict k => exact absurd rfl nd
def isiB (T t : String) : Option Bool :=
  if T = "list" then (if t = "NoneType" ∨ t = "bool" ∨ t = "int" ∨ t = "str" ∨ t = "tuple" then some false else if t = "list" then some true else none)
  else if T = "tuple" then (if t = "NoneType" ∨ t = "bool" ∨ t = "int" ∨ t = "str" ∨ t = "list" then some false else if t = "tuple" then some true else none)
  else if T = "bool" then (if t = "NoneType" ∨ t = "tuple" ∨ t = "int" ∨ t = "str" ∨ t = "list" then some false else if t = "bool" then some true else none)
  else if T = "str" then (if t = "NoneType" ∨ t = "tuple" ∨ t = "int" ∨ t = "bool" ∨ t = "list" then some false else if t = "str" then some true else none)
  else if T = "int" then (if t = "NoneType" ∨ t = "tuple" ∨ t = "str" ∨ t = "list" then some false else if t = "int" ∨ t = "bool" then some true else none)
  else none
theorem isiB_kit {T t : String} {b : Bool} (h : isiB T t = some b) : kitB t T = some b := by
  unfold isiB at h
  repeat' (split at h)
  all_goals first
    | (cases h; done)
    | (rename_i z; cases h; rcases z with z | z | z | z | z <;> (subst_vars; decide +kernel))
    | (rename_i z; cases h; rcases z with z | z | z | z <;> (subst_vars; decide +kernel))
    | (rename_i z; cases h; rcases z with z | z <;> (subst_vars; decide +kernel))
    | (rename_i z; cases h; subst_vars; decide +kernel)
theorem isiB_dict (T : String) : isiB T "dict" = none := by
  unfold isiB
  repeat' split
  all_goals first | rfl | (rename_i z; exfalso; revert z; decide)
def eIsi (T : String) (f : En → Option PyData) : En → Option PyData := fun env => match f env with
  | some d => (isiB T (tyD d)).map .bool
  | none => none
theorem ce_isi {T : String} (h : PE X e (tCB (rIsi X.K) (tCons (tE X.K c f) (tCons (tC (.ty T)) tNil)))) : PE X e (tE X.K true (eIsi T f)) := pe_w h fun σ H Q ⟨S0, H0, A, env, d, E, hf, q⟩ => by
  unfold eIsi at hf
  split at hf
  · rename_i d' hd
    cases hb : isiB T (tyD d') with
    | none => rw [hb] at hf; cases hf
    | some b =>
      rw [hb] at hf
      cases hf
      refine ⟨S0, H0, A, env, d', E, hd, fun v H1 s r => ?_⟩
      exact ⟨v, .ty T, _, _, b, rfl, .ty T, tyX_of (fun e => by rw [e, isiB_dict] at hb; cases hb) r, kit_ty (isiB_kit hb), q _ H1 s rpb⟩
  · cases hf
/-! sep.join(xs) -/
def strsD : List PyData → Option (List Str)
  | [] => some []
  | .str i :: ds => match strsD ds with
    | some ns => some (i :: ns)
    | none => none
  | _ :: _ => none
theorem strsD_rp {K : PySem.W.Frag} {S : Addr → Prop} {H : Hp} : ∀ {ds : List PyData} {ns : List Str} {xs : List V}, strsD ds = some ns → RpA K S H ds xs → xs = ns.map V.str
  | [], ns, xs, h, r => by
    rw [RpA] at r
    cases h
    exact r
  | .str i :: ds, ns, xs, h, r => by
    rw [RpA] at r
    obtain ⟨v, r', rfl, h1, h2⟩ := r
    rw [Rp] at h1
    simp only [strsD] at h
    split at h
    · rename_i ms hm
      cases h
      have e1 := strsD_rp hm h2
      subst h1
      rw [e1]; rfl
    · cases h
  | .none :: _, _, _, h, _ => by cases h
  | .bool _ :: _, _, _, h, _ => by cases h
  | .int _ :: _, _, _, h, _ => by cases h
  | .list _ :: _, _, _, h, _ => by cases h
  | .tuple _ :: _, _, _, h, _ => by cases h
  | .dict _ :: _, _, _, h, _ => by cases h
def eJoin (f g : En → Option PyData) : En → Option PyData := e2 (fun s d => match s with
  | .str a => match (match d with | .list ds => strsD ds | .tuple ds => strsD ds | _ => none) with
    | some ys => if (ys.map (·.length)).sum + ys.length * a.length ≤ 1000000 then some (.str (Txt.join a ys)) else none
    | none => none
  | _ => none) f g
theorem ce_join {t : TE} (h : PE X e (tM1 (fun x xs H Q => ∃ a p, ∃ ys : List Str, x = .str a ∧ xs = [.ref p] ∧ (SqL X.K H p (ys.map V.str) ∨ SqT X.K H p (ys.map V.str)) ∧ (ys.map (·.length)).sum + ys.length * a.length ≤ 16777216 ∧ Q (.str (Txt.join a ys)) H) (tE X.K c1 f) (tE X.K c2 g))) :
    PE X e (tE X.K true (eJoin f g)) := pe_w h fun σ H Q ⟨S0, H0, A, env, d, E, hf, q⟩ => by
  obtain ⟨x, y, h1, h2, h3⟩ := e2_some hf
  refine ⟨S0, H0, A, env, x, E, h1, fun v H1 s1 r1 => ?_⟩
  cases x with
  | str a =>
    rw [Rp] at r1
    subst r1
    refine ⟨⟨a, rfl⟩, S0, H0, A, env, y, E.grow s1, h2, fun u H2 s2 r2 => ?_⟩
    dsimp only at h3
    split at h3
    · rename_i ys hy
      split at h3
      · rename_i hl
        cases h3
        cases y with
        | list ds =>
          rw [Rp] at r2
          obtain ⟨p, xs, rfl, hs, ra⟩ := r2
          have e1 := strsD_rp hy ra
          subst e1
          exact ⟨a, p, ys, rfl, rfl, .inl hs.sq, by omega, q _ H2 (s1.trans s2) rps⟩
        | tuple ds =>
          rw [Rp] at r2
          obtain ⟨p, xs, rfl, hs, ra⟩ := r2
          have e1 := strsD_rp hy ra
          subst e1
          exact ⟨a, p, ys, rfl, rfl, .inr (live_t hs), by omega, q _ H2 (s1.trans s2) rps⟩
        | _ => cases hy
      · cases h3
    · cases h3
  | _ => cases h3
end
end Mir

namespace Mir
open PySem PySem.Spec PyProof.Rows L2

section
variable {X : Cx} {a b e : Expr} {es : List Expr} {pos p : Pos} {c c1 c2 : Bool} {f g : En → Option PyData} {fa : En → Option (List PyData)} {fb : En → Option Bool} {K : PySem.W.Frag}
/-! ### + -/
theorem cat_lists {prog : Program} {w : World} {A : Around} {E : Value → Shared → Prop} {s : Shared} {l b : Addr} {us ws : Array Value} {Q : Value → Shared → Prop} (hl : s.heap.IsList l us) (hb : s.heap.IsList b ws)
    (h : Q (.ref s.heap.objs.size) { s with heap := s.heap.push { cls := .type "list", data := .seq (us ++ ws) } }) (hz : us.size + ws.size ≤ sizeLine) : wpAny (model prog w) A (binaryOp .Add (.ref l) (.ref b)) Q E s := by
  rcases hl with ⟨⟨k1, d1, x1, t1⟩, g1, rfl, n1, y1⟩
  rcases hb with ⟨⟨k2, d2, x2, t2⟩, g2, rfl, n2, y2⟩
  dsimp only at y1 y2
  subst y1 y2
  exact concat_meets ⟨_, g1, rfl⟩ ⟨_, g2, rfl⟩ noFill_list_add seq_list_add PySem.F.slot_list_add PySem.F.entry_list_add (PySem.F.args_list_add_2 _ _)
    (list_addW l b us ws n1 n2 d1 d2 t1 t2 hz) ⟨g1, g2, h⟩
def rCatR (K : PySem.W.Frag) : R2 := fun x y H Q => ∃ l b xs zs, x = .ref l ∧ y = .ref b ∧ SqL K H l xs ∧ SqL K H b zs ∧ xs.length + zs.length ≤ sizeLine ∧ ∀ p, H p = none → Q (.ref p) (upd H p (.lst (xs ++ zs)))
theorem op_catR : OpR X (binaryOp .Add) (rCatR X.K) := by
  intro pins s σ H x y v u Q I rx ry h
  obtain ⟨l, b, xs, zs, rfl, rfl, h1, h2, hz, q⟩ := h
  cases rx
  cases ry
  obtain ⟨i1, r1, p1, _⟩ := I.list h1
  obtain ⟨i2, r2, p2, _⟩ := I.list h2
  have l1 := r1.length
  have l2 := r2.length
  refine cat_lists p1.isList p2.isList ?_ (by rw [List.size_toArray, List.size_toArray]; omega)
  have ea : i1.toArray ++ i2.toArray = (i1 ++ i2).toArray := by simp
  rw [ea]
  exact ⟨.ref s.heap.objs.size, _, I.lnew (t' := s.toks) (r1.append r2) (by rw [List.length_append]; omega), rfl, q _ I.fresh⟩
def rAddX (K : PySem.W.Frag) : R2 := fun x y H Q => (∃ i j, x = .int i ∧ y = .int j ∧ Q (.int (i + j)) H) ∨ (∃ i j, x = .str i ∧ y = .str j ∧ i.length + j.length ≤ sizeLine ∧ Q (.str (i ++ j)) H) ∨ rCatA K x y H Q ∨ rCatR K x y H Q
theorem op_addX : OpR X (binaryOp .Add) (rAddX X.K) := by
  intro pins s σ H x y v u Q I rx ry h
  rcases h with h | h | h | h
  · exact op_add pins s σ H x y v u Q I rx ry h
  · exact op_add_str pins s σ H x y v u Q I rx ry h
  · exact op_catA pins s σ H x y v u Q I rx ry h
  · exact op_catR pins s σ H x y v u Q I rx ry h
def addD : PyData → PyData → Option PyData
  | .int i, .int j => some (.int (i + j))
  | .str x, .str y => if x.length + y.length ≤ 1000000 then some (.str (x ++ y)) else none
  | .tuple xs, .tuple ys => if xs.length + ys.length ≤ 1000000 then some (.tuple (xs ++ ys)) else none
  | .list xs, .list ys => if xs.length + ys.length ≤ 1000000 then some (.list (xs ++ ys)) else none
  | _, _ => none
theorem r2_add : R2Ok K false (rAddX K) addD := by
  intro S S' H x y dx dy d Q hn hS rx ry h q
  have hS' : S' = S := hS.elim (fun z => nomatch z) id
  subst hS'
  unfold addD at h
  split at h
  · cases h
    rw [Rp] at rx ry
    subst rx ry
    exact .inl ⟨_, _, rfl, rfl, q _ H (Same.refl H) rp1⟩
  · split at h
    · rename_i hl
      cases h
      rw [Rp] at rx ry
      subst rx ry
      exact .inr (.inl ⟨_, _, rfl, rfl, sz6 hl, q _ H (Same.refl H) rps⟩)
    · cases h
  · rename_i xs ys
    split at h
    · rename_i hl
      cases h
      have rx' := rx
      have ry' := ry
      rw [Rp] at rx ry
      obtain ⟨l, us, rfl, h1, r1⟩ := rx
      obtain ⟨m, vs, rfl, h2, r2⟩ := ry
      have l1 := r1.length
      have l2 := r2.length
      refine .inr (.inr (.inl ⟨l, m, us, vs, rfl, rfl, live_t h1, live_t h2, by rw [l1, l2]; exact sz6 hl, fun e => ?_, fun n e => ?_, fun n1 n2 p hp => ?_⟩))
      · have e1 : xs = [] := List.eq_nil_of_length_eq_zero (by rw [← l1, e]; rfl)
        subst e1
        exact q _ H (Same.refl H) ry'
      · have e1 : ys = [] := List.eq_nil_of_length_eq_zero (by rw [← l2, e]; rfl)
        subst e1
        rw [List.append_nil] at q
        exact q _ H (Same.refl H) rx'
      · refine q _ _ (same_new hp) ?_
        rw [Rp]
        exact ⟨p, _, rfl, upd_same, (r1.append r2).grow (same_new hp)⟩
    · cases h
  · split at h
    · rename_i hl
      cases h
      rw [Rp] at rx ry
      obtain ⟨l, us, rfl, h1, r1⟩ := rx
      obtain ⟨m, vs, rfl, h2, r2⟩ := ry
      refine .inr (.inr (.inr ⟨l, m, us, vs, rfl, rfl, h1.sq, h2.sq, by rw [r1.length, r2.length]; exact sz6 hl, fun p hp => q _ _ (same_new hp) ?_⟩))
      rw [Rp]
      exact ⟨p, _, rfl, .inl ⟨hn p hp, .inl upd_same⟩, (r1.append r2).grow (same_new hp)⟩
    · cases h
  · cases h
theorem ce_add (ha : PE X a (tE X.K c f)) (hb : PE X b (tE X.K c g)) : PE X (.BinOp a .Add b pos) (tE X.K c (e2 addD f g)) := ce_op op_addX r2_add ha hb
/-- list + list, fresh -/
def fCat (f g : En → Option PyData) : En → Option (List PyData) := fun env => match f env with
  | some (.list xs) => match g env with
    | some (.list ys) => if xs.length + ys.length ≤ 1000000 then some (xs ++ ys) else none
    | _ => none
  | _ => none
theorem cf_cat (ha : PE X a (tE X.K true f)) (hb : PE X b (tE X.K true g)) : PE X (.BinOp a .Add b pos) (tF X.K c (fCat f g)) := pe_w (pe_op op_catR ha hb) fun σ H Q ⟨S0, H0, A, env, d, E, hf, q⟩ => by
  unfold fCat at hf
  split at hf
  · rename_i xs h1
    split at hf
    · rename_i ys h2
      split at hf
      · rename_i hl
        cases hf
        refine ⟨S0, H0, A, env, _, E, h1, fun v H1 s1 r1 => ⟨S0, H0, A, env, _, E.grow s1, h2, fun u H2 s2 r2 => ?_⟩⟩
        rw [Rp] at r1 r2
        obtain ⟨l, us, rfl, k1, q1⟩ := r1
        obtain ⟨m, vs, rfl, k2, q2⟩ := r2
        refine ⟨l, m, us, vs, rfl, rfl, s2.seq k1.sq, k2.sq, by rw [q1.length, q2.length]; exact sz6 hl, fun p hp => q p _ _ ((s1.trans s2).free hp) ((s1.trans s2).trans (same_new hp)) upd_same ?_⟩
        exact (((q1.grow s2).append q2).wide fun _ z => sc_cl (cl_sc z)).apart hp (same_new hp)
      · cases hf
    · cases hf
  · cases hf

/-! ### ints -/
def i2 (h : Int → Int → Option PyData) : PyData → PyData → Option PyData
  | .int i, .int j => h i j
  | _, _ => none
theorem r2_I {C : Int → Int → Prop} [DecidableRel C] {k : Int → Int → Int} : R2Ok K true (rI C fun i j => .int (k i j)) (i2 fun i j => if C i j then some (.int (k i j)) else none) := by
  intro S S' H x y dx dy d Q hn hS rx ry h q
  unfold i2 at h
  split at h
  · dsimp only at h
    split at h
    · rename_i hc
      cases h
      rw [Rp] at rx ry
      subst rx ry
      exact ⟨_, _, rfl, rfl, hc, q _ H (Same.refl H) rp1⟩
    · cases h
  · cases h
theorem r2_I0 {k : Int → Int → Int} : R2Ok K true (rI0 fun i j => .int (k i j)) (i2 fun i j => some (.int (k i j))) := by
  intro S S' H x y dx dy d Q hn hS rx ry h q
  unfold i2 at h
  split at h
  · cases h
    rw [Rp] at rx ry
    subst rx ry
    exact ⟨_, _, rfl, rfl, q _ H (Same.refl H) rp1⟩
  · cases h
theorem r2_B0 {k : Int → Int → Bool} : R2Ok K true (rI0 fun i j => .bl (k i j)) (i2 fun i j => some (.bool (k i j))) := by
  intro S S' H x y dx dy d Q hn hS rx ry h q
  unfold i2 at h
  split at h
  · cases h
    rw [Rp] at rx ry
    subst rx ry
    exact ⟨_, _, rfl, rfl, q _ H (Same.refl H) rpb⟩
  · cases h
instance : DecidableRel CMul := fun i j => by unfold CMul; infer_instance
instance : DecidableRel CDiv := fun i j => by unfold CDiv; infer_instance
instance : DecidableRel CPow := fun i j => by unfold CPow; infer_instance
def subD : PyData → PyData → Option PyData := i2 fun i j => some (.int (i - j))
def mulD : PyData → PyData → Option PyData := i2 fun i j => if CMul i j then some (.int (i * j)) else none
def divD : PyData → PyData → Option PyData := i2 fun i j => if CDiv i j then some (.int (i / j)) else none
def modD : PyData → PyData → Option PyData := i2 fun i j => if 0 < j then some (.int (i % j)) else none
def powD : PyData → PyData → Option PyData := i2 fun i j => if CPow i j then some (.int (i ^ j.toNat)) else none
theorem ce_sub (ha : PE X a (tE X.K c f)) (hb : PE X b (tE X.K c g)) : PE X (.BinOp a .Sub b pos) (tE X.K true (e2 subD f g)) := ce_op op_sub r2_I0 ha hb
theorem ce_mul (ha : PE X a (tE X.K c f)) (hb : PE X b (tE X.K c g)) : PE X (.BinOp a .Mult b pos) (tE X.K true (e2 mulD f g)) := ce_op op_mul r2_I ha hb
theorem ce_div (ha : PE X a (tE X.K c f)) (hb : PE X b (tE X.K c g)) : PE X (.BinOp a .FloorDiv b pos) (tE X.K true (e2 divD f g)) := ce_op op_fdiv r2_I ha hb
theorem ce_mod (ha : PE X a (tE X.K c f)) (hb : PE X b (tE X.K c g)) : PE X (.BinOp a .Mod b pos) (tE X.K true (e2 modD f g)) := ce_op op_mod r2_I ha hb
theorem ce_pow (ha : PE X a (tE X.K c f)) (hb : PE X b (tE X.K c g)) : PE X (.BinOp a .Pow b pos) (tE X.K true (e2 powD f g)) := ce_op op_pow r2_I ha hb
def negD : PyData → Option PyData
  | .int i => some (.int (-i))
  | _ => none
def e1 (h : PyData → Option PyData) (f : En → Option PyData) : En → Option PyData := fun env => match f env with
  | some d => h d
  | none => none
theorem ce_neg (ha : PE X a (tE X.K c f)) : PE X (.UnaryOp .USub a pos) (tE X.K true (e1 negD f)) := pe_w (pe_un un_neg ha) fun σ H Q ⟨S0, H0, A, env, d, E, hf, q⟩ => by
  unfold e1 at hf
  split at hf
  · rename_i x hx
    cases x with
    | int i =>
      cases hf
      refine ⟨S0, H0, A, env, _, E, hx, fun v H1 s r => ?_⟩
      rw [Rp] at r
      subst r
      exact ⟨_, rfl, q _ H1 s rp1⟩
    | _ => cases hf
  · cases hf

/-! ### comparisons -/
def ltD : PyData → PyData → Option PyData := i2 fun i j => some (.bool (decide (i < j)))
def leD : PyData → PyData → Option PyData := i2 fun i j => some (.bool (decide (i ≤ j)))
def gtD : PyData → PyData → Option PyData := i2 fun i j => some (.bool (decide (j < i)))
def geD : PyData → PyData → Option PyData := i2 fun i j => some (.bool (decide (j ≤ i)))
theorem ce_lt (ha : PE X a (tE X.K c f)) (hb : PE X b (tE X.K c g)) : PE X (.Compare a [.Lt] [b] pos) (tE X.K true (e2 ltD f g)) := ce_cmp op_lt r2_B0 ha hb (nomark _)
theorem ce_le (ha : PE X a (tE X.K c f)) (hb : PE X b (tE X.K c g)) : PE X (.Compare a [.LtE] [b] pos) (tE X.K true (e2 leD f g)) := ce_cmp op_le r2_B0 ha hb (nomark _)
theorem ce_gt (ha : PE X a (tE X.K c f)) (hb : PE X b (tE X.K c g)) : PE X (.Compare a [.Gt] [b] pos) (tE X.K true (e2 gtD f g)) := ce_cmp op_gt r2_B0 ha hb (nomark _)
theorem ce_ge (ha : PE X a (tE X.K c f)) (hb : PE X b (tE X.K c g)) : PE X (.Compare a [.GtE] [b] pos) (tE X.K true (e2 geD f g)) := ce_cmp op_ge r2_B0 ha hb (nomark _)
def eqD : PyData → PyData → Option PyData := fun x y => if (SeqAt.shaped x && SeqAt.shaped y) = true then some (.bool (PyData.eqv x y)) else none
def neD : PyData → PyData → Option PyData := fun x y => if (SeqAt.shaped x && SeqAt.shaped y) = true then some (.bool (!PyData.eqv x y)) else none
theorem r2_eq : R2Ok K true (rEqD K) eqD := by
  intro S S' H x y dx dy d Q hn hS rx ry h q
  unfold eqD at h
  split at h
  · rename_i hs
    rw [Bool.and_eq_true] at hs
    cases h
    exact ⟨dx, dy, rx.dp hs.1, ry.dp hs.2, hs.1, hs.2, q _ H (Same.refl H) rpb⟩
  · cases h
theorem r2_ne : R2Ok K true (rNeD K) neD := by
  intro S S' H x y dx dy d Q hn hS rx ry h q
  unfold neD at h
  split at h
  · rename_i hs
    rw [Bool.and_eq_true] at hs
    cases h
    exact ⟨dx, dy, rx.dp hs.1, ry.dp hs.2, hs.1, hs.2, q _ H (Same.refl H) rpb⟩
  · cases h
theorem ce_eq (hu : X.A.units + 64 < cLine) (ha : PE X a (tE X.K c f)) (hb : PE X b (tE X.K c g)) : PE X (.Compare a [.Eq] [b] pos) (tE X.K true (e2 eqD f g)) := ce_cmp (op_eqD hu) r2_eq ha hb (nomark _)
theorem ce_ne (hu : X.A.units + 64 < cLine) (ha : PE X a (tE X.K c f)) (hb : PE X b (tE X.K c g)) : PE X (.Compare a [.NotEq] [b] pos) (tE X.K true (e2 neD f g)) := ce_cmp (op_neD hu) r2_ne ha hb (nomark _)
def noneB : PyData → Bool
  | .none => true
  | _ => false
def isD : PyData → PyData → Option PyData
  | x, .none => some (.bool (noneB x))
  | _, _ => none
def isntD : PyData → PyData → Option PyData
  | x, .none => some (.bool (!noneB x))
  | _, _ => none
theorem noneB_rp {S : Addr → Prop} {H : Hp} {d : PyData} {v : V} (r : Rp K S H d v) : decide (v = .non) = noneB d := by
  cases d with
  | none => rw [Rp] at r; subst r; rfl
  | bool k => rw [Rp] at r; subst r; rfl
  | int k => rw [Rp] at r; subst r; rfl
  | str k => rw [Rp] at r; subst r; rfl
  | list ds => rw [Rp] at r; obtain ⟨a, xs, rfl, _⟩ := r; rfl
  | tuple ds => rw [Rp] at r; obtain ⟨a, xs, rfl, _⟩ := r; rfl
  | dict k => rw [Rp] at r; obtain ⟨a, od, rfl, _⟩ := r; rfl
theorem r2_is : R2Ok K true (fun x y H Q => y = .non ∧ Q (.bl (decide (x = .non))) H) isD := by
  intro S S' H x y dx dy d Q hn hS rx ry h q
  unfold isD at h
  split at h
  · cases h
    rw [Rp] at ry
    exact ⟨ry, by rw [noneB_rp rx]; exact q _ H (Same.refl H) rpb⟩
  · cases h
theorem r2_isnt : R2Ok K true (fun x y H Q => y = .non ∧ Q (.bl (!decide (x = .non))) H) isntD := by
  intro S S' H x y dx dy d Q hn hS rx ry h q
  unfold isntD at h
  split at h
  · cases h
    rw [Rp] at ry
    exact ⟨ry, by rw [noneB_rp rx]; exact q _ H (Same.refl H) rpb⟩
  · cases h
theorem ce_is (ha : PE X a (tE X.K c f)) (hb : PE X b (tE X.K c g)) : PE X (.Compare a [.Is] [b] pos) (tE X.K true (e2 isD f g)) := ce_cmp op_isN r2_is ha hb (nomark _)
theorem ce_isnt (ha : PE X a (tE X.K c f)) (hb : PE X b (tE X.K c g)) : PE X (.Compare a [.IsNot] [b] pos) (tE X.K true (e2 isntD f g)) := ce_cmp op_notN r2_isnt ha hb (nomark _)
/-! in: a list of data of any depth -/
def inD : PyData → PyData → Option PyData
  | x, .list ds => if (SeqAt.shaped x && SeqAt.shaped (.list ds)) = true then some (.bool (ds.any fun z => PyData.eqv z x)) else none
  | _, _ => none
def notInD : PyData → PyData → Option PyData
  | x, .list ds => if (SeqAt.shaped x && SeqAt.shaped (.list ds)) = true then some (.bool (!ds.any fun z => PyData.eqv z x)) else none
  | _, _ => none
theorem r2_in : R2Ok K true (rInD K) inD := by
  intro S S' H x y dx dy d Q hn hS rx ry h q
  unfold inD at h
  split at h
  · split at h
    · rename_i hs
      rw [Bool.and_eq_true] at hs
      cases h
      exact ⟨_, _, rx.dp hs.1, ry.dp hs.2, hs.1, hs.2, q _ H (Same.refl H) rpb⟩
    · cases h
  · cases h
theorem r2_notIn : R2Ok K true (rNotInD K) notInD := by
  intro S S' H x y dx dy d Q hn hS rx ry h q
  unfold notInD at h
  split at h
  · split at h
    · rename_i hs
      rw [Bool.and_eq_true] at hs
      cases h
      exact ⟨_, _, rx.dp hs.1, ry.dp hs.2, hs.1, hs.2, q _ H (Same.refl H) rpb⟩
    · cases h
  · cases h
theorem ce_in (hu : X.A.units + 65 < cLine) (ha : PE X a (tE X.K c f)) (hb : PE X b (tE X.K c g)) (hm : behindInMarks .In b = false) : PE X (.Compare a [.In] [b] pos) (tE X.K true (e2 inD f g)) := ce_cmp (op_inD hu) r2_in ha hb hm
theorem ce_notIn (hu : X.A.units + 65 < cLine) (ha : PE X a (tE X.K c f)) (hb : PE X b (tE X.K c g)) (hm : behindInMarks .NotIn b = false) : PE X (.Compare a [.NotIn] [b] pos) (tE X.K true (e2 notInD f g)) := ce_cmp (op_notInD hu) r2_notIn ha hb hm
/-! chains of ints: a < b < c -/
def chI (k1 k2 : Int → Int → Bool) (f g h : En → Option PyData) : En → Option PyData := fun env => match f env with
  | some (.int i) => match g env with
    | some (.int j) => if k1 i j = true then (match h env with
      | some (.int m) => some (.bool (k2 j m))
      | _ => none) else some (.bool false)
    | _ => none
  | _ => none
theorem ce_chain {k1 k2 : Int → Int → Bool} {h : En → Option PyData} (he : PE X e (tChain (rI0 fun i j => .bl (k1 i j)) (rI0 fun i j => .bl (k2 i j)) (tE X.K c f) (tE X.K c1 g) (tE X.K c2 h))) : PE X e (tE X.K true (chI k1 k2 f g h)) := pe_w he fun σ H Q ⟨S0, H0, A, env, d, E, hf, q⟩ => by
  unfold chI at hf
  split at hf
  · rename_i i hi
    split at hf
    · rename_i j hj
      refine ⟨S0, H0, A, env, _, E, hi, fun v H1 s1 r1 => ⟨S0, H0, A, env, _, E.grow s1, hj, fun u H2 s2 r2 => ?_⟩⟩
      rw [Rp] at r1 r2
      subst r1 r2
      refine ⟨i, j, rfl, rfl, k1 i j, rfl, ?_⟩
      by_cases hk : k1 i j = true
      · rw [if_pos hk] at hf
        rw [hk, if_pos rfl]
        split at hf
        · rename_i m hm
          cases hf
          refine ⟨S0, H0, A, env, _, (E.grow s1).grow s2, hm, fun w H3 s3 r3 => ?_⟩
          rw [Rp] at r3
          subst r3
          exact ⟨j, m, rfl, rfl, q _ H3 ((s1.trans s2).trans s3) rpb⟩
        · cases hf
      · rw [if_neg hk] at hf
        cases hf
        rw [if_neg hk]
        have e : k1 i j = false := by cases z : k1 i j with
          | true => exact absurd z hk
          | false => rfl
        exact q _ H2 (s1.trans s2) rpb
    · cases hf
  · cases hf

/-! ### items, slices -/
def ixG (x k : PyData) : Option PyData := match k with
  | .int i => match x with
    | .list ds => atI ds i
    | .tuple ds => atI ds i
    | .str z => if z.length ≤ 1000000 then (atI z.cps.toList i).map fun c => .str ⟨#[c]⟩ else none
    | _ => none
  | _ => none
theorem atI_rp {S : Addr → Prop} {H : Hp} {ds : List PyData} {xs : List V} {i : Int} {d : PyData} (r : RpA K S H ds xs) (h : atI ds i = some d) : ∃ v, atI xs i = some v ∧ Rp K S H d v := by
  unfold atI at h ⊢
  rw [r.length]
  cases hj : ixN ds.length i with
  | none => rw [hj] at h; cases h
  | some j =>
    rw [hj] at h
    exact r.get h
theorem r2_ix : R2Ok K false (rIx K) ixG := by
  intro S S' H x y dx dy d Q hn hS rx ry h q
  have hS' : S' = S := hS.elim (fun z => nomatch z) id
  subst hS'
  unfold ixG at h
  split at h
  · rename_i i
    rw [Rp] at ry
    subst ry
    split at h
    · rw [Rp] at rx
      obtain ⟨l, us, rfl, h1, r1⟩ := rx
      obtain ⟨v, e1, e2⟩ := atI_rp r1 h
      exact .inl ⟨l, us, i, v, rfl, rfl, h1.sq, e1, q v H (Same.refl H) e2⟩
    · rw [Rp] at rx
      obtain ⟨l, us, rfl, h1, r1⟩ := rx
      obtain ⟨v, e1, e2⟩ := atI_rp r1 h
      exact .inr (.inl ⟨l, us, i, v, rfl, rfl, live_t h1, e1, q v H (Same.refl H) e2⟩)
    · rename_i z
      split at h
      · rename_i hl
        rw [Rp] at rx
        subst rx
        cases hc : atI z.cps.toList i with
        | none => rw [hc] at h; cases h
        | some k =>
          rw [hc] at h
          cases h
          exact .inr (.inr ⟨z, i, k, rfl, rfl, sz6 hl, hc, q _ H (Same.refl H) rps⟩)
      · cases h
    · cases h
  · cases h
theorem ce_ix (ha : PE X a (tE X.K c f)) (hb : PE X b (tE X.K c g)) (hs : PlainIx b) : PE X (.Subscript a b pos) (tE X.K c (e2 ixG f g)) := pe_w (pe_ix ix_seq ha hb hs) fun _ _ _ q => e2_run r2_ix (.inr rfl) q
/-- x[k], x owned: a clean item -/
def eIxO (i : Nat) (g : En → Option PyData) : En → Option PyData := fun env => match env[i]? with
  | some (.own ds) => match g env with
    | some (.int k) => atI ds k
    | _ => none
  | _ => none
theorem ce_ixO {i : Nat} (ha : PE X a (tVar i)) (hb : PE X b (tE X.K c g)) (hs : PlainIx b) : PE X (.Subscript a b pos) (tE X.K true (eIxO i g)) := pe_w (pe_ix ix_seq ha hb hs) fun σ H Q ⟨S0, H0, A, env, d, E, hf, q⟩ => by
  unfold eIxO at hf
  split at hf
  · rename_i ds hi
    split at hf
    · rename_i k hk
      rcases E.sl i _ hi with z | ⟨v, h1, l, us, rfl, ha, hh, r⟩
      · cases z
      refine ⟨_, h1, S0, H0, A, env, _, E, hk, fun u H1 s1 r1 => ?_⟩
      rw [Rp] at r1
      subst r1
      obtain ⟨v, e1, e2⟩ := atI_rp (r.grow s1) hf
      exact .inl ⟨l, us, k, v, rfl, rfl, .inl (.inl (s1 _ _ hh)), e1, q v H1 s1 (Rp.wide (fun _ z => sc_cl z) e2)⟩
    · cases hf
  · cases hf
def tOp' (K : PySem.W.Frag) (f : En → Option (Option Int)) : TO := fun σ H Q => ∃ S0 H0 A env o, EnvOk K S0 H0 A H σ env ∧ f env = some o ∧ ∀ H', Same H H' → Q o H'
def oNone : En → Option (Option Int) := fun _ => some none
def oSome (f : En → Option PyData) : En → Option (Option Int) := fun env => match f env with
  | some (.int i) => some (some i)
  | _ => none
theorem co_none : PO X none (tOp' X.K oNone) := ⟨fun pins s σ H Q I ⟨S0, H0, A, env, o, E, hf, q⟩ => (po_none).run pins s σ H Q I (by cases hf; exact q H (Same.refl H))⟩
theorem co_some (h : PE X e (tE X.K c f)) : PO X (some e) (tOp' X.K (oSome f)) := ⟨fun pins s σ H Q I ⟨S0, H0, A, env, o, E, hf, q⟩ => (po_some h).run pins s σ H Q I (by
  unfold oSome at hf
  split at hf
  · rename_i i hi
    cases hf
    refine ⟨S0, H0, A, env, _, E, hi, fun v H1 s r => ?_⟩
    rw [Rp] at r
    exact ⟨i, r, q H1 s⟩
  · cases hf)⟩
def cutL {α : Type} (xs : List α) (lo hi : Option Int) : List α := (xs.drop (HT.sIx xs.length 0 lo)).take (HT.sIx xs.length xs.length hi - HT.sIx xs.length 0 lo)
def rSlX (K : PySem.W.Frag) : V → Option Int → Option Int → Hp → VK → Prop := fun x lo hi H Q => (∃ a xs, x = .ref a ∧ SqL K H a xs ∧ ∀ p, H p = none → Q (.ref p) (upd H p (.lst (cutV xs lo hi)))) ∨ rSlA K x lo hi H Q ∨ rSlS x lo hi H Q
theorem sl_X : SlR X (rSlX X.K) := by
  intro pins s σ H x v vl vu lo hi sl Q I rx hs pl pu h
  rcases h with h | h | h
  · exact sl_list pins s σ H x v vl vu lo hi sl Q I rx hs pl pu h
  · exact sl_tupA pins s σ H x v vl vu lo hi sl Q I rx hs pl pu h
  · exact sl_str pins s σ H x v vl vu lo hi sl Q I rx hs pl pu h
def slG (x : PyData) (lo hi : Option Int) : Option PyData := match x with
  | .list ds => some (.list (cutL ds lo hi))
  | .tuple ds => some (.tuple (cutL ds lo hi))
  | .str z => if z.length ≤ 1000000 then some (.str (cutS z lo hi)) else none
  | _ => none
theorem cut_rp {S : Addr → Prop} {H : Hp} {ds : List PyData} {xs : List V} (r : RpA K S H ds xs) (lo hi : Option Int) : RpA K S H (cutL ds lo hi) (cutV xs lo hi) := by
  unfold cutL cutV
  rw [r.length]
  exact (r.drop _).take _
theorem cut_whole {ds : List PyData} {lo hi : Option Int} (h : HT.sIx ds.length 0 lo = 0 ∧ HT.sIx ds.length ds.length hi = ds.length) : cutL ds lo hi = ds := by
  unfold cutL
  rw [h.1, h.2]
  simp
def eSl (f : En → Option PyData) (l h : En → Option (Option Int)) : En → Option PyData := fun env => match f env with
  | some x => match l env with
    | some lo => match h env with
      | some hi => slG x lo hi
      | none => none
    | none => none
  | none => none
theorem ce_sl {lo hi : Option Expr} {p2 : Pos} {l h : En → Option (Option Int)} (ha : PE X a (tE X.K c f)) (hl : PO X lo (tOp' X.K l)) (hh : PO X hi (tOp' X.K h)) : PE X (.Subscript a (.Slice lo hi none p2) pos) (tE X.K c (eSl f l h)) := pe_w (pe_slice sl_X ha hl hh) fun σ H Q ⟨S0, H0, A, env, d, E, hf, q⟩ => by
  unfold eSl at hf
  split at hf
  · rename_i x hx
    split at hf
    · rename_i lo' hlo
      split at hf
      · rename_i hi' hhi
        refine ⟨S0, H0, A, env, x, E, hx, fun v H1 s1 r1 => ⟨S0, H0, A, env, lo', E.grow s1, hlo, fun H2 s2 => ⟨S0, H0, A, env, hi', (E.grow s1).grow s2, hhi, fun H3 s3 => ?_⟩⟩⟩
        have sm := (s1.trans s2).trans s3
        have r3 := (r1.grow s2).grow s3
        unfold slG at hf
        split at hf
        · cases hf
          rw [Rp] at r3
          obtain ⟨m, us, rfl, k, r⟩ := r3
          refine .inl ⟨m, us, rfl, k.sq, fun p hp => q _ _ (sm.trans (same_new hp)) ?_⟩
          rw [Rp]
          exact ⟨p, _, rfl, .inl ⟨sc_new (E.grow sm) hp, .inl upd_same⟩, (cut_rp r _ _).grow (same_new hp)⟩
        · cases hf
          have r3' := r3
          rw [Rp] at r3
          obtain ⟨m, us, rfl, k, r⟩ := r3
          refine .inr (.inl ⟨m, us, rfl, live_t k, fun w => ?_, fun _ p hp => q _ _ (sm.trans (same_new hp)) ?_⟩)
          · rw [r.length] at w
            rw [cut_whole w] at q
            exact q _ H3 sm r3'
          · rw [Rp]
            exact ⟨p, _, rfl, upd_same, (cut_rp r _ _).grow (same_new hp)⟩
        · split at hf
          · rename_i z hz
            cases hf
            rw [Rp] at r3
            subst r3
            exact .inr (.inr ⟨z, rfl, sz6 hz, q _ H3 sm rps⟩)
          · cases hf
        · cases hf
      · cases hf
    · cases hf
  · cases hf
end
end Mir

namespace Mir
open PySem PySem.Spec PyProof.Rows L2
theorem hu65 {k : Nat} {A : Around} (r : Room k A) : A.units + 65 < cLine := by
  have := r.un
  omega
abbrev tNilE : TE := tC .non
section
variable {X : Cx} {a b e : Expr} {es : List Expr} {pos p : Pos} {st : Stmt} {c c1 c2 : Bool} {f g : En → Option PyData} {fa : En → Option (List PyData)} {fb : En → Option Bool} {K : PySem.W.Frag}
theorem ct_chain {k1 k2 : Int → Int → Bool} {h : En → Option PyData} (he : PT X e (tTest (tChain (rI0 fun i j => .bl (k1 i j)) (rI0 fun i j => .bl (k2 i j)) (tE X.K c f) (tE X.K c1 g) (tE X.K c2 h)))) : PT X e (tT X.K (t1 (chI k1 k2 f g h))) := pt_w he fun σ H Q ⟨S0, H0, A, env, d, E, hf, q⟩ => by
  have hf := t1_some hf
  unfold chI at hf
  split at hf
  · rename_i i hi
    split at hf
    · rename_i j hj
      refine ⟨S0, H0, A, env, _, E, hi, fun v H1 s1 r1 => ⟨S0, H0, A, env, _, E.grow s1, hj, fun u H2 s2 r2 => ?_⟩⟩
      rw [Rp] at r1 r2
      subst r1 r2
      refine ⟨i, j, rfl, rfl, k1 i j, rfl, ?_⟩
      by_cases hk : k1 i j = true
      · rw [if_pos hk] at hf
        rw [hk, if_pos rfl]
        split at hf
        · rename_i m hm
          cases hf
          refine ⟨S0, H0, A, env, _, (E.grow s1).grow s2, hm, fun w H3 s3 r3 => ?_⟩
          rw [Rp] at r3
          subst r3
          exact ⟨j, m, rfl, rfl, _, rfl, q H3 ((s1.trans s2).trans s3)⟩
        · cases hf
      · rw [if_neg hk] at hf
        cases hf
        rw [if_neg hk]
        exact ⟨_, rfl, q H2 (s1.trans s2)⟩
    · cases hf
  · cases hf
theorem ce_l' {t : TE} (h : ∀ σ H Q, tF K c fa σ H Q → t σ H Q) {σ : L2.St} {H : Hp} {Q : VK} (q : tE K c (eL fa) σ H Q) : t σ H Q := by
  obtain ⟨S0, H0, A, env, d, E, hf, q⟩ := q
  unfold eL at hf
  cases hd : fa env with
  | none => rw [hd] at hf; cases hf
  | some ds =>
    rw [hd] at hf
    cases hf
    refine h _ _ _ ⟨S0, H0, A, env, ds, E, hd, fun p xs H' hn s hp r => q _ H' s ?_⟩
    rw [Rp]
    exact ⟨p, xs, rfl, .inl ⟨sc_new E hn, .inl hp⟩, r.wide fun _ z => z.1⟩
theorem cs_lcV {i : Nat} {c : Bool} {f : En → Option (List PyData)} {g : PyData → En → Option En} {ga : En → Option Bool} {fe : En → Option PyData} {is : List Nat} (h : PS X st (tAsg (tLc (tI X.K c f) (tG X.K is g) (tT X.K ga) (tE X.K true fe) is) (gName i))) : PS X st (tS X.K (sSet i (eL (fCmp is f g ga fe)))) :=
  ps_w h fun D σ H q => ce_l' (c := true) (fun _ _ _ z => lc_run (fun _ _ _ z => z) z) (set_run q)
theorem cs_lcV1 {i : Nat} {c : Bool} {f : En → Option (List PyData)} {g : PyData → En → Option En} {fe : En → Option PyData} {is : List Nat} (h : PS X st (tAsg (tLc (tI X.K c f) (tG X.K is g) tYes (tE X.K true fe) is) (gName i))) : PS X st (tS X.K (sSet i (eL (fCmp is f g tYes' fe)))) :=
  ps_w h fun D σ H q => ce_l' (c := true) (fun _ _ _ z => lc_run (fun _ _ _ z => yes_run z) z) (set_run q)
end
/-! any, all, sum -/
def boolsD : List PyData → Option (List Bool)
  | [] => some []
  | .bool i :: ds => match boolsD ds with
    | some ns => some (i :: ns)
    | none => none
  | _ :: _ => none
theorem boolsD_rp {K : PySem.W.Frag} {S : Addr → Prop} {H : Hp} : ∀ {ds : List PyData} {ns : List Bool} {xs : List V}, boolsD ds = some ns → RpA K S H ds xs → xs = ns.map V.bl
  | [], ns, xs, h, r => by
    rw [RpA] at r
    cases h
    exact r
  | .bool i :: ds, ns, xs, h, r => by
    rw [RpA] at r
    obtain ⟨v, r', rfl, h1, h2⟩ := r
    rw [Rp] at h1
    simp only [boolsD] at h
    split at h
    · rename_i ms hm
      cases h
      have e1 := boolsD_rp hm h2
      subst h1
      rw [e1]; rfl
    · cases h
  | .none :: _, _, _, h, _ => by cases h
  | .str _ :: _, _, _, h, _ => by cases h
  | .int _ :: _, _, _, h, _ => by cases h
  | .list _ :: _, _, _, h, _ => by cases h
  | .tuple _ :: _, _, _, h, _ => by cases h
  | .dict _ :: _, _, _, h, _ => by cases h
theorem boolsD_map : ∀ ns : List Bool, boolsD (ns.map PyData.bool) = some ns
  | [] => rfl
  | n :: ns => by
    show (match boolsD (ns.map PyData.bool) with | some ns => some (n :: ns) | none => none) = _
    rw [boolsD_map ns]
def anyA : List PyData → Option PyData
  | [.list ds] => (boolsD ds).map fun bs => .bool (bs.any id)
  | _ => none
def allA : List PyData → Option PyData
  | [.list ds] => (boolsD ds).map fun bs => .bool (bs.all id)
  | _ => none
def sumA : List PyData → Option PyData
  | [.list ds] => (intsD ds).map fun ns => .int ns.sum
  | _ => none
theorem cr_any' {K : PySem.W.Frag} : CROk K true (rAny K) anyA := by
  intro S S' H vs ds d Q _ _ r h q
  unfold anyA at h
  split at h
  · obtain ⟨v, rfl, r1⟩ := r.one
    rw [Rp] at r1
    obtain ⟨a, xs, rfl, hs, ra⟩ := r1
    rename_i es
    cases hb : boolsD es with
    | none => rw [hb] at h; cases h
    | some bs =>
      rw [hb] at h
      cases h
      have e1 := boolsD_rp hb ra
      subst e1
      exact ⟨a, bs, rfl, hs.sq, q _ H (Same.refl H) rpb⟩
  · cases h
theorem cr_all' {K : PySem.W.Frag} : CROk K true (rAll K) allA := by
  intro S S' H vs ds d Q _ _ r h q
  unfold allA at h
  split at h
  · obtain ⟨v, rfl, r1⟩ := r.one
    rw [Rp] at r1
    obtain ⟨a, xs, rfl, hs, ra⟩ := r1
    rename_i es
    cases hb : boolsD es with
    | none => rw [hb] at h; cases h
    | some bs =>
      rw [hb] at h
      cases h
      have e1 := boolsD_rp hb ra
      subst e1
      exact ⟨a, bs, rfl, hs.sq, q _ H (Same.refl H) rpb⟩
  · cases h
theorem cr_sum' {K : PySem.W.Frag} : CROk K true (rSum K) sumA := by
  intro S S' H vs ds d Q _ _ r h q
  unfold sumA at h
  split at h
  · obtain ⟨v, rfl, r1⟩ := r.one
    rw [Rp] at r1
    obtain ⟨a, xs, rfl, hs, ra⟩ := r1
    rename_i es
    cases hb : intsD es with
    | none => rw [hb] at h; cases h
    | some ns =>
      rw [hb] at h
      cases h
      obtain ⟨e1, _⟩ := intsD_rp hb ra
      subst e1
      exact ⟨a, ns, rfl, hs.sq, q _ H (Same.refl H) rp1⟩
  · cases h
/-- the law's own end -/
theorem ints_rp {K : PySem.W.Frag} {S : Addr → Prop} {H : Hp} : ∀ ns : List Int, RpA K S H (ns.map PyData.int) (ns.map V.int)
  | [] => RpA.nil
  | n :: ns => RpA.cons rp1 (ints_rp ns)
theorem law_end {K : PySem.W.Frag} {H : Hp} {a : Addr} {ns : List Int} {g : List PyData → Option PyData} {E : XK} (h : SqL K H a (ns.map V.int)) (e : g [.list (ns.map .int)] = some (.bool true)) : spF K g [.ref a] H (fun v _ => v = .bl true) E := by
  refine ⟨fun _ => True, _, _, RpA.cons ?_ RpA.nil, e, fun v H' _ r => by rw [Rp] at r; exact r⟩
  rw [Rp]
  exact ⟨a, _, rfl, LsAt.of trivial h, ints_rp ns⟩
end Mir

namespace Mir
open PySem PySem.Spec PyProof.Rows L2
/-! ### enumerate over a tuple -/
theorem called_any {c : Value} {M : Model} {A : Around} {E : Value → Shared → Prop} {s : Shared} {Q : Bool → Shared → Prop} (h : ∀ b, Q b s) : wpAny M A (Builtin.SmallTypes.calledThroughType c) Q E s :=
  wpAny_bind (wpAny_stack_any fun st => wpAny_pure (h _))
theorem meets_enumT {v : Value} {o : Obj} {HH : Heap → Prop} (B : Begins v o HH) :
    Meets (Builtin.«enumerate.__new__» { pos := [Value.type "enumerate", v] }) fun x R s =>
      HH s.heap ∧ R (Except.ok (Flow.ret (Value.ref (s.heap.push o).objs.size)))
        { heap := (s.heap.push o).push { cls := Value.type "enumerate", data := Data.fields #[Value.none, Value.bool false, Value.ref s.heap.objs.size, rawInt 0, Value.none, Value.none] },
          gens := s.gens, drawn := s.drawn, toks := s.toks, os := s.os } := by
  refine Meets.of_wp fun prog w A R s h => ?_
  obtain ⟨hp, g, d, tk, os⟩ := s
  obtain ⟨h1, h⟩ := h
  have hsub := sub_enumerate
  refine wpAny_bind (wpAny_bind (wpAny_pure (wpAny_ite_false (by decide) (wpAny_bind (wpAny_of_eq hsub (wpAny_ite_false (by decide) (wpAny_pure (wpAny_ite_true (by decide) (wpAny_bind (called_any fun sh => ?_))))))))))
  have key : wpAny (model prog w) A.in1 (do
      let x ← pyIter v
      let y ← Builtin.SmallTypes.newRecord (Value.type "enumerate") (Builtin.SmallTypes.ownedTupleFields ++ [x, rawInt 0, Value.none, Value.none])
      ret y) (fun fin s' => ∃ v, fin = Fin.done (Flow.ret v) ∧ R (Except.ok (Flow.ret v)) s') (fun e s' => R (Except.error e) s') { heap := hp, gens := g, drawn := d, toks := tk, os := os } := by
    refine wpAny_bind (B.iter prog w _ _ _ _ h1 (wpAny_bind ?_))
    exact wpAny_bind (wpAny_alloc (wpAny_pure (wpAny_pure ⟨_, rfl, h⟩)))
  cases sh
  · exact wpAny_ite_false (by decide) (wpAny_bind (wpAny_of_eq (show _ = pure (v, none) from rfl) key))
  · exact wpAny_ite_true (by decide) (wpAny_bind (wpAny_of_eq (show _ = pure (v, none) from rfl) key))
theorem call_enumT {prog : Program} {w : World} {A : Around} {E : Value → Shared → Prop} {s : Shared} {v : Value} {o : Obj} {HH : Heap → Prop} {Q : Value → Shared → Prop} (B : Begins v o HH) (h1 : HH s.heap)
    (h : ∀ h' : Heap, IsEnum h' (s.heap.objs.size + 1) s.heap.objs.size 0 Value.none → h'.get? s.heap.objs.size = some o → h'.objs.size = s.heap.objs.size + 2 → (∀ (b : Addr) (o : Obj), s.heap.get? b = some o → h'.get? b = some o) →
      Q (Value.ref (s.heap.objs.size + 1)) { heap := h', gens := s.gens, drawn := s.drawn, toks := s.toks, os := s.os }) :
    wpAny (model prog w) A (call (Value.type "enumerate") [v]) Q E s := by
  refine callType_new F.called_enumerate (by decide) (F.typeCall_enumerate_1 v) (F.newCall_enumerate_1 v) (fun obj => F.args_object_init_2 obj v) F.entry_enumerate_new (meets_enumT B) ⟨h1, ?_⟩
  have hz := Heap.size_push s.heap o
  have he := Heap.get?_push_size (s.heap.push o) (o := { cls := Value.type "enumerate", data := Data.fields #[Value.none, Value.bool false, Value.ref s.heap.objs.size, rawInt 0, Value.none, Value.none] }) rfl
  rw [hz] at he
  show _ ∧ _
  rw [hz]
  refine ⟨⟨_, he, rfl⟩, h _ he (Heap.get?_push_of_some _ (Heap.get?_push_size s.heap B.free)) ?_ fun b o' x => Heap.get?_push_of_some _ (Heap.get?_push_of_some _ x)⟩
  rw [Heap.size_push, hz]

def IteT (K : PySem.W.Frag) (a : Addr) (n : Nat) : It where
  go := fun i H => ∃ xs x, SqT K H a xs ∧ xs.length = n ∧ xs[i]? = some x
  yld := fun i H v H' => ∃ T x, v = .ref T ∧ H T = none ∧ H' = upd H T (.tup [.int (i : Nat), x]) ∧ ∀ xs : List V, SqT K H a xs → xs[i]? = some x
  stop := fun i H => ∃ xs, SqT K H a xs ∧ xs.length = n ∧ n ≤ i
theorem turn_enumT {P : Program} {w : World} {K : PySem.W.Frag} {elts : List Expr} {kk : Nat} {tpos : Pos} (a e it : Addr) (n : Nat) :
    Turn P w K (.Tuple elts kk tpos) (IteT K a n) [e, it] e fun i h => (∃ old, IsEnum h e it (i : Nat) old) ∧ h.IsTupleIter it a i ∧ e ≠ it ∧ i ≤ n where
  mem := by simp
  obj := by
    rintro i h ⟨⟨old, he⟩, ⟨o, ho, hc, hd⟩, hne, hn⟩ b hb
    have e' : b = e ∨ b = it := by simpa using hb
    rcases e' with z | z
    · rw [z]; exact ⟨_, he, fun v q => nomatch q⟩
    · rw [z]; exact ⟨o, ho, fun v q => by rw [hd] at q; cases q⟩
  keep := by
    rintro i h h' ⟨⟨old, he⟩, hi, hne, hn⟩ k
    exact ⟨⟨old, k e (by simp) _ he⟩, Heap.IsTupleIter.at hi fun o q => k it (by simp) o q, hne, hn⟩
  item := by
    intro X hP hw hK hc i pins s σ H E I hf st hg
    subst hP hw hK
    obtain ⟨⟨old, he⟩, hit, hne, hn⟩ := st
    obtain ⟨xs, x, hq, hln, hx⟩ := hg
    obtain ⟨its, rv, p, hz⟩ := I.tuple hq
    obtain ⟨u, hu, ru⟩ := rv.get hx
    have hel := Heap.lt_size he
    have hil : it < s.heap.objs.size := by obtain ⟨w, q, _⟩ := hit; exact Heap.lt_size q
    have pT : s.heap.IsTuple a its.toArray := p
    have hai : a ≠ it := by
      intro z
      subst z
      obtain ⟨o1, q1, q2, _⟩ := hit
      obtain ⟨o2, r1, r2, _⟩ := pT
      rw [q1] at r1
      cases r1
      exact absurd (Value.type.inj (q2.symm.trans r2)) (by decide)
    have hea : e ≠ a := by
      intro z
      subst z
      obtain ⟨o2, r1, r2, _⟩ := pT
      have he' : s.heap.get? e = some _ := he
      rw [he'] at r1
      cases r1
      exact absurd (Value.type.inj r2) (by decide)
    have hlt : i < xs.length := (List.getElem?_eq_some_iff.mp hx).1
    have hlv : its.length = xs.length := by have := rv.length; omega
    refine wpAny_pyNext_enum_itemD (fp := [it, a]) (n := its.toArray.size) (Draws.tuple (A := X.A.in1) (show X.A.in1.handled = none from I.ok.hd hc) it a hai its.toArray) he ⟨hit, pT⟩ (by simp; omega) hne (by simp; exact ⟨hne, hea⟩) fun u' h' tk hP' ho hS hT hsz hk => ?_
    obtain ⟨hit', pT'⟩ := hS
    have hu' : u' = u := by
      have h1 : its[i]? = some u' := by simpa using hP'
      rw [hu] at h1
      cases h1
      rfl
    subst hu'
    refine ⟨_, rfl, wpAny_letOwnedTupleGo_enum ho fun h'' he' sb => ?_⟩
    have hT2 := (sb.2 s.heap.objs.size (Nat.ne_of_gt hel)).trans hT
    have new : ObjOk X.prog X.w (upd H s.heap.objs.size (.tup [.int (i : Nat), x])) h'' s.heap.objs.size (.tup [.int (i : Nat), x]) :=
      ⟨by show (2 : Nat) ≤ sizeLine; decide, [Value.int (i : Nat) tk, u'], .cons ⟨tk, rfl⟩ (.cons ru .nil), ⟨_, hT2, rfl, 0, rfl⟩⟩
    have I1 := I.turnedNew (t' := tk + 1) (ch := [e, it]) (fun b ob hb q => (sb.2 b fun z => hb (by simp [z])).trans (hk b ob (fun z => hb (by simp [z])) (fun z => hb (by simp [z])) q)) hf (Nat.le_refl s.heap.objs.size) new
    refine ⟨.ref s.heap.objs.size, _, I1, rfl, ⟨_, x, rfl, I.hok.fresh (Nat.le_refl _), rfl, fun ys hy => by rw [I.tuple_inj hy hq]; exact hx⟩, ⟨⟨u', ?_⟩, Heap.IsTupleIter.at hit' fun o q => (sb.2 it (Ne.symm hne)).trans q, hne, by omega⟩, fun b hb => ?_⟩
    · show IsEnum h'' e it ((i + 1 : Nat) : Int) u'
      rw [show ((i + 1 : Nat) : Int) = (i : Nat) + 1 by omega]
      exact he'
    · have hb' : b < s.heap.objs.size := by
        have e' : b = e ∨ b = it := by simpa using hb
        rcases e' with z | z <;> (rw [z]; assumption)
      rw [upd_ne (Nat.ne_of_lt hb')]
      exact (hf b hb).1
  done := by
    intro X hP hw hK hc i pins s σ H E I hf st hg
    subst hP hw hK
    obtain ⟨⟨old, he⟩, hit, hne, hn⟩ := st
    obtain ⟨xs, hq, hln, hx⟩ := hg
    obtain ⟨its, rv, p, hz⟩ := I.tuple hq
    have pT : s.heap.IsTuple a its.toArray := p
    have hai : a ≠ it := by
      intro z
      subst z
      obtain ⟨o1, q1, q2, _⟩ := hit
      obtain ⟨o2, r1, r2, _⟩ := pT
      rw [q1] at r1
      cases r1
      exact absurd (Value.type.inj (q2.symm.trans r2)) (by decide)
    have hlv : its.length = xs.length := by have := rv.length; omega
    obtain ⟨f0, f1, f2, f3, f4, f5⟩ := hf it (by simp)
    have hin : its.toArray.size = i := by simp; omega
    refine wpAny_pyNext_enum_endD (fp := [it, a]) (n := its.toArray.size) (Draws.tuple (A := X.A.in1) (show X.A.in1.handled = none from I.ok.hd hc) it a hai its.toArray) he ⟨by rw [hin]; exact hit, pT⟩ fun h' eb => ⟨rfl, I.turned (fun b o hb q => eb b o hb q) f0 f1 f3 f4 f5⟩
  self := by
    rintro A i s Q E ⟨⟨old, he⟩, _⟩ h
    exact wpAny_pyIter_enum he h
def iEnumA (K : PySem.W.Frag) (ta : TA) : TI := fun σ H R => ta σ H fun vs H1 => ∃ a xs, vs = [.ref a] ∧ ((SqL K H1 a xs ∧ R (Ite K a) H1) ∨ (SqT K H1 a xs ∧ R (IteT K a xs.length) H1))
theorem pi_enumA {X : Cx} {e : Expr} {ta : TA} {p pos tpos : Pos} {elts : List Expr} {kk : Nat} (hg : Gl X "enumerate") (hm : X.mg "enumerate" = none) (ha : PA X [e] ta) (hs : starEach [e] X.env = [(false, eval e X.env)] := by rfl) :
    PI X (.Tuple elts kk tpos) (.Call (.Name "enumerate" p) [e] [] pos) (iEnumA X.K ta) := by
  constructor
  intro pins s σ H R I h
  refine Call_ (ld_blt I hg hm boot_enumerate (PyProof.Rows.callWith_type1 (thn (ha.run pos pins s σ H _ I h) ?_) (by rw [hs]; rfl)))
  rintro us s1 ⟨vs, H1, I1, r1, a, xs, rfl, q⟩
  cases r1 with
  | cons r rr =>
    cases rr
    cases r
    rcases q with ⟨hq, q⟩ | ⟨hq, q⟩
    · obtain ⟨its, rv, pl, hz⟩ := I1.list hq
      refine call_enumerate_list pl.isList fun h' he hi hsz hk => ?_
      refine wpAny_pyIter_enum he ⟨s1.heap.objs.size + 1, [s1.heap.objs.size + 1, s1.heap.objs.size], _, _, H1, rfl, I1.kept (t' := s1.toks) hk, turn_enum a _ _, ⟨⟨_, he⟩, hi, Nat.succ_ne_self _⟩, ?_, q⟩
      intro b hb
      have e' : b = s1.heap.objs.size + 1 ∨ b = s1.heap.objs.size := by simpa using hb
      have hb : s1.heap.objs.size ≤ b := by
        rcases e' with z | z
        · rw [z]; exact Nat.le_succ _
        · rw [z]; exact Nat.le_refl _
      exact I1.fpOk hb (I1.hok.fresh hb)
    · obtain ⟨its, rv, pl, hz⟩ := I1.tuple hq
      refine call_enumT (begins_tuple a its.toArray) (show s1.heap.IsTuple a its.toArray from pl) fun h' he hi hsz hk => ?_
      refine wpAny_pyIter_enum he ⟨s1.heap.objs.size + 1, [s1.heap.objs.size + 1, s1.heap.objs.size], _, _, H1, rfl, I1.kept (t' := s1.toks) hk, turn_enumT a _ _ xs.length, ⟨⟨_, he⟩, ⟨_, hi, rfl, rfl⟩, Nat.succ_ne_self _, Nat.zero_le _⟩, ?_, q⟩
      intro b hb
      have e' : b = s1.heap.objs.size + 1 ∨ b = s1.heap.objs.size := by simpa using hb
      have hb : s1.heap.objs.size ≤ b := by
        rcases e' with z | z
        · rw [z]; exact Nat.le_succ _
        · rw [z]; exact Nat.le_refl _
      exact I1.fpOk hb (I1.hok.fresh hb)

/-! ### enumerate, zip as readings -/
section
variable {K : PySem.W.Frag} {X : Cx} {tg iter : Expr}
def enumD : Nat → List PyData → List PyData
  | _, [] => []
  | k, d :: ds => .tuple [.int (k : Nat), d] :: enumD (k + 1) ds
theorem enumD_len : ∀ (ds : List PyData) (k : Nat), (enumD k ds).length = ds.length
  | [], _ => rfl
  | _ :: ds, k => by rw [enumD, List.length_cons, List.length_cons, enumD_len ds]
theorem enumD_get : ∀ (ds : List PyData) (k i : Nat) (d : PyData), (enumD k ds)[i]? = some d → ∃ x, ds[i]? = some x ∧ d = .tuple [.int ((k + i : Nat) : Int), x]
  | [], _, i, d, h => by simp [enumD] at h
  | x :: ds, k, 0, d, h => by
    simp [enumD] at h
    exact ⟨x, rfl, by rw [← h]; rfl⟩
  | x :: ds, k, i + 1, d, h => by
    rw [enumD, List.getElem?_cons_succ] at h
    obtain ⟨y, h1, h2⟩ := enumD_get ds (k + 1) i d h
    exact ⟨y, by simpa using h1, by rw [h2, show k + 1 + i = k + (i + 1) by omega]⟩
theorem pair_rp {S : Addr → Prop} {H : Hp} {T : Addr} {d e : PyData} {u v : V} (hT : H T = none) (h1 : Rp K S H d u) (h2 : Rp K S H e v) : Rp K S (upd H T (.tup [u, v])) (.tuple [d, e]) (.ref T) := by
  rw [Rp]
  exact ⟨T, [u, v], rfl, upd_same, RpA.cons (h1.grow (same_new hT)) (RpA.cons (h2.grow (same_new hT)) RpA.nil)⟩
theorem wk_enumL {a : Addr} {xs : List V} {ds : List PyData} {S : Addr → Prop} : Wk K (Ite K a) (fun H => SqL K H a xs ∧ RpA K S H ds xs) S (enumD 0 ds) where
  go := fun i H g l => by
    rw [enumD_len] at l
    exact ⟨xs, xs[i]'(by rw [g.2.length]; exact l), g.1, by rw [List.getElem?_eq_getElem]⟩
  yld := fun i H d x H' g e y => by
    obtain ⟨T, x', rfl, hT, rfl, hx⟩ := y
    obtain ⟨z, h1, rfl⟩ := enumD_get ds 0 i d e
    rw [Nat.zero_add]
    exact ⟨same_new hT, pair_rp hT (by rw [Rp]) (g.2.at h1 (hx xs g.1))⟩
  stop := fun i H g l => ⟨xs, g.1, by rw [g.2.length]; rw [enumD_len] at l; exact l⟩
theorem wk_enumT {a : Addr} {xs : List V} {ds : List PyData} {S : Addr → Prop} : Wk K (IteT K a xs.length) (fun H => H a = some (.tup xs) ∧ RpA K S H ds xs) S (enumD 0 ds) where
  go := fun i H g l => by
    rw [enumD_len] at l
    exact ⟨xs, xs[i]'(by rw [g.2.length]; exact l), live_t g.1, rfl, by rw [List.getElem?_eq_getElem]⟩
  yld := fun i H d x H' g e y => by
    obtain ⟨T, x', rfl, hT, rfl, hx⟩ := y
    obtain ⟨z, h1, rfl⟩ := enumD_get ds 0 i d e
    rw [Nat.zero_add]
    exact ⟨same_new hT, pair_rp hT (by rw [Rp]) (g.2.at h1 (hx xs (live_t g.1)))⟩
  stop := fun i H g l => ⟨xs, live_t g.1, rfl, by rw [g.2.length]; rw [enumD_len] at l; exact l⟩
def iEnm (fa : En → Option (List PyData)) : En → Option (List PyData) := fun env => match fa env with
  | some [.list ds] => some (enumD 0 ds)
  | some [.tuple ds] => some (enumD 0 ds)
  | _ => none
theorem ci_enum {fa : En → Option (List PyData)} (h : PI X tg iter (iEnumA X.K (tA X.K true fa))) : PI X tg iter (tI X.K true (iEnm fa)) := pi_w h fun σ H R ⟨S0, H0, A, env, ds, E, hf, q⟩ => by
  unfold iEnm at hf
  split at hf
  · rename_i es hd
    cases hf
    refine ⟨S0, H0, A, env, _, E, hd, fun vs H1 s r => ?_⟩
    obtain ⟨v, rfl, r1⟩ := r.one
    rw [Rp] at r1
    obtain ⟨a, xs, rfl, hs, ra⟩ := r1
    have ra' : RpA X.K (Cl S0 H0 A) H1 es xs := ra.wide fun _ z => cl_sc z
    exact ⟨a, xs, rfl, .inl ⟨hs.sq, q _ H1 _ s (fun H2 s2 => ⟨s2.seq hs.sq, ra'.sm s2⟩) (fun _ H2 f2 => ⟨hs.imp (fun z => fr_rd f2 (cl_sc z.1).2 z.2) id, ra'.fr (E.grow s) f2 fun _ z => z.2⟩) wk_enumL⟩⟩
  · rename_i es hd
    cases hf
    refine ⟨S0, H0, A, env, _, E, hd, fun vs H1 s r => ?_⟩
    obtain ⟨v, rfl, r1⟩ := r.one
    rw [Rp] at r1
    obtain ⟨a, xs, rfl, hs, ra⟩ := r1
    have ra' : RpA X.K (Cl S0 H0 A) H1 es xs := ra.wide fun _ z => cl_sc z
    exact ⟨a, xs, rfl, .inr ⟨live_t hs, q _ H1 _ s (fun H2 s2 => ⟨same_t s2 hs, ra'.sm s2⟩) (fun _ H2 f2 => ⟨fr_t (E.grow s) f2 hs, ra'.fr (E.grow s) f2 fun _ z => z.2⟩) wk_enumT⟩⟩
  · cases hf
def zipD : List PyData → List PyData → List PyData
  | d :: ds, e :: es => .tuple [d, e] :: zipD ds es
  | _, _ => []
theorem zipD_len : ∀ (ds es : List PyData), (zipD ds es).length = min ds.length es.length
  | [], [] => rfl
  | [], _ :: _ => by simp [zipD]
  | _ :: _, [] => by simp [zipD]
  | d :: ds, e :: es => by
    rw [zipD, List.length_cons, List.length_cons, List.length_cons, zipD_len ds es]
    omega
theorem zipD_get : ∀ (ds es : List PyData) (i : Nat) (d : PyData), (zipD ds es)[i]? = some d → ∃ x y, ds[i]? = some x ∧ es[i]? = some y ∧ d = .tuple [x, y]
  | [], [], i, d, h => by simp [zipD] at h
  | [], _ :: _, i, d, h => by simp [zipD] at h
  | _ :: _, [], i, d, h => by simp [zipD] at h
  | x :: ds, y :: es, 0, d, h => by
    simp [zipD] at h
    exact ⟨x, y, rfl, rfl, h.symm⟩
  | x :: ds, y :: es, i + 1, d, h => by
    rw [zipD, List.getElem?_cons_succ] at h
    obtain ⟨u, v, h1, h2, h3⟩ := zipD_get ds es i d h
    exact ⟨u, v, by simpa using h1, by simpa using h2, h3⟩
theorem wk_zipL {a b : Addr} {xs ys : List V} {ds es : List PyData} {S : Addr → Prop} : Wk K (Itz K a b) (fun H => (SqL K H a xs ∧ RpA K S H ds xs) ∧ SqL K H b ys ∧ RpA K S H es ys) S (zipD ds es) where
  go := fun i H g l => by
    rw [zipD_len] at l
    exact ⟨xs, ys, xs[i]'(by rw [g.1.2.length]; omega), ys[i]'(by rw [g.2.2.length]; omega), g.1.1, g.2.1, by rw [List.getElem?_eq_getElem], by rw [List.getElem?_eq_getElem]⟩
  yld := fun i H d x H' g e y => by
    obtain ⟨T, x', y', rfl, hT, rfl, hx, hy⟩ := y
    obtain ⟨u, v, h1, h2, rfl⟩ := zipD_get ds es i d e
    exact ⟨same_new hT, pair_rp hT (g.1.2.at h1 (hx xs g.1.1)) (g.2.2.at h2 (hy ys g.2.1))⟩
  stop := fun i H g l => ⟨xs, ys, g.1.1, g.2.1, by rw [g.1.2.length, g.2.2.length]; rw [zipD_len] at l; omega⟩
theorem wk_zipT {a b : Addr} {xs ys : List V} {ds es : List PyData} {S : Addr → Prop} : Wk K (RZ.ItzT K a b) (fun H => (H a = some (.tup xs) ∧ RpA K S H ds xs) ∧ H b = some (.tup ys) ∧ RpA K S H es ys) S (zipD ds es) where
  go := fun i H g l => by
    rw [zipD_len] at l
    exact ⟨xs, ys, xs[i]'(by rw [g.1.2.length]; omega), ys[i]'(by rw [g.2.2.length]; omega), live_t g.1.1, live_t g.2.1, by rw [List.getElem?_eq_getElem], by rw [List.getElem?_eq_getElem]⟩
  yld := fun i H d x H' g e y => by
    obtain ⟨T, x', y', rfl, hT, rfl, hx, hy⟩ := y
    obtain ⟨u, v, h1, h2, rfl⟩ := zipD_get ds es i d e
    exact ⟨same_new hT, pair_rp hT (g.1.2.at h1 (hx xs (live_t g.1.1))) (g.2.2.at h2 (hy ys (live_t g.2.1)))⟩
  stop := fun i H g l => ⟨xs, ys, live_t g.1.1, live_t g.2.1, by rw [g.1.2.length, g.2.2.length]; rw [zipD_len] at l; omega⟩
def iZp (fa : En → Option (List PyData)) : En → Option (List PyData) := fun env => match fa env with
  | some [.list ds, .list es] => some (zipD ds es)
  | some [.tuple ds, .tuple es] => some (zipD ds es)
  | _ => none
theorem ci_zip {fa : En → Option (List PyData)} (h : PI X tg iter (RZ.iZipA X.K (tA X.K true fa))) : PI X tg iter (tI X.K true (iZp fa)) := pi_w h fun σ H R ⟨S0, H0, A, env, ds, E, hf, q⟩ => by
  unfold iZp at hf
  split at hf
  · rename_i es fs hd
    cases hf
    refine ⟨S0, H0, A, env, _, E, hd, fun vs H1 s r => ?_⟩
    obtain ⟨v, u, rfl, r1, r2⟩ := r.two
    rw [Rp] at r1 r2
    obtain ⟨a, xs, rfl, hs, ra⟩ := r1
    obtain ⟨b, ys, rfl, ht, rb⟩ := r2
    have ra' : RpA X.K (Cl S0 H0 A) H1 es xs := ra.wide fun _ z => cl_sc z
    have rb' : RpA X.K (Cl S0 H0 A) H1 fs ys := rb.wide fun _ z => cl_sc z
    exact ⟨a, b, xs, ys, rfl, .inl ⟨hs.sq, ht.sq, q _ H1 _ s (fun H2 s2 => ⟨⟨s2.seq hs.sq, ra'.sm s2⟩, s2.seq ht.sq, rb'.sm s2⟩)
      (fun _ H2 f2 => ⟨⟨hs.imp (fun z => fr_rd f2 (cl_sc z.1).2 z.2) id, ra'.fr (E.grow s) f2 fun _ z => z.2⟩, ht.imp (fun z => fr_rd f2 (cl_sc z.1).2 z.2) id, rb'.fr (E.grow s) f2 fun _ z => z.2⟩) wk_zipL⟩⟩
  · rename_i es fs hd
    cases hf
    refine ⟨S0, H0, A, env, _, E, hd, fun vs H1 s r => ?_⟩
    obtain ⟨v, u, rfl, r1, r2⟩ := r.two
    rw [Rp] at r1 r2
    obtain ⟨a, xs, rfl, hs, ra⟩ := r1
    obtain ⟨b, ys, rfl, ht, rb⟩ := r2
    have ra' : RpA X.K (Cl S0 H0 A) H1 es xs := ra.wide fun _ z => cl_sc z
    have rb' : RpA X.K (Cl S0 H0 A) H1 fs ys := rb.wide fun _ z => cl_sc z
    exact ⟨a, b, xs, ys, rfl, .inr ⟨live_t hs, live_t ht, q _ H1 _ s (fun H2 s2 => ⟨⟨same_t s2 hs, ra'.sm s2⟩, same_t s2 ht, rb'.sm s2⟩)
      (fun _ H2 f2 => ⟨⟨fr_t (E.grow s) f2 hs, ra'.fr (E.grow s) f2 fun _ z => z.2⟩, fr_t (E.grow s) f2 ht, rb'.fr (E.grow s) f2 fun _ z => z.2⟩) wk_zipT⟩⟩
  · cases hf
end

/-! ### tuple * int, [x] * int, constants of the module -/
theorem mul_form (l : Addr) (u : Tok) : ∃ (X : Int → Sem PySem.Fin) (Z : Int → Array Value → Sem PySem.Fin), Builtin.«tuple.__mul__» { pos := [Value.ref l, Value.int 1 u] } =
    (asIndex (Value.int 1 u) >>= fun n => if (decide (n < -2 ^ 63) || decide (n ≥ 2 ^ 63)) = true then X n else
      (Builtin.Tuple.tupleItemsOf (Value.ref l) >>= fun xs => if (xs.isEmpty || n == 1) = true then (Builtin.Tuple.tupleIsExact (Value.ref l) >>= fun b => if b = true then (rule "tuple.repeat.same-object" >>= fun _ => ret (Value.ref l)) else Z n xs) else Z n xs)) := ⟨_, _, rfl⟩
theorem tuple_mul1 (l : Addr) (items : Array Value) (n : Nat) (dd : Option Addr) (sl : Array (Option Value)) (u : Tok) :
    Meets (Builtin.«tuple.__mul__» { pos := [Value.ref l, Value.int 1 u] }) fun x_1 R s =>
      s.heap.get? l = some { cls := Value.type "tuple", dict := dd, data := Data.seq items n, slots := sl } ∧ R (Except.ok (Flow.ret (Value.ref l))) s := by
  refine Meets.of_wp fun prog w A R s h => ?_
  obtain ⟨hp, g, d, tk, os⟩ := s
  obtain ⟨hl, h⟩ := h
  obtain ⟨X, Z, e⟩ := mul_form l u
  rw [e]
  refine wpAny_bind (wpAny_bind (wpAny_pure (wpAny_pure ?_)))
  refine wpAny_ite_false rfl ?_
  refine wpAny_bind (wpAny_bind (wpAny_bind (wpAny_load' hl (wpAny_pure (wpAny_pure ?_)))))
  refine wpAny_ite_true (by simp) ?_
  exact wpAny_bind (wpAny_bind (wpAny_bind (wpAny_loadPart' hl (wpAny_pure (wpAny_pure (wpAny_ite_true rfl (wpAny_bind (wpAny_rule (wpAny_pure ⟨_, rfl, h⟩)))))))))
def rRep1 (K : PySem.W.Frag) : R2 := fun x y H Q => ∃ l xs, x = .ref l ∧ y = .int 1 ∧ SqT K H l xs ∧ Q (.ref l) H
theorem op_rep1 {X : Cx} : OpR X (binaryOp .Mult) (rRep1 X.K) := by
  intro pins s σ H x y v u Q I rx ry h
  obtain ⟨l, xs, rfl, rfl, hT, q⟩ := h
  cases rx
  obtain ⟨t, rfl⟩ := ry
  obtain ⟨its, r, ⟨⟨c, dd, dt, sl⟩, ho, hc, n, hd⟩, hs⟩ := I.tuple hT
  dsimp only at hc hd
  subst hc
  subst hd
  exact wpAny_binaryOp_repeat_ref (by decide) ⟨_, ho, rfl⟩ (fun s' => typeIs_int s' 1 t) noFill_tuple_mul F.fills_int_mul F.slot_int_rmul repeat_tuple F.slot_int_index.lookup
    (call_meets F.slot_int_rmul (typeIs_int s 1 t) F.entry_int_rmul (F.args_int_rmul_2 (Value.int 1 t) (Value.ref l)) (int_rmul_tuple 1 t l its.toArray n dd sl)
      ⟨ho, rfl, ⟨_, ho, rfl⟩, call_meets F.slot_tuple_mul ⟨_, ho, rfl⟩ F.entry_tuple_mul (F.args_tuple_mul_2 (Value.ref l) (Value.int 1 t)) (tuple_mul1 l its.toArray n dd sl t) ⟨ho, ⟨.ref l, H, I, rfl, q⟩⟩⟩)

def rTm (K : PySem.W.Frag) : R2 := fun x y H Q => rRep1 K x y H Q ∨ rRepT K x y H Q
theorem op_tm {X : Cx} : OpR X (binaryOp .Mult) (rTm X.K) := by
  intro pins s σ H x y v u Q I rx ry h
  rcases h with h | h
  · exact op_rep1 pins s σ H x y v u Q I rx ry h
  · exact op_repT pins s σ H x y v u Q I rx ry h
def tmulD : PyData → PyData → Option PyData
  | .tuple ds, .int k => if k = 1 then some (.tuple ds) else if ds ≠ [] ∧ (2 ≤ k ∧ k ≤ 1000) ∧ ds.length ≤ 1000 then some (.tuple (List.replicate k.toNat ds).flatten) else none
  | _, _ => none
theorem RpA.rep {K : PySem.W.Frag} {S : Addr → Prop} {H : Hp} {ds : List PyData} {vs : List V} (h : RpA K S H ds vs) : ∀ n : Nat, RpA K S H (List.replicate n ds).flatten (List.replicate n vs).flatten
  | 0 => RpA.nil
  | n + 1 => by
    rw [List.replicate_succ, List.replicate_succ, List.flatten_cons, List.flatten_cons]
    exact h.append (RpA.rep h n)
theorem r2_tm {K : PySem.W.Frag} : R2Ok K false (rTm K) tmulD := by
  intro S S' H x y dx dy d Q hn hS rx ry h q
  have hS' : S' = S := hS.elim (fun z => nomatch z) id
  subst hS'
  cases dx with
  | tuple ds =>
   cases dy with
   | int k =>
    change (if k = 1 then some (.tuple ds) else if ds ≠ [] ∧ (2 ≤ k ∧ k ≤ 1000) ∧ ds.length ≤ 1000 then some (.tuple (List.replicate k.toNat ds).flatten) else none) = some d at h
    have rx0 := rx
    have ry1 : y = V.int k := by rw [Rp] at ry; exact ry
    have rx1 : ∃ a xs, x = .ref a ∧ H a = some (.tup xs) ∧ RpA K S' H ds xs := by rw [Rp] at rx; exact rx
    obtain ⟨a, xs, rfl, hs, ra⟩ := rx1
    subst ry1
    split at h
    · rename_i hk
      cases h
      subst hk
      exact .inl ⟨a, xs, rfl, rfl, live_t hs, q _ H (Same.refl H) rx0⟩
    · split at h
      · rename_i hc
        cases h
        refine .inr ⟨a, k, xs, rfl, rfl, live_t hs, fun e => hc.1 (List.eq_nil_of_length_eq_zero (by rw [← ra.length, e]; rfl)), hc.2.1.1, hc.2.1.2, by rw [ra.length]; exact hc.2.2, fun p hp => ?_⟩
        refine q _ _ (same_new hp) ?_
        rw [Rp]
        exact ⟨p, _, rfl, upd_same, (ra.rep _).grow (same_new hp)⟩
      · cases h
   | _ => cases h
  | _ => cases h
section
variable {X : Cx} {a b : Expr} {pos : Pos} {c : Bool} {f g : En → Option PyData}
theorem ce_tmul (ha : PE X a (tE X.K c f)) (hb : PE X b (tE X.K c g)) : PE X (.BinOp a .Mult b pos) (tE X.K c (e2 tmulD f g)) := ce_op op_tm r2_tm ha hb
def fRep (ff : En → Option (List PyData)) (g : En → Option PyData) : En → Option (List PyData) := fun env => match ff env with
  | some ds => match g env with
    | some (.int k) => if (-1000000 ≤ k ∧ k ≤ 1000000) ∧ ds.length * k.toNat ≤ 1000000 then some (List.replicate k.toNat ds).flatten else none
    | _ => none
  | none => none
theorem cf_rep {ff : En → Option (List PyData)} (ha : PE X a (tF X.K c ff)) (hb : PE X b (tE X.K true g)) : PE X (.BinOp a .Mult b pos) (tF X.K c (fRep ff g)) := pe_w (pe_op op_rep ha hb) fun σ H Q ⟨S0, H0, A, env, d, E, hf, q⟩ => by
  unfold fRep at hf
  split at hf
  · rename_i ds h1
    split at hf
    · rename_i k h2
      split at hf
      · rename_i hl
        cases hf
        refine ⟨S0, H0, A, env, _, E, h1, fun l us H1 hl1 s1 hl2 r1 => ⟨S0, H0, A, env, _, E.grow s1, h2, fun u H2 s2 r2 => ?_⟩⟩
        rw [Rp] at r2
        subst r2
        refine ⟨l, k, us, rfl, rfl, s2 _ _ hl2, by omega, by omega, by rw [r1.length]; exact sz6 hl.2, fun p hp => q p _ _ ((s1.trans s2).free hp) ((s1.trans s2).trans (same_new hp)) upd_same ?_⟩
        exact (((r1.rep _).grow s2).wide fun _ z => z.1).apart hp (same_new hp)
      · cases hf
    · cases hf
  · cases hf
end
end Mir

namespace Mir
open PySem PySem.Spec PyProof.Rows L2
/-! ### in over a tuple of plain values -/
def flatD : PyData → Bool
  | .none => true
  | .bool _ => true
  | .int _ => true
  | .str _ => true
  | _ => false
theorem flatD_rp {K : PySem.W.Frag} {S : Addr → Prop} {H : Hp} {d : PyData} {v : V} (h : flatD d = true) (r : Rp K S H d v) : flatV v = true := by
  cases d with
  | none => rw [Rp] at r; subst r; rfl
  | bool _ => rw [Rp] at r; subst r; rfl
  | int _ => rw [Rp] at r; subst r; rfl
  | str _ => rw [Rp] at r; subst r; rfl
  | list _ => cases h
  | tuple _ => cases h
  | dict _ => cases h
theorem eqD_V {K : PySem.W.Frag} {S : Addr → Prop} {H : Hp} {d e : PyData} {v u : V} (h : flatD d = true) (h' : flatD e = true) (r : Rp K S H d v) (r' : Rp K S H e u) : eqV v u = PyData.eqv d e := by
  cases d <;> cases e <;> first | (cases h; done) | (cases h'; done) | (rw [Rp] at r; rw [Rp] at r'; subst r; subst r'; simp [eqV, PyData.eqv])
theorem allflat_rp {K : PySem.W.Frag} {S : Addr → Prop} {H : Hp} : ∀ {ds : List PyData} {vs : List V}, ds.all flatD = true → RpA K S H ds vs → vs.all flatV = true
  | [], _, _, r => by rw [RpA] at r; subst r; rfl
  | d :: ds, _, h, r => by
    rw [RpA] at r
    obtain ⟨v, r', rfl, h1, h2⟩ := r
    rw [List.all_cons, Bool.and_eq_true] at h
    rw [List.all_cons, flatD_rp h.1 h1, allflat_rp h.2 h2]; rfl
theorem inV_rp {K : PySem.W.Frag} {S : Addr → Prop} {H : Hp} {x : PyData} {u : V} (hx : flatD x = true) (rx : Rp K S H x u) : ∀ {ds : List PyData} {vs : List V}, ds.all flatD = true → RpA K S H ds vs → inV u vs = ds.any fun z => PyData.eqv z x
  | [], _, _, r => by rw [RpA] at r; subst r; rfl
  | d :: ds, _, h, r => by
    rw [RpA] at r
    obtain ⟨v, r', rfl, h1, h2⟩ := r
    rw [List.all_cons, Bool.and_eq_true] at h
    have ih := inV_rp hx rx h.2 h2
    unfold inV at ih ⊢
    rw [List.any_cons, List.any_cons, ih, eqD_V h.1 hx h1 rx]
def inT (x : PyData) : PyData → Option PyData
  | .list ds => if (SeqAt.shaped x && SeqAt.shaped (.list ds)) = true then some (.bool (ds.any fun z => PyData.eqv z x)) else none
  | .tuple ds => if (flatD x && ds.all flatD) = true then some (.bool (ds.any fun z => PyData.eqv z x)) else none
  | _ => none
def notInT (x y : PyData) : Option PyData := match inT x y with
  | some (.bool b) => some (.bool (!b))
  | _ => none
theorem r2_inT {K : PySem.W.Frag} : R2Ok K true (fun x y H Q => rInD K x y H Q ∨ rIn K false x y H Q) inT := by
  intro S S' H x y dx dy d Q hn hS rx ry h q
  unfold inT at h
  split at h
  · split at h
    · rename_i hs
      rw [Bool.and_eq_true] at hs
      cases h
      exact .inl ⟨_, _, rx.dp hs.1, ry.dp hs.2, hs.1, hs.2, q _ H (Same.refl H) rpb⟩
    · cases h
  · split at h
    · rename_i hs
      rw [Bool.and_eq_true] at hs
      cases h
      rw [Rp] at ry
      obtain ⟨a, xs, rfl, ht, ra⟩ := ry
      refine .inr ⟨a, xs, rfl, .inr (live_t ht), flatD_rp hs.1 rx, allflat_rp hs.2 ra, ?_⟩
      show Q (.bl (inV x xs)) H
      rw [inV_rp hs.1 rx hs.2 ra]
      exact q _ H (Same.refl H) rpb
    · cases h
  · cases h
theorem r2_notInT {K : PySem.W.Frag} : R2Ok K true (fun x y H Q => rNotInD K x y H Q ∨ rIn K true x y H Q) notInT := by
  intro S S' H x y dx dy d Q hn hS rx ry h q
  unfold notInT inT at h
  split at h
  · rename_i b hb
    split at hb
    · split at hb
      · rename_i hs
        rw [Bool.and_eq_true] at hs
        cases hb
        cases h
        exact .inl ⟨_, _, rx.dp hs.1, ry.dp hs.2, hs.1, hs.2, q _ H (Same.refl H) rpb⟩
      · cases hb
    · split at hb
      · rename_i hs
        rw [Bool.and_eq_true] at hs
        cases hb
        cases h
        rw [Rp] at ry
        obtain ⟨a, xs, rfl, ht, ra⟩ := ry
        refine .inr ⟨a, xs, rfl, .inr (live_t ht), flatD_rp hs.1 rx, allflat_rp hs.2 ra, ?_⟩
        show Q (.bl (!inV x xs)) H
        rw [inV_rp hs.1 rx hs.2 ra]
        exact q _ H (Same.refl H) rpb
      · cases hb
    · cases hb
  · cases h
theorem op_inT {X : Cx} (hu : X.A.units + 65 < cLine) : OpR X (compareOp .In) (fun x y H Q => rInD X.K x y H Q ∨ rIn X.K false x y H Q) := OpR.or (op_inD hu) op_in_seq
theorem op_notInT {X : Cx} (hu : X.A.units + 65 < cLine) : OpR X (compareOp .NotIn) (fun x y H Q => rNotInD X.K x y H Q ∨ rIn X.K true x y H Q) := OpR.or (op_notInD hu) op_notIn_seq

/-! ### x[::k], k 1 or -1 -/
theorem places_back (n : Nat) : Builtin.Slice.slicePlaces ((n : Int) - 1) (-1) (-1) = n := by
  unfold Builtin.Slice.slicePlaces
  have h1 : ¬ ((-1 : Int) > 0) := by omega
  rw [if_neg h1, show (-(-1) : Int) = 1 from rfl]
  split <;> omega
theorem pick_back (xs : Array Value) : ((List.range xs.size).filterMap fun (m : Nat) => xs[((xs.size : Int) - 1 + (m : Int) * (-1)).toNat]?).toArray = xs.toList.reverse.toArray := by
  have e : ∀ m ∈ List.range xs.size, xs[((xs.size : Int) - 1 + (m : Int) * (-1)).toNat]? = xs.toList.reverse[m]? := fun m hm => by
    have hm' := List.mem_range.mp hm
    rw [show ((xs.size : Int) - 1 + (m : Int) * (-1)).toNat = xs.size - 1 - m by omega, List.getElem?_reverse (by rw [Array.length_toList]; exact hm'), Array.length_toList, Array.getElem?_toList]
  congr 1
  have fc : ∀ (l : List Nat), (∀ m ∈ l, xs[((xs.size : Int) - 1 + (m : Int) * (-1)).toNat]? = xs.toList.reverse[m]?) → (l.filterMap fun (m : Nat) => xs[((xs.size : Int) - 1 + (m : Int) * (-1)).toNat]?) = l.filterMap (xs.toList.reverse[·]?) := fun l => by
    induction l with
    | nil => intro _; rfl
    | cons a l ih =>
      intro h
      rw [List.filterMap_cons, List.filterMap_cons, ih fun m hm => h m (List.mem_cons_of_mem _ hm), h a List.mem_cons_self]
  rw [fc _ e]
  have q : ∀ (l : List Value) (k : Nat), k ≤ l.length → (List.range k).filterMap (l[·]?) = l.take k := fun l k => by
    induction k with
    | zero => intro _; rfl
    | succ k ih =>
      intro h
      rw [List.range_succ, List.filterMap_append, ih (by omega), List.take_succ]
      simp [List.getElem?_eq_getElem (show k < l.length by omega)]
  rw [q _ _ (by simp), List.take_of_length_le (by simp)]
section
variable {prog : Program} {w : World} {A : Around} {E : Value → Shared → Prop} {s : Shared}
theorem tup_back {t sl : Addr} {items : Array Value} {vs : Value} {Q : Value → Shared → Prop} (ht : IsTup s.heap t items) (hs : s.heap.IsSliceOf sl .none .none vs) (ps : IsPart vs (some (-1))) (hz : items.size ≤ sizeLine)
    (h : Q (.ref s.heap.objs.size) { s with heap := s.heap.push { cls := .type "tuple", data := .seq items.toList.reverse.toArray } }) : wpAny (model prog w) A (getItem (.ref t) (.ref sl)) Q E s := by
  have hk : sizeOk (.seq items.toList.reverse.toArray) := by
    show items.toList.reverse.toArray.size ≤ sizeLine
    simpa using hz
  obtain ⟨os, hos, hcs, hds⟩ := hs
  have hT : s.TypeIs (.ref sl) "slice" := ⟨os, hos, hcs⟩
  unfold getItem
  first | with_reducible refine wpAny_holding ?_ | skip
  first | refine wpAny_bind (wpAny_pure ?_) | skip
  refine wpAny_bind (wpAny_sequenceKey ht.typeIs (by decide) (wpAny_bind (wpAny_callSpecial?_slot (name := Str.ofString "__getitem__") ht.typeIs PyProof.Rows.slot_tuple_getitem (wpAny_call_entry PyProof.Rows.slot_tuple_getitem ht.typeIs entry_tuple_getitem ?_ (args_tuple_getitem _ _)))))
  show wpAny _ _ (Builtin.Tuple.tupleItemsOf (.ref t) >>= _) _ _ s
  refine wpAny_bind (tupleItemsOf_ ht (wpAny_bind (wpAny_typeOf hT ?_)))
  rw [if_pos (show (Value.type "slice" == Value.type "slice") = true from by decide)]
  refine wpAny_bind ?_
  unfold Builtin.Slice.sliceApplied Builtin.Slice.sliceFields
  refine wpAny_bind (wpAny_bind (wpAny_field hos hds (x := .none) rfl (wpAny_bind (wpAny_field hos hds (x := .none) rfl (wpAny_bind (wpAny_field hos hds (x := vs) rfl (wpAny_pure ?_)))))))
  refine wpAny_bind (HT.slicePart_ ps ?_)
  show wpAny _ _ (if ((-1 : Int) == 0) = true then _ else _) _ _ s
  rw [if_neg (show ¬ (((-1 : Int) == 0) = true) by decide)]
  refine wpAny_bind (HT.slicePart_ .none (wpAny_bind (HT.slicePart_ .none (wpAny_bind (wpAny_pure ?_)))))
  have e : Builtin.Slice.sliceAdjust none none (-1) (items.size : Int) = ((items.size : Int) - 1, -1) := rfl
  show wpAny _ _ (match Builtin.Slice.sliceAdjust none none (-1) (items.size : Int) with | (lo, hi) => pure (lo, (-1 : Int), Builtin.Slice.slicePlaces lo hi (-1))) _ _ s
  rw [e]
  show wpAny _ _ (pure ((items.size : Int) - 1, (-1 : Int), Builtin.Slice.slicePlaces ((items.size : Int) - 1) (-1) (-1))) _ _ s
  rw [places_back]
  refine wpAny_pure ?_
  have hno : ¬ (((items.size : Int) - 1 == 0 && (-1 : Int) == 1 && items.size == items.size) = true) := by
    rw [show ((-1 : Int) == 1) = false from rfl, Bool.and_false, Bool.false_and]
    exact Bool.false_ne_true
  show wpAny _ _ (if ((items.size : Int) - 1 == 0 && (-1 : Int) == 1 && items.size == items.size) = true then _ else _) _ _ s
  rw [if_neg hno, pick_back]
  first
    | exact wpAny_bind (m := Builtin.Tuple.tupleExact _) (wpAny_newObj_type (wpAny_pure ⟨_, rfl, wpAny_pure h⟩) hk)
    | exact wpAny_bind (wpAny_bind (m := Builtin.Tuple.tupleExact _) (wpAny_newObj_type (wpAny_pure (wpAny_pure ⟨_, rfl, wpAny_pure h⟩)) hk))
    | exact wpAny_bind (wpAny_bind (m := Builtin.Tuple.tupleExact _) (wpAny_newObj_type (wpAny_pure ⟨_, rfl, wpAny_pure h⟩) hk))
theorem tup_fwd {t sl : Addr} {items : Array Value} {vs : Value} {Q : Value → Shared → Prop} (ht : IsTup s.heap t items) (hs : s.heap.IsSliceOf sl .none .none vs) (ps : IsPart vs (some 1)) (h : Q (.ref t) s) : wpAny (model prog w) A (getItem (.ref t) (.ref sl)) Q E s := by
  obtain ⟨os, hos, hcs, hds⟩ := hs
  have hT : s.TypeIs (.ref sl) "slice" := ⟨os, hos, hcs⟩
  unfold getItem
  first | with_reducible refine wpAny_holding ?_ | skip
  first | refine wpAny_bind (wpAny_pure ?_) | skip
  refine wpAny_bind (wpAny_sequenceKey ht.typeIs (by decide) (wpAny_bind (wpAny_callSpecial?_slot (name := Str.ofString "__getitem__") ht.typeIs PyProof.Rows.slot_tuple_getitem (wpAny_call_entry PyProof.Rows.slot_tuple_getitem ht.typeIs entry_tuple_getitem ?_ (args_tuple_getitem _ _)))))
  show wpAny _ _ (Builtin.Tuple.tupleItemsOf (.ref t) >>= _) _ _ s
  refine wpAny_bind (tupleItemsOf_ ht (wpAny_bind (wpAny_typeOf hT ?_)))
  rw [if_pos (show (Value.type "slice" == Value.type "slice") = true from by decide)]
  refine wpAny_bind ?_
  unfold Builtin.Slice.sliceApplied Builtin.Slice.sliceFields
  refine wpAny_bind (wpAny_bind (wpAny_field hos hds (x := .none) rfl (wpAny_bind (wpAny_field hos hds (x := .none) rfl (wpAny_bind (wpAny_field hos hds (x := vs) rfl (wpAny_pure ?_)))))))
  refine wpAny_bind (HT.slicePart_ ps ?_)
  show wpAny _ _ (if ((1 : Int) == 0) = true then _ else _) _ _ s
  rw [if_neg (show ¬ (((1 : Int) == 0) = true) by decide)]
  refine wpAny_bind (HT.slicePart_ .none (wpAny_bind (HT.slicePart_ .none (wpAny_bind (wpAny_pure ?_)))))
  have e : Builtin.Slice.sliceAdjust none none 1 (items.size : Int) = (0, (items.size : Int)) := rfl
  show wpAny _ _ (match Builtin.Slice.sliceAdjust none none 1 (items.size : Int) with | (lo, hi) => pure (lo, (1 : Int), Builtin.Slice.slicePlaces lo hi 1)) _ _ s
  rw [e]
  show wpAny _ _ (pure ((0 : Int), (1 : Int), Builtin.Slice.slicePlaces ((0 : Nat) : Int) (items.size : Int) 1)) _ _ s
  rw [HT.places_gen, Nat.sub_zero]
  refine wpAny_pure ?_
  have hy : (((0 : Int) == 0 && (1 : Int) == 1 && items.size == items.size) = true) := by simp
  show wpAny _ _ (if ((0 : Int) == 0 && (1 : Int) == 1 && items.size == items.size) = true then _ else _) _ _ s
  rw [if_pos hy]
  refine wpAny_bind ?_
  show wpAny _ _ (typeOf (.ref t) >>= fun T => pure (T == .type "tuple")) _ _ s
  refine wpAny_bind (wpAny_typeOf ht.typeIs (wpAny_pure ?_))
  first | rw [if_pos (show (Value.type "tuple" == Value.type "tuple") = true from by decide)] | simp only [beq_self_eq_true, if_true]
  first
    | exact wpAny_bind (wpAny_rule (wpAny_pure ⟨_, rfl, wpAny_pure h⟩))
    | exact wpAny_bind (wpAny_rule (wpAny_bind (wpAny_pure (wpAny_pure ⟨_, rfl, wpAny_pure h⟩))))
end
def tRevS (K : PySem.W.Frag) (te : TE) (ts : TO) : TE := fun σ H Q => te σ H fun x H1 => ts σ H1 fun o H2 => ∃ a xs, x = .ref a ∧
  ((o = some (-1) ∧ ((SqL K H2 a xs ∧ ∀ p, H2 p = none → Q (.ref p) (upd H2 p (.lst xs.reverse))) ∨ (SqT K H2 a xs ∧ ∀ p, H2 p = none → Q (.ref p) (upd H2 p (.tup xs.reverse))))) ∨
   (o = some 1 ∧ SqT K H2 a xs ∧ Q (.ref a) H2))
section
variable {X : Cx} {e st : Expr} {te : TE} {ts : TO} {p3 pos : Pos} {c c1 : Bool} {f g : En → Option PyData}
theorem pe_revS (he : PE X e te) (hst : PO X (some st) ts) (hq : ∀ a b, subscripted (.Slice none none (some st) p3) false a b = operate [a, b] (getItem a b) := by intro a b; with_unfolding_all rfl) : PE X (.Subscript e (.Slice none none (some st) p3) pos) (tRevS X.K te ts) := by
  refine ⟨fun pins s σ H Q I h => Subscript_ (thn (he.run pins s σ H _ I h) fun v s1 ⟨x, H1, I1, r1, q1⟩ => ?_)⟩
  refine wpAny_Slice (thn (po_none.run pins s1 σ H1 (fun o H2 => o = none ∧ H2 = H1) I1 ⟨rfl, rfl⟩) fun vl s2 ⟨l, H2, I2, pl, el, e2⟩ => ?_)
  subst el e2
  refine thn (po_none.run pins s2 σ H2 (fun o H3 => o = none ∧ H3 = H2) I2 ⟨rfl, rfl⟩) fun vu s3 ⟨u, H3, I3, pu, eu, e3⟩ => ?_
  subst eu e3
  refine thn (hst.run pins s3 σ H3 _ I3 q1) fun vs s4 ⟨o, H4, I4, ps, a, xs, ex, q⟩ => ?_
  subst ex
  cases r1
  cases pl
  cases pu
  have I5 : Inv X pins σ H4 { s4 with heap := s4.heap.push { cls := .type "slice", data := .fields #[.none, .none, vs] } } := I4.kept (t' := s4.toks) fun b ob q => Heap.get?_push_of_some _ q
  show wpAny (model X.prog X.w) X.A (subscriptTail e (.Slice none none (some st) p3) (.ref a) (.ref s4.heap.objs.size)) (EP X pins σ Q) X.xe { s4 with heap := s4.heap.push { cls := .type "slice", data := .fields #[.none, .none, vs] } }
  rcases q with ⟨rfl, q⟩ | ⟨rfl, hx, q⟩
  · rcases q with ⟨hx, q⟩ | ⟨hx, q⟩
    · obtain ⟨its, r, ht, hz⟩ := I5.list hx
      have hlen := r.length
      refine tail_any (ops := [.ref a, .ref s4.heap.objs.size]) ht.isList.typeIs (PySem.slot_list_getitem.lookup) ?_ (hq _ _)
      refine wpAny_getItem_list_slice ht.isList (Heap.IsSliceOf.new _ _ _ vs) .none .none ps (by decide) ?_ (by rw [List.size_toArray]; omega)
      rw [PySem.W.krv_pick]
      exact ⟨.ref _, _, I5.laid (t' := s4.toks) (o := .lst xs.reverse) (fun b ob q => Heap.get?_push_of_some _ q) (Nat.le_refl _) ⟨by rw [List.length_reverse]; exact hz, _, 0, r.reverse, Heap.get?_push_size _ rfl⟩, rfl, q _ (I5.hok.fresh (Nat.le_refl _))⟩
    · obtain ⟨its, r, ht, hz⟩ := I5.tuple hx
      have hlen : its.toArray.size = xs.length := by rw [List.size_toArray]; exact r.length.symm
      refine tail_any (ops := [.ref a, .ref s4.heap.objs.size]) ht.typeIs (PyProof.Rows.slot_tuple_getitem.lookup) ?_ (hq _ _)
      refine tup_back ht (Heap.IsSliceOf.new _ _ _ vs) ps (by rw [hlen]; exact hz) ?_
      exact ⟨.ref _, _, I5.laid (t' := s4.toks) (o := .tup xs.reverse) (fun b ob q => Heap.get?_push_of_some _ q) (Nat.le_refl _) ⟨by rw [List.length_reverse]; exact hz, _, r.reverse, IsTup.new _ _⟩, rfl, q _ (I5.hok.fresh (Nat.le_refl _))⟩
  · obtain ⟨its, r, ht, hz⟩ := I5.tuple hx
    refine tail_any (ops := [.ref a, .ref s4.heap.objs.size]) ht.typeIs (PyProof.Rows.slot_tuple_getitem.lookup) ?_ (hq _ _)
    exact tup_fwd ht (Heap.IsSliceOf.new _ _ _ vs) ps ⟨.ref a, _, I5, rfl, q⟩
theorem RpA.reverse {K : PySem.W.Frag} {S : Addr → Prop} {H : Hp} : ∀ {ds : List PyData} {vs : List V}, RpA K S H ds vs → RpA K S H ds.reverse vs.reverse
  | [], _, r => by rw [RpA] at r; subst r; exact RpA.nil
  | d :: ds, _, r => by
    rw [RpA] at r
    obtain ⟨v, r', rfl, h1, h2⟩ := r
    rw [List.reverse_cons, List.reverse_cons]
    exact RpA.append (RpA.reverse h2) (RpA.cons h1 RpA.nil)
def revD (k : Int) : PyData → Option PyData
  | .tuple ds => if k = -1 then some (.tuple ds.reverse) else if k = 1 then some (.tuple ds) else none
  | .list ds => if k = -1 then some (.list ds.reverse) else none
  | _ => none
def eRev (f g : En → Option PyData) : En → Option PyData := fun env => match f env with
  | some d => match g env with
    | some (.int k) => revD k d
    | _ => none
  | none => none
theorem ce_rev (he : PE X e (tE X.K c f)) (hst : PE X st (tE X.K c1 g)) (hq : ∀ a b, subscripted (.Slice none none (some st) p3) false a b = operate [a, b] (getItem a b) := by intro a b; with_unfolding_all rfl) : PE X (.Subscript e (.Slice none none (some st) p3) pos) (tE X.K c (eRev f g)) :=
  pe_w (pe_revS he (po_some hst) hq) fun σ H Q ⟨S0, H0, A, env, d, E, hf, q⟩ => by
    unfold eRev at hf
    split at hf
    · rename_i x hx
      split at hf
      · rename_i k hk
        refine ⟨S0, H0, A, env, x, E, hx, fun v H1 s1 r1 => ?_⟩
        refine ⟨S0, H0, A, env, _, E.grow s1, hk, fun u H2 s2 r2 => ?_⟩
        rw [Rp] at r2
        subst r2
        refine ⟨_, rfl, ?_⟩
        have E2 := E.grow (s1.trans s2)
        have s12 := s1.trans s2
        cases x with
        | tuple ds =>
          have r3 := r1.grow s2
          rw [Rp] at r3
          obtain ⟨a, xs, rfl, ht, ra⟩ := r3
          unfold revD at hf
          refine ⟨a, xs, rfl, ?_⟩
          by_cases h1 : k = -1
          · simp only [h1, if_true] at hf
            cases hf
            refine .inl ⟨by rw [h1], .inr ⟨live_t ht, fun p hp => q _ _ (s12.trans (same_new hp)) ?_⟩⟩
            rw [Rp]
            exact ⟨p, _, rfl, upd_same, (RpA.reverse ra).grow (same_new hp)⟩
          · by_cases h2 : k = 1
            · simp only [h1, h2, if_true, if_false] at hf
              have hf' : some (PyData.tuple ds) = some d := by simpa using hf
              cases hf'
              refine .inr ⟨by rw [h2], live_t ht, q _ _ s12 ?_⟩
              rw [Rp]
              exact ⟨a, xs, rfl, ht, ra⟩
            · simp only [h1, h2, if_false] at hf
              cases hf
        | list ds =>
          have r3 := r1.grow s2
          rw [Rp] at r3
          obtain ⟨a, xs, rfl, ht, ra⟩ := r3
          unfold revD at hf
          refine ⟨a, xs, rfl, ?_⟩
          by_cases h1 : k = -1
          · simp only [h1, if_true] at hf
            cases hf
            refine .inl ⟨by rw [h1], .inl ⟨ht.sq, fun p hp => q _ _ (s12.trans (same_new hp)) ?_⟩⟩
            rw [Rp]
            exact ⟨p, _, rfl, .inl ⟨sc_new E2 hp, .inl upd_same⟩, (RpA.reverse ra).grow (same_new hp)⟩
          · simp only [h1, if_false] at hf
            cases hf
        | none => cases hf
        | bool _ => cases hf
        | int _ => cases hf
        | str _ => cases hf
        | dict _ => cases hf
      · cases hf
    · cases hf
end
end Mir

namespace Mir
open PySem PySem.Spec PyProof.Rows L2
section
variable {X : Cx} {e a b : Expr} {st : Stmt} {sts : List Stmt} {pos : Pos} {c c1 c2 : Bool} {f g : En → Option PyData} {fa : En → Option (List PyData)} {s : En → Out}
/-! ### one reading or the other -/
theorem pe_or {t u : TE} (h1 : PE X e t) (h2 : PE X e u) : PE X e (fun σ H Q => t σ H Q ∨ u σ H Q) := ⟨fun pins s σ H Q I q => q.elim (h1.run pins s σ H Q I) (h2.run pins s σ H Q I)⟩
theorem ps_or {t u : TS} (h1 : PS X st t) (h2 : PS X st u) : PS X st (fun D σ H => t D σ H ∨ u D σ H) := ⟨fun pins s σ H D I q => q.elim (h1.run pins s σ H D I) (h2.run pins s σ H D I)⟩
theorem pi_or {tg : Expr} {t u : TI} (h1 : PI X tg e t) (h2 : PI X tg e u) : PI X tg e (fun σ H R => t σ H R ∨ u σ H R) := ⟨fun pins s σ H R I q => q.elim (h1.run pins s σ H R I) (h2.run pins s σ H R I)⟩
theorem ps_lockP {t : TS} (h : PS X st t) : PS X st (fun D σ H => ∃ d u, H d = some u ∧ Mut (some u) ∧ ∀ od, t D σ (upd H d (.frz od u))) := ⟨fun pins s σ H D I ⟨d, u, hd, mu, q⟩ => by
  obtain ⟨od, I1⟩ := I.lock hd mu
  exact h.run pins s σ _ D I1 (q od)⟩
theorem pss_lockP {t : TS} (h : PSs X sts t) : PSs X sts (fun D σ H => t D σ H ∨ ∃ d u, H d = some u ∧ Mut (some u) ∧ ∀ od, t D σ (upd H d (.frz od u))) := ⟨fun pins s σ H D I q => by
  rcases q with q | ⟨d, u, hd, mu, q⟩
  · exact h.run pins s σ H D I q
  · obtain ⟨od, I1⟩ := I.lock hd mu
    exact h.run pins s σ _ D I1 (q od)⟩
/-- a list or a dict of the slot i is let go -/
def frzD (i : Nat) (env : En) : En := match env[i]? with
  | some (.own ds) => env.set i (.val (.list ds))
  | some (.ownT kvs) => env.set i (.val (.dict kvs))
  | some (.ownK kvs) => env.set i (.val (.dict kvs))
  | _ => env
theorem frzD_run {K : PySem.W.Frag} {s : En → Out} {i : Nat} {D : Ends} {σ : L2.St} {H : Hp} (h : tS K (fun env => s (frzD i env)) D σ H) : tS K s D σ H ∨ ∃ d u, H d = some u ∧ Mut (some u) ∧ ∀ od, tS K s D σ (upd H d (.frz od u)) := by
  obtain ⟨S0, H0, A, env, E, o⟩ := h
  have o' : OutOk K S0 H0 A H (s (frzD i env)) D := o
  unfold frzD at o'
  split at o'
  · rename_i ds hi
    left
    obtain ⟨A', E', w⟩ := E.frz i
    have e : frz i env = env.set i (.val (.list ds)) := by
      unfold frz
      rw [hi]
    rw [e] at E'
    exact ⟨S0, H0, A', _, E', OutOk.step o' Fr.refl fun a z => .inl (w a z)⟩
  · rename_i kvs hi
    right
    rcases E.sl i _ hi with z | ⟨v, h1, a, ws, rfl, ha, hh, r⟩
    · cases z
    refine ⟨a, _, hh, trivial, fun od => ?_⟩
    obtain ⟨hL, hT, hD⟩ := E.upd_mono (u1 := .frz od (.dT ws)) ha
    have q : Rp K (Cl S0 H0 A) (upd H a (.frz od (.dT ws))) (.dict kvs) (.ref a) := by
      rw [Rp]
      exact ⟨a, od, rfl, .inl ⟨ws, upd_same, RpD.mono hL hT hD _ _ _ _ r⟩⟩
    refine ⟨S0, H0, _, _, E.lockD hi rfl h1 ha hh q, OutOk.step o' (fun b u z n => ?_) fun b z => .inl z.1⟩
    rw [upd_ne (fun y => n (by rw [y]; exact ha))]; exact z
  · rename_i kvs hi
    right
    rcases E.sl i _ hi with z | ⟨v, h1, a, ws, rfl, ha, hh, r⟩
    · cases z
    refine ⟨a, _, hh, trivial, fun od => ?_⟩
    obtain ⟨hL, hT, hD⟩ := E.upd_mono (u1 := .frz od (.dK ws)) ha
    have q : Rp K (Cl S0 H0 A) (upd H a (.frz od (.dK ws))) (.dict kvs) (.ref a) := by
      rw [Rp]
      exact ⟨a, od, rfl, .inr ⟨ws, upd_same, RpD.mono hL hT hD _ _ _ _ r⟩⟩
    refine ⟨S0, H0, _, _, E.lockD hi rfl h1 ha hh q, OutOk.step o' (fun b u z n => ?_) fun b z => .inl z.1⟩
    rw [upd_ne (fun y => n (by rw [y]; exact ha))]; exact z
  · exact .inl ⟨S0, H0, A, env, E, o'⟩
theorem cs_frzD {i : Nat} (h : PS X st (tS X.K s)) : PS X st (tS X.K fun env => s (frzD i env)) := ps_w (ps_or h (ps_lockP h)) fun D σ H q => frzD_run q
theorem css_frzD {i : Nat} (h : PSs X sts (tS X.K s)) : PSs X sts (tS X.K fun env => s (frzD i env)) := pss_w (pss_lockP h) fun D σ H q => frzD_run q
/-! ### dicts: new ones -/
def sNewT (i : Nat) : En → Out := fun env => .nx (env.set i (.ownT []))
def sNewK (i : Nat) : En → Out := fun env => .nx (env.set i (.ownK []))
theorem cs_newT {i : Nat} (h : PS X st (tAsg tDNewT (gName i))) : PS X st (tS X.K (sNewT i)) := ps_w h fun D σ H ⟨S0, H0, A, env, E, o⟩ => fun p hp =>
  o _ _ _ (E.set_new (s0 := .ownT []) (same_new hp) hp upd_same rfl rfl ⟨p, [], rfl, .inr rfl, upd_same, by rw [RpD]⟩) (Fr.of_same (same_new hp)) fun a z => z.imp id fun e => by rw [e]; exact hp
theorem cs_newK {i : Nat} (h : PS X st (tAsg tDNewK (gName i))) : PS X st (tS X.K (sNewK i)) := ps_w h fun D σ H ⟨S0, H0, A, env, E, o⟩ => fun p hp =>
  o _ _ _ (E.set_new (s0 := .ownK []) (same_new hp) hp upd_same rfl rfl ⟨p, [], rfl, .inr rfl, upd_same, by rw [RpD]⟩) (Fr.of_same (same_new hp)) fun a z => z.imp id fun e => by rw [e]; exact hp
end
/-! ### keys, entries -/
def keysOf : List PyData → Option (List Key)
  | [] => some []
  | .int i :: ds => match keysOf ds with
    | some ks => some (.inl i :: ks)
    | none => none
  | .str x :: ds => match keysOf ds with
    | some ks => some (.inr x :: ks)
    | none => none
  | _ :: _ => none
def kT : PyData → Option (List Key)
  | .tuple ds => keysOf ds
  | _ => none
def kK : PyData → Option Key
  | .int i => some (.inl i)
  | .str x => some (.inr x)
  | _ => none
theorem keysOf_map : ∀ ks : List Key, keysOf (ks.map kdD) = some ks
  | [] => rfl
  | .inl i :: ks => by
    show (match keysOf (ks.map kdD) with | some ks => some (Sum.inl i :: ks) | none => none) = _
    rw [keysOf_map ks]
  | .inr x :: ks => by
    show (match keysOf (ks.map kdD) with | some ks => some (Sum.inr x :: ks) | none => none) = _
    rw [keysOf_map ks]
theorem kT_kd (k : List Key) : kT (kdT k) = some k := keysOf_map k
theorem kK_kd (k : Key) : kK (kdD k) = some k := by cases k <;> rfl
theorem keys_rp {K : PySem.W.Frag} {S : Addr → Prop} {H : Hp} : ∀ {ds : List PyData} {ks : List Key} {xs : List V}, keysOf ds = some ks → RpA K S H ds xs → xs = ks.map kV ∧ ds = ks.map kdD
  | [], ks, xs, h, r => by
    cases h
    rw [RpA] at r
    subst r
    exact ⟨rfl, rfl⟩
  | d :: ds, ks, xs, h, r => by
    rw [RpA] at r
    obtain ⟨v, r', rfl, h1, h2⟩ := r
    cases d with
    | int i =>
      simp only [keysOf] at h
      split at h
      · rename_i ks' hk
        cases h
        obtain ⟨e1, e2⟩ := keys_rp hk h2
        rw [Rp] at h1
        subst h1
        exact ⟨by rw [e1]; rfl, by rw [e2]; rfl⟩
      · cases h
    | str i =>
      simp only [keysOf] at h
      split at h
      · rename_i ks' hk
        cases h
        obtain ⟨e1, e2⟩ := keys_rp hk h2
        rw [Rp] at h1
        subst h1
        exact ⟨by rw [e1]; rfl, by rw [e2]; rfl⟩
      · cases h
    | none => cases h
    | bool _ => cases h
    | list _ => cases h
    | tuple _ => cases h
    | dict _ => cases h
section
variable {κ : Type} [DecidableEq κ]
def getD' (kk : PyData → Option κ) (kvs : List (PyData × PyData)) (k : κ) : Option PyData := (kvs.find? fun p => decide (kk p.1 = some k)).map (·.2)
def putD (kd : κ → PyData) (kk : PyData → Option κ) (kvs : List (PyData × PyData)) (k : κ) (d : PyData) : List (PyData × PyData) :=
  if (kvs.any fun p => decide (kk p.1 = some k)) = true then kvs.map (fun p => if kk p.1 = some k then (p.1, d) else p) else kvs ++ [(kd k, d)]
variable {K : PySem.W.Frag} {S : Addr → Prop} {H : Hp} {kd : κ → PyData} {kk : PyData → Option κ}
theorem RpD.get (hk : ∀ k, kk (kd k) = some k) {k : κ} : ∀ {kvs : List (PyData × PyData)} {ws : List (κ × V)} {d : PyData}, RpD K S H κ kd kvs ws → getD' kk kvs k = some d → ∃ v, valV ws k = some v ∧ Rp K S H d v
  | [], _, _, _, h => by cases h
  | (a, x) :: kvs, _, d, r, h => by
    rw [RpD] at r
    obtain ⟨q, v, ws, rfl, rfl, h1, h2⟩ := r
    unfold getD' at h
    rw [List.find?_cons] at h
    by_cases e : q = k
    · subst e
      simp only [hk, decide_true, Option.map_some, Option.some.injEq] at h
      subst h
      exact ⟨v, valV_pos rfl, h1⟩
    · have e' : decide (kk (kd q) = some k) = false := by simp [hk, e]
      simp only [e'] at h
      obtain ⟨v', g1, g2⟩ := RpD.get hk h2 (show getD' kk kvs k = some d from h)
      exact ⟨v', by rw [valV_neg e]; exact g1, g2⟩
theorem RpD.none (hk : ∀ k, kk (kd k) = some k) {k : κ} : ∀ {kvs : List (PyData × PyData)} {ws : List (κ × V)}, RpD K S H κ kd kvs ws → (valV ws k).isSome = (getD' kk kvs k).isSome
  | [], _, r => by rw [RpD] at r; subst r; rfl
  | (a, x) :: kvs, _, r => by
    rw [RpD] at r
    obtain ⟨q, v, ws, rfl, rfl, h1, h2⟩ := r
    unfold getD'
    rw [List.find?_cons]
    by_cases e : q = k
    · subst e
      simp only [hk, decide_true, Option.map_some]
      rw [valV_pos rfl]; rfl
    · have e' : decide (kk (kd q) = some k) = false := by simp [hk, e]
      simp only [e']
      rw [valV_neg e]
      exact RpD.none hk h2
theorem RpD.any (hk : ∀ k, kk (kd k) = some k) {k : κ} : ∀ {kvs : List (PyData × PyData)} {ws : List (κ × V)}, RpD K S H κ kd kvs ws → (ws.any fun kv => decide (kv.1 = k)) = kvs.any fun p => decide (kk p.1 = some k)
  | [], _, r => by rw [RpD] at r; subst r; rfl
  | (a, x) :: kvs, _, r => by
    rw [RpD] at r
    obtain ⟨q, v, ws, rfl, rfl, h1, h2⟩ := r
    rw [List.any_cons, List.any_cons, RpD.any hk h2]
    simp only [hk, Option.some.injEq]
theorem RpD.repl (hk : ∀ k, kk (kd k) = some k) {k : κ} {d : PyData} {v : V} (hd : Rp K S H d v) : ∀ {kvs : List (PyData × PyData)} {ws : List (κ × V)}, RpD K S H κ kd kvs ws → RpD K S H κ kd (kvs.map fun p => if kk p.1 = some k then (p.1, d) else p) (ws.map fun kv => if kv.1 = k then (kv.1, v) else kv)
  | [], _, r => by rw [RpD] at r; subst r; rw [List.map_nil, List.map_nil, RpD]
  | (a, x) :: kvs, _, r => by
    rw [RpD] at r
    obtain ⟨q, u, ws, rfl, rfl, h1, h2⟩ := r
    rw [List.map_cons, List.map_cons]
    have ih := RpD.repl (k := k) hk hd h2
    by_cases e : q = k
    · subst e
      simp only [hk, if_true]
      rw [RpD]
      exact ⟨q, v, _, rfl, rfl, hd, ih⟩
    · have e' : ¬ kk (kd q) = some k := by simp [hk, e]
      simp only [e', e, if_false]
      rw [RpD]
      exact ⟨q, u, _, rfl, rfl, h1, ih⟩
theorem RpD.snoc {k : κ} {d : PyData} {v : V} (hd : Rp K S H d v) : ∀ {kvs : List (PyData × PyData)} {ws : List (κ × V)}, RpD K S H κ kd kvs ws → RpD K S H κ kd (kvs ++ [(kd k, d)]) (ws ++ [(k, v)])
  | [], _, r => by
    rw [RpD] at r
    subst r
    rw [List.nil_append, List.nil_append, RpD]
    exact ⟨k, v, [], rfl, rfl, hd, by rw [RpD]⟩
  | (a, x) :: kvs, _, r => by
    rw [RpD] at r
    obtain ⟨q, u, ws, rfl, rfl, h1, h2⟩ := r
    rw [List.cons_append, List.cons_append, RpD]
    exact ⟨q, u, _, rfl, rfl, h1, RpD.snoc hd h2⟩
theorem RpD.put (hk : ∀ k, kk (kd k) = some k) {k : κ} {d : PyData} {v : V} (hd : Rp K S H d v) {kvs : List (PyData × PyData)} {ws : List (κ × V)} (r : RpD K S H κ kd kvs ws) : RpD K S H κ kd (putD kd kk kvs k d) (putK ws k v) := by
  unfold putD putK
  rw [r.any hk]
  split
  · exact r.repl hk hd
  · exact r.snoc hd
theorem RpD.len : ∀ {kvs : List (PyData × PyData)} {ws : List (κ × V)}, RpD K S H κ kd kvs ws → ws.length = kvs.length
  | [], _, r => by rw [RpD] at r; subst r; rfl
  | (a, x) :: kvs, _, r => by
    rw [RpD] at r
    obtain ⟨q, v, ws, rfl, rfl, h1, h2⟩ := r
    rw [List.length_cons, List.length_cons, RpD.len h2]
theorem RpD.at : ∀ {kvs : List (PyData × PyData)} {ws : List (κ × V)} {i : Nat} {p : PyData × PyData}, RpD K S H κ kd kvs ws → kvs[i]? = some p → ∃ q v, ws[i]? = some (q, v) ∧ p.1 = kd q
  | [], _, _, _, _, e => by simp at e
  | (a, x) :: kvs, _, i, p, r, e => by
    rw [RpD] at r
    obtain ⟨q, v, ws, rfl, rfl, h1, h2⟩ := r
    cases i with
    | zero =>
      simp at e
      subst e
      exact ⟨q, v, rfl, rfl⟩
    | succ i => exact RpD.at (i := i) h2 (by simpa using e)
end
/-! ### d[k], k in d -/
section
variable {X : Cx} {e a b : Expr} {st : Stmt} {sts : List Stmt} {pos : Pos} {c c1 c2 : Bool} {f g : En → Option PyData} {fa : En → Option (List PyData)} {s : En → Out}
def dGet (kvs : List (PyData × PyData)) (k : PyData) : Option PyData := match kT k with
  | some q => getD' kT kvs q
  | none => match kK k with
    | some q => getD' kK kvs q
    | none => none
theorem kT_kK {d : PyData} {q : List Key} (h : kT d = some q) : kK d = none := by
  cases d <;> first | rfl | cases h
theorem key_rp {K : PySem.W.Frag} {S : Addr → Prop} {H : Hp} {k : PyData} {q : List Key} {y : V} (h : kT k = some q) (r : Rp K S H k y) : ∃ b, y = .ref b ∧ H b = some (.tup (q.map kV)) := by
  cases k with
  | tuple ds =>
    rw [Rp] at r
    obtain ⟨b, xs, rfl, hb, ra⟩ := r
    obtain ⟨e, _⟩ := keys_rp (show keysOf ds = some q from h) ra
    exact ⟨b, rfl, by rw [← e]; exact hb⟩
  | none => cases h
  | bool _ => cases h
  | int _ => cases h
  | str _ => cases h
  | list _ => cases h
  | dict _ => cases h
theorem keyK_rp {K : PySem.W.Frag} {S : Addr → Prop} {H : Hp} {k : PyData} {q : Key} {y : V} (h : kK k = some q) (r : Rp K S H k y) : y = kV q := by
  cases k with
  | int i => cases h; rw [Rp] at r; subst r; rfl
  | str i => cases h; rw [Rp] at r; subst r; rfl
  | none => cases h
  | bool _ => cases h
  | tuple _ => cases h
  | list _ => cases h
  | dict _ => cases h
theorem e2_ev' {k : PyData → PyData → Option PyData} {env : En} {x y d : PyData} (h1 : f env = some x) (h2 : g env = some y) (h3 : k x y = some d) : e2 k f g env = some d := by
  unfold e2
  rw [h1, h2]
  exact h3
/-- what a dict's data say is what it holds -/
theorem dget_rp {K : PySem.W.Frag} {S S' : Addr → Prop} {H : Hp} {kvs : List (PyData × PyData)} {k d : PyData} {x y : V} (rx : Rp K S H (.dict kvs) x) (ry : Rp K S' H k y) (h : dGet kvs k = some d) : ∃ a v, x = .ref a ∧ DGet H a y (some v) ∧ Rp K S H d v := by
  rw [Rp] at rx
  obtain ⟨a, od, rfl, q⟩ := rx
  unfold dGet at h
  rcases q with ⟨ws, hw, r⟩ | ⟨ws, hw, r⟩
  · split at h
    · rename_i q hq
      obtain ⟨v, g1, g2⟩ := r.get kT_kd h
      obtain ⟨b, rfl, hb⟩ := key_rp hq ry
      exact ⟨a, v, rfl, .inr ⟨ws, q, b, .inr ⟨od, hw⟩, rfl, hb, g1.symm⟩, g2⟩
    · exfalso
      have no : ∀ {l : List (PyData × PyData)} {ws : List (List Key × V)} (z : Key), RpD K S H (List Key) kdT l ws → getD' kK l z = none := fun {l} => by
        induction l with
        | nil => intro _ _ _; rfl
        | cons p l ih =>
          intro ws z r
          obtain ⟨pk, pd⟩ := p
          rw [RpD] at r
          obtain ⟨q, v, ws', rfl, rfl, _, h2⟩ := r
          unfold getD'
          rw [List.find?_cons]
          have : decide (kK (kdT q) = some z) = false := by simp [kdT, kK]
          simp only [this]
          exact ih z h2
      split at h
      · rw [no _ r] at h; cases h
      · cases h
  · split at h
    · exfalso
      rename_i q hq
      have no : ∀ {l : List (PyData × PyData)} {ws : List (Key × V)} (z : List Key), RpD K S H Key kdD l ws → getD' kT l z = none := fun {l} => by
        induction l with
        | nil => intro _ _ _; rfl
        | cons p l ih =>
          intro ws z r
          obtain ⟨pk, pd⟩ := p
          rw [RpD] at r
          obtain ⟨q, v, ws', rfl, rfl, _, h2⟩ := r
          unfold getD'
          rw [List.find?_cons]
          have : decide (kT (kdD q) = some z) = false := by cases q <;> simp [kdD, kT]
          simp only [this]
          exact ih z h2
      rw [no _ r] at h; cases h
    · split at h
      · rename_i q hq
        obtain ⟨v, g1, g2⟩ := r.get kK_kd h
        rw [keyK_rp hq ry]
        exact ⟨a, v, rfl, .inl ⟨ws, q, .inr ⟨od, hw⟩, rfl, g1.symm⟩, g2⟩
      · cases h
/-- x[k], x a list, a tuple or a dict that was let go -/
def ixU (x k : PyData) : Option PyData := match x with
  | .dict kvs => dGet kvs k
  | _ => ixG x k
theorem ce_ixU (hu : X.A.units + 1 < cLine) (ha : PE X a (tE X.K c f)) (hb : PE X b (tE X.K c g)) (hs : PlainIx b) (hs' : NoSl b) : PE X (.Subscript a b pos) (tE X.K c (e2 ixU f g)) := pe_w (pe_or (ce_ix ha hb hs) (pe_dget hu ha hb hs')) fun σ H Q ⟨S0, H0, A, env, d, E, hf, q⟩ => by
  obtain ⟨x, k, h1, h2, h3⟩ := e2_some hf
  by_cases hx : ∃ kvs, x = .dict kvs
  · right
    obtain ⟨kvs, rfl⟩ := hx
    refine ⟨S0, H0, A, env, _, E, h1, fun v H1 s1 r1 => ⟨S0, H0, A, env, k, E.grow s1, h2, fun u H2 s2 r2 => ?_⟩⟩
    obtain ⟨p, v', rfl, g1, g2⟩ := dget_rp (r1.grow s2) r2 (show dGet kvs k = some d from h3)
    exact ⟨p, v', rfl, g1, q _ _ (s1.trans s2) g2⟩
  · left
    refine ⟨S0, H0, A, env, d, E, ?_, q⟩
    refine e2_ev' h1 h2 ?_
    cases x with
    | dict kvs => exact absurd ⟨kvs, rfl⟩ hx
    | none => exact h3
    | bool _ => exact h3
    | int _ => exact h3
    | str _ => exact h3
    | list _ => exact h3
    | tuple _ => exact h3
/-- d[k], d an owned dict -/
def eGetO (i : Nat) (g : En → Option PyData) : En → Option PyData := fun env => match env[i]? with
  | some (.ownT kvs) => match g env with
    | some k => match kT k with
      | some q => getD' kT kvs q
      | none => none
    | none => none
  | some (.ownK kvs) => match g env with
    | some k => match kK k with
      | some q => getD' kK kvs q
      | none => none
    | none => none
  | _ => none
theorem ce_getO {i : Nat} (hu : X.A.units + 1 < cLine) (ha : PE X a (tVar i)) (hb : PE X b (tE X.K c1 g)) (hs' : NoSl b) : PE X (.Subscript a b pos) (tE X.K c (eGetO i g)) := pe_w (pe_dget hu ha hb hs') fun σ H Q ⟨S0, H0, A, env, d, E, hf, q⟩ => by
  unfold eGetO at hf
  split at hf
  · rename_i kvs hi
    rcases E.sl i _ hi with z | ⟨v, h1, p, ws, rfl, ha, hh, r⟩
    · cases z
    split at hf
    · rename_i k hk
      split at hf
      · rename_i y hy
        refine ⟨_, h1, S0, H0, A, env, k, E, hk, fun u H2 s2 r2 => ?_⟩
        obtain ⟨v, g1, g2⟩ := r.get kT_kd hf
        obtain ⟨b, rfl, hb⟩ := key_rp hy r2
        exact ⟨p, v, rfl, .inr ⟨ws, y, b, .inl (s2 _ _ hh), rfl, hb, g1.symm⟩, q _ _ s2 ((g2.grow s2).wide fun _ z => sc_cl z)⟩
      · cases hf
    · cases hf
  · rename_i kvs hi
    rcases E.sl i _ hi with z | ⟨v, h1, p, ws, rfl, ha, hh, r⟩
    · cases z
    split at hf
    · rename_i k hk
      split at hf
      · rename_i y hy
        refine ⟨_, h1, S0, H0, A, env, k, E, hk, fun u H2 s2 r2 => ?_⟩
        obtain ⟨v, g1, g2⟩ := r.get kK_kd hf
        rw [keyK_rp hy r2]
        exact ⟨p, v, rfl, .inl ⟨ws, y, .inl (s2 _ _ hh), rfl, g1.symm⟩, q _ _ s2 ((g2.grow s2).wide fun _ z => sc_cl z)⟩
      · cases hf
    · cases hf
  · cases hf
/-- d[k] = v, d an owned dict -/
def sPutD (i : Nat) (fk f : En → Option PyData) : En → Out := fun env => match f env with
  | some d => match fk env with
    | some k => match env[i]? with
      | some (.ownT kvs) => match kT k with
        | some q => if kvs.length < 1000000 then .nx (env.set i (.ownT (putD kdT kT kvs q d))) else .bad
        | none => .bad
      | some (.ownK kvs) => match kK k with
        | some q => if kvs.length < 1000000 then .nx (env.set i (.ownK (putD kdD kK kvs q d))) else .bad
        | none => .bad
      | _ => .bad
    | none => .bad
  | none => .bad
theorem cs_putD {i : Nat} {fk : En → Option PyData} (h : PS X st (sDPut (tVar i) (tE X.K c fk) (tE X.K true f))) : PS X st (tS X.K (sPutD i fk f)) := ps_w h fun D σ H ⟨S0, H0, A, env, E, o⟩ => by
  unfold sPutD at o
  split at o
  · rename_i d hd
    refine ⟨S0, H0, A, env, d, E, hd, fun v H1 s1 r1 => ?_⟩
    split at o
    · rename_i k hk
      split at o
      · rename_i kvs hi
        rcases E.sl i _ hi with z | ⟨v', h1, p, ws, rfl, ha, hh, r⟩
        · cases z
        split at o
        · rename_i y hy
          split at o
          · rename_i hl
            refine ⟨_, h1, S0, H0, A, env, k, E.grow s1, hk, fun u H2 s2 r2 => ?_⟩
            obtain ⟨b, rfl, hb⟩ := key_rp hy r2
            have s12 := s1.trans s2
            have E2 := E.grow s12
            obtain ⟨hL, hT, hD⟩ := E2.upd_mono (u1 := .dT (putK ws y v)) ha
            refine ⟨p, _, rfl, .inr ⟨ws, y, b, s12 _ _ hh, rfl, hb, by rw [r.len]; exact Nat.lt_of_lt_of_le hl (by decide), rfl⟩, ?_⟩
            refine o A _ σ (E2.mutG hi rfl rfl h1 ha (s12 _ _ hh) rfl rfl ⟨p, _, rfl, ha, upd_same, RpD.mono hL hT hD _ _ _ _ ((r.grow s12).put kT_kd ((r1.wide fun _ z => cl_sc z).grow s2))⟩) (fun b u e n => ?_) Sb.refl
            rw [upd_ne (fun z => n (by rw [z]; exact ha))]
            exact s12 _ _ e
          · exact o.elim
        · exact o.elim
      · rename_i kvs hi
        rcases E.sl i _ hi with z | ⟨v', h1, p, ws, rfl, ha, hh, r⟩
        · cases z
        split at o
        · rename_i y hy
          split at o
          · rename_i hl
            refine ⟨_, h1, S0, H0, A, env, k, E.grow s1, hk, fun u H2 s2 r2 => ?_⟩
            have eu := keyK_rp hy r2
            subst eu
            have s12 := s1.trans s2
            have E2 := E.grow s12
            obtain ⟨hL, hT, hD⟩ := E2.upd_mono (u1 := .dK (putK ws y v)) ha
            refine ⟨p, _, rfl, .inl ⟨ws, y, s12 _ _ hh, rfl, by rw [r.len]; exact Nat.lt_of_lt_of_le hl (by decide), rfl⟩, ?_⟩
            refine o A _ σ (E2.mutG hi rfl rfl h1 ha (s12 _ _ hh) rfl rfl ⟨p, _, rfl, ha, upd_same, RpD.mono hL hT hD _ _ _ _ ((r.grow s12).put kK_kd ((r1.wide fun _ z => cl_sc z).grow s2))⟩) (fun b u e n => ?_) Sb.refl
            rw [upd_ne (fun z => n (by rw [z]; exact ha))]
            exact s12 _ _ e
          · exact o.elim
        · exact o.elim
      · exact o.elim
    · exact o.elim
  · exact o.elim
/-! ### for k in d -/
theorem wk_keysT {K : PySem.W.Frag} {a : Addr} {od : Obj} {ws : List (List Key × V)} {kvs : List (PyData × PyData)} {S0 S : Addr → Prop} {H0 : Hp} (r : RpD K S0 H0 (List Key) kdT kvs ws) : Wk K (Itkt a od ws) (fun H => H a = some (.frz od (.dT ws))) S (kvs.map (·.1)) where
  go := fun i H g l => ⟨g, by rw [r.len]; simpa using l⟩
  yld := fun i H d x H' g e y => by
    obtain ⟨rfl, k, v, p, h1, rfl, h2⟩ := y
    refine ⟨Same.refl _, ?_⟩
    rw [List.getElem?_map] at e
    cases hk : kvs[i]? with
    | none => rw [hk] at e; cases e
    | some pr =>
      rw [hk] at e
      cases e
      obtain ⟨q', v', h3, h4⟩ := r.at hk
      rw [h1] at h3
      cases h3
      show Rp K S H' pr.1 _
      rw [h4]
      unfold kdT
      rw [Rp]
      refine ⟨p, _, rfl, h2, ?_⟩
      have rk : ∀ ks : List Key, RpA K S H' (ks.map kdD) (ks.map kV) := fun ks => by
        induction ks with
        | nil => exact RpA.nil
        | cons z ks ih => exact RpA.cons (by cases z <;> (show Rp K S H' _ _; simp only [kdD, kV]; rw [Rp])) ih
      exact rk k
  stop := fun i H g l => ⟨g, by rw [r.len]; simpa using l⟩
theorem wk_keysK {K : PySem.W.Frag} {a : Addr} {od : Obj} {ws : List (Key × V)} {kvs : List (PyData × PyData)} {S0 S : Addr → Prop} {H0 : Hp} (r : RpD K S0 H0 Key kdD kvs ws) : Wk K (Itk a od ws) (fun H => H a = some (.frz od (.dK ws))) S (kvs.map (·.1)) where
  go := fun i H g l => ⟨g, by rw [r.len]; simpa using l⟩
  yld := fun i H d x H' g e y => by
    obtain ⟨rfl, k, v, h1, rfl⟩ := y
    refine ⟨Same.refl _, ?_⟩
    rw [List.getElem?_map] at e
    cases hk : kvs[i]? with
    | none => rw [hk] at e; cases e
    | some pr =>
      rw [hk] at e
      cases e
      obtain ⟨q', v', h3, h4⟩ := r.at hk
      rw [h1] at h3
      cases h3
      show Rp K S H' pr.1 _
      rw [h4]
      cases k <;> (simp only [kdD, kV]; rw [Rp])
  stop := fun i H g l => ⟨g, by rw [r.len]; simpa using l⟩
def iSeqU (f : En → Option PyData) : En → Option (List PyData) := fun env => match f env with
  | some (.list ds) => some ds
  | some (.tuple ds) => some ds
  | some (.dict kvs) => some (kvs.map (·.1))
  | _ => none
theorem ci_seqU {tg iter : Expr} {f : En → Option PyData} (h : PE X iter (tE X.K true f)) : PI X tg iter (tI X.K true (iSeqU f)) := pi_w (pi_or (ci_seq h) (pi_keys h)) fun σ H R ⟨S0, H0, A, env, ds, E, hf, q⟩ => by
  unfold iSeqU at hf
  split at hf
  · rename_i es hd
    exact .inl ⟨S0, H0, A, env, ds, E, by unfold iSeq; rw [hd]; exact hf, q⟩
  · rename_i es hd
    exact .inl ⟨S0, H0, A, env, ds, E, by unfold iSeq; rw [hd]; exact hf, q⟩
  · rename_i kvs hd
    cases hf
    refine .inr ⟨S0, H0, A, env, _, E, hd, fun v H1 s r => ?_⟩
    rw [Rp] at r
    obtain ⟨a, od, rfl, z⟩ := r
    have E1 := E.grow s
    refine ⟨a, od, rfl, ?_⟩
    rcases z with ⟨ws, hw, r⟩ | ⟨ws, hw, r⟩
    · exact .inr ⟨ws, hw, q _ H1 _ s (fun H2 s2 => s2 _ _ hw) (fun _ H2 f2 => f2 a _ hw fun z => E1.no_frz rfl z hw) (wk_keysT r)⟩
    · exact .inl ⟨ws, hw, q _ H1 _ s (fun H2 s2 => s2 _ _ hw) (fun _ H2 f2 => f2 a _ hw fun z => E1.no_frz rfl z hw) (wk_keysK r)⟩
  · cases hf
/-! ### a display with written keys -/
def trsOf (K : PySem.W.Frag) (ps : List (Str × (En → Option PyData))) : List (TE × TE) := ps.map fun p => (tC (.str p.1), tE K true p.2)
def valsE : List (Str × (En → Option PyData)) → En → Option (List (Key × PyData))
  | [], _ => some []
  | (k, f) :: ps, env => match f env with
    | some d => match valsE ps env with
      | some ds => some ((.inr k, d) :: ds)
      | none => none
    | none => none
def mkD (ps : List (Key × PyData)) : List (PyData × PyData) := ps.foldl (fun acc kv => putD kdD kK acc kv.1 kv.2) []
/-- the new dict's entries stand apart from it -/
inductive Ents (K : PySem.W.Frag) (S : Addr → Prop) (H : Hp) : List (Key × PyData) → List (V × V) → Prop
  | nil : Ents K S H [] []
  | cons {k : Key} {d : PyData} {v : V} {ps : List (Key × PyData)} {vs : List (V × V)} : Rp K S H d v → Ents K S H ps vs → Ents K S H ((k, d) :: ps) ((kV k, v) :: vs)
theorem Ents.kv {K : PySem.W.Frag} {S : Addr → Prop} {H : Hp} {ps : List (Key × PyData)} {vs : List (V × V)} (h : Ents K S H ps vs) : ∃ ws : List (Key × V), vs = ws.map (fun kv => (kV kv.1, kv.2)) ∧ ws.length = ps.length ∧ ∀ {acc : List (PyData × PyData)} {aw : List (Key × V)}, RpD K S H Key kdD acc aw → RpD K S H Key kdD (ps.foldl (fun acc kv => putD kdD kK acc kv.1 kv.2) acc) (mergeK aw ws) := by
  induction h with
  | nil => exact ⟨[], rfl, rfl, fun r => r⟩
  | @cons k d v ps vs r _ ih =>
    obtain ⟨ws, e, l, f⟩ := ih
    refine ⟨(k, v) :: ws, by rw [e]; rfl, by rw [List.length_cons, List.length_cons, l], fun {acc aw} ra => ?_⟩
    exact f (ra.put kK_kd r)
theorem pairs_run {K : PySem.W.Frag} {S0 : Addr → Prop} {H0 : Hp} {A : Addr → Prop} {env : En} {σ : L2.St} : ∀ {ps : List (Str × (En → Option PyData))} {H1 : Hp} {ds : List (Key × PyData)} {Q : List (V × V) → Hp → Prop}, EnvOk K S0 H0 A H1 σ env → valsE ps env = some ds →
    (∀ vs H2, Same H1 H2 → Ents K (Cl S0 H0 A) H2 ds vs → Q vs H2) → tPairs (trsOf K ps) σ H1 Q
  | [], H1, ds, Q, E, h, q => by
    cases h
    exact q [] H1 (Same.refl _) .nil
  | (k, f) :: ps, H1, ds, Q, E, h, q => by
    simp only [valsE] at h
    split at h
    · rename_i d hd
      split at h
      · rename_i ds' hds
        cases h
        show tPairs ((tC (.str k), tE K true f) :: trsOf K ps) σ H1 Q
        refine ⟨S0, H0, A, env, d, E, hd, fun v H2 s2 r2 => ?_⟩
        refine pairs_run (E.grow s2) hds fun vs H3 s3 en => ?_
        exact q _ H3 (s2.trans s3) (.cons ((r2.wide fun _ z => cl_sc z).grow s3) en)
      · cases h
    · cases h
def sDisp (i : Nat) (ps : List (Str × (En → Option PyData))) : En → Out := fun env => match valsE ps env with
  | some ds => if ds.length ≤ 15 then .nx (env.set i (.ownK (mkD ds))) else .bad
  | none => .bad
theorem cs_disp {i : Nat} {ps : List (Str × (En → Option PyData))} (h : PS X st (tAsg (tDisp (trsOf X.K ps)) (gName i))) : PS X st (tS X.K (sDisp i ps)) := ps_w h fun D σ H ⟨S0, H0, A, env, E, o⟩ => fun p hp => by
  unfold sDisp at o
  split at o
  · rename_i ds hds
    split at o
    · rename_i hl
      refine pairs_run (E.grow (same_new hp)) hds fun vs H2 s2 en => ?_
      obtain ⟨ws, rfl, wl, f⟩ := en.kv
      have hp2 : H2 p = some (.dK []) := s2 _ _ upd_same
      refine ⟨hp2, ws, rfl, by rw [wl]; exact hl, ?_⟩
      have sH : Same H (upd H2 p (.dK (mergeK [] ws))) := fun b u z => by
        rw [upd_ne (ne_of_none z hp)]
        exact s2 _ _ ((same_new hp) _ _ z)
      have r := f (acc := []) (aw := []) (by rw [RpD])
      obtain ⟨k1, k2, k3⟩ := upd_monoD (S := Cl S0 H0 A) (u1 := .dK (mergeK [] ws)) hp2 rfl
      have r' : RpD X.K (fun a => Cl S0 H0 A a ∧ a ≠ p) H2 Key kdD (mkD ds) (mergeK [] ws) := RpD.mono (fun a xs z y => ⟨⟨z, fun e => by
        rw [e] at y
        rcases y with y | ⟨_, y⟩ <;> (rw [hp2] at y; cases y)⟩, y⟩) (fun _ _ z => z) (fun _ _ _ z => z) _ _ _ _ r
      refine o _ _ _ (E.set_new (s0 := .ownK (mkD ds)) sH hp upd_same rfl rfl ⟨p, _, rfl, .inr rfl, upd_same, RpD.mono k1 k2 k3 _ _ _ _ r'⟩) (Fr.of_same sH) fun a z => z.imp id fun e => by rw [e]; exact hp
    · exact o.elim
  · exact o.elim
theorem hu1 {k : Nat} {A : Around} (r : Room k A) : A.units + 1 < cLine := by
  have := hu65 r
  omega
/-! ### k in d -/
def inU (k x : PyData) : Option PyData := match x with
  | .dict kvs => match kvs with
    | [] => none
    | (p, _) :: _ => match kT p with
      | some _ => match kT k with
        | some q => some (.bool (getD' kT kvs q).isSome)
        | none => none
      | none => match kK k with
        | some q => some (.bool (getD' kK kvs q).isSome)
        | none => none
  | _ => inT k x
end
end Mir

/-! Exc1: the class Refused(BookError) with super().__init__(what); self.what = what: made, raised, its field read -/
namespace PySem
namespace RfX
open PySem.W PySem.Calls PyProof.Rows PySem.HandSPX
def iA : Arguments := { posonlyargs := [], args := [{ arg := "self", annotation := none, pos := ⟨6, 17, 6, 21⟩ }, { arg := "what", annotation := none, pos := ⟨6, 23, 6, 27⟩ }], vararg := none, kwonlyargs := [], kw_defaults := [], kwarg := none, defaults := [] }
def iB : List Stmt := [.Expr (.Call (.Attribute (.Call (.Name "super" ⟨7, 8, 7, 13⟩) [] [] ⟨7, 8, 7, 15⟩) "__init__" ⟨7, 8, 7, 24⟩) [.Name "what" ⟨7, 25, 7, 29⟩] [] ⟨7, 8, 7, 30⟩) ⟨7, 8, 7, 30⟩, .Assign [.Attribute (.Name "self" ⟨8, 8, 8, 12⟩) "what" ⟨8, 8, 8, 17⟩] (.Name "what" ⟨8, 20, 8, 24⟩) ⟨8, 8, 8, 24⟩]
def iS : Scope := { kind := .function, names := [(PySem.Str.ofString "self", .local), (PySem.Str.ofString "what", .local), (PySem.Str.ofString "__class__", .free), (PySem.Str.ofString "super", .globalImplicit)], isGenerator := false, isCoroutine := false, more := [] }
/-- what the written part says of Refused, at C, and of its __init__, at fI -/
structure RfTxt (prog : Program) (K : Frag) (mg : Str → Option Value) (C fI : Addr) : Prop where
  gC : mg "Refused" = some (.ref C)
  cls : ∃ nm q N bs bm sn sub ab col dd k0 k1 k2 k3 k5, K.lookup C = some (excClassObj nm q C N bs bm true sn sub ab col dd k0 k1 k2 k3 k5 "ValueError.__new__") ∧ refsVE bm = true
  sa : findIn K (.ref C) "__setattr__" = some (some (.builtin "object.__setattr__"))
  ga : findIn K (.ref C) "__getattribute__" = some (some (.builtin "BaseException.__getattribute__"))
  gg : findIn K (.ref C) "__getattr__" = some none
  noN : findIn K (.ref C) "what" = some none
  iC : findIn K (.ref C) "__init__" = some (some (.ref fI))
  tC : typeIn K (.ref fI) = some (.type "function")
  kC : keepIn K (.ref C) = true
  exC : subIn K (.ref C) (.type "BaseException") = some true
  tyC : typeIn K (.ref C) = some (.type "type")
  hdC : hasDictIn K C = true
  te : exmOne K (.ref C) (.ref C) = some true
  sup : mg "super" = none
  opq : nsIn K cStatics "thirdparty.any" = some none
  sIn : ks_superIn K C C "__init__" = some (some (.builtin "ValueError.__init__"))
  hB : subIn K (.ref C) (.type "ValueError") = some true
  mro : mroIn K C (.ref C) = some true
  top : (prog.main.scope.names.lookup ("super" : Str)).isSome = false
  fn : ∃ (oc : Value) (od : Option Addr) (doc pm : Value) (an : Option Addr) (cda cc : Addr) (ct : Value) (osl : Array (Option Value)) (vs : Array Value) (file : Str) (tf : Tok) (c1 c2 : Value) (d1 d2 : Option Addr) (s1 s2 : Array (Option Value)),
    K.lookup fI = some ⟨oc, od, .func (fnX "__init__" "Refused.__init__" iA iB iS [("__class__", cc)] .none .none doc pm an (.ref cda) ct), osl⟩ ∧ codeIn K (.ref cda) "Refused.__init__" = true ∧
    K.lookup cda = some ⟨c1, d1, .fields vs, s1⟩ ∧ vs[2]? = some (.str file tf) ∧ ((prog.main.file : Str) == file) = true ∧ K.lookup cc = some ⟨c2, d2, .cell (some (.ref C)), s2⟩
theorem one_size (v : Value) : [v].length ≤ sizeLine := by
  rw [sizeLine_eq]
  exact (by decide : 1 ≤ 16777216)
/-- what __init__ leaves of a fresh exception at x -/
structure InitEnd (h h' : Heap) (x C dx t1 : Addr) (v : Value) : Prop where
  keep : ∀ b o, b ≠ x → h.get? b = some o → h'.get? b = some o
  obj : h'.get? x = some { cls := .ref C, dict := some dx, data := .fields #[.ref t1, .none, .none, .none, .bool false, .none] }
  dbig : h.objs.size ≤ dx
  dne : dx ≠ x
  ns : h'.Ns1 dx (fun y => if y = "what" then some v else none)
/-- a made one -/
structure OwnMade (h h' : Heap) (e C d : Addr) (v : Value) : Prop where
  keep : ∀ b o, h.get? b = some o → h'.get? b = some o
  new : h.objs.size ≤ e
  obj : ∃ oe vs, h'.get? e = some oe ∧ oe.cls = .ref C ∧ oe.dict = some d ∧ oe.data = .fields vs ∧ vs[1]? = some .none
  dbig : h.objs.size ≤ d
  dne : d ≠ e
  ns : h'.Ns1 d (fun y => if y = "what" then some v else none)
section
variable {prog : Program} {w : World} {A : Around} {E : Value → Shared → Prop} {R : Result → Shared → Prop} {s : Shared} {K : Frag} {mg : Str → Option Value} {C fI : Addr}
theorem rf_init (T : RfTxt prog K mg C fI) {x t0 : Addr} {v : Value} (X : K.In s.heap) (G : s.heap.Ns mainGlobals mg) (B : ∃ mb, s.heap.Ns builtinsNs mb ∧ ∀ x : Str, x ≠ "__name__" → mb x = bootBuiltins x) (hlim : s.heap.NoLimit) (hx : s.heap.get? x = some (excO C t0)) (hnx : K.lookup x = none) (hroom : A.depth < recursionLimit)
    (hq : ∀ h' tk dx t1, InitEnd s.heap h' x C dx t1 v → R (.ok (.ret .none)) { s with heap := h', toks := tk }) :
    codeAny (model prog w) A (.call (.ref fI) ⟨[.ref x, v], []⟩) R s := by
  obtain ⟨oc, od, doc, pm, an, cda, cc, ct, osl, vs, file, tf, c1, c2, d1, d2, s1, s2, ho, hcd, hcode, hvs, hfile, hcell⟩ := T.fn
  obtain ⟨nm, q, N, bs, bm, sn, sub, ab, col, dd, k0, k1, k2, k3, k5, hC, hbm⟩ := T.cls
  have hcl : clsIn K C = some { name := nm, bases := bs, mro := .ref C :: bm, ns := N, qualname := q, hasDict := true, slotNames := sn, subclasses := sub, abstract := ab, collection := col, hasDel := false } := by unfold clsIn; rw [hC] <;> rfl
  refine ks_codeAny_call_defAt (binds := [("self", .ref x), ("what", v)]) hroom (X _ _ ho) rfl hlim (codeRec_of X hcd) rfl (BindsTo.of_eq (by first | rfl | with_unfolding_all rfl)) (show ∀ y ∈ iS.names, y.2 ≠ NameKind.cell from by decide +kernel) (fun y hy => by
    rcases List.mem_cons.mp hy with rfl | hy
    · kernel_rfl
    rcases List.mem_cons.mp hy with rfl | hy
    · kernel_rfl
    cases hy) (fun h₁ hn hk => ?_) rfl rfl rfl
  have X₁ : K.In h₁ := X.keeps hk
  have hx₁ := hk _ _ hx
  have hL : s.heap.objs.size ≠ x := Nat.ne_of_gt (Heap.lt_size hx)
  have G₁ := G.keeps hk
  obtain ⟨mb, b1, b2⟩ := B
  have b1 := b1.keeps hk
  have hne : x ≠ C := fun e => by
    have z := X _ _ hC
    rw [← e, hx] at z
    cases z
  show wpAt _ _ _ (execs (_ :: _) _) _ _ _
  refine ks_wpAt_execs_cons (ks_wpAt_Expr_any (ks_wpAt_MethodCall ?_))
  have hCat := X₁ _ _ hC
  refine ks_wpAt_super_base (ar := { arg := "self", annotation := none, pos := ⟨6, 17, 6, 21⟩ }) (env := ksEnv "Refused.__init__" iS s.heap.objs.size fI (.ref cda) cc) (by kernel_rfl) (by kernel_rfl) (by decide +kernel) rfl (X₁ _ _ ho) rfl (by kernel_rfl) rfl (X₁ _ _ hcode) rfl hvs hfile T.top ?_
  refine ks_loadName_global rfl (by kernel_rfl) (loadGlobal_builtin (env := ksEnv "Refused.__init__" iS s.heap.objs.size fI (.ref cda) cc) G₁ T.sup b1 ((b2 _ (by decide +kernel)).trans (by first | boot_by_name | rfl | kernel_rfl)) ⟨rfl, ?_⟩)
  refine wpAny_loadName_free rfl (by kernel_rfl) (by kernel_rfl) ⟨_, X₁ _ _ hcell, rfl⟩ ?_
  refine wpAny_loadName_local (v := .ref x) rfl (by kernel_rfl) hn (by kernel_rfl) ?_
  refine ks_wpAny_isType_cls hCat rfl ⟨rfl, ?_⟩
  refine ks_wpAny_call_super hCat rfl hx₁ rfl (fun c e => by cases e) (looks_mroIn X₁ T.mro) (fun h₂ hso k₂ => ?_)
  have X₂ : K.In h₂ := X₁.keeps k₂
  have hx₂ := k₂ _ _ hx₁
  have hn₂ := hn.keeps k₂
  have I₂ : InstAt h₂ x (excO C t0) C none := ⟨hx₂, rfl, rfl, trivial⟩
  have hm := T.sIn
  unfold ks_superIn at hm
  rw [hcl] at hm
  refine kxs_getMethod kxs_ValueError (l₀ := .ref C :: bm) hso (looks_opaque X₂ T.opq) (fun A Q E s k q => wpAny_bind ((looks_clsIn X₂ hcl) A _ E s k (wpAny_pure q))) rfl X₂ hm (I₂.type.andThen (looks_subIn X₂ T.hB)) hne (by decide +kernel) ?_
  have k₃ : ∀ b o, h₂.get? b = some o → (h₂.push (kxs_mw "ValueError.__init__" x)).get? b = some o := fun b o e => Heap.get?_push_of_some _ e
  have hu : (h₂.push (kxs_mw "ValueError.__init__" x)).get? h₂.objs.size = some (kxs_mw "ValueError.__init__" x) := Heap.get?_push_at rfl rfl
  refine kxs_callWith (i := "ValueError.__init__") (x := x) (by kernel_rfl) ?_
  refine evalArgs_plain (spliced_cons ?_)
  have hn₃ := hn₂.keeps k₃
  refine wpAny_Name (env := ksEnv "Refused.__init__" iS s.heap.objs.size fI (.ref cda) cc) (wpAny_loadName_local (v := v) rfl (by kernel_rfl) hn₃ (by kernel_rfl) ?_) (by decide +kernel)
  refine spliced_nil ⟨hu, ?_⟩
  have hC₃ := k₃ _ _ (k₂ _ _ hCat)
  have hx₃ := k₃ _ _ hx₂
  refine wpAny_call (codeAny_of_tree (show wpAny _ _ (callAny (.ref h₂.objs.size) ⟨[v], []⟩) _ _ _ from ?_))
  simp only [callAny]
  refine wpAny_bind (wpAny_load hu ?_)
  simp only [kxs_mw, show ((Value.type "method-wrapper" == Value.type "method") || (Value.type "method-wrapper" == Value.type "builtin_function_or_method") || (Value.type "method-wrapper" == Value.type "method-wrapper")) = true by decide, if_true]
  refine KFB.if_so (by decide) (wpAny_bind (check_bound_init F.excBase_ValueError.toExcCallFacts hC₃ hx₃ rfl (wpAny_bind (wpAny_pure (wpAny_pure ⟨plainId_quiet F.excBase_ValueError.init.plain _, codeAny_builtin F.excBase_ValueError.initEntry ?_⟩)))))
  refine exc_init_tree (cls := .ref C) (t0 := t0) (dv := none) (c2 := .none) (c3 := .none) (b4 := .bool false) hx₃ (one_size v) fun h₄ k₄ hx₄ ht₄ => ?_
  have hn₄ : h₄.Ns s.heap.objs.size (fun y => [(("self" : Str), Value.ref x), (("what" : Str), v)].reverse.lookup y) := by
    obtain ⟨oL, es, ep, e1, r⟩ := hn₃
    exact ⟨oL, es, ep, k₄ _ _ (fun z => hL z) e1, r⟩
  have old : ∀ b o, b ≠ x → s.heap.get? b = some o → h₄.get? b = some o := fun b o nb e => k₄ b o nb (k₃ _ _ (k₂ _ _ (hk _ _ e)))
  have X₄ : K.In h₄ := fun b o e => old b o (fun z => by rw [z, hnx] at e; cases e) (X _ _ e)
  refine wpAt_of_wpAny (wpAny_execs_cons (plainObj_wpAny_Assign_Attribute ?_))
  refine wpAny_Name (env := ksEnv "Refused.__init__" iS s.heap.objs.size fI (.ref cda) cc) (wpAny_loadName_local (v := v) rfl (by kernel_rfl) hn₄ (by kernel_rfl) ?_) (by decide +kernel)
  refine wpAny_Name (env := ksEnv "Refused.__init__" iS s.heap.objs.size fI (.ref cda) cc) (wpAny_loadName_local (v := .ref x) rfl (by kernel_rfl) hn₄ (by kernel_rfl) ?_) (by decide +kernel)
  refine set_plain X₄ (od := none) ⟨hx₄, rfl, rfl, trivial⟩ T.sa ?_
  refine exc_osa X₄ hx₄ hcl (show refsVE (.ref C :: bm) = true from hbm) rfl T.noN (fun h₅ tk₅ dx k₅ dn dne hx₅ hn₅ => ?_)
  show wpAny _ _ (execs _ _) _ _ _
  refine wpAny_execs_nil (hq h₅ tk₅ dx _ ⟨fun b o hb e => k₅ b o hb (old b o hb e), hx₅, ?_, dne, hn₅⟩)
  obtain ⟨oL, es, ep, e1, r⟩ := hn₄
  exact Nat.le_of_lt (Nat.lt_of_lt_of_le (Heap.lt_size e1) dn)
theorem rf_made (T : RfTxt prog K mg C fI) {v : Value} (X : K.In s.heap) (G : s.heap.Ns mainGlobals mg) (B : ∃ mb, s.heap.Ns builtinsNs mb ∧ ∀ x : Str, x ≠ "__name__" → mb x = bootBuiltins x) (hlim : s.heap.NoLimit) (hroom : A.depth + 1 < recursionLimit)
    (hq : ∀ h' tk e d, OwnMade s.heap h' e C d v → R (.ok (.ret (.ref e))) { s with heap := h', toks := tk }) :
    codeAny (model prog w) A (.call (.ref C) ⟨[v], []⟩) R s := by
  obtain ⟨nm, q, N, bs, bm, sn, sub, ab, col, dd, k0, k1, k2, k3, k5, hC, hbm⟩ := T.cls
  obtain ⟨hp, g, dr, tk, os⟩ := s
  have k : ∀ b o, hp.get? b = some o → ((hp.push (kdv_tup [v])).push (excO C hp.objs.size)).get? b = some o := fun b o e => Heap.get?_push_of_some _ (Heap.get?_push_of_some _ e)
  have hget : ((hp.push (kdv_tup [v])).push (excO C hp.objs.size)).get? (hp.objs.size + 1) = some (excO C hp.objs.size) := by heap_get
  have hnx : K.lookup (hp.objs.size + 1) = none := by
    cases e : K.lookup (hp.objs.size + 1) with
    | none => rfl
    | some o =>
      have z : hp.get? (hp.objs.size + 1) = some o := X _ _ e
      exact absurd (Nat.lt_of_succ_lt (Heap.lt_size z)) (Nat.lt_irrefl _)
  obtain ⟨mb, b1, b2⟩ := B
  refine call_own F.excBase_ValueError (fun X => refsVE_contains X bm hbm) (X _ _ hC) (looks_findIn X T.iC) (fun self => bind_fn X self T.tC) (one_size v) ?_
  refine rf_init (s := ⟨(hp.push (kdv_tup [v])).push (excO C hp.objs.size), g, dr, tk, os⟩) T (X.keeps k) (G.keeps k) ⟨mb, b1.keeps k, b2⟩ (hlim.keeps k) hget hnx ?_ fun h' tk' dx t1 ⟨k', hx, dn, dne, hns⟩ => ?_
  · show A.depth + 1 < recursionLimit
    exact hroom
  · have old : ∀ b o, hp.get? b = some o → h'.get? b = some o := fun b o e => k' b o (Nat.ne_of_lt (Nat.lt_succ_of_lt (Heap.lt_size e))) (k b o e)
    have z : hp.objs.size + 1 + 1 ≤ dx := by
      first
        | (simpa only [Heap.size_push] using dn)
        | exact dn
        | (have q := dn; rw [Heap.size_push, Heap.size_push] at q; exact q)
    exact ⟨rfl, hq h' tk' (hp.objs.size + 1) dx ⟨old, Nat.le_succ _, ⟨_, _, hx, rfl, rfl, rfl, rfl⟩, Nat.le_trans (Nat.le_trans (Nat.le_succ _) (Nat.le_succ _)) z, dne, hns⟩⟩
end
end RfX
end PySem
namespace L2
open PySem PySem.Spec PyProof.Rows
theorem relO_rf {v : V} {v' : Value} (r : RelV v v') (f : Str) : RelO (List.lookup f [(("what" : Str), v)]) (if f = "what" then some v' else none) := by
  by_cases hw : f = "what"
  · subst hw
    rw [if_pos rfl]
    have q : List.lookup ("what" : Str) [(("what" : Str), v)] = some v := by simp [List.lookup]
    rw [q]
    exact r
  · rw [if_neg hw]
    have qw : (f == ("what" : Str)) = false := by simpa using hw
    have q2 : List.lookup f [(("what" : Str), v)] = none := by simp [List.lookup, qw]
    rw [q2]
    trivial
section
variable {X : Cx} {C fI : Addr}
/-- Refused(e) -/
def tMkRf (C : Addr) (ta : TA) : St → Hp → XK → Prop := fun σ H Q => ta σ H fun vs H1 => ∃ v, vs = [v] ∧ ∀ d, H1 d = none → Q (.ref C) (some d) (upd H1 d (.xd [(("what" : Str), v)]))
theorem pmk_rf {a : Expr} {ta : TA} {p pos : Pos} {k : Nat} (T : PySem.RfX.RfTxt X.prog X.K X.mg C fI) (hr : Room k X.A) (ha : PA X [a] ta) (hg : Gl X "Refused" := by rfl)
    (he : starEach (a :: []) X.env = (false, eval a X.env) :: starEach [] X.env := by rfl) (hpl : (backTo pos (starEach [] X.env)).any (·.1) = false := by rfl) :
    PMk X (.Call (.Name "Refused" p) [a] [] pos) (tMkRf C ta) := by
  intro pins s σ H Q I h
  refine wpAny_Call_Name_kw (ld_glob I hg T.gC ?_)
  refine PySem.W.callWith_K (h₀ := X.base) I.ok.mod.kin T.kC (thn (ha.run pos pins s σ H _ I h) fun us s1 hh => ?_) he hpl
  obtain ⟨vs, H1, I1, r1, v, ev, q1⟩ := hh
  subst ev
  refine ⟨I1.kIn, ?_⟩
  cases r1 with
  | cons rv rn =>
    rename_i v' us'
    cases rn
    show wpAny _ _ (call (.ref C) [v']) _ _ _
    have hlim := I1.nolimit
    have hG := I1.mod.glob.keeps I1.bk
    obtain ⟨mb, hb1, hb2⟩ := I1.mod.blt
    have hB := hb1.keeps I1.bk
    obtain ⟨hp, g, dr, tk, os⟩ := s1
    refine wpAny_call (PySem.RfX.rf_made T I1.kIn hG ⟨mb, hB, hb2⟩ hlim (by have := hr.dp; omega) fun h' tk' e d M => ?_)
    show MkP X pins σ Q (.ref e) ⟨h', g, dr, tk', os⟩
    obtain ⟨oe, fv, hoe, hc, hd, hdat, h1⟩ := M.obj
    have hns := M.ns
    obtain ⟨G', g1, g2⟩ := restrict h' fun b => decide (b ≠ e)
    have gk : ∀ b, b ≠ e → G'.get? b = h'.get? b := fun b hb => g1 b (decide_eq_true hb)
    have ge : G'.get? e = none := g2 e (by simp)
    have old : ∀ b o, hp.get? b = some o → G'.get? b = some o := fun b o q => (gk b (Nat.ne_of_lt (Nat.lt_of_lt_of_le (Heap.lt_size q) M.new))).trans (M.keep b o q)
    have ob : ObjOk X.prog X.w (upd H1 d (.xd [(("what" : Str), v)])) G' d (.xd [(("what" : Str), v)]) :=
      ⟨_, hns.at (fun o q => (gk d M.dne).trans q), fun f => relO_rf rv f⟩
    have J : Inv X pins σ (upd H1 d (.xd [(("what" : Str), v)])) ⟨G', g, dr, tk', os⟩ := I1.laid (t' := tk') old M.dbig ob
    refine ⟨e, oe, fv, ⟨G', g, dr, tk', os⟩, _, .ref C, some d, rfl, J, fun b o q => ?_, ge, hoe, ⟨hc, hd⟩, hdat, h1, ?_, rfl, I1.bare, raises_own T.exC T.tyC, q1 d (I1.hok.fresh M.dbig)⟩
    · by_cases hb : b = e
      · have q' : G'.get? b = some o := q
        rw [hb, ge] at q'; cases q'
      · exact (gk b hb).symm.trans q
    · rw [upd_ne (Ne.symm M.dne)]
      exact I1.hok.fresh M.new
/-- raise Refused(e) -/
def tRaiseRf (C : Addr) (W : WX) (ta : TA) : TS := fun _ σ H => tMkRf C ta σ H fun cls d H' => W cls d σ H'
theorem ps_raiseRf {a : Expr} {ta : TA} {W : WX} {p pos pos2 : Pos} {k : Nat} (hc : X.calm = true) (T : PySem.RfX.RfTxt X.prog X.K X.mg C fI) (hr : Room k X.A) (tk : Takes X W) (ha : PA X [a] ta) (hg : Gl X "Refused" := by rfl)
    (he : starEach (a :: []) X.env = (false, eval a X.env) :: starEach [] X.env := by rfl) (hpl : (backTo pos (starEach [] X.env)).any (·.1) = false := by rfl) :
    PS X (.Raise (some (.Call (.Name "Refused" p) [a] [] pos)) none pos2) (tRaiseRf C W ta) := ps_raise hc tk (pmk_rf T hr ha hg he hpl)
/-- e.what, e the exception that the suite holds (at a; its class cls, its dict d) -/
def tByRf (C : Addr) (a : Addr) (cls : Value) (d : Option Addr) (te : TE) : TE := fun σ H Q => te σ H fun x H1 => x = .ref a ∧ cls = .ref C ∧ ∃ (dd : Addr) (v : V), d = some dd ∧ H1 dd = some (.xd [(("what" : Str), v)]) ∧ Q v H1
theorem pe_byRf {a : Addr} {oe : Obj} {cls : Value} {d : Option Addr} {pn : List (Addr × Obj)} {e : Expr} {te : TE} {pos : Pos} (T : PySem.RfX.RfTxt X.prog X.K X.mg C fI) (hz : Zc cls d oe) (hf : ∃ vs, oe.data = .fields vs) (he : PE (X.suite a ((a, oe) :: pn)) e te)
    (hb : attributeBase e "what" X.env (eval e X.env) = eval e X.env := by rfl) :
    PE (X.suite a ((a, oe) :: pn)) (.Attribute e "what" pos) (tByRf C a cls d te) := by
  refine ⟨fun pins s σ H Q I h => ?_⟩
  refine attr_of hb (thn (he.run pins s σ H _ I h) fun u s1 hh => ?_)
  obtain ⟨x, H1, I1, rx, ex, ec, dd, v, ed, ea, q⟩ := hh
  subst ex
  obtain rfl : u = Value.ref a := rx
  subst ec
  subst ed
  obtain ⟨ha, _⟩ := I1.pin (a, oe) (List.mem_append_left _ List.mem_cons_self)
  obtain ⟨vs, hd⟩ := hf
  have hx : ObjOk X.prog X.w H1 s1.heap dd (.xd [(("what" : Str), v)]) := I1.hok dd _ ea
  obtain ⟨mA, hns, hr⟩ := hx
  obtain ⟨od, ho, hl⟩ := lookIn_ns hns
  have l : List.lookup ("what" : Str) [(("what" : Str), v)] = some v := by simp [List.lookup]
  obtain ⟨u, hu, ru⟩ := RelO.some_of (v := v) (o := mA "what") (by rw [← l]; exact hr "what")
  have J : PySem.W.InstAt s1.heap a oe C (some od) := ⟨ha, hz.1, by unfold PySem.W.notCls; rw [hd] <;> rfl, by rw [hz.2]; exact ho⟩
  exact HandSPX.exc_get I1.kIn J T.ga T.gg T.exC (PySem.W.findObj_own T.hdC T.noN rfl (by rw [hl, hu])) (handed_of ru) ⟨v, H1, I1.tok _, ru, q⟩
end
theorem exm_selfR {K : PySem.W.Frag} {S : Addr} (h1 : PySem.W.subIn K (.ref S) (.type "BaseException") = some true) (h2 : PySem.W.isClsIn K S = true) (h3 : PySem.W.typeIn K (.ref S) = some (.type "type")) (h4 : PySem.W.subIn K (.ref S) (.ref S) = some true) :
    PySem.W.exmOne K (.ref S) (.ref S) = some true := by
  have e1 : (PySem.W.subIn K (.ref S) (.type "BaseException") == some true) = true := by rw [h1] <;> rfl
  have e2 : ((PySem.W.clsIn K S).isSome && PySem.W.typeIn K (.ref S) == some (.type "type")) = true := by
    have h2' : (PySem.W.clsIn K S).isSome = true := h2
    rw [h2', h3] <;> rfl
  show (if (PySem.W.subIn K (.ref S) (.type "BaseException") == some true) = true then (if ((PySem.W.clsIn K S).isSome && PySem.W.typeIn K (.ref S) == some (.type "type")) = true then PySem.W.subIn K (.ref S) (.ref S) else none) else none) = some true
  rw [if_pos e1, if_pos e2]
  exact h4
end L2

/-! Exc2: defs that may raise Refused, told on data -/
namespace Mir
open PySem PySem.Spec PyProof.Rows L2
abbrev xdW (v : V) : HO := .xd [(("what" : Str), v)]
/-- what a def that may raise gives -/
inductive Rz where
  | ok (d : PyData)
  | ex (d : PyData)
inductive RzA where
  | ok (ds : List PyData)
  | ex (d : PyData)
inductive OutX where
  | nx (e : En)
  | bk (e : En)
  | ct (e : En)
  | rt (d : PyData)
  | rs (e : En) (d : PyData)
  | bad
def OutOkX (K : PySem.W.Frag) (C : Addr) (W : WX) (S0 : Addr → Prop) (H0 : Hp) (A : Addr → Prop) (H : Hp) (o : OutX) (D : Ends) : Prop := match o with
  | .nx e => OutOk K S0 H0 A H (.nx e) D
  | .bk e => OutOk K S0 H0 A H (.bk e) D
  | .ct e => OutOk K S0 H0 A H (.ct e) D
  | .rt d => OutOk K S0 H0 A H (.rt d) D
  | .rs e d => ∀ A' H' σ' dx v, EnvOk K S0 H0 A' H' σ' e → Fr A H H' → Sb A H A' → H' dx = some (xdW v) → Rp K (Cl S0 H0 A') H' d v → W (.ref C) (some dx) σ' H'
  | .bad => False
def tSX (K : PySem.W.Frag) (C : Addr) (W : WX) (f : En → OutX) : TS := fun D σ H => ∃ S0 H0 A env, EnvOk K S0 H0 A H σ env ∧ OutOkX K C W S0 H0 A H (f env) D
def upO : Out → OutX
  | .nx e => .nx e
  | .bk e => .bk e
  | .ct e => .ct e
  | .rt d => .rt d
  | .bad => .bad
def up (s : En → Out) : En → OutX := fun env => upO (s env)
section
variable {K : PySem.W.Frag} {C : Addr} {W : WX} {S0 S : Addr → Prop} {H0 H H' H'' : Hp} {A A' A'' : Addr → Prop} {σ : L2.St} {env : En} {D : Ends}
theorem OutOkX.step {o : OutX} (h : OutOkX K C W S0 H0 A H o D) (f : Fr A H H') (s : Sb A H A') : OutOkX K C W S0 H0 A' H' o D := by
  cases o with
  | nx e => exact OutOk.step (o := .nx e) h f s
  | bk e => exact OutOk.step (o := .bk e) h f s
  | ct e => exact OutOk.step (o := .ct e) h f s
  | rt d => exact OutOk.step (o := .rt d) h f s
  | rs e d => exact fun A2 H2 σ2 dx v E f2 s2 hx r => h A2 H2 σ2 dx v E (f.trans s f2) (Sb.trans f s s2) hx r
  | bad => exact h
theorem up_ok {o : Out} (h : OutOkX K C W S0 H0 A H (upO o) D) : OutOk K S0 H0 A H o D := by cases o <;> exact h
end
section
variable {X : Cx} {C fI : Addr} {W : WX} {e a b : Expr} {es : List Expr} {st : Stmt} {sts : List Stmt} {pos pos' : Pos} {c c1 c2 : Bool} {f : En → Option PyData} {fa : En → Option (List PyData)} {fx : En → Option Rz} {s t : En → OutX} {ga : En → Option Bool}
/-! ### statements -/
theorem sx_up {s : En → Out} (h : PS X st (tS X.K s)) : PS X st (tSX X.K C W (up s)) := ps_w h fun D σ H ⟨S0, H0, A, env, E, o⟩ => ⟨S0, H0, A, env, E, up_ok o⟩
def xNil : En → OutX := fun env => .nx env
def xSeq (s t : En → OutX) : En → OutX := fun env => match s env with
  | .nx e => t e
  | .bk e => .bk e
  | .ct e => .ct e
  | .rt d => .rt d
  | .rs e d => .rs e d
  | .bad => .bad
theorem sx_nil : PSs X [] (tSX X.K C W xNil) := pss_w pss_nil fun D σ H ⟨S0, H0, A, env, E, o⟩ => o A H σ E Fr.refl Sb.refl
theorem sx_one (h1 : PS X st (tSX X.K C W s)) : PSs X [st] (tSX X.K C W s) := pss_one h1
theorem sx_cons (h1 : PS X st (tSX X.K C W s)) (h2 : PSs X sts (tSX X.K C W t)) : PSs X (st :: sts) (tSX X.K C W (xSeq s t)) := pss_w (pss_cons h1 h2) fun D σ H ⟨S0, H0, A, env, E, o⟩ => by
  refine ⟨S0, H0, A, env, E, ?_⟩
  unfold xSeq at o
  cases hs : s env with
  | nx e =>
    rw [hs] at o
    exact fun A' H' σ' E' f' b' => ⟨S0, H0, A', e, E', OutOkX.step o f' b'⟩
  | bk e => rw [hs] at o; exact o
  | ct e => rw [hs] at o; exact o
  | rt d => rw [hs] at o; exact o
  | rs e d => rw [hs] at o; exact o
  | bad => rw [hs] at o; exact o
theorem sx_frz {i : Nat} (h : PS X st (tSX X.K C W s)) : PS X st (tSX X.K C W fun env => s (frz i env)) := ps_w h fun D σ H ⟨S0, H0, A, env, E, o⟩ => by
  obtain ⟨A', E', w⟩ := E.frz i
  exact ⟨S0, H0, A', _, E', OutOkX.step o Fr.refl fun a z => .inl (w a z)⟩
def xIf (ga : En → Option Bool) (s t : En → OutX) : En → OutX := fun env => match ga env with
  | some true => s env
  | some false => t env
  | none => .bad
theorem sx_if {a b : List Stmt} (hc : PT X e (tT X.K ga)) (ha : PSs X a (tSX X.K C W s)) (hb : PSs X b (tSX X.K C W t)) : PS X (.If e a b pos) (tSX X.K C W (xIf ga s t)) := ps_w (ps_if hc ha hb) fun D σ H ⟨S0, H0, A, env, E, o⟩ => by
  unfold xIf at o
  cases hd : ga env with
  | none => rw [hd] at o; exact o.elim
  | some k =>
    rw [hd] at o
    refine ⟨S0, H0, A, env, k, E, hd, fun H' sm => ?_⟩
    cases k with
    | true => exact iteT <| ⟨S0, H0, A, env, E.grow sm, OutOkX.step o (Fr.of_same sm) Sb.refl⟩
    | false => exact iteF <| ⟨S0, H0, A, env, E.grow sm, OutOkX.step o (Fr.of_same sm) Sb.refl⟩
def loopX (g : PyData → En → Option En) (b : En → OutX) : List PyData → En → OutX
  | [], e => .nx e
  | d :: ds, e => match g d e with
    | none => .bad
    | some e1 => match b e1 with
      | .nx e2 => loopX g b ds e2
      | .ct e2 => loopX g b ds e2
      | .bk e2 => .nx e2
      | .rt v => .rt v
      | .rs e2 v => .rs e2 v
      | .bad => .bad
def xFor (f : En → Option (List PyData)) (g : PyData → En → Option En) (b : En → OutX) : En → OutX := fun env => match f env with
  | some ds => loopX g b ds env
  | none => .bad
theorem forX_run {K : PySem.W.Frag} {σ : L2.St} {H : Hp} {f : En → Option (List PyData)} {g : PyData → En → Option En} {b : En → OutX} {vs : List Nat} {D : Ends} (h : tSX K C W (xFor f g b) D σ H) : tFor (tI K true f) (tG K vs g) (tSX K C W b) D σ H := by
  obtain ⟨S0, H0, A, env, E, o⟩ := h
  unfold xFor at o
  cases hd : f env with
  | none => rw [hd] at o; exact o.elim
  | some ds =>
    rw [hd] at o
    refine ⟨S0, H0, A, env, ds, E, hd, fun J H1 G s _ gF wk => ?_⟩
    refine ⟨fun i m σ' H' => m = ds.length - i ∧ i ≤ ds.length ∧ ∃ A' env', EnvOk K S0 H0 A' H' σ' env' ∧ Fr A H1 H' ∧ Sb A H1 A' ∧ OutOkX K C W S0 H0 A' H' (loopX g b (ds.drop i) env') D,
      ⟨_, rfl, Nat.zero_le _, A, env, E.grow s, Fr.refl, Sb.refl, OutOkX.step o (Fr.of_same s) Sb.refl⟩, ?_⟩
    rintro i m σ' H' ⟨rfl, hi, A', env', E', f', b', o'⟩
    by_cases hlt : i < ds.length
    · have hdr : ds.drop i = ds[i] :: ds.drop (i + 1) := List.drop_eq_getElem_cons hlt
      rw [hdr] at o'
      refine .inr ⟨wk.go i H' (gF rfl H' f') hlt, fun σ2 H2 => ∃ A2 e2, EnvOk K S0 H0 A2 H2 σ2 e2 ∧ Fr A H1 H2 ∧ Sb A H1 A2 ∧ OutOkX K C W S0 H0 A2 H2 (loopX g b (ds.drop (i + 1)) e2) D, ?_, fun x Hx y => ?_⟩
      · rintro σ2 H2 ⟨A2, e2, z⟩
        exact ⟨ds.length - (i + 1), by omega, rfl, hlt, A2, e2, z⟩
      · obtain ⟨sx, rx⟩ := wk.yld i H' _ x Hx (gF rfl H' f') (List.getElem?_eq_getElem hlt) y
        have rx' : Rp K (Cl S0 H0 A') Hx ds[i] x := rx.wide fun a z => ⟨z.1.1, fun y => by
          rcases b' a y with k | k
          · exact z.1.2 k
          · exact z.2 k⟩
        simp only [loopX] at o'
        cases hg : g ds[i] env' with
        | none => rw [hg] at o'; exact o'.elim
        | some e1 =>
          rw [hg] at o'
          refine ⟨S0, H0, A', env', _, e1, E'.grow sx, rx', hg, fun σ1 E1 _ => ⟨S0, H0, A', e1, E1, ?_⟩⟩
          have fs : Fr A' H' Hx := Fr.of_same sx
          cases hb : b e1 with
          | nx e2 =>
            simp only [hb] at o'
            exact fun A2 H2 σ2 E2 f2 b2 => ⟨A2, e2, E2, f'.trans b' (fs.trans Sb.refl f2), Sb.trans f' b' (Sb.trans fs Sb.refl b2), OutOkX.step o' (fs.trans Sb.refl f2) (Sb.trans fs Sb.refl b2)⟩
          | ct e2 =>
            simp only [hb] at o'
            exact fun A2 H2 σ2 E2 f2 b2 => ⟨A2, e2, E2, f'.trans b' (fs.trans Sb.refl f2), Sb.trans f' b' (Sb.trans fs Sb.refl b2), OutOkX.step o' (fs.trans Sb.refl f2) (Sb.trans fs Sb.refl b2)⟩
          | bk e2 =>
            simp only [hb] at o'
            exact fun A2 H2 σ2 E2 f2 b2 => o' A2 H2 σ2 E2 (fs.trans Sb.refl f2) (Sb.trans fs Sb.refl b2)
          | rt v => simp only [hb] at o'; exact o'
          | rs e2 v =>
            simp only [hb] at o'
            exact fun A2 H2 σ2 dx u E2 f2 b2 hx r => o' A2 H2 σ2 dx u E2 (fs.trans Sb.refl f2) (Sb.trans fs Sb.refl b2) hx r
          | bad => simp only [hb] at o'; exact o'
    · have hdr : ds.drop i = [] := List.drop_eq_nil_of_le (by omega)
      rw [hdr] at o'
      exact .inl ⟨wk.stop i H' (gF rfl H' f') (by omega), o' A' H' σ' E' Fr.refl Sb.refl⟩
theorem sx_for {tg iter : Expr} {f : En → Option (List PyData)} {g : PyData → En → Option En} {b : En → OutX} {vs : List Nat} {body : List Stmt} (hp : PassesOwn (model X.prog X.w) X.A X.env X.xe) (hc : X.calm = true) (hi : PI X tg iter (tI X.K true f)) (hg : PG X tg (tG X.K vs g)) (hb : PSs X body (tSX X.K C W b)) (hs : ∀ x, foldedSetIterable iter X.env x = pure x := by intro _; rfl) :
    PS X (.For tg iter body [] pos) (tSX X.K C W (xFor f g b)) := ps_w (ps_for hp hc hi hg hb hs) fun _ _ _ q => forX_run q
/-- raise Refused(e) -/
def xRaise (f : En → Option PyData) : En → OutX := fun env => match f env with
  | some d => .rs env d
  | none => .bad
theorem sx_raise (h : PS X st (tRaiseRf C W (tCons (tE X.K true f) tNil))) : PS X st (tSX X.K C W (xRaise f)) := ps_w h fun D σ H ⟨S0, H0, A, env, E, o⟩ => by
  unfold xRaise at o
  cases hd : f env with
  | none => rw [hd] at o; exact o.elim
  | some d =>
    rw [hd] at o
    refine ⟨S0, H0, A, env, d, E, hd, fun v H1 s1 r1 => ⟨v, rfl, fun dx hdx => ?_⟩⟩
    exact o A _ σ dx v (E.grow (s1.trans (same_new hdx))) (Fr.of_same (s1.trans (same_new hdx))) Sb.refl upd_same ((r1.wide fun _ z => cl_sc z).grow (same_new hdx))
/-! ### expressions that may raise -/
def tX (K : PySem.W.Frag) (C : Addr) (W : WX) (c : Bool) (f : En → Option Rz) : TE := fun σ H Q => ∃ S0 H0 A env r, EnvOk K S0 H0 A H σ env ∧ f env = some r ∧ match r with
  | .ok d => ∀ v H', Same H H' → Rp K (SC c S0 H0 A) H' d v → Q v H'
  | .ex d => ∀ dx v H', Same H H' → H' dx = some (xdW v) → Rp K (SC true S0 H0 A) H' d v → W (.ref C) (some dx) σ H'
def tAX (K : PySem.W.Frag) (C : Addr) (W : WX) (c : Bool) (f : En → Option RzA) : TA := fun σ H Q => ∃ S0 H0 A env r, EnvOk K S0 H0 A H σ env ∧ f env = some r ∧ match r with
  | .ok ds => ∀ vs H', Same H H' → RpA K (SC c S0 H0 A) H' ds vs → Q vs H'
  | .ex d => ∀ dx v H', Same H H' → H' dx = some (xdW v) → Rp K (SC true S0 H0 A) H' d v → W (.ref C) (some dx) σ H'
def spX (K : PySem.W.Frag) (C : Addr) (g : List PyData → Option Rz) : Sp := fun vs H Q E => ∃ S ds r, RpA K S H ds vs ∧ g ds = some r ∧ match r with
  | .ok d => ∀ v H', Same H H' → Rp K (Bd S H) H' d v → Q v H'
  | .ex d => ∀ dx v H', Same H H' → H' dx = some (xdW v) → Rp K (Bd S H) H' d v → E (.ref C) (some dx) H'
def xOk (f : En → Option PyData) : En → Option Rz := fun env => (f env).map .ok
theorem xe_ok (h : PE X e (tE X.K c f)) : PE X e (tX X.K C W c (xOk f)) := pe_w h fun σ H Q ⟨S0, H0, A, env, r, E, hf, q⟩ => by
  unfold xOk at hf
  cases hd : f env with
  | none => rw [hd] at hf; cases hf
  | some d => rw [hd] at hf; cases hf; exact ⟨S0, H0, A, env, d, E, hd, q⟩
def xaOk (fa : En → Option (List PyData)) : En → Option RzA := fun env => (fa env).map .ok
theorem xa_ok (h : PA X es (tA X.K c fa)) : PA X es (tAX X.K C W c (xaOk fa)) := pa_w h fun σ H Q ⟨S0, H0, A, env, r, E, hf, q⟩ => by
  unfold xaOk at hf
  cases hd : fa env with
  | none => rw [hd] at hf; cases hf
  | some d => rw [hd] at hf; cases hf; exact ⟨S0, H0, A, env, d, E, hd, q⟩
/-- the first argument may raise, the others not -/
def xaCons (fx : En → Option Rz) (fa : En → Option (List PyData)) : En → Option RzA := fun env => match fx env with
  | some (.ok d) => match fa env with
    | some ds => some (.ok (d :: ds))
    | none => none
  | some (.ex d) => some (.ex d)
  | none => none
theorem xa_cons (ha : PE X e (tX X.K C W c fx)) (hr : PA X es (tA X.K c fa)) (hs : starEach (e :: es) X.env = (false, eval e X.env) :: starEach es X.env := by rfl) : PA X (e :: es) (tAX X.K C W c (xaCons fx fa)) := pa_w (pa_cons ha hr hs) fun σ H Q ⟨S0, H0, A, env, r, E, hf, q⟩ => by
  unfold xaCons at hf
  split at hf
  · rename_i d hd
    split at hf
    · rename_i ds hds
      cases hf
      exact ⟨S0, H0, A, env, .ok d, E, hd, fun v H1 s1 r1 => ⟨S0, H0, A, env, ds, E.grow s1, hds, fun vs H2 s2 r2 => q _ H2 (s1.trans s2) (RpA.cons (r1.grow s2) r2)⟩⟩
    · cases hf
  · rename_i d hd
    cases hf
    exact ⟨S0, H0, A, env, .ex d, E, hd, q⟩
  · cases hf
/-- a call of a def that may raise -/
def xCall (g : List PyData → Option Rz) (fa : En → Option RzA) : En → Option Rz := fun env => match fa env with
  | some (.ok ds) => g ds
  | some (.ex d) => some (.ex d)
  | none => none
theorem xe_call {gd : List PyData → Option Rz} {fa : En → Option RzA} (h : PE X e (tCallS (spX X.K C gd) (WE W) (tAX X.K C W true fa))) : PE X e (tX X.K C W c (xCall gd fa)) := pe_w h fun σ H Q ⟨S0, H0, A, env, r, En, hf, q⟩ => by
  unfold xCall at hf
  split at hf
  · rename_i ds hd
    refine ⟨S0, H0, A, env, .ok ds, En, hd, fun vs H1 s1 r1 => ⟨Cl S0 H0 A, ds, r, r1.wide fun _ z => cl_sc z, hf, ?_⟩⟩
    cases r with
    | ok d => exact fun v H2 s2 r2 => q v H2 (s1.trans s2) (r2.wide fun _ z => bd_sc (En.grow s1) z)
    | ex d => exact fun dx v H2 s2 hx r2 => q dx v H2 (s1.trans s2) hx (r2.wide fun _ z => bd_sc (En.grow s1) z)
  · rename_i d hd
    cases hf
    exact ⟨S0, H0, A, env, .ex d, En, hd, q⟩
  · cases hf
/-- a call of a def that raises nothing, of arguments the first of which may -/
def xCall0 (g : List PyData → Option PyData) (fa : En → Option RzA) : En → Option Rz := fun env => match fa env with
  | some (.ok ds) => (g ds).map .ok
  | some (.ex d) => some (.ex d)
  | none => none
theorem xe_call0 {gd : List PyData → Option PyData} {fa : En → Option RzA} {E0 : XK} (h : PE X e (tCall (spF X.K gd) [] E0 (tAX X.K C W true fa))) : PE X e (tX X.K C W c (xCall0 gd fa)) := pe_w h fun σ H Q ⟨S0, H0, A, env, r, En, hf, q⟩ => by
  unfold xCall0 at hf
  split at hf
  · rename_i ds hd
    refine ⟨S0, H0, A, env, .ok ds, En, hd, fun vs H1 s1 r1 => ?_⟩
    cases hg : gd ds with
    | none => rw [hg] at hf; cases hf
    | some d =>
      rw [hg] at hf
      cases hf
      show spF X.K gd (vs ++ []) H1 Q E0
      rw [List.append_nil]
      exact ⟨Cl S0 H0 A, ds, d, r1.wide fun _ z => cl_sc z, hg, fun v H2 s2 r2 => q v H2 (s1.trans s2) (r2.wide fun _ z => bd_sc (En.grow s1) z)⟩
  · rename_i d hd
    cases hf
    exact ⟨S0, H0, A, env, .ex d, En, hd, q⟩
  · cases hf
/-- a built-in of such arguments -/
theorem xe_cb {sc : Bool} {r : List V → Hp → VK → Prop} {h : List PyData → Option PyData} {fa : En → Option RzA} (R : CROk X.K sc r h) (he : PE X e (tCB r (tAX X.K C W c1 fa))) (hc : sc = true ∨ c2 = c1 := by first | exact .inl rfl | exact .inr rfl) : PE X e (tX X.K C W c2 (xCall0 h fa)) := pe_w he fun σ H Q ⟨S0, H0, A, env, z, E, hf, q⟩ => by
  unfold xCall0 at hf
  split at hf
  · rename_i ds hd
    refine ⟨S0, H0, A, env, .ok ds, E, hd, fun vs H1 s1 r1 => ?_⟩
    cases hg : h ds with
    | none => rw [hg] at hf; cases hf
    | some d =>
      rw [hg] at hf
      cases hf
      exact R (SC c1 S0 H0 A) (SC c2 S0 H0 A) H1 vs ds d Q (fun p hp => sc_new (E.grow s1) hp) (hc.imp id fun z => by rw [z]) r1 hg fun v H2 s2 r2 => q v H2 (s1.trans s2) r2
  · rename_i d hd
    cases hf
    exact ⟨S0, H0, A, env, .ex d, E, hd, q⟩
  · cases hf
/-- x op y, y may raise -/
def x2 (h : PyData → PyData → Option PyData) (f : En → Option PyData) (g : En → Option Rz) : En → Option Rz := fun env => match f env with
  | some x => match g env with
    | some (.ok y) => (h x y).map .ok
    | some (.ex d) => some (.ex d)
    | none => none
  | none => none
theorem xe_op {op : Operator} {r : R2} {h : PyData → PyData → Option PyData} {sc : Bool} {g : En → Option Rz} (ho : OpR X (binaryOp op) r) (R : R2Ok X.K sc r h) (ha : PE X a (tE X.K c1 f)) (hb : PE X b (tX X.K C W c1 g)) (hc : sc = true ∨ c2 = c1 := by first | exact .inl rfl | exact .inr rfl) :
    PE X (.BinOp a op b pos) (tX X.K C W c2 (x2 h f g)) := pe_w (pe_op ho ha hb) fun σ H Q ⟨S0, H0, A, env, z, E, hf, q⟩ => by
  unfold x2 at hf
  split at hf
  · rename_i x hx
    refine ⟨S0, H0, A, env, x, E, hx, fun v H1 s1 r1 => ?_⟩
    split at hf
    · rename_i y hy
      refine ⟨S0, H0, A, env, .ok y, E.grow s1, hy, fun u H2 s2 r2 => ?_⟩
      cases hg : h x y with
      | none => rw [hg] at hf; cases hf
      | some d =>
        rw [hg] at hf
        cases hf
        exact R (SC c1 S0 H0 A) (SC c2 S0 H0 A) H2 v u x y d Q (fun p hp => sc_new (E.grow (s1.trans s2)) hp) (hc.imp id fun z => by rw [z]) (r1.grow s2) r2 hg fun z H3 s3 r3 => q z H3 ((s1.trans s2).trans s3) r3
    · rename_i d hd
      cases hf
      exact ⟨S0, H0, A, env, .ex d, E.grow s1, hd, fun dx v H2 s2 hx r2 => q dx v H2 (s1.trans s2) hx r2⟩
    · cases hf
  · cases hf
/-- [e], e may raise -/
def xLst (fa : En → Option RzA) : En → Option Rz := fun env => match fa env with
  | some (.ok ds) => if ds.length ≤ 1000000 then some (.ok (.list ds)) else none
  | some (.ex d) => some (.ex d)
  | none => none
theorem xe_lst {fa : En → Option RzA} (h : PA X es (tAX X.K C W c fa)) : PE X (.List es pos) (tX X.K C W c (xLst fa)) := pe_w (pe_lst h) fun σ H Q ⟨S0, H0, A, env, r, E, hf, q⟩ => by
  unfold xLst at hf
  split at hf
  · rename_i ds hd
    split at hf
    · rename_i hl
      cases hf
      refine ⟨S0, H0, A, env, .ok ds, E, hd, fun vs H1 s1 r1 => ⟨by rw [r1.length]; exact sz6 hl, fun p hp => q _ _ (s1.trans (same_new hp)) ?_⟩⟩
      rw [Rp]
      exact ⟨p, vs, rfl, .inl ⟨sc_new (E.grow s1) hp, .inl upd_same⟩, r1.grow (same_new hp)⟩
    · cases hf
  · rename_i d hd
    cases hf
    exact ⟨S0, H0, A, env, .ex d, E, hd, q⟩
  · cases hf
/-- list(e), e may raise -/
def xList (g : En → Option Rz) : En → Option Rz := fun env => match g env with
  | some (.ok (.list ds)) => some (.ok (.list ds))
  | some (.ok (.tuple ds)) => some (.ok (.list ds))
  | some (.ex d) => some (.ex d)
  | _ => none
theorem xe_list {g : En → Option Rz} (h : PE X e (tCB (fun xs H Q => ∃ p ys, xs = [.ref p] ∧ (SqL X.K H p ys ∨ SqT X.K H p ys) ∧ ∀ l, H l = none → Q (.ref l) (upd H l (.lst ys))) (tCons (tX X.K C W true g) tNil))) : PE X e (tX X.K C W c (xList g)) := pe_w h fun σ H Q ⟨S0, H0, A, env, r, E, hf, q⟩ => by
  unfold xList at hf
  split at hf
  · rename_i ds hd
    cases hf
    refine ⟨S0, H0, A, env, _, E, hd, fun v H1 s1 r1 => ?_⟩
    rw [Rp] at r1
    obtain ⟨p, xs, rfl, hs, ra⟩ := r1
    refine ⟨p, xs, rfl, .inl hs.sq, fun l hl => q _ _ (s1.trans (same_new hl)) ?_⟩
    rw [Rp]
    exact ⟨l, xs, rfl, .inl ⟨sc_new (E.grow s1) hl, .inl upd_same⟩, (ra.wide fun _ z => sc_cl (cl_sc z)).grow (same_new hl)⟩
  · rename_i ds hd
    cases hf
    refine ⟨S0, H0, A, env, _, E, hd, fun v H1 s1 r1 => ?_⟩
    rw [Rp] at r1
    obtain ⟨p, xs, rfl, hs, ra⟩ := r1
    refine ⟨p, xs, rfl, .inr (live_t hs), fun l hl => q _ _ (s1.trans (same_new hl)) ?_⟩
    rw [Rp]
    exact ⟨l, xs, rfl, .inl ⟨sc_new (E.grow s1) hl, .inl upd_same⟩, (ra.wide fun _ z => sc_cl (cl_sc z)).grow (same_new hl)⟩
  · rename_i d hd
    cases hf
    exact ⟨S0, H0, A, env, .ex d, E, hd, q⟩
  · cases hf
/-! ### statements of such expressions -/
theorem rs_of {K : PySem.W.Frag} {S0 : Addr → Prop} {H0 H H' : Hp} {A : Addr → Prop} {σ : L2.St} {env : En} {D : Ends} {d : PyData} (E : EnvOk K S0 H0 A H σ env) (o : OutOkX K C W S0 H0 A H (.rs env d) D) {dx : Addr} {v : V} (s : Same H H') (hx : H' dx = some (xdW v)) (r : Rp K (SC true S0 H0 A) H' d v) : W (.ref C) (some dx) σ H' :=
  o A H' σ dx v (E.grow s) (Fr.of_same s) Sb.refl hx (r.wide fun _ z => cl_sc z)
def xSet (i : Nat) (fx : En → Option Rz) : En → OutX := fun env => match fx env with
  | some (.ok d) => .nx (env.set i (.val d))
  | some (.ex d) => .rs env d
  | none => .bad
theorem sx_set {i : Nat} (h : PS X st (tAsg (tX X.K C W true fx) (gName i))) : PS X st (tSX X.K C W (xSet i fx)) := ps_w h fun D σ H ⟨S0, H0, A, env, E, o⟩ => by
  unfold xSet at o
  split at o
  · rename_i d hd
    exact ⟨S0, H0, A, env, _, E, hd, fun v H' s r => o A H' _ ((E.grow s).set_val (r.wide fun _ z => cl_sc z)) (Fr.of_same s) Sb.refl⟩
  · rename_i d hd
    exact ⟨S0, H0, A, env, _, E, hd, fun dx v H' s hx r => rs_of E o s hx r⟩
  · exact o.elim
def xUnp (fx : En → Option Rz) (g : PyData → En → Option En) : En → OutX := fun env => match fx env with
  | some (.ok d) => match g d env with
    | some e => .nx e
    | none => .bad
  | some (.ex d) => .rs env d
  | none => .bad
theorem sx_unp {g : PyData → En → Option En} {vs : List Nat} (h : PS X st (tAsg (tX X.K C W true fx) (tG X.K vs g))) : PS X st (tSX X.K C W (xUnp fx g)) := ps_w h fun D σ H ⟨S0, H0, A, env, E, o⟩ => by
  unfold xUnp at o
  split at o
  · rename_i d hd
    split at o
    · rename_i e hg
      exact ⟨S0, H0, A, env, _, E, hd, fun v H1 s r => ⟨S0, H0, A, env, d, e, E.grow s, r.wide fun _ z => cl_sc z, hg, fun σ' E' _ => o A H1 σ' E' (Fr.of_same s) Sb.refl⟩⟩
    · exact o.elim
  · rename_i d hd
    exact ⟨S0, H0, A, env, _, E, hd, fun dx v H' s hx r => rs_of E o s hx r⟩
  · exact o.elim
def xRet (fx : En → Option Rz) : En → OutX := fun env => match fx env with
  | some (.ok d) => .rt d
  | some (.ex d) => .rs env d
  | none => .bad
theorem sx_ret (h : PE X e (tX X.K C W true fx)) : PS X (.Return (some e) pos) (tSX X.K C W (xRet fx)) := ps_w (ps_ret h) fun D σ H ⟨S0, H0, A, env, E, o⟩ => by
  unfold xRet at o
  split at o
  · rename_i d hd
    exact ⟨S0, H0, A, env, _, E, hd, fun v H' sm r => o v H' (E.same.trans sm) (r.wide fun _ z => (cl_sc z).1)⟩
  · rename_i d hd
    exact ⟨S0, H0, A, env, _, E, hd, fun dx v H' s hx r => rs_of E o s hx r⟩
  · exact o.elim
/-! ### try .. except Refused as e -/
def wipeO (i : Nat) : Out → Out
  | .nx e => .nx (e.set i .un)
  | .bk e => .bk (e.set i .un)
  | .ct e => .ct (e.set i .un)
  | .rt d => .rt d
  | .bad => .bad
open Classical in
noncomputable def sTry (i : Nat) (body : En → OutX) (suite : Addr → Addr → En → Out) : En → Out := fun env => match body env with
  | .nx e => .nx e
  | .bk e => .bk e
  | .ct e => .ct e
  | .rt d => .rt d
  | .bad => .bad
  | .rs e d => if h : ∃ o, ∀ a dd, wipeO i (suite a dd (e.set i (.exc a dd d))) = o then Classical.choose h else .bad
theorem EnvOk.set_exc {K : PySem.W.Frag} {S0 : Addr → Prop} {H0 H : Hp} {A : Addr → Prop} {σ : L2.St} {env : En} (E : EnvOk K S0 H0 A H σ env) {i : Nat} {a dd : Addr} {d : PyData} {u : V} (h1 : H dd = some (xdW u)) (h2 : Rp K (Cl S0 H0 A) H d u) : EnvOk K S0 H0 A H (σ.set i (some (.ref a))) (env.set i (.exc a dd d)) where
  len := by simp [E.len]
  sl := fun j s q => by
    rcases set_get q with ⟨rfl, l, rfl⟩ | ⟨n, q⟩
    · exact .inr ⟨_, set_self (by rw [E.len]; exact l), rfl, u, h1, h2⟩
    · rw [set_other n]
      exact E.sl j s q
  dis := fun j k s t b q1 q2 o1 o2 q3 q4 => by
    rcases set_get q1 with ⟨_, _, z⟩ | ⟨n1, q1⟩
    · subst z; cases o1
    rcases set_get q2 with ⟨_, _, z⟩ | ⟨n2, q2⟩
    · subst z; cases o2
    rw [set_other n1] at q3
    rw [set_other n2] at q4
    exact E.dis j k s t b q1 q2 o1 o2 q3 q4
  tr := E.tr
  nw := E.nw
  same := E.same
theorem pss_ex {ι : Type} {P : ι → Prop} {t : ι → TS} (h : ∀ i, P i → PSs X sts (t i)) : PSs X sts (fun D σ H => ∃ i, P i ∧ t i D σ H) := ⟨fun pins s σ H D I ⟨i, p, q⟩ => (h i p).run pins s σ H D I q⟩
/-- what the suite's text does to data, the exception at a, its dict at dd -/
def tsE (K : PySem.W.Frag) (C : Addr) (suite : Addr → Addr → En → Out) : Addr → Value → Option Addr → TS := fun a cls dx D σ H => ∃ dd, (cls = .ref C ∧ dx = some dd) ∧ tS K (suite a dd) D σ H
open Classical in
theorem cs_tryAs {i : Nat} {body : En → OutX} {suite : Addr → Addr → En → Out} {Wout : WX} (T : PySem.RfX.RfTxt X.prog X.K X.mg C fI) (h : PS X st (fun D σ H => tSX X.K C (wAs X.K (.ref C) i (tsE X.K C suite) Wout D) body D σ H)) : PS X st (tS X.K (sTry i body suite)) := ps_w h fun D σ H ⟨S0, H0, A, env, E, o⟩ => by
  refine ⟨S0, H0, A, env, E, ?_⟩
  unfold sTry at o
  cases hb : body env with
  | nx e => rw [hb] at o; exact o
  | bk e => rw [hb] at o; exact o
  | ct e => rw [hb] at o; exact o
  | rt d => rw [hb] at o; exact o
  | bad => rw [hb] at o; exact o
  | rs e d =>
    rw [hb] at o
    intro A' H' σ' dx v E' f' b' hx r
    refine ⟨true, T.te, fun _ a ha => ?_, fun q => nomatch q⟩
    replace o : OutOk X.K S0 H0 A H (if h : ∃ o, ∀ a dd, wipeO i (suite a dd (e.set i (.exc a dd d))) = o then Classical.choose h else .bad) D := o
    split at o
    · rename_i hex
      have hch := Classical.choose_spec hex a dx
      refine ⟨dx, ⟨rfl, rfl⟩, S0, H0, A', _, E'.set_exc (a := a) (dd := dx) hx r, ?_⟩
      have o' := OutOk.step o f' b'
      rw [← hch] at o'
      cases hs : suite a dx (e.set i (.exc a dx d)) with
      | nx e2 =>
        rw [hs] at o'
        exact fun A2 H2 σ2 E2 f2 b2 => o' A2 H2 _ (E2.un i none) f2 b2
      | bk e2 =>
        rw [hs] at o'
        exact fun A2 H2 σ2 E2 f2 b2 => o' A2 H2 _ (E2.un i none) f2 b2
      | ct e2 =>
        rw [hs] at o'
        exact fun A2 H2 σ2 E2 f2 b2 => o' A2 H2 _ (E2.un i none) f2 b2
      | rt v2 => rw [hs] at o'; exact o'
      | bad => rw [hs] at o'; exact o'.elim
    · exact o.elim
/-- try .. except Refused, without a name -/
def sTry0 (body : En → OutX) (suite : En → Out) : En → Out := fun env => match body env with
  | .nx e => .nx e
  | .bk e => .bk e
  | .ct e => .ct e
  | .rt d => .rt d
  | .bad => .bad
  | .rs e _ => suite e
theorem cs_try0 {body : En → OutX} {suite : En → Out} {Wout : WX} (T : PySem.RfX.RfTxt X.prog X.K X.mg C fI) (h : PS X st (fun D σ H => tSX X.K C (wOnly X.K (.ref C) (fun _ _ _ => tS X.K suite) Wout D) body D σ H)) : PS X st (tS X.K (sTry0 body suite)) := ps_w h fun D σ H ⟨S0, H0, A, env, E, o⟩ => by
  refine ⟨S0, H0, A, env, E, ?_⟩
  unfold sTry0 at o
  cases hb : body env with
  | nx e => rw [hb] at o; exact o
  | bk e => rw [hb] at o; exact o
  | ct e => rw [hb] at o; exact o
  | rt d => rw [hb] at o; exact o
  | bad => rw [hb] at o; exact o
  | rs e d =>
    rw [hb] at o
    intro A' H' σ' dx v E' f' b' hx r
    exact ⟨true, T.te, fun _ a ha => ⟨S0, H0, A', e, E', OutOk.step o f' b'⟩, fun q => nomatch q⟩
open Classical in
theorem sTry_ev {i : Nat} {body : En → OutX} {suite : Addr → Addr → En → Out} {env e : En} {d : PyData} {o : Out} (h1 : body env = .rs e d) (h2 : ∀ a dd, wipeO i (suite a dd (e.set i (.exc a dd d))) = o) : sTry i body suite env = o := by
  unfold sTry
  rw [h1]
  have hex : ∃ o, ∀ a dd, wipeO i (suite a dd (e.set i (.exc a dd d))) = o := ⟨o, h2⟩
  show (if h : _ then Classical.choose h else .bad) = o
  rw [dif_pos hex]
  rw [← Classical.choose_spec hex 0 0, h2]
/-- e.what -/
def eWhat (i : Nat) (a dd : Addr) : En → Option PyData := fun env => match env[i]? with
  | some (.exc a' dd' d) => if a' = a ∧ dd' = dd then some d else none
  | _ => none
theorem ce_what {i : Nat} {a dd : Addr} {oe : Obj} {cls : Value} {dx : Option Addr} {pn : List (Addr × Obj)} (T : PySem.RfX.RfTxt X.prog X.K X.mg C fI) (hz : Zc cls dx oe) (hf : ∃ vs, oe.data = .fields vs) (h1 : cls = .ref C) (h2 : dx = some dd) (he : PE (X.suite a ((a, oe) :: pn)) e (tVar i))
    (hb : attributeBase e "what" X.env (eval e X.env) = eval e X.env := by rfl) : PE (X.suite a ((a, oe) :: pn)) (.Attribute e "what" pos) (tE X.K true (eWhat i a dd)) := pe_w (pe_byRf T hz hf he hb) fun σ H Q ⟨S0, H0, A, env, d, E, hd, q⟩ => by
  unfold eWhat at hd
  split at hd
  · rename_i a' dd' d' hi
    split at hd
    · rename_i hh
      cases hd
      obtain ⟨rfl, rfl⟩ := hh
      rcases E.sl i _ hi with z | ⟨v, k1, rfl, u, k2, k3⟩
      · cases z
      exact ⟨_, k1, rfl, h1, dd', u, h2, k2, q u H (Same.refl H) (k3.wide fun _ z => sc_cl z)⟩
    · cases hd
  · cases hd
end
/-! ### a def -/
def outDX : OutX → Option Rz
  | .rt d => some (.ok d)
  | .nx _ => some (.ok .none)
  | .rs _ d => some (.ex d)
  | _ => none
def gDefX (np nN : Nat) (fB : En → OutX) : List PyData → Option Rz := fun ds => if ds.length = np then outDX (fB (env0 nN ds)) else none
section
variable {K : PySem.W.Frag} {P : Program} {w : World} {mg : Str → Option Value} {base : Heap} {C : Addr}
theorem start_ok {N : List Str} {ds : List PyData} {vs : List V} {S : Addr → Prop} {H : Hp} (r : RpA K S H ds vs) : EnvOk K S H (fun _ => False) H (L2.start N vs) (env0 N.length ds) := by
  have h : spF K (gDef ds.length N.length fun _ => .rt .none) vs H (fun _ _ => True) (fun _ _ _ => True) := ⟨S, ds, .none, r, by unfold gDef; rw [if_pos rfl]; rfl, fun _ _ _ _ => trivial⟩
  refine ⟨?_, fun i s e => ?_, fun i j es fs a e1 _ o1 => ?_, fun _ z => z.elim, fun _ z => z.elim, Same.refl H⟩
  · simp [L2.start, env0, r.length]
  · unfold env0 at e
    by_cases hi : i < ds.length
    · rw [List.getElem?_append_left (by simpa using hi), List.getElem?_map, List.getElem?_eq_getElem hi] at e
      cases e
      obtain ⟨v, e1, e2⟩ := r.get (List.getElem?_eq_getElem hi)
      refine .inr ⟨v, ?_, e2.wide fun a z => ⟨.inl z, fun y => y⟩⟩
      unfold L2.start
      rw [List.getElem?_append_left (by simpa [r.length] using hi), List.getElem?_map, e1]
      rfl
    · rw [List.getElem?_append_right (by simpa using Nat.le_of_not_lt hi)] at e
      exact .inl (List.eq_of_mem_replicate (List.mem_of_getElem? e))
  · exfalso
    unfold env0 at e1
    by_cases hi : i < ds.length
    · rw [List.getElem?_append_left (by simpa using hi), List.getElem?_map, List.getElem?_eq_getElem hi] at e1
      cases e1
      cases o1
    · rw [List.getElem?_append_right (by simpa using Nat.le_of_not_lt hi)] at e1
      cases (List.eq_of_mem_replicate (List.mem_of_getElem? e1))
      cases o1
theorem def_runX {N : List Str} {np : Nat} {fB : En → OutX} {vs : List V} {H : Hp} {Q : VK} {E : XK} (h : spX K C (gDefX np N.length fB) vs H Q E) : tSX K C (fun cls d _ H => E cls d H) fB { nx := fun _ H' => Q .non H', rt := Q } (L2.start N vs) H := by
  obtain ⟨S, ds, z, r, hg, q⟩ := h
  unfold gDefX at hg
  split at hg
  · refine ⟨S, H, fun _ => False, env0 N.length ds, start_ok r, ?_⟩
    cases ho : fB (env0 N.length ds) with
    | rt v => rw [ho] at hg; cases hg; exact q
    | nx e => rw [ho] at hg; cases hg; exact fun A' H' σ' E' _ _ => q _ H' E'.same (by rw [Rp])
    | bk e => rw [ho] at hg; cases hg
    | ct e => rw [ho] at hg; cases hg
    | rs e d => rw [ho] at hg; cases hg; exact fun A' H' σ' dx v E' _ _ hx r => q dx v H' E'.same hx (r.wide fun _ z => z.1)
    | bad => rw [ho] at hg; cases hg
  · cases hg
theorem fn_okX {x qual : Str} {st : Stmt} {f : Addr} {fd : FuncData} {N ps : List Str} {k np nN : Nat} {fB : En → OutX} {g : List PyData → Option Rz} (F : Fun K x qual st f fd) (S : FnScope N ps (defScope st)) (hp : np = ps.length) (hN : nN = N.length) (hg : g = gDefX np nN fB)
    (hb : ∀ (cdv : Value) (A : Around) (outer : List Env) (s : Shared) (H : Hp) (E : XK), Room k (A.deeper (envOfC qual (defScope st) s.heap.objs.size f cdv)) → PSs (cxOf (L2.CX P w) P w K mg base N qual (defScope st) f cdv A outer s H E) (defBody st) (tSX K C (fun cls d _ H => E cls d H) fB)) :
    FnOk P w K mg base (L2.CX P w) (k + 1) f fd ps (spX K C g) := by
  subst hp hN hg
  refine F.okX S (fun vs H Q E h => ?_) fun cdv A outer s H vs Q E hr h => ⟨_, hb cdv A outer s H E hr, def_runX h⟩
  obtain ⟨S', ds, d, r, hg, _⟩ := h
  unfold gDefX at hg
  split at hg
  · rw [r.length]; assumption
  · cases hg
end
end Mir

namespace Mir
open PySem PySem.Spec PyProof.Rows L2
section
variable {X : Cx} {e a b : Expr} {st : Stmt} {pos p : Pos} {c c1 c2 : Bool} {f g : En → Option PyData} {x : Str}
/-! ### a dict of the module with text keys and text values -/
def eKd (tab : List (Str × Str)) (g : En → Option PyData) : En → Option PyData := fun env => match g env with
  | some (.str z) => (tab.find? fun q => decide (q.1 = z)).map fun q => .str q.2
  | _ => none
theorem ce_kd {tab : List (Str × Str)} {d : Addr} (hg : Gl X x) (hm : X.mg x = some (.ref d)) (D : ∀ q ∈ tab, KDct X.K X.w d q.1 (.str q.2)) (hb : PE X b (tE X.K c1 g)) (hs : PlainIx b) (hd : (x == ("__debug__" : Str)) = false := by decide) : PE X (.Subscript (.Name x p) b pos) (tE X.K true (eKd tab g)) :=
  pe_w (pe_ix ix_kdict (pe_glob (v := .ref d) hg hm rfl hd) hb hs) fun σ H Q ⟨S0, H0, A, env, z, E, hf, q⟩ => by
    unfold eKd at hf
    split at hf
    · rename_i y hy
      cases hk : tab.find? fun q => decide (q.1 = y) with
      | none => rw [hk] at hf; cases hf
      | some r =>
        rw [hk] at hf
        cases hf
        have h1 := List.find?_some hk
        have h2 := List.mem_of_find?_eq_some hk
        refine ⟨S0, H0, A, env, _, E, hy, fun u H1 s1 r1 => ?_⟩
        rw [Rp] at r1
        have e1 : r.1 = y := by simpa using h1
        exact ⟨d, y, .str r.2, rfl, r1, e1 ▸ D r h2, q _ H1 s1 rps⟩
    · cases hf
/-! ### x.bit_length() -/
def bitsD : PyData → Option PyData
  | .int i => some (.int (Builtin.Int.intBits i : Nat))
  | _ => none
theorem ce_bits (h : PE X e (tBits (tE X.K c1 f))) : PE X e (tE X.K c (e1 bitsD f)) := pe_w h fun σ H Q ⟨S0, H0, A, env, d, E, hf, q⟩ => by
  unfold e1 at hf
  split at hf
  · rename_i x hx
    refine ⟨S0, H0, A, env, _, E, hx, fun v H1 s1 r1 => ?_⟩
    cases x with
    | int i =>
      rw [Rp] at r1
      cases hf
      exact ⟨i, r1, q _ H1 s1 (by rw [Rp])⟩
    | _ => cases hf
  · cases hf
/-! ### a def that may raise, called where it doesn't -/
def eCallNR (g : List PyData → Option Rz) (fa : En → Option (List PyData)) : En → Option PyData := fun env => match fa env with
  | some ds => match g ds with
    | some (.ok d) => some d
    | _ => none
  | none => none
theorem ce_callNR {C : Addr} {gd : List PyData → Option Rz} {fa : En → Option (List PyData)} (h : PE X e (tCallS (spX X.K C gd) (WE fun _ _ _ _ => False) (tA X.K true fa))) : PE X e (tE X.K c (eCallNR gd fa)) := pe_w h fun σ H Q ⟨S0, H0, A, env, r, En, hf, q⟩ => by
  unfold eCallNR at hf
  split at hf
  · rename_i ds hd
    split at hf
    · rename_i d hg
      cases hf
      exact ⟨S0, H0, A, env, ds, En, hd, fun vs H1 s1 r1 => ⟨Cl S0 H0 A, ds, .ok _, r1.wide fun _ z => cl_sc z, hg, fun v H2 s2 r2 => q v H2 (s1.trans s2) (r2.wide fun _ z => bd_sc (En.grow s1) z)⟩⟩
    · cases hf
  · cases hf
/-! ### a, b = x, y -/
def sPar (i j : Nat) (fa : En → Option (List PyData)) : En → Out := fun env => match fa env with
  | some [d1, d2] => .nx ((env.set i (.val d1)).set j (.val d2))
  | _ => .bad
theorem cs_par {i j : Nat} {fa : En → Option (List PyData)} (h : PS X st (tPar i j (tA X.K true fa))) : PS X st (tS X.K (sPar i j fa)) := ps_w h fun D σ H ⟨S0, H0, A, env, E, o⟩ => by
  unfold sPar at o
  split at o
  · rename_i d1 d2 hd
    refine ⟨S0, H0, A, env, _, E, hd, fun vs H1 s1 r1 => ?_⟩
    obtain ⟨v, u, rfl, r2, r3⟩ := r1.two
    exact ⟨v, u, rfl, o A H1 _ (((E.grow s1).set_val (r2.wide fun _ z => cl_sc z)).set_val (r3.wide fun _ z => cl_sc z)) (Fr.of_same s1) Sb.refl⟩
  · exact o.elim
/-! ### max over a tuple -/
def rMxT (K : PySem.W.Frag) (k : Int → List Int → Int) : List V → Hp → VK → Prop := fun vs H Q => ∃ a n ns, vs = [.ref a] ∧ SqT K H a ((n :: ns).map V.int) ∧ Q (.int (k n ns)) H
theorem call_mxT (hc : X.calm = true) (hu : X.A.units + 64 < cLine) : CallR X (.builtin "max") (rMxT X.K mxI) := by
  intro pins s σ H vs us Q I r h
  obtain ⟨a, n, ns, rfl, hs, q⟩ := h
  obtain ⟨its, rv, hl, _⟩ := I.tuple hs
  rw [Vals.ref1 r]
  obtain ⟨as, ra⟩ := readsInts (h := s.heap) rv
  refine PySem.W.max_tuple_data (I.ok.hd hc) hl (by rw [List.toList_toArray]; exact ra) (alike_ints (n :: ns)) (by rw [show PyData.int n :: ns.map PyData.int = (n :: ns).map PyData.int from rfl, depth_ints]; omega) fun i v h' tk bs hi rr k => ?_
  rw [PySem.W.maxD_ints] at rr
  obtain ⟨t, rfl⟩ := reads_int rr
  exact ⟨.int _, H, I.kept (t' := tk) k, ⟨_, rfl⟩, by rw [mxI_max]; exact q⟩
def mxTA (k : Int → List Int → Int) : List PyData → Option PyData
  | [.tuple ds] => match intsD ds with
    | some (n :: ns) => some (.int (k n ns))
    | _ => none
  | _ => none
theorem cr_mxT {K : PySem.W.Frag} {k : Int → List Int → Int} : CROk K true (rMxT K k) (mxTA k) := by
  intro S S' H vs ds d Q _ _ r h q
  unfold mxTA at h
  split at h
  · replace r := r.one
    obtain ⟨v, rfl, r⟩ := r
    rw [Rp] at r
    obtain ⟨a, xs, rfl, hs, ra⟩ := r
    split at h
    · rename_i n ns hi
      cases h
      obtain ⟨e1, _⟩ := intsD_rp hi ra
      subst e1
      exact ⟨a, n, ns, rfl, live_t hs, q _ H (Same.refl H) rp1⟩
    · cases h
  · cases h
end
end Mir

/-! Mir11: a def handed over as the first argument, and called by its local name -/
namespace Mir
open PySem PySem.Spec PyProof.Rows L2
section
variable {K : PySem.W.Frag} {P : Program} {w : World} {mg : Str → Option Value} {base : Heap} {C : Addr}
def env1 (a : Addr) (nN : Nat) (ds : List PyData) : En := .fn a :: env0 (nN - 1) ds
def gDef1 (a : Addr) (np nN : Nat) (fB : En → Out) : List PyData → Option PyData := fun ds => if ds.length = np then outD (fB (env1 a nN ds)) else none
def sp1 (a : Addr) (sp : Sp) : Sp := fun vs H Q E => ∃ us, vs = .ref a :: us ∧ sp us H Q E
theorem EnvOk.cons_fn {S : Addr → Prop} {H : Hp} {σ : L2.St} {env : En} {a : Addr} (E : EnvOk K S H (fun _ => False) H σ env) (no : ∀ s ∈ env, ow s = false) : EnvOk K S H (fun _ => False) H (some (.ref a) :: σ) (.fn a :: env) where
  len := by simp [E.len]
  sl := fun i s h => by
    cases i with
    | zero => cases h; exact .inr ⟨_, rfl, rfl⟩
    | succ i => exact E.sl i s h
  dis := fun i j s t b h1 h2 o1 o2 _ _ => by
    exfalso
    cases i with
    | zero => cases h1; cases o1
    | succ i =>
      have := no s (List.mem_of_getElem? h1)
      rw [this] at o1
      cases o1
  tr := fun _ z => z.elim
  nw := fun _ z => z.elim
  same := E.same
theorem env0_ow (nN : Nat) (ds : List PyData) : ∀ s ∈ env0 nN ds, ow s = false := fun s h => by
  unfold env0 at h
  rcases List.mem_append.mp h with h | h
  · obtain ⟨d, _, rfl⟩ := List.mem_map.mp h
    rfl
  · rw [List.eq_of_mem_replicate h]
    rfl
theorem start_ok1 {N : List Str} {ds : List PyData} {us : List V} {S : Addr → Prop} {H : Hp} {a : Addr} (hN : N ≠ []) (r : RpA K S H ds us) : EnvOk K S H (fun _ => False) H (L2.start N (.ref a :: us)) (env1 a N.length ds) := by
  cases N with
  | nil => exact absurd rfl hN
  | cons x N =>
    have e : L2.start (x :: N) (.ref a :: us) = some (.ref a) :: L2.start N us := by
      unfold L2.start
      rw [List.map_cons, List.length_cons, List.length_cons, Nat.add_sub_add_right]
      rfl
    rw [e]
    exact (start_ok (N := N) r).cons_fn (env0_ow _ _)
theorem def_run1 {N : List Str} {np : Nat} {fB : En → Out} {vs : List V} {H : Hp} {Q : VK} {E : XK} {a : Addr} (hN : N ≠ []) (h : sp1 a (spF K (gDef1 a np N.length fB)) vs H Q E) : tS K fB { nx := fun _ H' => Q .non H', rt := Q } (L2.start N vs) H := by
  obtain ⟨us, rfl, S, ds, d, r, hg, q⟩ := h
  unfold gDef1 at hg
  split at hg
  · refine ⟨S, H, fun _ => False, env1 a N.length ds, start_ok1 hN r, ?_⟩
    cases ho : fB (env1 a N.length ds) with
    | rt v =>
      rw [ho] at hg
      cases hg
      exact q
    | nx e =>
      rw [ho] at hg
      cases hg
      exact fun A' H' σ' E' _ _ => q _ H' E'.same (by rw [Rp])
    | bk e => rw [ho] at hg; cases hg
    | ct e => rw [ho] at hg; cases hg
    | bad => rw [ho] at hg; cases hg
  · cases hg
theorem fn_ok1 {x qual : Str} {st : Stmt} {f a : Addr} {fd : FuncData} {N ps : List Str} {k np nN : Nat} {fB : En → Out} {g : List PyData → Option PyData} (F : Fun K x qual st f fd) (S : FnScope N ps (defScope st)) (hp : np + 1 = ps.length) (hN : nN = N.length) (hn : N ≠ []) (hg : g = gDef1 a np nN fB)
    (hb : ∀ (cdv : Value) (A : Around) (outer : List Env) (s : Shared) (H : Hp) (E : XK), Room k (A.deeper (envOfC qual (defScope st) s.heap.objs.size f cdv)) → PSs (cxOf CX0 P w K mg base N qual (defScope st) f cdv A outer s H E).nox (defBody st) (tS K fB)) :
    FnOk P w K mg base CX0 (k + 1) f fd ps (sp1 a (spF K g)) := by
  subst hN hg
  refine F.ok S (fun vs H Q E h => ?_) fun cdv A outer s H vs Q E hr h => ⟨_, hb cdv A outer s H E hr, def_run1 hn h⟩
  obtain ⟨us, rfl, S', ds, d, r, hg, _⟩ := h
  unfold gDef1 at hg
  split at hg
  · rw [List.length_cons, r.length, ← hp]; omega
  · cases hg
open Classical in
/-- whatever the address -/
noncomputable def gAll (g : Addr → List PyData → Option PyData) : List PyData → Option PyData := fun ds => if h : ∃ d, ∀ a, g a ds = some d then some (Classical.choose h) else none
theorem gAll_of {g : Addr → List PyData → Option PyData} {ds : List PyData} {d : PyData} (h : gAll g ds = some d) (a : Addr) : g a ds = some d := by
  unfold gAll at h
  split at h
  · rename_i hx
    cases h
    exact Classical.choose_spec hx a
  · cases h
theorem gAll_ev {g : Addr → List PyData → Option PyData} {ds : List PyData} {d : PyData} (h : ∀ a, g a ds = some d) : gAll g ds = some d := by
  have hx : ∃ d, ∀ a, g a ds = some d := ⟨d, h⟩
  unfold gAll
  rw [dif_pos hx, ← Classical.choose_spec hx 0, h]
theorem fn_imp1 {k : Nat} {f a : Addr} {fd : FuncData} {ps : List Str} {g : Addr → List PyData → Option PyData} (F : FnOk P w K mg base CX0 k f fd ps (sp1 a (spF K (g a)))) : FnOk P w K mg base CX0 k f fd ps (sp1 a (spF K (gAll g))) :=
  F.imp fun vs H Q E ⟨us, e, S, ds, d, r, hg, q⟩ => ⟨us, e, S, ds, d, r, gAll_of hg a, q⟩
end
section
variable {X : Cx} {CX : CXT} {k i : Nat} {f a : Addr} {fd : FuncData} {ps : List Str} {sp : Sp} {x : Str} {p pos : Pos} {e : Expr} {es : List Expr} {t : TA} {c : Bool} {fa : En → Option (List PyData)} {gd : List PyData → Option PyData}
/-- h(def, ..) -/
theorem ce_call1 {E0 : XK} (h : PE X e (tCall (sp1 a (spF X.K gd)) [] E0 (tCons (tC (.ref a)) (tA X.K true fa)))) : PE X e (tE X.K c (eCall gd fa)) := pe_w h fun σ H Q q => by
  have z := call_run (E := E0) q
  obtain ⟨S0, H0, A, env, ds, En, hd, q⟩ := z
  refine ⟨S0, H0, A, env, ds, En, hd, fun vs H1 s1 r1 => ?_⟩
  exact ⟨vs ++ [], rfl, q vs H1 s1 r1⟩
/-- the def in slot i, called; it may raise -/
def tCallLS (i : Nat) (f : Addr) (sp : Sp) (E : L2.St → XK) (t : TA) : TE := fun σ H Q => σ[i]? = some (some (.ref f)) ∧ t σ H fun vs H1 => sp vs H1 Q (E σ)
theorem pe_callLS {E : L2.St → XK} (F : FnOk X.prog X.w X.K X.mg X.base CX k f fd ps sp) (hr : Room k X.A) (hN : X.N[i]? = some x) (hv : Vis X.env.scope x) (hk : PySem.W.keepIn X.K (.ref f) = true) (hb : Binds X.K fd ps []) (hx : ∀ σ, PassesAt CX X σ (E σ)) (ha : PA X (e :: es) t)
    (hdb : (x == ("__debug__" : Str)) = false := by decide) (hcd : (x == ("__classdict__" : Str)) = false := by decide)
    (he : starEach (e :: es) X.env = (false, eval e X.env) :: starEach es X.env := by rfl) (hpl : (backTo pos (starEach es X.env)).any (·.1) = false := by rfl) : PE X (.Call (.Name x p) (e :: es) [] pos) (tCallLS i f sp E t) := by
  refine ⟨fun pins s σ H Q I h => ?_⟩
  obtain ⟨hs, ht⟩ := h
  refine wpAny_Call_Name_kw (thn ((pe_var (pos := p) hN hv hdb hcd).run pins s σ H (fun v H1 => v = .ref f ∧ H1 = H) I ⟨.ref f, hs, rfl, rfl⟩) fun u s1 ⟨v, H1, I1, r1, q1⟩ => ?_)
  obtain ⟨rfl, rfl⟩ := q1
  cases r1
  refine PySem.W.callWith_K (h₀ := X.base) I.ok.mod.kin hk (thn (ha.run pos pins s1 σ _ _ I1 ht) fun us s2 ⟨vs, H2, I2, r, q⟩ => ⟨I2.kIn, ?_⟩) he hpl
  exact run_fnS F hr hb (hx σ) I2 r q
def xCallF (i : Nat) (a : Addr) (g : List PyData → Option Rz) (fa : En → Option RzA) : En → Option Rz := fun env => match env[i]? with
  | some (.fn b) => if b = a then xCall g fa env else none
  | _ => none
theorem xe_callF {C : Addr} {W : WX} {gx : List PyData → Option Rz} {fx : En → Option RzA} (hs : PE X e (tCallLS i a (spX X.K C gx) (WE W) (tAX X.K C W true fx))) : PE X e (tX X.K C W c (xCallF i a gx fx)) := pe_w hs fun σ H Q ⟨S0, H0, A, env, r, En, hf, q⟩ => by
  unfold xCallF at hf
  split at hf
  · rename_i b hb
    split at hf
    · rename_i e
      subst e
      have h1 : σ[i]? = some (some (.ref b)) := by
        rcases En.sl i _ hb with z | ⟨v, h1, h2⟩
        · cases z
        · rw [h1, (show v = .ref b from h2)]
      refine ⟨h1, ?_⟩
      unfold xCall at hf
      split at hf
      · rename_i ds hd
        refine ⟨S0, H0, A, env, .ok ds, En, hd, fun vs H1 s1 r1 => ⟨Cl S0 H0 A, ds, r, r1.wide fun _ z => cl_sc z, hf, ?_⟩⟩
        cases r with
        | ok d => exact fun v H2 s2 r2 => q v H2 (s1.trans s2) (r2.wide fun _ z => bd_sc (En.grow s1) z)
        | ex d => exact fun dx v H2 s2 hx r2 => q dx v H2 (s1.trans s2) hx (r2.wide fun _ z => bd_sc (En.grow s1) z)
      · rename_i d hd
        cases hf
        exact ⟨S0, H0, A, env, .ex d, En, hd, q⟩
      · cases hf
    · cases hf
  · cases hf
end
end Mir

/-! Mir12: x.extend(y), y any list that is told as data -/
namespace Mir
open PySem PySem.Spec PyProof.Rows L2
theorem sub_list_tuple' : isSubtype (.type "list") (.type "tuple") = pure false := by rw [isSubtype_type]; kernel_rfl
theorem list_extend_any (l : Addr) (items : Array Value) (n : Nat) (b : Addr) (items2 : Array Value) (n2 : Nat) (sl : Array (Option Value)) (hc0 : ¬(!items.isEmpty && Builtin.List.listTooLong (items.size + items2.size)) = true) (hc1 : items.size ≤ sizeLine) (hs2 : items.size + items2.size ≤ sizeLine + 1) :
    Meets (Builtin.«list.extend» ⟨[.ref l, .ref b], []⟩) (fun _ R s => s.heap.get? l = some { cls := .type "list", dict := none, data := .seq items n, slots := #[] } ∧ s.heap.get? b = some { cls := .type "list", dict := none, data := .seq items2 n2, slots := sl } ∧ R (.ok (.ret Value.none)) { s with heap := s.heap.update l (Obj.mapSeq fun x => x ++ items2), toks := s.toks }) :=
  .of_wp fun prog w A R s h => by
    obtain ⟨hp, g, d, tk, os⟩ := s; obtain ⟨hl, hb, h⟩ := h; have f1 := AutoSeq1.idx_int; have f2 := AutoSeq1.sub_tuple_tuple; have f3 := AutoSeq1.sub_list_list; have f4 := AutoSeq1.sub_tuple_list; have f5 := AutoSeq1.sub_list_tuple;
    have hz' : (items ++ items2).size ≤ sizeLine + 1 := by rw [Array.size_append]; exact hs2
    wp_walk using (wpAny_updateSeq hl rfl (hz := hc1) (_hz' := hz')), wpAny_loadPart' hl, wpAny_loadPart' hb; exact ⟨_, rfl, h⟩
def rExtA (K : PySem.W.Frag) : V → List V → Hp → VK → Prop := fun x vs H Q => ∃ l b xs zs, x = .ref l ∧ vs = [.ref b] ∧ H l = some (.lst xs) ∧ SqL K H b zs ∧ xs.length + zs.length ≤ sizeLine ∧ Q .non (upd H l (.lst (xs ++ zs)))
section
variable {X : Cx} {st : Stmt} {f : En → Option PyData}
theorem mt_extA : MtM X "list.extend" (rExtA X.K) := by
  intro pins s σ H x vs v us Q I rx rv h
  obtain ⟨l, b, xs, zs, rfl, rfl, hH, hB, hz, q⟩ := h
  cases rx
  obtain ⟨u, rfl, ru⟩ := rv.one
  cases ru
  obtain ⟨z, its, n, r, hl, e⟩ := I.lstM hH
  obtain ⟨its2, r2, ⟨⟨cls, dd, data, sl⟩, n2, e2, hc, hd, hs⟩, z2⟩ := I.list hB
  simp only at hc hd hs
  subst hc hd hs
  have hl2 := r2.length
  have hsz : its.toArray.size + its2.toArray.size ≤ sizeLine := by rw [List.size_toArray, List.size_toArray]; omega
  have hlong : ¬ (!its.toArray.isEmpty && Builtin.List.listTooLong (its.toArray.size + its2.toArray.size)) = true := by
    rw [notLongL hsz, Bool.and_false]
    exact Bool.false_ne_true
  refine call_meets F.slot_list_extend ⟨_, e, rfl⟩ F.entry_list_extend (F.args_list_extend_2 _ _)
    (list_extend_any l its.toArray n b its2.toArray n2 sl hlong (by rw [List.size_toArray]; omega) (by omega)) ⟨e, e2, ?_⟩
  refine ⟨.non, _, I.lset (its' := its ++ its2) hH e (by simp) (r.append r2) ?_, rfl, q⟩
  rw [List.length_append]
  omega
def sExt (i : Nat) (f : En → Option PyData) : En → Out := fun env => match f env with
  | some (.list es) => match env[i]? with
    | some (.own ds) => if ds.length + es.length < 1000000 then .nx (env.set i (.own (ds ++ es))) else .bad
    | _ => .bad
  | _ => .bad
theorem cs_ext {i : Nat} (h : PS X st (tDrop (tBM X.K "list" (rExtA X.K) (tVar i) (tCons (tE X.K true f) tNil)))) : PS X st (tS X.K (sExt i f)) := ps_w h fun D σ H ⟨S0, H0, A, env, E, o⟩ => by
  unfold sExt at o
  split at o
  · rename_i es hd
    split at o
    · rename_i ds hi
      split at o
      · rename_i hl
        rcases E.sl i _ hi with z | ⟨v, h1, a, xs, rfl, ha, hh, r⟩
        · cases z
        refine ⟨_, h1, .inl ⟨rfl, xs, .inl (.inl hh)⟩, S0, H0, A, env, _, E, hd, fun v H' s r' => ?_⟩
        have E' := E.grow s
        rw [Rp] at r'
        obtain ⟨b, zs, rfl, hb, rz⟩ := r'
        refine ⟨a, b, xs, zs, rfl, rfl, s _ _ hh, hb.sq, ?_, ?_⟩
        · rw [r.length, rz.length]
          exact Nat.le_of_lt (Nat.lt_of_lt_of_le hl (by decide))
        · have q := RpA.append (r.grow s) (rz.wide fun _ z => cl_sc z)
          refine o A _ σ (E'.mut hi h1 ha (s _ _ hh) q) (fun b u e n => ?_) Sb.refl
          have nb : b ≠ a := fun z => n (z ▸ ha)
          rw [upd_ne nb]
          exact s _ _ e
      · exact o.elim
    · exact o.elim
  · exact o.elim
end
end Mir

/-! Mir13: min(xs, key=def), told on data; the order of data -/
namespace Mir
open PySem PySem.Spec PyProof.Rows L2

/-- what a search for the least by a def needs, the state told by the best so far; Bk: an item has been drawn -/
structure LeastRun (pg : Program) (wd : World) (Ar : Around) (fd S I : Addr) (len : Nat) (C0 : Shared → Prop) (D0 : Shared → Value → Prop) (Cj : Nat → Shared → Value → Value → Prop)
    (Ej : Shared → Value → Prop) (Bk : Nat → Shared → Value → Value → Value → Prop) : Prop where
  put : ∀ j s b k up, Cj j s b k → Cj j { s with heap := s.heap.update S up, toks := s.toks } b k
  putE : ∀ s b up, Ej s b → Ej { s with heap := s.heap.update S up, toks := s.toks } b
  draw0 : ∀ s o (Qx : Option Value → Shared → Prop) (Ex : Value → Shared → Prop), C0 s → s.heap.get? S = some o → (∀ x t, D0 t x → t.heap.get? S = some o → Qx (some x) t) → wpAny (model pg wd) Ar (pyNext (.ref I)) Qx Ex s
  first : ∀ s x o (Qx : Value → Shared → Prop) (Ex : Value → Shared → Prop), D0 s x → s.heap.get? S = some o → (∀ v, o.data ≠ .cell v) → (∀ k t, Cj 0 t x k → t.heap.get? S = some o → Qx k t) → wpAny (model pg wd) Ar (call (.ref fd) [x]) Qx Ex s
  draw : ∀ j s b kb o (Qx : Option Value → Shared → Prop) (Ex : Value → Shared → Prop), j + 1 < len → Cj j s b kb → s.heap.get? S = some o → (∀ x t, Bk j t b kb x → t.heap.get? S = some o → Qx (some x) t) → wpAny (model pg wd) Ar (pyNext (.ref I)) Qx Ex s
  stop : ∀ j s b kb o (Qx : Option Value → Shared → Prop) (Ex : Value → Shared → Prop), j + 1 = len → Cj j s b kb → s.heap.get? S = some o → (∀ t, Ej t b → t.heap.get? S = some o → Qx none t) → wpAny (model pg wd) Ar (pyNext (.ref I)) Qx Ex s
  next : ∀ j s b kb x o (Qx : Value → Shared → Prop) (Ex : Value → Shared → Prop), j + 1 < len → Bk j s b kb x → s.heap.get? S = some o → (∀ v, o.data ≠ .cell v) →
    (∀ k t, t.heap.get? S = some o → (∀ (Qy : Value → Shared → Prop) (Ey : Value → Shared → Prop), (∀ r, (r = true → Cj (j + 1) t x k) → (r = false → Cj (j + 1) t b kb) → Qy (.bool r) t) → wpAny (model pg wd) Ar (richCompare .Lt k kb) Qy Ey t) → Qx k t) →
    wpAny (model pg wd) Ar (call (.ref fd) [x]) Qx Ex s

section
variable {pg : Program} {wd : World} {Ar : Around} {fd S I : Addr} {len : Nat} {C0 : Shared → Prop} {D0 : Shared → Value → Prop} {Cj : Nat → Shared → Value → Value → Prop} {Ej : Shared → Value → Prop}
  {Bk : Nat → Shared → Value → Value → Value → Prop} {Rs : Result → Shared → Prop}
theorem nm_loop : (toString "min" ++ toString ".loop" : String) = "min.loop" := by decide
theorem least_loop (L : LeastRun pg wd Ar.in1 fd S I len C0 D0 Cj Ej Bk) (kws : List (Str × Value)) : ∀ (rest j : Nat) (s : Shared) (b kb : Value) (c : Nat),
    len - (j + 1) = rest → j + 1 ≤ len → Cj j s b kb → s.heap.get? S = some { cls := .type "list", dict := none, data := .seq #[b, kb] c, slots := #[] } → (∀ b' t, Ej t b' → Rs (.ok (.ret b')) t) →
    codeAny (model pg wd) Ar (.builtin "min.loop" ⟨[.ref I, (.ref fd), .ref S], kws⟩) Rs s
  | 0, j, s, b, kb, c, e0, hj, hC, hS, hR => by
    refine codeAny_builtin F.entry_min_loop ?_
    rw [Around.under_plainId F.plain_min_loop _]
    refine wpAny_bind (wpAny_seqItems hS rfl ?_)
    refine wpAny_bind (wpAny_tryCatch (L.stop j s b kb _ _ _ (by omega) hC hS fun t hE hS1 => ?_))
    refine wpAny_bind ?_
    refine wpAny_updateSeq hS1 rfl (wpAny_bind (wpAny_letGo (wpAny_pure ?_)))
    exact hR b _ (L.putE _ _ _ hE)
  | rest + 1, j, s, b, kb, c, e0, hj, hC, hS, hR => by
    have hlt : j + 1 < len := by omega
    refine codeAny_builtin F.entry_min_loop ?_
    rw [Around.under_plainId F.plain_min_loop _]
    refine wpAny_bind (wpAny_seqItems hS rfl ?_)
    refine wpAny_bind (wpAny_tryCatch (L.draw j s b kb _ _ _ hlt hC hS fun x t hD hS1 => ?_))
    refine wpAny_bind (wpAny_tryCatch (wpAny_holding (L.next j t b kb x _ _ _ hlt hD hS1 (fun v z => by cases z) fun k t2 hS2 hB => ?_)))
    refine wpAny_bind (wpAny_tryCatch (wpAny_holding (wpAny_bind (hB _ _ fun r ht hf => ?_))))
    refine wpAny_bind (wpAny_holding (wpAny_truthy_bool ?_))
    refine wpAny_bind (wpAny_letGo (wpAny_pure ?_))
    cases r with
    | true =>
      simp only [if_true]
      refine wpAny_bind ?_
      refine wpAny_updateSeq hS2 rfl (wpAny_bind (wpAny_letGo ?_))
      rw [nm_loop]
      exact wpAny_pure ⟨plainId_quiet F.plain_min_loop _, least_loop L kws rest (j + 1) _ x k _ (by omega) hlt (L.put _ _ _ _ _ (ht rfl)) (Heap.get?_update_self _ hS2 rfl) hR⟩
    | false =>
      simp only [Bool.false_eq_true, if_false]
      refine wpAny_bind (wpAny_letGo ?_)
      rw [nm_loop]
      exact wpAny_pure ⟨plainId_quiet F.plain_min_loop _, least_loop L kws rest (j + 1) _ b kb c (by omega) hlt (hf rfl) hS2 hR⟩
theorem least_first (L : LeastRun pg wd Ar.in1 fd S I len C0 D0 Cj Ej Bk) (kws : List (Str × Value)) (hn : 0 < len) {s : Shared} {c : Nat} (hC : C0 s)
    (hS : s.heap.get? S = some { cls := .type "list", dict := none, data := .seq #[] c, slots := #[] }) (hR : ∀ b' t, Ej t b' → Rs (.ok (.ret b')) t) :
    codeAny (model pg wd) Ar (.builtin "min.loop" ⟨[.ref I, (.ref fd), .ref S], kws⟩) Rs s := by
  refine codeAny_builtin F.entry_min_loop ?_
  rw [Around.under_plainId F.plain_min_loop _]
  refine wpAny_bind (wpAny_seqItems hS rfl ?_)
  refine wpAny_bind (wpAny_tryCatch (L.draw0 s _ _ _ hC hS fun x t hD hS1 => ?_))
  refine wpAny_bind (wpAny_tryCatch (wpAny_holding (L.first t x _ _ _ hD hS1 (fun v z => by cases z) fun k t2 hC2 hS2 => ?_)))
  refine wpAny_bind ?_
  refine wpAny_updateSeq hS2 rfl ?_
  rw [nm_loop]
  exact wpAny_pure ⟨plainId_quiet F.plain_min_loop _, least_loop L kws _ 0 _ x k _ rfl hn (L.put _ _ _ _ _ hC2) (Heap.get?_update_self _ hS2 rfl) hR⟩
theorem call_least {x : Value} {Qx : Value → Shared → Prop} {Ex : Value → Shared → Prop} {s : Shared}
    (h : wpAny (model pg wd) Ar.in1 (pyIter x) (fun it t => ∃ I len C0 D0 Cj Ej Bk, it = .ref I ∧ 0 < len ∧ LeastRun pg wd Ar.in1 fd t.heap.objs.size I len C0 D0 Cj Ej Bk ∧
      C0 { t with heap := t.heap.push { cls := .type "list", data := .seq #[] 0 }, toks := t.toks } ∧ ∀ b' t', Ej t' b' → Qx b' t') Ex s) :
    wpAny (model pg wd) Ar (call (.builtin "min") [x] [(Str.ofString "key", .ref fd)]) Qx Ex s := by
  refine PyProof.Rows.kmk_tree F.kind_min F.plain_min F.entry_min (PyProof.Rows.kmk_min_key _ _) ?_
  refine wpAny_bind (wpAny_of_eq (show Builtin.Builtins.bindParams "min" ["key", "default"] 0 ⟨[], [(Str.ofString "key", Value.ref fd)]⟩ = pure [some (Value.ref fd), none] from rfl) ?_)
  refine wpAny_bind (wpAny_pure ?_)
  refine wpAny_bind (wpAny_mono h (fun it t ht => ?_) fun _ _ z => z)
  obtain ⟨I, len, C0, D0, Cj, Ej, Bk, rfl, hn, L, hC, hQ⟩ := ht
  refine wpAny_bind (wpAny_newObj_type ?_)
  rw [nm_loop]
  exact wpAny_pure ⟨plainId_quiet F.plain_min_loop _, least_first L _ hn hC (Heap.get?_push_size _ rfl) hQ⟩
end

section
variable {X : Cx} {k : Nat} {f : Addr} {fd : FuncData} {ps : List Str} {g : List PyData → Option PyData} {pins : List (Addr × Obj)} {σ : L2.St} {H H1 : Hp} {s : Shared} {S I l : Addr} {i : Nat}
/-- the state in the midst of the search: the walk over the list at l stands at i, S holds the best -/
structure Mid (X : Cx) (pins : List (Addr × Obj)) (σ : L2.St) (H : Hp) (S I l : Addr) (i : Nat) (H1 : Hp) (s : Shared) : Prop where
  inv : Inv X pins σ H1 s
  same : Same H H1
  fS : FpOk X pins H1 S
  fI : FpOk X pins H1 I
  ne : S ≠ I
  it : s.heap.IsListIter I l i
theorem Mid.put (M : Mid X pins σ H S I l i H1 s) (up : Obj → Obj) : Mid X pins σ H S I l i H1 { s with heap := s.heap.update S up, toks := s.toks } := by
  obtain ⟨f0, f1, f2, f3, f4, f5⟩ := id M.fS
  refine ⟨M.inv.turned (it := S) (fun b o hb e => (Heap.get?_update_other _ _ (Ne.symm hb)).trans e) f0 f1 f3 f4 f5, M.same, M.fS, M.fI, M.ne, ?_⟩
  obtain ⟨o, e, z⟩ := M.it
  exact ⟨o, (Heap.get?_update_other _ _ M.ne).trans e, z⟩
/-- the next item -/
theorem Mid.draw {xs : List V} {Qx : Option Value → Shared → Prop} {Ex : Value → Shared → Prop} (M : Mid X pins σ H S I l i H1 s) (hh : X.A.handled = none) (hl : SqL X.K H l xs) (hi : i ≤ xs.length) {o : Obj} (hS : s.heap.get? S = some o)
    (h1 : ∀ x xv t, xs[i]? = some xv → RelV xv x → Mid X pins σ H S I l (i + 1) H1 t → t.heap.get? S = some o → Qx (some x) t) (h2 : i = xs.length → ∀ t, Inv X pins σ H1 t → t.heap.get? S = some o → Qx none t) : wpAny (model X.prog X.w) X.A.in1 (pyNext (.ref I)) Qx Ex s := by
  obtain ⟨its, rv, hls, _⟩ := M.inv.list (M.same.seq hl)
  have hls' := hls.isList
  obtain ⟨f0, f1, f2, f3, f4, f5⟩ := id M.fI
  have hne : l ≠ I := by
    rintro rfl
    obtain ⟨oI, e1, e2, e3⟩ := M.it
    obtain ⟨oL, e4, e5, e6⟩ := hls'
    rw [e1] at e4; cases e4
    obtain ⟨w, e6⟩ := e6
    rw [e3] at e6; cases e6
  have W := (Walks.list (prog := X.prog) (w := X.w) (A := X.A.in1) hh I l hne its.toArray).toS
  have en : its.toArray.size = xs.length := by rw [List.size_toArray, ← rv.length]
  have mov : ∀ t, Moved [I] (fun a b => b = a) s t → Inv X pins σ H1 t ∧ t.heap.get? S = some o := fun t mv => by
    have z : t = { s with heap := t.heap, toks := t.toks } := by
      obtain ⟨hp, ge, d, tk, os⟩ := t
      have h1 : ge = s.gens := mv.gens
      have h2 : d = s.drawn := mv.drawn
      have h3 : os = s.os := mv.os
      subst h1 h2 h3
      rfl
    refine ⟨?_, mv.heap _ _ (fun q => M.ne (List.mem_singleton.mp q)) hS⟩
    rw [z]
    exact M.inv.turned (it := I) (fun b ob hb e => mv.heap b ob (fun q => hb (List.mem_singleton.mp q)) e) f0 f1 f3 f4 f5
  by_cases e : i = xs.length
  · refine W.done s _ _ ?_ fun t mv => ?_
    · rw [en, ← e]; exact ⟨M.it, hls'⟩
    · obtain ⟨I2, S2⟩ := mov t mv
      exact h2 e t I2 S2
  · refine W.item i s _ _ (by rw [en]; omega) ⟨M.it, hls'⟩ fun x t hx st mv => ?_
    obtain ⟨I2, S2⟩ := mov t mv
    have hx' : its[i]? = some x := by simpa using hx
    obtain ⟨xv, e1⟩ : ∃ xv, xs[i]? = some xv := ⟨_, List.getElem?_eq_getElem (by omega)⟩
    obtain ⟨u, e2, r1⟩ := rv.get e1
    rw [hx'] at e2; cases e2
    exact h1 x xv t e1 r1 ⟨I2, M.same, M.fS, M.fI, M.ne, st.1⟩ S2
theorem Mid.call (M : Mid X pins σ H S I l i H1 s) (F : FnOk X.prog X.w X.K X.mg X.base CX0 k f fd ps (spF X.K g)) (hr : Room (k + 1) X.A) (hb : Binds X.K fd ps []) {U : Addr → Prop} {x : Value} {xv : V} {d kd : PyData} (rel : RelV xv x) (r : Rp X.K U H1 d xv) (hg : g [d] = some kd)
    {o : Obj} (hS : s.heap.get? S = some o) (no : ∀ v, o.data ≠ .cell v) {Qx : Value → Shared → Prop} {Ex : Value → Shared → Prop}
    (h : ∀ kx t H2 kv, Mid X pins σ H S I l i H2 t → Same H1 H2 → RelV kv kx → Rp X.K (fun _ => True) H2 kd kv → t.heap.get? S = some o → Qx kx t) : wpAny (model X.prog X.w) X.A.in1 (call (.ref f) [x]) Qx Ex s := by
  obtain ⟨oI, eI, cI, dI⟩ := id M.it
  have I1 : Inv X (pins ++ pinsAt [S, I] s.heap) σ H1 s := M.inv.pinned (fun b hb => by
    rcases List.mem_cons.mp hb with rfl | hb
    · exact M.fS
    · rw [List.mem_singleton.mp hb]; exact M.fI) (fun b hb => by
    rcases List.mem_cons.mp hb with rfl | hb
    · exact ⟨o, hS, no⟩
    · rw [List.mem_singleton.mp hb]; exact ⟨oI, eI, fun v z => by rw [dI] at z; cases z⟩)
  have sp : spF X.K g [xv] H1 (fun v H' => Same H1 H' ∧ Rp X.K (fun _ => True) H' kd v) (fun _ _ _ => False) := ⟨U, [d], kd, RpA.cons r RpA.nil, hg, fun v H' s1 r1 => ⟨s1, r1.wide fun _ _ => trivial⟩⟩
  have hlen : ([x] : List Value).length = ps.length := (F.len _ _ _ _ sp)
  have b := hb s [x] I1.kIn (by rw [List.append_nil]; exact hlen)
  rw [List.append_nil] at b
  have e0 := I1.env0
  refine wpAny_call (codeAny_mono (F.run X.A.in1 X.stack s H1 ⟨[x], []⟩ [x] [xv] _ (fun _ _ _ => False) hr.in1 ⟨e0.frames, e0.mod, e0.bs, e0.bsz, e0.funs, e0.frf, e0.hok, e0.bare⟩ b (.cons rel .nil) sp) fun q t hq => ?_)
  cases q with
  | error e => exact False.elim hq
  | ok fl =>
    cases fl with
    | ret u =>
      obtain ⟨v, H2, I2, rv, s2, r2⟩ := I1.after hq
      have pS := I2.pin (S, o) (List.mem_append_right _ (List.mem_append_right _ (mem_pinsAt List.mem_cons_self hS)))
      have pI := I2.pin (I, oI) (List.mem_append_right _ (List.mem_append_right _ (mem_pinsAt (List.mem_cons_of_mem _ List.mem_cons_self) eI)))
      exact h u t H2 v ⟨I2.unpinned, M.same.trans s2, ⟨pS.2.1, M.fS.2⟩, ⟨pI.2.1, M.fI.2⟩, M.ne, ⟨oI, pI.1, cI, dI⟩⟩ s2 rv r2 pS.1
    | next => exact False.elim hq
    | brk => exact False.elim hq
    | cont => exact False.elim hq
/-! the first of the least keys -/
def stK (m q : PyData × PyData) : PyData × PyData := if PySem.W.dataLt q.2 m.2 = true then q else m
def lstK (m : PyData × PyData) (qs : List (PyData × PyData)) : PyData × PyData := qs.foldl stK m
def keyOk (q : PyData × PyData) : Bool := noD q.2 && decide (q.2.depth ≤ 60)
/-- the keys compare with one another -/
def keysOk (qs : List (PyData × PyData)) : Prop := (∀ q ∈ qs, keyOk q = true ∧ q.2 ≠ .none) ∧ ∀ q ∈ qs, ∀ q' ∈ qs, PySem.W.alike q.2 q'.2 = true
theorem stK_mem {m q : PyData × PyData} {qs : List (PyData × PyData)} (h1 : m ∈ qs) (h2 : q ∈ qs) : stK m q ∈ qs := by
  unfold stK
  split
  · exact h2
  · exact h1
def bestK (qs : List (PyData × PyData)) : Nat → PyData × PyData
  | 0 => qs.getD 0 (.none, .none)
  | j + 1 => stK (bestK qs j) (qs.getD (j + 1) (.none, .none))
theorem bestK_mem {qs : List (PyData × PyData)} : ∀ {j : Nat}, j < qs.length → bestK qs j ∈ qs
  | 0, h => by unfold bestK; rw [List.getD_eq_getElem?_getD, List.getElem?_eq_getElem h]; exact List.getElem_mem h
  | j + 1, h => by
    unfold bestK
    refine stK_mem (bestK_mem (by omega)) ?_
    rw [List.getD_eq_getElem?_getD, List.getElem?_eq_getElem h]; exact List.getElem_mem h
def rMinK (X : Cx) (f : Addr) (g : List PyData → Option PyData) : List V → List V → Hp → VK → Prop := fun vs zs H Q => ∃ a xs U qs, vs = [.ref a] ∧ zs = [.ref f] ∧ SqL X.K H a xs ∧ RpA X.K U H (qs.map (·.1)) xs ∧ (∀ q ∈ qs, g [q.1] = some q.2) ∧ keysOk qs ∧ 0 < qs.length ∧
  ∀ v H', Same H H' → Rp X.K U H' (bestK qs (qs.length - 1)).1 v → Q v H'
theorem Rp.reads (I : Inv X pins σ H s) {U : Addr → Prop} {d : PyData} {v : V} {u : Value} (r : Rp X.K U H d v) (n : noD d = true) (rel : RelV v u) : ∃ as, Reads s.heap u d as := Dp.reads I d v u (Rp.dp0 d v n r) rel
theorem call_minK (F : FnOk X.prog X.w X.K X.mg X.base CX0 k f fd ps (spF X.K g)) (hr : Room (k + 1) X.A) (hb : Binds X.K fd ps []) : CallRK X (.builtin "min") [Str.ofString "key"] (rMinK X f g) := by
  intro pins s σ H vs zs us ws Q I0 r rz h
  obtain ⟨l, xs, U, qs, rfl, rfl, hl, ra, hg, ⟨k1, k2⟩, hn, q⟩ := h
  obtain ⟨its, rv, hls, _⟩ := I0.list hl
  rw [Vals.ref1 r, Vals.ref1 rz]
  have hh := hr.hd
  have lq : xs.length = qs.length := by rw [ra.length, List.length_map]
  have item : ∀ {H1 : Hp} {i : Nat} {xv : V}, Same H H1 → xs[i]? = some xv → Rp X.K U H1 (qs.getD i (.none, .none)).1 xv ∧ qs.getD i (.none, .none) ∈ qs := fun {H1 i xv} s1 e => by
    have hi : i < qs.length := by
      obtain ⟨z, _⟩ := List.getElem?_eq_some_iff.mp e
      omega
    rw [List.getD_eq_getElem?_getD, List.getElem?_eq_getElem hi]
    obtain ⟨v, e1, r1⟩ := ra.get (i := i) (d := qs[i].1) (by rw [List.getElem?_map, List.getElem?_eq_getElem hi]; rfl)
    rw [e] at e1; cases e1
    exact ⟨r1.grow s1, List.getElem_mem hi⟩
  refine call_least (x := .ref l) (fd := f) ?_
  refine PySem.W.iter_listW (A := X.A.in1) hh hls.isList fun t et W st hfp hw hk => ?_
  have I1 : Inv X pins σ H t := by rw [et]; exact I0.kept (t' := s.toks) fun b o e => Heap.get?_push_of_some _ e
  have szs : s.heap.objs.size + 1 = t.heap.objs.size := by rw [et]; exact (Heap.size_push ..).symm
  refine ⟨s.heap.objs.size, qs.length, fun s' => ∃ H1, Mid X pins σ H t.heap.objs.size s.heap.objs.size l 0 H1 s', fun s' x => ∃ H1 xv, Mid X pins σ H t.heap.objs.size s.heap.objs.size l 1 H1 s' ∧ RelV xv x ∧ xs[0]? = some xv,
    fun j s' b kb => ∃ H1 bv kv, Mid X pins σ H t.heap.objs.size s.heap.objs.size l (j + 1) H1 s' ∧ RelV bv b ∧ RelV kv kb ∧ j < qs.length ∧ Rp X.K U H1 (bestK qs j).1 bv ∧ Rp X.K (fun _ => True) H1 (bestK qs j).2 kv,
    fun s' b => ∃ H1 bv, Inv X pins σ H1 s' ∧ Same H H1 ∧ FpOk X pins H1 t.heap.objs.size ∧ RelV bv b ∧ Rp X.K U H1 (bestK qs (qs.length - 1)).1 bv,
    fun j s' b kb x => ∃ H1 bv kv xv, Mid X pins σ H t.heap.objs.size s.heap.objs.size l (j + 2) H1 s' ∧ RelV bv b ∧ RelV kv kb ∧ RelV xv x ∧ xs[j + 1]? = some xv ∧ Rp X.K U H1 (bestK qs j).1 bv ∧ Rp X.K (fun _ => True) H1 (bestK qs j).2 kv, rfl, hn,
    { put := ?_, putE := ?_, draw0 := ?_, first := ?_, draw := ?_, stop := ?_, next := ?_ }, ?_, ?_⟩
  · rintro j s' b kb up ⟨H1, bv, kv, M, z⟩
    exact ⟨H1, bv, kv, M.put up, z⟩
  · rintro s' b up ⟨H1, bv, I2, s2, fS, z⟩
    obtain ⟨f0, f1, f2, f3, f4, f5⟩ := id fS
    exact ⟨H1, bv, I2.turned (fun b o hb e => (Heap.get?_update_other _ _ (Ne.symm hb)).trans e) f0 f1 f3 f4 f5, s2, fS, z⟩
  · rintro s' o Qx Ex ⟨H1, M⟩ hS hq
    refine M.draw hh hl (Nat.zero_le _) hS (fun x xv t' e1 r1 M1 S1 => hq x t' ⟨H1, xv, M1, r1, e1⟩ S1) fun e => absurd e (by omega)
  · rintro s' x o Qx Ex ⟨H1, xv, M, rx, e1⟩ hS no hq
    obtain ⟨r1, m1⟩ := item M.same e1
    refine M.call F hr hb rx r1 (hg _ m1) hS no fun kx t' H2 kv M2 s2 rk r2 S2 => hq kx t' ⟨H2, xv, kv, M2, rx, rk, hn, r1.grow s2, r2⟩ S2
  · rintro j s' b kb o Qx Ex hj ⟨H1, bv, kv, M, rb, rk, hj', r1, r2⟩ hS hq
    exact M.draw hh hl (by omega) hS (fun x xv t' e1 rx M1 S1 => hq x t' ⟨H1, bv, kv, xv, M1, rb, rk, rx, e1, r1, r2⟩ S1) fun e => absurd e (by omega)
  · rintro j s' b kb o Qx Ex hj ⟨H1, bv, kv, M, rb, rk, hj', r1, r2⟩ hS hq
    refine M.draw hh hl (by omega) hS (fun x xv t' e1 => ?_) fun _ t' I2 S2 => hq t' ⟨H1, bv, I2, M.same, M.fS, rb, ?_⟩ S2
    · rw [List.getElem?_eq_none (by omega)] at e1; cases e1
    · rw [show qs.length - 1 = j by omega]; exact r1
  · rintro j s' b kb x o Qx Ex hj ⟨H1, bv, kv, xv, M, rb, rk, rx, e1, r1, r2⟩ hS no hq
    obtain ⟨ri, mi⟩ := item M.same e1
    refine M.call F hr hb rx ri (hg _ mi) hS no fun kx t' H2 kxv M2 s2 rkx rkd S2 => hq kx t' S2 fun Qy Ey hy => ?_
    have mb : bestK qs j ∈ qs := bestK_mem (by omega)
    obtain ⟨⟨y1, y2⟩, y3⟩ := (k1 _ mi).imp_left fun z => by simpa [keyOk] using z
    obtain ⟨⟨y4, y5⟩, y6⟩ := (k1 _ mb).imp_left fun z => by simpa [keyOk] using z
    obtain ⟨as1, w1⟩ := rkd.reads M2.inv y1 rkx
    obtain ⟨as2, w2⟩ := (r2.grow s2).reads M2.inv y4 rk
    refine PySem.W.rcLt_alike _ _ X.A.in1 t' kx kb _ _ w1 w2 (k2 _ mi _ mb) y3 ?_ X.prog X.w Ey Qy (hy _ (fun e => ?_) fun e => ?_)
    · have := hr.un
      have := Nat.min_le_left (qs.getD (j + 1) (PyData.none, PyData.none)).2.depth (bestK qs j).2.depth
      show X.A.units + 1 + _ < _
      omega
    · have eb : bestK qs (j + 1) = qs.getD (j + 1) (.none, .none) := by unfold bestK stK; rw [if_pos e]
      exact ⟨H2, xv, kxv, M2, rx, rkx, hj, by rw [eb]; exact ri.grow s2, by rw [eb]; exact rkd⟩
    · have eb : bestK qs (j + 1) = bestK qs j := by
        show stK _ _ = _
        unfold stK; rw [if_neg (by rw [e]; exact Bool.false_ne_true)]
      exact ⟨H2, bv, kv, M2, rb, rk, hj, by rw [eb]; exact r1.grow s2, by rw [eb]; exact r2.grow s2⟩
  · refine ⟨H, I1.kept (t' := t.toks) fun b o e => Heap.get?_push_of_some _ e, Same.refl H, I1.fpOk (Nat.le_refl _) (I1.hok.fresh (Nat.le_refl _)), I0.fpOk (Nat.le_refl _) (I0.hok.fresh (Nat.le_refl _)), fun z => by have z' : (t.heap.objs.size : Nat) = s.heap.objs.size := z; omega, ?_⟩
    obtain ⟨o, e, z⟩ := st.1
    exact ⟨o, Heap.get?_push_of_some _ e, z⟩
  · rintro b' t' ⟨H1, bv, I2, s2, _, rb, r1⟩
    exact ⟨bv, H1, I2, rb, q bv H1 s2 r1⟩
end
/-! told on data -/
section
variable {X : Cx} {k : Nat} {f : Addr} {fd : FuncData} {ps : List Str} {gd : List PyData → Option PyData} {e : Expr} {c c1 : Bool} {fe : En → Option PyData}
def keysD (g : List PyData → Option PyData) : List PyData → Option (List (PyData × PyData))
  | [] => some []
  | d :: ds => match g [d] with
    | some kd => (keysD g ds).map ((d, kd) :: ·)
    | none => none
theorem keysD_spec {g : List PyData → Option PyData} : ∀ {ds : List PyData} {qs : List (PyData × PyData)}, keysD g ds = some qs → qs.map (·.1) = ds ∧ ∀ q ∈ qs, g [q.1] = some q.2
  | [], qs, h => by
    cases h
    exact ⟨rfl, fun _ z => nomatch z⟩
  | d :: ds, qs, h => by
    unfold keysD at h
    split at h
    · rename_i kd hk
      cases e : keysD g ds with
      | none => rw [e] at h; cases h
      | some r =>
        rw [e] at h
        cases h
        obtain ⟨h1, h2⟩ := keysD_spec e
        refine ⟨by rw [List.map_cons, h1], fun q hq => ?_⟩
        rcases List.mem_cons.mp hq with rfl | hq
        · exact hk
        · exact h2 q hq
    · cases h
/-- what all keys look like -/
def keysB (qs : List (PyData × PyData)) : Bool := qs.all fun q => keyOk q && (match q.2 with | .none => false | _ => true) && qs.all fun q' => PySem.W.alike q.2 q'.2
theorem keysB_ok {qs : List (PyData × PyData)} (h : keysB qs = true) : keysOk qs := by
  unfold keysB at h
  rw [List.all_eq_true] at h
  refine ⟨fun q hq => ?_, fun q hq q' hq' => ?_⟩
  · have := h q hq
    rw [Bool.and_eq_true, Bool.and_eq_true] at this
    refine ⟨this.1.1, fun z => ?_⟩
    rw [z] at this
    exact absurd this.1.2 Bool.false_ne_true
  · have := h q hq
    rw [Bool.and_eq_true, List.all_eq_true] at this
    exact this.2 q' hq'
def eMinK (g : List PyData → Option PyData) (f : En → Option PyData) : En → Option PyData := fun env => match f env with
  | some (.list ds) => match keysD g ds with
    | some qs => if keysB qs = true ∧ 0 < qs.length then some (bestK qs (qs.length - 1)).1 else none
    | none => none
  | _ => none
theorem ce_minK (h : PE X e (tCKw (rMinK X f gd) (tCons (tE X.K c fe) tNil) (tCons (tC (.ref f)) tNil))) : PE X e (tE X.K c (eMinK gd fe)) := pe_w h fun σ H Q ⟨S0, H0, A, env, d, E, hf, q⟩ => by
  unfold eMinK at hf
  split at hf
  · rename_i ds hd
    split at hf
    · rename_i qs hq
      split at hf
      · rename_i hk
        cases hf
        refine ⟨S0, H0, A, env, _, E, hd, fun v H1 s r => ?_⟩
        rw [Rp] at r
        obtain ⟨a, xs, rfl, hs, ra⟩ := r
        obtain ⟨m1, m2⟩ := keysD_spec hq
        exact ⟨a, xs, _, qs, rfl, rfl, hs.sq, by rw [m1]; exact ra, m2, keysB_ok hk.1, hk.2, fun v H2 s2 r2 => q v H2 (s.trans s2) r2⟩
      · cases hf
    · cases hf
  · cases hf
end
end Mir
namespace Mir
open PySem PySem.Spec PyProof.Rows L2
/-! a < b, data of any alike kind -/
section
variable {X : Cx} {K : PySem.W.Frag}
def ltOk (x y : PyData) : Bool := noD x && noD y && PySem.W.alike x y && (match x with | .none => false | _ => true) && decide (x.depth ≤ 60)
def ltU (x y : PyData) : Option PyData := if ltOk x y = true then some (.bool (PySem.W.dataLt x y)) else none
def rLtU (K : PySem.W.Frag) : R2 := fun x y H Q => ∃ S S' d e, Rp K S H d x ∧ Rp K S' H e y ∧ ltOk d e = true ∧ Q (.bl (PySem.W.dataLt d e)) H
theorem op_ltU (hu : X.A.units + 64 < cLine) : OpR X (compareOp .Lt) (rLtU X.K) := by
  intro pins s σ H x y v u Q I rx ry h
  obtain ⟨S, S', d, e, r1, r2, ok, q⟩ := h
  unfold ltOk at ok
  rw [Bool.and_eq_true, Bool.and_eq_true, Bool.and_eq_true, Bool.and_eq_true] at ok
  obtain ⟨⟨⟨⟨n1, n2⟩, al⟩, nn⟩, dp⟩ := ok
  obtain ⟨as, w1⟩ := r1.reads I n1 rx
  obtain ⟨bs, w2⟩ := r2.reads I n2 ry
  refine PySem.W.lt_data w1 w2 al (fun z => by rw [z] at nn; exact absurd nn Bool.false_ne_true) ?_ ⟨.bl _, H, I, rfl, q⟩
  have := of_decide_eq_true dp
  have := Nat.min_le_left d.depth e.depth
  omega
theorem r2_ltU : R2Ok K true (rLtU K) ltU := by
  intro S S' H x y dx dy d Q hn hS rx ry h q
  unfold ltU at h
  split at h
  · rename_i hk
    cases h
    exact ⟨_, _, dx, dy, rx, ry, hk, q _ H (Same.refl H) rpb⟩
  · cases h
end
end Mir

/-! Mir14: texts: walked, split, written, read; a tuple of texts of the module -/
namespace Mir
open PySem PySem.Spec PyProof.Rows L2
section
variable {X : Cx} {K : PySem.W.Frag} {a b e tg iter : Expr} {pos apos : Pos} {c c1 c2 : Bool} {f g : En → Option PyData} {fa : En → Option (List PyData)}
/-! ### a text, sign by sign -/
def sgD (n : Nat) : PyData := .str ⟨#[n]⟩
def sgsD (x : Str) : List PyData := x.cps.toList.map sgD
theorem wk_str {x : Str} {S : Addr → Prop} : Wk K (Its x) (fun _ => True) S (sgsD x) where
  go := fun i H _ h => by
    unfold sgsD at h
    rw [List.length_map, Array.length_toList] at h
    exact h
  yld := fun i H d v H' _ h ⟨e, n, h1, h2⟩ => by
    subst e h2
    unfold sgsD at h
    rw [List.getElem?_map, Array.getElem?_toList, h1] at h
    cases h
    exact ⟨Same.refl _, by unfold sgD; rw [Rp]⟩
  stop := fun i H _ h => by
    unfold sgsD at h
    rw [List.length_map, Array.length_toList] at h
    exact h
def iStrD (f : En → Option PyData) : En → Option (List PyData) := fun env => match f env with
  | some (.str x) => some (sgsD x)
  | _ => none
theorem ci_str {f : En → Option PyData} (h : PE X iter (tE X.K c1 f)) : PI X tg iter (tI X.K c (iStrD f)) := pi_w (pi_str h) fun σ H R ⟨S0, H0, A, env, ds, E, hf, q⟩ => by
  unfold iStrD at hf
  split at hf
  · rename_i x hd
    cases hf
    refine ⟨S0, H0, A, env, _, E, hd, fun v H1 s r => ?_⟩
    rw [Rp] at r
    subst r
    exact ⟨x, rfl, q _ H1 _ s (fun _ _ => trivial) (fun _ _ _ => trivial) wk_str⟩
  · cases hf
/-! ### one sign in a text; else as ever -/
def inX (x y : PyData) : Option PyData := match y with
  | .str z => (match x with
    | .str w => (match w.cps.toList with
      | [n] => some (.bool (decide (n ∈ z.cps.toList)))
      | _ => none)
    | _ => none)
  | .tuple ds => if (SeqAt.shaped x && SeqAt.shaped (.tuple ds)) = true then some (.bool (ds.any fun z => PyData.eqv z x)) else none
  | _ => inT x y
def notInX (x y : PyData) : Option PyData := match y with
  | .str z => (match x with
    | .str w => (match w.cps.toList with
      | [n] => some (.bool (!decide (n ∈ z.cps.toList)))
      | _ => none)
    | _ => none)
  | .tuple ds => if (SeqAt.shaped x && SeqAt.shaped (.tuple ds)) = true then some (.bool (!ds.any fun z => PyData.eqv z x)) else none
  | _ => notInT x y
def rTupD (K : PySem.W.Frag) (neg : Bool) : R2 := fun x y H Q => ∃ d ds, Dp K H x d ∧ Dp K H y (.tuple ds) ∧ SeqAt.shaped d = true ∧ SeqAt.shaped (.tuple ds) = true ∧ Q (.bl (if neg then !ds.any fun z => PyData.eqv z d else ds.any fun z => PyData.eqv z d)) H
theorem op_inTupD (hu : X.A.units + 65 < cLine) : OpR X (compareOp .In) (rTupD X.K false) := by
  intro pins s σ H x y v u Q I rx ry h
  obtain ⟨d, ds, hd, he, sd, se, q⟩ := h
  obtain ⟨as, r1⟩ := Dp.reads I d x v hd rx
  obtain ⟨bs, r2⟩ := Dp.reads I (.tuple ds) y u he ry
  exact SeqAt.in_tuple_reads r2 r1 (SeqAt.canLay_of_shaped se) (SeqAt.canLay_of_shaped sd) (room_in_shaped sd hu) ⟨.bl _, H, I, rfl, q⟩
theorem op_notInTupD (hu : X.A.units + 65 < cLine) : OpR X (compareOp .NotIn) (rTupD X.K true) := by
  intro pins s σ H x y v u Q I rx ry h
  obtain ⟨d, ds, hd, he, sd, se, q⟩ := h
  obtain ⟨as, r1⟩ := Dp.reads I d x v hd rx
  obtain ⟨bs, r2⟩ := Dp.reads I (.tuple ds) y u he ry
  exact SeqAt.notIn_tuple_reads r2 r1 (SeqAt.canLay_of_shaped se) (SeqAt.canLay_of_shaped sd) (room_in_shaped sd hu) ⟨.bl _, H, I, rfl, q⟩
def rSign : R2 := fun x y H Q => ∃ (c : Nat) (z : Str), x = .str ⟨#[c]⟩ ∧ y = .str z ∧ Q (.bl (decide (c ∈ z.cps.toList))) H
def rNotSign : R2 := fun x y H Q => ∃ (c : Nat) (z : Str), x = .str ⟨#[c]⟩ ∧ y = .str z ∧ Q (.bl (!decide (c ∈ z.cps.toList))) H
theorem op_inX (hu : X.A.units + 65 < cLine) : OpR X (compareOp .In) (fun x y H Q => ((rInD X.K x y H Q ∨ rIn X.K false x y H Q) ∨ rTupD X.K false x y H Q) ∨ rSign x y H Q) := OpR.or (OpR.or (op_inT hu) (op_inTupD hu)) op_in_sign
theorem op_notInX (hu : X.A.units + 65 < cLine) : OpR X (compareOp .NotIn) (fun x y H Q => ((rNotInD X.K x y H Q ∨ rIn X.K true x y H Q) ∨ rTupD X.K true x y H Q) ∨ rNotSign x y H Q) := OpR.or (OpR.or (op_notInT hu) (op_notInTupD hu)) op_notIn_sign
theorem one_of {w : Str} {n : Nat} (h : w.cps.toList = [n]) : w = ⟨#[n]⟩ := by
  cases w with
  | mk cps =>
    congr 1
    exact Array.toList_inj.mp h
theorem r2_inX : R2Ok K true (fun x y H Q => ((rInD K x y H Q ∨ rIn K false x y H Q) ∨ rTupD K false x y H Q) ∨ rSign x y H Q) inX := by
  intro S S' H x y dx dy d Q hn hS rx ry h q
  cases dy with
  | str z =>
    cases dx with
    | str w =>
      have h' : (match w.cps.toList with
        | [n] => some (PyData.bool (decide (n ∈ z.cps.toList)))
        | _ => none) = some d := h
      rw [Rp] at rx ry
      subst rx ry
      split at h'
      · rename_i n hw
        cases h'
        exact .inr ⟨n, z, by rw [one_of hw], rfl, q _ H (Same.refl H) rpb⟩
      · cases h'
    | none => cases h
    | bool _ => cases h
    | int _ => cases h
    | list _ => cases h
    | tuple _ => cases h
    | dict _ => cases h
  | none => exact .inl (.inl (r2_inT S S' H x y dx _ d Q hn hS rx ry h q))
  | bool _ => exact .inl (.inl (r2_inT S S' H x y dx _ d Q hn hS rx ry h q))
  | int _ => exact .inl (.inl (r2_inT S S' H x y dx _ d Q hn hS rx ry h q))
  | list _ => exact .inl (.inl (r2_inT S S' H x y dx _ d Q hn hS rx ry h q))
  | tuple ds =>
    have h' : (if (SeqAt.shaped dx && SeqAt.shaped (.tuple ds)) = true then some (PyData.bool (ds.any fun z => PyData.eqv z dx)) else none) = some d := h
    split at h'
    · rename_i hs
      rw [Bool.and_eq_true] at hs
      cases h'
      exact .inl (.inr ⟨dx, ds, rx.dp hs.1, ry.dp hs.2, hs.1, hs.2, q _ H (Same.refl H) rpb⟩)
    · cases h'
  | dict _ => exact .inl (.inl (r2_inT S S' H x y dx _ d Q hn hS rx ry h q))
theorem r2_notInX : R2Ok K true (fun x y H Q => ((rNotInD K x y H Q ∨ rIn K true x y H Q) ∨ rTupD K true x y H Q) ∨ rNotSign x y H Q) notInX := by
  intro S S' H x y dx dy d Q hn hS rx ry h q
  cases dy with
  | str z =>
    cases dx with
    | str w =>
      have h' : (match w.cps.toList with
        | [n] => some (PyData.bool (!decide (n ∈ z.cps.toList)))
        | _ => none) = some d := h
      rw [Rp] at rx ry
      subst rx ry
      split at h'
      · rename_i n hw
        cases h'
        exact .inr ⟨n, z, by rw [one_of hw], rfl, q _ H (Same.refl H) rpb⟩
      · cases h'
    | none => cases h
    | bool _ => cases h
    | int _ => cases h
    | list _ => cases h
    | tuple _ => cases h
    | dict _ => cases h
  | none => exact .inl (.inl (r2_notInT S S' H x y dx _ d Q hn hS rx ry h q))
  | bool _ => exact .inl (.inl (r2_notInT S S' H x y dx _ d Q hn hS rx ry h q))
  | int _ => exact .inl (.inl (r2_notInT S S' H x y dx _ d Q hn hS rx ry h q))
  | list _ => exact .inl (.inl (r2_notInT S S' H x y dx _ d Q hn hS rx ry h q))
  | tuple ds =>
    have h' : (if (SeqAt.shaped dx && SeqAt.shaped (.tuple ds)) = true then some (PyData.bool (!ds.any fun z => PyData.eqv z dx)) else none) = some d := h
    split at h'
    · rename_i hs
      rw [Bool.and_eq_true] at hs
      cases h'
      exact .inl (.inr ⟨dx, ds, rx.dp hs.1, ry.dp hs.2, hs.1, hs.2, q _ H (Same.refl H) rpb⟩)
    · cases h'
  | dict _ => exact .inl (.inl (r2_notInT S S' H x y dx _ d Q hn hS rx ry h q))
/-! ### str(i), int(text) -/
def strA : List PyData → Option PyData
  | [.int i] => if i.natAbs.log2 < 1920 then some (.str (toString i)) else none
  | _ => none
theorem cr_strI : CROk K true (fun xs H Q => ∃ i, xs = [.int i] ∧ i.natAbs.log2 < 1920 ∧ Q (.str (toString i)) H) strA := by
  intro S S' H vs ds d Q _ _ r h q
  unfold strA at h
  split at h
  · split at h
    · rename_i hz
      cases h
      obtain ⟨v, rfl, r1⟩ := r.one
      rw [Rp] at r1
      subst r1
      exact ⟨_, rfl, hz, q _ H (Same.refl H) (by rw [Rp])⟩
    · cases h
  · cases h
def intSA : List PyData → Option PyData
  | [.str a] => if a.length ≤ 640 then (PySem.intText? a).map .int else none
  | _ => none
theorem cr_intS : CROk K true (fun xs H Q => ∃ a n, xs = [.str a] ∧ PySem.intText? a = some n ∧ a.length ≤ 640 ∧ Q (.int n) H) intSA := by
  intro S S' H vs ds d Q _ _ r h q
  unfold intSA at h
  split at h
  · split at h
    · rename_i hz
      obtain ⟨n, hn, rfl⟩ := Option.map_eq_some_iff.mp h
      obtain ⟨v, rfl, r1⟩ := r.one
      rw [Rp] at r1
      subst r1
      exact ⟨_, n, rfl, hn, hz, q _ H (Same.refl H) rp1⟩
    · cases h
  · cases h
/-! ### s.split(t), s.endswith(t) -/
def fSplit (f g : En → Option PyData) : En → Option (List PyData) := fun env => match f env with
  | some (.str x) => (match g env with
    | some (.str y) => if (y.length == 0) = false ∧ x.length ≤ 1000000 then some ((Txt.split x y).map .str) else none
    | _ => none)
  | _ => none
theorem RpA.strs {S : Addr → Prop} {H : Hp} : ∀ xs : List Str, RpA K S H (xs.map PyData.str) (xs.map V.str)
  | [] => RpA.nil
  | x :: xs => RpA.cons (by rw [Rp]) (RpA.strs xs)
theorem cf_split (h : PE X e (tM1 (fun x xs H Q => ∃ a b, x = .str a ∧ xs = [.str b] ∧ (b.length == 0) = false ∧ a.length + 2 ≤ sizeLine ∧ rNewStrs (Txt.split a b) H Q) (tE X.K c1 f) (tE X.K c2 g))) : PE X e (tF X.K c (fSplit f g)) := pe_w h fun σ H Q ⟨S0, H0, A, env, ds, E, hf, q⟩ => by
  unfold fSplit at hf
  split at hf
  · rename_i x hx
    split at hf
    · rename_i y hy
      split at hf
      · rename_i hz
        cases hf
        refine ⟨S0, H0, A, env, _, E, hx, fun v H1 s r => ?_⟩
        rw [Rp] at r
        subst r
        refine ⟨⟨_, rfl⟩, S0, H0, A, env, _, E.grow s, hy, fun u H2 s2 r2 => ?_⟩
        rw [Rp] at r2
        subst r2
        refine ⟨_, _, rfl, rfl, hz.1, Nat.le_trans (Nat.add_le_add_right hz.2 2) (by decide), fun p hp => ?_⟩
        exact q p _ _ ((s.trans s2).free hp) ((s.trans s2).trans (same_new hp)) upd_same (RpA.strs _)
      · cases hf
    · cases hf
  · cases hf
def eEnds (f g : En → Option PyData) : En → Option PyData := fun env => match f env with
  | some (.str x) => (match g env with
    | some (.str y) => some (.bool (Txt.endswith x y))
    | _ => none)
  | _ => none
theorem ce_ends (h : PE X e (tM1 (fun x xs H Q => ∃ a b, x = .str a ∧ xs = [.str b] ∧ Q (.bl (Txt.endswith a b)) H) (tE X.K c1 f) (tE X.K c2 g))) : PE X e (tE X.K c (eEnds f g)) := pe_w h fun σ H Q ⟨S0, H0, A, env, d, E, hf, q⟩ => by
  unfold eEnds at hf
  split at hf
  · rename_i x hx
    split at hf
    · rename_i y hy
      cases hf
      refine ⟨S0, H0, A, env, _, E, hx, fun v H1 s r => ?_⟩
      rw [Rp] at r
      subst r
      refine ⟨⟨_, rfl⟩, S0, H0, A, env, _, E.grow s, hy, fun u H2 s2 r2 => ?_⟩
      rw [Rp] at r2
      subst r2
      exact ⟨_, _, rfl, rfl, q _ H2 (s.trans s2) rpb⟩
    · cases hf
  · cases hf
/-! ### f'..' -/
def fmtD : PyData → Option Str
  | .str y => if y.length ≤ 1000000 then some y else none
  | .int i => if i.natAbs.log2 < 1920 then some (toString i) else none
  | _ => none
def eFmt (f : En → Option PyData) : En → Option PyData := fun env => ((f env).bind fmtD).map .str
theorem ce_fmt (h : PE X e (tFmt (tE X.K c1 f))) : PE X e (tE X.K c (eFmt f)) := pe_w h fun σ H Q ⟨S0, H0, A, env, d, E, hf, q⟩ => by
  unfold eFmt at hf
  cases hx : f env with
  | none => rw [hx] at hf; cases hf
  | some x =>
    rw [hx] at hf
    refine ⟨S0, H0, A, env, _, E, hx, fun v H1 s r => ?_⟩
    cases x with
    | str y =>
      rw [Rp] at r
      subst r
      simp only [Option.bind_some, fmtD] at hf
      split at hf
      · rename_i hz
        cases hf
        exact .inl ⟨y, rfl, sz6 hz, q _ H1 s (by rw [Rp])⟩
      · cases hf
    | int i =>
      rw [Rp] at r
      subst r
      simp only [Option.bind_some, fmtD] at hf
      split at hf
      · rename_i hz
        cases hf
        exact .inr ⟨i, rfl, hz, q _ H1 s (by rw [Rp])⟩
      · cases hf
    | none => cases hf
    | bool _ => cases hf
    | list _ => cases hf
    | tuple _ => cases hf
    | dict _ => cases hf
def joinE : List (En → Option PyData) → Str → En → Option Str
  | [], acc, _ => some acc
  | f :: fs, acc, env => match f env with
    | some (.str y) => if (acc ++ y).length ≤ 1000000 then joinE fs (acc ++ y) env else none
    | _ => none
def eFs (fs : List (En → Option PyData)) : En → Option PyData := fun env => (joinE fs Str.empty env).map .str
theorem joins_run {σ : L2.St} {S0 A : Addr → Prop} {H0 : Hp} {env : En} {Q : Str → Hp → Prop} : ∀ {fs : List (En → Option PyData)} {acc out : Str} {H : Hp}, EnvOk K S0 H0 A H σ env → joinE fs acc env = some out → (∀ H', Same H H' → Q out H') → tJs (fs.map fun f => tE K true f) acc σ H Q
  | [], acc, out, H, E, h, q => by
    cases h
    exact q H (Same.refl H)
  | f :: fs, acc, out, H, E, h, q => by
    unfold joinE at h
    split at h
    · rename_i y hy
      split at h
      · rename_i hz
        refine ⟨S0, H0, A, env, _, E, hy, fun v H1 s r => ?_⟩
        rw [Rp] at r
        subst r
        exact ⟨y, rfl, sz6 hz, joins_run (E.grow s) h fun H' s' => q H' (s.trans s')⟩
      · cases h
    · cases h
theorem ce_fs {fs : List (En → Option PyData)} (h : PE X e (fun σ H Q => tJs (fs.map fun f => tE X.K true f) Str.empty σ H fun out H1 => Q (.str out) H1)) : PE X e (tE X.K c (eFs fs)) := pe_w h fun σ H Q ⟨S0, H0, A, env, d, E, hf, q⟩ => by
  unfold eFs at hf
  obtain ⟨out, ho, rfl⟩ := Option.map_eq_some_iff.mp hf
  exact joins_run E ho fun H' s => q _ H' s (by rw [Rp])
/-! ### a statement that is never reached -/
def sNever : En → Out := fun _ => .bad
theorem cs_never {st : Stmt} : PS X st (tS X.K sNever) := ⟨fun pins s σ H D I q => by obtain ⟨_, _, _, _, _, o⟩ := q; exact o.elim⟩
/-! ### a tuple of texts of the module -/
def KTup (K : PySem.W.Frag) (z : Addr) (xs : List Str) : Prop := ∃ (o : Obj) (its : Array Value) (n : Nat), K.lookup z = some o ∧ o.cls = .type "tuple" ∧ o.data = .seq its n ∧ its.size ≤ sizeLine ∧ Vals (xs.map V.str) its.toList
theorem KTup.sq {z : Addr} {xs : List Str} {H : Hp} (h : KTup K z xs) : SqT K H z (xs.map V.str) := .inr h
def eInG (neg : Bool) (xs : List Str) (f : En → Option PyData) : En → Option PyData := fun env => match f env with
  | some (.str y) => some (.bool (if neg then !decide (y ∈ xs) else decide (y ∈ xs)))
  | _ => none
theorem inV_strs (y : Str) : ∀ xs : List Str, inV (.str y) (xs.map V.str) = decide (y ∈ xs)
  | [] => rfl
  | x :: xs => by
    have ih := inV_strs y xs
    unfold inV at ih ⊢
    rw [List.map_cons, List.any_cons, ih]
    have e : eqV (.str x) (.str y) = decide (x = y) := by
      show (x == y) = decide (x = y)
      by_cases h : x = y
      · subst h; simp
      · rw [decide_eq_false h]; simpa using h
    rw [e]
    by_cases h : x = y
    · subst h; simp
    · have h' : ¬ y = x := fun z => h z.symm
      simp [h, h']
theorem flat_strs : ∀ xs : List Str, (xs.map V.str).all flatV = true
  | [] => rfl
  | x :: xs => by rw [List.map_cons, List.all_cons, flat_strs xs]; rfl
theorem in_run {neg : Bool} {z : Addr} {xs : List Str} (hz : KTup K z xs) {σ : L2.St} {H : Hp} {Q : VK} (q : tE K c (eInG neg xs f) σ H Q) : tOp (rIn K neg) (tE K c1 f) (tC (.ref z)) σ H Q := by
  obtain ⟨S0, H0, A, env, d, E, hf, q⟩ := q
  unfold eInG at hf
  split at hf
  · rename_i y hy
    cases hf
    refine ⟨S0, H0, A, env, _, E, hy, fun v H1 s r => ?_⟩
    rw [Rp] at r
    subst r
    refine ⟨z, xs.map V.str, rfl, .inr hz.sq, rfl, flat_strs xs, ?_⟩
    rw [inV_strs]
    have h := q (.bl (if neg then !decide (y ∈ xs) else decide (y ∈ xs))) H1 s rpb
    cases neg <;> exact h
  · cases hf
theorem ce_inG {neg : Bool} {z : Addr} {xs : List Str} {op : CmpOp} (hz : KTup X.K z xs) (ho : OpR X (compareOp op) (rIn X.K neg)) (ha : PE X a (tE X.K c1 f)) (hb : PE X b (tC (.ref z))) (hm : behindInMarks op b = false) : PE X (.Compare a [op] [b] pos) (tE X.K c (eInG neg xs f)) :=
  pe_w (pe_cmpR ho ha hb hm) fun _ _ _ q => in_run hz q
theorem ct_inG {neg : Bool} {z : Addr} {xs : List Str} {op : CmpOp} (hz : KTup X.K z xs) (ho : OpR X (compareOp op) (rIn X.K neg)) (ha : PE X a (tE X.K c1 f)) (hb : PE X b (tC (.ref z))) (hm : behindInMarks op b = false) : PT X (.Compare a [op] [b] pos) (tT X.K (t1 (eInG neg xs f))) :=
  pt_w (pt_cmpR ho ha hb hm) fun _ _ _ q => t1_run (c := true) (fun _ q => in_run hz q) q
theorem idx_first {y : Str} : ∀ (xs : List Str) (m : Nat), m < xs.idxOf y → xs[m]? ≠ some y
  | [], m, h, _ => by simp at h
  | x :: xs, m, h, e => by
    rw [List.idxOf_cons] at h
    cases hb : x == y with
    | true => rw [hb] at h; simp at h
    | false =>
      rw [hb] at h
      cases m with
      | zero =>
        have e' : x = y := by simpa using e
        rw [e'] at hb
        simp at hb
      | succ m => exact idx_first xs m (by simpa using h) (by simpa using e)
def eIdxG (xs : List Str) (f : En → Option PyData) : En → Option PyData := fun env => match f env with
  | some (.str y) => if y ∈ xs then some (.int (xs.idxOf y : Nat)) else none
  | _ => none
theorem tup_index_run {z : Addr} {xs : List Str} (hz : KTup K z xs) (ht : ∃ o, K.lookup z = some o ∧ o.cls = .type "tuple" ∧ o.dict = none) {σ : L2.St} {H : Hp} {Q : VK} (q : tE K c (eIdxG xs f) σ H Q) :
    tBM K "tuple" (fun x ys H Q => ∃ p, ∃ ws : List Str, ∃ z j, x = .ref p ∧ ys = [.str z] ∧ SqT K H p (ws.map V.str) ∧ ws[j]? = some z ∧ (∀ m, m < j → ws[m]? ≠ some z) ∧ Q (.int (j : Nat)) H) (tC (.ref z)) (tCons (tE K c1 f) tNil) σ H Q := by
  obtain ⟨S0, H0, A, env, d, E, hf, q⟩ := q
  unfold eIdxG at hf
  split at hf
  · rename_i y hy
    split at hf
    · rename_i hm
      cases hf
      refine ⟨.inr (.inl ⟨rfl, ht⟩), S0, H0, A, env, _, E, hy, fun v H1 s r => ?_⟩
      rw [Rp] at r
      subst r
      have hl : xs.idxOf y < xs.length := List.idxOf_lt_length_iff.mpr hm
      refine ⟨z, xs, y, xs.idxOf y, rfl, rfl, hz.sq, ?_, fun m hm' e => ?_, q _ H1 s rp1⟩
      · rw [List.getElem?_eq_getElem hl, List.getElem_idxOf hl]
      · exact idx_first xs m hm' e
    · cases hf
  · cases hf
theorem ce_idxG {z : Addr} {xs : List Str} (hz : KTup X.K z xs) (ht : ∃ o, X.K.lookup z = some o ∧ o.cls = .type "tuple" ∧ o.dict = none) (h : PE X e (tBM X.K "tuple" (fun x ys H Q => ∃ p, ∃ ws : List Str, ∃ z j, x = .ref p ∧ ys = [.str z] ∧ SqT X.K H p (ws.map V.str) ∧ ws[j]? = some z ∧ (∀ m, m < j → ws[m]? ≠ some z) ∧ Q (.int (j : Nat)) H) (tC (.ref z)) (tCons (tE X.K c1 f) tNil))) :
    PE X e (tE X.K c (eIdxG xs f)) := pe_w h fun _ _ _ q => tup_index_run hz ht q
/-- the tuple itself, walked -/
def iG (xs : List Str) : En → Option (List PyData) := fun _ => some (xs.map .str)
theorem wk_tupK {z : Addr} {xs : List Str} (hz : KTup K z xs) {S : Addr → Prop} : Wk K (Itt K z) (fun _ => True) S (xs.map PyData.str) where
  go := fun i H _ h => ⟨xs.map V.str, (xs.map V.str)[i]'(by simpa using h), hz.sq, by rw [List.getElem?_eq_getElem]⟩
  yld := fun i H d v H' _ h ⟨e, y⟩ => by
    subst e
    exact ⟨Same.refl _, (RpA.strs (K := K) (S := S) (H := H') xs).at h (y _ hz.sq)⟩
  stop := fun i H _ h => ⟨xs.map V.str, hz.sq, by simpa using h⟩
theorem ci_G {z : Addr} {xs : List Str} (hz : KTup X.K z xs) (h : PE X iter (tC (.ref z))) : PI X tg iter (tI X.K c (iG xs)) := pi_w (pi_tup h) fun σ H R ⟨S0, H0, A, env, ds, E, hf, q⟩ => by
  cases hf
  exact ⟨z, rfl, ⟨_, hz.sq⟩, q _ H _ (Same.refl H) (fun _ _ => trivial) (fun _ _ _ => trivial) (wk_tupK hz)⟩
end
end Mir
namespace Mir
open PySem PySem.Spec PyProof.Rows L2
section
variable {X : Cx} {K : PySem.W.Frag}
def gtU (x y : PyData) : Option PyData := if ltOk x y = true then some (.bool (PySem.W.dataLt y x)) else none
def rGtU (K : PySem.W.Frag) : R2 := fun x y H Q => ∃ S S' d e, Rp K S H d x ∧ Rp K S' H e y ∧ ltOk d e = true ∧ Q (.bl (PySem.W.dataLt e d)) H
theorem op_gtU (hu : X.A.units + 64 < cLine) : OpR X (compareOp .Gt) (rGtU X.K) := by
  intro pins s σ H x y v u Q I rx ry h
  obtain ⟨S, S', d, e, r1, r2, ok, q⟩ := h
  unfold ltOk at ok
  rw [Bool.and_eq_true, Bool.and_eq_true, Bool.and_eq_true, Bool.and_eq_true] at ok
  obtain ⟨⟨⟨⟨n1, n2⟩, al⟩, nn⟩, dp⟩ := ok
  obtain ⟨as, w1⟩ := r1.reads I n1 rx
  obtain ⟨bs, w2⟩ := r2.reads I n2 ry
  refine PySem.W.gt_data w1 w2 al (fun z => by rw [z] at nn; exact absurd nn Bool.false_ne_true) ?_ ⟨.bl _, H, I, rfl, q⟩
  have := of_decide_eq_true dp
  have := Nat.min_le_left d.depth e.depth
  omega
theorem r2_gtU : R2Ok K true (rGtU K) gtU := by
  intro S S' H x y dx dy d Q hn hS rx ry h q
  unfold gtU at h
  split at h
  · rename_i hk
    cases h
    exact ⟨_, _, dx, dy, rx, ry, hk, q _ H (Same.refl H) rpb⟩
  · cases h
end
end Mir

/-! Exc4: isinstance(e, T) of the exception that a suite holds -/
namespace Mir
open PySem PySem.Spec PyProof.Rows L2
/-- what the written part says of the class, for isinstance -/
structure KitEx (K : PySem.W.Frag) (C : Addr) : Prop where
  cl : (PySem.W.clsIn K C).isSome = true
  ha : PySem.W.findIn K (.ref C) "__class__" = some (some (.builtin "object.__class__"))
  hn : PySem.W.specialIn K (.builtin "object.__class__") "__get__" = some (some (.builtin "getset_descriptor.__get__"))
  tk : PySem.W.takesIn K (.builtin "object.__class__") = some true
  hm : PySem.W.mroIn K C (.type "object") = some true
section
variable {X : Cx} {C fI : Addr} {e b : Expr} {pos p : Pos} {c : Bool}
def rIsiEx (K : PySem.W.Frag) (C a : Addr) (dx : Option Addr) : List V → Hp → VK → Prop := fun xs H Q => ∃ (cv : V) (u : Value) (dd : Addr) (v : V), xs = [.ref a, cv] ∧ ClsV cv u ∧ PySem.W.kitOne K (.ref C) u = some true ∧ dx = some dd ∧ H dd = some (xdW v) ∧ Q (.bl true) H
theorem call_isiEx {a : Addr} {oe : Obj} {cls : Value} {dx : Option Addr} {pn : List (Addr × Obj)} (T : PySem.RfX.RfTxt X.prog X.K X.mg C fI) (KX : KitEx X.K C) (hz : Zc cls dx oe) (hf : ∃ vs, oe.data = .fields vs) (h1 : cls = .ref C) :
    CallR (X.suite a ((a, oe) :: pn)) (.builtin "isinstance") (rIsiEx X.K C a dx) := by
  intro pins s σ H xs us Q I r h
  obtain ⟨cv, u, dd, v, rfl, k, kt, ed, ea, q⟩ := h
  obtain ⟨u1, u2, rfl, r1, r2⟩ := vals2 r
  cases (show u1 = Value.ref a from r1)
  have e2 := k.eq r2
  subst e2
  subst h1
  subst ed
  obtain ⟨hp, _⟩ := I.pin (a, oe) (List.mem_append_left _ List.mem_cons_self)
  obtain ⟨vs, hd⟩ := hf
  have hx : ObjOk X.prog X.w H s.heap dd (xdW v) := I.hok dd _ ea
  obtain ⟨mA, hns, hr⟩ := hx
  obtain ⟨od, ho, hl⟩ := lookIn_ns hns
  have J : PySem.W.InstAt s.heap a oe C (some od) := ⟨hp, hz.1, by unfold PySem.W.notCls; rw [hd] <;> rfl, by rw [hz.2]; exact ho⟩
  exact PySem.W.kia_one (PySem.W.kitx_exc KX.cl T.ga T.gg T.exC KX.ha KX.hn KX.tk KX.hm) I.kIn J kt (fun z => nomatch z) fun tk => ⟨.bl true, H, I.tok tk, rfl, q⟩
def eIsiEx (i : Nat) (a dd : Addr) : En → Option PyData := fun env => match env[i]? with
  | some (.exc a' dd' _) => if a' = a ∧ dd' = dd then some (.bool true) else none
  | _ => none
theorem ce_isiEx {i : Nat} {a dd : Addr} {dx : Option Addr} {cv : V} {u : Value} (h2 : dx = some dd) (ck : ClsV cv u) (kt : PySem.W.kitOne X.K (.ref C) u = some true) (he : PE X e (tCB (rIsiEx X.K C a dx) (tCons (tVar i) (tCons (tC cv) tNil)))) : PE X e (tE X.K c (eIsiEx i a dd)) := pe_w he fun σ H Q ⟨S0, H0, A, env, d, E, hd, q⟩ => by
  unfold eIsiEx at hd
  split at hd
  · rename_i a' dd' d' hi
    split at hd
    · rename_i hh
      cases hd
      obtain ⟨rfl, rfl⟩ := hh
      rcases E.sl i _ hi with z | ⟨v, k1, rfl, w, k2, k3⟩
      · cases z
      exact ⟨_, k1, cv, u, dd', w, rfl, ck, kt, h2, k2, q _ H (Same.refl H) rpb⟩
    · cases hd
  · cases hd
end
end Mir

/-! Mir15: min(xs, key=def, default=d); two for in a comprehension -/
namespace Mir
open PySem PySem.Spec PyProof.Rows L2
section
variable {pg : Program} {wd : World} {Ar : Around} {fd S I : Addr} {Rs : Result → Shared → Prop}
theorem args_keyD (a v w : Value) : argsOk "min" ⟨[a], [(Str.ofString "key", v), (Str.ofString "default", w)]⟩ := by unfold argsOk; kernel_rfl
theorem least_none {key d : Value} {x : Str} {r : List (Str × Value)} {s : Shared} {c : Nat} (hS : s.heap.get? S = some { cls := .type "list", dict := none, data := .seq #[] c, slots := #[] })
    (hd : ∀ (Qx : Option Value → Shared → Prop) (Ex : Value → Shared → Prop), (∀ t, Rs (.ok (.ret d)) t → Qx none t) → wpAny (model pg wd) Ar.in1 (pyNext (.ref I)) Qx Ex s) :
    codeAny (model pg wd) Ar (.builtin "min.loop" ⟨[.ref I, key, .ref S], (x, d) :: r⟩) Rs s := by
  refine codeAny_builtin F.entry_min_loop ?_
  rw [Around.under_plainId F.plain_min_loop _]
  show wpAny _ Ar.in1 (seqItems? (.ref S) >>= _) _ _ s
  refine wpAny_bind (wpAny_seqItems hS rfl ?_)
  show wpAny _ Ar.in1 (tryCatch (pyNext (.ref I)) _ >>= _) _ _ s
  refine wpAny_bind (wpAny_tryCatch (hd _ _ fun s' hm => ?_))
  show wpAny _ Ar.in1 (rule _ >>= _) _ _ _
  exact wpAny_bind (wpAny_rule (wpAny_pure hm))
theorem call_leastD {x dv : Value} {Qx : Value → Shared → Prop} {Ex : Value → Shared → Prop} {s : Shared}
    (h : wpAny (model pg wd) Ar.in1 (pyIter x) (fun it t => ∃ I, it = .ref I ∧ ((∃ len C0 D0 Cj Ej Bk, 0 < len ∧ LeastRun pg wd Ar.in1 fd t.heap.objs.size I len C0 D0 Cj Ej Bk ∧
      C0 { t with heap := t.heap.push { cls := .type "list", data := .seq #[] 0 }, toks := t.toks } ∧ ∀ b' t', Ej t' b' → Qx b' t') ∨
      (∀ (Qy : Option Value → Shared → Prop) (Ey : Value → Shared → Prop) (o : Obj), (t.heap.push { cls := .type "list", data := .seq #[] 0 }).get? t.heap.objs.size = some o → (∀ t', Qx dv t' → Qy none t') → wpAny (model pg wd) Ar.in1 (pyNext (.ref I)) Qy Ey { t with heap := t.heap.push { cls := .type "list", data := .seq #[] 0 }, toks := t.toks }))) Ex s) :
    wpAny (model pg wd) Ar (call (.builtin "min") [x] [(Str.ofString "key", .ref fd), (Str.ofString "default", dv)]) Qx Ex s := by
  refine PyProof.Rows.kmk_tree F.kind_min F.plain_min F.entry_min (args_keyD _ _ _) ?_
  refine wpAny_bind (wpAny_of_eq (show Builtin.Builtins.bindParams "min" ["key", "default"] 0 ⟨[], [(Str.ofString "key", Value.ref fd), (Str.ofString "default", dv)]⟩ = pure [some (Value.ref fd), some dv] from rfl) ?_)
  refine wpAny_bind (wpAny_pure ?_)
  refine wpAny_bind (wpAny_mono h (fun it t ht => ?_) fun _ _ z => z)
  obtain ⟨I, rfl, ht⟩ := ht
  refine wpAny_bind (wpAny_newObj_type ?_)
  rw [nm_loop]
  refine wpAny_pure ⟨plainId_quiet F.plain_min_loop _, ?_⟩
  rcases ht with ⟨len, C0, D0, Cj, Ej, Bk, hn, L, hC, hQ⟩ | hd
  · exact least_first L _ hn hC (Heap.get?_push_size _ rfl) hQ
  · exact least_none (Heap.get?_push_size _ rfl) fun Qy Ey hq => hd Qy Ey _ (Heap.get?_push_size _ rfl) hq
end
section
variable {X : Cx} {k : Nat} {f : Addr} {fd : FuncData} {ps : List Str} {g : List PyData → Option PyData} {pins : List (Addr × Obj)} {σ : L2.St} {H H1 : Hp} {s : Shared} {S I l : Addr} {i : Nat}
def rMinKD (X : Cx) (f : Addr) (g : List PyData → Option PyData) : List V → List V → Hp → VK → Prop := fun vs zs H Q => ∃ a xs U qs y, vs = [.ref a] ∧ zs = [.ref f, y] ∧ SqL X.K H a xs ∧ RpA X.K U H (qs.map (·.1)) xs ∧ (∀ q ∈ qs, g [q.1] = some q.2) ∧ keysOk qs ∧ (qs = [] → Q y H) ∧
  ∀ v H', 0 < qs.length → Same H H' → Rp X.K U H' (bestK qs (qs.length - 1)).1 v → Q v H'
theorem call_minKD (F : FnOk X.prog X.w X.K X.mg X.base CX0 k f fd ps (spF X.K g)) (hr : Room (k + 1) X.A) (hb : Binds X.K fd ps []) : CallRK X (.builtin "min") [Str.ofString "key", Str.ofString "default"] (rMinKD X f g) := by
  intro pins s σ H vs zs us ws Q I0 r rz h
  obtain ⟨l, xs, U, qs, yd, rfl, rfl, hl, ra, hg, ⟨k1, k2⟩, q0, q⟩ := h
  obtain ⟨its, rv, hls, _⟩ := I0.list hl
  rw [Vals.ref1 r]
  obtain ⟨ud, rfl, rud⟩ : ∃ ud, ws = [.ref f, ud] ∧ RelV yd ud := by
    cases rz with
    | cons r1 r2 =>
      cases r2 with
      | cons r3 r4 =>
        cases r4
        cases r1
        exact ⟨_, rfl, r3⟩
  have hh := hr.hd
  have lq : xs.length = qs.length := by rw [ra.length, List.length_map]
  have item : ∀ {H1 : Hp} {i : Nat} {xv : V}, Same H H1 → xs[i]? = some xv → Rp X.K U H1 (qs.getD i (.none, .none)).1 xv ∧ qs.getD i (.none, .none) ∈ qs := fun {H1 i xv} s1 e => by
    have hi : i < qs.length := by
      obtain ⟨z, _⟩ := List.getElem?_eq_some_iff.mp e
      omega
    rw [List.getD_eq_getElem?_getD, List.getElem?_eq_getElem hi]
    obtain ⟨v, e1, r1⟩ := ra.get (i := i) (d := qs[i].1) (by rw [List.getElem?_map, List.getElem?_eq_getElem hi]; rfl)
    rw [e] at e1; cases e1
    exact ⟨r1.grow s1, List.getElem_mem hi⟩
  refine call_leastD (x := .ref l) (fd := f) (dv := ud) ?_
  refine PySem.W.iter_listW (A := X.A.in1) hh hls.isList fun t et W st hfp hw hk => ?_
  have I1 : Inv X pins σ H t := by rw [et]; exact I0.kept (t' := s.toks) fun b o e => Heap.get?_push_of_some _ e
  have szs : s.heap.objs.size + 1 = t.heap.objs.size := by rw [et]; exact (Heap.size_push ..).symm
  have fne : ¬ t.heap.objs.size = s.heap.objs.size := fun z => by have z' : (t.heap.objs.size : Nat) = s.heap.objs.size := z; omega
  have M0 : Mid X pins σ H t.heap.objs.size s.heap.objs.size l 0 H { t with heap := t.heap.push { cls := .type "list", data := .seq #[] 0 }, toks := t.toks } := by
    refine ⟨I1.kept (t' := t.toks) fun b o e => Heap.get?_push_of_some _ e, Same.refl H, I1.fpOk (Nat.le_refl _) (I1.hok.fresh (Nat.le_refl _)), I0.fpOk (Nat.le_refl _) (I0.hok.fresh (Nat.le_refl _)), fne, ?_⟩
    obtain ⟨o, e, z⟩ := st.1
    exact ⟨o, Heap.get?_push_of_some _ e, z⟩
  rcases Nat.eq_zero_or_pos qs.length with hz | hn
  · refine ⟨s.heap.objs.size, rfl, .inr fun Qx Ex o hS hq => M0.draw hh hl (Nat.zero_le _) hS (fun x xv t' e1 => ?_) fun _ t' I2 _ => hq t' ⟨yd, H, I2, rud, q0 (List.eq_nil_of_length_eq_zero hz)⟩⟩
    rw [List.getElem?_eq_none (by omega)] at e1; cases e1
  refine ⟨s.heap.objs.size, rfl, .inl ?_⟩
  refine ⟨qs.length, fun s' => ∃ H1, Mid X pins σ H t.heap.objs.size s.heap.objs.size l 0 H1 s', fun s' x => ∃ H1 xv, Mid X pins σ H t.heap.objs.size s.heap.objs.size l 1 H1 s' ∧ RelV xv x ∧ xs[0]? = some xv,
    fun j s' b kb => ∃ H1 bv kv, Mid X pins σ H t.heap.objs.size s.heap.objs.size l (j + 1) H1 s' ∧ RelV bv b ∧ RelV kv kb ∧ j < qs.length ∧ Rp X.K U H1 (bestK qs j).1 bv ∧ Rp X.K (fun _ => True) H1 (bestK qs j).2 kv,
    fun s' b => ∃ H1 bv, Inv X pins σ H1 s' ∧ Same H H1 ∧ FpOk X pins H1 t.heap.objs.size ∧ RelV bv b ∧ Rp X.K U H1 (bestK qs (qs.length - 1)).1 bv,
    fun j s' b kb x => ∃ H1 bv kv xv, Mid X pins σ H t.heap.objs.size s.heap.objs.size l (j + 2) H1 s' ∧ RelV bv b ∧ RelV kv kb ∧ RelV xv x ∧ xs[j + 1]? = some xv ∧ Rp X.K U H1 (bestK qs j).1 bv ∧ Rp X.K (fun _ => True) H1 (bestK qs j).2 kv, hn,
    { put := ?_, putE := ?_, draw0 := ?_, first := ?_, draw := ?_, stop := ?_, next := ?_ }, ?_, ?_⟩
  · rintro j s' b kb up ⟨H1, bv, kv, M, z⟩
    exact ⟨H1, bv, kv, M.put up, z⟩
  · rintro s' b up ⟨H1, bv, I2, s2, fS, z⟩
    obtain ⟨f0, f1, f2, f3, f4, f5⟩ := id fS
    exact ⟨H1, bv, I2.turned (fun b o hb e => (Heap.get?_update_other _ _ (Ne.symm hb)).trans e) f0 f1 f3 f4 f5, s2, fS, z⟩
  · rintro s' o Qx Ex ⟨H1, M⟩ hS hq
    refine M.draw hh hl (Nat.zero_le _) hS (fun x xv t' e1 r1 M1 S1 => hq x t' ⟨H1, xv, M1, r1, e1⟩ S1) fun e => absurd e (by omega)
  · rintro s' x o Qx Ex ⟨H1, xv, M, rx, e1⟩ hS no hq
    obtain ⟨r1, m1⟩ := item M.same e1
    refine M.call F hr hb rx r1 (hg _ m1) hS no fun kx t' H2 kv M2 s2 rk r2 S2 => hq kx t' ⟨H2, xv, kv, M2, rx, rk, hn, r1.grow s2, r2⟩ S2
  · rintro j s' b kb o Qx Ex hj ⟨H1, bv, kv, M, rb, rk, hj', r1, r2⟩ hS hq
    exact M.draw hh hl (by omega) hS (fun x xv t' e1 rx M1 S1 => hq x t' ⟨H1, bv, kv, xv, M1, rb, rk, rx, e1, r1, r2⟩ S1) fun e => absurd e (by omega)
  · rintro j s' b kb o Qx Ex hj ⟨H1, bv, kv, M, rb, rk, hj', r1, r2⟩ hS hq
    refine M.draw hh hl (by omega) hS (fun x xv t' e1 => ?_) fun _ t' I2 S2 => hq t' ⟨H1, bv, I2, M.same, M.fS, rb, ?_⟩ S2
    · rw [List.getElem?_eq_none (by omega)] at e1; cases e1
    · rw [show qs.length - 1 = j by omega]; exact r1
  · rintro j s' b kb x o Qx Ex hj ⟨H1, bv, kv, xv, M, rb, rk, rx, e1, r1, r2⟩ hS no hq
    obtain ⟨ri, mi⟩ := item M.same e1
    refine M.call F hr hb rx ri (hg _ mi) hS no fun kx t' H2 kxv M2 s2 rkx rkd S2 => hq kx t' S2 fun Qy Ey hy => ?_
    have mb : bestK qs j ∈ qs := bestK_mem (by omega)
    obtain ⟨⟨y1, y2⟩, y3⟩ := (k1 _ mi).imp_left fun z => by simpa [keyOk] using z
    obtain ⟨⟨y4, y5⟩, y6⟩ := (k1 _ mb).imp_left fun z => by simpa [keyOk] using z
    obtain ⟨as1, w1⟩ := rkd.reads M2.inv y1 rkx
    obtain ⟨as2, w2⟩ := (r2.grow s2).reads M2.inv y4 rk
    refine PySem.W.rcLt_alike _ _ X.A.in1 t' kx kb _ _ w1 w2 (k2 _ mi _ mb) y3 ?_ X.prog X.w Ey Qy (hy _ (fun e => ?_) fun e => ?_)
    · have := hr.un
      have := Nat.min_le_left (qs.getD (j + 1) (PyData.none, PyData.none)).2.depth (bestK qs j).2.depth
      show X.A.units + 1 + _ < _
      omega
    · have eb : bestK qs (j + 1) = qs.getD (j + 1) (.none, .none) := by unfold bestK stK; rw [if_pos e]
      exact ⟨H2, xv, kxv, M2, rx, rkx, hj, by rw [eb]; exact ri.grow s2, by rw [eb]; exact rkd⟩
    · have eb : bestK qs (j + 1) = bestK qs j := by
        show stK _ _ = _
        unfold stK; rw [if_neg (by rw [e]; exact Bool.false_ne_true)]
      exact ⟨H2, bv, kv, M2, rb, rk, hj, by rw [eb]; exact r1.grow s2, by rw [eb]; exact r2.grow s2⟩
  · exact ⟨H, M0⟩
  · rintro b' t' ⟨H1, bv, I2, s2, _, rb, r1⟩
    exact ⟨bv, H1, I2, rb, q bv H1 hn s2 r1⟩
end
section
variable {X : Cx} {k : Nat} {f : Addr} {fd : FuncData} {ps : List Str} {gd : List PyData → Option PyData} {e : Expr} {c c1 : Bool} {fe fy : En → Option PyData}
def eMinKD (g : List PyData → Option PyData) (f fy : En → Option PyData) : En → Option PyData := fun env => match f env with
  | some (.list ds) => match keysD g ds with
    | some qs => if keysB qs = true then (if qs.length = 0 then fy env else match fy env with | some _ => some (bestK qs (qs.length - 1)).1 | none => none) else none
    | none => none
  | _ => none
theorem ce_minKD (h : PE X e (tCKw (rMinKD X f gd) (tCons (tE X.K true fe) tNil) (tCons (tC (.ref f)) (tCons (tE X.K true fy) tNil)))) : PE X e (tE X.K true (eMinKD gd fe fy)) := pe_w h fun σ H Q ⟨S0, H0, A, env, d, E, hf, q⟩ => by
  unfold eMinKD at hf
  split at hf
  · rename_i ds hd
    split at hf
    · rename_i qs hq
      split at hf
      · rename_i hk
        refine ⟨S0, H0, A, env, _, E, hd, fun v H1 s r => ?_⟩
        rw [Rp] at r
        obtain ⟨a, xs, rfl, hs, ra⟩ := r
        obtain ⟨m1, m2⟩ := keysD_spec hq
        obtain ⟨y, hy⟩ : ∃ y, fy env = some y := by
          split at hf
          · exact ⟨_, hf⟩
          · split at hf
            · rename_i y hy; exact ⟨y, hy⟩
            · cases hf
        refine ⟨S0, H0, A, env, y, E.grow s, hy, fun yv H2 s2 ry => ?_⟩
        refine ⟨a, xs, _, qs, yv, rfl, rfl, s2.seq hs.sq, by rw [m1]; exact ra.grow s2, m2, keysB_ok hk, fun hz => ?_, fun v H3 hn s3 r3 => ?_⟩
        · have hz' : qs.length = 0 := by rw [hz]; rfl
          rw [if_pos hz', hy] at hf
          cases hf
          exact q yv H2 (s.trans s2) ry
        · rw [if_neg (by omega), hy] at hf
          cases hf
          exact q v H3 ((s.trans s2).trans s3) r3
      · cases hf
    · cases hf
  · cases hf
end
/-! [elt for tg in iter if .. for tg1 in iter1 if ..] -/
def ownF (e : En) : Bool := e.all fun s => !ow s
def compF2 (g : PyData → En → Option En) (ga : En → Option Bool) (f1 : En → Option (List PyData)) (is1 : List Nat) (g1 : PyData → En → Option En) (ga1 : En → Option Bool) (fe : En → Option PyData) (env : En) : List PyData → Option (List PyData)
  | [] => some []
  | d :: ds => match g d env with
    | none => none
    | some e1 => match ga e1 with
      | none => none
      | some false => compF2 g ga f1 is1 g1 ga1 fe env ds
      | some true => if ownF e1 = true then (match f1 e1 with
        | none => none
        | some ds1 => match compF g1 ga1 fe (wipeE e1 is1) ds1 with
          | none => none
          | some r1 => match compF2 g ga f1 is1 g1 ga1 fe env ds with
            | none => none
            | some r2 => some (r1 ++ r2)) else none
def fCmp2 (is : List Nat) (f : En → Option (List PyData)) (g : PyData → En → Option En) (ga : En → Option Bool) (is1 : List Nat) (f1 : En → Option (List PyData)) (g1 : PyData → En → Option En) (ga1 : En → Option Bool) (fe : En → Option PyData) : En → Option (List PyData) := fun env => match f env with
  | some ds => match compF2 g ga f1 is1 g1 ga1 fe (wipeE env is) ds with
    | some vs => if vs.length ≤ 1000000 then some vs else none
    | none => none
  | none => none
section
variable {X : Cx} {K : PySem.W.Frag} {S0 S : Addr → Prop} {H0 H H' : Hp} {A : Addr → Prop} {σ : L2.St} {env : En} {e : Expr}
/-- an environment that owns nothing stands when the list at D grows -/
theorem EnvOk.keepD {D : Addr} {acc acc' : List V} (E : EnvOk K S0 H0 A H σ env) (hf : ownF env = true) (hA : A D) (h1 : H D = some (.lst acc)) (h2 : H' D = some (.lst acc')) (fr : Fr (fun a => a = D) H H') : EnvOk K S0 H0 A H' σ env := by
  have hL : ∀ a xs, Cl S0 H0 A a → Rd H a (.lst xs) → Cl S0 H0 A a ∧ Rd H' a (.lst xs) := fun a xs z r => by
    have ne : ¬ a = D := fun q => z.2 (q ▸ hA)
    refine ⟨z, ?_⟩
    rcases r with r | ⟨o, r⟩
    · exact .inl (fr a _ r ne)
    · exact .inr ⟨o, fr a _ r ne⟩
  have hT : ∀ a xs, H a = some (.tup xs) → H' a = some (.tup xs) := fun a xs r => fr a _ r fun q => by rw [q, h1] at r; cases r
  have hD : ∀ a u, fz u = true → H a = some u → H' a = some u := fun a u z r => fr a _ r fun q => by
    rw [q, h1] at r
    cases r
    exact fz_mut z rfl
  refine ⟨E.len, fun i s hi => ?_, E.dis, fun a ha => ?_, E.nw, fun a o h => ?_⟩
  · rcases E.sl i s hi with z | ⟨v, k1, k2⟩
    · exact .inl z
    · refine .inr ⟨v, k1, ?_⟩
      have no : ow s = false := by
        unfold ownF at hf
        rw [List.all_eq_true] at hf
        simpa using hf s (List.mem_of_getElem? hi)
      cases s with
      | un => trivial
      | val d => exact Rp.mono hL hT hD d v k2
      | own ds => cases no
      | ownT ds => cases no
      | ownK ds => cases no
      | exc a dd d =>
        obtain ⟨e1, u, hh, r⟩ := k2
        exact ⟨e1, u, hD _ _ rfl hh, Rp.mono hL hT hD _ _ r⟩
      | fn a => exact k2
  · by_cases q : a = D
    · exact ⟨_, by rw [q]; exact h2, rfl⟩
    · obtain ⟨u, k1, k2⟩ := E.tr a ha
      exact ⟨u, fr a _ k1 q, k2⟩
  · have hz := E.nw D hA
    exact fr a _ (E.same a o h) fun q => by rw [q, hz] at h; cases h
theorem wipe_sub {σ1 σ2 : L2.St} {isT is : List Nat} (hs : ∀ i ∈ isT, i ∈ is) (h : L2.wipe σ2 isT = L2.wipe σ1 isT) : L2.wipe σ2 is = L2.wipe σ1 is := by
  have hl : σ2.length = σ1.length := by
    have := congrArg List.length h
    rw [wipe_length, wipe_length] at this
    exact this
  apply List.ext_getElem?
  intro i
  rw [wipe_get, wipe_get]
  by_cases q : i ∈ is
  · rw [if_pos q, if_pos q]
    by_cases k : i < σ1.length
    · rw [List.getElem?_eq_getElem k, List.getElem?_eq_getElem (by omega)]
      rfl
    · rw [List.getElem?_eq_none (by omega), List.getElem?_eq_none (by omega)]
  · rw [if_neg q, if_neg q]
    have e := congrArg (fun l => l[i]?) h
    simp only [wipe_get] at e
    rw [if_neg (fun z => q (hs i z)), if_neg (fun z => q (hs i z))] at e
    exact e
theorem lc2_run {c c2 : Bool} {f f1 : En → Option (List PyData)} {g g1 : PyData → En → Option En} {ga ga1 : En → Option Bool} {fe : En → Option PyData} {isT is is1 : List Nat} {tt tt1 : TT} {Q : VK} (hsub : ∀ i ∈ isT, i ∈ is) (ht : ∀ σ H Q, tT K ga σ H Q → tt σ H Q) (ht1 : ∀ σ H Q, tT K ga1 σ H Q → tt1 σ H Q)
    (h : tF K c2 (fCmp2 is f g ga is1 f1 g1 ga1 fe) σ H Q) : tLc2 (tI K c f) (tG K isT g) tt (tI K true f1) (tG K is1 g1) tt1 (tE K true fe) is is1 σ H Q := by
  obtain ⟨S0, H0, A, env, res, E, hf, q⟩ := h
  unfold fCmp2 at hf
  cases hd : f env with
  | none => rw [hd] at hf; cases hf
  | some ds =>
    simp only [hd] at hf
    cases hc : compF2 g ga f1 is1 g1 ga1 fe (wipeE env is) ds with
    | none => simp only [hc] at hf; cases hf
    | some vs =>
      simp only [hc] at hf
      split at hf
      · rename_i hlen
        cases hf
        refine ⟨S0, H0, A, env, ds, E, hd, fun J H1 G s gS _ wk D hD => ?_⟩
        have E1 := E.grow s
        refine ⟨fun i m H2 => m = ds.length - i ∧ i ≤ ds.length ∧ Same H1 H2 ∧ ∃ acc accD rest, H2 D = some (.lst acc) ∧ RpA K (fun a => Cl S0 H0 A a ∧ a ≠ D) H2 accD acc ∧ compF2 g ga f1 is1 g1 ga1 fe (wipeE env is) (ds.drop i) = some rest ∧ accD ++ rest = res,
          ⟨_, rfl, Nat.zero_le _, same_new hD, [], [], res, upd_same, RpA.nil, hc, rfl⟩, ?_⟩
        rintro i m H2 ⟨rfl, hi, s2, acc, accD, rest, hacc, racc, hrest, hres⟩
        by_cases hlt : i < ds.length
        · have hdr : ds.drop i = ds[i] :: ds.drop (i + 1) := List.drop_eq_getElem_cons hlt
          rw [hdr] at hrest
          refine .inr ⟨wk.go i H2 (gS H2 s2) hlt, fun H3 => Same H1 H3 ∧ ∃ acc accD rest, H3 D = some (.lst acc) ∧ RpA K (fun a => Cl S0 H0 A a ∧ a ≠ D) H3 accD acc ∧ compF2 g ga f1 is1 g1 ga1 fe (wipeE env is) (ds.drop (i + 1)) = some rest ∧ accD ++ rest = res, ?_, fun x Hx y => ?_⟩
          · rintro H3 ⟨s3, z⟩
            exact ⟨ds.length - (i + 1), by omega, rfl, hlt, s3, z⟩
          · obtain ⟨sx, rx⟩ := wk.yld i H2 _ x Hx (gS H2 s2) (List.getElem?_eq_getElem hlt) y
            have E2 : EnvOk K S0 H0 (fun a => A a ∨ a = D) Hx (L2.wipe σ is) (wipeE env is) := (E1.wipe is).add (s2.trans sx) hD (sx _ _ hacc)
            have rx' : Rp K (Cl S0 H0 (fun a => A a ∨ a = D)) Hx ds[i] x := rx.wide fun a z => ⟨z.1.1, fun y => by
              rcases y with k | k
              · exact z.1.2 k
              · exact z.2 (by rw [k]; exact hD)⟩
            simp only [compF2] at hrest
            cases hg : g ds[i] (wipeE env is) with
            | none => rw [hg] at hrest; cases hrest
            | some e1 =>
              simp only [hg] at hrest
              refine ⟨S0, H0, _, _, _, e1, E2, rx', hg, fun σ2 E3 w3 => ⟨by rw [wipe_sub hsub w3, wipe_wipe], ht _ _ _ ?_⟩⟩
              cases hga : ga e1 with
              | none => simp only [hga] at hrest; cases hrest
              | some k =>
                refine ⟨S0, H0, _, e1, k, E3, hga, fun H3 s3 => ?_⟩
                cases k with
                | false =>
                  simp only [hga] at hrest
                  exact iteF ⟨(s2.trans sx).trans s3, acc, accD, rest, s3 _ _ (sx _ _ hacc), (racc.grow sx).grow s3, hrest, hres⟩
                | true =>
                  simp only [hga] at hrest
                  by_cases how : ownF e1 = true
                  · rw [if_pos how] at hrest
                    cases hf1 : f1 e1 with
                    | none => simp only [hf1] at hrest; cases hrest
                    | some ds1 =>
                      simp only [hf1] at hrest
                      cases hr1 : compF g1 ga1 fe (wipeE e1 is1) ds1 with
                      | none => simp only [hr1] at hrest; cases hrest
                      | some r1 =>
                        simp only [hr1] at hrest
                        cases hr2 : compF2 g ga f1 is1 g1 ga1 fe (wipeE env is) (ds.drop (i + 1)) with
                        | none => simp only [hr2] at hrest; cases hrest
                        | some r2 =>
                          simp only [hr2] at hrest
                          cases hrest
                          refine iteT ⟨S0, H0, _, e1, ds1, E3.grow s3, hf1, fun J1 H4 G1 s4 _ gF1 wk1 => ?_⟩
                          have E4 := (E3.grow s3).grow s4
                          have h4D := s4 _ _ (s3 _ _ (sx _ _ hacc))
                          have s14 : Same H1 H4 := ((s2.trans sx).trans s3).trans s4
                          refine ⟨fun j k H5 => k = ds1.length - j ∧ j ≤ ds1.length ∧ Fr (fun a => a = D) H4 H5 ∧ ∃ acc accD rest, H5 D = some (.lst acc) ∧ RpA K (fun a => Cl S0 H0 A a ∧ a ≠ D) H5 accD acc ∧ compF g1 ga1 fe (wipeE e1 is1) (ds1.drop j) = some rest ∧ accD ++ rest ++ r2 = res,
                            ⟨_, rfl, Nat.zero_le _, Fr.refl, acc, accD, r1, h4D, ((racc.grow sx).grow s3).grow s4, hr1, by rw [List.append_assoc]; exact hres⟩, ?_⟩
                          rintro j k H5 ⟨rfl, hj, f5, acc5, accD5, rest5, hacc5, racc5, hrest5, hres5⟩
                          have g5 : G1 H5 := gF1 rfl H5 fun a o h n => f5 a o h fun z => n (.inr z)
                          by_cases hlt1 : j < ds1.length
                          · have hdr1 : ds1.drop j = ds1[j] :: ds1.drop (j + 1) := List.drop_eq_getElem_cons hlt1
                            rw [hdr1] at hrest5
                            refine .inr ⟨wk1.go j H5 g5 hlt1, fun H6 => Fr (fun a => a = D) H4 H6 ∧ ∃ acc accD rest, H6 D = some (.lst acc) ∧ RpA K (fun a => Cl S0 H0 A a ∧ a ≠ D) H6 accD acc ∧ compF g1 ga1 fe (wipeE e1 is1) (ds1.drop (j + 1)) = some rest ∧ accD ++ rest ++ r2 = res, ?_, fun x1 Hy y1 => ?_⟩
                            · rintro H6 ⟨s6, z⟩
                              exact ⟨ds1.length - (j + 1), by omega, rfl, hlt1, s6, z⟩
                            · obtain ⟨sy, ry⟩ := wk1.yld j H5 _ x1 Hy g5 (List.getElem?_eq_getElem hlt1) y1
                              have E5 := ((E4.keepD how (.inr rfl) h4D hacc5 f5).grow sy).wipe is1
                              simp only [compF] at hrest5
                              cases hg1 : g1 ds1[j] (wipeE e1 is1) with
                              | none => rw [hg1] at hrest5; cases hrest5
                              | some e2 =>
                                simp only [hg1] at hrest5
                                refine ⟨S0, H0, _, _, _, e2, E5, ry.wide fun a z => z.1, hg1, fun σ3 E6 w6 => ⟨by rw [w6, wipe_wipe], ht1 _ _ _ ?_⟩⟩
                                cases hga1 : ga1 e2 with
                                | none => simp only [hga1] at hrest5; cases hrest5
                                | some k1 =>
                                  refine ⟨S0, H0, _, e2, k1, E6, hga1, fun H6 s6 => ?_⟩
                                  have f6 : Fr (fun a => a = D) H4 H6 := fun a o h n => s6 _ _ (sy _ _ (f5 a o h n))
                                  cases k1 with
                                  | false =>
                                    simp only [hga1] at hrest5
                                    exact iteF ⟨f6, acc5, accD5, rest5, s6 _ _ (sy _ _ hacc5), (racc5.grow sy).grow s6, hrest5, hres5⟩
                                  | true =>
                                    simp only [hga1] at hrest5
                                    cases hfe : fe e2 with
                                    | none => simp only [hfe] at hrest5; cases hrest5
                                    | some v =>
                                      simp only [hfe] at hrest5
                                      cases hr3 : compF g1 ga1 fe (wipeE e1 is1) (ds1.drop (j + 1)) with
                                      | none => simp only [hr3] at hrest5; cases hrest5
                                      | some rest2 =>
                                        simp only [hr3] at hrest5
                                        cases hrest5
                                        refine iteT ⟨S0, H0, _, e2, v, E6.grow s6, hfe, fun y2 H7 s7 r7 => ?_⟩
                                        have h7 := s7 _ _ (s6 _ _ (sy _ _ hacc5))
                                        have r7' : Rp K (fun a => Cl S0 H0 A a ∧ a ≠ D) H7 v y2 := r7.wide fun a z => ⟨⟨(cl_sc z).1, fun k => (cl_sc z).2 (.inl k)⟩, fun k => (cl_sc z).2 (.inr k)⟩
                                        have al : acc5.length < sizeLine := by
                                          rw [racc5.length]
                                          have : accD5.length < res.length := by rw [← hres5]; simp
                                          exact Nat.lt_of_lt_of_le this (sz6 hlen)
                                        refine ⟨acc5, h7, al, fun a o h n => ?_, acc5 ++ [y2], accD5 ++ [v], rest2, upd_same, ?_, rfl, by rw [← hres5]; simp⟩
                                        · rw [upd_ne n]
                                          exact s7 _ _ (f6 a o h n)
                                        · exact RpA.updD ((((racc5.grow sy).grow s6).grow s7).append (RpA.cons r7' RpA.nil)) h7
                          · have hdr1 : ds1.drop j = [] := List.drop_eq_nil_of_le (by omega)
                            rw [hdr1] at hrest5
                            cases hrest5
                            refine .inl ⟨wk1.stop j H5 g5 (by omega), fun a o h => ?_, acc5, accD5, r2, hacc5, racc5, rfl, by rw [← hres5]; simp⟩
                            exact f5 a o (s14 a o h) fun z => by rw [z, hD] at h; cases h
                  · rw [if_neg how] at hrest
                    cases hrest
        · have hdr : ds.drop i = [] := List.drop_eq_nil_of_le (by omega)
          rw [hdr] at hrest
          cases hrest
          rw [List.append_nil] at hres
          subst hres
          exact .inl ⟨wk.stop i H2 (gS H2 s2) (by omega), q D acc H2 (s.free hD) (s.trans s2) hacc (racc.wide fun a z => ⟨fun _ => z.1, z.2⟩)⟩
      · cases hf
variable {c c2 : Bool} {f f1 : En → Option (List PyData)} {g g1 : PyData → En → Option En} {ga1 : En → Option Bool} {fe : En → Option PyData} {isT is is1 : List Nat} {st : Stmt} {i : Nat}
theorem cf_lc2 (hsub : ∀ i ∈ isT, i ∈ is) (h : PE X e (tLc2 (tI X.K c f) (tG X.K isT g) tYes (tI X.K true f1) (tG X.K is1 g1) tYes (tE X.K true fe) is is1)) : PE X e (tF X.K c2 (fCmp2 is f g tYes' is1 f1 g1 tYes' fe)) :=
  pe_w h fun _ _ _ q => lc2_run hsub (fun _ _ _ z => yes_run z) (fun _ _ _ z => yes_run z) q
theorem cf_lc2t (hsub : ∀ i ∈ isT, i ∈ is) (h : PE X e (tLc2 (tI X.K c f) (tG X.K isT g) tYes (tI X.K true f1) (tG X.K is1 g1) (tT X.K ga1) (tE X.K true fe) is is1)) : PE X e (tF X.K c2 (fCmp2 is f g tYes' is1 f1 g1 ga1 fe)) :=
  pe_w h fun _ _ _ q => lc2_run hsub (fun _ _ _ z => yes_run z) (fun _ _ _ z => z) q
theorem cs_lc2V (hsub : ∀ i ∈ isT, i ∈ is) (h : PS X st (tAsg (tLc2 (tI X.K c f) (tG X.K isT g) tYes (tI X.K true f1) (tG X.K is1 g1) tYes (tE X.K true fe) is is1) (gName i))) : PS X st (tS X.K (sSet i (eL (fCmp2 is f g tYes' is1 f1 g1 tYes' fe)))) :=
  ps_w h fun D σ H q => ce_l' (c := true) (fun _ _ _ z => lc2_run hsub (fun _ _ _ z => yes_run z) (fun _ _ _ z => yes_run z) z) (set_run q)
theorem cs_lc2Vt (hsub : ∀ i ∈ isT, i ∈ is) (h : PS X st (tAsg (tLc2 (tI X.K c f) (tG X.K isT g) tYes (tI X.K true f1) (tG X.K is1 g1) (tT X.K ga1) (tE X.K true fe) is is1) (gName i))) : PS X st (tS X.K (sSet i (eL (fCmp2 is f g tYes' is1 f1 g1 ga1 fe)))) :=
  ps_w h fun D σ H q => ce_l' (c := true) (fun _ _ _ z => lc2_run hsub (fun _ _ _ z => yes_run z) (fun _ _ _ z => z) z) (set_run q)
end
/-! list(range(..)) -/
section
variable {X : Cx} {K : PySem.W.Frag} {c : Bool} {e : Expr} {f g : En → Option PyData}
def rngOk (i j : Int) : Bool := decide (j < 1000000 ∧ -1000000 < j ∧ i < 1000000 ∧ -1000000 < i)
def fRng1 (f : En → Option PyData) : En → Option (List PyData) := fun env => match f env with
  | some (.int j) => if rngOk 0 j = true then some (rngD 0 j.toNat) else none
  | _ => none
def fRng2 (f g : En → Option PyData) : En → Option (List PyData) := fun env => match f env with
  | some (.int i) => match g env with
    | some (.int j) => if rngOk i j = true then some (rngD i (j - i).toNat) else none
    | _ => none
  | _ => none
theorem rngOk_rg {i j : Int} (h : rngOk i j = true) : RgOk i j := by
  have := of_decide_eq_true h
  exact ⟨by omega, by omega, by omega, by omega, by omega⟩
theorem rpA_rng (S : Addr → Prop) (H : Hp) (lo : Int) : ∀ ks : List Nat, RpA K S H (ks.map fun k => PyData.int (lo + (k : Nat))) (ks.map fun k => V.int (lo + (k : Nat)))
  | [] => RpA.nil
  | k :: ks => RpA.cons (by rw [Rp]) (rpA_rng S H lo ks)
theorem cf_rng1 (h : PE X e (tLstRg (tRg1 (tE X.K true f)))) : PE X e (tF X.K c (fRng1 f)) := pe_w h fun σ H Q ⟨S0, H0, A, env, d, E, hf, q⟩ => by
  unfold fRng1 at hf
  split at hf
  · rename_i j h1
    split at hf
    · rename_i ok
      cases hf
      refine ⟨S0, H0, A, env, _, E, h1, fun v H1 s1 r1 => ?_⟩
      rw [Rp] at r1
      subst r1
      refine ⟨j, rfl, rngOk_rg ok, fun p hp => q p _ _ (s1.free hp) (s1.trans (same_new hp)) upd_same ?_⟩
      unfold rngD rgV
      rw [Int.sub_zero]
      exact rpA_rng _ _ 0 _
    · cases hf
  · cases hf
theorem cf_rng2 (h : PE X e (tLstRg (tRg2 (tE X.K true f) (tE X.K true g)))) : PE X e (tF X.K c (fRng2 f g)) := pe_w h fun σ H Q ⟨S0, H0, A, env, d, E, hf, q⟩ => by
  unfold fRng2 at hf
  split at hf
  · rename_i i h1
    split at hf
    · rename_i j h2
      split at hf
      · rename_i ok
        cases hf
        refine ⟨S0, H0, A, env, _, E, h1, fun v H1 s1 r1 => ⟨S0, H0, A, env, _, E.grow s1, h2, fun u H2 s2 r2 => ?_⟩⟩
        rw [Rp] at r1 r2
        subst r1
        subst r2
        refine ⟨i, j, rfl, rfl, rngOk_rg ok, fun p hp => q p _ _ ((s1.trans s2).free hp) ((s1.trans s2).trans (same_new hp)) upd_same ?_⟩
        unfold rngD rgV
        exact rpA_rng _ _ i _
      · cases hf
    · cases hf
  · cases hf
end
end Mir

/-! Mir16: sorted(xs), the items any alike data -/
namespace Mir
open PySem PySem.Spec PyProof.Rows L2
section
variable {X : Cx} {K : PySem.W.Frag} {S : Addr → Prop} {H : Hp}
/-- no None and no tuple, or nonempty tuples alone -/
def isTup1 : PyData → Bool
  | .tuple (_ :: _) => true
  | _ => false
def isPlain : PyData → Bool
  | .none => false
  | .tuple _ => false
  | _ => true
def sortB (ds : List PyData) : Bool := ds.all (fun d => noD d && decide (d.depth ≤ 60)) && (ds.all fun d => ds.all fun e => PySem.W.alike d e) && (ds.all isTup1 || ds.all isPlain) && decide (ds.length ≤ 1000000)
def srtD (ds : List PyData) : List PyData := ds.mergeSort (PySem.W.dataLe false id)
def rSortD (K : PySem.W.Frag) : List V → Hp → VK → Prop := fun vs H Q => ∃ (a : Addr) (xs : List V) (S : Addr → Prop) (ds : List PyData), vs = [V.ref a] ∧ SqL K H a xs ∧ RpA K S H ds xs ∧ sortB ds = true ∧
  ∀ ys p, RpA K S H (srtD ds) ys → H p = none → Q (.ref p) (upd H p (.lst ys))
theorem eachZ : ∀ {ds : List PyData} {xs : List V} {us : List Value}, RpA K S H ds xs → Vals xs us → PySem.W.EachIs (fun (v : Value) (b : PyData × V) => RelV b.2 v ∧ Rp K S H b.1 b.2) us (ds.zip xs)
  | [], xs, us, h, r => by
    have e : xs = [] := List.eq_nil_of_length_eq_zero h.length
    subst e
    cases r
    exact .nil
  | d :: ds, [], us, h, r => by
    have := h.length
    simp at this
  | d :: ds, x :: xs, us, h, r => by
    rw [RpA] at h
    obtain ⟨v, r', e, h1, h2⟩ := h
    cases e
    cases r with
    | cons q1 q2 => exact .cons ⟨q1, h1⟩ (eachZ h2 q2)
theorem each_out : ∀ {bs : List (PyData × V)} {us : List Value}, PySem.W.EachIs (fun (v : Value) (b : PyData × V) => RelV b.2 v ∧ Rp K S H b.1 b.2) us bs → Vals (bs.map (·.2)) us ∧ RpA K S H (bs.map (·.1)) (bs.map (·.2))
  | [], _, h => by cases h; exact ⟨.nil, RpA.nil⟩
  | b :: bs, _, h => by
    cases h with
    | cons h1 h2 =>
      obtain ⟨k1, k2⟩ := each_out h2
      exact ⟨.cons h1.1 k1, RpA.cons h1.2 k2⟩
theorem cr_sortD (hu : X.A.units + 65 < cLine) : CallR X (.builtin "sorted") (rSortD X.K) := by
  intro pins s σ H vs us Q I r h
  obtain ⟨a, xs, S, ds, rfl, hs, ra, hb, q⟩ := h
  obtain ⟨its, rv, hl, hz⟩ := I.list hs
  obtain ⟨u, rfl, ru⟩ := vals1 r
  obtain rfl : u = Value.ref a := ru
  unfold sortB at hb
  simp only [Bool.and_eq_true, List.all_eq_true, Bool.or_eq_true] at hb
  obtain ⟨⟨⟨b1, b2⟩, b3⟩, b4⟩ := hb
  have hlen : xs.length = ds.length := ra.length
  have ez := eachZ ra rv
  have hfst : (ds.zip xs).map Prod.fst = ds := by rw [List.map_fst_zip]; omega
  have hmem : ∀ b ∈ ds.zip xs, b.1 ∈ ds := fun b hb => (List.of_mem_zip (a := b.1) (b := b.2) hb).1
  have er : PySem.W.EachIs (fun (v : Value) (b : PyData × V) => ∃ as, Reads s.heap v b.1 as) its (ds.zip xs) := by
    refine PySem.W.EachIs.of_zip ez.length fun p hp => ?_
    obtain ⟨k1, k2⟩ := ez.zip p hp
    have := b1 _ (hmem _ (List.of_mem_zip (a := p.1) (b := p.2) hp).2)
    exact Rp.reads I k2 this.1 k1
  refine PySem.W.sorted_data (enc := Prod.fst) (bs := ds.zip xs) hl.isList ez er ?_ ?_ ?_ ?_ fun out ho eo => ?_
  · rw [hfst]
    exact fun d hd e he => b2 d hd e he
  · rw [hfst]
    rcases b3 with b3 | b3
    · refine .inl fun d hd => ?_
      have := b3 d hd
      cases d <;> first | cases this | skip
      rename_i l
      cases l with
      | nil => cases this
      | cons x r => exact ⟨x, r, rfl⟩
    · refine .inr fun d hd => ?_
      have := b3 d hd
      exact ⟨(fun z => by rw [z] at this; cases this), (fun l z => by rw [z] at this; cases this)⟩
  · have : (ds.zip xs).length ≤ 1000000 := by
      have := of_decide_eq_true b4
      rw [List.length_zip]; omega
    exact Nat.le_trans this (by rw [sizeLine_eq]; omega)
  · intro b hb
    have := of_decide_eq_true (b1 _ (hmem b hb)).2
    omega
  · obtain ⟨o1, o2⟩ := each_out eo
    obtain ⟨e, he⟩ := sortedAll_at s.heap its out.toArray
    have hm : ((ds.zip xs).mergeSort (PySem.W.dataLe false Prod.fst)).map (·.1) = srtD ds := by
      unfold srtD
      have := List.map_mergeSort (r := PySem.W.dataLe false (Prod.fst : PyData × V → PyData)) (s := PySem.W.dataLe false id) (f := (Prod.fst : PyData × V → PyData)) (l := ds.zip xs) (fun a _ b _ => rfl)
      rw [hfst] at this
      exact this
    rw [hm] at o2
    have hsz : s.heap.objs.size ≤ s.heap.objs.size + 1 := Nat.le_succ _
    refine ⟨.ref (s.heap.objs.size + 1), upd H (s.heap.objs.size + 1) (.lst (((ds.zip xs).mergeSort (PySem.W.dataLe false Prod.fst)).map (·.2))), I.laid (t' := s.toks) (fun b o q => sortedAll_old q) hsz ⟨?_, out, e, o1, he⟩, rfl, q _ _ o2 (I.hok.fresh hsz)⟩
    rw [List.length_map, List.length_mergeSort, List.length_zip]
    rw [hlen]
    have := of_decide_eq_true b4
    rw [sizeLine_eq]
    omega
def fSort (f : En → Option PyData) : En → Option (List PyData) := fun env => match f env with
  | some (.list ds) => if sortB ds = true then some (srtD ds) else none
  | _ => none
theorem cf_sort {c : Bool} {e : Expr} {f : En → Option PyData} (h : PE X e (tCB (rSortD X.K) (tCons (tE X.K true f) tNil))) : PE X e (tF X.K c (fSort f)) := pe_w h fun σ H Q ⟨S0, H0, A, env, d, E, hf, q⟩ => by
  unfold fSort at hf
  split at hf
  · rename_i ds h1
    split at hf
    · rename_i ok
      cases hf
      refine ⟨S0, H0, A, env, _, E, h1, fun v H1 s1 r1 => ?_⟩
      rw [Rp] at r1
      obtain ⟨a, xs, rfl, hs, ra⟩ := r1
      refine ⟨a, xs, _, ds, rfl, hs.sq, ra, ok, fun ys p ry hp => q p _ _ (s1.free hp) (s1.trans (same_new hp)) upd_same ?_⟩
      exact (ry.wide fun _ z => sc_cl (cl_sc z)).apart hp (same_new hp)
    · cases hf
  · cases hf
end
/-! T[i], T a tuple of texts of the module -/
section
variable {X : Cx} {c : Bool} {a b : Expr} {g : En → Option PyData}
def eIxT (xs : List Str) (g : En → Option PyData) : En → Option PyData := fun env => match g env with
  | some (.int k) => atI (xs.map PyData.str) k
  | _ => none
theorem atI_strs {xs : List Str} {k : Int} {d : PyData} (h : atI (xs.map PyData.str) k = some d) : ∃ x, d = .str x ∧ atI (xs.map V.str) k = some (V.str x) := by
  unfold atI at h ⊢
  rw [List.length_map] at h ⊢
  cases e : ixN xs.length k with
  | none => rw [e] at h; cases h
  | some j =>
    rw [e] at h
    show ∃ x, d = .str x ∧ (xs.map V.str)[j]? = some (V.str x)
    have h : (xs.map PyData.str)[j]? = some d := h
    rw [List.getElem?_map] at h ⊢
    cases e2 : xs[j]? with
    | none => rw [e2] at h; cases h
    | some x =>
      rw [e2] at h
      cases h
      exact ⟨x, rfl, rfl⟩
theorem ce_ixT {z : Addr} {xs : List Str} (hz : KTup X.K z xs) (ha : PE X a (tC (.ref z))) (hb : PE X b (tE X.K c g)) (hs : PlainIx b) : PE X (.Subscript a b pos) (tE X.K true (eIxT xs g)) := pe_w (pe_ix ix_seq ha hb hs) fun σ H Q ⟨S0, H0, A, env, d, E, hf, q⟩ => by
  unfold eIxT at hf
  split at hf
  · rename_i k hk
    obtain ⟨x, rfl, hx⟩ := atI_strs hf
    refine ⟨S0, H0, A, env, _, E, hk, fun u H1 s1 r1 => ?_⟩
    rw [Rp] at r1
    subst r1
    exact .inr (.inl ⟨z, xs.map V.str, k, .str x, rfl, rfl, hz.sq, hx, q _ H1 s1 (by rw [Rp])⟩)
  · cases hf
end
end Mir

/-! Mir17: min(xs), the items any alike data -/
namespace Mir
open PySem PySem.Spec PyProof.Rows L2
section
variable {X : Cx} {K : PySem.W.Frag} {S : Addr → Prop} {H : Hp}
def minB (ds : List PyData) : Bool := ds.all (fun d => noD d && decide (d.depth ≤ 60) && (match d with | .none => false | _ => true)) && ds.all fun d => ds.all fun e => PySem.W.alike d e
def minL : List PyData → PyData
  | [] => .none
  | d :: ds => PySem.W.minD d ds
def rMinD (K : PySem.W.Frag) : List V → Hp → VK → Prop := fun vs H Q => ∃ (a : Addr) (xs : List V) (S : Addr → Prop) (d : PyData) (ds : List PyData), vs = [V.ref a] ∧ SqL K H a xs ∧ RpA K S H (d :: ds) xs ∧ minB (d :: ds) = true ∧
  ∀ v, Rp K S H (PySem.W.minD d ds) v → Q v H
theorem noDA_of : ∀ {ds : List PyData}, (∀ d ∈ ds, noD d = true) → noDA ds = true
  | [], _ => by rw [noDA]
  | d :: ds, h => by rw [noDA, h d List.mem_cons_self, noDA_of fun e he => h e (List.mem_cons_of_mem _ he)]; rfl
theorem depthAll_of : ∀ {ds : List PyData} {n : Nat}, (∀ d ∈ ds, d.depth ≤ n) → PyData.depthAll ds ≤ n
  | [], _, _ => by simp [PyData.depthAll]
  | d :: ds, n, h => by
    have h1 := h d List.mem_cons_self
    have h2 := depthAll_of (n := n) fun e he => h e (List.mem_cons_of_mem _ he)
    simp only [PyData.depthAll]
    omega
theorem cr_minD (hc : X.calm = true) (hu : X.A.units + 65 < cLine) : CallR X (.builtin "min") (rMinD X.K) := by
  intro pins s σ H vs us Q I r h
  obtain ⟨a, xs, S, d, ds, rfl, hs, ra, hb, q⟩ := h
  obtain ⟨its, rv, hl, _⟩ := I.list hs
  rw [Vals.ref1 r]
  unfold minB at hb
  simp only [Bool.and_eq_true, List.all_eq_true, decide_eq_true_eq] at hb
  obtain ⟨b1, b2⟩ := hb
  obtain ⟨as, rd⟩ := Dp.readsAll I (d :: ds) xs its (RpA.dp0 _ _ (noDA_of fun e he => (b1 e he).1.1) ra) rv
  refine PySem.W.min_list_data (I.ok.hd hc) hl.isList rd ⟨fun x hx y hy => b2 x hx y hy, fun x hx e => ?_⟩ ?_ fun i v h' tk bs hi rr k => ?_
  · have := (b1 x hx).2
    rw [e] at this
    cases this
  · have := depthAll_of (ds := d :: ds) (n := 60) fun e he => (b1 e he).1.2
    omega
  · have hi' : its[i]? = some v := by simpa using hi
    obtain ⟨xl, _⟩ := List.getElem?_eq_some_iff.mp hi'
    have hlen : xs.length = its.length := rv.length
    have hx : xs[i]? = some xs[i] := List.getElem?_eq_getElem (by omega)
    obtain ⟨u, e1, r1⟩ := rv.get hx
    rw [hi'] at e1; cases e1
    have hd : (d :: ds)[i]? = some ((d :: ds)[i]'(by rw [← ra.length]; omega)) := List.getElem?_eq_getElem _
    obtain ⟨y, e2, r2⟩ := ra.get hd
    rw [hx] at e2; cases e2
    obtain ⟨bs2, rd2⟩ := Rp.reads I r2 (b1 _ (List.getElem_mem _)).1.1 r1
    have e := (PySem.Reads.unique (PySem.W.reads_keeps k rd2) _ _ rr).1
    rw [e] at r2
    exact ⟨_, H, I.kept (t' := tk) k, r1, q _ r2⟩
end
section
variable {X : Cx} {c : Bool} {e : Expr} {f : En → Option PyData}
def eMinD (f : En → Option PyData) : En → Option PyData := fun env => match f env with
  | some (.list (d :: ds)) => if minB (d :: ds) = true then some (PySem.W.minD d ds) else none
  | _ => none
theorem ce_minD (h : PE X e (tCB (rMinD X.K) (tCons (tE X.K c f) tNil))) : PE X e (tE X.K c (eMinD f)) := pe_w h fun σ H Q ⟨S0, H0, A, env, d, E, hf, q⟩ => by
  unfold eMinD at hf
  split at hf
  · rename_i d1 ds h1
    split at hf
    · rename_i ok
      cases hf
      refine ⟨S0, H0, A, env, _, E, h1, fun v H1 s1 r1 => ?_⟩
      rw [Rp] at r1
      obtain ⟨a, xs, rfl, hs, ra⟩ := r1
      exact ⟨a, xs, _, d1, ds, rfl, hs.sq, ra, ok, fun v r => q v H1 s1 r⟩
    · cases hf
  · cases hf
theorem minD_mem (d : PyData) : ∀ ds : List PyData, PySem.W.minD d ds ∈ d :: ds := by
  intro ds
  unfold PySem.W.minD
  induction ds generalizing d with
  | nil => exact List.mem_cons_self
  | cons x xs ih =>
    rw [List.foldl_cons]
    rcases List.mem_cons.mp (ih (if PySem.W.dataLt x d then x else d)) with h | h
    · rw [h]
      split
      · exact List.mem_cons_of_mem _ List.mem_cons_self
      · exact List.mem_cons_self
    · exact List.mem_cons_of_mem _ (List.mem_cons_of_mem _ h)
/-- the least: where one item is below all others, it is the minimum -/
theorem minD_is {m d : PyData} {ds : List PyData} (hm : m ∈ d :: ds) (h : ∀ x ∈ d :: ds, x = m ∨ (PySem.W.dataLt m x = true ∧ PySem.W.dataLt x m = false)) : PySem.W.minD d ds = m := by
  unfold PySem.W.minD
  induction ds generalizing d with
  | nil => exact (List.mem_singleton.mp hm).symm
  | cons x xs ih =>
    rw [List.foldl_cons]
    have hd := h d List.mem_cons_self
    have hx := h x (List.mem_cons_of_mem _ List.mem_cons_self)
    refine ih ?_ fun y hy => ?_
    · rcases List.mem_cons.mp hm with e | hm
      · subst e
        rcases hx with e | hx
        · subst e
          split <;> exact List.mem_cons_self
        · rw [hx.2]
          exact List.mem_cons_self
      · rcases List.mem_cons.mp hm with e | hm
        · subst e
          rcases hd with e | hd
          · subst e
            split <;> exact List.mem_cons_self
          · rw [hd.1]
            exact List.mem_cons_self
        · exact List.mem_cons_of_mem _ hm
    · rcases List.mem_cons.mp hy with e | hy
      · rw [e]
        split
        · exact hx
        · exact hd
      · exact h y (List.mem_cons_of_mem _ (List.mem_cons_of_mem _ hy))
end
end Mir

namespace Mir
open PySem PySem.Spec PyProof.Rows L2
/-! ### data of ints, of texts -/
theorem intsD_map : ∀ ns : List Int, intsD (ns.map PyData.int) = some ns
  | [] => rfl
  | n :: ns => by
    show (match intsD (ns.map PyData.int) with | some ns => some (n :: ns) | none => none) = _
    rw [intsD_map ns]
theorem strsD_map : ∀ ns : List Str, strsD (ns.map PyData.str) = some ns
  | [] => rfl
  | n :: ns => by
    show (match strsD (ns.map PyData.str) with | some ns => some (n :: ns) | none => none) = _
    rw [strsD_map ns]
/-- a comprehension whose element is k of each item, kept where p -/
theorem compF_filter {g : PyData → En → Option En} {ga : En → Option Bool} {fe : En → Option PyData} {env : En} {p : PyData → Bool} {k : PyData → PyData} : ∀ {ds : List PyData},
    (∀ d ∈ ds, ∃ e1, g d env = some e1 ∧ ga e1 = some (p d) ∧ (p d = true → fe e1 = some (k d))) → compF g ga fe env ds = some ((ds.filter p).map k)
  | [], _ => rfl
  | d :: ds, h => by
    obtain ⟨e1, h1, h2, h3⟩ := h d List.mem_cons_self
    have ih := compF_filter (ds := ds) fun x hx => h x (List.mem_cons_of_mem _ hx)
    simp only [compF, h1, h2]
    cases hp : p d with
    | true =>
      rw [hp] at h3
      simp only [h3 rfl, ih, List.filter_cons, hp, if_true, List.map_cons]
    | false =>
      simp only [ih, List.filter_cons, hp, Bool.false_eq_true, if_false]
theorem compF_map {g : PyData → En → Option En} {fe : En → Option PyData} {env : En} {k : PyData → PyData} {ds : List PyData} (h : ∀ d ∈ ds, ∃ e1, g d env = some e1 ∧ fe e1 = some (k d)) : compF g tYes' fe env ds = some (ds.map k) := by
  have q := compF_filter (g := g) (ga := tYes') (fe := fe) (env := env) (p := fun _ => true) (k := k) (ds := ds) fun d hd => by
    obtain ⟨e1, h1, h2⟩ := h d hd
    exact ⟨e1, h1, rfl, fun _ => h2⟩
  rw [q, List.filter_eq_self.mpr (fun _ _ => rfl)]
theorem compF_mapS {α : Type} {g : PyData → En → Option En} {fe : En → Option PyData} {env : En} {c : α → PyData} {k : α → PyData} : ∀ {xs : List α}, (∀ x ∈ xs, ∃ e1, g (c x) env = some e1 ∧ fe e1 = some (k x)) → compF g tYes' fe env (xs.map c) = some (xs.map k)
  | [], _ => rfl
  | x :: xs, h => by
    obtain ⟨e1, h1, h2⟩ := h x List.mem_cons_self
    have ih := compF_mapS (xs := xs) fun y hy => h y (List.mem_cons_of_mem _ hy)
    show compF g tYes' fe env (c x :: xs.map c) = _
    simp only [compF, h1, tYes', h2]
    rw [ih]
    rfl
/-! ### joined texts -/
def jl (ws : List Str) : Nat := (Txt.join (" " : Str) ws).length
theorem spc_len : ((" " : Str)).length = 1 := by decide +kernel
theorem len_app (x y : Str) : (x ++ y).length = x.length + y.length := by
  show (x.cps ++ y.cps).size = x.cps.size + y.cps.size
  simp
theorem jl_nil : jl [] = 0 := by
  unfold jl
  rw [TL.join_eq]
  rfl
theorem jl_one (w : Str) : jl [w] = w.length := by
  unfold jl
  rw [TL.join_eq]
  rfl
theorem jl_cons (w y : Str) (r : List Str) : jl (w :: y :: r) = w.length + 1 + jl (y :: r) := by
  unfold jl
  rw [TL.join_eq, TL.join_eq]
  show (w ++ (" " : Str) ++ Str.join (" " : Str) (y :: r)).length = _
  rw [len_app, len_app, spc_len]
theorem jl_snoc : ∀ (l : List Str) (w : Str), l ≠ [] → jl (l ++ [w]) = jl l + 1 + w.length
  | [], _, h => absurd rfl h
  | [x], w, _ => by
    show jl (x :: w :: []) = _
    rw [jl_cons, jl_one, jl_one]
  | x :: y :: r, w, _ => by
    show jl (x :: y :: (r ++ [w])) = _
    have ih := jl_snoc (y :: r) w (by simp)
    rw [jl_cons, jl_cons]
    rw [show jl (y :: (r ++ [w])) = jl (y :: r) + 1 + w.length from ih]
    omega
theorem jl_le : ∀ (l : List Str), (∀ w ∈ l, w.length ≤ 8) → jl l ≤ 9 * l.length
  | [], _ => by rw [jl_nil]; exact Nat.zero_le _
  | [x], h => by
    rw [jl_one]
    have := h x List.mem_cons_self
    simp
    omega
  | x :: y :: r, h => by
    rw [jl_cons]
    have h1 := h x List.mem_cons_self
    have h2 := jl_le (y :: r) fun w hw => h w (List.mem_cons_of_mem _ hw)
    rw [List.length_cons]
    omega
theorem word_le_jl : ∀ (l : List Str) (w : Str), w ∈ l → w.length ≤ jl l
  | [], _, h => by cases h
  | [x], w, h => by
    rw [jl_one]
    rw [List.mem_singleton.mp h]
    exact Nat.le_refl _
  | x :: y :: r, w, h => by
    rw [jl_cons]
    rcases List.mem_cons.mp h with h | h
    · subst h; omega
    · have := word_le_jl (y :: r) w h
      omega
/-! ### texts in tuples compared -/
theorem eqv_strs : ∀ xs ys : List Str, PyData.eqvAll (xs.map PyData.str) (ys.map PyData.str) = decide (xs = ys)
  | [], [] => by simp [PyData.eqvAll]
  | [], y :: ys => by simp [PyData.eqvAll]
  | x :: xs, [] => by simp [PyData.eqvAll]
  | x :: xs, y :: ys => by
    simp only [List.map_cons, PyData.eqvAll, PyData.eqv, eqv_strs xs ys]
    by_cases h : x = y
    · subst h
      simp
    · simp [h]
theorem lay_strs : ∀ xs : List Str, (∀ x ∈ xs, PyData.strOk x = true) → PyData.canLayAll0 (xs.map PyData.str) = true
  | [], _ => by simp [PyData.canLayAll0]
  | x :: xs, h => by
    simp only [List.map_cons, PyData.canLayAll0, PyData.canLay0, h x List.mem_cons_self, lay_strs xs (fun y hy => h y (List.mem_cons_of_mem _ hy)), Bool.and_self]
theorem depth_strs : ∀ xs : List Str, PyData.depthAll (xs.map PyData.str) = 0
  | [] => by simp [PyData.depthAll]
  | x :: xs => by simp [PyData.depthAll, PyData.depth, depth_strs xs]
theorem shaped_strs (xs : List Str) (h : ∀ x ∈ xs, PyData.strOk x = true) : SeqAt.shaped (.tuple (xs.map PyData.str)) = true := by
  unfold SeqAt.shaped
  simp [PyData.canLay0, lay_strs xs h, PyData.depth, depth_strs]
theorem shaped_int (i : Int) : SeqAt.shaped (.int i) = true := by
  unfold SeqAt.shaped
  simp [PyData.canLay0, PyData.depth]
theorem shaped_none : SeqAt.shaped .none = true := by
  unfold SeqAt.shaped
  simp [PyData.canLay0, PyData.depth]
theorem shaped_bool (i : Bool) : SeqAt.shaped (.bool i) = true := by
  unfold SeqAt.shaped
  simp [PyData.canLay0, PyData.depth]
theorem eqD_int (i j : Int) : eqD (.int i) (.int j) = some (.bool (decide (i = j))) := by
  unfold eqD
  rw [shaped_int, shaped_int]
  simp only [Bool.and_self, if_true, PyData.eqv]
  congr 2
theorem neD_int (i j : Int) : neD (.int i) (.int j) = some (.bool (!decide (i = j))) := by
  unfold neD
  rw [shaped_int, shaped_int]
  simp only [Bool.and_self, if_true, PyData.eqv]
  congr 3
theorem eqD_strs (xs ys : List Str) (h : ∀ x ∈ xs, PyData.strOk x = true) (h' : ∀ x ∈ ys, PyData.strOk x = true) : eqD (.tuple (xs.map PyData.str)) (.tuple (ys.map PyData.str)) = some (.bool (decide (xs = ys))) := by
  unfold eqD
  rw [shaped_strs xs h, shaped_strs ys h']
  simp only [Bool.and_self, if_true, PyData.eqv, eqv_strs]
theorem addD_tup {xs ys : List PyData} (h : xs.length + ys.length ≤ 1000000) : addD (.tuple xs) (.tuple ys) = some (.tuple (xs ++ ys)) := by
  simp only [addD, h, if_true]
theorem addD_list {xs ys : List PyData} (h : xs.length + ys.length ≤ 1000000) : addD (.list xs) (.list ys) = some (.list (xs ++ ys)) := by
  simp only [addD, h, if_true]
theorem addD_str {x y : Str} (h : x.length + y.length ≤ 1000000) : addD (.str x) (.str y) = some (.str (x ++ y)) := by
  simp only [addD, h, if_true]
/-! ### loops by a word -/
theorem loop_ix {g : PyData → En → Option En} {b : En → Out} (P : Nat → En → Prop) : ∀ (ds : List PyData) (k : Nat) (e : En), (∀ (j : Nat) d e, ds[j]? = some d → P (k + j) e → ∃ e1, g d e = some e1 ∧ ∃ e2, (b e1 = .nx e2 ∨ b e1 = .ct e2) ∧ P (k + j + 1) e2) → P k e → ∃ e', loopF g b ds e = .nx e' ∧ P (k + ds.length) e'
  | [], k, e, _, h => ⟨e, rfl, h⟩
  | d :: ds, k, e, st, h => by
    obtain ⟨e1, h1, e2, h2, h3⟩ := st 0 d e rfl h
    obtain ⟨e', h4, h5⟩ := loop_ix P ds (k + 1) e2 (fun j d' e' hj hp => by
      have hp' : P (k + (j + 1)) e' := by rw [show k + (j + 1) = k + 1 + j by omega]; exact hp
      have := st (j + 1) d' e' (by simpa using hj) hp'
      rw [show k + (j + 1) + 1 = k + 1 + j + 1 by omega] at this
      exact this) h3
    refine ⟨e', ?_, by rw [List.length_cons, show k + (ds.length + 1) = k + 1 + ds.length by omega]; exact h5⟩
    rcases h2 with h2 | h2 <;> (simp only [loopF, h1, h2]; exact h4)
theorem loop_rng {g : PyData → En → Option En} {b : En → Out} (P : Nat → En → Prop) {lo : Int} {n : Nat} {e : En} (st : ∀ (j : Nat) e, j < n → P j e → ∃ e1, g (.int (lo + (j : Nat))) e = some e1 ∧ ∃ e2, (b e1 = .nx e2 ∨ b e1 = .ct e2) ∧ P (j + 1) e2) (h : P 0 e) : ∃ e', loopF g b (rngD lo n) e = .nx e' ∧ P n e' := by
  obtain ⟨e', h1, h2⟩ := loop_ix P (rngD lo n) 0 e (fun j d e hj hp => by
    have hd := rng_get hj
    obtain ⟨l, _⟩ := List.getElem?_eq_some_iff.mp hj
    rw [rng_len] at l
    subst hd
    rw [Nat.zero_add] at hp ⊢
    exact st j e l hp) h
  rw [rng_len, Nat.zero_add] at h2
  exact ⟨e', h1, h2⟩
theorem atI_map {α : Type} (f : α → PyData) (xs : List α) (j : Nat) (x : α) (h : xs[j]? = some x) : atI (xs.map f) (j : Int) = some (f x) := atI_nat (by rw [List.getElem?_map, h]; rfl)
theorem noL_ints : ∀ ns : List Int, noLA (ns.map PyData.int) = true
  | [] => rfl
  | n :: ns => by
    show (noL (.int n) && noLA (ns.map PyData.int)) = true
    rw [noL_ints ns]; rfl
theorem sSeq_nx {s t : En → Out} {env e : En} (h : s env = .nx e) : sSeq s t env = t e := by
  unfold sSeq
  rw [h]
theorem sSeq_rt {s t : En → Out} {env : En} {d : PyData} (h : s env = .rt d) : sSeq s t env = .rt d := by
  unfold sSeq
  rw [h]
theorem addD_int (i j : Int) : addD (.int i) (.int j) = some (.int (i + j)) := rfl
theorem subD_int (i j : Int) : subD (.int i) (.int j) = some (.int (i - j)) := rfl
theorem mulD_int {i j : Int} (h : CMul i j) : mulD (.int i) (.int j) = some (.int (i * j)) := if_pos h
theorem modD_int {i j : Int} (h : 0 < j) : modD (.int i) (.int j) = some (.int (i % j)) := if_pos h
theorem divD_int {i j : Int} (h : CDiv i j) : divD (.int i) (.int j) = some (.int (i / j)) := if_pos h
theorem powD_int {i j : Int} (h : CPow i j) : powD (.int i) (.int j) = some (.int (i ^ j.toNat)) := if_pos h
theorem ltD_int (i j : Int) : ltD (.int i) (.int j) = some (.bool (decide (i < j))) := rfl
theorem leD_int (i j : Int) : leD (.int i) (.int j) = some (.bool (decide (i ≤ j))) := rfl
theorem gtD_int (i j : Int) : gtD (.int i) (.int j) = some (.bool (decide (j < i))) := rfl
theorem geD_int (i j : Int) : geD (.int i) (.int j) = some (.bool (decide (j ≤ i))) := rfl
/-! a draw, its numbers kept as letters -/
theorem draw_s1 (a b M : Int) (c' m k : Int) (n : Nat) (ds : List Int) (w y : Sl) (k1 : CMul c' a) (k2 : CMul k b) (k3 : 0 < M) (hm : (c' * a + k * b) % M = m) :
    (sSet 5 (e2 modD (eCall intA (aCons (e2 addD (e2 mulD (eVar 0) (eC (.int a))) (e2 mulD (eVar 4) (eC (.int b)))) aNil)) (eC (.int M)))) [.val (.int c'), .val (.int n), .own (ds.map .int), w, .val (.int k), y] = .nx [.val (.int c'), .val (.int n), .own (ds.map .int), w, .val (.int k), .val (.int m)] := by
  have k1 := mulD_int k1
  have k2 := mulD_int k2
  have k5 := modD_int (i := c' * a + k * b) k3
  rw [hm] at k5
  simp only [sSet, e2, eCall, aCons, aNil, intA, eC, eVar, List.getElem?_cons_zero, List.getElem?_cons_succ, List.set_cons_zero, List.set_cons_succ, addD_int, k1, k2, k5]
theorem draw_s2 (a M L : Int) (c' m k : Int) (n : Nat) (ds : List Int) (w : Sl) (hl : ds.length < 1000000) (k3 : CMul c' a) (k4 : CMul m m) (k6 : 0 < M) :
    (sApp 2 (e2 modD (eCall intA (aCons (e2 addD (e2 addD (e2 mulD (eVar 5) (eVar 5)) (e2 mulD (eVar 0) (eC (.int a)))) (eVar 4)) aNil)) (eC (.int M)))) [.val (.int c'), .val (.int n), .own (ds.map .int), w, .val (.int k), .val (.int m)] = .nx [.val (.int c'), .val (.int n), .own ((ds ++ [(m * m + c' * a + k) % M]).map .int), w, .val (.int k), .val (.int m)] := by
  have k3 := mulD_int k3
  have k4 := mulD_int k4
  have k6 := modD_int (i := m * m + c' * a + k) k6
  simp only [sApp, e2, eCall, aCons, aNil, intA, eC, eVar, List.getElem?_cons_zero, List.getElem?_cons_succ, addD_int, k3, k4, k6, List.length_map, hl, if_true, List.set_cons_zero, List.set_cons_succ, List.map_append, List.map_cons, List.map_nil]
theorem draw_s1' (a b M : Int) (c' m k : Int) (n : Nat) (ds : List Int) (w y : Sl) (k1 : CMul c' a) (k2 : CMul k b) (k3 : 0 < M) (hm : (c' * a + k * b) % M = m) :
    (sSet 5 (e2 modD (e2 addD (e2 mulD (eVar 0) (eC (.int a))) (e2 mulD (eVar 4) (eC (.int b)))) (eC (.int M)))) [.val (.int c'), .val (.int n), .own (ds.map .int), w, .val (.int k), y] = .nx [.val (.int c'), .val (.int n), .own (ds.map .int), w, .val (.int k), .val (.int m)] := by
  have k1 := mulD_int k1
  have k2 := mulD_int k2
  have k5 := modD_int (i := c' * a + k * b) k3
  rw [hm] at k5
  simp only [sSet, e2, eC, eVar, List.getElem?_cons_zero, List.getElem?_cons_succ, List.set_cons_zero, List.set_cons_succ, addD_int, k1, k2, k5]
theorem draw_s2' (a M L : Int) (c' m k : Int) (n : Nat) (ds : List Int) (w : Sl) (hl : ds.length < 1000000) (k3 : CMul c' a) (k4 : CMul m m) (k6 : 0 < M) :
    (sApp 2 (e2 modD (e2 addD (e2 addD (e2 mulD (eVar 5) (eVar 5)) (e2 mulD (eVar 0) (eC (.int a)))) (eVar 4)) (eC (.int M)))) [.val (.int c'), .val (.int n), .own (ds.map .int), w, .val (.int k), .val (.int m)] = .nx [.val (.int c'), .val (.int n), .own ((ds ++ [(m * m + c' * a + k) % M]).map .int), w, .val (.int k), .val (.int m)] := by
  have k3 := mulD_int k3
  have k4 := mulD_int k4
  have k6 := modD_int (i := m * m + c' * a + k) k6
  simp only [sApp, e2, eC, eVar, List.getElem?_cons_zero, List.getElem?_cons_succ, addD_int, k3, k4, k6, List.length_map, hl, if_true, List.set_cons_zero, List.set_cons_succ, List.map_append, List.map_cons, List.map_nil]
theorem draw_t (M : Int) (c' : Int) (n : Nat) (ds : List Int) (w x y : Sl) (hl : ds.length < 1000000) (k1 : 0 < M) (k2 : M < 1073741824) :
    sSeq (sApp 2 (e2 modD (eCall intA (aCons (eVar 0) aNil)) (eC (.int M)))) (sSet 0 (e2 divD (eVar 0) (eC (.int M)))) [.val (.int c'), .val (.int n), .own (ds.map .int), w, x, y] = .nx [.val (.int (c' / M)), .val (.int n), .own ((ds ++ [c' % M]).map .int), w, x, y] := by
  have h1 := modD_int (i := c') k1
  have h2 := divD_int (i := c') (j := M) ⟨k1, k2⟩
  simp only [sSeq, sApp, sSet, e2, eCall, aCons, aNil, intA, eC, eVar, List.getElem?_cons_zero, List.getElem?_cons_succ, List.set_cons_zero, List.set_cons_succ, h1, h2, hl, if_true, List.length_map, List.map_append, List.map_cons, List.map_nil]
theorem draw_t' (M : Int) (c' : Int) (n : Nat) (ds : List Int) (w x y : Sl) (hl : ds.length < 1000000) (k1 : 0 < M) (k2 : M < 1073741824) :
    sSeq (sApp 2 (e2 modD (eVar 0) (eC (.int M)))) (sSet 0 (e2 divD (eVar 0) (eC (.int M)))) [.val (.int c'), .val (.int n), .own (ds.map .int), w, x, y] = .nx [.val (.int (c' / M)), .val (.int n), .own ((ds ++ [c' % M]).map .int), w, x, y] := by
  have h1 := modD_int (i := c') k1
  have h2 := divD_int (i := c') (j := M) ⟨k1, k2⟩
  simp only [sSeq, sApp, sSet, e2, eC, eVar, List.getElem?_cons_zero, List.getElem?_cons_succ, List.set_cons_zero, List.set_cons_succ, h1, h2, hl, if_true, List.length_map, List.map_append, List.map_cons, List.map_nil]
theorem sIf_t {ga : En → Option Bool} {s t : En → Out} {env : En} (h : ga env = some true) : sIf ga s t env = s env := by
  unfold sIf
  rw [h]
theorem sIf_f {ga : En → Option Bool} {s t : En → Out} {env : En} (h : ga env = some false) : sIf ga s t env = t env := by
  unfold sIf
  rw [h]
theorem iR1_ev {fa : En → Option (List PyData)} {env : En} {N : Int} (h : fa env = some [.int N]) (h1 : N < 1000000) (h2 : -1000000 < N) : iR1 fa env = some (rngD 0 N.toNat) := by
  unfold iR1
  rw [h]
  exact if_pos ⟨h1, h2⟩
theorem iR2_ev {fa : En → Option (List PyData)} {env : En} {M N : Int} (h : fa env = some [.int M, .int N]) (h1 : N < 1000000000) (h2 : -1000000000 < N) (h3 : M < 1000000000) (h4 : -1000000000 < M) : iR2 fa env = some (rngD M (N - M).toNat) := by
  unfold iR2
  rw [h]
  exact if_pos ⟨⟨h1, h2⟩, h3, h4⟩
/-- a loop that may be left by a return -/
theorem loop_any {g : PyData → En → Option En} {b : En → Out} (P : Nat → En → Prop) (Q : PyData → Prop) : ∀ (ds : List PyData) (k : Nat) (e : En), (∀ (j : Nat) d e, ds[j]? = some d → P (k + j) e → ∃ e1, g d e = some e1 ∧ ((∃ e2, (b e1 = .nx e2 ∨ b e1 = .ct e2) ∧ P (k + j + 1) e2) ∨ ∃ v, b e1 = .rt v ∧ Q v)) → P k e →
    (∃ e', loopF g b ds e = .nx e' ∧ P (k + ds.length) e') ∨ ∃ v, loopF g b ds e = .rt v ∧ Q v
  | [], k, e, _, h => .inl ⟨e, rfl, h⟩
  | d :: ds, k, e, st, h => by
    obtain ⟨e1, h1, h2⟩ := st 0 d e rfl h
    rcases h2 with ⟨e2, h2, h3⟩ | ⟨v, h2, h3⟩
    · have ih := loop_any P Q ds (k + 1) e2 (fun j d' e' hj hp => by
        have hp' : P (k + (j + 1)) e' := by rw [show k + (j + 1) = k + 1 + j by omega]; exact hp
        have := st (j + 1) d' e' (by simpa using hj) hp'
        rw [show k + (j + 1) + 1 = k + 1 + j + 1 by omega] at this
        exact this) h3
      have e0 : loopF g b (d :: ds) e = loopF g b ds e2 := by
        rcases h2 with h2 | h2 <;> simp only [loopF, h1, h2]
      rw [e0, List.length_cons, show k + (ds.length + 1) = k + 1 + ds.length by omega]
      exact ih
    · exact .inr ⟨v, by simp only [loopF, h1, h2], h3⟩
theorem loop_rngA {g : PyData → En → Option En} {b : En → Out} (P : Nat → En → Prop) (Q : PyData → Prop) {lo : Int} {n : Nat} {e : En} (st : ∀ (j : Nat) e, j < n → P j e → ∃ e1, g (.int (lo + (j : Nat))) e = some e1 ∧ ((∃ e2, (b e1 = .nx e2 ∨ b e1 = .ct e2) ∧ P (j + 1) e2) ∨ ∃ v, b e1 = .rt v ∧ Q v)) (h : P 0 e) :
    (∃ e', loopF g b (rngD lo n) e = .nx e' ∧ P n e') ∨ ∃ v, loopF g b (rngD lo n) e = .rt v ∧ Q v := by
  have := loop_any P Q (rngD lo n) 0 e (fun j d e hj hp => by
    have hd := rng_get hj
    obtain ⟨l, _⟩ := List.getElem?_eq_some_iff.mp hj
    rw [rng_len] at l
    subst hd
    rw [Nat.zero_add] at hp ⊢
    exact st j e l hp) h
  rw [rng_len, Nat.zero_add] at this
  exact this
/-! evaluation, step by step -/
section
variable {env env' : En} {f g h : En → Option PyData} {fa : En → Option (List PyData)} {x y d : PyData} {ds : List PyData}
theorem e2_ev {k : PyData → PyData → Option PyData} (h1 : f env = some x) (h2 : g env = some y) (h3 : k x y = some d) : e2 k f g env = some d := by
  unfold e2
  rw [h1, h2]
  exact h3
theorem aCons_ev (h1 : f env = some x) (h2 : fa env = some ds) : aCons f fa env = some (x :: ds) := by
  unfold aCons
  rw [h1, h2]
theorem aNil_ev : aNil env = some [] := rfl
theorem eCall_ev {k : List PyData → Option PyData} (h1 : fa env = some ds) (h2 : k ds = some d) : eCall k fa env = some d := by
  unfold eCall
  rw [h1]
  exact h2
theorem sSet_ev {i : Nat} (h1 : f env = some d) : sSet i f env = .nx (env.set i (.val d)) := by
  unfold sSet
  rw [h1]
theorem sOwn_ev {i : Nat} (h1 : fa env = some ds) : sOwn i fa env = .nx (env.set i (.own ds)) := by
  unfold sOwn
  rw [h1]
theorem sRet_ev (h1 : f env = some d) : sRet f env = .rt d := by
  unfold sRet
  rw [h1]
theorem sApp_ev {i : Nat} (h1 : f env = some d) (h2 : env[i]? = some (.own ds)) (h3 : ds.length < 1000000) : sApp i f env = .nx (env.set i (.own (ds ++ [d]))) := by
  unfold sApp
  rw [h1, h2]
  exact if_pos h3
theorem sFor_ev {k : PyData → En → Option En} {b : En → Out} {o : Out} (h1 : fa env = some ds) (h2 : loopF k b ds env = o) : sFor fa k b env = o := by
  unfold sFor
  rw [h1]
  exact h2
theorem eL_ev (h1 : fa env = some ds) : eL fa env = some (.list ds) := by
  unfold eL
  rw [h1]
  rfl
theorem t1_ev {b : Bool} (h1 : f env = some (.bool b)) : t1 f env = some b := by
  unfold t1
  rw [h1]
theorem and_t {ga gb : En → Option Bool} {b : Bool} (h1 : ga env = some true) (h2 : gb env = some b) : tAnd' ga gb env = some b := by
  unfold tAnd'
  rw [h1]
  exact h2
theorem and_f {ga gb : En → Option Bool} (h1 : ga env = some false) : tAnd' ga gb env = some false := by
  unfold tAnd'
  rw [h1]
theorem or_t {ga gb : En → Option Bool} (h1 : ga env = some true) : tOr' ga gb env = some true := by
  unfold tOr'
  rw [h1]
theorem or_f {ga gb : En → Option Bool} {b : Bool} (h1 : ga env = some false) (h2 : gb env = some b) : tOr' ga gb env = some b := by
  unfold tOr'
  rw [h1]
  exact h2
theorem not_ev {ga : En → Option Bool} {b : Bool} (h1 : ga env = some b) : tNot' ga env = some (!b) := by
  unfold tNot'
  rw [h1]
  rfl
theorem eIf_t {ga : En → Option Bool} (h1 : ga env = some true) (h2 : f env = some d) : eIf ga f g env = some d := by
  unfold eIf
  rw [h1]
  exact h2
theorem eIf_f {ga : En → Option Bool} (h1 : ga env = some false) (h2 : g env = some d) : eIf ga f g env = some d := by
  unfold eIf
  rw [h1]
  exact h2
theorem eTup_ev (h1 : fa env = some ds) (h2 : ds.length ≤ 1000000) : eTup fa env = some (.tuple ds) := by
  unfold eTup
  rw [h1]
  exact if_pos h2
theorem fLst_ev (h1 : fa env = some ds) (h2 : ds.length ≤ 1000000) : fLst fa env = some ds := by
  unfold fLst
  rw [h1]
  exact if_pos h2
theorem fCmp_ev {is : List Nat} {k : PyData → En → Option En} {ga : En → Option Bool} {fe : En → Option PyData} {vs : List PyData} (h1 : fa env = some ds) (h2 : compF k ga fe (wipeE env is) ds = some vs) (h3 : vs.length ≤ 1000000) : fCmp is fa k ga fe env = some vs := by
  unfold fCmp
  simp only [h1, h2]
  exact if_pos h3
theorem eIsi_ev {T : String} {b : Bool} (h1 : f env = some d) (h2 : isiB T (tyD d) = some b) : eIsi T f env = some (.bool b) := by
  unfold eIsi
  rw [h1]
  simp only [h2]
  rfl
theorem tTr_ev {b : Bool} (h1 : f env = some d) (h2 : truD d = some b) : tTr f env = some b := by
  unfold tTr
  rw [h1]
  exact h2
theorem outD_rt {o : Out} (h : o = .rt d) : outD o = some d := by rw [h]; rfl
end
theorem gDef_ev {np nN : Nat} {fB : En → Out} {ds : List PyData} {d : PyData} (h1 : ds.length = np) (h2 : fB (env0 nN ds) = .rt d) : gDef np nN fB ds = some d := by
  unfold gDef
  rw [if_pos h1, h2]
  rfl
/-! draws read; pairs of ints -/
theorem dr_at {ds : List Int} {env : En} {i j : Nat} {k : Int} (h : eVar i env = some (.list (ds.map .int))) (hj : j < ds.length) (hk : k = (j : Nat)) : e2 ixG (eVar i) (eC (.int k)) env = some (.int (ds.getD j 0)) := by
  refine e2_ev h rfl ?_
  subst hk
  refine (atI_map PyData.int ds j (ds.getD j 0) ?_)
  simp [List.getD, hj]
theorem dr_int {ds : List Int} {env : En} {i j : Nat} {k : Int} (h : eVar i env = some (.list (ds.map .int))) (hj : j < ds.length) (hk : k = (j : Nat)) : eCall intA (aCons (e2 ixG (eVar i) (eC (.int k))) aNil) env = some (.int (ds.getD j 0)) :=
  eCall_ev (aCons_ev (dr_at h hj hk) aNil_ev) rfl
theorem dr_mod {ds : List Int} {env : En} {i j : Nat} {k m : Int} (h : eVar i env = some (.list (ds.map .int))) (hj : j < ds.length) (hk : k = (j : Nat)) (hm : 0 < m) : e2 modD (eCall intA (aCons (e2 ixG (eVar i) (eC (.int k))) aNil)) (eC (.int m)) env = some (.int (ds.getD j 0 % m)) :=
  e2_ev (dr_int h hj hk) rfl (modD_int hm)
theorem dr_mod' {ds : List Int} {env : En} {i j : Nat} {k m : Int} (h : eVar i env = some (.list (ds.map .int))) (hj : j < ds.length) (hk : k = (j : Nat)) (hm : 0 < m) : e2 modD (e2 ixG (eVar i) (eC (.int k))) (eC (.int m)) env = some (.int (ds.getD j 0 % m)) :=
  e2_ev (dr_at h hj hk) rfl (modD_int hm)
theorem mod_lt (x m : Int) (h : 0 < m) : 0 ≤ x % m ∧ x % m < m := ⟨Int.emod_nonneg _ (by omega), Int.emod_lt_of_pos _ h⟩
abbrev pr (p : Int × Int) : PyData := .tuple [.int p.1, .int p.2]
theorem shaped_pr (p : Int × Int) : SeqAt.shaped (pr p) = true := by
  unfold SeqAt.shaped
  simp [pr, PyData.canLay0, PyData.canLayAll0, PyData.depth, PyData.depthAll]
theorem lay_prs : ∀ ps : List (Int × Int), PyData.canLayAll0 (ps.map pr) = true ∧ PyData.depthAll (ps.map pr) ≤ 1
  | [] => by simp [PyData.canLayAll0, PyData.depthAll]
  | p :: ps => by
    obtain ⟨h1, h2⟩ := lay_prs ps
    simp only [List.map_cons, PyData.canLayAll0, PyData.depthAll, h1]
    simp [pr, PyData.canLay0, PyData.canLayAll0, PyData.depth, PyData.depthAll]
    omega
theorem shaped_prs (ps : List (Int × Int)) : SeqAt.shaped (.list (ps.map pr)) = true := by
  unfold SeqAt.shaped
  obtain ⟨h1, h2⟩ := lay_prs ps
  simp [PyData.canLay0, h1, PyData.depth]
  omega
theorem eqv_pr (p q : Int × Int) : PyData.eqv (pr p) (pr q) = decide (p = q) := by
  obtain ⟨a, b⟩ := p
  obtain ⟨c, d⟩ := q
  simp only [pr, PyData.eqv, PyData.eqvAll]
  by_cases h1 : a = c
  · by_cases h2 : b = d
    · simp [h1, h2]
    · simp [h1, h2]
  · simp [h1]
theorem any_pr (p : Int × Int) : ∀ ps : List (Int × Int), ((ps.map pr).any fun z => PyData.eqv z (pr p)) = decide (p ∈ ps)
  | [] => by simp
  | q :: ps => by
    rw [List.map_cons, List.any_cons, any_pr p ps, eqv_pr]
    by_cases h : q = p
    · simp [h]
    · have : ¬ p = q := fun e => h e.symm
      simp [h, this]
theorem inD_pr (p : Int × Int) (ps : List (Int × Int)) : inD (pr p) (.list (ps.map pr)) = some (.bool (decide (p ∈ ps))) := by
  unfold inD
  simp only [shaped_pr, shaped_prs, any_pr, Bool.and_self, if_true]
theorem notInD_pr (p : Int × Int) (ps : List (Int × Int)) : notInD (pr p) (.list (ps.map pr)) = some (.bool (!decide (p ∈ ps))) := by
  unfold notInD
  simp only [shaped_pr, shaped_prs, any_pr, Bool.and_self, if_true]
theorem eNot_ev {f : En → Option PyData} {env : En} {b : Bool} (h : f env = some (.bool b)) : eNot f env = some (.bool (!b)) := by
  unfold eNot
  rw [h]
theorem eN_ev {f : En → Option PyData} {env : En} {d : PyData} (h : f env = some d) (hn : noL d = true) : eN f env = some d := by
  unfold eN
  rw [h]
  exact if_pos hn
theorem eTupO_ev {i : Nat} {env : En} {ds : List PyData} (h : env[i]? = some (.own ds)) : eTupO i env = some (.tuple ds) := by
  unfold eTupO
  rw [h]
theorem eIxO_ev {i : Nat} {env : En} {ds : List PyData} {g : En → Option PyData} {k : Int} {d : PyData} (h : env[i]? = some (.own ds)) (h1 : g env = some (.int k)) (h2 : atI ds k = some d) : eIxO i g env = some d := by
  have e : eIxO i g env = (match g env with | some (.int k) => atI ds k | _ => none) := by
    unfold eIxO
    rw [h]
    all_goals rfl
  rw [e, h1]
  exact h2
theorem gDef_ev' {np nN : Nat} {fB : En → Out} {ds : List PyData} {d : PyData} (env : En) (h1 : ds.length = np) (h0 : env0 nN ds = env) (h2 : fB env = .rt d) : gDef np nN fB ds = some d := gDef_ev h1 (by rw [h0]; exact h2)
theorem neD_same {d : PyData} (h : SeqAt.shaped d = true) : neD d d = some (.bool false) := by
  unfold neD
  have h2 : d.canLay0 = true := by
    unfold SeqAt.shaped at h
    exact (Bool.and_eq_true _ _ ▸ h).1
  rw [h, SeqAt.eqv_refl d h2]
  rfl
theorem eqD_same {d : PyData} (h : SeqAt.shaped d = true) : eqD d d = some (.bool true) := by
  unfold eqD
  have h2 : d.canLay0 = true := by
    unfold SeqAt.shaped at h
    exact (Bool.and_eq_true _ _ ▸ h).1
  rw [h, SeqAt.eqv_refl d h2]
  rfl
theorem eAnd_t {f g : En → Option PyData} {env : En} {d : PyData} (h1 : f env = some (.bool true)) (h2 : g env = some d) : eAnd f g env = some d := by
  unfold eAnd
  rw [h1]
  exact h2
theorem eAnd_f {f g : En → Option PyData} {env : En} (h1 : f env = some (.bool false)) : eAnd f g env = some (.bool false) := by
  unfold eAnd
  rw [h1]
theorem sUnp_ev {f : En → Option PyData} {g : PyData → En → Option En} {env e : En} {d : PyData} (h1 : f env = some d) (h2 : g d env = some e) : sUnp f g env = .nx e := by
  unfold sUnp
  rw [h1]
  simp only [h2]
theorem iSeq_l {f : En → Option PyData} {env : En} {ds : List PyData} (h : f env = some (.list ds)) : iSeq f env = some ds := by
  unfold iSeq
  rw [h]
theorem iSeq_t {f : En → Option PyData} {env : En} {ds : List PyData} (h : f env = some (.tuple ds)) : iSeq f env = some ds := by
  unfold iSeq
  rw [h]
end Mir

namespace Mir
open PySem PySem.Spec PyProof.Rows L2
theorem fRep_ev {ff : En → Option (List PyData)} {g : En → Option PyData} {env : En} {ds : List PyData} {k : Int} (h1 : ff env = some ds) (h2 : g env = some (.int k)) (h3 : -1000000 ≤ k ∧ k ≤ 1000000) (h4 : ds.length * k.toNat ≤ 1000000) : fRep ff g env = some (List.replicate k.toNat ds).flatten := by
  unfold fRep
  rw [h1]
  simp only [h2]
  exact if_pos ⟨h3, h4⟩
theorem rep_flat {α : Type} (x : α) : ∀ n : Nat, (List.replicate n [x]).flatten = List.replicate n x
  | 0 => rfl
  | n + 1 => by rw [List.replicate_succ, List.flatten_cons, rep_flat x n, List.replicate_succ]; rfl
/-! ### systems of constraints: the least solution -/
abbrev Con := Nat × Nat × Int
def rz1 (h : List Int) (c : Con) : List Int := if h.getD c.2.1 0 < h.getD c.1 0 + c.2.2 then h.set c.2.1 (h.getD c.1 0 + c.2.2) else h
def rz (cs : List Con) (p : List Int) : List Int := cs.foldl rz1 p
def lp (cs : List Con) : Nat → List Int → Option (List Int)
  | 0, _ => none
  | n + 1, p => if rz cs p = p then some p else if 0 < (rz cs p).getD 0 0 then none else lp cs n (rz cs p)
def Sol (cs : List Con) (x : Nat → Int) : Prop := ∀ c ∈ cs, x c.1 + c.2.2 ≤ x c.2.1
def Ix (cs : List Con) (N : Nat) : Prop := ∀ c ∈ cs, c.1 < N ∧ c.2.1 < N
abbrev at0 (p : List Int) : Nat → Int := fun v => p.getD v 0
theorem getD_set (p : List Int) (i j : Nat) (x : Int) (h : i < p.length) : (p.set i x).getD j 0 = if j = i then x else p.getD j 0 := by
  rw [List.getD_eq_getElem?_getD, List.getD_eq_getElem?_getD, List.getElem?_set]
  by_cases q : i = j
  · subst q
    simp [h]
  · have : ¬ j = i := fun e => q e.symm
    simp [q, this]
theorem rz1_len (h : List Int) (c : Con) : (rz1 h c).length = h.length := by
  unfold rz1
  split <;> simp
theorem rz1_ge (h : List Int) (c : Con) (hc : c.2.1 < h.length) (v : Nat) : at0 h v ≤ at0 (rz1 h c) v := by
  unfold rz1 at0
  split
  · rename_i q
    rw [getD_set _ _ _ _ hc]
    split
    · rename_i e; rw [e]; omega
    · exact Int.le_refl _
  · exact Int.le_refl _
theorem rz1_con (h : List Int) (c : Con) (hc : c.2.1 < h.length) : at0 h c.1 + c.2.2 ≤ at0 (rz1 h c) c.2.1 := by
  unfold rz1 at0
  split
  · rw [getD_set _ _ _ _ hc, if_pos rfl]
    exact Int.le_refl _
  · omega
theorem rz1_le (h : List Int) (c : Con) (hc : c.2.1 < h.length) (x : Nat → Int) (hx : x c.1 + c.2.2 ≤ x c.2.1) (hu : c.1 < h.length) (hp : ∀ v, v < h.length → at0 h v ≤ x v) : ∀ v, v < h.length → at0 (rz1 h c) v ≤ x v := by
  intro v hv
  unfold rz1 at0
  split
  · rw [getD_set _ _ _ _ hc]
    split
    · rename_i e
      subst e
      have := hp c.1 hu
      unfold at0 at this
      omega
    · exact hp v hv
  · exact hp v hv
theorem rz_len : ∀ (cs : List Con) (p : List Int), (rz cs p).length = p.length
  | [], _ => rfl
  | c :: cs, p => by
    show (rz cs (rz1 p c)).length = _
    rw [rz_len cs, rz1_len]
theorem rz_ge : ∀ (cs : List Con) (p : List Int), Ix cs p.length → ∀ v, at0 p v ≤ at0 (rz cs p) v
  | [], _, _, _ => Int.le_refl _
  | c :: cs, p, hi, v => by
    have h1 := rz1_ge p c (hi c List.mem_cons_self).2 v
    have h2 := rz_ge cs (rz1 p c) (fun d hd => by rw [rz1_len]; exact hi d (List.mem_cons_of_mem _ hd)) v
    exact Int.le_trans h1 h2
theorem rz_le : ∀ (cs : List Con) (p : List Int), Ix cs p.length → ∀ x : Nat → Int, Sol cs x → (∀ v, v < p.length → at0 p v ≤ x v) → ∀ v, v < p.length → at0 (rz cs p) v ≤ x v
  | [], _, _, _, _, h => h
  | c :: cs, p, hi, x, hx, h => by
    have hc := hi c List.mem_cons_self
    have h1 := rz1_le p c hc.2 x (hx c List.mem_cons_self) hc.1 h
    have h2 := rz_le cs (rz1 p c) (fun d hd => by rw [rz1_len]; exact hi d (List.mem_cons_of_mem _ hd)) x (fun d hd => hx d (List.mem_cons_of_mem _ hd)) (by rw [rz1_len]; exact h1)
    rw [rz1_len] at h2
    exact h2
theorem rz_con : ∀ (cs : List Con) (p : List Int), Ix cs p.length → ∀ c ∈ cs, at0 p c.1 + c.2.2 ≤ at0 (rz cs p) c.2.1
  | [], _, _, c, hc => by cases hc
  | d :: cs, p, hi, c, hc => by
    have hd := hi d List.mem_cons_self
    have hi' : Ix cs (rz1 p d).length := fun e he => by rw [rz1_len]; exact hi e (List.mem_cons_of_mem _ he)
    rcases List.mem_cons.mp hc with e | hc
    · subst e
      exact Int.le_trans (rz1_con p c hd.2) (rz_ge cs _ hi' _)
    · have h1 := rz1_ge p d hd.2 c.1
      have h2 := rz_con cs (rz1 p d) hi' c hc
      have h3 : at0 (rz (d :: cs) p) c.2.1 = at0 (rz cs (rz1 p d)) c.2.1 := rfl
      rw [h3]
      omega
theorem rz_fix {cs : List Con} {p : List Int} (hi : Ix cs p.length) (h : rz cs p = p) : Sol cs (at0 p) := fun c hc => by
  have := rz_con cs p hi c hc
  rw [h] at this
  exact this
theorem list_ext0 {p q : List Int} (hl : p.length = q.length) (h : ∀ v, v < p.length → at0 p v = at0 q v) : p = q := by
  refine List.ext_getElem hl fun i h1 h2 => ?_
  have := h i h1
  unfold at0 at this
  rw [List.getD_eq_getElem?_getD, List.getD_eq_getElem?_getD, List.getElem?_eq_getElem h1, List.getElem?_eq_getElem h2] at this
  exact this
/-- what comes out is a solution, between -/
theorem lp_sol {cs : List Con} {N : Nat} (hN : 0 < N) (hi : Ix cs N) : ∀ (n : Nat) (p m : List Int), p.length = N → at0 p 0 = 0 → (∀ v, v < N → 0 ≤ at0 p v) → lp cs n p = some m → m.length = N ∧ Sol cs (at0 m) ∧ at0 m 0 = 0 ∧ (∀ v, v < N → 0 ≤ at0 m v) ∧ ∀ x : Nat → Int, Sol cs x → (∀ v, v < N → at0 p v ≤ x v) → ∀ v, v < N → at0 m v ≤ x v
  | 0, p, m, _, _, _, h => by cases h
  | n + 1, p, m, hl, h0, hp, h => by
    have hi' : Ix cs p.length := by rw [hl]; exact hi
    unfold lp at h
    by_cases q : rz cs p = p
    · rw [if_pos q] at h
      cases h
      exact ⟨hl, rz_fix hi' q, h0, hp, fun x _ hx => hx⟩
    · rw [if_neg q] at h
      by_cases z : 0 < (rz cs p).getD 0 0
      · rw [if_pos z] at h; cases h
      · rw [if_neg z] at h
        have g := rz_ge cs p hi'
        have g0 := g 0
        obtain ⟨a1, a2, a3, a4, a5⟩ := lp_sol hN hi n (rz cs p) m (by rw [rz_len, hl]) (by unfold at0 at *; omega) (fun v hv => Int.le_trans (hp v hv) (g v)) h
        refine ⟨a1, a2, a3, a4, fun x hx hpx => a5 x hx ?_⟩
        have := rz_le cs p hi' x hx (by rw [hl]; exact hpx)
        rw [hl] at this
        exact this
/-! sums -/
def sm (f : Nat → Int) : Nat → Int
  | 0 => 0
  | n + 1 => sm f n + f n
theorem sm_le {f g : Nat → Int} : ∀ n, (∀ v, v < n → f v ≤ g v) → sm f n ≤ sm g n
  | 0, _ => Int.le_refl _
  | n + 1, h => by
    have a := sm_le n fun v hv => h v (by omega)
    have b := h n (by omega)
    show sm f n + f n ≤ sm g n + g n
    omega
theorem sm_lt {f g : Nat → Int} : ∀ n, (∀ v, v < n → f v ≤ g v) → (∃ v, v < n ∧ f v < g v) → sm f n < sm g n
  | 0, _, ⟨v, hv, _⟩ => by omega
  | n + 1, h, ⟨v, hv, hlt⟩ => by
    have b := h n (by omega)
    show sm f n + f n < sm g n + g n
    by_cases q : v = n
    · subst q
      have a := sm_le v fun u hu => h u (by omega)
      omega
    · have a := sm_lt n (fun u hu => h u (by omega)) ⟨v, by omega, hlt⟩
      omega
theorem sm_nn {f : Nat → Int} (n : Nat) (h : ∀ v, v < n → 0 ≤ f v) : 0 ≤ sm f n := by
  have := sm_le (f := fun _ => 0) (g := f) n h
  have z : ∀ n, sm (fun _ => 0) n = 0 := by
    intro n
    induction n with
    | zero => rfl
    | succ n ih => show sm _ n + 0 = 0; rw [ih]; rfl
  rw [z] at this
  exact this
/-- a solution from 0 on, 0 at 0 -/
def Sl0 (cs : List Con) (N : Nat) (x : Nat → Int) : Prop := Sol cs x ∧ x 0 = 0 ∧ ∀ v, v < N → 0 ≤ x v
theorem min_sum {cs : List Con} {N : Nat} : ∀ k : Nat, (∃ S, Sl0 cs N S ∧ sm S N ≤ k) → ∃ S, Sl0 cs N S ∧ ∀ S', Sl0 cs N S' → sm S N ≤ sm S' N
  | 0, ⟨S, h1, h2⟩ => ⟨S, h1, fun S' h' => by have := sm_nn N h'.2.2; omega⟩
  | k + 1, ⟨S, h1, h2⟩ => by
    by_cases q : ∃ S, Sl0 cs N S ∧ sm S N ≤ k
    · exact min_sum k q
    · refine ⟨S, h1, fun S' h' => ?_⟩
      have : ¬ sm S' N ≤ k := fun e => q ⟨S', h', e⟩
      omega
/-- how many stand already -/
def cnt (p S : Nat → Int) : Nat → Nat
  | 0 => 0
  | n + 1 => cnt p S n + (if p n < S n then 0 else 1)
theorem cnt_le (p S : Nat → Int) : ∀ n, cnt p S n ≤ n
  | 0 => Nat.le_refl _
  | n + 1 => by
    have := cnt_le p S n
    show cnt p S n + _ ≤ n + 1
    split <;> omega
theorem cnt_mono {p q S : Nat → Int} : ∀ n, (∀ v, v < n → p v ≤ q v) → cnt p S n ≤ cnt q S n
  | 0, _ => Nat.le_refl _
  | n + 1, h => by
    have a := cnt_mono (S := S) n fun v hv => h v (by omega)
    have b := h n (by omega)
    show cnt p S n + _ ≤ cnt q S n + _
    split <;> split <;> omega
theorem cnt_lt {p q S : Nat → Int} : ∀ n, (∀ v, v < n → p v ≤ q v) → (∃ v, v < n ∧ p v < S v ∧ ¬ q v < S v) → cnt p S n < cnt q S n
  | 0, _, ⟨v, hv, _⟩ => by omega
  | n + 1, h, ⟨v, hv, h1, h2⟩ => by
    have b := h n (by omega)
    show cnt p S n + _ < cnt q S n + _
    by_cases e : v = n
    · subst e
      have a := cnt_mono (S := S) v fun u hu => h u (by omega)
      rw [if_pos h1, if_neg h2]
      omega
    · have a := cnt_lt n (fun u hu => h u (by omega)) ⟨v, by omega, h1, h2⟩
      split <;> split <;> omega
theorem cnt_one {p S : Nat → Int} : ∀ n, (∃ v, v < n ∧ ¬ p v < S v) → 1 ≤ cnt p S n
  | 0, ⟨v, hv, _⟩ => by omega
  | n + 1, ⟨v, hv, h⟩ => by
    show 1 ≤ cnt p S n + _
    by_cases e : v = n
    · subst e; rw [if_neg h]; omega
    · have := cnt_one n ⟨v, by omega, h⟩; omega
theorem lp_go {cs : List Con} {N : Nat} (hN : 0 < N) (hi : Ix cs N) {S : Nat → Int} (hS : Sl0 cs N S) (hm : ∀ S', Sl0 cs N S' → sm S N ≤ sm S' N) : ∀ (n : Nat) (p : List Int), p.length = N → (∀ v, v < N → 0 ≤ at0 p v) → (∀ v, v < N → at0 p v ≤ S v) → N + 1 ≤ cnt (at0 p) S N + n → ∃ m, lp cs n p = some m
  | 0, p, hl, h0, hp, hc => by
    have := cnt_le (at0 p) S N
    omega
  | n + 1, p, hl, h0, hp, hc => by
    have hi' : Ix cs p.length := by rw [hl]; exact hi
    have g := rz_ge cs p hi'
    have l := rz_le cs p hi' S hS.1 (by rw [hl]; exact hp)
    rw [hl] at l
    unfold lp
    by_cases q : rz cs p = p
    · exact ⟨p, if_pos q⟩
    · rw [if_neg q]
      have hz : ¬ 0 < (rz cs p).getD 0 0 := by
        have := l 0 hN
        rw [hS.2.1] at this
        unfold at0 at this
        omega
      rw [if_neg hz]
      by_cases hall : ∃ v, v < N ∧ at0 p v < S v
      · have hnew : ∃ v, v < N ∧ at0 p v < S v ∧ ¬ at0 (rz cs p) v < S v := by
          by_cases w : ∃ v, v < N ∧ at0 p v < S v ∧ ¬ at0 (rz cs p) v < S v
          · exact w
          · exfalso
            have w' : ∀ v, v < N → at0 p v < S v → at0 (rz cs p) v < S v := fun v hv h1 => by
              by_cases h2 : at0 (rz cs p) v < S v
              · exact h2
              · exact absurd ⟨v, hv, h1, h2⟩ w
            obtain ⟨S', hS'⟩ : ∃ S' : Nat → Int, ∀ v, S' v = if at0 p v < S v then S v - 1 else S v := ⟨fun v => if at0 p v < S v then S v - 1 else S v, fun _ => rfl⟩
            have hsol : Sl0 cs N S' := by
              refine ⟨fun c hcs => ?_, ?_, fun v hv => ?_⟩
              · have hcu := (hi c hcs).1
                have hcv := (hi c hcs).2
                have e1 := hS.1 c hcs
                have e2 := rz_con cs p hi' c hcs
                have e3 := hp c.1 hcu
                rw [hS' c.1, hS' c.2.1]
                by_cases y1 : at0 p c.2.1 < S c.2.1
                · rw [if_pos y1]
                  have e4 := w' c.2.1 hcv y1
                  by_cases y2 : at0 p c.1 < S c.1
                  · rw [if_pos y2]; omega
                  · rw [if_neg y2]; omega
                · rw [if_neg y1]
                  split <;> omega
              · have e0 := h0 0 hN
                rw [hS' 0, if_neg (by rw [hS.2.1]; omega)]
                exact hS.2.1
              · have e0 := h0 v hv
                have e1 := hS.2.2 v hv
                rw [hS' v]
                split <;> omega
            have hlt : sm S' N < sm S N := by
              refine sm_lt N (fun v hv => by rw [hS' v]; split <;> omega) ?_
              obtain ⟨v, hv, h1⟩ := hall
              exact ⟨v, hv, by rw [hS' v, if_pos h1]; omega⟩
            have := hm S' hsol
            omega
        have hc2 := cnt_lt N (fun v _ => g v) hnew
        exact lp_go hN hi hS hm n (rz cs p) (by rw [rz_len, hl]) (fun v hv => Int.le_trans (h0 v hv) (g v)) l (by omega)
      · exfalso
        refine q (list_ext0 (by rw [rz_len]) fun v hv => ?_)
        rw [rz_len, hl] at hv
        have a := g v
        have b := l v hv
        have c : ¬ at0 p v < S v := fun e => hall ⟨v, hv, e⟩
        omega
def zs (N : Nat) : List Int := List.replicate N 0
theorem zs_at (N v : Nat) : at0 (zs N) v = 0 := by
  unfold at0 zs
  rw [List.getD_eq_getElem?_getD, List.getElem?_replicate]
  split <;> rfl
/-- none: no solution -/
theorem lp_none {cs : List Con} {N : Nat} (hN : 0 < N) (hi : Ix cs N) (h : lp cs N (zs N) = none) : ¬ ∃ S, Sl0 cs N S := by
  rintro ⟨S0, h0⟩
  obtain ⟨S, hS, hm⟩ := min_sum (sm S0 N).toNat ⟨S0, h0, by have := sm_nn N h0.2.2; omega⟩
  obtain ⟨m, e⟩ := lp_go hN hi hS hm N (zs N) (by simp [zs]) (fun v _ => by rw [zs_at]; exact Int.le_refl _) (fun v hv => by rw [zs_at]; exact hS.2.2 v hv) (by
    have := cnt_one (p := at0 (zs N)) (S := S) N ⟨0, hN, by rw [zs_at, hS.2.1]; omega⟩
    omega)
  rw [e] at h
  cases h
theorem lp_some {cs : List Con} {N : Nat} (hN : 0 < N) (hi : Ix cs N) {m : List Int} (h : lp cs N (zs N) = some m) : m.length = N ∧ Sl0 cs N (at0 m) ∧ ∀ x, Sl0 cs N x → ∀ v, v < N → at0 m v ≤ x v := by
  obtain ⟨a1, a2, a3, a4, a5⟩ := lp_sol hN hi N (zs N) m (by simp [zs]) (zs_at N 0) (fun v _ => by rw [zs_at]; exact Int.le_refl _) h
  exact ⟨a1, ⟨a2, a3, a4⟩, fun x hx => a5 x hx.1 fun v hv => by rw [zs_at]; exact hx.2.2 v hv⟩
end Mir

/-! MathC: more meanings evaluated -/
namespace Mir
open PySem PySem.Spec PyProof.Rows L2
section
variable {f g : En → Option PyData} {fa : En → Option (List PyData)} {env : En} {ds : List PyData}
theorem cut_pre {ds : List PyData} (n : Nat) (h : n ≤ ds.length) : cutL ds none (some (n : Int)) = ds.take n := by
  unfold cutL
  rw [HT.sIx_none, HT.sIx_nat]
  simp [Nat.min_eq_left h]
theorem cut_post {ds : List PyData} (n : Nat) (h : n ≤ ds.length) : cutL ds (some (n : Int)) none = ds.drop n := by
  unfold cutL
  rw [HT.sIx_none, HT.sIx_nat, Nat.min_eq_left h]
  rw [List.take_of_length_le (by simp)]
theorem cut_mid {ds : List PyData} (m n : Nat) (h : m ≤ n) (h2 : n ≤ ds.length) : cutL ds (some (m : Int)) (some (n : Int)) = (ds.drop m).take (n - m) := by
  unfold cutL
  rw [HT.sIx_nat, HT.sIx_nat, Nat.min_eq_left h2, Nat.min_eq_left (Nat.le_trans h h2)]
theorem oSome_ev {k : Int} (h : g env = some (.int k)) : oSome g env = some (some k) := by
  unfold oSome
  rw [h]
theorem slT_pre {n : Nat} {k : Int} (h1 : f env = some (.tuple ds)) (h2 : g env = some (.int k)) (hk : k = (n : Nat)) (h3 : n ≤ ds.length) : eSl f oNone (oSome g) env = some (.tuple (ds.take n)) := by
  subst hk
  unfold eSl
  rw [h1, oSome_ev h2]
  show some (PyData.tuple (cutL ds none (some (n : Int)))) = _
  rw [cut_pre n h3]
theorem slT_post {n : Nat} {k : Int} (h1 : f env = some (.tuple ds)) (h2 : g env = some (.int k)) (hk : k = (n : Nat)) (h3 : n ≤ ds.length) : eSl f (oSome g) oNone env = some (.tuple (ds.drop n)) := by
  subst hk
  unfold eSl
  rw [h1, oSome_ev h2]
  show some (PyData.tuple (cutL ds (some (n : Int)) none)) = _
  rw [cut_post n h3]
theorem slL_pre {n : Nat} {k : Int} (h1 : f env = some (.list ds)) (h2 : g env = some (.int k)) (hk : k = (n : Nat)) (h3 : n ≤ ds.length) : eSl f oNone (oSome g) env = some (.list (ds.take n)) := by
  subst hk
  unfold eSl
  rw [h1, oSome_ev h2]
  show some (PyData.list (cutL ds none (some (n : Int)))) = _
  rw [cut_pre n h3]
theorem slL_post {n : Nat} {k : Int} (h1 : f env = some (.list ds)) (h2 : g env = some (.int k)) (hk : k = (n : Nat)) (h3 : n ≤ ds.length) : eSl f (oSome g) oNone env = some (.list (ds.drop n)) := by
  subst hk
  unfold eSl
  rw [h1, oSome_ev h2]
  show some (PyData.list (cutL ds (some (n : Int)) none)) = _
  rw [cut_post n h3]
theorem zipD_map {α β : Type} (u : α → PyData) (v : β → PyData) : ∀ (xs : List α) (ys : List β), zipD (xs.map u) (ys.map v) = (xs.zip ys).map fun q => .tuple [u q.1, v q.2]
  | [], _ => by simp [zipD]
  | _ :: _, [] => by simp [zipD]
  | x :: xs, y :: ys => by
    simp only [List.map_cons, zipD, List.zip_cons_cons]
    rw [zipD_map u v xs ys]
theorem sumA_ev {ns : List Int} (h : fa env = some [.list (ns.map .int)]) : eCall sumA fa env = some (.int ns.sum) := by
  unfold eCall
  rw [h]
  show (intsD (ns.map PyData.int)).map (fun ns => PyData.int ns.sum) = _
  rw [intsD_map]
  rfl
theorem loopF_step {g : PyData → En → Option En} {b : En → Out} {d : PyData} {ds : List PyData} {e e1 e2 : En} (h1 : g d e = some e1) (h2 : b e1 = .nx e2) : loopF g b (d :: ds) e = loopF g b ds e2 := by
  simp only [loopF, h1, h2]
theorem e1_ev {k : PyData → Option PyData} {d x : PyData} (h1 : f env = some x) (h2 : k x = some d) : e1 k f env = some d := by
  unfold e1
  rw [h1]
  exact h2
theorem ixG_t {j : Nat} {k : Int} {d : PyData} (h : ds[j]? = some d) (hk : k = (j : Nat)) : ixG (.tuple ds) (.int k) = some d := by subst hk; exact atI_nat h
theorem ixG_l {j : Nat} {k : Int} {d : PyData} (h : ds[j]? = some d) (hk : k = (j : Nat)) : ixG (.list ds) (.int k) = some d := by subst hk; exact atI_nat h
theorem len_l {i : En → Option PyData} (h : i env = some (.list ds)) : eCall lenA (aCons i aNil) env = some (.int (ds.length : Nat)) := by
  refine eCall_ev (aCons_ev h aNil_ev) ?_
  simp [lenA]
theorem len_t {i : En → Option PyData} (h : i env = some (.tuple ds)) : eCall lenA (aCons i aNil) env = some (.int (ds.length : Nat)) := by
  refine eCall_ev (aCons_ev h aNil_ev) ?_
  simp [lenA]
theorem eMinK_ev {gk : List PyData → Option PyData} {qs : List (PyData × PyData)} {d : PyData} (h1 : f env = some (.list (qs.map (·.1)))) (h2 : keysD gk (qs.map (·.1)) = some qs) (h3 : keysB qs = true) (h4 : 0 < qs.length) (h5 : (bestK qs (qs.length - 1)).1 = d) : eMinK gk f env = some d := by
  unfold eMinK
  rw [h1]
  simp only
  rw [h2]
  simp only
  rw [if_pos ⟨h3, h4⟩, h5]
theorem keysD_map {α : Type} {gk : List PyData → Option PyData} {u k : α → PyData} : ∀ {xs : List α}, (∀ x ∈ xs, gk [u x] = some (k x)) → keysD gk (xs.map u) = some (xs.map fun x => (u x, k x))
  | [], _ => rfl
  | x :: xs, h => by
    simp only [List.map_cons, keysD]
    rw [h x List.mem_cons_self, keysD_map fun y hy => h y (List.mem_cons_of_mem _ hy)]
    rfl
theorem keysB_map {α : Type} {u k : α → PyData} {xs : List α} (h1 : ∀ x ∈ xs, noD (k x) = true ∧ (k x).depth ≤ 60 ∧ k x ≠ .none) (h2 : ∀ x ∈ xs, ∀ y ∈ xs, PySem.W.alike (k x) (k y) = true) : keysB (xs.map fun x => (u x, k x)) = true := by
  unfold keysB
  rw [List.all_eq_true]
  intro q hq
  obtain ⟨x, hx, rfl⟩ := List.mem_map.mp hq
  obtain ⟨n1, n2, n3⟩ := h1 x hx
  rw [Bool.and_eq_true, Bool.and_eq_true, List.all_eq_true]
  refine ⟨⟨by simp [keyOk, n1, n2], ?_⟩, fun q' hq' => ?_⟩
  · show (match k x with | .none => false | _ => true) = true
    cases e : k x with
    | none => exact absurd e n3
    | _ => rfl
  · obtain ⟨y, hy, rfl⟩ := List.mem_map.mp hq'
    exact h2 x hx y hy
end
section
variable {κ : Type} [DecidableEq κ] {kd : κ → PyData} {kk : PyData → Option κ}
theorem getD_cons {k : κ} {p : PyData × PyData} {kvs : List (PyData × PyData)} : getD' kk (p :: kvs) k = if kk p.1 = some k then some p.2 else getD' kk kvs k := by
  unfold getD'
  rw [List.find?_cons]
  by_cases h : kk p.1 = some k
  · rw [if_pos h, decide_eq_true h]; rfl
  · rw [if_neg h, decide_eq_false h]
theorem get_app (hk : ∀ k, kk (kd k) = some k) {k q : κ} {d : PyData} : ∀ {kvs : List (PyData × PyData)}, (kvs.any fun p => decide (kk p.1 = some k)) = false → getD' kk (kvs ++ [(kd k, d)]) q = if q = k then some d else getD' kk kvs q
  | [], _ => by
    rw [List.nil_append, getD_cons]
    by_cases h : q = k
    · rw [if_pos h, if_pos (by rw [h]; exact hk k)]
    · rw [if_neg h, if_neg fun z => by rw [hk] at z; exact h (Option.some.inj z).symm]
  | p :: kvs, h => by
    rw [List.any_cons, Bool.or_eq_false_iff] at h
    have h1 : kk p.1 ≠ some k := of_decide_eq_false h.1
    rw [List.cons_append, getD_cons, getD_cons, get_app hk h.2]
    by_cases z : kk p.1 = some q
    · rw [if_pos z, if_pos z, if_neg fun e => h1 (by rw [z, e])]
    · rw [if_neg z, if_neg z]
theorem get_map {k q : κ} {d : PyData} : ∀ {kvs : List (PyData × PyData)}, getD' kk (kvs.map fun p => if kk p.1 = some k then (p.1, d) else p) q = if q = k then (if (kvs.any fun p => decide (kk p.1 = some k)) = true then some d else none) else getD' kk kvs q
  | [] => by
    by_cases h : q = k
    · rw [if_pos h]; rfl
    · rw [if_neg h]; rfl
  | p :: kvs => by
    rw [List.map_cons, getD_cons, get_map (kvs := kvs), getD_cons]
    by_cases z : kk p.1 = some k
    · rw [if_pos z]
      by_cases h : q = k
      · subst h; simp [z]
      · have h' : ¬ (some k = some q) := fun e => h (Option.some.inj e).symm
        simp [z, h, h']
    · rw [if_neg z]
      by_cases h : q = k
      · subst h
        rw [if_neg z, if_pos rfl, if_pos rfl, List.any_cons, decide_eq_false z, Bool.false_or]
      · simp [h]
theorem get_put (hk : ∀ k, kk (kd k) = some k) {k q : κ} {d : PyData} {kvs : List (PyData × PyData)} : getD' kk (putD kd kk kvs k d) q = if q = k then some d else getD' kk kvs q := by
  unfold putD
  by_cases h : (kvs.any fun p => decide (kk p.1 = some k)) = true
  · rw [if_pos h, get_map, if_pos h]
  · rw [if_neg h]
    exact get_app hk (by simpa using h)
theorem put_len {k : κ} {d : PyData} {kvs : List (PyData × PyData)} : (putD kd kk kvs k d).length ≤ kvs.length + 1 := by
  unfold putD
  split <;> simp
theorem getO_ev {i : Nat} {g : En → Option PyData} {env : En} {kvs : List (PyData × PyData)} {q : Key} {k d : PyData} (h1 : env[i]? = some (.ownK kvs)) (h2 : g env = some k) (h3 : kK k = some q) (h4 : getD' kK kvs q = some d) : eGetO i g env = some d := by
  unfold eGetO
  rw [h1]
  simp only
  rw [h2]
  simp only
  rw [h3]
  exact h4
theorem putK_ev {i : Nat} {fk f : En → Option PyData} {env : En} {kvs : List (PyData × PyData)} {q : Key} {k d : PyData} (h1 : f env = some d) (h2 : fk env = some k) (h3 : env[i]? = some (.ownK kvs)) (h4 : kK k = some q) (h5 : kvs.length < 1000000) : sPutD i fk f env = .nx (env.set i (.ownK (putD kdD kK kvs q d))) := by
  unfold sPutD
  rw [h1]
  simp only
  rw [h2]
  simp only
  rw [h3]
  simp only
  rw [h4]
  simp only
  rw [if_pos h5]
theorem chI_t {k1 k2 : Int → Int → Bool} {f g h : En → Option PyData} {env : En} {i j m : Int} (h1 : f env = some (.int i)) (h2 : g env = some (.int j)) (h3 : h env = some (.int m)) (h4 : k1 i j = true) : chI k1 k2 f g h env = some (.bool (k2 j m)) := by
  unfold chI
  rw [h1]
  simp only
  rw [h2]
  simp only
  rw [if_pos h4, h3]
end
/-! loops that look for the first that decides -/
section
theorem loop_find {α : Type} {g : PyData → En → Option En} {b : En → Out} (c : α → PyData) (o : α → Option PyData) (E : En → Prop) : ∀ (xs : List α) (e : En), E e →
    (∀ x ∈ xs, ∀ e, E e → ∃ e1, g (c x) e = some e1 ∧ match o x with | none => ∃ e2, b e1 = .nx e2 ∧ E e2 | some v => b e1 = .rt v) →
    match xs.findSome? o with | none => ∃ e', loopF g b (xs.map c) e = .nx e' ∧ E e' | some v => loopF g b (xs.map c) e = .rt v
  | [], e, he, _ => ⟨e, rfl, he⟩
  | x :: xs, e, he, h => by
    obtain ⟨e1, h1, h2⟩ := h x List.mem_cons_self e he
    rw [List.findSome?_cons]
    cases ho : o x with
    | some v =>
      rw [ho] at h2
      show loopF g b (c x :: xs.map c) e = .rt v
      simp only [loopF, h1, show b e1 = .rt v from h2]
    | none =>
      rw [ho] at h2
      obtain ⟨e2, h3, h4⟩ := h2
      have ih := loop_find c o E xs e2 h4 fun y hy => h y (List.mem_cons_of_mem _ hy)
      have st : loopF g b ((x :: xs).map c) e = loopF g b (xs.map c) e2 := by
        show loopF g b (c x :: xs.map c) e = _
        simp only [loopF, h1, h3]
      rw [st]
      exact ih
theorem rngD_map (lo : Int) (n : Nat) : rngD lo n = (List.range n).map fun k : Nat => PyData.int (lo + (k : Nat)) := rfl
theorem cond_find {α : Type} (p : α → Bool) (v : PyData) : ∀ xs : List α, xs.findSome? (fun x => if p x = true then some v else none) = if xs.any p = true then some v else none
  | [] => rfl
  | x :: xs => by
    rw [List.findSome?_cons, List.any_cons]
    cases h : p x with
    | true => simp
    | false => simpa using cond_find p v xs
end
end Mir

namespace Mir
open PySem PySem.Spec PyProof.Rows L2
/-! ### the first of the least keys, by place -/
theorem dataLt_trans {a b c : PyData} (h1 : PySem.W.dataLt a b = true) (h2 : PySem.W.dataLt b c = true) : PySem.W.dataLt a c = true := lex_trans (O := itemOrd) _ _ _ h1 h2
theorem bestK_min {qs : List (PyData × PyData)} : ∀ {j : Nat}, j < qs.length → ∀ i (hi : i < qs.length), i ≤ j → PySem.W.dataLt qs[i].2 (bestK qs j).2 = false
  | 0, hj, i, hi, h => by
    obtain rfl : i = 0 := by omega
    have e : bestK qs 0 = qs[0] := by unfold bestK; rw [List.getD_eq_getElem?_getD, List.getElem?_eq_getElem hj]; rfl
    rw [e]
    exact PySem.W.dataLt_self _
  | j + 1, hj, i, hi, h => by
    have ih := bestK_min (qs := qs) (j := j) (by omega)
    have e : qs.getD (j + 1) (PyData.none, PyData.none) = qs[j + 1] := by rw [List.getD_eq_getElem?_getD, List.getElem?_eq_getElem hj]; rfl
    show PySem.W.dataLt qs[i].2 (stK (bestK qs j) (qs.getD (j + 1) (PyData.none, PyData.none))).2 = false
    rw [e]
    unfold stK
    by_cases c : PySem.W.dataLt qs[j + 1].2 (bestK qs j).2 = true
    · rw [if_pos c]
      by_cases q : i = j + 1
      · subst q; exact PySem.W.dataLt_self _
      · cases d : PySem.W.dataLt qs[i].2 qs[j + 1].2 with
        | false => rfl
        | true => rw [← ih i hi (by omega), dataLt_trans d c]
    · rw [if_neg c]
      by_cases q : i = j + 1
      · subst q; simpa using c
      · exact ih i hi (by omega)
/-! ### lists of ints, by their first difference -/
def llt : List Int → List Int → Prop
  | [], [] => False
  | [], _ :: _ => True
  | _ :: _, [] => False
  | x :: xs, y :: ys => x < y ∨ (x = y ∧ llt xs ys)
theorem llt_irr : ∀ x : List Int, ¬ llt x x
  | [], h => by simp [llt] at h
  | x :: xs, h => by
    rcases h with h | ⟨_, h⟩
    · omega
    · exact llt_irr xs h
theorem llt_trans : ∀ {x y z : List Int}, llt x y → llt y z → llt x z
  | [], [], _, h, _ => by simp [llt] at h
  | [], _ :: _, [], _, h => by simp [llt] at h
  | [], _ :: _, _ :: _, _, _ => by simp [llt]
  | _ :: _, [], _, h, _ => by simp [llt] at h
  | _ :: _, _ :: _, [], _, h => by simp [llt] at h
  | a :: x, b :: y, c :: z, h1, h2 => by
    rcases h1 with h1 | ⟨rfl, h1⟩
    · rcases h2 with h2 | ⟨rfl, h2⟩
      · exact .inl (by omega)
      · exact .inl h1
    · rcases h2 with h2 | ⟨rfl, h2⟩
      · exact .inl h2
      · exact .inr ⟨rfl, llt_trans h1 h2⟩
theorem llt_tri : ∀ (x y : List Int), llt x y ∨ x = y ∨ llt y x
  | [], [] => .inr (.inl rfl)
  | [], _ :: _ => .inl (by simp [llt])
  | _ :: _, [] => .inr (.inr (by simp [llt]))
  | a :: x, b :: y => by
    by_cases h : a < b
    · exact .inl (.inl h)
    · by_cases h2 : b < a
      · exact .inr (.inr (.inl h2))
      · obtain rfl : a = b := by omega
        rcases llt_tri x y with q | rfl | q
        · exact .inl (.inr ⟨rfl, q⟩)
        · exact .inr (.inl rfl)
        · exact .inr (.inr (.inr ⟨rfl, q⟩))
theorem listLt_llt : ∀ (x y : List Int), PySem.W.listLt x y = true ↔ llt x y
  | [], [] => by simp [PySem.W.listLt, llt]
  | [], _ :: _ => by simp [PySem.W.listLt, llt]
  | _ :: _, [] => by simp [PySem.W.listLt, llt]
  | a :: x, b :: y => by
    rw [PySem.W.listLt]
    by_cases h : a = b
    · subst h
      rw [if_pos rfl, listLt_llt x y]
      simp [llt]
    · rw [if_neg h]
      show decide (a < b) = true ↔ _
      simp [llt, h]
/-- cost, blanks, counts with their signs turned -/
def klt (a b : Int × Int × List Int) : Prop := a.1 < b.1 ∨ (a.1 = b.1 ∧ (a.2.1 < b.2.1 ∨ (a.2.1 = b.2.1 ∧ llt a.2.2 b.2.2)))
theorem klt_irr (a : Int × Int × List Int) : ¬ klt a a := by
  rintro (h | ⟨_, h | ⟨_, h⟩⟩)
  · omega
  · omega
  · exact llt_irr _ h
theorem klt_trans {a b c : Int × Int × List Int} (h1 : klt a b) (h2 : klt b c) : klt a c := by
  rcases h1 with h1 | ⟨e1, h1 | ⟨e2, h1⟩⟩
  · rcases h2 with h2 | ⟨f1, _⟩
    · exact .inl (by omega)
    · exact .inl (by omega)
  · rcases h2 with h2 | ⟨f1, h2 | ⟨f2, h2⟩⟩
    · exact .inl (by omega)
    · exact .inr ⟨by omega, .inl (by omega)⟩
    · exact .inr ⟨by omega, .inl (by omega)⟩
  · rcases h2 with h2 | ⟨f1, h2 | ⟨f2, h2⟩⟩
    · exact .inl (by omega)
    · exact .inr ⟨by omega, .inl (by omega)⟩
    · exact .inr ⟨by omega, .inr ⟨by omega, llt_trans h1 h2⟩⟩
theorem klt_tri (a b : Int × Int × List Int) : klt a b ∨ a = b ∨ klt b a := by
  obtain ⟨a1, a2, a3⟩ := a
  obtain ⟨b1, b2, b3⟩ := b
  by_cases h : a1 < b1
  · exact .inl (.inl h)
  by_cases h' : b1 < a1
  · exact .inr (.inr (.inl h'))
  obtain rfl : a1 = b1 := by omega
  by_cases g : a2 < b2
  · exact .inl (.inr ⟨rfl, .inl g⟩)
  by_cases g' : b2 < a2
  · exact .inr (.inr (.inr ⟨rfl, .inl g'⟩))
  obtain rfl : a2 = b2 := by omega
  rcases llt_tri a3 b3 with q | rfl | q
  · exact .inl (.inr ⟨rfl, .inr ⟨rfl, q⟩⟩)
  · exact .inr (.inl rfl)
  · exact .inr (.inr (.inr ⟨rfl, .inr ⟨rfl, q⟩⟩))
/-- a ≤ b ≤ c -/
theorem kle_trans {a b c : Int × Int × List Int} (h1 : ¬ klt b a) (h2 : ¬ klt c b) : ¬ klt c a := fun h => by
  rcases klt_tri a b with q | rfl | q
  · exact h2 (klt_trans h q)
  · exact h2 h
  · exact h1 q
/-- the key as data: the counts as a list (t := false) or as a tuple -/
def keyD (t : Bool) (a : Int × Int × List Int) : PyData := .tuple [.int a.1, .int a.2.1, if t then .tuple (a.2.2.map .int) else .list (a.2.2.map .int)]
theorem all_ints_lt (x y : List Int) : PyProof.Rows.lexLt itemOrd (PySem.W.keyToksAll (x.map PyData.int)) (PySem.W.keyToksAll (y.map PyData.int)) = PySem.W.listLt x y := PySem.W.lexAll_map (α := Int) x y
theorem alike_ints2 (x y : List Int) : PySem.W.alikeAll (x.map PyData.int) (y.map PyData.int) = true := PySem.W.alikeAll_map (α := Int) x y
theorem int_alike (x y : Int) : PySem.W.alike (.int x) (.int y) = true := by simp only [PySem.W.alike]
theorem key_alike (t : Bool) (a b : Int × Int × List Int) : PySem.W.alike (keyD t a) (keyD t b) = true := by
  unfold keyD
  cases t <;> simp [PySem.W.alike, PySem.W.alikeAll, alike_ints2]
theorem int_eqv (x y : Int) : PyData.eqv (.int x) (.int y) = decide (x = y) := by
  have := eqD_int x y
  unfold eqD at this
  rw [if_pos (by rw [shaped_int, shaped_int]; rfl)] at this
  simpa using this
theorem key_lt (t : Bool) (a b : Int × Int × List Int) : PySem.W.dataLt (keyD t a) (keyD t b) = true ↔ klt a b := by
  unfold keyD klt
  rw [PySem.W.dataLt_tuple]
  by_cases h1 : a.1 = b.1
  · rw [PySem.W.dataLt_all_yes (int_alike _ _) (by rw [int_eqv, decide_eq_true h1])]
    by_cases h2 : a.2.1 = b.2.1
    · rw [PySem.W.dataLt_all_yes (int_alike _ _) (by rw [int_eqv, decide_eq_true h2])]
      have one : ∀ x y : PyData, PySem.W.alike x y = true → PyProof.Rows.lexLt itemOrd (PySem.W.keyToksAll [x]) (PySem.W.keyToksAll [y]) = PySem.W.dataLt x y := fun x y al => by
        cases e : PyData.eqv x y with
        | true =>
          rw [PySem.W.dataLt_all_yes al e, lex_irrefl]
          unfold PySem.W.dataLt
          rw [(PySem.W.toks_eqv x y al).1 e, lex_irrefl]
        | false => exact PySem.W.dataLt_all_no al e
      have e3 : PySem.W.dataLt (if t = true then PyData.tuple (a.2.2.map PyData.int) else PyData.list (a.2.2.map PyData.int)) (if t = true then PyData.tuple (b.2.2.map PyData.int) else PyData.list (b.2.2.map PyData.int)) = PySem.W.listLt a.2.2 b.2.2 := by
        cases t with
        | true => exact (PySem.W.dataLt_tuple _ _).trans (all_ints_lt _ _)
        | false => exact (PySem.W.dataLt_list _ _).trans (all_ints_lt _ _)
      rw [one _ _ (by cases t <;> simp [PySem.W.alike, alike_ints2]), e3, listLt_llt]
      simp [h1, h2]
    · rw [PySem.W.dataLt_all_no (int_alike _ _) (by rw [int_eqv, decide_eq_false h2]), PySem.W.dataLt_int]
      simp [h1, h2]
  · rw [PySem.W.dataLt_all_no (int_alike _ _) (by rw [int_eqv, decide_eq_false h1]), PySem.W.dataLt_int]
    simp [h1]
theorem noD_ints : ∀ x : List Int, noDA (x.map PyData.int) = true
  | [] => by rw [List.map_nil, noDA]
  | a :: x => by rw [List.map_cons, noDA, noD, noD_ints x]; rfl
theorem key_noD (t : Bool) (a : Int × Int × List Int) : noD (keyD t a) = true := by
  unfold keyD
  cases t <;> simp [noD, noDA, noD_ints]
theorem key_depth (t : Bool) (a : Int × Int × List Int) : (keyD t a).depth ≤ 60 := by
  unfold keyD
  cases t <;> simp [PyData.depth, PyData.depthAll, depth_ints]
/-! ### make-ups -/
abbrev KdT := Int × Int × Int
def pcK (k : KdT) : Int := 2 * k.1 * k.2.1
def kdK (k : KdT) : PyData := .tuple [.int k.1, .int k.2.1, .int k.2.2]
def tot : List KdT → List Int → Int
  | k :: ks, c :: cs => c * pcK k + tot ks cs
  | _, _ => 0
def cst : List KdT → List Int → Int
  | k :: ks, c :: cs => c * k.2.2 + cst ks cs
  | _, _ => 0
def okK (k : KdT) : Prop := 1 ≤ k.1 ∧ k.1 ≤ 4 ∧ 1 ≤ k.2.1 ∧ k.2.1 ≤ 4 ∧ 1 ≤ k.2.2 ∧ k.2.2 ≤ 20
theorem pcK_pos {k : KdT} (h : okK k) : 2 ≤ pcK k ∧ pcK k ≤ 32 := by
  obtain ⟨a, b, c⟩ := k
  obtain ⟨h1, h2, h3, h4, _⟩ := h
  simp only at h1 h2 h3 h4
  unfold pcK
  simp only
  have ha : a = 1 ∨ a = 2 ∨ a = 3 ∨ a = 4 := by omega
  rcases ha with rfl | rfl | rfl | rfl <;> omega
def inc : Nat → List Int → List Int
  | 0, x :: xs => (x + 1) :: xs
  | p + 1, x :: xs => x :: inc p xs
  | _, [] => []
def dec : Nat → List Int → List Int
  | 0, x :: xs => (x - 1) :: xs
  | p + 1, x :: xs => x :: dec p xs
  | _, [] => []
theorem inc_len : ∀ (p : Nat) (c : List Int), (inc p c).length = c.length
  | 0, [] => rfl
  | 0, _ :: _ => rfl
  | p + 1, [] => rfl
  | p + 1, x :: xs => by rw [inc, List.length_cons, List.length_cons, inc_len p xs]
theorem dec_len : ∀ (p : Nat) (c : List Int), (dec p c).length = c.length
  | 0, [] => rfl
  | 0, _ :: _ => rfl
  | p + 1, [] => rfl
  | p + 1, x :: xs => by rw [dec, List.length_cons, List.length_cons, dec_len p xs]
theorem inc_dec : ∀ (p : Nat) (c : List Int), inc p (dec p c) = c
  | 0, [] => rfl
  | 0, x :: xs => by rw [dec, inc, Int.sub_add_cancel]
  | p + 1, [] => rfl
  | p + 1, x :: xs => by rw [dec, inc, inc_dec p xs]
theorem inc_eq : ∀ (p : Nat) (c : List Int), p < c.length → c.take p ++ [c.getD p 0 + 1] ++ c.drop (p + 1) = inc p c
  | _, [], h => by simp at h
  | 0, x :: xs, _ => by simp [inc]
  | p + 1, x :: xs, h => by
    have := inc_eq p xs (by simpa using h)
    rw [inc, ← this]
    simp
theorem dec_eq : ∀ (p : Nat) (c : List Int), p < c.length → c.take p ++ [c.getD p 0 - 1] ++ c.drop (p + 1) = dec p c
  | _, [], h => by simp at h
  | 0, x :: xs, _ => by simp [dec]
  | p + 1, x :: xs, h => by
    have := dec_eq p xs (by simpa using h)
    rw [dec, ← this]
    simp
theorem tot_inc : ∀ (ks : List KdT) (c : List Int) (p : Nat) (k : KdT), ks[p]? = some k → c.length = ks.length → tot ks (inc p c) = tot ks c + pcK k
  | [], _, _, _, h, _ => by simp at h
  | _ :: _, [], _, _, _, h => by simp at h
  | k :: ks, x :: xs, 0, k', h, _ => by
    simp at h
    subst h
    simp only [inc, tot, Int.add_mul, Int.one_mul]; omega
  | k :: ks, x :: xs, p + 1, k', h, hl => by
    simp only [inc, tot]
    rw [tot_inc ks xs p k' (by simpa using h) (by simpa using hl)]; omega
theorem cst_inc : ∀ (ks : List KdT) (c : List Int) (p : Nat) (k : KdT), ks[p]? = some k → c.length = ks.length → cst ks (inc p c) = cst ks c + k.2.2
  | [], _, _, _, h, _ => by simp at h
  | _ :: _, [], _, _, _, h => by simp at h
  | k :: ks, x :: xs, 0, k', h, _ => by
    simp at h
    subst h
    simp only [inc, cst, Int.add_mul, Int.one_mul]; omega
  | k :: ks, x :: xs, p + 1, k', h, hl => by
    simp only [inc, cst]
    rw [cst_inc ks xs p k' (by simpa using h) (by simpa using hl)]; omega
theorem llt_inc : ∀ (x y : List Int) (p : Nat), x.length = y.length → (llt ((inc p x).map (- ·)) ((inc p y).map (- ·)) ↔ llt (x.map (- ·)) (y.map (- ·)))
  | [], [], p, _ => by cases p <;> simp [inc, llt]
  | [], _ :: _, _, h => by simp at h
  | _ :: _, [], _, h => by simp at h
  | a :: x, b :: y, 0, _ => by
    simp only [inc, List.map_cons, llt]
    constructor
    · rintro (h | ⟨h, q⟩)
      · exact .inl (by omega)
      · exact .inr ⟨by omega, q⟩
    · rintro (h | ⟨h, q⟩)
      · exact .inl (by omega)
      · exact .inr ⟨by omega, q⟩
  | a :: x, b :: y, p + 1, h => by
    simp only [inc, List.map_cons, llt]
    rw [llt_inc x y p (by simpa using h)]
def keyK (ks : List KdT) (c : List Int) : Int × Int × List Int := (cst ks c, tot ks c, c.map (- ·))
theorem key_inc {ks : List KdT} {x y : List Int} {p : Nat} {k : KdT} (h : ks[p]? = some k) (h1 : x.length = ks.length) (h2 : y.length = ks.length) : klt (keyK ks (inc p x)) (keyK ks (inc p y)) ↔ klt (keyK ks x) (keyK ks y) := by
  unfold klt keyK
  simp only
  rw [tot_inc ks x p k h h1, tot_inc ks y p k h h2, cst_inc ks x p k h h1, cst_inc ks y p k h h2, llt_inc x y p (by omega)]
  constructor
  · rintro (q | ⟨q, q' | ⟨q', w⟩⟩)
    · exact .inl (by omega)
    · exact .inr ⟨by omega, .inl (by omega)⟩
    · exact .inr ⟨by omega, .inr ⟨by omega, w⟩⟩
  · rintro (q | ⟨q, q' | ⟨q', w⟩⟩)
    · exact .inl (by omega)
    · exact .inr ⟨by omega, .inl (by omega)⟩
    · exact .inr ⟨by omega, .inr ⟨by omega, w⟩⟩
structure Vd (ks : List KdT) (n : Int) (c : List Int) : Prop where
  len : c.length = ks.length
  nn : ∀ x ∈ c, 0 ≤ x
  en : n ≤ tot ks c
structure Best (ks : List KdT) (n : Nat) (o : List Int) : Prop where
  vd : Vd ks n o
  le : ∀ x ∈ o, x ≤ n
  min : ∀ c, Vd ks n c → ¬ klt (keyK ks c) (keyK ks o)
theorem tot_nn : ∀ {ks : List KdT} {c : List Int}, (∀ k ∈ ks, okK k) → (∀ x ∈ c, 0 ≤ x) → 0 ≤ tot ks c
  | [], _, _, _ => by simp [tot]
  | _ :: _, [], _, _ => by simp [tot]
  | k :: ks, x :: xs, hk, hc => by
    have h1 := tot_nn (ks := ks) (c := xs) (fun k h => hk k (List.mem_cons_of_mem _ h)) fun k h => hc k (List.mem_cons_of_mem _ h)
    have h2 := Int.mul_nonneg (hc x List.mem_cons_self) (show 0 ≤ pcK k by have := pcK_pos (hk k List.mem_cons_self); omega)
    simp only [tot]; omega
theorem cst_nn : ∀ {ks : List KdT} {c : List Int}, (∀ k ∈ ks, okK k) → (∀ x ∈ c, 0 ≤ x) → 0 ≤ cst ks c
  | [], _, _, _ => by simp [cst]
  | _ :: _, [], _, _ => by simp [cst]
  | k :: ks, x :: xs, hk, hc => by
    have h1 := cst_nn (ks := ks) (c := xs) (fun k h => hk k (List.mem_cons_of_mem _ h)) fun k h => hc k (List.mem_cons_of_mem _ h)
    have h2 := Int.mul_nonneg (hc x List.mem_cons_self) (show 0 ≤ k.2.2 by have := hk k List.mem_cons_self; unfold okK at this; omega)
    simp only [cst]; omega
theorem tot_zero : ∀ (ks : List KdT) (n : Nat), tot ks (List.replicate n 0) = 0
  | [], _ => by simp [tot]
  | _ :: _, 0 => by simp [tot]
  | k :: ks, n + 1 => by rw [List.replicate_succ, tot, tot_zero ks n]; simp
theorem cst_zero : ∀ (ks : List KdT) (n : Nat), cst ks (List.replicate n 0) = 0
  | [], _ => by simp [cst]
  | _ :: _, 0 => by simp [cst]
  | k :: ks, n + 1 => by rw [List.replicate_succ, cst, cst_zero ks n]; simp
theorem cst_pos : ∀ {ks : List KdT} {c : List Int}, (∀ k ∈ ks, okK k) → (∀ x ∈ c, 0 ≤ x) → c.length = ks.length → cst ks c = 0 → c = List.replicate ks.length 0
  | [], [], _, _, _, _ => rfl
  | [], _ :: _, _, _, h, _ => by simp at h
  | _ :: _, [], _, _, h, _ => by simp at h
  | k :: ks, x :: xs, hk, hc, hl, h => by
    have h1 := cst_nn (ks := ks) (c := xs) (fun k h => hk k (List.mem_cons_of_mem _ h)) fun k h => hc k (List.mem_cons_of_mem _ h)
    have kp : 1 ≤ k.2.2 := by have := hk k List.mem_cons_self; unfold okK at this; omega
    have x0 := hc x List.mem_cons_self
    have h2 := Int.mul_nonneg x0 (show 0 ≤ k.2.2 by omega)
    simp only [cst] at h
    have h3 : x * k.2.2 = 0 := by omega
    have h4 : x = 0 := by
      rcases Int.mul_eq_zero.mp h3 with q | q
      · exact q
      · omega
    rw [List.length_cons, List.replicate_succ, h4, ← cst_pos (ks := ks) (c := xs) (fun k h => hk k (List.mem_cons_of_mem _ h)) (fun k h => hc k (List.mem_cons_of_mem _ h)) (by simpa using hl) (by omega)]
theorem best_zero {ks : List KdT} (hk : ∀ k ∈ ks, okK k) : Best ks 0 (List.replicate ks.length 0) where
  vd := ⟨by simp, fun x h => by rw [List.eq_of_mem_replicate h]; exact Int.le_refl _, by rw [tot_zero]; exact Int.le_refl _⟩
  le := fun x h => by rw [List.eq_of_mem_replicate h]; exact Int.le_refl _
  min := fun c v h => by
    have h0 := h
    have c0 := cst_nn hk v.nn
    have z := cst_zero ks ks.length
    have t := tot_zero ks ks.length
    rcases h with h | ⟨h, _⟩
    · simp only [keyK] at h; omega
    · simp only [keyK] at h
      have e := cst_pos hk v.nn v.len (by omega)
      subst e
      exact klt_irr _ h0
theorem tot_pos : ∀ {ks : List KdT} {c : List Int}, (∀ k ∈ ks, okK k) → (∀ x ∈ c, 0 ≤ x) → 1 ≤ tot ks c → ∃ p k, ks[p]? = some k ∧ p < c.length ∧ 1 ≤ c.getD p 0
  | [], _, _, _, h => by simp [tot] at h
  | _ :: _, [], _, _, h => by simp [tot] at h
  | k :: ks, x :: xs, hk, hc, h => by
    by_cases hx : 1 ≤ x
    · exact ⟨0, k, rfl, by simp, by simpa using hx⟩
    · have x0 : x = 0 := by have := hc x List.mem_cons_self; omega
      subst x0
      simp only [tot] at h
      obtain ⟨p, k', h1, h2, h3⟩ := tot_pos (ks := ks) (c := xs) (fun k h => hk k (List.mem_cons_of_mem _ h)) (fun k h => hc k (List.mem_cons_of_mem _ h)) (by omega)
      exact ⟨p + 1, k', by simpa using h1, by simpa using h2, by simpa using h3⟩
theorem dec_nn : ∀ {c : List Int} {p : Nat}, (∀ x ∈ c, 0 ≤ x) → 1 ≤ c.getD p 0 → ∀ x ∈ dec p c, 0 ≤ x
  | [], 0, _, h, _, _ => by simp at h
  | [], p + 1, _, h, _, _ => by simp at h
  | a :: c, 0, hc, h, x, hx => by
    have h' : 1 ≤ a := by simpa using h
    rcases List.mem_cons.mp hx with rfl | hx
    · omega
    · exact hc x (List.mem_cons_of_mem _ hx)
  | a :: c, p + 1, hc, h, x, hx => by
    rcases List.mem_cons.mp hx with rfl | hx
    · exact hc _ List.mem_cons_self
    · exact dec_nn (c := c) (p := p) (fun k h => hc k (List.mem_cons_of_mem _ h)) (by simpa using h) x hx
theorem inc_mem : ∀ {c : List Int} {p : Nat} {m : Int}, (∀ x ∈ c, 0 ≤ x ∧ x ≤ m) → ∀ x ∈ inc p c, 0 ≤ x ∧ x ≤ m + 1
  | [], 0, _, _, _, h => by simp [inc] at h
  | [], p + 1, _, _, _, h => by simp [inc] at h
  | a :: c, 0, m, hc, x, hx => by
    rcases List.mem_cons.mp hx with rfl | hx
    · have := hc a List.mem_cons_self; omega
    · have := hc x (List.mem_cons_of_mem _ hx); omega
  | a :: c, p + 1, m, hc, x, hx => by
    rcases List.mem_cons.mp hx with rfl | hx
    · have := hc x List.mem_cons_self; omega
    · exact inc_mem (c := c) (p := p) (fun k h => hc k (List.mem_cons_of_mem _ h)) x hx
/-- what is left when a signature of kind k is taken out -/
def lft (n : Nat) (k : KdT) : Nat := ((n : Int) - pcK k).toNat
theorem best_step {ks : List KdT} (hk : ∀ k ∈ ks, okK k) {n : Nat} (hn : 1 ≤ n) {o : Nat → List Int} (ho : ∀ j, j < n → Best ks j (o j)) {p : Nat} {k : KdT} (hp : ks[p]? = some k)
    (hmin : ∀ q k', ks[q]? = some k' → ¬ klt (keyK ks (inc q (o (lft n k')))) (keyK ks (inc p (o (lft n k))))) : Best ks n (inc p (o (lft n k))) := by
  have lt : ∀ k' ∈ ks, lft n k' < n := fun k' h => by have := pcK_pos (hk k' h); unfold lft; omega
  have mk : k ∈ ks := List.mem_of_getElem? hp
  have b := ho _ (lt k mk)
  refine ⟨⟨by rw [inc_len]; exact b.vd.len, fun x hx => (inc_mem (m := lft n k) (fun x hx => ⟨b.vd.nn x hx, b.le x hx⟩) x hx).1, ?_⟩, fun x hx => ?_, fun c v => ?_⟩
  · rw [tot_inc ks _ p k hp b.vd.len]
    have := b.vd.en
    unfold lft at this
    unfold lft
    omega
  · have := (inc_mem (m := lft n k) (fun x hx => ⟨b.vd.nn x hx, b.le x hx⟩) x hx).2
    have := lt k mk
    omega
  · obtain ⟨q, k', h1, h2, h3⟩ := tot_pos hk v.nn (by have := v.en; omega)
    have mk' : k' ∈ ks := List.mem_of_getElem? h1
    have b' := ho _ (lt k' mk')
    have ld : (dec q c).length = ks.length := by rw [dec_len]; exact v.len
    have vd : Vd ks (lft n k') (dec q c) := ⟨ld, dec_nn v.nn h3, by
      have e := tot_inc ks (dec q c) q k' h1 ld
      rw [inc_dec] at e
      have := v.en
      have := tot_nn (ks := ks) (c := dec q c) hk (dec_nn v.nn h3)
      unfold lft
      omega⟩
    have m1 := b'.min _ vd
    rw [← key_inc h1 ld b'.vd.len, inc_dec] at m1
    exact kle_trans (hmin q k' h1) m1
theorem best_cst {ks : List KdT} {n : Nat} {o c : List Int} (b : Best ks n o) (v : Vd ks n c) : cst ks o ≤ cst ks c := by
  have := b.min c v
  unfold klt keyK at this
  simp only at this
  by_cases h : cst ks o ≤ cst ks c
  · exact h
  · exact absurd (Or.inl (by omega)) this
theorem best_mono {ks : List KdT} {n m : Nat} {o o' : List Int} (b : Best ks n o) (b' : Best ks m o') (h : n ≤ m) : cst ks o ≤ cst ks o' := best_cst b ⟨b'.vd.len, b'.vd.nn, by have := b'.vd.en; omega⟩
def addL : List Int → List Int → List Int
  | x :: xs, y :: ys => (x + y) :: addL xs ys
  | _, _ => []
theorem addL_len : ∀ {x y : List Int}, x.length = y.length → (addL x y).length = x.length
  | [], [], _ => rfl
  | [], _ :: _, h => by simp at h
  | _ :: _, [], h => by simp at h
  | a :: x, b :: y, h => by rw [addL, List.length_cons, List.length_cons, addL_len (by simpa using h)]
theorem addL_tot : ∀ {ks : List KdT} {x y : List Int}, x.length = ks.length → y.length = ks.length → tot ks (addL x y) = tot ks x + tot ks y ∧ cst ks (addL x y) = cst ks x + cst ks y
  | [], [], [], _, _ => ⟨rfl, rfl⟩
  | [], _ :: _, _, h, _ => by simp at h
  | [], [], _ :: _, _, h => by simp at h
  | _ :: _, [], _, h, _ => by simp at h
  | _ :: _, _ :: _, [], _, h => by simp at h
  | k :: ks, a :: x, b :: y, h1, h2 => by
    obtain ⟨e1, e2⟩ := addL_tot (ks := ks) (x := x) (y := y) (by simpa using h1) (by simpa using h2)
    simp only [addL, tot, cst, e1, e2, Int.add_mul]
    omega
theorem addL_nn : ∀ {x y : List Int}, (∀ a ∈ x, 0 ≤ a) → (∀ a ∈ y, 0 ≤ a) → ∀ a ∈ addL x y, 0 ≤ a
  | [], _, _, _, a, h => by simp [addL] at h
  | _ :: _, [], _, _, a, h => by simp [addL] at h
  | p :: x, q :: y, hx, hy, a, h => by
    rcases List.mem_cons.mp h with rfl | h
    · have := hx p List.mem_cons_self
      have := hy q List.mem_cons_self
      omega
    · exact addL_nn (x := x) (y := y) (fun k h => hx k (List.mem_cons_of_mem _ h)) (fun k h => hy k (List.mem_cons_of_mem _ h)) a h
theorem best_sub {ks : List KdT} {n m : Nat} {o o' o2 : List Int} (b : Best ks n o) (b' : Best ks m o') (b2 : Best ks (n + m) o2) : cst ks o2 ≤ cst ks o + cst ks o' := by
  obtain ⟨e1, e2⟩ := addL_tot b.vd.len b'.vd.len
  rw [← e2]
  exact best_cst b2 ⟨by rw [addL_len (b.vd.len.trans b'.vd.len.symm)]; exact b.vd.len, addL_nn b.vd.nn b'.vd.nn, by rw [e1]; have := b.vd.en; have := b'.vd.en; omega⟩
/-- without one of its signatures there are too few pages -/
theorem best_few {ks : List KdT} (hk : ∀ k ∈ ks, okK k) {n : Nat} {o : List Int} (b : Best ks n o) {p : Nat} {k : KdT} (hp : ks[p]? = some k) (h1 : 1 ≤ o.getD p 0) : tot ks (dec p o) < n := by
  by_cases h : tot ks (dec p o) < n
  · exact h
  · exfalso
    have ld : (dec p o).length = ks.length := by rw [dec_len]; exact b.vd.len
    have := best_cst b ⟨ld, dec_nn b.vd.nn h1, by omega⟩
    have e := cst_inc ks (dec p o) p k hp ld
    rw [inc_dec] at e
    have := hk k (List.mem_of_getElem? hp)
    unfold okK at this
    omega
theorem tot_bd : ∀ {ks : List KdT} {c : List Int} {m : Int}, (∀ k ∈ ks, okK k) → 0 ≤ m → (∀ x ∈ c, 0 ≤ x ∧ x ≤ m) → tot ks c ≤ 32 * m * ks.length ∧ cst ks c ≤ 20 * m * ks.length
  | [], _, m, _, hm, _ => by simp [tot, cst]
  | k :: ks, [], m, _, hm, _ => by
    have h1 : 0 ≤ 32 * m * ((k :: ks : List KdT).length : Int) := Int.mul_nonneg (by omega) (by omega)
    have h2 : 0 ≤ 20 * m * ((k :: ks : List KdT).length : Int) := Int.mul_nonneg (by omega) (by omega)
    simp only [tot, cst]
    exact ⟨h1, h2⟩
  | k :: ks, x :: xs, m, hk, hm, hc => by
    obtain ⟨h1, h2⟩ := tot_bd (ks := ks) (c := xs) (fun k h => hk k (List.mem_cons_of_mem _ h)) hm fun k h => hc k (List.mem_cons_of_mem _ h)
    have hx := hc x List.mem_cons_self
    have p1 := pcK_pos (hk k List.mem_cons_self)
    have p2 := hk k List.mem_cons_self
    unfold okK at p2
    have m1 : x * pcK k ≤ m * 32 := Int.mul_le_mul hx.2 p1.2 (by omega) hm
    have m2 : x * k.2.2 ≤ m * 20 := Int.mul_le_mul hx.2 (by omega) (by omega) hm
    simp only [tot, cst, List.length_cons]
    have e1 : 32 * m * ((ks.length + 1 : Nat) : Int) = 32 * m * ks.length + 32 * m := by rw [Int.natCast_add, Int.mul_add]; omega
    have e2 : 20 * m * ((ks.length + 1 : Nat) : Int) = 20 * m * ks.length + 20 * m := by rw [Int.natCast_add, Int.mul_add]; omega
    omega
end Mir

namespace K17
open PySem PySem.Spec PyProof.Rows L2 Mir
def topS (i : Nat) : Stmt := PySem.Challenge.pw_boundbook_k17_fewest_pages.main.body.getD i (.Pass ⟨0, 0, 0, 0⟩)
abbrev s_inner_size : Stmt := topS 2
abbrev N_inner_size : List Str := ["lines", "first", "span"]
theorem sc_inner_size : FnScope N_inner_size ["lines", "first", "span"] (defScope s_inner_size) := ⟨rfl, rfl, rfl, by decide +kernel, rfl, by decide +kernel, by decide +kernel⟩
abbrev s_inner_sizes : Stmt := topS 3
abbrev N_inner_sizes : List Str := ["lines", "number"]
theorem sc_inner_sizes : FnScope N_inner_sizes ["lines"] (defScope s_inner_sizes) := ⟨rfl, rfl, rfl, by decide +kernel, rfl, by decide +kernel, by decide +kernel⟩
abbrev s_lines_around : Stmt := topS 4
abbrev N_lines_around : List Str := ["sizes", "lines", "size"]
theorem sc_lines_around : FnScope N_lines_around ["sizes"] (defScope s_lines_around) := ⟨rfl, rfl, rfl, by decide +kernel, rfl, by decide +kernel, by decide +kernel⟩
abbrev s_width_of : Stmt := topS 5
abbrev N_width_of : List Str := ["layout"]
theorem sc_width_of : FnScope N_width_of ["layout"] (defScope s_width_of) := ⟨rfl, rfl, rfl, by decide +kernel, rfl, by decide +kernel, by decide +kernel⟩
abbrev s_height_of : Stmt := topS 6
abbrev N_height_of : List Str := ["layout"]
theorem sc_height_of : FnScope N_height_of ["layout"] (defScope s_height_of) := ⟨rfl, rfl, rfl, by decide +kernel, rfl, by decide +kernel, by decide +kernel⟩
abbrev s_longest : Stmt := topS 8
abbrev N_longest : List Str := ["words", "word"]
theorem sc_longest : FnScope N_longest ["words"] (defScope s_longest) := ⟨rfl, rfl, rfl, by decide +kernel, rfl, by decide +kernel, by decide +kernel⟩
abbrev s_length_of : Stmt := topS 9
abbrev N_length_of : List Str := ["words"]
theorem sc_length_of : FnScope N_length_of ["words"] (defScope s_length_of) := ⟨rfl, rfl, rfl, by decide +kernel, rfl, by decide +kernel, by decide +kernel⟩
abbrev s_wrap : Stmt := topS 10
abbrev N_wrap : List Str := ["words", "width", "lines", "line", "word"]
theorem sc_wrap : FnScope N_wrap ["words", "width"] (defScope s_wrap) := ⟨rfl, rfl, rfl, by decide +kernel, rfl, by decide +kernel, by decide +kernel⟩
abbrev s_line_count : Stmt := topS 11
abbrev N_line_count : List Str := ["words", "width", "lines"]
theorem sc_line_count : FnScope N_line_count ["words", "width"] (defScope s_line_count) := ⟨rfl, rfl, rfl, by decide +kernel, rfl, by decide +kernel, by decide +kernel⟩
abbrev s_narrowest : Stmt := topS 12
abbrev N_narrowest : List Str := ["words", "lines", "width"]
theorem sc_narrowest : FnScope N_narrowest ["words", "lines"] (defScope s_narrowest) := ⟨rfl, rfl, rfl, by decide +kernel, rfl, by decide +kernel, by decide +kernel⟩
abbrev s_covers_both : Stmt := topS 14
abbrev N_covers_both : List Str := ["cell", "row"]
theorem sc_covers_both : FnScope N_covers_both ["cell", "row"] (defScope s_covers_both) := ⟨rfl, rfl, rfl, by decide +kernel, rfl, by decide +kernel, by decide +kernel⟩
abbrev s_head_count : Stmt := topS 15
abbrev N_head_count : List Str := ["table", "row"]
theorem sc_head_count : FnScope N_head_count ["table"] (defScope s_head_count) := ⟨rfl, rfl, rfl, by decide +kernel, rfl, by decide +kernel, by decide +kernel⟩
abbrev s_breakable_rows : Stmt := topS 16
abbrev N_breakable_rows : List Str := ["table", "rows", "cells", "found", "row", "keeps", "cell"]
theorem sc_breakable_rows : FnScope N_breakable_rows ["table"] (defScope s_breakable_rows) := ⟨rfl, rfl, rfl, by decide +kernel, rfl, by decide +kernel, by decide +kernel⟩
abbrev s_height_of_page : Stmt := topS 18
abbrev N_height_of_page : List Str := ["row_lines", "head", "first", "behind"]
theorem sc_height_of_page : FnScope N_height_of_page ["row_lines", "head", "first", "behind"] (defScope s_height_of_page) := ⟨rfl, rfl, rfl, by decide +kernel, rfl, by decide +kernel, by decide +kernel⟩
abbrev s_paginate : Stmt := topS 19
abbrev N_paginate : List Str := ["table", "row_lines", "page_height", "head", "count", "fits", "ends", "pages", "first", "fitting", "behind"]
theorem sc_paginate : FnScope N_paginate ["table", "row_lines", "page_height"] (defScope s_paginate) := ⟨rfl, rfl, rfl, by decide +kernel, rfl, by decide +kernel, by decide +kernel⟩
abbrev s_raised : Stmt := topS 21
abbrev N_raised : List Str := ["positions", "constraints", "higher", "first", "second", "distance"]
theorem sc_raised : FnScope N_raised ["positions", "constraints"] (defScope s_raised) := ⟨rfl, rfl, rfl, by decide +kernel, rfl, by decide +kernel, by decide +kernel⟩
abbrev s_least_positions : Stmt := topS 22
abbrev N_least_positions : List Str := ["count", "constraints", "positions", "_", "higher"]
theorem sc_least_positions : FnScope N_least_positions ["count", "constraints"] (defScope s_least_positions) := ⟨rfl, rfl, rfl, by decide +kernel, rfl, by decide +kernel, by decide +kernel⟩
abbrev s_have_room : Stmt := topS 24
abbrev N_have_room : List Str := ["rows", "heights", "row", "height"]
theorem sc_have_room : FnScope N_have_room ["rows", "heights"] (defScope s_have_room) := ⟨rfl, rfl, rfl, by decide +kernel, rfl, by decide +kernel, by decide +kernel⟩
abbrev s_known_constraints : Stmt := topS 25
abbrev N_known_constraints : List Str := ["table", "heights", "columns", "_", "cells", "row_lines", "found", "number", "column", "least", "most", "row", "row_span", "column_span", "words", "width"]
theorem sc_known_constraints : FnScope N_known_constraints ["table", "heights"] (defScope s_known_constraints) := ⟨rfl, rfl, rfl, by decide +kernel, rfl, by decide +kernel, by decide +kernel⟩
abbrev s_share_constraints : Stmt := topS 26
abbrev N_share_constraints : List Str := ["columns", "last", "found", "number", "column", "percent"]
theorem sc_share_constraints : FnScope N_share_constraints ["columns", "last"] (defScope s_share_constraints) := ⟨rfl, rfl, rfl, by decide +kernel, rfl, by decide +kernel, by decide +kernel⟩
abbrev s_column_lines_for : Stmt := topS 27
abbrev N_column_lines_for : List Str := ["table", "heights", "columns", "rows", "_", "known", "last", "lines", "column"]
theorem sc_column_lines_for : FnScope N_column_lines_for ["table", "heights"] (defScope s_column_lines_for) := ⟨rfl, rfl, rfl, by decide +kernel, rfl, by decide +kernel, by decide +kernel⟩
abbrev s_greatest_heights : Stmt := topS 28
abbrev N_greatest_heights : List Str := ["table", "_", "rows", "cells", "heights", "number", "row", "counts", "cell"]
theorem sc_greatest_heights : FnScope N_greatest_heights ["table"] (defScope s_greatest_heights) := ⟨rfl, rfl, rfl, by decide +kernel, rfl, by decide +kernel, by decide +kernel⟩
abbrev s_heights_to_try : Stmt := topS 30
abbrev N_heights_to_try : List Str := ["table", "tuples", "row", "greatest", "choices", "heights", "height"]
theorem sc_heights_to_try : FnScope N_heights_to_try ["table"] (defScope s_heights_to_try) := ⟨rfl, rfl, rfl, by decide +kernel, rfl, by decide +kernel, by decide +kernel⟩
abbrev s_least_layouts : Stmt := topS 31
abbrev N_least_layouts : List Str := ["table", "layouts", "heights", "column_lines"]
theorem sc_least_layouts : FnScope N_least_layouts ["table"] (defScope s_least_layouts) := ⟨rfl, rfl, rfl, by decide +kernel, rfl, by decide +kernel, by decide +kernel⟩
abbrev s_by_pages : Stmt := topS 33
abbrev N_by_pages : List Str := ["division", "layout", "pages"]
theorem sc_by_pages : FnScope N_by_pages ["division"] (defScope s_by_pages) := ⟨rfl, rfl, rfl, by decide +kernel, rfl, by decide +kernel, by decide +kernel⟩
abbrev s_fewest_of : Stmt := topS 34
abbrev N_fewest_of : List Str := ["table", "layouts", "max_width", "page_height", "divisions", "layout", "pages"]
theorem sc_fewest_of : FnScope N_fewest_of ["table", "layouts", "max_width", "page_height"] (defScope s_fewest_of) := ⟨rfl, rfl, rfl, by decide +kernel, rfl, by decide +kernel, by decide +kernel⟩
abbrev s_fewest_pages : Stmt := topS 35
abbrev N_fewest_pages : List Str := ["table", "max_width", "page_height"]
theorem sc_fewest_pages : FnScope N_fewest_pages ["table", "max_width", "page_height"] (defScope s_fewest_pages) := ⟨rfl, rfl, rfl, by decide +kernel, rfl, by decide +kernel, by decide +kernel⟩
abbrev s_Lcell : Stmt := topS 37
abbrev N_Lcell : List Str := ["script", "k"]
theorem sc_Lcell : FnScope N_Lcell ["script", "k"] (defScope s_Lcell) := ⟨rfl, rfl, rfl, by decide +kernel, rfl, by decide +kernel, by decide +kernel⟩
abbrev s_Ldraws : Stmt := topS 38
abbrev N_Ldraws : List Str := ["cell", "count", "found", "is_wide", "k", "mixed"]
theorem sc_Ldraws : FnScope N_Ldraws ["cell", "count"] (defScope s_Ldraws) := ⟨rfl, rfl, rfl, by decide +kernel, rfl, by decide +kernel, by decide +kernel⟩
abbrev s_Lwords : Stmt := topS 39
abbrev N_Lwords : List Str := ["number", "k"]
theorem sc_Lwords : FnScope N_Lwords ["number"] (defScope s_Lwords) := ⟨rfl, rfl, rfl, by decide +kernel, rfl, by decide +kernel, by decide +kernel⟩
abbrev s_Lspan : Stmt := topS 40
abbrev N_Lspan : List Str := ["covered", "row", "column", "extent", "number", "rows", "columns", "heads", "down", "across"]
theorem sc_Lspan : FnScope N_Lspan ["covered", "row", "column", "extent", "number"] (defScope s_Lspan) := ⟨rfl, rfl, rfl, by decide +kernel, rfl, by decide +kernel, by decide +kernel⟩
abbrev s_Lcells : Stmt := topS 41
abbrev N_Lcells : List Str := ["extent", "draws", "covered", "cells", "row", "column", "at", "down", "across", "k"]
theorem sc_Lcells : FnScope N_Lcells ["extent", "draws"] (defScope s_Lcells) := ⟨rfl, rfl, rfl, by decide +kernel, rfl, by decide +kernel, by decide +kernel⟩
abbrev s_Ltable : Stmt := topS 42
abbrev N_Ltable : List Str := ["script", "at", "most_columns", "most_rows", "draws", "extent", "columns", "k", "least", "most", "percent", "rows"]
theorem sc_Ltable : FnScope N_Ltable ["script", "at", "most_columns", "most_rows"] (defScope s_Ltable) := ⟨rfl, rfl, rfl, by decide +kernel, rfl, by decide +kernel, by decide +kernel⟩
abbrev s_Lline_count : Stmt := topS 43
abbrev N_Lline_count : List Str := ["words", "width", "count", "used", "word"]
theorem sc_Lline_count : FnScope N_Lline_count ["words", "width"] (defScope s_Lline_count) := ⟨rfl, rfl, rfl, by decide +kernel, rfl, by decide +kernel, by decide +kernel⟩
abbrev s_Linner : Stmt := topS 44
abbrev N_Linner : List Str := ["lines", "first", "count"]
theorem sc_Linner : FnScope N_Linner ["lines", "first", "count"] (defScope s_Linner) := ⟨rfl, rfl, rfl, by decide +kernel, rfl, by decide +kernel, by decide +kernel⟩
abbrev s_Lcolumns_right : Stmt := topS 45
abbrev N_Lcolumns_right : List Str := ["table", "xs", "k", "least", "most", "percent", "align", "width"]
theorem sc_Lcolumns_right : FnScope N_Lcolumns_right ["table", "xs"] (defScope s_Lcolumns_right) := ⟨rfl, rfl, rfl, by decide +kernel, rfl, by decide +kernel, by decide +kernel⟩
abbrev s_Lcells_right : Stmt := topS 46
abbrev N_Lcells_right : List Str := ["table", "xs", "ys", "row", "column", "down", "across", "words", "count"]
theorem sc_Lcells_right : FnScope N_Lcells_right ["table", "xs", "ys"] (defScope s_Lcells_right) := ⟨rfl, rfl, rfl, by decide +kernel, rfl, by decide +kernel, by decide +kernel⟩
abbrev s_Lrows_right : Stmt := topS 47
abbrev N_Lrows_right : List Str := ["table", "ys", "k"]
theorem sc_Lrows_right : FnScope N_Lrows_right ["table", "ys"] (defScope s_Lrows_right) := ⟨rfl, rfl, rfl, by decide +kernel, rfl, by decide +kernel, by decide +kernel⟩
abbrev s_Lrising : Stmt := topS 48
abbrev N_Lrising : List Str := ["count", "most", "found", "k", "longer", "lines", "line"]
theorem sc_Lrising : FnScope N_Lrising ["count", "most"] (defScope s_Lrising) := ⟨rfl, rfl, rfl, by decide +kernel, rfl, by decide +kernel, by decide +kernel⟩
abbrev s_Llayouts : Stmt := topS 49
abbrev N_Llayouts : List Str := ["table", "most_x", "most_y", "found", "rows", "xs", "ys"]
theorem sc_Llayouts : FnScope N_Llayouts ["table", "most_x", "most_y"] (defScope s_Llayouts) := ⟨rfl, rfl, rfl, by decide +kernel, rfl, by decide +kernel, by decide +kernel⟩
abbrev s_Lheights : Stmt := topS 50
abbrev N_Lheights : List Str := ["ys", "k"]
theorem sc_Lheights : FnScope N_Lheights ["ys"] (defScope s_Lheights) := ⟨rfl, rfl, rfl, by decide +kernel, rfl, by decide +kernel, by decide +kernel⟩
abbrev s_Lpages : Stmt := topS 51
abbrev N_Lpages : List Str := ["table", "ys", "height", "rows", "heads", "pages", "first", "ends", "behind", "spanned", "ends_there", "row", "cell"]
theorem sc_Lpages : FnScope N_Lpages ["table", "ys", "height"] (defScope s_Lpages) := ⟨rfl, rfl, rfl, by decide +kernel, rfl, by decide +kernel, by decide +kernel⟩
abbrev s_Lother_table : Stmt := topS 52
abbrev N_Lother_table : List Str := ["plain", "cells"]
theorem sc_Lother_table : FnScope N_Lother_table [] (defScope s_Lother_table) := ⟨rfl, rfl, rfl, by decide +kernel, rfl, by decide +kernel, by decide +kernel⟩
abbrev s_law : Stmt := topS 53
abbrev N_law : List Str := ["script", "table", "width", "height", "keyed", "xs", "ys", "pages", "told", "best"]
theorem sc_law : FnScope N_law ["script"] (defScope s_law) := ⟨rfl, rfl, rfl, by decide +kernel, rfl, by decide +kernel, by decide +kernel⟩
/-! ### what each def does to data -/
def f_inner_size : En → Out := (sRet (e2 subD (e2 subD (e2 ixG (eVar 0) (e2 addD (eVar 1) (eVar 2))) (e2 ixG (eVar 0) (eVar 1))) (eC (.int 1))))
def g_inner_size : List PyData → Option PyData := gDef 3 3 f_inner_size
def c_inner_sizes_1 : En → Option PyData := (eCall g_inner_size (aCons (eVar 0) (aCons (eVar 1) (aCons (eC (.int 1)) aNil))))
def f_inner_sizes : En → Out := (sRet (eCall tupA (aCons (eL (fCmp [1] (iR1 (aCons (e2 subD (eCall lenA (aCons (eVar 0) aNil)) (eC (.int 1))) aNil)) (gVal 1) tYes' c_inner_sizes_1)) aNil)))
def g_inner_sizes : List PyData → Option PyData := gDef 1 2 f_inner_sizes
def b_lines_around_1 : En → Out := (sSet 1 (e2 addD (eVar 1) (eTup (aCons (e2 addD (e2 addD (e2 ixG (eVar 1) (e1 negD (eC (.int 1)))) (eVar 2)) (eC (.int 1))) aNil))))
def f_lines_around : En → Out := (sSeq (sSet 1 (eTup (aCons (eC (.int 0)) aNil))) (sSeq (sFor (iSeq (eVar 0)) (gVal 2) b_lines_around_1) (sRet (eVar 1))))
def g_lines_around : List PyData → Option PyData := gDef 1 3 f_lines_around
def f_width_of : En → Out := (sRet (e2 addD (e2 ixG (e2 ixG (eVar 0) (eC (.int 0))) (e1 negD (eC (.int 1)))) (eC (.int 1))))
def g_width_of : List PyData → Option PyData := gDef 1 1 f_width_of
def f_height_of : En → Out := (sRet (e2 addD (e2 ixG (e2 ixG (eVar 0) (eC (.int 1))) (e1 negD (eC (.int 1)))) (eC (.int 1))))
def g_height_of : List PyData → Option PyData := gDef 1 1 f_height_of
def c_longest_1 : En → Option PyData := (eCall lenA (aCons (eVar 1) aNil))
def f_longest : En → Out := (sRet (eMxD mxI (eL (fCmp [1] (iSeq (eVar 0)) (gVal 1) tYes' c_longest_1)) (eC (.int 0))))
def g_longest : List PyData → Option PyData := gDef 1 2 f_longest
def f_length_of : En → Out := (sRet (eCall lenA (aCons (eJoin (eC (.str " ")) (eVar 0)) aNil)))
def g_length_of : List PyData → Option PyData := gDef 1 1 f_length_of
def b_wrap_1 : En → Out := (sSeq (sIf (tAnd' (tTr (eVar 3)) (t1 (e2 gtD (e2 addD (e2 addD (eCall g_length_of (aCons (eVar 3) aNil)) (eC (.int 1))) (eCall lenA (aCons (eVar 4) aNil))) (eVar 1)))) (sSeq (sApp 2 (eVar 3)) (sSet 3 (eTup aNil))) sNil) (sSet 3 (e2 addD (eVar 3) (eTup (aCons (eVar 4) aNil)))))
def f_wrap : En → Out := (sSeq (sIf (t1 (e2 gtD (eCall g_longest (aCons (eVar 0) aNil)) (eVar 1))) (sRet (eC .none)) sNil) (sSeq (sOwn 2 (fLst aNil)) (sSeq (sSet 3 (eTup aNil)) (sSeq (sFor (iSeq (eVar 0)) (gVal 4) b_wrap_1) (sSeq (sIf (tTr (eVar 3)) (sApp 2 (eVar 3)) sNil) (fun env => (sRet (eVar 2)) (frz 2 env)))))))
def g_wrap : List PyData → Option PyData := gDef 2 5 f_wrap
def f_line_count : En → Out := (sSeq (sSet 2 (eCall g_wrap (aCons (eVar 0) (aCons (eVar 1) aNil)))) (sSeq (sIf (t1 (e2 isD (eVar 2) (eC .none))) (sRet (eC .none)) sNil) (sRet (eCall lenA (aCons (eVar 2) aNil)))))
def g_line_count : List PyData → Option PyData := gDef 2 3 f_line_count
def b_narrowest_1 : En → Out := (sAug 2 (· + ·) (eC (.int 1)))
def w_narrowest_1 : En → Option Bool := (t1 (e2 gtD (eCall g_line_count (aCons (eVar 0) (aCons (eVar 2) aNil))) (eVar 1)))
def f_narrowest : En → Out := (sSeq (sIf (tNot' (tTr (eVar 0))) (sRet (eC (.int 1))) sNil) (sSeq (sIf (t1 (e2 ltD (eVar 1) (eC (.int 1)))) (sRet (eC .none)) sNil) (sSeq (sSet 2 (eCall mx2 (aCons (eC (.int 1)) (aCons (eCall g_longest (aCons (eVar 0) aNil)) aNil)))) (sSeq (whlF w_narrowest_1 b_narrowest_1 100) (sRet (eVar 2))))))
def g_narrowest : List PyData → Option PyData := gDef 2 3 f_narrowest
def f_covers_both : En → Out := (sRet (chI (fun i j => decide (i < j)) (fun i j => decide (i < j)) (e2 ixG (eVar 0) (eC (.int 0))) (eVar 1) (e2 addD (e2 ixG (eVar 0) (eC (.int 0))) (e2 ixG (eVar 0) (eC (.int 2))))))
def g_covers_both : List PyData → Option PyData := gDef 2 2 f_covers_both
def c_head_count_1 : En → Option PyData := (eVar 1)
def t_head_count_1 : En → Option Bool := (tTr (e2 ixG (eVar 1) (eC (.int 1))))
def f_head_count : En → Out := (sRet (eCall lenA (aCons (eL (fCmp [1] (iSeq (e2 ixG (eVar 0) (eC (.int 1)))) (gVal 1) t_head_count_1 c_head_count_1)) aNil)))
def g_head_count : List PyData → Option PyData := gDef 1 2 f_head_count
def c_breakable_rows_1 : En → Option PyData := (eCall g_covers_both (aCons (eVar 6) (aCons (eVar 4) aNil)))
def b_breakable_rows_1 : En → Out := (sSeq (sSet 5 (e2 ixG (e2 ixG (eVar 1) (e2 subD (eVar 4) (eC (.int 1)))) (eC (.int 2)))) (sIf (tAnd' (tNot' (tTr (eVar 5))) (tNot' (t1 (eCall anyA (aCons (eL (fCmp [6] (iSeq (eVar 2)) (gVal 6) tYes' c_breakable_rows_1)) aNil))))) (sApp 3 (eVar 4)) sNil))
def f_breakable_rows : En → Out := (sSeq (sUnp (eSl (eVar 0) (oSome (eC (.int 1))) oNone) (gT [1, 2])) (sSeq (sOwn 3 (fLst aNil)) (sSeq (sFor (iR2 (aCons (e2 addD (eCall g_head_count (aCons (eVar 0) aNil)) (eC (.int 1))) (aCons (eCall lenA (aCons (eVar 1) aNil)) aNil))) (gVal 4) b_breakable_rows_1) (fun env => (sRet (eVar 3)) (frz 3 env)))))
def g_breakable_rows : List PyData → Option PyData := gDef 1 7 f_breakable_rows
def f_height_of_page : En → Out := (sRet (e2 addD (e2 subD (e2 addD (e2 ixG (eVar 0) (eVar 1)) (e2 ixG (eVar 0) (eVar 3))) (e2 ixG (eVar 0) (eVar 2))) (eC (.int 1))))
def g_height_of_page : List PyData → Option PyData := gDef 4 4 f_height_of_page
def c_paginate_1 : En → Option PyData := (eVar 10)
def t_paginate_1 : En → Option Bool := (tAnd' (t1 (e2 gtD (eVar 10) (eVar 8))) (t1 (e2 leD (eCall g_height_of_page (aCons (eVar 1) (aCons (eVar 3) (aCons (eVar 8) (aCons (eVar 10) aNil))))) (eVar 2))))
def b_paginate_1 : En → Out := (sSeq (sSet 9 (eL (fCmp [10] (iSeq (eVar 6)) (gVal 10) t_paginate_1 c_paginate_1))) (sSeq (sIf (tNot' (tTr (eVar 9))) (sRet (eC .none)) sNil) (sSeq (sApp 7 (eTup (aCons (eVar 8) (aCons (e2 ixG (eVar 9) (e1 negD (eC (.int 1)))) aNil)))) (sSet 8 (e2 ixG (eVar 9) (e1 negD (eC (.int 1))))))))
def w_paginate_1 : En → Option Bool := (t1 (e2 ltD (eVar 8) (eVar 4)))
def f_paginate : En → Out := (sSeq (sSet 3 (eCall g_head_count (aCons (eVar 0) aNil))) (sSeq (sSet 4 (eCall lenA (aCons (e2 ixG (eVar 0) (eC (.int 1))) aNil))) (sSeq (sIf (t1 (e2 eqD (eVar 3) (eVar 4))) (sSeq (sSet 5 (e2 leD (eCall g_height_of_page (aCons (eVar 1) (aCons (eVar 3) (aCons (eVar 3) (aCons (eVar 3) aNil))))) (eVar 2))) (sRet (eIf (tTr (eVar 5)) (eL (fLst (aCons (eTup (aCons (eVar 3) (aCons (eVar 3) aNil))) aNil))) (eC .none)))) sNil) (sSeq (sSet 6 (eL (fCat (eCall g_breakable_rows (aCons (eVar 0) aNil)) (eL (fLst (aCons (eVar 4) aNil)))))) (sSeq (sOwn 7 (fLst aNil)) (sSeq (sSet 8 (eVar 3)) (sSeq (whlF w_paginate_1 b_paginate_1 100) (fun env => (sRet (eVar 7)) (frz 7 env)))))))))
def g_paginate : List PyData → Option PyData := gDef 3 11 f_paginate
def b_raised_1 : En → Out := (sIf (t1 (e2 ltD (eIxO 2 (eVar 4)) (e2 addD (eIxO 2 (eVar 3)) (eVar 5)))) (sPut 2 (eVar 4) (e2 addD (eIxO 2 (eVar 3)) (eVar 5))) sNil)
def f_raised : En → Out := (sSeq (sOwn 2 (fList (eVar 0))) (sSeq (sFor (iSeq (eVar 1)) (gT [3, 4, 5]) b_raised_1) (fun env => (sRet (eVar 2)) (frz 2 env))))
def g_raised : List PyData → Option PyData := gDef 2 6 f_raised
def b_least_positions_1 : En → Out := (sSeq (sSet 4 (eCall g_raised (aCons (eVar 2) (aCons (eVar 1) aNil)))) (sSeq (sIf (t1 (e2 eqD (eVar 4) (eVar 2))) (sRet (eVar 2)) sNil) (sSeq (sIf (t1 (e2 gtD (e2 ixG (eVar 4) (eC (.int 0))) (eC (.int 0)))) (sRet (eC .none)) sNil) (sSet 2 (eVar 4)))))
def f_least_positions : En → Out := (sSeq (sSet 2 (eL (fRep (fLst (aCons (eC (.int 0)) aNil)) (eVar 0)))) (sSeq (sFor (iR1 (aCons (eVar 0) aNil)) (gVal 3) b_least_positions_1) (sRet (eC .none))))
def g_least_positions : List PyData → Option PyData := gDef 2 5 f_least_positions
def c_have_room_1 : En → Option PyData := (e2 leD (e2 ixG (eVar 2) (eC (.int 0))) (eVar 3))
def f_have_room : En → Out := (sSeq (sIf (t1 (e2 gtD (e2 ixG (eCall g_lines_around (aCons (eVar 1) aNil)) (e1 negD (eC (.int 1)))) (eC (.int 2000)))) (sRet (eC (.bool false))) sNil) (sRet (eCall allA (aCons (eL (fCmp [2, 3] (iZp (aCons (eVar 0) (aCons (eVar 1) aNil))) (gT [2, 3]) tYes' c_have_room_1)) aNil))))
def g_have_room : List PyData → Option PyData := gDef 2 4 f_have_room
def b_known_constraints_1 : En → Out := (sSeq (sUnp (eSl (eVar 8) oNone (oSome (eC (.int 2)))) (gT [9, 10])) (sSeq (sApp 6 (eTup (aCons (eVar 7) (aCons (e2 addD (eVar 7) (eC (.int 1))) (aCons (e2 addD (eVar 9) (eC (.int 1))) aNil))))) (sIf (t1 (e2 isntD (eVar 10) (eC .none))) (sApp 6 (eTup (aCons (e2 addD (eVar 7) (eC (.int 1))) (aCons (eVar 7) (aCons (e2 subD (e1 negD (eVar 10)) (eC (.int 1))) aNil))))) sNil)))
def b_known_constraints_2 : En → Out := (sSeq (sSet 15 (eCall g_narrowest (aCons (eVar 14) (aCons (eCall g_inner_size (aCons (eVar 5) (aCons (eVar 11) (aCons (eVar 12) aNil)))) aNil)))) (sApp 6 (eTup (aCons (eVar 8) (aCons (e2 addD (eVar 8) (eVar 13)) (aCons (e2 addD (eVar 15) (eC (.int 1))) aNil))))))
def f_known_constraints : En → Out := (sSeq (sUnp (eVar 0) (gT [2, 3, 4])) (sSeq (sSet 5 (eCall g_lines_around (aCons (eVar 1) aNil))) (sSeq (sOwn 6 (fLst aNil)) (sSeq (sFor (iEnm (aCons (eVar 2) aNil)) (gT [7, 8]) b_known_constraints_1) (sSeq (sFor (iSeq (eVar 4)) (gT [11, 8, 12, 13, 14]) b_known_constraints_2) (fun env => (sRet (eVar 6)) (frz 6 env)))))))
def g_known_constraints : List PyData → Option PyData := gDef 2 16 f_known_constraints
def b_share_constraints_1 : En → Out := (sSeq (sSet 5 (e2 ixG (eVar 4) (eC (.int 2)))) (sIf (t1 (e2 isntD (eVar 5) (eC .none))) (sApp 2 (eTup (aCons (eVar 3) (aCons (e2 addD (eVar 3) (eC (.int 1))) (aCons (e2 divD (e2 addD (e2 mulD (eVar 5) (eVar 1)) (eC (.int 99))) (eC (.int 100))) aNil))))) sNil))
def f_share_constraints : En → Out := (sSeq (sOwn 2 (fLst aNil)) (sSeq (sFor (iEnm (aCons (eVar 0) aNil)) (gT [3, 4]) b_share_constraints_1) (fun env => (sRet (eVar 2)) (frz 2 env))))
def g_share_constraints : List PyData → Option PyData := gDef 2 6 f_share_constraints
def c_column_lines_for_1 : En → Option PyData := (e2 ixG (eVar 8) (eC (.int 2)))
def t_column_lines_for_1 : En → Option Bool := (t1 (e2 isntD (e2 ixG (eVar 8) (eC (.int 2))) (eC .none)))
def b_column_lines_for_1 : En → Out := (sSeq (sSet 7 (eCall g_least_positions (aCons (e2 addD (eCall lenA (aCons (eVar 2) aNil)) (eC (.int 1))) (aCons (e2 addD (eVar 5) (eCall g_share_constraints (aCons (eVar 2) (aCons (eVar 6) aNil)))) aNil)))) (sSeq (sIf (t1 (e2 isD (eVar 7) (eC .none))) (sRet (eC .none)) sNil) (sSeq (sIf (t1 (e2 eqD (e2 ixG (eVar 7) (e1 negD (eC (.int 1)))) (eVar 6))) (sRet (eCall tupA (aCons (eVar 7) aNil))) sNil) (sSet 6 (e2 ixG (eVar 7) (e1 negD (eC (.int 1))))))))
def w_column_lines_for_1 : En → Option Bool := (t1 (e2 leD (eVar 6) (eC (.int 2000))))
def f_column_lines_for : En → Out := (sSeq (sUnp (eVar 0) (gT [2, 3, 4])) (sSeq (sIf (tNot' (tTr (eCall g_have_room (aCons (eVar 3) (aCons (eVar 1) aNil))))) (sRet (eC .none)) sNil) (sSeq (sIf (t1 (e2 gtD (eCall sumA (aCons (eL (fCmp [8] (iSeq (eVar 2)) (gVal 8) t_column_lines_for_1 c_column_lines_for_1)) aNil)) (eC (.int 100)))) (sRet (eC .none)) sNil) (sSeq (sSet 5 (eCall g_known_constraints (aCons (eVar 0) (aCons (eVar 1) aNil)))) (sSeq (sSet 6 (eC (.int 0))) (sSeq (whlF w_column_lines_for_1 b_column_lines_for_1 2100) (sRet (eC .none))))))))
def g_column_lines_for : List PyData → Option PyData := gDef 2 9 f_column_lines_for
def c_greatest_heights_1 : En → Option PyData := (eCall lenA (aCons (e2 ixG (eVar 8) (eC (.int 4))) aNil))
def t_greatest_heights_1 : En → Option Bool := (t1 (chI (fun i j => decide (i ≤ j)) (fun i j => decide (i < j)) (e2 ixG (eVar 8) (eC (.int 0))) (eVar 5) (e2 addD (e2 ixG (eVar 8) (eC (.int 0))) (e2 ixG (eVar 8) (eC (.int 2))))))
def b_greatest_heights_1 : En → Out := (sSeq (sSet 7 (eL (fCmp [8] (iSeq (eVar 3)) (gVal 8) t_greatest_heights_1 c_greatest_heights_1))) (sApp 4 (eCall (mx1 mxI) (aCons (eL (fCat (eL (fLst (aCons (e2 ixG (eVar 6) (eC (.int 0))) aNil))) (eVar 7))) aNil))))
def f_greatest_heights : En → Out := (sSeq (sUnp (eVar 0) (gT [1, 2, 3])) (sSeq (sOwn 4 (fLst aNil)) (sSeq (sFor (iEnm (aCons (eVar 2) aNil)) (gT [5, 6]) b_greatest_heights_1) (sRet (eTupO 4)))))
def g_greatest_heights : List PyData → Option PyData := gDef 1 9 f_greatest_heights
def c_heights_to_try_1 : En → Option PyData := (e2 addD (eVar 5) (eTup (aCons (eVar 6) aNil)))
def s_heights_to_try_1 : En → Option (List PyData) := (iSeq (eVar 4))
def b_heights_to_try_1 : En → Out := (sSeq (sSet 4 (eL (fRng2 (e2 ixG (eVar 2) (eC (.int 0))) (e2 addD (eVar 3) (eC (.int 1)))))) (sSet 1 (eL (fCmp2 [5, 6] (iSeq (eVar 1)) (gVal 5) tYes' [6] s_heights_to_try_1 (gVal 6) tYes' c_heights_to_try_1))))
def f_heights_to_try : En → Out := (sSeq (sSet 1 (eL (fLst (aCons (eTup aNil) aNil)))) (sSeq (sFor (iZp (aCons (e2 ixG (eVar 0) (eC (.int 1))) (aCons (eCall g_greatest_heights (aCons (eVar 0) aNil)) aNil))) (gT [2, 3]) b_heights_to_try_1) (sRet (eVar 1))))
def g_heights_to_try : List PyData → Option PyData := gDef 1 7 f_heights_to_try
def b_least_layouts_1 : En → Out := (sSeq (sSet 3 (eCall g_column_lines_for (aCons (eVar 0) (aCons (eVar 2) aNil)))) (sIf (t1 (e2 isntD (eVar 3) (eC .none))) (sApp 1 (eTup (aCons (eVar 3) (aCons (eCall g_lines_around (aCons (eVar 2) aNil)) aNil)))) sNil))
def f_least_layouts : En → Out := (sSeq (sOwn 1 (fLst aNil)) (sSeq (sFor (iSeq (eCall g_heights_to_try (aCons (eVar 0) aNil))) (gVal 2) b_least_layouts_1) (fun env => (sRet (eVar 1)) (frz 1 env))))
def g_least_layouts : List PyData → Option PyData := gDef 1 4 f_least_layouts
def f_by_pages : En → Out := (sSeq (sUnp (eVar 0) (gT [1, 2])) (sRet (eTup (aCons (eCall lenA (aCons (eVar 2) aNil)) (aCons (eCall g_height_of (aCons (eVar 1) aNil)) (aCons (eCall g_width_of (aCons (eVar 1) aNil)) (aCons (eCall g_inner_sizes (aCons (e2 ixG (eVar 1) (eC (.int 1))) aNil)) aNil)))))))
def g_by_pages : List PyData → Option PyData := gDef 1 3 f_by_pages
def b_fewest_of_1 : En → Out := (sIf (t1 (e2 leD (eCall g_width_of (aCons (eVar 5) aNil)) (eVar 2))) (sSeq (sSet 6 (eCall g_paginate (aCons (eVar 0) (aCons (e2 ixG (eVar 5) (eC (.int 1))) (aCons (eVar 3) aNil))))) (sIf (t1 (e2 isntD (eVar 6) (eC .none))) (sApp 4 (eTup (aCons (eVar 5) (aCons (eVar 6) aNil)))) sNil)) sNil)
def f_fewest_of : En → Out := (sSeq (sOwn 4 (fLst aNil)) (sSeq (sFor (iSeq (eVar 1)) (gVal 5) b_fewest_of_1) (fun env => (sRet (eMinKD g_by_pages (eVar 4) (eC .none))) (frz 4 env))))
def g_fewest_of : List PyData → Option PyData := gDef 4 7 f_fewest_of
def f_fewest_pages : En → Out := (sRet (eCall g_fewest_of (aCons (eVar 0) (aCons (eCall g_least_layouts (aCons (eVar 0) aNil)) (aCons (eVar 1) (aCons (eVar 2) aNil))))))
def g_fewest_pages : List PyData → Option PyData := gDef 3 3 f_fewest_pages
def f_Lcell : En → Out := (sSeq (sIf (t1 (e2 ltD (eVar 1) (eCall lenA (aCons (eVar 0) aNil)))) (sRet (e2 ixG (eVar 0) (eVar 1))) sNil) (sRet (eC (.int 0))))
def g_Lcell : List PyData → Option PyData := gDef 2 2 f_Lcell
def b_Ldraws_1 : En → Out := (sIf (tTr (eVar 3)) (sSeq (sApp 2 (e2 modD (eVar 0) (eC (.int 1009)))) (sSet 0 (e2 divD (eVar 0) (eC (.int 1009))))) (sSeq (sSet 5 (e2 modD (e2 addD (e2 mulD (eVar 0) (eC (.int 48271))) (e2 mulD (eVar 4) (eC (.int 69621)))) (eC (.int 2147483647)))) (sApp 2 (e2 modD (e2 addD (e2 addD (e2 mulD (eVar 5) (eVar 5)) (e2 mulD (eVar 0) (eC (.int 31)))) (eVar 4)) (eC (.int 1000003))))))
def f_Ldraws : En → Out := (sSeq (sOwn 2 (fLst aNil)) (sSeq (sSet 3 (e2 geD (eVar 0) (e2 powD (eC (.int 10)) (eC (.int 18))))) (sSeq (sFor (iR1 (aCons (eVar 1) aNil)) (gVal 4) b_Ldraws_1) (fun env => (sRet (eVar 2)) (frz 2 env)))))
def g_Ldraws : List PyData → Option PyData := gDef 2 6 f_Ldraws
def c_Lwords_1 : En → Option PyData := (e2 ixG (eL (fLst (aCons (eC (.str "a")) (aCons (eC (.str "bb")) (aCons (eC (.str "c")) (aCons (eC (.str "dd")) aNil)))))) (e2 modD (e2 divD (eVar 0) (e2 mulD (eC (.int 7)) (e2 addD (eVar 1) (eC (.int 1))))) (eC (.int 4))))
def f_Lwords : En → Out := (sRet (eCall tupA (aCons (eL (fCmp [1] (iR1 (aCons (e2 modD (eVar 0) (eC (.int 3))) aNil)) (gVal 1) tYes' c_Lwords_1)) aNil)))
def g_Lwords : List PyData → Option PyData := gDef 1 2 f_Lwords
def f_Lspan : En → Out := (sSeq (sUnp (eVar 3) (gT [5, 6, 7])) (sSeq (sSet 8 (e2 addD (eC (.int 1)) (e2 modD (eVar 4) (eC (.int 2))))) (sSeq (sSet 9 (e2 addD (eC (.int 1)) (e2 modD (e2 divD (eVar 4) (eC (.int 2))) (eC (.int 2))))) (sSeq (sIf (t1 (e2 gtD (e2 addD (eVar 1) (eVar 8)) (eIf (t1 (e2 ltD (eVar 1) (eVar 7))) (eVar 7) (eVar 5)))) (sSet 8 (eC (.int 1))) sNil) (sSeq (sIf (tOr' (t1 (e2 gtD (e2 addD (eVar 2) (eVar 9)) (eVar 6))) (t1 (e2 inT (eTup (aCons (eVar 1) (aCons (e2 subD (e2 addD (eVar 2) (eVar 9)) (eC (.int 1))) aNil))) (eVar 0)))) (sSet 9 (eC (.int 1))) sNil) (sRet (eTup (aCons (eVar 8) (aCons (eVar 9) aNil)))))))))
def g_Lspan : List PyData → Option PyData := gDef 5 10 f_Lspan
def b_Lcells_1 : En → Out := (sApp 2 (eTup (aCons (e2 addD (eVar 4) (e2 divD (eVar 9) (eVar 8))) (aCons (e2 addD (eVar 5) (e2 modD (eVar 9) (eVar 8))) aNil))))
def b_Lcells_2 : En → Out := (sIf (t1 (e2 notInT (eTup (aCons (eVar 4) (aCons (eVar 5) aNil))) (eBor 2))) (sSeq (sSet 6 (e2 addD (e2 mulD (eC (.int 3)) (eVar 4)) (eVar 5))) (sSeq (sUnp (eN (eCall g_Lspan (aCons (eBor 2) (aCons (eVar 4) (aCons (eVar 5) (aCons (eVar 0) (aCons (e2 divD (e2 ixG (eVar 1) (e2 modD (e2 addD (e2 mulD (eVar 6) (eC (.int 5))) (eC (.int 1))) (eC (.int 40)))) (eC (.int 3))) aNil))))))) (gT [7, 8])) (sSeq (sFor (iR1 (aCons (e2 mulD (eVar 7) (eVar 8)) aNil)) (gVal 9) b_Lcells_1) (sApp 3 (eTup (aCons (eVar 4) (aCons (eVar 5) (aCons (eVar 7) (aCons (eVar 8) (aCons (eCall g_Lwords (aCons (e2 ixG (eVar 1) (e2 modD (e2 addD (e2 mulD (eVar 6) (eC (.int 7))) (eC (.int 3))) (eC (.int 40)))) aNil)) aNil)))))))))) sNil)
def b_Lcells_3 : En → Out := (sFor (iR1 (aCons (e2 ixG (eVar 0) (eC (.int 1))) aNil)) (gVal 5) b_Lcells_2)
def f_Lcells : En → Out := (sSeq (sOwn 2 (fLst aNil)) (sSeq (sOwn 3 (fLst aNil)) (sSeq (sFor (iR1 (aCons (e2 ixG (eVar 0) (eC (.int 0))) aNil)) (gVal 4) b_Lcells_3) (sRet (eTupO 3)))))
def g_Lcells : List PyData → Option PyData := gDef 2 10 f_Lcells
def b_Ltable_1 : En → Out := (sSeq (sSet 8 (e2 addD (eC (.int 1)) (e2 modD (e2 ixG (eVar 4) (e2 addD (eC (.int 4)) (eVar 7))) (eC (.int 3))))) (sSeq (sSet 9 (e2 ixG (eL (fLst (aCons (eC .none) (aCons (eC .none) (aCons (e2 addD (eVar 8) (e2 modD (e2 ixG (eVar 4) (e2 addD (eC (.int 7)) (eVar 7))) (eC (.int 4)))) aNil))))) (e2 modD (e2 ixG (eVar 4) (e2 addD (eC (.int 10)) (eVar 7))) (eC (.int 3))))) (sSeq (sSet 10 (e2 ixG (eL (fLst (aCons (eC .none) (aCons (eC .none) (aCons (eC .none) (aCons (eC (.int 20)) (aCons (eC (.int 35)) (aCons (eC (.int 50)) aNil)))))))) (e2 modD (e2 ixG (eVar 4) (e2 addD (eC (.int 13)) (eVar 7))) (eC (.int 6))))) (sApp 6 (eTup (aCons (eVar 8) (aCons (eVar 9) (aCons (eVar 10) (aCons (e2 ixG (eL (fLst (aCons (eC (.str "left")) (aCons (eC (.str "right")) (aCons (eC (.str "center")) aNil))))) (e2 modD (e2 ixG (eVar 4) (e2 addD (eC (.int 16)) (eVar 7))) (eC (.int 3)))) aNil)))))))))
def c_Ltable_1 : En → Option PyData := (eTup (aCons (e2 addD (eC (.int 1)) (e2 modD (e2 ixG (eVar 4) (e2 addD (eC (.int 19)) (eVar 7))) (eC (.int 2)))) (aCons (e2 ltD (eVar 7) (e2 ixG (eVar 5) (eC (.int 2)))) (aCons (e2 eqD (e2 modD (e2 ixG (eVar 4) (e2 addD (eC (.int 22)) (eVar 7))) (eC (.int 4))) (eC (.int 1))) aNil))))
def f_Ltable : En → Out := (sSeq (sSet 4 (eCall g_Ldraws (aCons (eCall g_Lcell (aCons (eVar 0) (aCons (eVar 1) aNil))) (aCons (eC (.int 40)) aNil)))) (sSeq (sSet 5 (eTup (aCons (e2 addD (eC (.int 1)) (e2 modD (e2 ixG (eVar 4) (eC (.int 1))) (eVar 3))) (aCons (e2 addD (eC (.int 1)) (e2 modD (e2 ixG (eVar 4) (eC (.int 0))) (eVar 2))) (aCons (eIf (t1 (e2 eqD (e2 modD (e2 ixG (eVar 4) (eC (.int 3))) (eC (.int 3))) (eC (.int 0)))) (e2 modD (e2 ixG (eVar 4) (eC (.int 2))) (eC (.int 2))) (eC (.int 0))) aNil))))) (sSeq (sOwn 6 (fLst aNil)) (sSeq (sFor (iR1 (aCons (e2 ixG (eVar 5) (eC (.int 1))) aNil)) (gVal 7) b_Ltable_1) (sSeq (sSet 11 (eL (fCmp [7] (iR1 (aCons (e2 ixG (eVar 5) (eC (.int 0))) aNil)) (gVal 7) tYes' c_Ltable_1))) (sRet (eTup (aCons (eTupO 6) (aCons (eCall tupA (aCons (eVar 11) aNil)) (aCons (eCall g_Lcells (aCons (eVar 5) (aCons (eVar 4) aNil))) aNil))))))))))
def g_Ltable : List PyData → Option PyData := gDef 4 12 f_Ltable
def b_Lline_count_1 : En → Out := (sSeq (sIf (t1 (e2 gtD (eCall lenA (aCons (eVar 4) aNil)) (eVar 1))) (sRet (eC .none)) sNil) (sIf (tAnd' (t1 (e2 gtD (eVar 2) (eC (.int 0)))) (t1 (e2 leD (e2 addD (e2 addD (eVar 3) (eC (.int 1))) (eCall lenA (aCons (eVar 4) aNil))) (eVar 1)))) (sSet 3 (e2 addD (e2 addD (eVar 3) (eC (.int 1))) (eCall lenA (aCons (eVar 4) aNil)))) (sSeq (sSet 2 (e2 addD (eVar 2) (eC (.int 1)))) (sSet 3 (eCall lenA (aCons (eVar 4) aNil))))))
def f_Lline_count : En → Out := (sSeq (sSet 2 (eC (.int 0))) (sSeq (sSet 3 (eC (.int 0))) (sSeq (sFor (iSeq (eVar 0)) (gVal 4) b_Lline_count_1) (sRet (eVar 2)))))
def g_Lline_count : List PyData → Option PyData := gDef 2 5 f_Lline_count
def f_Linner : En → Out := (sRet (e2 subD (e2 subD (e2 ixG (eVar 0) (e2 addD (eVar 1) (eVar 2))) (e2 ixG (eVar 0) (eVar 1))) (eC (.int 1))))
def g_Linner : List PyData → Option PyData := gDef 3 3 f_Linner
def b_Lcolumns_right_1 : En → Out := (sSeq (sUnp (e2 ixG (e2 ixG (eVar 0) (eC (.int 0))) (eVar 2)) (gT [3, 4, 5, 6])) (sSeq (sSet 7 (eCall g_Linner (aCons (eVar 1) (aCons (eVar 2) (aCons (eC (.int 1)) aNil))))) (sSeq (sIf (tOr' (t1 (e2 ltD (eVar 7) (eVar 3))) (tAnd' (t1 (e2 isntD (eVar 4) (eC .none))) (t1 (e2 gtD (eVar 7) (eVar 4))))) (sRet (eC (.bool false))) sNil) (sIf (tAnd' (t1 (e2 isntD (eVar 5) (eC .none))) (t1 (e2 ltD (e2 mulD (eC (.int 100)) (e2 addD (eVar 7) (eC (.int 1)))) (e2 mulD (eVar 5) (e2 ixG (eVar 1) (e1 negD (eC (.int 1)))))))) (sRet (eC (.bool false))) sNil))))
def f_Lcolumns_right : En → Out := (sSeq (sFor (iR1 (aCons (eCall lenA (aCons (e2 ixG (eVar 0) (eC (.int 0))) aNil)) aNil)) (gVal 2) b_Lcolumns_right_1) (sRet (eC (.bool true))))
def g_Lcolumns_right : List PyData → Option PyData := gDef 2 8 f_Lcolumns_right
def b_Lcells_right_1 : En → Out := (sSeq (sSet 8 (eCall g_Lline_count (aCons (eVar 7) (aCons (eCall g_Linner (aCons (eVar 1) (aCons (eVar 4) (aCons (eVar 6) aNil)))) aNil)))) (sIf (tOr' (t1 (e2 isD (eVar 8) (eC .none))) (t1 (e2 gtD (eVar 8) (eCall g_Linner (aCons (eVar 2) (aCons (eVar 3) (aCons (eVar 5) aNil))))))) (sRet (eC (.bool false))) sNil))
def f_Lcells_right : En → Out := (sSeq (sFor (iSeq (e2 ixG (eVar 0) (eC (.int 2)))) (gT [3, 4, 5, 6, 7]) b_Lcells_right_1) (sRet (eC (.bool true))))
def g_Lcells_right : List PyData → Option PyData := gDef 3 9 f_Lcells_right
def b_Lrows_right_1 : En → Out := (sIf (t1 (e2 ltD (eCall g_Linner (aCons (eVar 1) (aCons (eVar 2) (aCons (eC (.int 1)) aNil)))) (e2 ixG (e2 ixG (e2 ixG (eVar 0) (eC (.int 1))) (eVar 2)) (eC (.int 0))))) (sRet (eC (.bool false))) sNil)
def f_Lrows_right : En → Out := (sSeq (sFor (iR1 (aCons (eCall lenA (aCons (e2 ixG (eVar 0) (eC (.int 1))) aNil)) aNil)) (gVal 2) b_Lrows_right_1) (sRet (eC (.bool true))))
def g_Lrows_right : List PyData → Option PyData := gDef 2 3 f_Lrows_right
def b_Lrising_1 : En → Out := (sApp 4 (e2 addD (eVar 5) (eTup (aCons (eVar 6) aNil))))
def b_Lrising_2 : En → Out := (sFor (iR2 (aCons (e2 addD (e2 ixG (eVar 5) (e1 negD (eC (.int 1)))) (eC (.int 2))) (aCons (e2 addD (eVar 1) (eC (.int 1))) aNil))) (gVal 6) b_Lrising_1)
def b_Lrising_3 : En → Out := (sSeq (sOwn 4 (fLst aNil)) (sSeq (sFor (iSeq (eVar 2)) (gVal 5) b_Lrising_2) (fun env => (sSet 2 (eVar 4)) (frz 4 env))))
def f_Lrising : En → Out := (sSeq (sSet 2 (eL (fLst (aCons (eTup (aCons (eC (.int 0)) aNil)) aNil)))) (sSeq (sFor (iR1 (aCons (eVar 0) aNil)) (gVal 3) b_Lrising_3) (sRet (eVar 2))))
def g_Lrising : List PyData → Option PyData := gDef 2 7 f_Lrising
def c_Llayouts_1 : En → Option PyData := (eVar 6)
def t_Llayouts_1 : En → Option Bool := (tTr (eCall g_Lrows_right (aCons (eVar 0) (aCons (eVar 6) aNil))))
def b_Llayouts_1 : En → Out := (sIf (tTr (eCall g_Lcells_right (aCons (eVar 0) (aCons (eVar 5) (aCons (eVar 6) aNil))))) (sApp 3 (eTup (aCons (eVar 5) (aCons (eVar 6) aNil)))) sNil)
def b_Llayouts_2 : En → Out := (sIf (tTr (eCall g_Lcolumns_right (aCons (eVar 0) (aCons (eVar 5) aNil)))) (sFor (iSeq (eVar 4)) (gVal 6) b_Llayouts_1) sNil)
def f_Llayouts : En → Out := (sSeq (sOwn 3 (fLst aNil)) (sSeq (sSet 4 (eL (fCmp [6] (iSeq (eCall g_Lrising (aCons (eCall lenA (aCons (e2 ixG (eVar 0) (eC (.int 1))) aNil)) (aCons (eVar 2) aNil)))) (gVal 6) t_Llayouts_1 c_Llayouts_1))) (sSeq (sFor (iSeq (eCall g_Lrising (aCons (eCall lenA (aCons (e2 ixG (eVar 0) (eC (.int 0))) aNil)) (aCons (eVar 1) aNil)))) (gVal 5) b_Llayouts_2) (fun env => (sRet (eVar 3)) (frz 3 env)))))
def g_Llayouts : List PyData → Option PyData := gDef 3 7 f_Llayouts
def c_Lheights_1 : En → Option PyData := (e2 subD (e2 subD (e2 ixG (eVar 0) (e2 addD (eVar 1) (eC (.int 1)))) (e2 ixG (eVar 0) (eVar 1))) (eC (.int 1)))
def f_Lheights : En → Out := (sRet (eCall tupA (aCons (eL (fCmp [1] (iR1 (aCons (e2 subD (eCall lenA (aCons (eVar 0) aNil)) (eC (.int 1))) aNil)) (gVal 1) tYes' c_Lheights_1)) aNil)))
def g_Lheights : List PyData → Option PyData := gDef 1 2 f_Lheights
def c_Lpages_1 : En → Option PyData := (eVar 11)
def t_Lpages_1 : En → Option Bool := (tTr (e2 ixG (eVar 11) (eC (.int 1))))
def c_Lpages_2 : En → Option PyData := (eVar 12)
def t_Lpages_2 : En → Option Bool := (t1 (chI (fun i j => decide (i < j)) (fun i j => decide (i < j)) (e2 ixG (eVar 12) (eC (.int 0))) (eVar 8) (e2 addD (e2 ixG (eVar 12) (eC (.int 0))) (e2 ixG (eVar 12) (eC (.int 2))))))
def b_Lpages_1 : En → Out := (sSeq (sSet 9 (eL (fCmp [12] (iSeq (e2 ixG (eVar 0) (eC (.int 2)))) (gVal 12) t_Lpages_2 c_Lpages_2))) (sSeq (sSet 10 (eOr (e2 eqD (eVar 8) (eVar 3)) (eAnd (e2 eqD (eVar 9) (eL (fLst aNil))) (eNot (e2 ixG (e2 ixG (e2 ixG (eVar 0) (eC (.int 1))) (e2 subD (eVar 8) (eC (.int 1)))) (eC (.int 2))))))) (sIf (tAnd' (tTr (eVar 10)) (t1 (e2 leD (e2 addD (e2 subD (e2 addD (e2 ixG (eVar 1) (eVar 4)) (e2 ixG (eVar 1) (eVar 8))) (e2 ixG (eVar 1) (eVar 6))) (eC (.int 1))) (eVar 2)))) (sApp 7 (eVar 8)) sNil)))
def b_Lpages_2 : En → Out := (sSeq (sOwn 7 (fLst aNil)) (sSeq (sFor (iR2 (aCons (e2 addD (eVar 6) (eC (.int 1))) (aCons (e2 addD (eVar 3) (eC (.int 1))) aNil))) (gVal 8) b_Lpages_1) (sSeq (sIf (t1 (e2 eqD (eBor 7) (eL (fLst aNil)))) (sRet (eC .none)) sNil) (sSeq (sApp 5 (eTup (aCons (eVar 6) (aCons (eIxO 7 (e1 negD (eC (.int 1)))) aNil)))) (sSet 6 (eIxO 7 (e1 negD (eC (.int 1)))))))))
def w_Lpages_2 : En → Option Bool := (t1 (e2 ltD (eVar 6) (eVar 3)))
def f_Lpages : En → Out := (sSeq (sSet 3 (eCall lenA (aCons (e2 ixG (eVar 0) (eC (.int 1))) aNil))) (sSeq (sSet 4 (eCall lenA (aCons (eL (fCmp [11] (iSeq (e2 ixG (eVar 0) (eC (.int 1)))) (gVal 11) t_Lpages_1 c_Lpages_1)) aNil))) (sSeq (sIf (t1 (e2 eqD (eVar 4) (eVar 3))) (sRet (eIf (t1 (e2 leD (e2 addD (e2 ixG (eVar 1) (eVar 3)) (eC (.int 1))) (eVar 2))) (eL (fLst (aCons (eTup (aCons (eVar 3) (aCons (eVar 3) aNil))) aNil))) (eC .none))) sNil) (sSeq (sOwn 5 (fLst aNil)) (sSeq (sSet 6 (eVar 4)) (sSeq (whlF w_Lpages_2 b_Lpages_2 100) (fun env => (sRet (eVar 5)) (frz 5 env))))))))
def g_Lpages : List PyData → Option PyData := gDef 3 13 f_Lpages
def f_Lother_table : En → Out := (sSeq (sSet 0 (eTup (aCons (eC (.int 1)) (aCons (eC .none) (aCons (eC .none) (aCons (eC (.str "left")) aNil)))))) (sSeq (sOwn 1 (fLst (aCons (eTup (aCons (eC (.int 0)) (aCons (eC (.int 0)) (aCons (eC (.int 1)) (aCons (eC (.int 1)) (aCons (eTup aNil) aNil)))))) (aCons (eTup (aCons (eC (.int 0)) (aCons (eC (.int 1)) (aCons (eC (.int 1)) (aCons (eC (.int 1)) (aCons (eTup aNil) aNil)))))) (aCons (eTup (aCons (eC (.int 1)) (aCons (eC (.int 0)) (aCons (eC (.int 1)) (aCons (eC (.int 1)) (aCons (eTup (aCons (eC (.str "bb")) (aCons (eC (.str "bb")) aNil))) aNil)))))) (aCons (eTup (aCons (eC (.int 1)) (aCons (eC (.int 1)) (aCons (eC (.int 1)) (aCons (eC (.int 1)) (aCons (eTup aNil) aNil)))))) (aCons (eTup (aCons (eC (.int 2)) (aCons (eC (.int 0)) (aCons (eC (.int 1)) (aCons (eC (.int 1)) (aCons (eTup aNil) aNil)))))) aNil))))))) (sSeq (sApp 1 (eTup (aCons (eC (.int 2)) (aCons (eC (.int 1)) (aCons (eC (.int 1)) (aCons (eC (.int 1)) (aCons (eTup (aCons (eC (.str "a")) (aCons (eC (.str "eeeeeeee")) (aCons (eC (.str "a")) aNil)))) aNil))))))) (sRet (eTup (aCons (eTup (aCons (eVar 0) (aCons (eVar 0) aNil))) (aCons (eTup (aCons (eTup (aCons (eC (.int 1)) (aCons (eC (.bool false)) (aCons (eC (.bool false)) aNil)))) (aCons (eTup (aCons (eC (.int 1)) (aCons (eC (.bool false)) (aCons (eC (.bool false)) aNil)))) (aCons (eTup (aCons (eC (.int 1)) (aCons (eC (.bool false)) (aCons (eC (.bool false)) aNil)))) aNil)))) (aCons (eTupO 1) aNil))))))))
def g_Lother_table : List PyData → Option PyData := gDef 0 2 f_Lother_table
def b_law_1 : En → Out := (sSeq (sSet 7 (eCall g_Lpages (aCons (eVar 1) (aCons (eVar 6) (aCons (eVar 3) aNil))))) (sIf (t1 (e2 isntD (eVar 7) (eC .none))) (sApp 4 (eTup (aCons (eCall lenA (aCons (eVar 7) aNil)) (aCons (e2 ixG (eVar 6) (e1 negD (eC (.int 1)))) (aCons (e2 ixG (eVar 5) (e1 negD (eC (.int 1)))) (aCons (eCall g_Lheights (aCons (eVar 6) aNil)) (aCons (eVar 5) (aCons (eTup (aCons (eVar 5) (aCons (eVar 6) aNil))) (aCons (eVar 7) aNil))))))))) sNil))
def f_law : En → Out := (sSeq (sSet 1 (eCall g_Ltable (aCons (eVar 0) (aCons (eC (.int 1)) (aCons (eC (.int 2)) (aCons (eC (.int 3)) aNil)))))) (sSeq (sSet 2 (e2 addD (eC (.int 3)) (e2 modD (eCall g_Lcell (aCons (eVar 0) (aCons (eC (.int 0)) aNil))) (eC (.int 12))))) (sSeq (sSet 3 (e2 addD (eC (.int 3)) (e2 modD (eCall g_Lcell (aCons (eVar 0) (aCons (eC (.int 2)) aNil))) (eC (.int 10))))) (sSeq (sIf (t1 (e2 eqD (e2 modD (eCall g_Lcell (aCons (eVar 0) (aCons (eC (.int 3)) aNil))) (eC (.int 4))) (eC (.int 1)))) (sSeq (sSet 1 (eCall g_Lother_table aNil)) (sSeq (sSet 2 (e2 addD (eC (.int 16)) (e2 modD (eCall g_Lcell (aCons (eVar 0) (aCons (eC (.int 0)) aNil))) (eC (.int 3))))) (sSet 3 (e2 addD (eC (.int 5)) (e2 modD (eCall g_Lcell (aCons (eVar 0) (aCons (eC (.int 2)) aNil))) (eC (.int 2))))))) sNil) (sSeq (sOwn 4 (fLst aNil)) (sSeq (sFor (iSeq (eCall g_Llayouts (aCons (eVar 1) (aCons (e2 subD (eVar 2) (eC (.int 1))) (aCons (eC (.int 11)) aNil))))) (gT [5, 6]) b_law_1) (sSeq (sSet 8 (eCall g_fewest_pages (aCons (eVar 1) (aCons (eVar 2) (aCons (eVar 3) aNil))))) (sSeq (fun env => (sIf (t1 (e2 eqD (eCall lenA (aCons (eVar 4) aNil)) (eC (.int 0)))) (sRet (e2 isD (eVar 8) (eC .none))) sNil) (frz 4 env)) (sSeq (sSet 9 (eMinD (eVar 4))) (sRet (eAnd (eIsi "tuple" (eVar 8)) (e2 eqD (eVar 8) (eTup (aCons (e2 ixG (eVar 9) (eC (.int 5))) (aCons (e2 ixG (eVar 9) (eC (.int 6))) aNil)))))))))))))))
def g_law : List PyData → Option PyData := gDef 1 10 f_law
/-! ### the text does so -/
section
variable {P : Program} {w : World} {K : PySem.W.Frag} {mg : Str → Option Value} {base : Heap}
theorem ok_inner_size {f : Addr} {fd : FuncData} (F : Fun K "inner_size" "inner_size" s_inner_size f fd)  : FnOk P w K mg base CX0 1 f fd ["lines", "first", "span"] (spF K g_inner_size) := by
  refine fn_ok (k := 0) (fB := f_inner_size) (np := 3) (nN := 3) F sc_inner_size rfl rfl rfl fun cdv A outer s H E hr => ?_
  have nd : N_inner_size.Nodup := sc_inner_size.nd
  exact ((cs_one (cs_ret (ce_sub (ce_sub (ce_ix (ce_var (i := 0) (pv 0)) (ce_add (ce_var (i := 1) (pv 1)) (ce_var (i := 2) (pv 2))) (fun _ _ => rfl)) (ce_ix (ce_var (i := 0) (pv 0)) (ce_var (i := 1) (pv 1)) (fun _ _ => rfl))) ce_int))))
theorem ok_inner_sizes {f : Addr} {fd : FuncData} (F : Fun K "inner_sizes" "inner_sizes" s_inner_sizes f fd) {a_inner_size : Addr} {d_inner_size : FuncData} (G_inner_size : FnOk P w K mg base CX0 1 a_inner_size d_inner_size ["lines", "first", "span"] (spF K g_inner_size)) (M_inner_size : mg "inner_size" = some (.ref a_inner_size)) (k_inner_size : PySem.W.keepIn K (.ref a_inner_size) = true) (b_inner_size : Binds K d_inner_size ["lines", "first", "span"] []) (m_len : mg "len" = none) (m_range : mg "range" = none) (m_tuple : mg "tuple" = none) : FnOk P w K mg base CX0 2 f fd ["lines"] (spF K g_inner_sizes) := by
  refine fn_ok (k := 1) (fB := f_inner_sizes) (np := 1) (nN := 2) F sc_inner_sizes rfl rfl rfl fun cdv A outer s H E hr => ?_
  have nd : N_inner_sizes.Nodup := sc_inner_sizes.nd
  exact ((cs_one (cs_ret (ce_cb (c2 := true) cr_tup (pe_callTy call_tuple_of (by rfl) m_tuple (by decide +kernel) (ca_cons (ce_l (c := true) (cf_lc1 (c2 := true) (pe_lc (own := [("number", 1)]) (by rfl) nd (ci_r1 (pi_range1 (by rfl) m_range (ca_cons (ce_sub (ce_cb (c2 := true) cr_len (pe_callB call_len (by rfl) m_len boot_len (ca_cons (ce_var (i := 0) (pv 0)) ca_nil))) ce_int) ca_nil))) (blkOk_by (own := [("number", 1)]) (N := N_inner_sizes) (sc := defScope s_inner_sizes) (by decide +kernel)) (fun _ _ _ _ _ => (cg_name (pg_name (i := 1) nd rfl (by first | exact Or.inl rfl | exact Or.inr rfl)))) (fun _ _ _ _ _ => pts_nil) (fun _ _ _ _ _ => (ce_call (c := true) (pe_call G_inner_size (hr.mono (by decide)) (by rfl) M_inner_size k_inner_size b_inner_size .nil pass0 (ca_cons (ce_var (i := 0) (pv 0)) (ca_cons (ce_var (i := 1) (pv 1)) (ca_cons ce_int ca_nil))))))))) ca_nil))))))
theorem ok_lines_around {f : Addr} {fd : FuncData} (F : Fun K "lines_around" "lines_around" s_lines_around f fd)  : FnOk P w K mg base CX0 1 f fd ["sizes"] (spF K g_lines_around) := by
  refine fn_ok (k := 0) (fB := f_lines_around) (np := 1) (nN := 3) F sc_lines_around rfl rfl rfl fun cdv A outer s H E hr => ?_
  have nd : N_lines_around.Nodup := sc_lines_around.nd
  exact ((cs_cons (cs_set (ps_set (i := 1) nd rfl (by first | exact Or.inl rfl | exact Or.inr rfl) (ce_tup (ca_cons ce_int ca_nil))))
    (cs_cons (cs_for PassesOwn.never (by rfl) (ci_seq (ce_var (i := 0) (pv 0))) (cg_name (pg_name (i := 2) nd rfl (by first | exact Or.inl rfl | exact Or.inr rfl)))
    (cs_one (cs_set (ps_set (i := 1) nd rfl (by first | exact Or.inl rfl | exact Or.inr rfl) (ce_add (ce_var (i := 1) (pv 1)) (ce_tup (ca_cons (ce_add (ce_add (ce_ix (ce_var (i := 1) (pv 1)) (ce_neg ce_int) (fun _ _ => rfl)) (ce_var (i := 2) (pv 2))) ce_int) ca_nil)))))))
    (cs_one (cs_ret (ce_var (i := 1) (pv 1)))))))
theorem ok_width_of {f : Addr} {fd : FuncData} (F : Fun K "width_of" "width_of" s_width_of f fd)  : FnOk P w K mg base CX0 1 f fd ["layout"] (spF K g_width_of) := by
  refine fn_ok (k := 0) (fB := f_width_of) (np := 1) (nN := 1) F sc_width_of rfl rfl rfl fun cdv A outer s H E hr => ?_
  have nd : N_width_of.Nodup := sc_width_of.nd
  exact ((cs_one (cs_ret (ce_add (ce_ix (ce_ix (ce_var (i := 0) (pv 0)) ce_int (fun _ _ => rfl)) (ce_neg ce_int) (fun _ _ => rfl)) ce_int))))
theorem ok_height_of {f : Addr} {fd : FuncData} (F : Fun K "height_of" "height_of" s_height_of f fd)  : FnOk P w K mg base CX0 1 f fd ["layout"] (spF K g_height_of) := by
  refine fn_ok (k := 0) (fB := f_height_of) (np := 1) (nN := 1) F sc_height_of rfl rfl rfl fun cdv A outer s H E hr => ?_
  have nd : N_height_of.Nodup := sc_height_of.nd
  exact ((cs_one (cs_ret (ce_add (ce_ix (ce_ix (ce_var (i := 0) (pv 0)) ce_int (fun _ _ => rfl)) (ce_neg ce_int) (fun _ _ => rfl)) ce_int))))
theorem ok_longest {f : Addr} {fd : FuncData} (F : Fun K "longest" "longest" s_longest f fd) (m_len : mg "len" = none) (m_max : mg "max" = none) : FnOk P w K mg base CX0 1 f fd ["words"] (spF K g_longest) := by
  refine fn_ok (k := 0) (fB := f_longest) (np := 1) (nN := 2) F sc_longest rfl rfl rfl fun cdv A outer s H E hr => ?_
  have nd : N_longest.Nodup := sc_longest.nd
  exact ((cs_one (cs_ret (ce_mxD (c := true) (pe_callBK (call_mxD rfl hr.units) (by rfl) m_max (by decide +kernel) (pa_cons (ce_l (c := true) (cf_lc1 (c2 := true) (pe_lc (own := [("word", 1)]) (by rfl) nd (ci_seq (ce_var (i := 0) (pv 0))) (blkOk_by (own := [("word", 1)]) (N := N_longest) (sc := defScope s_longest) (by decide +kernel)) (fun _ _ _ _ _ => (cg_name (pg_name (i := 1) nd rfl (by first | exact Or.inl rfl | exact Or.inr rfl)))) (fun _ _ _ _ _ => pts_nil) (fun _ _ _ _ _ => (ce_cb (c2 := true) cr_len (pe_callB call_len (by rfl) m_len boot_len (ca_cons (ce_var (i := 1) (pv 1)) ca_nil))))))) pa_nil) (pk_cons ce_int pk_nil))))))
theorem ok_length_of {f : Addr} {fd : FuncData} (F : Fun K "length_of" "length_of" s_length_of f fd) (m_len : mg "len" = none) : FnOk P w K mg base CX0 1 f fd ["words"] (spF K g_length_of) := by
  refine fn_ok (k := 0) (fB := f_length_of) (np := 1) (nN := 1) F sc_length_of rfl rfl rfl fun cdv A outer s H E hr => ?_
  have nd : N_length_of.Nodup := sc_length_of.nd
  exact ((cs_one (cs_ret (ce_cb (c2 := true) cr_len (pe_callB call_len (by rfl) m_len boot_len (ca_cons (ce_join (t := tNilE) (pe_join ce_str (ce_var (i := 0) (pv 0)))) ca_nil))))))
theorem ok_wrap {f : Addr} {fd : FuncData} (F : Fun K "wrap" "wrap" s_wrap f fd) {a_longest : Addr} {d_longest : FuncData} (G_longest : FnOk P w K mg base CX0 1 a_longest d_longest ["words"] (spF K g_longest)) (M_longest : mg "longest" = some (.ref a_longest)) (k_longest : PySem.W.keepIn K (.ref a_longest) = true) (b_longest : Binds K d_longest ["words"] []) {a_length_of : Addr} {d_length_of : FuncData} (G_length_of : FnOk P w K mg base CX0 1 a_length_of d_length_of ["words"] (spF K g_length_of)) (M_length_of : mg "length_of" = some (.ref a_length_of)) (k_length_of : PySem.W.keepIn K (.ref a_length_of) = true) (b_length_of : Binds K d_length_of ["words"] []) (m_len : mg "len" = none) : FnOk P w K mg base CX0 2 f fd ["words", "width"] (spF K g_wrap) := by
  refine fn_ok (k := 1) (fB := f_wrap) (np := 2) (nN := 5) F sc_wrap rfl rfl rfl fun cdv A outer s H E hr => ?_
  have nd : N_wrap.Nodup := sc_wrap.nd
  exact ((cs_cons (cs_if (ct_cmp op_gt r2_B0 (ce_call (c := true) (pe_call G_longest (hr.mono (by decide)) (by rfl) M_longest k_longest b_longest .nil pass0 (ca_cons (ce_var (i := 0) (pv 0)) ca_nil))) (ce_var (i := 1) (pv 1)) (nomark _))
    (cs_one (cs_ret ce_non))
    cs_nil)
    (cs_cons (cs_own (ps_set (i := 2) nd rfl (by first | exact Or.inl rfl | exact Or.inr rfl) (cf_lst (c := true) ca_nil)))
    (cs_cons (cs_set (ps_set (i := 3) nd rfl (by first | exact Or.inl rfl | exact Or.inr rfl) (ce_tup ca_nil)))
    (cs_cons (cs_for PassesOwn.never (by rfl) (ci_seq (ce_var (i := 0) (pv 0))) (cg_name (pg_name (i := 4) nd rfl (by first | exact Or.inl rfl | exact Or.inr rfl)))
    (cs_cons (cs_if (PW.pt (cw_and (ct_tru (ce_var (i := 3) (pv 3)) (by intro _; rfl)) (cw_and1 (ct_cmp op_gt r2_B0 (ce_add (ce_add (ce_call (c := true) (pe_call G_length_of (hr.mono (by decide)) (by rfl) M_length_of k_length_of b_length_of .nil pass0 (ca_cons (ce_var (i := 3) (pv 3)) ca_nil))) ce_int) (ce_cb (c2 := true) cr_len (pe_callB call_len (by rfl) m_len boot_len (ca_cons (ce_var (i := 4) (pv 4)) ca_nil)))) (ce_var (i := 1) (pv 1)) (nomark _)))))
    (cs_cons (cs_app (ps_expr (pe_bm PySem.F.plainAttrs_list PySem.F.slot_list_append PySem.F.type_list_append mt_append (pv 2) (pa_cons (ce_var (i := 3) (pv 3)) pa_nil))))
    (cs_one (cs_set (ps_set (i := 3) nd rfl (by first | exact Or.inl rfl | exact Or.inr rfl) (ce_tup ca_nil)))))
    cs_nil)
    (cs_one (cs_set (ps_set (i := 3) nd rfl (by first | exact Or.inl rfl | exact Or.inr rfl) (ce_add (ce_var (i := 3) (pv 3)) (ce_tup (ca_cons (ce_var (i := 4) (pv 4)) ca_nil))))))))
    (cs_cons (cs_if (ct_tru (ce_var (i := 3) (pv 3)) (by intro _; rfl))
    (cs_one (cs_app (ps_expr (pe_bm PySem.F.plainAttrs_list PySem.F.slot_list_append PySem.F.type_list_append mt_append (pv 2) (pa_cons (ce_var (i := 3) (pv 3)) pa_nil)))))
    cs_nil)
    (cs_one (cs_frz (i := 2) (cs_ret (ce_var (i := 2) (pv 2)))))))))))
theorem ok_line_count {f : Addr} {fd : FuncData} (F : Fun K "line_count" "line_count" s_line_count f fd) {a_wrap : Addr} {d_wrap : FuncData} (G_wrap : FnOk P w K mg base CX0 2 a_wrap d_wrap ["words", "width"] (spF K g_wrap)) (M_wrap : mg "wrap" = some (.ref a_wrap)) (k_wrap : PySem.W.keepIn K (.ref a_wrap) = true) (b_wrap : Binds K d_wrap ["words", "width"] []) (m_len : mg "len" = none) : FnOk P w K mg base CX0 3 f fd ["words", "width"] (spF K g_line_count) := by
  refine fn_ok (k := 2) (fB := f_line_count) (np := 2) (nN := 3) F sc_line_count rfl rfl rfl fun cdv A outer s H E hr => ?_
  have nd : N_line_count.Nodup := sc_line_count.nd
  exact ((cs_cons (cs_set (ps_set (i := 2) nd rfl (by first | exact Or.inl rfl | exact Or.inr rfl) (ce_call (c := true) (pe_call G_wrap (hr.mono (by decide)) (by rfl) M_wrap k_wrap b_wrap .nil pass0 (ca_cons (ce_var (i := 0) (pv 0)) (ca_cons (ce_var (i := 1) (pv 1)) ca_nil))))))
    (cs_cons (cs_if (ct_cmp op_isN r2_is (ce_var (i := 2) (pv 2)) ce_non (nomark _))
    (cs_one (cs_ret ce_non))
    cs_nil)
    (cs_one (cs_ret (ce_cb (c2 := true) cr_len (pe_callB call_len (by rfl) m_len boot_len (ca_cons (ce_var (i := 2) (pv 2)) ca_nil))))))))
theorem ok_narrowest {f : Addr} {fd : FuncData} (F : Fun K "narrowest" "narrowest" s_narrowest f fd) {a_longest : Addr} {d_longest : FuncData} (G_longest : FnOk P w K mg base CX0 1 a_longest d_longest ["words"] (spF K g_longest)) (M_longest : mg "longest" = some (.ref a_longest)) (k_longest : PySem.W.keepIn K (.ref a_longest) = true) (b_longest : Binds K d_longest ["words"] []) {a_line_count : Addr} {d_line_count : FuncData} (G_line_count : FnOk P w K mg base CX0 3 a_line_count d_line_count ["words", "width"] (spF K g_line_count)) (M_line_count : mg "line_count" = some (.ref a_line_count)) (k_line_count : PySem.W.keepIn K (.ref a_line_count) = true) (b_line_count : Binds K d_line_count ["words", "width"] []) (m_max : mg "max" = none) : FnOk P w K mg base CX0 4 f fd ["words", "lines"] (spF K g_narrowest) := by
  refine fn_ok (k := 3) (fB := f_narrowest) (np := 2) (nN := 3) F sc_narrowest rfl rfl rfl fun cdv A outer s H E hr => ?_
  have nd : N_narrowest.Nodup := sc_narrowest.nd
  exact ((cs_cons (cs_if (ct_not (ct_tru (ce_var (i := 0) (pv 0)) (by intro _; rfl)))
    (cs_one (cs_ret ce_int))
    cs_nil)
    (cs_cons (cs_if (ct_cmp op_lt r2_B0 (ce_var (i := 1) (pv 1)) ce_int (nomark _))
    (cs_one (cs_ret ce_non))
    cs_nil)
    (cs_cons (cs_set (ps_set (i := 2) nd rfl (by first | exact Or.inl rfl | exact Or.inr rfl) (ce_cb (c2 := true) cr_mx2 (pe_callB (call_max2 rfl) (by rfl) m_max (by decide +kernel) (ca_cons ce_int (ca_cons (ce_call (c := true) (pe_call G_longest (hr.mono (by decide)) (by rfl) M_longest k_longest b_longest .nil pass0 (ca_cons (ce_var (i := 0) (pv 0)) ca_nil))) ca_nil))))))
    (cs_cons (cs_while 100 PassesOwn.never (ct_cmp op_gt r2_B0 (ce_call (c := true) (pe_call G_line_count (hr.mono (by decide)) (by rfl) M_line_count k_line_count b_line_count .nil pass0 (ca_cons (ce_var (i := 0) (pv 0)) (ca_cons (ce_var (i := 2) (pv 2)) ca_nil)))) (ce_var (i := 1) (pv 1)) (nomark _))
    (cs_one (cs_aug (ps_aug (i := 2) nd rfl (by first | exact Or.inl rfl | exact Or.inr rfl) ce_int ip_add))))
    (cs_one (cs_ret (ce_var (i := 2) (pv 2)))))))))
theorem ok_covers_both {f : Addr} {fd : FuncData} (F : Fun K "covers_both" "covers_both" s_covers_both f fd)  : FnOk P w K mg base CX0 1 f fd ["cell", "row"] (spF K g_covers_both) := by
  refine fn_ok (k := 0) (fB := f_covers_both) (np := 2) (nN := 2) F sc_covers_both rfl rfl rfl fun cdv A outer s H E hr => ?_
  have nd : N_covers_both.Nodup := sc_covers_both.nd
  exact ((cs_one (cs_ret (ce_chain (c := true) (c1 := true) (c2 := true) (pe_chain op_lt op_lt (ce_ix (ce_var (i := 0) (pv 0)) ce_int (fun _ _ => rfl)) (ce_var (i := 1) (pv 1)) (ce_add (ce_ix (ce_var (i := 0) (pv 0)) ce_int (fun _ _ => rfl)) (ce_ix (ce_var (i := 0) (pv 0)) ce_int (fun _ _ => rfl))))))))
theorem ok_head_count {f : Addr} {fd : FuncData} (F : Fun K "head_count" "head_count" s_head_count f fd) (m_len : mg "len" = none) : FnOk P w K mg base CX0 1 f fd ["table"] (spF K g_head_count) := by
  refine fn_ok (k := 0) (fB := f_head_count) (np := 1) (nN := 2) F sc_head_count rfl rfl rfl fun cdv A outer s H E hr => ?_
  have nd : N_head_count.Nodup := sc_head_count.nd
  exact ((cs_one (cs_ret (ce_cb (c2 := true) cr_len (pe_callB call_len (by rfl) m_len boot_len (ca_cons (ce_l (c := true) (cf_lc (c2 := true) (pe_lc (own := [("row", 1)]) (by rfl) nd (ci_seq (ce_ix (ce_var (i := 0) (pv 0)) ce_int (fun _ _ => rfl))) (blkOk_by (own := [("row", 1)]) (N := N_head_count) (sc := defScope s_head_count) (by decide +kernel)) (fun _ _ _ _ _ => (cg_name (pg_name (i := 1) nd rfl (by first | exact Or.inl rfl | exact Or.inr rfl)))) (fun _ _ _ _ _ => (pts_one (ct_tru (ce_ix (ce_var (i := 1) (pv 1)) ce_int (fun _ _ => rfl)) (by intro _; rfl)))) (fun _ _ _ _ _ => (ce_var (i := 1) (pv 1)))))) ca_nil))))))
theorem ok_breakable_rows {f : Addr} {fd : FuncData} (F : Fun K "breakable_rows" "breakable_rows" s_breakable_rows f fd) {a_head_count : Addr} {d_head_count : FuncData} (G_head_count : FnOk P w K mg base CX0 1 a_head_count d_head_count ["table"] (spF K g_head_count)) (M_head_count : mg "head_count" = some (.ref a_head_count)) (k_head_count : PySem.W.keepIn K (.ref a_head_count) = true) (b_head_count : Binds K d_head_count ["table"] []) {a_covers_both : Addr} {d_covers_both : FuncData} (G_covers_both : FnOk P w K mg base CX0 1 a_covers_both d_covers_both ["cell", "row"] (spF K g_covers_both)) (M_covers_both : mg "covers_both" = some (.ref a_covers_both)) (k_covers_both : PySem.W.keepIn K (.ref a_covers_both) = true) (b_covers_both : Binds K d_covers_both ["cell", "row"] []) (m_len : mg "len" = none) (m_range : mg "range" = none) (m_any : mg "any" = none) : FnOk P w K mg base CX0 2 f fd ["table"] (spF K g_breakable_rows) := by
  refine fn_ok (k := 1) (fB := f_breakable_rows) (np := 1) (nN := 7) F sc_breakable_rows rfl rfl rfl fun cdv A outer s H E hr => ?_
  have nd : N_breakable_rows.Nodup := sc_breakable_rows.nd
  exact ((cs_cons (cs_unp (ps_asg (ce_sl (ce_var (i := 0) (pv 0)) (co_some ce_int) co_none) (cg_tup (is := [1, 2]) (pg_tup rfl (pgs_cons (pg_name (i := 1) nd rfl (by first | exact Or.inl rfl | exact Or.inr rfl)) (pgs_cons (pg_name (i := 2) nd rfl (by first | exact Or.inl rfl | exact Or.inr rfl)) pgs_nil))))))
    (cs_cons (cs_own (ps_set (i := 3) nd rfl (by first | exact Or.inl rfl | exact Or.inr rfl) (cf_lst (c := true) ca_nil)))
    (cs_cons (cs_for PassesOwn.never (by rfl) (ci_r2 (pi_range2 (by rfl) m_range (ca_cons (ce_add (ce_call (c := true) (pe_call G_head_count (hr.mono (by decide)) (by rfl) M_head_count k_head_count b_head_count .nil pass0 (ca_cons (ce_var (i := 0) (pv 0)) ca_nil))) ce_int) (ca_cons (ce_cb (c2 := true) cr_len (pe_callB call_len (by rfl) m_len boot_len (ca_cons (ce_var (i := 1) (pv 1)) ca_nil))) ca_nil)))) (cg_name (pg_name (i := 4) nd rfl (by first | exact Or.inl rfl | exact Or.inr rfl)))
    (cs_cons (cs_set (ps_set (i := 5) nd rfl (by first | exact Or.inl rfl | exact Or.inr rfl) (ce_ix (ce_ix (ce_var (i := 1) (pv 1)) (ce_sub (ce_var (i := 4) (pv 4)) ce_int) (fun _ _ => rfl)) ce_int (fun _ _ => rfl))))
    (cs_one (cs_if (PW.pt (cw_and (ct_not (ct_tru (ce_var (i := 5) (pv 5)) (by intro _; rfl))) (cw_and1 (ct_not (ct_val (ce_cb (c2 := true) cr_any' (pe_callB (cr_any rfl) (by rfl) m_any (by decide +kernel) (ca_cons (ce_l (c := true) (cf_lc1 (c2 := true) (pe_lc (own := [("cell", 6)]) (by rfl) nd (ci_seq (ce_var (i := 2) (pv 2))) (blkOk_by (own := [("cell", 6)]) (N := N_breakable_rows) (sc := defScope s_breakable_rows) (by decide +kernel)) (fun _ _ _ _ _ => (cg_name (pg_name (i := 6) nd rfl (by first | exact Or.inl rfl | exact Or.inr rfl)))) (fun _ _ _ _ _ => pts_nil) (fun _ _ _ _ _ => (ce_call (c := true) (pe_call G_covers_both (hr.mono (by decide)) (by rfl) M_covers_both k_covers_both b_covers_both .nil pass0 (ca_cons (ce_var (i := 6) (pv 6)) (ca_cons (ce_var (i := 4) (pv 4)) ca_nil)))))))) ca_nil))))))))
    (cs_one (cs_app (ps_expr (pe_bm PySem.F.plainAttrs_list PySem.F.slot_list_append PySem.F.type_list_append mt_append (pv 3) (pa_cons (ce_var (i := 4) (pv 4)) pa_nil)))))
    cs_nil))))
    (cs_one (cs_frz (i := 3) (cs_ret (ce_var (i := 3) (pv 3)))))))))
theorem ok_height_of_page {f : Addr} {fd : FuncData} (F : Fun K "height_of_page" "height_of_page" s_height_of_page f fd)  : FnOk P w K mg base CX0 1 f fd ["row_lines", "head", "first", "behind"] (spF K g_height_of_page) := by
  refine fn_ok (k := 0) (fB := f_height_of_page) (np := 4) (nN := 4) F sc_height_of_page rfl rfl rfl fun cdv A outer s H E hr => ?_
  have nd : N_height_of_page.Nodup := sc_height_of_page.nd
  exact ((cs_one (cs_ret (ce_add (ce_sub (ce_add (ce_ix (ce_var (i := 0) (pv 0)) (ce_var (i := 1) (pv 1)) (fun _ _ => rfl)) (ce_ix (ce_var (i := 0) (pv 0)) (ce_var (i := 3) (pv 3)) (fun _ _ => rfl))) (ce_ix (ce_var (i := 0) (pv 0)) (ce_var (i := 2) (pv 2)) (fun _ _ => rfl))) ce_int))))
theorem ok_paginate {f : Addr} {fd : FuncData} (F : Fun K "paginate" "paginate" s_paginate f fd) {a_head_count : Addr} {d_head_count : FuncData} (G_head_count : FnOk P w K mg base CX0 1 a_head_count d_head_count ["table"] (spF K g_head_count)) (M_head_count : mg "head_count" = some (.ref a_head_count)) (k_head_count : PySem.W.keepIn K (.ref a_head_count) = true) (b_head_count : Binds K d_head_count ["table"] []) {a_height_of_page : Addr} {d_height_of_page : FuncData} (G_height_of_page : FnOk P w K mg base CX0 1 a_height_of_page d_height_of_page ["row_lines", "head", "first", "behind"] (spF K g_height_of_page)) (M_height_of_page : mg "height_of_page" = some (.ref a_height_of_page)) (k_height_of_page : PySem.W.keepIn K (.ref a_height_of_page) = true) (b_height_of_page : Binds K d_height_of_page ["row_lines", "head", "first", "behind"] []) {a_breakable_rows : Addr} {d_breakable_rows : FuncData} (G_breakable_rows : FnOk P w K mg base CX0 2 a_breakable_rows d_breakable_rows ["table"] (spF K g_breakable_rows)) (M_breakable_rows : mg "breakable_rows" = some (.ref a_breakable_rows)) (k_breakable_rows : PySem.W.keepIn K (.ref a_breakable_rows) = true) (b_breakable_rows : Binds K d_breakable_rows ["table"] []) (m_len : mg "len" = none) : FnOk P w K mg base CX0 3 f fd ["table", "row_lines", "page_height"] (spF K g_paginate) := by
  refine fn_ok (k := 2) (fB := f_paginate) (np := 3) (nN := 11) F sc_paginate rfl rfl rfl fun cdv A outer s H E hr => ?_
  have nd : N_paginate.Nodup := sc_paginate.nd
  exact ((cs_cons (cs_set (ps_set (i := 3) nd rfl (by first | exact Or.inl rfl | exact Or.inr rfl) (ce_call (c := true) (pe_call G_head_count (hr.mono (by decide)) (by rfl) M_head_count k_head_count b_head_count .nil pass0 (ca_cons (ce_var (i := 0) (pv 0)) ca_nil)))))
    (cs_cons (cs_set (ps_set (i := 4) nd rfl (by first | exact Or.inl rfl | exact Or.inr rfl) (ce_cb (c2 := true) cr_len (pe_callB call_len (by rfl) m_len boot_len (ca_cons (ce_ix (ce_var (i := 0) (pv 0)) ce_int (fun _ _ => rfl)) ca_nil)))))
    (cs_cons (cs_if (ct_cmp (op_eqD hr.units) r2_eq (ce_var (i := 3) (pv 3)) (ce_var (i := 4) (pv 4)) (nomark _))
    (cs_cons (cs_set (ps_set (i := 5) nd rfl (by first | exact Or.inl rfl | exact Or.inr rfl) (ce_cmp op_le r2_B0 (ce_call (c := true) (pe_call G_height_of_page (hr.mono (by decide)) (by rfl) M_height_of_page k_height_of_page b_height_of_page .nil pass0 (ca_cons (ce_var (i := 1) (pv 1)) (ca_cons (ce_var (i := 3) (pv 3)) (ca_cons (ce_var (i := 3) (pv 3)) (ca_cons (ce_var (i := 3) (pv 3)) ca_nil)))))) (ce_var (i := 2) (pv 2)) (nomark _))))
    (cs_one (cs_ret (ce_if (ct_tru (ce_var (i := 5) (pv 5)) (by intro _; rfl)) (ce_l (c := true) (cf_lst (c := true) (ca_cons (ce_tup (ca_cons (ce_var (i := 3) (pv 3)) (ca_cons (ce_var (i := 3) (pv 3)) ca_nil))) ca_nil))) ce_non))))
    cs_nil)
    (cs_cons (cs_set (ps_set (i := 6) nd rfl (by first | exact Or.inl rfl | exact Or.inr rfl) (ce_l (c := true) (cf_cat (c := true) (ce_call (c := true) (pe_call G_breakable_rows (hr.mono (by decide)) (by rfl) M_breakable_rows k_breakable_rows b_breakable_rows .nil pass0 (ca_cons (ce_var (i := 0) (pv 0)) ca_nil))) (ce_l (c := true) (cf_lst (c := true) (ca_cons (ce_var (i := 4) (pv 4)) ca_nil)))))))
    (cs_cons (cs_own (ps_set (i := 7) nd rfl (by first | exact Or.inl rfl | exact Or.inr rfl) (cf_lst (c := true) ca_nil)))
    (cs_cons (cs_set (ps_set (i := 8) nd rfl (by first | exact Or.inl rfl | exact Or.inr rfl) (ce_var (i := 3) (pv 3))))
    (cs_cons (cs_while 100 PassesOwn.never (ct_cmp op_lt r2_B0 (ce_var (i := 8) (pv 8)) (ce_var (i := 4) (pv 4)) (nomark _))
    (cs_cons (cs_lcV (ps_setLc (i := 9) (own := [("behind", 10)]) rfl nd rfl rfl (sw_true rfl rfl rfl (by decide +kernel)) (ci_seq (ce_var (i := 6) (pv 6))) (blkOk_by (own := [("behind", 10)]) (N := N_paginate) (sc := defScope s_paginate) (by decide +kernel)) (fun _ _ _ _ _ => (cg_name (pg_name (i := 10) nd rfl (by first | exact Or.inl rfl | exact Or.inr rfl)))) (fun _ _ _ _ _ => (pts_one (PW.pt (cw_and (ct_cmp op_gt r2_B0 (ce_var (i := 10) (pv 10)) (ce_var (i := 8) (pv 8)) (nomark _)) (cw_and1 (ct_cmp op_le r2_B0 (ce_call (c := true) (pe_call G_height_of_page (hr.mono (by decide)) (by rfl) M_height_of_page k_height_of_page b_height_of_page .nil pass0 (ca_cons (ce_var (i := 1) (pv 1)) (ca_cons (ce_var (i := 3) (pv 3)) (ca_cons (ce_var (i := 8) (pv 8)) (ca_cons (ce_var (i := 10) (pv 10)) ca_nil)))))) (ce_var (i := 2) (pv 2)) (nomark _))))))) (fun _ _ _ _ _ => (ce_var (i := 10) (pv 10)))))
    (cs_cons (cs_if (ct_not (ct_tru (ce_var (i := 9) (pv 9)) (by intro _; rfl)))
    (cs_one (cs_ret ce_non))
    cs_nil)
    (cs_cons (cs_app (ps_expr (pe_bm PySem.F.plainAttrs_list PySem.F.slot_list_append PySem.F.type_list_append mt_append (pv 7) (pa_cons (ce_tup (ca_cons (ce_var (i := 8) (pv 8)) (ca_cons (ce_ix (ce_var (i := 9) (pv 9)) (ce_neg ce_int) (fun _ _ => rfl)) ca_nil))) pa_nil))))
    (cs_one (cs_set (ps_set (i := 8) nd rfl (by first | exact Or.inl rfl | exact Or.inr rfl) (ce_ix (ce_var (i := 9) (pv 9)) (ce_neg ce_int) (fun _ _ => rfl)))))))))
    (cs_one (cs_frz (i := 7) (cs_ret (ce_var (i := 7) (pv 7)))))))))))))
theorem ok_raised {f : Addr} {fd : FuncData} (F : Fun K "raised" "raised" s_raised f fd) (m_list : mg "list" = none) : FnOk P w K mg base CX0 1 f fd ["positions", "constraints"] (spF K g_raised) := by
  refine fn_ok (k := 0) (fB := f_raised) (np := 2) (nN := 6) F sc_raised rfl rfl rfl fun cdv A outer s H E hr => ?_
  have nd : N_raised.Nodup := sc_raised.nd
  exact ((cs_cons (cs_own (ps_set (i := 2) nd rfl (by first | exact Or.inl rfl | exact Or.inr rfl) (cf_list (c := true) (pe_callTy call_list_of (by rfl) m_list (by decide +kernel) (pa_cons (ce_var (i := 0) (pv 0)) pa_nil)))))
    (cs_cons (cs_for PassesOwn.never (by rfl) (ci_seq (ce_var (i := 1) (pv 1))) (cg_tup (is := [3, 4, 5]) (pg_tup rfl (pgs_cons (pg_name (i := 3) nd rfl (by first | exact Or.inl rfl | exact Or.inr rfl)) (pgs_cons (pg_name (i := 4) nd rfl (by first | exact Or.inl rfl | exact Or.inr rfl)) (pgs_cons (pg_name (i := 5) nd rfl (by first | exact Or.inl rfl | exact Or.inr rfl)) pgs_nil)))))
    (cs_one (cs_if (ct_cmp op_lt r2_B0 (ce_ixO (i := 2) (pv 2) (ce_var (i := 4) (pv 4)) (fun _ _ => rfl)) (ce_add (ce_ixO (i := 2) (pv 2) (ce_var (i := 3) (pv 3)) (fun _ _ => rfl)) (ce_var (i := 5) (pv 5))) (nomark _))
    (cs_one (cs_put (ps_asg (ce_add (ce_ixO (i := 2) (pv 2) (ce_var (i := 3) (pv 3)) (fun _ _ => rfl)) (ce_var (i := 5) (pv 5))) (pg_sub (pv 2) (ce_var (i := 4) (pv 4)) set_list))))
    cs_nil)))
    (cs_one (cs_frz (i := 2) (cs_ret (ce_var (i := 2) (pv 2))))))))
theorem ok_least_positions {f : Addr} {fd : FuncData} (F : Fun K "least_positions" "least_positions" s_least_positions f fd) {a_raised : Addr} {d_raised : FuncData} (G_raised : FnOk P w K mg base CX0 1 a_raised d_raised ["positions", "constraints"] (spF K g_raised)) (M_raised : mg "raised" = some (.ref a_raised)) (k_raised : PySem.W.keepIn K (.ref a_raised) = true) (b_raised : Binds K d_raised ["positions", "constraints"] []) (m_range : mg "range" = none) : FnOk P w K mg base CX0 2 f fd ["count", "constraints"] (spF K g_least_positions) := by
  refine fn_ok (k := 1) (fB := f_least_positions) (np := 2) (nN := 5) F sc_least_positions rfl rfl rfl fun cdv A outer s H E hr => ?_
  have nd : N_least_positions.Nodup := sc_least_positions.nd
  exact ((cs_cons (cs_set (ps_set (i := 2) nd rfl (by first | exact Or.inl rfl | exact Or.inr rfl) (ce_l (c := true) (cf_rep (c := true) (cf_lst (c := true) (ca_cons ce_int ca_nil)) (ce_var (i := 0) (pv 0))))))
    (cs_cons (cs_for PassesOwn.never (by rfl) (ci_r1 (pi_range1 (by rfl) m_range (ca_cons (ce_var (i := 0) (pv 0)) ca_nil))) (cg_name (pg_name (i := 3) nd rfl (by first | exact Or.inl rfl | exact Or.inr rfl)))
    (cs_cons (cs_set (ps_set (i := 4) nd rfl (by first | exact Or.inl rfl | exact Or.inr rfl) (ce_call (c := true) (pe_call G_raised (hr.mono (by decide)) (by rfl) M_raised k_raised b_raised .nil pass0 (ca_cons (ce_var (i := 2) (pv 2)) (ca_cons (ce_var (i := 1) (pv 1)) ca_nil))))))
    (cs_cons (cs_if (ct_cmp (op_eqD hr.units) r2_eq (ce_var (i := 4) (pv 4)) (ce_var (i := 2) (pv 2)) (nomark _))
    (cs_one (cs_ret (ce_var (i := 2) (pv 2))))
    cs_nil)
    (cs_cons (cs_if (ct_cmp op_gt r2_B0 (ce_ix (ce_var (i := 4) (pv 4)) ce_int (fun _ _ => rfl)) ce_int (nomark _))
    (cs_one (cs_ret ce_non))
    cs_nil)
    (cs_one (cs_set (ps_set (i := 2) nd rfl (by first | exact Or.inl rfl | exact Or.inr rfl) (ce_var (i := 4) (pv 4)))))))))
    (cs_one (cs_ret ce_non)))))
theorem ok_have_room {f : Addr} {fd : FuncData} (F : Fun K "have_room" "have_room" s_have_room f fd) {a_lines_around : Addr} {d_lines_around : FuncData} (G_lines_around : FnOk P w K mg base CX0 1 a_lines_around d_lines_around ["sizes"] (spF K g_lines_around)) (M_lines_around : mg "lines_around" = some (.ref a_lines_around)) (k_lines_around : PySem.W.keepIn K (.ref a_lines_around) = true) (b_lines_around : Binds K d_lines_around ["sizes"] []) (m_zip : mg "zip" = none) (m_all : mg "all" = none) (g_LAST_LINE : mg "LAST_LINE" = some (.int 2000 t_LAST_LINE)) : FnOk P w K mg base CX0 2 f fd ["rows", "heights"] (spF K g_have_room) := by
  refine fn_ok (k := 1) (fB := f_have_room) (np := 2) (nN := 4) F sc_have_room rfl rfl rfl fun cdv A outer s H E hr => ?_
  have nd : N_have_room.Nodup := sc_have_room.nd
  exact ((cs_cons (cs_if (ct_cmp op_gt r2_B0 (ce_ix (ce_call (c := true) (pe_call G_lines_around (hr.mono (by decide)) (by rfl) M_lines_around k_lines_around b_lines_around .nil pass0 (ca_cons (ce_var (i := 1) (pv 1)) ca_nil))) (ce_neg ce_int) (fun _ _ => rfl)) (ce_c (v := .int 2000) (pe_glob (by rfl) g_LAST_LINE ⟨_, rfl⟩) fun _ _ => by rw [Rp]) (nomark _))
    (cs_one (cs_ret ce_bl))
    cs_nil)
    (cs_one (cs_ret (ce_cb (c2 := true) cr_all' (pe_callB (cr_all rfl) (by rfl) m_all (by decide +kernel) (ca_cons (ce_l (c := true) (cf_lc1 (c2 := true) (pe_lc (own := [("row", 2), ("height", 3)]) (by rfl) nd (ci_zip (RZ.pi_zipA (by rfl) m_zip (ca_cons (ce_var (i := 0) (pv 0)) (ca_cons (ce_var (i := 1) (pv 1)) ca_nil)))) (blkOk_by (own := [("row", 2), ("height", 3)]) (N := N_have_room) (sc := defScope s_have_room) (by decide +kernel)) (fun _ _ _ _ _ => (cg_tup (is := [2, 3]) (pg_tup rfl (pgs_cons (pg_name (i := 2) nd rfl (by first | exact Or.inl rfl | exact Or.inr rfl)) (pgs_cons (pg_name (i := 3) nd rfl (by first | exact Or.inl rfl | exact Or.inr rfl)) pgs_nil))))) (fun _ _ _ _ _ => pts_nil) (fun _ _ _ _ _ => (ce_cmp op_le r2_B0 (ce_ix (ce_var (i := 2) (pv 2)) ce_int (fun _ _ => rfl)) (ce_var (i := 3) (pv 3)) (nomark _)))))) ca_nil)))))))
theorem ok_known_constraints {f : Addr} {fd : FuncData} (F : Fun K "known_constraints" "known_constraints" s_known_constraints f fd) {a_lines_around : Addr} {d_lines_around : FuncData} (G_lines_around : FnOk P w K mg base CX0 1 a_lines_around d_lines_around ["sizes"] (spF K g_lines_around)) (M_lines_around : mg "lines_around" = some (.ref a_lines_around)) (k_lines_around : PySem.W.keepIn K (.ref a_lines_around) = true) (b_lines_around : Binds K d_lines_around ["sizes"] []) {a_narrowest : Addr} {d_narrowest : FuncData} (G_narrowest : FnOk P w K mg base CX0 4 a_narrowest d_narrowest ["words", "lines"] (spF K g_narrowest)) (M_narrowest : mg "narrowest" = some (.ref a_narrowest)) (k_narrowest : PySem.W.keepIn K (.ref a_narrowest) = true) (b_narrowest : Binds K d_narrowest ["words", "lines"] []) {a_inner_size : Addr} {d_inner_size : FuncData} (G_inner_size : FnOk P w K mg base CX0 1 a_inner_size d_inner_size ["lines", "first", "span"] (spF K g_inner_size)) (M_inner_size : mg "inner_size" = some (.ref a_inner_size)) (k_inner_size : PySem.W.keepIn K (.ref a_inner_size) = true) (b_inner_size : Binds K d_inner_size ["lines", "first", "span"] []) (m_enumerate : mg "enumerate" = none) : FnOk P w K mg base CX0 5 f fd ["table", "heights"] (spF K g_known_constraints) := by
  refine fn_ok (k := 4) (fB := f_known_constraints) (np := 2) (nN := 16) F sc_known_constraints rfl rfl rfl fun cdv A outer s H E hr => ?_
  have nd : N_known_constraints.Nodup := sc_known_constraints.nd
  exact ((cs_cons (cs_unp (ps_asg (ce_var (i := 0) (pv 0)) (cg_tup (is := [2, 3, 4]) (pg_tup rfl (pgs_cons (pg_name (i := 2) nd rfl (by first | exact Or.inl rfl | exact Or.inr rfl)) (pgs_cons (pg_name (i := 3) nd rfl (by first | exact Or.inl rfl | exact Or.inr rfl)) (pgs_cons (pg_name (i := 4) nd rfl (by first | exact Or.inl rfl | exact Or.inr rfl)) pgs_nil)))))))
    (cs_cons (cs_set (ps_set (i := 5) nd rfl (by first | exact Or.inl rfl | exact Or.inr rfl) (ce_call (c := true) (pe_call G_lines_around (hr.mono (by decide)) (by rfl) M_lines_around k_lines_around b_lines_around .nil pass0 (ca_cons (ce_var (i := 1) (pv 1)) ca_nil)))))
    (cs_cons (cs_own (ps_set (i := 6) nd rfl (by first | exact Or.inl rfl | exact Or.inr rfl) (cf_lst (c := true) ca_nil)))
    (cs_cons (cs_for PassesOwn.never (by rfl) (ci_enum (pi_enumA (by rfl) m_enumerate (ca_cons (ce_var (i := 2) (pv 2)) ca_nil))) (cg_tup (is := [7, 8]) (pg_tup rfl (pgs_cons (pg_name (i := 7) nd rfl (by first | exact Or.inl rfl | exact Or.inr rfl)) (pgs_cons (pg_name (i := 8) nd rfl (by first | exact Or.inl rfl | exact Or.inr rfl)) pgs_nil))))
    (cs_cons (cs_unp (ps_asg (ce_sl (ce_var (i := 8) (pv 8)) co_none (co_some ce_int)) (cg_tup (is := [9, 10]) (pg_tup rfl (pgs_cons (pg_name (i := 9) nd rfl (by first | exact Or.inl rfl | exact Or.inr rfl)) (pgs_cons (pg_name (i := 10) nd rfl (by first | exact Or.inl rfl | exact Or.inr rfl)) pgs_nil))))))
    (cs_cons (cs_app (ps_expr (pe_bm PySem.F.plainAttrs_list PySem.F.slot_list_append PySem.F.type_list_append mt_append (pv 6) (pa_cons (ce_tup (ca_cons (ce_var (i := 7) (pv 7)) (ca_cons (ce_add (ce_var (i := 7) (pv 7)) ce_int) (ca_cons (ce_add (ce_var (i := 9) (pv 9)) ce_int) ca_nil)))) pa_nil))))
    (cs_one (cs_if (ct_cmp op_notN r2_isnt (ce_var (i := 10) (pv 10)) ce_non (nomark _))
    (cs_one (cs_app (ps_expr (pe_bm PySem.F.plainAttrs_list PySem.F.slot_list_append PySem.F.type_list_append mt_append (pv 6) (pa_cons (ce_tup (ca_cons (ce_add (ce_var (i := 7) (pv 7)) ce_int) (ca_cons (ce_var (i := 7) (pv 7)) (ca_cons (ce_sub (ce_neg (ce_var (i := 10) (pv 10))) ce_int) ca_nil)))) pa_nil)))))
    cs_nil)))))
    (cs_cons (cs_for PassesOwn.never (by rfl) (ci_seq (ce_var (i := 4) (pv 4))) (cg_tup (is := [11, 8, 12, 13, 14]) (pg_tup rfl (pgs_cons (pg_name (i := 11) nd rfl (by first | exact Or.inl rfl | exact Or.inr rfl)) (pgs_cons (pg_name (i := 8) nd rfl (by first | exact Or.inl rfl | exact Or.inr rfl)) (pgs_cons (pg_name (i := 12) nd rfl (by first | exact Or.inl rfl | exact Or.inr rfl)) (pgs_cons (pg_name (i := 13) nd rfl (by first | exact Or.inl rfl | exact Or.inr rfl)) (pgs_cons (pg_name (i := 14) nd rfl (by first | exact Or.inl rfl | exact Or.inr rfl)) pgs_nil)))))))
    (cs_cons (cs_set (ps_set (i := 15) nd rfl (by first | exact Or.inl rfl | exact Or.inr rfl) (ce_call (c := true) (pe_call G_narrowest (hr.mono (by decide)) (by rfl) M_narrowest k_narrowest b_narrowest .nil pass0 (ca_cons (ce_var (i := 14) (pv 14)) (ca_cons (ce_call (c := true) (pe_call G_inner_size (hr.mono (by decide)) (by rfl) M_inner_size k_inner_size b_inner_size .nil pass0 (ca_cons (ce_var (i := 5) (pv 5)) (ca_cons (ce_var (i := 11) (pv 11)) (ca_cons (ce_var (i := 12) (pv 12)) ca_nil))))) ca_nil))))))
    (cs_one (cs_app (ps_expr (pe_bm PySem.F.plainAttrs_list PySem.F.slot_list_append PySem.F.type_list_append mt_append (pv 6) (pa_cons (ce_tup (ca_cons (ce_var (i := 8) (pv 8)) (ca_cons (ce_add (ce_var (i := 8) (pv 8)) (ce_var (i := 13) (pv 13))) (ca_cons (ce_add (ce_var (i := 15) (pv 15)) ce_int) ca_nil)))) pa_nil)))))))
    (cs_one (cs_frz (i := 6) (cs_ret (ce_var (i := 6) (pv 6)))))))))))
theorem ok_share_constraints {f : Addr} {fd : FuncData} (F : Fun K "share_constraints" "share_constraints" s_share_constraints f fd) (m_enumerate : mg "enumerate" = none) : FnOk P w K mg base CX0 1 f fd ["columns", "last"] (spF K g_share_constraints) := by
  refine fn_ok (k := 0) (fB := f_share_constraints) (np := 2) (nN := 6) F sc_share_constraints rfl rfl rfl fun cdv A outer s H E hr => ?_
  have nd : N_share_constraints.Nodup := sc_share_constraints.nd
  exact ((cs_cons (cs_own (ps_set (i := 2) nd rfl (by first | exact Or.inl rfl | exact Or.inr rfl) (cf_lst (c := true) ca_nil)))
    (cs_cons (cs_for PassesOwn.never (by rfl) (ci_enum (pi_enumA (by rfl) m_enumerate (ca_cons (ce_var (i := 0) (pv 0)) ca_nil))) (cg_tup (is := [3, 4]) (pg_tup rfl (pgs_cons (pg_name (i := 3) nd rfl (by first | exact Or.inl rfl | exact Or.inr rfl)) (pgs_cons (pg_name (i := 4) nd rfl (by first | exact Or.inl rfl | exact Or.inr rfl)) pgs_nil))))
    (cs_cons (cs_set (ps_set (i := 5) nd rfl (by first | exact Or.inl rfl | exact Or.inr rfl) (ce_ix (ce_var (i := 4) (pv 4)) ce_int (fun _ _ => rfl))))
    (cs_one (cs_if (ct_cmp op_notN r2_isnt (ce_var (i := 5) (pv 5)) ce_non (nomark _))
    (cs_one (cs_app (ps_expr (pe_bm PySem.F.plainAttrs_list PySem.F.slot_list_append PySem.F.type_list_append mt_append (pv 2) (pa_cons (ce_tup (ca_cons (ce_var (i := 3) (pv 3)) (ca_cons (ce_add (ce_var (i := 3) (pv 3)) ce_int) (ca_cons (ce_div (ce_add (ce_mul (ce_var (i := 5) (pv 5)) (ce_var (i := 1) (pv 1))) ce_int) ce_int) ca_nil)))) pa_nil)))))
    cs_nil))))
    (cs_one (cs_frz (i := 2) (cs_ret (ce_var (i := 2) (pv 2))))))))
theorem ok_column_lines_for {f : Addr} {fd : FuncData} (F : Fun K "column_lines_for" "column_lines_for" s_column_lines_for f fd) {a_have_room : Addr} {d_have_room : FuncData} (G_have_room : FnOk P w K mg base CX0 2 a_have_room d_have_room ["rows", "heights"] (spF K g_have_room)) (M_have_room : mg "have_room" = some (.ref a_have_room)) (k_have_room : PySem.W.keepIn K (.ref a_have_room) = true) (b_have_room : Binds K d_have_room ["rows", "heights"] []) {a_known_constraints : Addr} {d_known_constraints : FuncData} (G_known_constraints : FnOk P w K mg base CX0 5 a_known_constraints d_known_constraints ["table", "heights"] (spF K g_known_constraints)) (M_known_constraints : mg "known_constraints" = some (.ref a_known_constraints)) (k_known_constraints : PySem.W.keepIn K (.ref a_known_constraints) = true) (b_known_constraints : Binds K d_known_constraints ["table", "heights"] []) {a_least_positions : Addr} {d_least_positions : FuncData} (G_least_positions : FnOk P w K mg base CX0 2 a_least_positions d_least_positions ["count", "constraints"] (spF K g_least_positions)) (M_least_positions : mg "least_positions" = some (.ref a_least_positions)) (k_least_positions : PySem.W.keepIn K (.ref a_least_positions) = true) (b_least_positions : Binds K d_least_positions ["count", "constraints"] []) {a_share_constraints : Addr} {d_share_constraints : FuncData} (G_share_constraints : FnOk P w K mg base CX0 1 a_share_constraints d_share_constraints ["columns", "last"] (spF K g_share_constraints)) (M_share_constraints : mg "share_constraints" = some (.ref a_share_constraints)) (k_share_constraints : PySem.W.keepIn K (.ref a_share_constraints) = true) (b_share_constraints : Binds K d_share_constraints ["columns", "last"] []) (m_sum : mg "sum" = none) (m_len : mg "len" = none) (m_tuple : mg "tuple" = none) (g_LAST_LINE : mg "LAST_LINE" = some (.int 2000 t_LAST_LINE)) : FnOk P w K mg base CX0 6 f fd ["table", "heights"] (spF K g_column_lines_for) := by
  refine fn_ok (k := 5) (fB := f_column_lines_for) (np := 2) (nN := 9) F sc_column_lines_for rfl rfl rfl fun cdv A outer s H E hr => ?_
  have nd : N_column_lines_for.Nodup := sc_column_lines_for.nd
  exact ((cs_cons (cs_unp (ps_asg (ce_var (i := 0) (pv 0)) (cg_tup (is := [2, 3, 4]) (pg_tup rfl (pgs_cons (pg_name (i := 2) nd rfl (by first | exact Or.inl rfl | exact Or.inr rfl)) (pgs_cons (pg_name (i := 3) nd rfl (by first | exact Or.inl rfl | exact Or.inr rfl)) (pgs_cons (pg_name (i := 4) nd rfl (by first | exact Or.inl rfl | exact Or.inr rfl)) pgs_nil)))))))
    (cs_cons (cs_if (ct_not (ct_tru (ce_call (c := true) (pe_call G_have_room (hr.mono (by decide)) (by rfl) M_have_room k_have_room b_have_room .nil pass0 (ca_cons (ce_var (i := 3) (pv 3)) (ca_cons (ce_var (i := 1) (pv 1)) ca_nil)))) (by intro _; rfl)))
    (cs_one (cs_ret ce_non))
    cs_nil)
    (cs_cons (cs_if (ct_cmp op_gt r2_B0 (ce_cb (c2 := true) cr_sum' (pe_callB (cr_sum rfl) (by rfl) m_sum (by decide +kernel) (ca_cons (ce_l (c := true) (cf_lc (c2 := true) (pe_lc (own := [("column", 8)]) (by rfl) nd (ci_seq (ce_var (i := 2) (pv 2))) (blkOk_by (own := [("column", 8)]) (N := N_column_lines_for) (sc := defScope s_column_lines_for) (by decide +kernel)) (fun _ _ _ _ _ => (cg_name (pg_name (i := 8) nd rfl (by first | exact Or.inl rfl | exact Or.inr rfl)))) (fun _ _ _ _ _ => (pts_one (ct_cmp op_notN r2_isnt (ce_ix (ce_var (i := 8) (pv 8)) ce_int (fun _ _ => rfl)) ce_non (nomark _)))) (fun _ _ _ _ _ => (ce_ix (ce_var (i := 8) (pv 8)) ce_int (fun _ _ => rfl)))))) ca_nil))) ce_int (nomark _))
    (cs_one (cs_ret ce_non))
    cs_nil)
    (cs_cons (cs_set (ps_set (i := 5) nd rfl (by first | exact Or.inl rfl | exact Or.inr rfl) (ce_call (c := true) (pe_call G_known_constraints (hr.mono (by decide)) (by rfl) M_known_constraints k_known_constraints b_known_constraints .nil pass0 (ca_cons (ce_var (i := 0) (pv 0)) (ca_cons (ce_var (i := 1) (pv 1)) ca_nil))))))
    (cs_cons (cs_set (ps_set (i := 6) nd rfl (by first | exact Or.inl rfl | exact Or.inr rfl) ce_int))
    (cs_cons (cs_while 2100 PassesOwn.never (ct_cmp op_le r2_B0 (ce_var (i := 6) (pv 6)) (ce_c (v := .int 2000) (pe_glob (by rfl) g_LAST_LINE ⟨_, rfl⟩) fun _ _ => by rw [Rp]) (nomark _))
    (cs_cons (cs_set (ps_set (i := 7) nd rfl (by first | exact Or.inl rfl | exact Or.inr rfl) (ce_call (c := true) (pe_call G_least_positions (hr.mono (by decide)) (by rfl) M_least_positions k_least_positions b_least_positions .nil pass0 (ca_cons (ce_add (ce_cb (c2 := true) cr_len (pe_callB call_len (by rfl) m_len boot_len (ca_cons (ce_var (i := 2) (pv 2)) ca_nil))) ce_int) (ca_cons (ce_add (ce_var (i := 5) (pv 5)) (ce_call (c := true) (pe_call G_share_constraints (hr.mono (by decide)) (by rfl) M_share_constraints k_share_constraints b_share_constraints .nil pass0 (ca_cons (ce_var (i := 2) (pv 2)) (ca_cons (ce_var (i := 6) (pv 6)) ca_nil))))) ca_nil))))))
    (cs_cons (cs_if (ct_cmp op_isN r2_is (ce_var (i := 7) (pv 7)) ce_non (nomark _))
    (cs_one (cs_ret ce_non))
    cs_nil)
    (cs_cons (cs_if (ct_cmp (op_eqD hr.units) r2_eq (ce_ix (ce_var (i := 7) (pv 7)) (ce_neg ce_int) (fun _ _ => rfl)) (ce_var (i := 6) (pv 6)) (nomark _))
    (cs_one (cs_ret (ce_cb (c2 := true) cr_tup (pe_callTy call_tuple_of (by rfl) m_tuple (by decide +kernel) (ca_cons (ce_var (i := 7) (pv 7)) ca_nil)))))
    cs_nil)
    (cs_one (cs_set (ps_set (i := 6) nd rfl (by first | exact Or.inl rfl | exact Or.inr rfl) (ce_ix (ce_var (i := 7) (pv 7)) (ce_neg ce_int) (fun _ _ => rfl)))))))))
    (cs_one (cs_ret ce_non)))))))))
theorem ok_greatest_heights {f : Addr} {fd : FuncData} (F : Fun K "greatest_heights" "greatest_heights" s_greatest_heights f fd) (m_enumerate : mg "enumerate" = none) (m_len : mg "len" = none) (m_max : mg "max" = none) (m_tuple : mg "tuple" = none) : FnOk P w K mg base CX0 1 f fd ["table"] (spF K g_greatest_heights) := by
  refine fn_ok (k := 0) (fB := f_greatest_heights) (np := 1) (nN := 9) F sc_greatest_heights rfl rfl rfl fun cdv A outer s H E hr => ?_
  have nd : N_greatest_heights.Nodup := sc_greatest_heights.nd
  exact ((cs_cons (cs_unp (ps_asg (ce_var (i := 0) (pv 0)) (cg_tup (is := [1, 2, 3]) (pg_tup rfl (pgs_cons (pg_name (i := 1) nd rfl (by first | exact Or.inl rfl | exact Or.inr rfl)) (pgs_cons (pg_name (i := 2) nd rfl (by first | exact Or.inl rfl | exact Or.inr rfl)) (pgs_cons (pg_name (i := 3) nd rfl (by first | exact Or.inl rfl | exact Or.inr rfl)) pgs_nil)))))))
    (cs_cons (cs_own (ps_set (i := 4) nd rfl (by first | exact Or.inl rfl | exact Or.inr rfl) (cf_lst (c := true) ca_nil)))
    (cs_cons (cs_for PassesOwn.never (by rfl) (ci_enum (pi_enumA (by rfl) m_enumerate (ca_cons (ce_var (i := 2) (pv 2)) ca_nil))) (cg_tup (is := [5, 6]) (pg_tup rfl (pgs_cons (pg_name (i := 5) nd rfl (by first | exact Or.inl rfl | exact Or.inr rfl)) (pgs_cons (pg_name (i := 6) nd rfl (by first | exact Or.inl rfl | exact Or.inr rfl)) pgs_nil))))
    (cs_cons (cs_lcV (ps_setLc (i := 7) (own := [("cell", 8)]) rfl nd rfl rfl (sw_true rfl rfl rfl (by decide +kernel)) (ci_seq (ce_var (i := 3) (pv 3))) (blkOk_by (own := [("cell", 8)]) (N := N_greatest_heights) (sc := defScope s_greatest_heights) (by decide +kernel)) (fun _ _ _ _ _ => (cg_name (pg_name (i := 8) nd rfl (by first | exact Or.inl rfl | exact Or.inr rfl)))) (fun _ _ _ _ _ => (pts_one (ct_chain (c := true) (c1 := true) (c2 := true) (pt_chain op_le op_lt (ce_ix (ce_var (i := 8) (pv 8)) ce_int (fun _ _ => rfl)) (ce_var (i := 5) (pv 5)) (ce_add (ce_ix (ce_var (i := 8) (pv 8)) ce_int (fun _ _ => rfl)) (ce_ix (ce_var (i := 8) (pv 8)) ce_int (fun _ _ => rfl))))))) (fun _ _ _ _ _ => (ce_cb (c2 := true) cr_len (pe_callB call_len (by rfl) m_len boot_len (ca_cons (ce_ix (ce_var (i := 8) (pv 8)) ce_int (fun _ _ => rfl)) ca_nil))))))
    (cs_one (cs_app (ps_expr (pe_bm PySem.F.plainAttrs_list PySem.F.slot_list_append PySem.F.type_list_append mt_append (pv 4) (pa_cons (ce_cb (c2 := true) cr_mx (pe_callB (cr_max rfl) (by rfl) m_max (by decide +kernel) (ca_cons (ce_l (c := true) (cf_cat (c := true) (ce_l (c := true) (cf_lst (c := true) (ca_cons (ce_ix (ce_var (i := 6) (pv 6)) ce_int (fun _ _ => rfl)) ca_nil))) (ce_var (i := 7) (pv 7)))) ca_nil))) pa_nil)))))))
    (cs_one (cs_ret (ce_tupO (i := 4) (pe_callTy call_tuple_of (by rfl) m_tuple (by decide +kernel) (pa_cons (pv 4) pa_nil)))))))))
theorem ok_heights_to_try {f : Addr} {fd : FuncData} (F : Fun K "heights_to_try" "heights_to_try" s_heights_to_try f fd) {a_greatest_heights : Addr} {d_greatest_heights : FuncData} (G_greatest_heights : FnOk P w K mg base CX0 1 a_greatest_heights d_greatest_heights ["table"] (spF K g_greatest_heights)) (M_greatest_heights : mg "greatest_heights" = some (.ref a_greatest_heights)) (k_greatest_heights : PySem.W.keepIn K (.ref a_greatest_heights) = true) (b_greatest_heights : Binds K d_greatest_heights ["table"] []) (m_zip : mg "zip" = none) (m_list : mg "list" = none) (m_range : mg "range" = none) : FnOk P w K mg base CX0 2 f fd ["table"] (spF K g_heights_to_try) := by
  refine fn_ok (k := 1) (fB := f_heights_to_try) (np := 1) (nN := 7) F sc_heights_to_try rfl rfl rfl fun cdv A outer s H E hr => ?_
  have nd : N_heights_to_try.Nodup := sc_heights_to_try.nd
  exact ((cs_cons (cs_set (ps_set (i := 1) nd rfl (by first | exact Or.inl rfl | exact Or.inr rfl) (ce_l (c := true) (cf_lst (c := true) (ca_cons (ce_tup ca_nil) ca_nil)))))
    (cs_cons (cs_for PassesOwn.never (by rfl) (ci_zip (RZ.pi_zipA (by rfl) m_zip (ca_cons (ce_ix (ce_var (i := 0) (pv 0)) ce_int (fun _ _ => rfl)) (ca_cons (ce_call (c := true) (pe_call G_greatest_heights (hr.mono (by decide)) (by rfl) M_greatest_heights k_greatest_heights b_greatest_heights .nil pass0 (ca_cons (ce_var (i := 0) (pv 0)) ca_nil))) ca_nil)))) (cg_tup (is := [2, 3]) (pg_tup rfl (pgs_cons (pg_name (i := 2) nd rfl (by first | exact Or.inl rfl | exact Or.inr rfl)) (pgs_cons (pg_name (i := 3) nd rfl (by first | exact Or.inl rfl | exact Or.inr rfl)) pgs_nil))))
    (cs_cons (cs_set (ps_set (i := 4) nd rfl (by first | exact Or.inl rfl | exact Or.inr rfl) (ce_l (c := true) (cf_rng2 (c := true) (pe_listRg (by rfl) (by rfl) m_list (prg_2 (by rfl) m_range (ce_ix (ce_var (i := 2) (pv 2)) ce_int (fun _ _ => rfl)) (ce_add (ce_var (i := 3) (pv 3)) ce_int)))))))
    (cs_one (cs_lc2V (isT := [5]) (by decide) (ps_setLc2 (i := 1) (own := [("heights", 5), ("height", 6)]) (vs1 := [6]) rfl nd rfl rfl (sw_true rfl rfl rfl (by decide +kernel)) (ci_seq (ce_var (i := 1) (pv 1))) (blkOk_by (own := [("heights", 5), ("height", 6)]) (N := N_heights_to_try) (sc := defScope s_heights_to_try) (by decide +kernel)) (by decide) (fun _ _ _ _ _ => (cg_name (pg_name (i := 5) nd rfl (by first | exact Or.inl rfl | exact Or.inr rfl)))) (fun _ _ _ _ _ => pts_nil) (fun _ _ _ _ _ => (ci_seq (ce_var (i := 4) (pv 4)))) (fun _ _ _ _ _ => (cg_name (pg_name (i := 6) nd rfl (by first | exact Or.inl rfl | exact Or.inr rfl)))) (fun _ _ _ _ _ => pts_nil) (fun _ _ _ _ _ => (ce_add (ce_var (i := 5) (pv 5)) (ce_tup (ca_cons (ce_var (i := 6) (pv 6)) ca_nil)))))))))
    (cs_one (cs_ret (ce_var (i := 1) (pv 1)))))))
theorem ok_least_layouts {f : Addr} {fd : FuncData} (F : Fun K "least_layouts" "least_layouts" s_least_layouts f fd) {a_heights_to_try : Addr} {d_heights_to_try : FuncData} (G_heights_to_try : FnOk P w K mg base CX0 2 a_heights_to_try d_heights_to_try ["table"] (spF K g_heights_to_try)) (M_heights_to_try : mg "heights_to_try" = some (.ref a_heights_to_try)) (k_heights_to_try : PySem.W.keepIn K (.ref a_heights_to_try) = true) (b_heights_to_try : Binds K d_heights_to_try ["table"] []) {a_column_lines_for : Addr} {d_column_lines_for : FuncData} (G_column_lines_for : FnOk P w K mg base CX0 6 a_column_lines_for d_column_lines_for ["table", "heights"] (spF K g_column_lines_for)) (M_column_lines_for : mg "column_lines_for" = some (.ref a_column_lines_for)) (k_column_lines_for : PySem.W.keepIn K (.ref a_column_lines_for) = true) (b_column_lines_for : Binds K d_column_lines_for ["table", "heights"] []) {a_lines_around : Addr} {d_lines_around : FuncData} (G_lines_around : FnOk P w K mg base CX0 1 a_lines_around d_lines_around ["sizes"] (spF K g_lines_around)) (M_lines_around : mg "lines_around" = some (.ref a_lines_around)) (k_lines_around : PySem.W.keepIn K (.ref a_lines_around) = true) (b_lines_around : Binds K d_lines_around ["sizes"] []) : FnOk P w K mg base CX0 7 f fd ["table"] (spF K g_least_layouts) := by
  refine fn_ok (k := 6) (fB := f_least_layouts) (np := 1) (nN := 4) F sc_least_layouts rfl rfl rfl fun cdv A outer s H E hr => ?_
  have nd : N_least_layouts.Nodup := sc_least_layouts.nd
  exact ((cs_cons (cs_own (ps_set (i := 1) nd rfl (by first | exact Or.inl rfl | exact Or.inr rfl) (cf_lst (c := true) ca_nil)))
    (cs_cons (cs_for PassesOwn.never (by rfl) (ci_seq (ce_call (c := true) (pe_call G_heights_to_try (hr.mono (by decide)) (by rfl) M_heights_to_try k_heights_to_try b_heights_to_try .nil pass0 (ca_cons (ce_var (i := 0) (pv 0)) ca_nil)))) (cg_name (pg_name (i := 2) nd rfl (by first | exact Or.inl rfl | exact Or.inr rfl)))
    (cs_cons (cs_set (ps_set (i := 3) nd rfl (by first | exact Or.inl rfl | exact Or.inr rfl) (ce_call (c := true) (pe_call G_column_lines_for (hr.mono (by decide)) (by rfl) M_column_lines_for k_column_lines_for b_column_lines_for .nil pass0 (ca_cons (ce_var (i := 0) (pv 0)) (ca_cons (ce_var (i := 2) (pv 2)) ca_nil))))))
    (cs_one (cs_if (ct_cmp op_notN r2_isnt (ce_var (i := 3) (pv 3)) ce_non (nomark _))
    (cs_one (cs_app (ps_expr (pe_bm PySem.F.plainAttrs_list PySem.F.slot_list_append PySem.F.type_list_append mt_append (pv 1) (pa_cons (ce_tup (ca_cons (ce_var (i := 3) (pv 3)) (ca_cons (ce_call (c := true) (pe_call G_lines_around (hr.mono (by decide)) (by rfl) M_lines_around k_lines_around b_lines_around .nil pass0 (ca_cons (ce_var (i := 2) (pv 2)) ca_nil))) ca_nil))) pa_nil)))))
    cs_nil))))
    (cs_one (cs_frz (i := 1) (cs_ret (ce_var (i := 1) (pv 1))))))))
theorem ok_by_pages {f : Addr} {fd : FuncData} (F : Fun K "by_pages" "by_pages" s_by_pages f fd) {a_inner_sizes : Addr} {d_inner_sizes : FuncData} (G_inner_sizes : FnOk P w K mg base CX0 2 a_inner_sizes d_inner_sizes ["lines"] (spF K g_inner_sizes)) (M_inner_sizes : mg "inner_sizes" = some (.ref a_inner_sizes)) (k_inner_sizes : PySem.W.keepIn K (.ref a_inner_sizes) = true) (b_inner_sizes : Binds K d_inner_sizes ["lines"] []) {a_width_of : Addr} {d_width_of : FuncData} (G_width_of : FnOk P w K mg base CX0 1 a_width_of d_width_of ["layout"] (spF K g_width_of)) (M_width_of : mg "width_of" = some (.ref a_width_of)) (k_width_of : PySem.W.keepIn K (.ref a_width_of) = true) (b_width_of : Binds K d_width_of ["layout"] []) {a_height_of : Addr} {d_height_of : FuncData} (G_height_of : FnOk P w K mg base CX0 1 a_height_of d_height_of ["layout"] (spF K g_height_of)) (M_height_of : mg "height_of" = some (.ref a_height_of)) (k_height_of : PySem.W.keepIn K (.ref a_height_of) = true) (b_height_of : Binds K d_height_of ["layout"] []) (m_len : mg "len" = none) : FnOk P w K mg base CX0 3 f fd ["division"] (spF K g_by_pages) := by
  refine fn_ok (k := 2) (fB := f_by_pages) (np := 1) (nN := 3) F sc_by_pages rfl rfl rfl fun cdv A outer s H E hr => ?_
  have nd : N_by_pages.Nodup := sc_by_pages.nd
  exact ((cs_cons (cs_unp (ps_asg (ce_var (i := 0) (pv 0)) (cg_tup (is := [1, 2]) (pg_tup rfl (pgs_cons (pg_name (i := 1) nd rfl (by first | exact Or.inl rfl | exact Or.inr rfl)) (pgs_cons (pg_name (i := 2) nd rfl (by first | exact Or.inl rfl | exact Or.inr rfl)) pgs_nil))))))
    (cs_one (cs_ret (ce_tup (ca_cons (ce_cb (c2 := true) cr_len (pe_callB call_len (by rfl) m_len boot_len (ca_cons (ce_var (i := 2) (pv 2)) ca_nil))) (ca_cons (ce_call (c := true) (pe_call G_height_of (hr.mono (by decide)) (by rfl) M_height_of k_height_of b_height_of .nil pass0 (ca_cons (ce_var (i := 1) (pv 1)) ca_nil))) (ca_cons (ce_call (c := true) (pe_call G_width_of (hr.mono (by decide)) (by rfl) M_width_of k_width_of b_width_of .nil pass0 (ca_cons (ce_var (i := 1) (pv 1)) ca_nil))) (ca_cons (ce_call (c := true) (pe_call G_inner_sizes (hr.mono (by decide)) (by rfl) M_inner_sizes k_inner_sizes b_inner_sizes .nil pass0 (ca_cons (ce_ix (ce_var (i := 1) (pv 1)) ce_int (fun _ _ => rfl)) ca_nil))) ca_nil)))))))))
theorem ok_fewest_of {f : Addr} {fd : FuncData} (F : Fun K "fewest_of" "fewest_of" s_fewest_of f fd) {a_width_of : Addr} {d_width_of : FuncData} (G_width_of : FnOk P w K mg base CX0 1 a_width_of d_width_of ["layout"] (spF K g_width_of)) (M_width_of : mg "width_of" = some (.ref a_width_of)) (k_width_of : PySem.W.keepIn K (.ref a_width_of) = true) (b_width_of : Binds K d_width_of ["layout"] []) {a_paginate : Addr} {d_paginate : FuncData} (G_paginate : FnOk P w K mg base CX0 3 a_paginate d_paginate ["table", "row_lines", "page_height"] (spF K g_paginate)) (M_paginate : mg "paginate" = some (.ref a_paginate)) (k_paginate : PySem.W.keepIn K (.ref a_paginate) = true) (b_paginate : Binds K d_paginate ["table", "row_lines", "page_height"] []) {a_by_pages : Addr} {d_by_pages : FuncData} (G_by_pages : FnOk P w K mg base CX0 3 a_by_pages d_by_pages ["division"] (spF K g_by_pages)) (M_by_pages : mg "by_pages" = some (.ref a_by_pages)) (k_by_pages : PySem.W.keepIn K (.ref a_by_pages) = true) (b_by_pages : Binds K d_by_pages ["division"] []) (m_min : mg "min" = none) : FnOk P w K mg base CX0 5 f fd ["table", "layouts", "max_width", "page_height"] (spF K g_fewest_of) := by
  refine fn_ok (k := 4) (fB := f_fewest_of) (np := 4) (nN := 7) F sc_fewest_of rfl rfl rfl fun cdv A outer s H E hr => ?_
  have nd : N_fewest_of.Nodup := sc_fewest_of.nd
  exact ((cs_cons (cs_own (ps_set (i := 4) nd rfl (by first | exact Or.inl rfl | exact Or.inr rfl) (cf_lst (c := true) ca_nil)))
    (cs_cons (cs_for PassesOwn.never (by rfl) (ci_seq (ce_var (i := 1) (pv 1))) (cg_name (pg_name (i := 5) nd rfl (by first | exact Or.inl rfl | exact Or.inr rfl)))
    (cs_one (cs_if (ct_cmp op_le r2_B0 (ce_call (c := true) (pe_call G_width_of (hr.mono (by decide)) (by rfl) M_width_of k_width_of b_width_of .nil pass0 (ca_cons (ce_var (i := 5) (pv 5)) ca_nil))) (ce_var (i := 2) (pv 2)) (nomark _))
    (cs_cons (cs_set (ps_set (i := 6) nd rfl (by first | exact Or.inl rfl | exact Or.inr rfl) (ce_call (c := true) (pe_call G_paginate (hr.mono (by decide)) (by rfl) M_paginate k_paginate b_paginate .nil pass0 (ca_cons (ce_var (i := 0) (pv 0)) (ca_cons (ce_ix (ce_var (i := 5) (pv 5)) ce_int (fun _ _ => rfl)) (ca_cons (ce_var (i := 3) (pv 3)) ca_nil)))))))
    (cs_one (cs_if (ct_cmp op_notN r2_isnt (ce_var (i := 6) (pv 6)) ce_non (nomark _))
    (cs_one (cs_app (ps_expr (pe_bm PySem.F.plainAttrs_list PySem.F.slot_list_append PySem.F.type_list_append mt_append (pv 4) (pa_cons (ce_tup (ca_cons (ce_var (i := 5) (pv 5)) (ca_cons (ce_var (i := 6) (pv 6)) ca_nil))) pa_nil)))))
    cs_nil)))
    cs_nil)))
    (cs_one (cs_frz (i := 4) (cs_ret (ce_minKD (pe_callBK (call_minKD G_by_pages (hr.mono (by decide)) b_by_pages) (by rfl) m_min (by decide +kernel) (pa_cons (ce_var (i := 4) (pv 4)) pa_nil) (pk_cons (pe_glob (by rfl) M_by_pages rfl) (pk_cons ce_non pk_nil))))))))))
theorem ok_fewest_pages {f : Addr} {fd : FuncData} (F : Fun K "fewest_pages" "fewest_pages" s_fewest_pages f fd) {a_fewest_of : Addr} {d_fewest_of : FuncData} (G_fewest_of : FnOk P w K mg base CX0 5 a_fewest_of d_fewest_of ["table", "layouts", "max_width", "page_height"] (spF K g_fewest_of)) (M_fewest_of : mg "fewest_of" = some (.ref a_fewest_of)) (k_fewest_of : PySem.W.keepIn K (.ref a_fewest_of) = true) (b_fewest_of : Binds K d_fewest_of ["table", "layouts", "max_width", "page_height"] []) {a_least_layouts : Addr} {d_least_layouts : FuncData} (G_least_layouts : FnOk P w K mg base CX0 7 a_least_layouts d_least_layouts ["table"] (spF K g_least_layouts)) (M_least_layouts : mg "least_layouts" = some (.ref a_least_layouts)) (k_least_layouts : PySem.W.keepIn K (.ref a_least_layouts) = true) (b_least_layouts : Binds K d_least_layouts ["table"] []) : FnOk P w K mg base CX0 8 f fd ["table", "max_width", "page_height"] (spF K g_fewest_pages) := by
  refine fn_ok (k := 7) (fB := f_fewest_pages) (np := 3) (nN := 3) F sc_fewest_pages rfl rfl rfl fun cdv A outer s H E hr => ?_
  have nd : N_fewest_pages.Nodup := sc_fewest_pages.nd
  exact ((cs_one (cs_ret (ce_call (c := true) (pe_call G_fewest_of (hr.mono (by decide)) (by rfl) M_fewest_of k_fewest_of b_fewest_of .nil pass0 (ca_cons (ce_var (i := 0) (pv 0)) (ca_cons (ce_call (c := true) (pe_call G_least_layouts (hr.mono (by decide)) (by rfl) M_least_layouts k_least_layouts b_least_layouts .nil pass0 (ca_cons (ce_var (i := 0) (pv 0)) ca_nil))) (ca_cons (ce_var (i := 1) (pv 1)) (ca_cons (ce_var (i := 2) (pv 2)) ca_nil)))))))))
theorem ok_Lcell {f : Addr} {fd : FuncData} (F : Fun K "_law_cell" "_law_cell" s_Lcell f fd) (m_len : mg "len" = none) : FnOk P w K mg base CX0 1 f fd ["script", "k"] (spF K g_Lcell) := by
  refine fn_ok (k := 0) (fB := f_Lcell) (np := 2) (nN := 2) F sc_Lcell rfl rfl rfl fun cdv A outer s H E hr => ?_
  have nd : N_Lcell.Nodup := sc_Lcell.nd
  exact ((cs_cons (cs_if (ct_cmp op_lt r2_B0 (ce_var (i := 1) (pv 1)) (ce_cb (c2 := true) cr_len (pe_callB call_len (by rfl) m_len boot_len (ca_cons (ce_var (i := 0) (pv 0)) ca_nil))) (nomark _))
    (cs_one (cs_ret (ce_ix (ce_var (i := 0) (pv 0)) (ce_var (i := 1) (pv 1)) (fun _ _ => rfl))))
    cs_nil)
    (cs_one (cs_ret ce_int))))
theorem ok_Ldraws {f : Addr} {fd : FuncData} (F : Fun K "_law_draws" "_law_draws" s_Ldraws f fd) (m_range : mg "range" = none) : FnOk P w K mg base CX0 1 f fd ["cell", "count"] (spF K g_Ldraws) := by
  refine fn_ok (k := 0) (fB := f_Ldraws) (np := 2) (nN := 6) F sc_Ldraws rfl rfl rfl fun cdv A outer s H E hr => ?_
  have nd : N_Ldraws.Nodup := sc_Ldraws.nd
  exact ((cs_cons (cs_own (ps_set (i := 2) nd rfl (by first | exact Or.inl rfl | exact Or.inr rfl) (cf_lst (c := true) ca_nil)))
    (cs_cons (cs_set (ps_set (i := 3) nd rfl (by first | exact Or.inl rfl | exact Or.inr rfl) (ce_cmp op_ge r2_B0 (ce_var (i := 0) (pv 0)) (ce_pow ce_int ce_int) (nomark _))))
    (cs_cons (cs_for PassesOwn.never (by rfl) (ci_r1 (pi_range1 (by rfl) m_range (ca_cons (ce_var (i := 1) (pv 1)) ca_nil))) (cg_name (pg_name (i := 4) nd rfl (by first | exact Or.inl rfl | exact Or.inr rfl)))
    (cs_one (cs_if (ct_tru (ce_var (i := 3) (pv 3)) (by intro _; rfl))
    (cs_cons (cs_app (ps_expr (pe_bm PySem.F.plainAttrs_list PySem.F.slot_list_append PySem.F.type_list_append mt_append (pv 2) (pa_cons (ce_mod (ce_var (i := 0) (pv 0)) ce_int) pa_nil))))
    (cs_one (cs_set (ps_set (i := 0) nd rfl (by first | exact Or.inl rfl | exact Or.inr rfl) (ce_div (ce_var (i := 0) (pv 0)) ce_int)))))
    (cs_cons (cs_set (ps_set (i := 5) nd rfl (by first | exact Or.inl rfl | exact Or.inr rfl) (ce_mod (ce_add (ce_mul (ce_var (i := 0) (pv 0)) ce_int) (ce_mul (ce_var (i := 4) (pv 4)) ce_int)) ce_int)))
    (cs_one (cs_app (ps_expr (pe_bm PySem.F.plainAttrs_list PySem.F.slot_list_append PySem.F.type_list_append mt_append (pv 2) (pa_cons (ce_mod (ce_add (ce_add (ce_mul (ce_var (i := 5) (pv 5)) (ce_var (i := 5) (pv 5))) (ce_mul (ce_var (i := 0) (pv 0)) ce_int)) (ce_var (i := 4) (pv 4))) ce_int) pa_nil)))))))))
    (cs_one (cs_frz (i := 2) (cs_ret (ce_var (i := 2) (pv 2)))))))))
theorem ok_Lwords {f : Addr} {fd : FuncData} (F : Fun K "_law_words" "_law_words" s_Lwords f fd) (m_range : mg "range" = none) (m_tuple : mg "tuple" = none) : FnOk P w K mg base CX0 1 f fd ["number"] (spF K g_Lwords) := by
  refine fn_ok (k := 0) (fB := f_Lwords) (np := 1) (nN := 2) F sc_Lwords rfl rfl rfl fun cdv A outer s H E hr => ?_
  have nd : N_Lwords.Nodup := sc_Lwords.nd
  exact ((cs_one (cs_ret (ce_cb (c2 := true) cr_tup (pe_callTy call_tuple_of (by rfl) m_tuple (by decide +kernel) (ca_cons (ce_l (c := true) (cf_lc1 (c2 := true) (pe_lc (own := [("k", 1)]) (by rfl) nd (ci_r1 (pi_range1 (by rfl) m_range (ca_cons (ce_mod (ce_var (i := 0) (pv 0)) ce_int) ca_nil))) (blkOk_by (own := [("k", 1)]) (N := N_Lwords) (sc := defScope s_Lwords) (by decide +kernel)) (fun _ _ _ _ _ => (cg_name (pg_name (i := 1) nd rfl (by first | exact Or.inl rfl | exact Or.inr rfl)))) (fun _ _ _ _ _ => pts_nil) (fun _ _ _ _ _ => (ce_ix (ce_l (c := true) (cf_lst (c := true) (ca_cons ce_str (ca_cons ce_str (ca_cons ce_str (ca_cons ce_str ca_nil)))))) (ce_mod (ce_div (ce_var (i := 0) (pv 0)) (ce_mul ce_int (ce_add (ce_var (i := 1) (pv 1)) ce_int))) ce_int) (fun _ _ => rfl)))))) ca_nil))))))
theorem ok_Lspan {f : Addr} {fd : FuncData} (F : Fun K "_law_span" "_law_span" s_Lspan f fd)  : FnOk P w K mg base CX0 1 f fd ["covered", "row", "column", "extent", "number"] (spF K g_Lspan) := by
  refine fn_ok (k := 0) (fB := f_Lspan) (np := 5) (nN := 10) F sc_Lspan rfl rfl rfl fun cdv A outer s H E hr => ?_
  have nd : N_Lspan.Nodup := sc_Lspan.nd
  exact ((cs_cons (cs_unp (ps_asg (ce_var (i := 3) (pv 3)) (cg_tup (is := [5, 6, 7]) (pg_tup rfl (pgs_cons (pg_name (i := 5) nd rfl (by first | exact Or.inl rfl | exact Or.inr rfl)) (pgs_cons (pg_name (i := 6) nd rfl (by first | exact Or.inl rfl | exact Or.inr rfl)) (pgs_cons (pg_name (i := 7) nd rfl (by first | exact Or.inl rfl | exact Or.inr rfl)) pgs_nil)))))))
    (cs_cons (cs_set (ps_set (i := 8) nd rfl (by first | exact Or.inl rfl | exact Or.inr rfl) (ce_add ce_int (ce_mod (ce_var (i := 4) (pv 4)) ce_int))))
    (cs_cons (cs_set (ps_set (i := 9) nd rfl (by first | exact Or.inl rfl | exact Or.inr rfl) (ce_add ce_int (ce_mod (ce_div (ce_var (i := 4) (pv 4)) ce_int) ce_int))))
    (cs_cons (cs_if (ct_cmp op_gt r2_B0 (ce_add (ce_var (i := 1) (pv 1)) (ce_var (i := 8) (pv 8))) (ce_if (ct_cmp op_lt r2_B0 (ce_var (i := 1) (pv 1)) (ce_var (i := 7) (pv 7)) (nomark _)) (ce_var (i := 7) (pv 7)) (ce_var (i := 5) (pv 5))) (nomark _))
    (cs_one (cs_set (ps_set (i := 8) nd rfl (by first | exact Or.inl rfl | exact Or.inr rfl) ce_int)))
    cs_nil)
    (cs_cons (cs_if (PW.pt (cw_or (ct_cmp op_gt r2_B0 (ce_add (ce_var (i := 2) (pv 2)) (ce_var (i := 9) (pv 9))) (ce_var (i := 6) (pv 6)) (nomark _)) (cw_or1 (ct_cmp (op_inT (hu65 hr)) r2_inT (ce_tup (ca_cons (ce_var (i := 1) (pv 1)) (ca_cons (ce_sub (ce_add (ce_var (i := 2) (pv 2)) (ce_var (i := 9) (pv 9))) ce_int) ca_nil))) (ce_var (i := 0) (pv 0)) (by rfl)))))
    (cs_one (cs_set (ps_set (i := 9) nd rfl (by first | exact Or.inl rfl | exact Or.inr rfl) ce_int)))
    cs_nil)
    (cs_one (cs_ret (ce_tup (ca_cons (ce_var (i := 8) (pv 8)) (ca_cons (ce_var (i := 9) (pv 9)) ca_nil)))))))))))
theorem ok_Lcells {f : Addr} {fd : FuncData} (F : Fun K "_law_cells" "_law_cells" s_Lcells f fd) {a_Lspan : Addr} {d_Lspan : FuncData} (G_Lspan : FnOk P w K mg base CX0 1 a_Lspan d_Lspan ["covered", "row", "column", "extent", "number"] (spF K g_Lspan)) (M_Lspan : mg "_law_span" = some (.ref a_Lspan)) (k_Lspan : PySem.W.keepIn K (.ref a_Lspan) = true) (b_Lspan : Binds K d_Lspan ["covered", "row", "column", "extent", "number"] []) {a_Lwords : Addr} {d_Lwords : FuncData} (G_Lwords : FnOk P w K mg base CX0 1 a_Lwords d_Lwords ["number"] (spF K g_Lwords)) (M_Lwords : mg "_law_words" = some (.ref a_Lwords)) (k_Lwords : PySem.W.keepIn K (.ref a_Lwords) = true) (b_Lwords : Binds K d_Lwords ["number"] []) (m_range : mg "range" = none) (m_tuple : mg "tuple" = none) : FnOk P w K mg base CX0 2 f fd ["extent", "draws"] (spF K g_Lcells) := by
  refine fn_ok (k := 1) (fB := f_Lcells) (np := 2) (nN := 10) F sc_Lcells rfl rfl rfl fun cdv A outer s H E hr => ?_
  have nd : N_Lcells.Nodup := sc_Lcells.nd
  exact ((cs_cons (cs_own (ps_set (i := 2) nd rfl (by first | exact Or.inl rfl | exact Or.inr rfl) (cf_lst (c := true) ca_nil)))
    (cs_cons (cs_own (ps_set (i := 3) nd rfl (by first | exact Or.inl rfl | exact Or.inr rfl) (cf_lst (c := true) ca_nil)))
    (cs_cons (cs_for PassesOwn.never (by rfl) (ci_r1 (pi_range1 (by rfl) m_range (ca_cons (ce_ix (ce_var (i := 0) (pv 0)) ce_int (fun _ _ => rfl)) ca_nil))) (cg_name (pg_name (i := 4) nd rfl (by first | exact Or.inl rfl | exact Or.inr rfl)))
    (cs_one (cs_for PassesOwn.never (by rfl) (ci_r1 (pi_range1 (by rfl) m_range (ca_cons (ce_ix (ce_var (i := 0) (pv 0)) ce_int (fun _ _ => rfl)) ca_nil))) (cg_name (pg_name (i := 5) nd rfl (by first | exact Or.inl rfl | exact Or.inr rfl)))
    (cs_one (cs_if (ct_cmp (op_notInT (hu65 hr)) r2_notInT (ce_b (ce_tup (ca_cons (ce_var (i := 4) (pv 4)) (ca_cons (ce_var (i := 5) (pv 5)) ca_nil)))) (ce_bor (i := 2) (pv 2)) (by rfl))
    (cs_cons (cs_set (ps_set (i := 6) nd rfl (by first | exact Or.inl rfl | exact Or.inr rfl) (ce_add (ce_mul ce_int (ce_var (i := 4) (pv 4))) (ce_var (i := 5) (pv 5)))))
    (cs_cons (cs_unp (ps_asg (ce_callB (c := true) (pe_call G_Lspan (hr.mono (by decide)) (by rfl) M_Lspan k_Lspan b_Lspan .nil pass0 (ca_cons (ce_bor (i := 2) (pv 2)) (ca_cons (ce_b (ce_var (i := 4) (pv 4))) (ca_cons (ce_b (ce_var (i := 5) (pv 5))) (ca_cons (ce_b (ce_var (i := 0) (pv 0))) (ca_cons (ce_b (ce_div (ce_ix (ce_var (i := 1) (pv 1)) (ce_mod (ce_add (ce_mul (ce_var (i := 6) (pv 6)) ce_int) ce_int) ce_int) (fun _ _ => rfl)) ce_int)) ca_nil))))))) (cg_tup (is := [7, 8]) (pg_tup rfl (pgs_cons (pg_name (i := 7) nd rfl (by first | exact Or.inl rfl | exact Or.inr rfl)) (pgs_cons (pg_name (i := 8) nd rfl (by first | exact Or.inl rfl | exact Or.inr rfl)) pgs_nil))))))
    (cs_cons (cs_for PassesOwn.never (by rfl) (ci_r1 (pi_range1 (by rfl) m_range (ca_cons (ce_mul (ce_var (i := 7) (pv 7)) (ce_var (i := 8) (pv 8))) ca_nil))) (cg_name (pg_name (i := 9) nd rfl (by first | exact Or.inl rfl | exact Or.inr rfl)))
    (cs_one (cs_app (ps_expr (pe_bm PySem.F.plainAttrs_list PySem.F.slot_list_append PySem.F.type_list_append mt_append (pv 2) (pa_cons (ce_tup (ca_cons (ce_add (ce_var (i := 4) (pv 4)) (ce_div (ce_var (i := 9) (pv 9)) (ce_var (i := 8) (pv 8)))) (ca_cons (ce_add (ce_var (i := 5) (pv 5)) (ce_mod (ce_var (i := 9) (pv 9)) (ce_var (i := 8) (pv 8)))) ca_nil))) pa_nil))))))
    (cs_one (cs_app (ps_expr (pe_bm PySem.F.plainAttrs_list PySem.F.slot_list_append PySem.F.type_list_append mt_append (pv 3) (pa_cons (ce_tup (ca_cons (ce_var (i := 4) (pv 4)) (ca_cons (ce_var (i := 5) (pv 5)) (ca_cons (ce_var (i := 7) (pv 7)) (ca_cons (ce_var (i := 8) (pv 8)) (ca_cons (ce_call (c := true) (pe_call G_Lwords (hr.mono (by decide)) (by rfl) M_Lwords k_Lwords b_Lwords .nil pass0 (ca_cons (ce_ix (ce_var (i := 1) (pv 1)) (ce_mod (ce_add (ce_mul (ce_var (i := 6) (pv 6)) ce_int) ce_int) ce_int) (fun _ _ => rfl)) ca_nil))) ca_nil)))))) pa_nil))))))))
    cs_nil)))))
    (cs_one (cs_ret (ce_tupO (i := 3) (pe_callTy call_tuple_of (by rfl) m_tuple (by decide +kernel) (pa_cons (pv 3) pa_nil)))))))))
theorem ok_Ltable {f : Addr} {fd : FuncData} (F : Fun K "_law_table" "_law_table" s_Ltable f fd) {a_Ldraws : Addr} {d_Ldraws : FuncData} (G_Ldraws : FnOk P w K mg base CX0 1 a_Ldraws d_Ldraws ["cell", "count"] (spF K g_Ldraws)) (M_Ldraws : mg "_law_draws" = some (.ref a_Ldraws)) (k_Ldraws : PySem.W.keepIn K (.ref a_Ldraws) = true) (b_Ldraws : Binds K d_Ldraws ["cell", "count"] []) {a_Lcell : Addr} {d_Lcell : FuncData} (G_Lcell : FnOk P w K mg base CX0 1 a_Lcell d_Lcell ["script", "k"] (spF K g_Lcell)) (M_Lcell : mg "_law_cell" = some (.ref a_Lcell)) (k_Lcell : PySem.W.keepIn K (.ref a_Lcell) = true) (b_Lcell : Binds K d_Lcell ["script", "k"] []) {a_Lcells : Addr} {d_Lcells : FuncData} (G_Lcells : FnOk P w K mg base CX0 2 a_Lcells d_Lcells ["extent", "draws"] (spF K g_Lcells)) (M_Lcells : mg "_law_cells" = some (.ref a_Lcells)) (k_Lcells : PySem.W.keepIn K (.ref a_Lcells) = true) (b_Lcells : Binds K d_Lcells ["extent", "draws"] []) (m_range : mg "range" = none) (m_tuple : mg "tuple" = none) : FnOk P w K mg base CX0 3 f fd ["script", "at", "most_columns", "most_rows"] (spF K g_Ltable) := by
  refine fn_ok (k := 2) (fB := f_Ltable) (np := 4) (nN := 12) F sc_Ltable rfl rfl rfl fun cdv A outer s H E hr => ?_
  have nd : N_Ltable.Nodup := sc_Ltable.nd
  exact ((cs_cons (cs_set (ps_set (i := 4) nd rfl (by first | exact Or.inl rfl | exact Or.inr rfl) (ce_call (c := true) (pe_call G_Ldraws (hr.mono (by decide)) (by rfl) M_Ldraws k_Ldraws b_Ldraws .nil pass0 (ca_cons (ce_call (c := true) (pe_call G_Lcell (hr.mono (by decide)) (by rfl) M_Lcell k_Lcell b_Lcell .nil pass0 (ca_cons (ce_var (i := 0) (pv 0)) (ca_cons (ce_var (i := 1) (pv 1)) ca_nil)))) (ca_cons ce_int ca_nil))))))
    (cs_cons (cs_set (ps_set (i := 5) nd rfl (by first | exact Or.inl rfl | exact Or.inr rfl) (ce_tup (ca_cons (ce_add ce_int (ce_mod (ce_ix (ce_var (i := 4) (pv 4)) ce_int (fun _ _ => rfl)) (ce_var (i := 3) (pv 3)))) (ca_cons (ce_add ce_int (ce_mod (ce_ix (ce_var (i := 4) (pv 4)) ce_int (fun _ _ => rfl)) (ce_var (i := 2) (pv 2)))) (ca_cons (ce_if (ct_cmp (op_eqD hr.units) r2_eq (ce_mod (ce_ix (ce_var (i := 4) (pv 4)) ce_int (fun _ _ => rfl)) ce_int) ce_int (nomark _)) (ce_mod (ce_ix (ce_var (i := 4) (pv 4)) ce_int (fun _ _ => rfl)) ce_int) ce_int) ca_nil))))))
    (cs_cons (cs_own (ps_set (i := 6) nd rfl (by first | exact Or.inl rfl | exact Or.inr rfl) (cf_lst (c := true) ca_nil)))
    (cs_cons (cs_for PassesOwn.never (by rfl) (ci_r1 (pi_range1 (by rfl) m_range (ca_cons (ce_ix (ce_var (i := 5) (pv 5)) ce_int (fun _ _ => rfl)) ca_nil))) (cg_name (pg_name (i := 7) nd rfl (by first | exact Or.inl rfl | exact Or.inr rfl)))
    (cs_cons (cs_set (ps_set (i := 8) nd rfl (by first | exact Or.inl rfl | exact Or.inr rfl) (ce_add ce_int (ce_mod (ce_ix (ce_var (i := 4) (pv 4)) (ce_add ce_int (ce_var (i := 7) (pv 7))) (fun _ _ => rfl)) ce_int))))
    (cs_cons (cs_set (ps_set (i := 9) nd rfl (by first | exact Or.inl rfl | exact Or.inr rfl) (ce_ix (ce_l (c := true) (cf_lst (c := true) (ca_cons ce_non (ca_cons ce_non (ca_cons (ce_add (ce_var (i := 8) (pv 8)) (ce_mod (ce_ix (ce_var (i := 4) (pv 4)) (ce_add ce_int (ce_var (i := 7) (pv 7))) (fun _ _ => rfl)) ce_int)) ca_nil))))) (ce_mod (ce_ix (ce_var (i := 4) (pv 4)) (ce_add ce_int (ce_var (i := 7) (pv 7))) (fun _ _ => rfl)) ce_int) (fun _ _ => rfl))))
    (cs_cons (cs_set (ps_set (i := 10) nd rfl (by first | exact Or.inl rfl | exact Or.inr rfl) (ce_ix (ce_l (c := true) (cf_lst (c := true) (ca_cons ce_non (ca_cons ce_non (ca_cons ce_non (ca_cons ce_int (ca_cons ce_int (ca_cons ce_int ca_nil)))))))) (ce_mod (ce_ix (ce_var (i := 4) (pv 4)) (ce_add ce_int (ce_var (i := 7) (pv 7))) (fun _ _ => rfl)) ce_int) (fun _ _ => rfl))))
    (cs_one (cs_app (ps_expr (pe_bm PySem.F.plainAttrs_list PySem.F.slot_list_append PySem.F.type_list_append mt_append (pv 6) (pa_cons (ce_tup (ca_cons (ce_var (i := 8) (pv 8)) (ca_cons (ce_var (i := 9) (pv 9)) (ca_cons (ce_var (i := 10) (pv 10)) (ca_cons (ce_ix (ce_l (c := true) (cf_lst (c := true) (ca_cons ce_str (ca_cons ce_str (ca_cons ce_str ca_nil))))) (ce_mod (ce_ix (ce_var (i := 4) (pv 4)) (ce_add ce_int (ce_var (i := 7) (pv 7))) (fun _ _ => rfl)) ce_int) (fun _ _ => rfl)) ca_nil))))) pa_nil)))))))))
    (cs_cons (cs_lcV1 (ps_setLc (i := 11) (own := [("k", 7)]) rfl nd rfl rfl (sw_true rfl rfl rfl (by decide +kernel)) (ci_r1 (pi_range1 (by rfl) m_range (ca_cons (ce_ix (ce_var (i := 5) (pv 5)) ce_int (fun _ _ => rfl)) ca_nil))) (blkOk_by (own := [("k", 7)]) (N := N_Ltable) (sc := defScope s_Ltable) (by decide +kernel)) (fun _ _ _ _ _ => (cg_name (pg_name (i := 7) nd rfl (by first | exact Or.inl rfl | exact Or.inr rfl)))) (fun _ _ _ _ _ => pts_nil) (fun _ _ _ _ _ => (ce_tup (ca_cons (ce_add ce_int (ce_mod (ce_ix (ce_var (i := 4) (pv 4)) (ce_add ce_int (ce_var (i := 7) (pv 7))) (fun _ _ => rfl)) ce_int)) (ca_cons (ce_cmp op_lt r2_B0 (ce_var (i := 7) (pv 7)) (ce_ix (ce_var (i := 5) (pv 5)) ce_int (fun _ _ => rfl)) (nomark _)) (ca_cons (ce_cmp (op_eqD hr.units) r2_eq (ce_mod (ce_ix (ce_var (i := 4) (pv 4)) (ce_add ce_int (ce_var (i := 7) (pv 7))) (fun _ _ => rfl)) ce_int) ce_int (nomark _)) ca_nil)))))))
    (cs_one (cs_ret (ce_tup (ca_cons (ce_tupO (i := 6) (pe_callTy call_tuple_of (by rfl) m_tuple (by decide +kernel) (pa_cons (pv 6) pa_nil))) (ca_cons (ce_cb (c2 := true) cr_tup (pe_callTy call_tuple_of (by rfl) m_tuple (by decide +kernel) (ca_cons (ce_var (i := 11) (pv 11)) ca_nil))) (ca_cons (ce_call (c := true) (pe_call G_Lcells (hr.mono (by decide)) (by rfl) M_Lcells k_Lcells b_Lcells .nil pass0 (ca_cons (ce_var (i := 5) (pv 5)) (ca_cons (ce_var (i := 4) (pv 4)) ca_nil)))) ca_nil))))))))))))
theorem ok_Lline_count {f : Addr} {fd : FuncData} (F : Fun K "_law_line_count" "_law_line_count" s_Lline_count f fd) (m_len : mg "len" = none) : FnOk P w K mg base CX0 1 f fd ["words", "width"] (spF K g_Lline_count) := by
  refine fn_ok (k := 0) (fB := f_Lline_count) (np := 2) (nN := 5) F sc_Lline_count rfl rfl rfl fun cdv A outer s H E hr => ?_
  have nd : N_Lline_count.Nodup := sc_Lline_count.nd
  exact ((cs_cons (cs_set (ps_set (i := 2) nd rfl (by first | exact Or.inl rfl | exact Or.inr rfl) ce_int))
    (cs_cons (cs_set (ps_set (i := 3) nd rfl (by first | exact Or.inl rfl | exact Or.inr rfl) ce_int))
    (cs_cons (cs_for PassesOwn.never (by rfl) (ci_seq (ce_var (i := 0) (pv 0))) (cg_name (pg_name (i := 4) nd rfl (by first | exact Or.inl rfl | exact Or.inr rfl)))
    (cs_cons (cs_if (ct_cmp op_gt r2_B0 (ce_cb (c2 := true) cr_len (pe_callB call_len (by rfl) m_len boot_len (ca_cons (ce_var (i := 4) (pv 4)) ca_nil))) (ce_var (i := 1) (pv 1)) (nomark _))
    (cs_one (cs_ret ce_non))
    cs_nil)
    (cs_one (cs_if (PW.pt (cw_and (ct_cmp op_gt r2_B0 (ce_var (i := 2) (pv 2)) ce_int (nomark _)) (cw_and1 (ct_cmp op_le r2_B0 (ce_add (ce_add (ce_var (i := 3) (pv 3)) ce_int) (ce_cb (c2 := true) cr_len (pe_callB call_len (by rfl) m_len boot_len (ca_cons (ce_var (i := 4) (pv 4)) ca_nil)))) (ce_var (i := 1) (pv 1)) (nomark _)))))
    (cs_one (cs_set (ps_set (i := 3) nd rfl (by first | exact Or.inl rfl | exact Or.inr rfl) (ce_add (ce_add (ce_var (i := 3) (pv 3)) ce_int) (ce_cb (c2 := true) cr_len (pe_callB call_len (by rfl) m_len boot_len (ca_cons (ce_var (i := 4) (pv 4)) ca_nil)))))))
    (cs_cons (cs_set (ps_set (i := 2) nd rfl (by first | exact Or.inl rfl | exact Or.inr rfl) (ce_add (ce_var (i := 2) (pv 2)) ce_int)))
    (cs_one (cs_set (ps_set (i := 3) nd rfl (by first | exact Or.inl rfl | exact Or.inr rfl) (ce_cb (c2 := true) cr_len (pe_callB call_len (by rfl) m_len boot_len (ca_cons (ce_var (i := 4) (pv 4)) ca_nil)))))))))))
    (cs_one (cs_ret (ce_var (i := 2) (pv 2))))))))
theorem ok_Linner {f : Addr} {fd : FuncData} (F : Fun K "_law_inner" "_law_inner" s_Linner f fd)  : FnOk P w K mg base CX0 1 f fd ["lines", "first", "count"] (spF K g_Linner) := by
  refine fn_ok (k := 0) (fB := f_Linner) (np := 3) (nN := 3) F sc_Linner rfl rfl rfl fun cdv A outer s H E hr => ?_
  have nd : N_Linner.Nodup := sc_Linner.nd
  exact ((cs_one (cs_ret (ce_sub (ce_sub (ce_ix (ce_var (i := 0) (pv 0)) (ce_add (ce_var (i := 1) (pv 1)) (ce_var (i := 2) (pv 2))) (fun _ _ => rfl)) (ce_ix (ce_var (i := 0) (pv 0)) (ce_var (i := 1) (pv 1)) (fun _ _ => rfl))) ce_int))))
theorem ok_Lcolumns_right {f : Addr} {fd : FuncData} (F : Fun K "_law_columns_right" "_law_columns_right" s_Lcolumns_right f fd) {a_Linner : Addr} {d_Linner : FuncData} (G_Linner : FnOk P w K mg base CX0 1 a_Linner d_Linner ["lines", "first", "count"] (spF K g_Linner)) (M_Linner : mg "_law_inner" = some (.ref a_Linner)) (k_Linner : PySem.W.keepIn K (.ref a_Linner) = true) (b_Linner : Binds K d_Linner ["lines", "first", "count"] []) (m_len : mg "len" = none) (m_range : mg "range" = none) : FnOk P w K mg base CX0 2 f fd ["table", "xs"] (spF K g_Lcolumns_right) := by
  refine fn_ok (k := 1) (fB := f_Lcolumns_right) (np := 2) (nN := 8) F sc_Lcolumns_right rfl rfl rfl fun cdv A outer s H E hr => ?_
  have nd : N_Lcolumns_right.Nodup := sc_Lcolumns_right.nd
  exact ((cs_cons (cs_for PassesOwn.never (by rfl) (ci_r1 (pi_range1 (by rfl) m_range (ca_cons (ce_cb (c2 := true) cr_len (pe_callB call_len (by rfl) m_len boot_len (ca_cons (ce_ix (ce_var (i := 0) (pv 0)) ce_int (fun _ _ => rfl)) ca_nil))) ca_nil))) (cg_name (pg_name (i := 2) nd rfl (by first | exact Or.inl rfl | exact Or.inr rfl)))
    (cs_cons (cs_unp (ps_asg (ce_ix (ce_ix (ce_var (i := 0) (pv 0)) ce_int (fun _ _ => rfl)) (ce_var (i := 2) (pv 2)) (fun _ _ => rfl)) (cg_tup (is := [3, 4, 5, 6]) (pg_tup rfl (pgs_cons (pg_name (i := 3) nd rfl (by first | exact Or.inl rfl | exact Or.inr rfl)) (pgs_cons (pg_name (i := 4) nd rfl (by first | exact Or.inl rfl | exact Or.inr rfl)) (pgs_cons (pg_name (i := 5) nd rfl (by first | exact Or.inl rfl | exact Or.inr rfl)) (pgs_cons (pg_name (i := 6) nd rfl (by first | exact Or.inl rfl | exact Or.inr rfl)) pgs_nil))))))))
    (cs_cons (cs_set (ps_set (i := 7) nd rfl (by first | exact Or.inl rfl | exact Or.inr rfl) (ce_call (c := true) (pe_call G_Linner (hr.mono (by decide)) (by rfl) M_Linner k_Linner b_Linner .nil pass0 (ca_cons (ce_var (i := 1) (pv 1)) (ca_cons (ce_var (i := 2) (pv 2)) (ca_cons ce_int ca_nil)))))))
    (cs_cons (cs_if (PW.pt (cw_or (ct_cmp op_lt r2_B0 (ce_var (i := 7) (pv 7)) (ce_var (i := 3) (pv 3)) (nomark _)) (cw_or1 (PW.pt (cw_and (ct_cmp op_notN r2_isnt (ce_var (i := 4) (pv 4)) ce_non (nomark _)) (cw_and1 (ct_cmp op_gt r2_B0 (ce_var (i := 7) (pv 7)) (ce_var (i := 4) (pv 4)) (nomark _))))))))
    (cs_one (cs_ret ce_bl))
    cs_nil)
    (cs_one (cs_if (PW.pt (cw_and (ct_cmp op_notN r2_isnt (ce_var (i := 5) (pv 5)) ce_non (nomark _)) (cw_and1 (ct_cmp op_lt r2_B0 (ce_mul ce_int (ce_add (ce_var (i := 7) (pv 7)) ce_int)) (ce_mul (ce_var (i := 5) (pv 5)) (ce_ix (ce_var (i := 1) (pv 1)) (ce_neg ce_int) (fun _ _ => rfl))) (nomark _)))))
    (cs_one (cs_ret ce_bl))
    cs_nil))))))
    (cs_one (cs_ret ce_bl))))
theorem ok_Lcells_right {f : Addr} {fd : FuncData} (F : Fun K "_law_cells_right" "_law_cells_right" s_Lcells_right f fd) {a_Lline_count : Addr} {d_Lline_count : FuncData} (G_Lline_count : FnOk P w K mg base CX0 1 a_Lline_count d_Lline_count ["words", "width"] (spF K g_Lline_count)) (M_Lline_count : mg "_law_line_count" = some (.ref a_Lline_count)) (k_Lline_count : PySem.W.keepIn K (.ref a_Lline_count) = true) (b_Lline_count : Binds K d_Lline_count ["words", "width"] []) {a_Linner : Addr} {d_Linner : FuncData} (G_Linner : FnOk P w K mg base CX0 1 a_Linner d_Linner ["lines", "first", "count"] (spF K g_Linner)) (M_Linner : mg "_law_inner" = some (.ref a_Linner)) (k_Linner : PySem.W.keepIn K (.ref a_Linner) = true) (b_Linner : Binds K d_Linner ["lines", "first", "count"] []) : FnOk P w K mg base CX0 2 f fd ["table", "xs", "ys"] (spF K g_Lcells_right) := by
  refine fn_ok (k := 1) (fB := f_Lcells_right) (np := 3) (nN := 9) F sc_Lcells_right rfl rfl rfl fun cdv A outer s H E hr => ?_
  have nd : N_Lcells_right.Nodup := sc_Lcells_right.nd
  exact ((cs_cons (cs_for PassesOwn.never (by rfl) (ci_seq (ce_ix (ce_var (i := 0) (pv 0)) ce_int (fun _ _ => rfl))) (cg_tup (is := [3, 4, 5, 6, 7]) (pg_tup rfl (pgs_cons (pg_name (i := 3) nd rfl (by first | exact Or.inl rfl | exact Or.inr rfl)) (pgs_cons (pg_name (i := 4) nd rfl (by first | exact Or.inl rfl | exact Or.inr rfl)) (pgs_cons (pg_name (i := 5) nd rfl (by first | exact Or.inl rfl | exact Or.inr rfl)) (pgs_cons (pg_name (i := 6) nd rfl (by first | exact Or.inl rfl | exact Or.inr rfl)) (pgs_cons (pg_name (i := 7) nd rfl (by first | exact Or.inl rfl | exact Or.inr rfl)) pgs_nil)))))))
    (cs_cons (cs_set (ps_set (i := 8) nd rfl (by first | exact Or.inl rfl | exact Or.inr rfl) (ce_call (c := true) (pe_call G_Lline_count (hr.mono (by decide)) (by rfl) M_Lline_count k_Lline_count b_Lline_count .nil pass0 (ca_cons (ce_var (i := 7) (pv 7)) (ca_cons (ce_call (c := true) (pe_call G_Linner (hr.mono (by decide)) (by rfl) M_Linner k_Linner b_Linner .nil pass0 (ca_cons (ce_var (i := 1) (pv 1)) (ca_cons (ce_var (i := 4) (pv 4)) (ca_cons (ce_var (i := 6) (pv 6)) ca_nil))))) ca_nil))))))
    (cs_one (cs_if (PW.pt (cw_or (ct_cmp op_isN r2_is (ce_var (i := 8) (pv 8)) ce_non (nomark _)) (cw_or1 (ct_cmp op_gt r2_B0 (ce_var (i := 8) (pv 8)) (ce_call (c := true) (pe_call G_Linner (hr.mono (by decide)) (by rfl) M_Linner k_Linner b_Linner .nil pass0 (ca_cons (ce_var (i := 2) (pv 2)) (ca_cons (ce_var (i := 3) (pv 3)) (ca_cons (ce_var (i := 5) (pv 5)) ca_nil))))) (nomark _)))))
    (cs_one (cs_ret ce_bl))
    cs_nil))))
    (cs_one (cs_ret ce_bl))))
theorem ok_Lrows_right {f : Addr} {fd : FuncData} (F : Fun K "_law_rows_right" "_law_rows_right" s_Lrows_right f fd) {a_Linner : Addr} {d_Linner : FuncData} (G_Linner : FnOk P w K mg base CX0 1 a_Linner d_Linner ["lines", "first", "count"] (spF K g_Linner)) (M_Linner : mg "_law_inner" = some (.ref a_Linner)) (k_Linner : PySem.W.keepIn K (.ref a_Linner) = true) (b_Linner : Binds K d_Linner ["lines", "first", "count"] []) (m_len : mg "len" = none) (m_range : mg "range" = none) : FnOk P w K mg base CX0 2 f fd ["table", "ys"] (spF K g_Lrows_right) := by
  refine fn_ok (k := 1) (fB := f_Lrows_right) (np := 2) (nN := 3) F sc_Lrows_right rfl rfl rfl fun cdv A outer s H E hr => ?_
  have nd : N_Lrows_right.Nodup := sc_Lrows_right.nd
  exact ((cs_cons (cs_for PassesOwn.never (by rfl) (ci_r1 (pi_range1 (by rfl) m_range (ca_cons (ce_cb (c2 := true) cr_len (pe_callB call_len (by rfl) m_len boot_len (ca_cons (ce_ix (ce_var (i := 0) (pv 0)) ce_int (fun _ _ => rfl)) ca_nil))) ca_nil))) (cg_name (pg_name (i := 2) nd rfl (by first | exact Or.inl rfl | exact Or.inr rfl)))
    (cs_one (cs_if (ct_cmp op_lt r2_B0 (ce_call (c := true) (pe_call G_Linner (hr.mono (by decide)) (by rfl) M_Linner k_Linner b_Linner .nil pass0 (ca_cons (ce_var (i := 1) (pv 1)) (ca_cons (ce_var (i := 2) (pv 2)) (ca_cons ce_int ca_nil))))) (ce_ix (ce_ix (ce_ix (ce_var (i := 0) (pv 0)) ce_int (fun _ _ => rfl)) (ce_var (i := 2) (pv 2)) (fun _ _ => rfl)) ce_int (fun _ _ => rfl)) (nomark _))
    (cs_one (cs_ret ce_bl))
    cs_nil)))
    (cs_one (cs_ret ce_bl))))
theorem ok_Lrising {f : Addr} {fd : FuncData} (F : Fun K "_law_rising" "_law_rising" s_Lrising f fd) (m_range : mg "range" = none) : FnOk P w K mg base CX0 1 f fd ["count", "most"] (spF K g_Lrising) := by
  refine fn_ok (k := 0) (fB := f_Lrising) (np := 2) (nN := 7) F sc_Lrising rfl rfl rfl fun cdv A outer s H E hr => ?_
  have nd : N_Lrising.Nodup := sc_Lrising.nd
  exact ((cs_cons (cs_set (ps_set (i := 2) nd rfl (by first | exact Or.inl rfl | exact Or.inr rfl) (ce_l (c := true) (cf_lst (c := true) (ca_cons (ce_tup (ca_cons ce_int ca_nil)) ca_nil)))))
    (cs_cons (cs_for PassesOwn.never (by rfl) (ci_r1 (pi_range1 (by rfl) m_range (ca_cons (ce_var (i := 0) (pv 0)) ca_nil))) (cg_name (pg_name (i := 3) nd rfl (by first | exact Or.inl rfl | exact Or.inr rfl)))
    (cs_cons (cs_own (ps_set (i := 4) nd rfl (by first | exact Or.inl rfl | exact Or.inr rfl) (cf_lst (c := true) ca_nil)))
    (cs_cons (cs_for PassesOwn.never (by rfl) (ci_seq (ce_var (i := 2) (pv 2))) (cg_name (pg_name (i := 5) nd rfl (by first | exact Or.inl rfl | exact Or.inr rfl)))
    (cs_one (cs_for PassesOwn.never (by rfl) (ci_r2 (pi_range2 (by rfl) m_range (ca_cons (ce_add (ce_ix (ce_var (i := 5) (pv 5)) (ce_neg ce_int) (fun _ _ => rfl)) ce_int) (ca_cons (ce_add (ce_var (i := 1) (pv 1)) ce_int) ca_nil)))) (cg_name (pg_name (i := 6) nd rfl (by first | exact Or.inl rfl | exact Or.inr rfl)))
    (cs_one (cs_app (ps_expr (pe_bm PySem.F.plainAttrs_list PySem.F.slot_list_append PySem.F.type_list_append mt_append (pv 4) (pa_cons (ce_add (ce_var (i := 5) (pv 5)) (ce_tup (ca_cons (ce_var (i := 6) (pv 6)) ca_nil))) pa_nil))))))))
    (cs_one (cs_frz (i := 4) (cs_set (ps_set (i := 2) nd rfl (by first | exact Or.inl rfl | exact Or.inr rfl) (ce_var (i := 4) (pv 4)))))))))
    (cs_one (cs_ret (ce_var (i := 2) (pv 2)))))))
theorem ok_Llayouts {f : Addr} {fd : FuncData} (F : Fun K "_law_layouts" "_law_layouts" s_Llayouts f fd) {a_Lrising : Addr} {d_Lrising : FuncData} (G_Lrising : FnOk P w K mg base CX0 1 a_Lrising d_Lrising ["count", "most"] (spF K g_Lrising)) (M_Lrising : mg "_law_rising" = some (.ref a_Lrising)) (k_Lrising : PySem.W.keepIn K (.ref a_Lrising) = true) (b_Lrising : Binds K d_Lrising ["count", "most"] []) {a_Lrows_right : Addr} {d_Lrows_right : FuncData} (G_Lrows_right : FnOk P w K mg base CX0 2 a_Lrows_right d_Lrows_right ["table", "ys"] (spF K g_Lrows_right)) (M_Lrows_right : mg "_law_rows_right" = some (.ref a_Lrows_right)) (k_Lrows_right : PySem.W.keepIn K (.ref a_Lrows_right) = true) (b_Lrows_right : Binds K d_Lrows_right ["table", "ys"] []) {a_Lcolumns_right : Addr} {d_Lcolumns_right : FuncData} (G_Lcolumns_right : FnOk P w K mg base CX0 2 a_Lcolumns_right d_Lcolumns_right ["table", "xs"] (spF K g_Lcolumns_right)) (M_Lcolumns_right : mg "_law_columns_right" = some (.ref a_Lcolumns_right)) (k_Lcolumns_right : PySem.W.keepIn K (.ref a_Lcolumns_right) = true) (b_Lcolumns_right : Binds K d_Lcolumns_right ["table", "xs"] []) {a_Lcells_right : Addr} {d_Lcells_right : FuncData} (G_Lcells_right : FnOk P w K mg base CX0 2 a_Lcells_right d_Lcells_right ["table", "xs", "ys"] (spF K g_Lcells_right)) (M_Lcells_right : mg "_law_cells_right" = some (.ref a_Lcells_right)) (k_Lcells_right : PySem.W.keepIn K (.ref a_Lcells_right) = true) (b_Lcells_right : Binds K d_Lcells_right ["table", "xs", "ys"] []) (m_len : mg "len" = none) : FnOk P w K mg base CX0 3 f fd ["table", "most_x", "most_y"] (spF K g_Llayouts) := by
  refine fn_ok (k := 2) (fB := f_Llayouts) (np := 3) (nN := 7) F sc_Llayouts rfl rfl rfl fun cdv A outer s H E hr => ?_
  have nd : N_Llayouts.Nodup := sc_Llayouts.nd
  exact ((cs_cons (cs_own (ps_set (i := 3) nd rfl (by first | exact Or.inl rfl | exact Or.inr rfl) (cf_lst (c := true) ca_nil)))
    (cs_cons (cs_lcV (ps_setLc (i := 4) (own := [("ys", 6)]) rfl nd rfl rfl (sw_true rfl rfl rfl (by decide +kernel)) (ci_seq (ce_call (c := true) (pe_call G_Lrising (hr.mono (by decide)) (by rfl) M_Lrising k_Lrising b_Lrising .nil pass0 (ca_cons (ce_cb (c2 := true) cr_len (pe_callB call_len (by rfl) m_len boot_len (ca_cons (ce_ix (ce_var (i := 0) (pv 0)) ce_int (fun _ _ => rfl)) ca_nil))) (ca_cons (ce_var (i := 2) (pv 2)) ca_nil))))) (blkOk_by (own := [("ys", 6)]) (N := N_Llayouts) (sc := defScope s_Llayouts) (by decide +kernel)) (fun _ _ _ _ _ => (cg_name (pg_name (i := 6) nd rfl (by first | exact Or.inl rfl | exact Or.inr rfl)))) (fun _ _ _ _ _ => (pts_one (ct_tru (ce_call (c := true) (pe_call G_Lrows_right (hr.mono (by decide)) (by rfl) M_Lrows_right k_Lrows_right b_Lrows_right .nil pass0 (ca_cons (ce_var (i := 0) (pv 0)) (ca_cons (ce_var (i := 6) (pv 6)) ca_nil)))) (by intro _; rfl)))) (fun _ _ _ _ _ => (ce_var (i := 6) (pv 6)))))
    (cs_cons (cs_for PassesOwn.never (by rfl) (ci_seq (ce_call (c := true) (pe_call G_Lrising (hr.mono (by decide)) (by rfl) M_Lrising k_Lrising b_Lrising .nil pass0 (ca_cons (ce_cb (c2 := true) cr_len (pe_callB call_len (by rfl) m_len boot_len (ca_cons (ce_ix (ce_var (i := 0) (pv 0)) ce_int (fun _ _ => rfl)) ca_nil))) (ca_cons (ce_var (i := 1) (pv 1)) ca_nil))))) (cg_name (pg_name (i := 5) nd rfl (by first | exact Or.inl rfl | exact Or.inr rfl)))
    (cs_one (cs_if (ct_tru (ce_call (c := true) (pe_call G_Lcolumns_right (hr.mono (by decide)) (by rfl) M_Lcolumns_right k_Lcolumns_right b_Lcolumns_right .nil pass0 (ca_cons (ce_var (i := 0) (pv 0)) (ca_cons (ce_var (i := 5) (pv 5)) ca_nil)))) (by intro _; rfl))
    (cs_one (cs_for PassesOwn.never (by rfl) (ci_seq (ce_var (i := 4) (pv 4))) (cg_name (pg_name (i := 6) nd rfl (by first | exact Or.inl rfl | exact Or.inr rfl)))
    (cs_one (cs_if (ct_tru (ce_call (c := true) (pe_call G_Lcells_right (hr.mono (by decide)) (by rfl) M_Lcells_right k_Lcells_right b_Lcells_right .nil pass0 (ca_cons (ce_var (i := 0) (pv 0)) (ca_cons (ce_var (i := 5) (pv 5)) (ca_cons (ce_var (i := 6) (pv 6)) ca_nil))))) (by intro _; rfl))
    (cs_one (cs_app (ps_expr (pe_bm PySem.F.plainAttrs_list PySem.F.slot_list_append PySem.F.type_list_append mt_append (pv 3) (pa_cons (ce_tup (ca_cons (ce_var (i := 5) (pv 5)) (ca_cons (ce_var (i := 6) (pv 6)) ca_nil))) pa_nil)))))
    cs_nil))))
    cs_nil)))
    (cs_one (cs_frz (i := 3) (cs_ret (ce_var (i := 3) (pv 3)))))))))
theorem ok_Lheights {f : Addr} {fd : FuncData} (F : Fun K "_law_heights" "_law_heights" s_Lheights f fd) (m_len : mg "len" = none) (m_range : mg "range" = none) (m_tuple : mg "tuple" = none) : FnOk P w K mg base CX0 1 f fd ["ys"] (spF K g_Lheights) := by
  refine fn_ok (k := 0) (fB := f_Lheights) (np := 1) (nN := 2) F sc_Lheights rfl rfl rfl fun cdv A outer s H E hr => ?_
  have nd : N_Lheights.Nodup := sc_Lheights.nd
  exact ((cs_one (cs_ret (ce_cb (c2 := true) cr_tup (pe_callTy call_tuple_of (by rfl) m_tuple (by decide +kernel) (ca_cons (ce_l (c := true) (cf_lc1 (c2 := true) (pe_lc (own := [("k", 1)]) (by rfl) nd (ci_r1 (pi_range1 (by rfl) m_range (ca_cons (ce_sub (ce_cb (c2 := true) cr_len (pe_callB call_len (by rfl) m_len boot_len (ca_cons (ce_var (i := 0) (pv 0)) ca_nil))) ce_int) ca_nil))) (blkOk_by (own := [("k", 1)]) (N := N_Lheights) (sc := defScope s_Lheights) (by decide +kernel)) (fun _ _ _ _ _ => (cg_name (pg_name (i := 1) nd rfl (by first | exact Or.inl rfl | exact Or.inr rfl)))) (fun _ _ _ _ _ => pts_nil) (fun _ _ _ _ _ => (ce_sub (ce_sub (ce_ix (ce_var (i := 0) (pv 0)) (ce_add (ce_var (i := 1) (pv 1)) ce_int) (fun _ _ => rfl)) (ce_ix (ce_var (i := 0) (pv 0)) (ce_var (i := 1) (pv 1)) (fun _ _ => rfl))) ce_int))))) ca_nil))))))
theorem ok_Lpages {f : Addr} {fd : FuncData} (F : Fun K "_law_pages" "_law_pages" s_Lpages f fd) (m_len : mg "len" = none) (m_range : mg "range" = none) : FnOk P w K mg base CX0 1 f fd ["table", "ys", "height"] (spF K g_Lpages) := by
  refine fn_ok (k := 0) (fB := f_Lpages) (np := 3) (nN := 13) F sc_Lpages rfl rfl rfl fun cdv A outer s H E hr => ?_
  have nd : N_Lpages.Nodup := sc_Lpages.nd
  exact ((cs_cons (cs_set (ps_set (i := 3) nd rfl (by first | exact Or.inl rfl | exact Or.inr rfl) (ce_cb (c2 := true) cr_len (pe_callB call_len (by rfl) m_len boot_len (ca_cons (ce_ix (ce_var (i := 0) (pv 0)) ce_int (fun _ _ => rfl)) ca_nil)))))
    (cs_cons (cs_set (ps_set (i := 4) nd rfl (by first | exact Or.inl rfl | exact Or.inr rfl) (ce_cb (c2 := true) cr_len (pe_callB call_len (by rfl) m_len boot_len (ca_cons (ce_l (c := true) (cf_lc (c2 := true) (pe_lc (own := [("row", 11)]) (by rfl) nd (ci_seq (ce_ix (ce_var (i := 0) (pv 0)) ce_int (fun _ _ => rfl))) (blkOk_by (own := [("row", 11)]) (N := N_Lpages) (sc := defScope s_Lpages) (by decide +kernel)) (fun _ _ _ _ _ => (cg_name (pg_name (i := 11) nd rfl (by first | exact Or.inl rfl | exact Or.inr rfl)))) (fun _ _ _ _ _ => (pts_one (ct_tru (ce_ix (ce_var (i := 11) (pv 11)) ce_int (fun _ _ => rfl)) (by intro _; rfl)))) (fun _ _ _ _ _ => (ce_var (i := 11) (pv 11)))))) ca_nil)))))
    (cs_cons (cs_if (ct_cmp (op_eqD hr.units) r2_eq (ce_var (i := 4) (pv 4)) (ce_var (i := 3) (pv 3)) (nomark _))
    (cs_one (cs_ret (ce_if (ct_cmp op_le r2_B0 (ce_add (ce_ix (ce_var (i := 1) (pv 1)) (ce_var (i := 3) (pv 3)) (fun _ _ => rfl)) ce_int) (ce_var (i := 2) (pv 2)) (nomark _)) (ce_l (c := true) (cf_lst (c := true) (ca_cons (ce_tup (ca_cons (ce_var (i := 3) (pv 3)) (ca_cons (ce_var (i := 3) (pv 3)) ca_nil))) ca_nil))) ce_non)))
    cs_nil)
    (cs_cons (cs_own (ps_set (i := 5) nd rfl (by first | exact Or.inl rfl | exact Or.inr rfl) (cf_lst (c := true) ca_nil)))
    (cs_cons (cs_set (ps_set (i := 6) nd rfl (by first | exact Or.inl rfl | exact Or.inr rfl) (ce_var (i := 4) (pv 4))))
    (cs_cons (cs_while 100 PassesOwn.never (ct_cmp op_lt r2_B0 (ce_var (i := 6) (pv 6)) (ce_var (i := 3) (pv 3)) (nomark _))
    (cs_cons (cs_own (ps_set (i := 7) nd rfl (by first | exact Or.inl rfl | exact Or.inr rfl) (cf_lst (c := true) ca_nil)))
    (cs_cons (cs_for PassesOwn.never (by rfl) (ci_r2 (pi_range2 (by rfl) m_range (ca_cons (ce_add (ce_var (i := 6) (pv 6)) ce_int) (ca_cons (ce_add (ce_var (i := 3) (pv 3)) ce_int) ca_nil)))) (cg_name (pg_name (i := 8) nd rfl (by first | exact Or.inl rfl | exact Or.inr rfl)))
    (cs_cons (cs_lcV (ps_setLc (i := 9) (own := [("cell", 12)]) rfl nd rfl rfl (sw_true rfl rfl rfl (by decide +kernel)) (ci_seq (ce_ix (ce_var (i := 0) (pv 0)) ce_int (fun _ _ => rfl))) (blkOk_by (own := [("cell", 12)]) (N := N_Lpages) (sc := defScope s_Lpages) (by decide +kernel)) (fun _ _ _ _ _ => (cg_name (pg_name (i := 12) nd rfl (by first | exact Or.inl rfl | exact Or.inr rfl)))) (fun _ _ _ _ _ => (pts_one (ct_chain (c := true) (c1 := true) (c2 := true) (pt_chain op_lt op_lt (ce_ix (ce_var (i := 12) (pv 12)) ce_int (fun _ _ => rfl)) (ce_var (i := 8) (pv 8)) (ce_add (ce_ix (ce_var (i := 12) (pv 12)) ce_int (fun _ _ => rfl)) (ce_ix (ce_var (i := 12) (pv 12)) ce_int (fun _ _ => rfl))))))) (fun _ _ _ _ _ => (ce_var (i := 12) (pv 12)))))
    (cs_cons (cs_set (ps_set (i := 10) nd rfl (by first | exact Or.inl rfl | exact Or.inr rfl) (ce_or (ce_cmp (op_eqD hr.units) r2_eq (ce_var (i := 8) (pv 8)) (ce_var (i := 3) (pv 3)) (nomark _)) (ce_one (ce_and (ce_cmp (op_eqD hr.units) r2_eq (ce_var (i := 9) (pv 9)) (ce_l (c := true) (cf_lst (c := true) ca_nil)) (nomark _)) (ce_one (ce_not (ce_ix (ce_ix (ce_ix (ce_var (i := 0) (pv 0)) ce_int (fun _ _ => rfl)) (ce_sub (ce_var (i := 8) (pv 8)) ce_int) (fun _ _ => rfl)) ce_int (fun _ _ => rfl)))))))))
    (cs_one (cs_if (PW.pt (cw_and (ct_tru (ce_var (i := 10) (pv 10)) (by intro _; rfl)) (cw_and1 (ct_cmp op_le r2_B0 (ce_add (ce_sub (ce_add (ce_ix (ce_var (i := 1) (pv 1)) (ce_var (i := 4) (pv 4)) (fun _ _ => rfl)) (ce_ix (ce_var (i := 1) (pv 1)) (ce_var (i := 8) (pv 8)) (fun _ _ => rfl))) (ce_ix (ce_var (i := 1) (pv 1)) (ce_var (i := 6) (pv 6)) (fun _ _ => rfl))) ce_int) (ce_var (i := 2) (pv 2)) (nomark _)))))
    (cs_one (cs_app (ps_expr (pe_bm PySem.F.plainAttrs_list PySem.F.slot_list_append PySem.F.type_list_append mt_append (pv 7) (pa_cons (ce_var (i := 8) (pv 8)) pa_nil)))))
    cs_nil)))))
    (cs_cons (cs_if (ct_cmp (op_eqD hr.units) r2_eq (ce_bor (i := 7) (pv 7)) (ce_b (ce_l (c := true) (cf_lst (c := true) ca_nil))) (nomark _))
    (cs_one (cs_ret ce_non))
    cs_nil)
    (cs_cons (cs_app (ps_expr (pe_bm PySem.F.plainAttrs_list PySem.F.slot_list_append PySem.F.type_list_append mt_append (pv 5) (pa_cons (ce_tup (ca_cons (ce_var (i := 6) (pv 6)) (ca_cons (ce_ixO (i := 7) (pv 7) (ce_neg ce_int) (fun _ _ => rfl)) ca_nil))) pa_nil))))
    (cs_one (cs_set (ps_set (i := 6) nd rfl (by first | exact Or.inl rfl | exact Or.inr rfl) (ce_ixO (i := 7) (pv 7) (ce_neg ce_int) (fun _ _ => rfl))))))))))
    (cs_one (cs_frz (i := 5) (cs_ret (ce_var (i := 5) (pv 5))))))))))))
theorem ok_Lother_table {f : Addr} {fd : FuncData} (F : Fun K "_law_other_table" "_law_other_table" s_Lother_table f fd) (m_tuple : mg "tuple" = none) : FnOk P w K mg base CX0 1 f fd [] (spF K g_Lother_table) := by
  refine fn_ok (k := 0) (fB := f_Lother_table) (np := 0) (nN := 2) F sc_Lother_table rfl rfl rfl fun cdv A outer s H E hr => ?_
  have nd : N_Lother_table.Nodup := sc_Lother_table.nd
  exact ((cs_cons (cs_set (ps_set (i := 0) nd rfl (by first | exact Or.inl rfl | exact Or.inr rfl) (ce_tup (ca_cons ce_int (ca_cons ce_non (ca_cons ce_non (ca_cons ce_str ca_nil)))))))
    (cs_cons (cs_own (ps_set (i := 1) nd rfl (by first | exact Or.inl rfl | exact Or.inr rfl) (cf_lst (c := true) (ca_cons (ce_tup (ca_cons ce_int (ca_cons ce_int (ca_cons ce_int (ca_cons ce_int (ca_cons (ce_tup ca_nil) ca_nil)))))) (ca_cons (ce_tup (ca_cons ce_int (ca_cons ce_int (ca_cons ce_int (ca_cons ce_int (ca_cons (ce_tup ca_nil) ca_nil)))))) (ca_cons (ce_tup (ca_cons ce_int (ca_cons ce_int (ca_cons ce_int (ca_cons ce_int (ca_cons (ce_tup (ca_cons ce_str (ca_cons ce_str ca_nil))) ca_nil)))))) (ca_cons (ce_tup (ca_cons ce_int (ca_cons ce_int (ca_cons ce_int (ca_cons ce_int (ca_cons (ce_tup ca_nil) ca_nil)))))) (ca_cons (ce_tup (ca_cons ce_int (ca_cons ce_int (ca_cons ce_int (ca_cons ce_int (ca_cons (ce_tup ca_nil) ca_nil)))))) ca_nil))))))))
    (cs_cons (cs_app (ps_expr (pe_bm PySem.F.plainAttrs_list PySem.F.slot_list_append PySem.F.type_list_append mt_append (pv 1) (pa_cons (ce_tup (ca_cons ce_int (ca_cons ce_int (ca_cons ce_int (ca_cons ce_int (ca_cons (ce_tup (ca_cons ce_str (ca_cons ce_str (ca_cons ce_str ca_nil)))) ca_nil)))))) pa_nil))))
    (cs_one (cs_ret (ce_tup (ca_cons (ce_tup (ca_cons (ce_var (i := 0) (pv 0)) (ca_cons (ce_var (i := 0) (pv 0)) ca_nil))) (ca_cons (ce_tup (ca_cons (ce_tup (ca_cons ce_int (ca_cons ce_bl (ca_cons ce_bl ca_nil)))) (ca_cons (ce_tup (ca_cons ce_int (ca_cons ce_bl (ca_cons ce_bl ca_nil)))) (ca_cons (ce_tup (ca_cons ce_int (ca_cons ce_bl (ca_cons ce_bl ca_nil)))) ca_nil)))) (ca_cons (ce_tupO (i := 1) (pe_callTy call_tuple_of (by rfl) m_tuple (by decide +kernel) (pa_cons (pv 1) pa_nil))) ca_nil))))))))))
theorem ok_law {f : Addr} {fd : FuncData} (F : Fun K "law" "law" s_law f fd) {a_Ltable : Addr} {d_Ltable : FuncData} (G_Ltable : FnOk P w K mg base CX0 3 a_Ltable d_Ltable ["script", "at", "most_columns", "most_rows"] (spF K g_Ltable)) (M_Ltable : mg "_law_table" = some (.ref a_Ltable)) (k_Ltable : PySem.W.keepIn K (.ref a_Ltable) = true) (b_Ltable : Binds K d_Ltable ["script", "at", "most_columns", "most_rows"] []) {a_Lcell : Addr} {d_Lcell : FuncData} (G_Lcell : FnOk P w K mg base CX0 1 a_Lcell d_Lcell ["script", "k"] (spF K g_Lcell)) (M_Lcell : mg "_law_cell" = some (.ref a_Lcell)) (k_Lcell : PySem.W.keepIn K (.ref a_Lcell) = true) (b_Lcell : Binds K d_Lcell ["script", "k"] []) {a_Lother_table : Addr} {d_Lother_table : FuncData} (G_Lother_table : FnOk P w K mg base CX0 1 a_Lother_table d_Lother_table [] (spF K g_Lother_table)) (M_Lother_table : mg "_law_other_table" = some (.ref a_Lother_table)) (k_Lother_table : PySem.W.keepIn K (.ref a_Lother_table) = true) (b_Lother_table : Binds K d_Lother_table [] []) {a_Llayouts : Addr} {d_Llayouts : FuncData} (G_Llayouts : FnOk P w K mg base CX0 3 a_Llayouts d_Llayouts ["table", "most_x", "most_y"] (spF K g_Llayouts)) (M_Llayouts : mg "_law_layouts" = some (.ref a_Llayouts)) (k_Llayouts : PySem.W.keepIn K (.ref a_Llayouts) = true) (b_Llayouts : Binds K d_Llayouts ["table", "most_x", "most_y"] []) {a_Lpages : Addr} {d_Lpages : FuncData} (G_Lpages : FnOk P w K mg base CX0 1 a_Lpages d_Lpages ["table", "ys", "height"] (spF K g_Lpages)) (M_Lpages : mg "_law_pages" = some (.ref a_Lpages)) (k_Lpages : PySem.W.keepIn K (.ref a_Lpages) = true) (b_Lpages : Binds K d_Lpages ["table", "ys", "height"] []) {a_Lheights : Addr} {d_Lheights : FuncData} (G_Lheights : FnOk P w K mg base CX0 1 a_Lheights d_Lheights ["ys"] (spF K g_Lheights)) (M_Lheights : mg "_law_heights" = some (.ref a_Lheights)) (k_Lheights : PySem.W.keepIn K (.ref a_Lheights) = true) (b_Lheights : Binds K d_Lheights ["ys"] []) {a_fewest_pages : Addr} {d_fewest_pages : FuncData} (G_fewest_pages : FnOk P w K mg base CX0 8 a_fewest_pages d_fewest_pages ["table", "max_width", "page_height"] (spF K g_fewest_pages)) (M_fewest_pages : mg "fewest_pages" = some (.ref a_fewest_pages)) (k_fewest_pages : PySem.W.keepIn K (.ref a_fewest_pages) = true) (b_fewest_pages : Binds K d_fewest_pages ["table", "max_width", "page_height"] []) (m_len : mg "len" = none) (m_min : mg "min" = none) (m_isinstance : mg "isinstance" = none) (m_tuple : mg "tuple" = none) : FnOk P w K mg base CX0 9 f fd ["script"] (spF K g_law) := by
  refine fn_ok (k := 8) (fB := f_law) (np := 1) (nN := 10) F sc_law rfl rfl rfl fun cdv A outer s H E hr => ?_
  have nd : N_law.Nodup := sc_law.nd
  exact ((cs_cons (cs_set (ps_set (i := 1) nd rfl (by first | exact Or.inl rfl | exact Or.inr rfl) (ce_call (c := true) (pe_call G_Ltable (hr.mono (by decide)) (by rfl) M_Ltable k_Ltable b_Ltable .nil pass0 (ca_cons (ce_var (i := 0) (pv 0)) (ca_cons ce_int (ca_cons ce_int (ca_cons ce_int ca_nil))))))))
    (cs_cons (cs_set (ps_set (i := 2) nd rfl (by first | exact Or.inl rfl | exact Or.inr rfl) (ce_add ce_int (ce_mod (ce_call (c := true) (pe_call G_Lcell (hr.mono (by decide)) (by rfl) M_Lcell k_Lcell b_Lcell .nil pass0 (ca_cons (ce_var (i := 0) (pv 0)) (ca_cons ce_int ca_nil)))) ce_int))))
    (cs_cons (cs_set (ps_set (i := 3) nd rfl (by first | exact Or.inl rfl | exact Or.inr rfl) (ce_add ce_int (ce_mod (ce_call (c := true) (pe_call G_Lcell (hr.mono (by decide)) (by rfl) M_Lcell k_Lcell b_Lcell .nil pass0 (ca_cons (ce_var (i := 0) (pv 0)) (ca_cons ce_int ca_nil)))) ce_int))))
    (cs_cons (cs_if (ct_cmp (op_eqD hr.units) r2_eq (ce_mod (ce_call (c := true) (pe_call G_Lcell (hr.mono (by decide)) (by rfl) M_Lcell k_Lcell b_Lcell .nil pass0 (ca_cons (ce_var (i := 0) (pv 0)) (ca_cons ce_int ca_nil)))) ce_int) ce_int (nomark _))
    (cs_cons (cs_set (ps_set (i := 1) nd rfl (by first | exact Or.inl rfl | exact Or.inr rfl) (ce_call0 (c := true) (pe_call0 G_Lother_table (hr.mono (by decide)) (by rfl) M_Lother_table k_Lother_table b_Lother_table .nil pass0))))
    (cs_cons (cs_set (ps_set (i := 2) nd rfl (by first | exact Or.inl rfl | exact Or.inr rfl) (ce_add ce_int (ce_mod (ce_call (c := true) (pe_call G_Lcell (hr.mono (by decide)) (by rfl) M_Lcell k_Lcell b_Lcell .nil pass0 (ca_cons (ce_var (i := 0) (pv 0)) (ca_cons ce_int ca_nil)))) ce_int))))
    (cs_one (cs_set (ps_set (i := 3) nd rfl (by first | exact Or.inl rfl | exact Or.inr rfl) (ce_add ce_int (ce_mod (ce_call (c := true) (pe_call G_Lcell (hr.mono (by decide)) (by rfl) M_Lcell k_Lcell b_Lcell .nil pass0 (ca_cons (ce_var (i := 0) (pv 0)) (ca_cons ce_int ca_nil)))) ce_int)))))))
    cs_nil)
    (cs_cons (cs_own (ps_set (i := 4) nd rfl (by first | exact Or.inl rfl | exact Or.inr rfl) (cf_lst (c := true) ca_nil)))
    (cs_cons (cs_for PassesOwn.never (by rfl) (ci_seq (ce_call (c := true) (pe_call G_Llayouts (hr.mono (by decide)) (by rfl) M_Llayouts k_Llayouts b_Llayouts .nil pass0 (ca_cons (ce_var (i := 1) (pv 1)) (ca_cons (ce_sub (ce_var (i := 2) (pv 2)) ce_int) (ca_cons ce_int ca_nil)))))) (cg_tup (is := [5, 6]) (pg_tup rfl (pgs_cons (pg_name (i := 5) nd rfl (by first | exact Or.inl rfl | exact Or.inr rfl)) (pgs_cons (pg_name (i := 6) nd rfl (by first | exact Or.inl rfl | exact Or.inr rfl)) pgs_nil))))
    (cs_cons (cs_set (ps_set (i := 7) nd rfl (by first | exact Or.inl rfl | exact Or.inr rfl) (ce_call (c := true) (pe_call G_Lpages (hr.mono (by decide)) (by rfl) M_Lpages k_Lpages b_Lpages .nil pass0 (ca_cons (ce_var (i := 1) (pv 1)) (ca_cons (ce_var (i := 6) (pv 6)) (ca_cons (ce_var (i := 3) (pv 3)) ca_nil)))))))
    (cs_one (cs_if (ct_cmp op_notN r2_isnt (ce_var (i := 7) (pv 7)) ce_non (nomark _))
    (cs_one (cs_app (ps_expr (pe_bm PySem.F.plainAttrs_list PySem.F.slot_list_append PySem.F.type_list_append mt_append (pv 4) (pa_cons (ce_tup (ca_cons (ce_cb (c2 := true) cr_len (pe_callB call_len (by rfl) m_len boot_len (ca_cons (ce_var (i := 7) (pv 7)) ca_nil))) (ca_cons (ce_ix (ce_var (i := 6) (pv 6)) (ce_neg ce_int) (fun _ _ => rfl)) (ca_cons (ce_ix (ce_var (i := 5) (pv 5)) (ce_neg ce_int) (fun _ _ => rfl)) (ca_cons (ce_call (c := true) (pe_call G_Lheights (hr.mono (by decide)) (by rfl) M_Lheights k_Lheights b_Lheights .nil pass0 (ca_cons (ce_var (i := 6) (pv 6)) ca_nil))) (ca_cons (ce_var (i := 5) (pv 5)) (ca_cons (ce_tup (ca_cons (ce_var (i := 5) (pv 5)) (ca_cons (ce_var (i := 6) (pv 6)) ca_nil))) (ca_cons (ce_var (i := 7) (pv 7)) ca_nil)))))))) pa_nil)))))
    cs_nil))))
    (cs_cons (cs_set (ps_set (i := 8) nd rfl (by first | exact Or.inl rfl | exact Or.inr rfl) (ce_call (c := true) (pe_call G_fewest_pages (hr.mono (by decide)) (by rfl) M_fewest_pages k_fewest_pages b_fewest_pages .nil pass0 (ca_cons (ce_var (i := 1) (pv 1)) (ca_cons (ce_var (i := 2) (pv 2)) (ca_cons (ce_var (i := 3) (pv 3)) ca_nil)))))))
    (cs_cons (cs_frz (i := 4) (cs_if (ct_cmp (op_eqD hr.units) r2_eq (ce_cb (c2 := true) cr_len (pe_callB call_len (by rfl) m_len boot_len (ca_cons (ce_var (i := 4) (pv 4)) ca_nil))) ce_int (nomark _))
    (cs_one (cs_ret (ce_cmp op_isN r2_is (ce_var (i := 8) (pv 8)) ce_non (nomark _))))
    cs_nil))
    (cs_cons (cs_set (ps_set (i := 9) nd rfl (by first | exact Or.inl rfl | exact Or.inr rfl) (ce_minD (pe_callB (cr_minD rfl (hu65 hr)) (by rfl) m_min (by decide +kernel) (pa_cons (ce_var (i := 4) (pv 4)) pa_nil)))))
    (cs_one (cs_ret (ce_and (ce_isi (T := "tuple") (pe_callB call_isi (by rfl) m_isinstance (by decide +kernel) (pa_cons (ce_var (i := 8) (pv 8)) (pa_cons (pe_bltn (v := .ty "tuple") (by rfl) m_tuple (by decide +kernel) rfl) pa_nil)))) (ce_one (ce_cmp (op_eqD hr.units) r2_eq (ce_var (i := 8) (pv 8)) (ce_tup (ca_cons (ce_ix (ce_var (i := 9) (pv 9)) ce_int (fun _ _ => rfl)) (ca_cons (ce_ix (ce_var (i := 9) (pv 9)) ce_int (fun _ _ => rfl)) ca_nil))) (nomark _))))))))))))))))
end
/-! ### the end -/
theorem all_mk {l : PySem.W.OpenLaw} {w : World} {K : PySem.W.Frag} {h : Heap} {mg : Str → Option Value} {fa : Addr} (X : K.In h) (G : h.Ns mainGlobals mg) (hfa : mg "law" = some (.ref fa))
    {f_inner_size : Addr} {od_inner_size an_inner_size : Option Addr} {sl_inner_size : Array (Option Value)} {oc_inner_size kV_inner_size dc_inner_size pm_inner_size cd_inner_size ct_inner_size : Value}
    (a_inner_size : PySem.W.nsIn K mainGlobals "inner_size" = some (some (.ref f_inner_size))) (l_inner_size : K.lookup f_inner_size = some ⟨oc_inner_size, od_inner_size, .func (PySem.W.fnOf "inner_size" "inner_size" (defArgs s_inner_size) (defBody s_inner_size) (defScope s_inner_size) .none kV_inner_size dc_inner_size pm_inner_size an_inner_size cd_inner_size ct_inner_size), sl_inner_size⟩) (c_inner_size : PySem.W.codeIn K cd_inner_size "inner_size" = true) (k_inner_size : PySem.W.keepIn K (.ref f_inner_size) = true)
    {f_inner_sizes : Addr} {od_inner_sizes an_inner_sizes : Option Addr} {sl_inner_sizes : Array (Option Value)} {oc_inner_sizes kV_inner_sizes dc_inner_sizes pm_inner_sizes cd_inner_sizes ct_inner_sizes : Value}
    (a_inner_sizes : PySem.W.nsIn K mainGlobals "inner_sizes" = some (some (.ref f_inner_sizes))) (l_inner_sizes : K.lookup f_inner_sizes = some ⟨oc_inner_sizes, od_inner_sizes, .func (PySem.W.fnOf "inner_sizes" "inner_sizes" (defArgs s_inner_sizes) (defBody s_inner_sizes) (defScope s_inner_sizes) .none kV_inner_sizes dc_inner_sizes pm_inner_sizes an_inner_sizes cd_inner_sizes ct_inner_sizes), sl_inner_sizes⟩) (c_inner_sizes : PySem.W.codeIn K cd_inner_sizes "inner_sizes" = true) (k_inner_sizes : PySem.W.keepIn K (.ref f_inner_sizes) = true)
    {f_lines_around : Addr} {od_lines_around an_lines_around : Option Addr} {sl_lines_around : Array (Option Value)} {oc_lines_around kV_lines_around dc_lines_around pm_lines_around cd_lines_around ct_lines_around : Value}
    (a_lines_around : PySem.W.nsIn K mainGlobals "lines_around" = some (some (.ref f_lines_around))) (l_lines_around : K.lookup f_lines_around = some ⟨oc_lines_around, od_lines_around, .func (PySem.W.fnOf "lines_around" "lines_around" (defArgs s_lines_around) (defBody s_lines_around) (defScope s_lines_around) .none kV_lines_around dc_lines_around pm_lines_around an_lines_around cd_lines_around ct_lines_around), sl_lines_around⟩) (c_lines_around : PySem.W.codeIn K cd_lines_around "lines_around" = true) (k_lines_around : PySem.W.keepIn K (.ref f_lines_around) = true)
    {f_width_of : Addr} {od_width_of an_width_of : Option Addr} {sl_width_of : Array (Option Value)} {oc_width_of kV_width_of dc_width_of pm_width_of cd_width_of ct_width_of : Value}
    (a_width_of : PySem.W.nsIn K mainGlobals "width_of" = some (some (.ref f_width_of))) (l_width_of : K.lookup f_width_of = some ⟨oc_width_of, od_width_of, .func (PySem.W.fnOf "width_of" "width_of" (defArgs s_width_of) (defBody s_width_of) (defScope s_width_of) .none kV_width_of dc_width_of pm_width_of an_width_of cd_width_of ct_width_of), sl_width_of⟩) (c_width_of : PySem.W.codeIn K cd_width_of "width_of" = true) (k_width_of : PySem.W.keepIn K (.ref f_width_of) = true)
    {f_height_of : Addr} {od_height_of an_height_of : Option Addr} {sl_height_of : Array (Option Value)} {oc_height_of kV_height_of dc_height_of pm_height_of cd_height_of ct_height_of : Value}
    (a_height_of : PySem.W.nsIn K mainGlobals "height_of" = some (some (.ref f_height_of))) (l_height_of : K.lookup f_height_of = some ⟨oc_height_of, od_height_of, .func (PySem.W.fnOf "height_of" "height_of" (defArgs s_height_of) (defBody s_height_of) (defScope s_height_of) .none kV_height_of dc_height_of pm_height_of an_height_of cd_height_of ct_height_of), sl_height_of⟩) (c_height_of : PySem.W.codeIn K cd_height_of "height_of" = true) (k_height_of : PySem.W.keepIn K (.ref f_height_of) = true)
    {f_longest : Addr} {od_longest an_longest : Option Addr} {sl_longest : Array (Option Value)} {oc_longest kV_longest dc_longest pm_longest cd_longest ct_longest : Value}
    (a_longest : PySem.W.nsIn K mainGlobals "longest" = some (some (.ref f_longest))) (l_longest : K.lookup f_longest = some ⟨oc_longest, od_longest, .func (PySem.W.fnOf "longest" "longest" (defArgs s_longest) (defBody s_longest) (defScope s_longest) .none kV_longest dc_longest pm_longest an_longest cd_longest ct_longest), sl_longest⟩) (c_longest : PySem.W.codeIn K cd_longest "longest" = true) (k_longest : PySem.W.keepIn K (.ref f_longest) = true)
    {f_length_of : Addr} {od_length_of an_length_of : Option Addr} {sl_length_of : Array (Option Value)} {oc_length_of kV_length_of dc_length_of pm_length_of cd_length_of ct_length_of : Value}
    (a_length_of : PySem.W.nsIn K mainGlobals "length_of" = some (some (.ref f_length_of))) (l_length_of : K.lookup f_length_of = some ⟨oc_length_of, od_length_of, .func (PySem.W.fnOf "length_of" "length_of" (defArgs s_length_of) (defBody s_length_of) (defScope s_length_of) .none kV_length_of dc_length_of pm_length_of an_length_of cd_length_of ct_length_of), sl_length_of⟩) (c_length_of : PySem.W.codeIn K cd_length_of "length_of" = true) (k_length_of : PySem.W.keepIn K (.ref f_length_of) = true)
    {f_wrap : Addr} {od_wrap an_wrap : Option Addr} {sl_wrap : Array (Option Value)} {oc_wrap kV_wrap dc_wrap pm_wrap cd_wrap ct_wrap : Value}
    (a_wrap : PySem.W.nsIn K mainGlobals "wrap" = some (some (.ref f_wrap))) (l_wrap : K.lookup f_wrap = some ⟨oc_wrap, od_wrap, .func (PySem.W.fnOf "wrap" "wrap" (defArgs s_wrap) (defBody s_wrap) (defScope s_wrap) .none kV_wrap dc_wrap pm_wrap an_wrap cd_wrap ct_wrap), sl_wrap⟩) (c_wrap : PySem.W.codeIn K cd_wrap "wrap" = true) (k_wrap : PySem.W.keepIn K (.ref f_wrap) = true)
    {f_line_count : Addr} {od_line_count an_line_count : Option Addr} {sl_line_count : Array (Option Value)} {oc_line_count kV_line_count dc_line_count pm_line_count cd_line_count ct_line_count : Value}
    (a_line_count : PySem.W.nsIn K mainGlobals "line_count" = some (some (.ref f_line_count))) (l_line_count : K.lookup f_line_count = some ⟨oc_line_count, od_line_count, .func (PySem.W.fnOf "line_count" "line_count" (defArgs s_line_count) (defBody s_line_count) (defScope s_line_count) .none kV_line_count dc_line_count pm_line_count an_line_count cd_line_count ct_line_count), sl_line_count⟩) (c_line_count : PySem.W.codeIn K cd_line_count "line_count" = true) (k_line_count : PySem.W.keepIn K (.ref f_line_count) = true)
    {f_narrowest : Addr} {od_narrowest an_narrowest : Option Addr} {sl_narrowest : Array (Option Value)} {oc_narrowest kV_narrowest dc_narrowest pm_narrowest cd_narrowest ct_narrowest : Value}
    (a_narrowest : PySem.W.nsIn K mainGlobals "narrowest" = some (some (.ref f_narrowest))) (l_narrowest : K.lookup f_narrowest = some ⟨oc_narrowest, od_narrowest, .func (PySem.W.fnOf "narrowest" "narrowest" (defArgs s_narrowest) (defBody s_narrowest) (defScope s_narrowest) .none kV_narrowest dc_narrowest pm_narrowest an_narrowest cd_narrowest ct_narrowest), sl_narrowest⟩) (c_narrowest : PySem.W.codeIn K cd_narrowest "narrowest" = true) (k_narrowest : PySem.W.keepIn K (.ref f_narrowest) = true)
    {f_covers_both : Addr} {od_covers_both an_covers_both : Option Addr} {sl_covers_both : Array (Option Value)} {oc_covers_both kV_covers_both dc_covers_both pm_covers_both cd_covers_both ct_covers_both : Value}
    (a_covers_both : PySem.W.nsIn K mainGlobals "covers_both" = some (some (.ref f_covers_both))) (l_covers_both : K.lookup f_covers_both = some ⟨oc_covers_both, od_covers_both, .func (PySem.W.fnOf "covers_both" "covers_both" (defArgs s_covers_both) (defBody s_covers_both) (defScope s_covers_both) .none kV_covers_both dc_covers_both pm_covers_both an_covers_both cd_covers_both ct_covers_both), sl_covers_both⟩) (c_covers_both : PySem.W.codeIn K cd_covers_both "covers_both" = true) (k_covers_both : PySem.W.keepIn K (.ref f_covers_both) = true)
    {f_head_count : Addr} {od_head_count an_head_count : Option Addr} {sl_head_count : Array (Option Value)} {oc_head_count kV_head_count dc_head_count pm_head_count cd_head_count ct_head_count : Value}
    (a_head_count : PySem.W.nsIn K mainGlobals "head_count" = some (some (.ref f_head_count))) (l_head_count : K.lookup f_head_count = some ⟨oc_head_count, od_head_count, .func (PySem.W.fnOf "head_count" "head_count" (defArgs s_head_count) (defBody s_head_count) (defScope s_head_count) .none kV_head_count dc_head_count pm_head_count an_head_count cd_head_count ct_head_count), sl_head_count⟩) (c_head_count : PySem.W.codeIn K cd_head_count "head_count" = true) (k_head_count : PySem.W.keepIn K (.ref f_head_count) = true)
    {f_breakable_rows : Addr} {od_breakable_rows an_breakable_rows : Option Addr} {sl_breakable_rows : Array (Option Value)} {oc_breakable_rows kV_breakable_rows dc_breakable_rows pm_breakable_rows cd_breakable_rows ct_breakable_rows : Value}
    (a_breakable_rows : PySem.W.nsIn K mainGlobals "breakable_rows" = some (some (.ref f_breakable_rows))) (l_breakable_rows : K.lookup f_breakable_rows = some ⟨oc_breakable_rows, od_breakable_rows, .func (PySem.W.fnOf "breakable_rows" "breakable_rows" (defArgs s_breakable_rows) (defBody s_breakable_rows) (defScope s_breakable_rows) .none kV_breakable_rows dc_breakable_rows pm_breakable_rows an_breakable_rows cd_breakable_rows ct_breakable_rows), sl_breakable_rows⟩) (c_breakable_rows : PySem.W.codeIn K cd_breakable_rows "breakable_rows" = true) (k_breakable_rows : PySem.W.keepIn K (.ref f_breakable_rows) = true)
    {f_height_of_page : Addr} {od_height_of_page an_height_of_page : Option Addr} {sl_height_of_page : Array (Option Value)} {oc_height_of_page kV_height_of_page dc_height_of_page pm_height_of_page cd_height_of_page ct_height_of_page : Value}
    (a_height_of_page : PySem.W.nsIn K mainGlobals "height_of_page" = some (some (.ref f_height_of_page))) (l_height_of_page : K.lookup f_height_of_page = some ⟨oc_height_of_page, od_height_of_page, .func (PySem.W.fnOf "height_of_page" "height_of_page" (defArgs s_height_of_page) (defBody s_height_of_page) (defScope s_height_of_page) .none kV_height_of_page dc_height_of_page pm_height_of_page an_height_of_page cd_height_of_page ct_height_of_page), sl_height_of_page⟩) (c_height_of_page : PySem.W.codeIn K cd_height_of_page "height_of_page" = true) (k_height_of_page : PySem.W.keepIn K (.ref f_height_of_page) = true)
    {f_paginate : Addr} {od_paginate an_paginate : Option Addr} {sl_paginate : Array (Option Value)} {oc_paginate kV_paginate dc_paginate pm_paginate cd_paginate ct_paginate : Value}
    (a_paginate : PySem.W.nsIn K mainGlobals "paginate" = some (some (.ref f_paginate))) (l_paginate : K.lookup f_paginate = some ⟨oc_paginate, od_paginate, .func (PySem.W.fnOf "paginate" "paginate" (defArgs s_paginate) (defBody s_paginate) (defScope s_paginate) .none kV_paginate dc_paginate pm_paginate an_paginate cd_paginate ct_paginate), sl_paginate⟩) (c_paginate : PySem.W.codeIn K cd_paginate "paginate" = true) (k_paginate : PySem.W.keepIn K (.ref f_paginate) = true)
    {f_raised : Addr} {od_raised an_raised : Option Addr} {sl_raised : Array (Option Value)} {oc_raised kV_raised dc_raised pm_raised cd_raised ct_raised : Value}
    (a_raised : PySem.W.nsIn K mainGlobals "raised" = some (some (.ref f_raised))) (l_raised : K.lookup f_raised = some ⟨oc_raised, od_raised, .func (PySem.W.fnOf "raised" "raised" (defArgs s_raised) (defBody s_raised) (defScope s_raised) .none kV_raised dc_raised pm_raised an_raised cd_raised ct_raised), sl_raised⟩) (c_raised : PySem.W.codeIn K cd_raised "raised" = true) (k_raised : PySem.W.keepIn K (.ref f_raised) = true)
    {f_least_positions : Addr} {od_least_positions an_least_positions : Option Addr} {sl_least_positions : Array (Option Value)} {oc_least_positions kV_least_positions dc_least_positions pm_least_positions cd_least_positions ct_least_positions : Value}
    (a_least_positions : PySem.W.nsIn K mainGlobals "least_positions" = some (some (.ref f_least_positions))) (l_least_positions : K.lookup f_least_positions = some ⟨oc_least_positions, od_least_positions, .func (PySem.W.fnOf "least_positions" "least_positions" (defArgs s_least_positions) (defBody s_least_positions) (defScope s_least_positions) .none kV_least_positions dc_least_positions pm_least_positions an_least_positions cd_least_positions ct_least_positions), sl_least_positions⟩) (c_least_positions : PySem.W.codeIn K cd_least_positions "least_positions" = true) (k_least_positions : PySem.W.keepIn K (.ref f_least_positions) = true)
    {f_have_room : Addr} {od_have_room an_have_room : Option Addr} {sl_have_room : Array (Option Value)} {oc_have_room kV_have_room dc_have_room pm_have_room cd_have_room ct_have_room : Value}
    (a_have_room : PySem.W.nsIn K mainGlobals "have_room" = some (some (.ref f_have_room))) (l_have_room : K.lookup f_have_room = some ⟨oc_have_room, od_have_room, .func (PySem.W.fnOf "have_room" "have_room" (defArgs s_have_room) (defBody s_have_room) (defScope s_have_room) .none kV_have_room dc_have_room pm_have_room an_have_room cd_have_room ct_have_room), sl_have_room⟩) (c_have_room : PySem.W.codeIn K cd_have_room "have_room" = true) (k_have_room : PySem.W.keepIn K (.ref f_have_room) = true)
    {f_known_constraints : Addr} {od_known_constraints an_known_constraints : Option Addr} {sl_known_constraints : Array (Option Value)} {oc_known_constraints kV_known_constraints dc_known_constraints pm_known_constraints cd_known_constraints ct_known_constraints : Value}
    (a_known_constraints : PySem.W.nsIn K mainGlobals "known_constraints" = some (some (.ref f_known_constraints))) (l_known_constraints : K.lookup f_known_constraints = some ⟨oc_known_constraints, od_known_constraints, .func (PySem.W.fnOf "known_constraints" "known_constraints" (defArgs s_known_constraints) (defBody s_known_constraints) (defScope s_known_constraints) .none kV_known_constraints dc_known_constraints pm_known_constraints an_known_constraints cd_known_constraints ct_known_constraints), sl_known_constraints⟩) (c_known_constraints : PySem.W.codeIn K cd_known_constraints "known_constraints" = true) (k_known_constraints : PySem.W.keepIn K (.ref f_known_constraints) = true)
    {f_share_constraints : Addr} {od_share_constraints an_share_constraints : Option Addr} {sl_share_constraints : Array (Option Value)} {oc_share_constraints kV_share_constraints dc_share_constraints pm_share_constraints cd_share_constraints ct_share_constraints : Value}
    (a_share_constraints : PySem.W.nsIn K mainGlobals "share_constraints" = some (some (.ref f_share_constraints))) (l_share_constraints : K.lookup f_share_constraints = some ⟨oc_share_constraints, od_share_constraints, .func (PySem.W.fnOf "share_constraints" "share_constraints" (defArgs s_share_constraints) (defBody s_share_constraints) (defScope s_share_constraints) .none kV_share_constraints dc_share_constraints pm_share_constraints an_share_constraints cd_share_constraints ct_share_constraints), sl_share_constraints⟩) (c_share_constraints : PySem.W.codeIn K cd_share_constraints "share_constraints" = true) (k_share_constraints : PySem.W.keepIn K (.ref f_share_constraints) = true)
    {f_column_lines_for : Addr} {od_column_lines_for an_column_lines_for : Option Addr} {sl_column_lines_for : Array (Option Value)} {oc_column_lines_for kV_column_lines_for dc_column_lines_for pm_column_lines_for cd_column_lines_for ct_column_lines_for : Value}
    (a_column_lines_for : PySem.W.nsIn K mainGlobals "column_lines_for" = some (some (.ref f_column_lines_for))) (l_column_lines_for : K.lookup f_column_lines_for = some ⟨oc_column_lines_for, od_column_lines_for, .func (PySem.W.fnOf "column_lines_for" "column_lines_for" (defArgs s_column_lines_for) (defBody s_column_lines_for) (defScope s_column_lines_for) .none kV_column_lines_for dc_column_lines_for pm_column_lines_for an_column_lines_for cd_column_lines_for ct_column_lines_for), sl_column_lines_for⟩) (c_column_lines_for : PySem.W.codeIn K cd_column_lines_for "column_lines_for" = true) (k_column_lines_for : PySem.W.keepIn K (.ref f_column_lines_for) = true)
    {f_greatest_heights : Addr} {od_greatest_heights an_greatest_heights : Option Addr} {sl_greatest_heights : Array (Option Value)} {oc_greatest_heights kV_greatest_heights dc_greatest_heights pm_greatest_heights cd_greatest_heights ct_greatest_heights : Value}
    (a_greatest_heights : PySem.W.nsIn K mainGlobals "greatest_heights" = some (some (.ref f_greatest_heights))) (l_greatest_heights : K.lookup f_greatest_heights = some ⟨oc_greatest_heights, od_greatest_heights, .func (PySem.W.fnOf "greatest_heights" "greatest_heights" (defArgs s_greatest_heights) (defBody s_greatest_heights) (defScope s_greatest_heights) .none kV_greatest_heights dc_greatest_heights pm_greatest_heights an_greatest_heights cd_greatest_heights ct_greatest_heights), sl_greatest_heights⟩) (c_greatest_heights : PySem.W.codeIn K cd_greatest_heights "greatest_heights" = true) (k_greatest_heights : PySem.W.keepIn K (.ref f_greatest_heights) = true)
    {f_heights_to_try : Addr} {od_heights_to_try an_heights_to_try : Option Addr} {sl_heights_to_try : Array (Option Value)} {oc_heights_to_try kV_heights_to_try dc_heights_to_try pm_heights_to_try cd_heights_to_try ct_heights_to_try : Value}
    (a_heights_to_try : PySem.W.nsIn K mainGlobals "heights_to_try" = some (some (.ref f_heights_to_try))) (l_heights_to_try : K.lookup f_heights_to_try = some ⟨oc_heights_to_try, od_heights_to_try, .func (PySem.W.fnOf "heights_to_try" "heights_to_try" (defArgs s_heights_to_try) (defBody s_heights_to_try) (defScope s_heights_to_try) .none kV_heights_to_try dc_heights_to_try pm_heights_to_try an_heights_to_try cd_heights_to_try ct_heights_to_try), sl_heights_to_try⟩) (c_heights_to_try : PySem.W.codeIn K cd_heights_to_try "heights_to_try" = true) (k_heights_to_try : PySem.W.keepIn K (.ref f_heights_to_try) = true)
    {f_least_layouts : Addr} {od_least_layouts an_least_layouts : Option Addr} {sl_least_layouts : Array (Option Value)} {oc_least_layouts kV_least_layouts dc_least_layouts pm_least_layouts cd_least_layouts ct_least_layouts : Value}
    (a_least_layouts : PySem.W.nsIn K mainGlobals "least_layouts" = some (some (.ref f_least_layouts))) (l_least_layouts : K.lookup f_least_layouts = some ⟨oc_least_layouts, od_least_layouts, .func (PySem.W.fnOf "least_layouts" "least_layouts" (defArgs s_least_layouts) (defBody s_least_layouts) (defScope s_least_layouts) .none kV_least_layouts dc_least_layouts pm_least_layouts an_least_layouts cd_least_layouts ct_least_layouts), sl_least_layouts⟩) (c_least_layouts : PySem.W.codeIn K cd_least_layouts "least_layouts" = true) (k_least_layouts : PySem.W.keepIn K (.ref f_least_layouts) = true)
    {f_by_pages : Addr} {od_by_pages an_by_pages : Option Addr} {sl_by_pages : Array (Option Value)} {oc_by_pages kV_by_pages dc_by_pages pm_by_pages cd_by_pages ct_by_pages : Value}
    (a_by_pages : PySem.W.nsIn K mainGlobals "by_pages" = some (some (.ref f_by_pages))) (l_by_pages : K.lookup f_by_pages = some ⟨oc_by_pages, od_by_pages, .func (PySem.W.fnOf "by_pages" "by_pages" (defArgs s_by_pages) (defBody s_by_pages) (defScope s_by_pages) .none kV_by_pages dc_by_pages pm_by_pages an_by_pages cd_by_pages ct_by_pages), sl_by_pages⟩) (c_by_pages : PySem.W.codeIn K cd_by_pages "by_pages" = true) (k_by_pages : PySem.W.keepIn K (.ref f_by_pages) = true)
    {f_fewest_of : Addr} {od_fewest_of an_fewest_of : Option Addr} {sl_fewest_of : Array (Option Value)} {oc_fewest_of kV_fewest_of dc_fewest_of pm_fewest_of cd_fewest_of ct_fewest_of : Value}
    (a_fewest_of : PySem.W.nsIn K mainGlobals "fewest_of" = some (some (.ref f_fewest_of))) (l_fewest_of : K.lookup f_fewest_of = some ⟨oc_fewest_of, od_fewest_of, .func (PySem.W.fnOf "fewest_of" "fewest_of" (defArgs s_fewest_of) (defBody s_fewest_of) (defScope s_fewest_of) .none kV_fewest_of dc_fewest_of pm_fewest_of an_fewest_of cd_fewest_of ct_fewest_of), sl_fewest_of⟩) (c_fewest_of : PySem.W.codeIn K cd_fewest_of "fewest_of" = true) (k_fewest_of : PySem.W.keepIn K (.ref f_fewest_of) = true)
    {f_fewest_pages : Addr} {od_fewest_pages an_fewest_pages : Option Addr} {sl_fewest_pages : Array (Option Value)} {oc_fewest_pages kV_fewest_pages dc_fewest_pages pm_fewest_pages cd_fewest_pages ct_fewest_pages : Value}
    (a_fewest_pages : PySem.W.nsIn K mainGlobals "fewest_pages" = some (some (.ref f_fewest_pages))) (l_fewest_pages : K.lookup f_fewest_pages = some ⟨oc_fewest_pages, od_fewest_pages, .func (PySem.W.fnOf "fewest_pages" "fewest_pages" (defArgs s_fewest_pages) (defBody s_fewest_pages) (defScope s_fewest_pages) .none kV_fewest_pages dc_fewest_pages pm_fewest_pages an_fewest_pages cd_fewest_pages ct_fewest_pages), sl_fewest_pages⟩) (c_fewest_pages : PySem.W.codeIn K cd_fewest_pages "fewest_pages" = true) (k_fewest_pages : PySem.W.keepIn K (.ref f_fewest_pages) = true)
    {f_Lcell : Addr} {od_Lcell an_Lcell : Option Addr} {sl_Lcell : Array (Option Value)} {oc_Lcell kV_Lcell dc_Lcell pm_Lcell cd_Lcell ct_Lcell : Value}
    (a_Lcell : PySem.W.nsIn K mainGlobals "_law_cell" = some (some (.ref f_Lcell))) (l_Lcell : K.lookup f_Lcell = some ⟨oc_Lcell, od_Lcell, .func (PySem.W.fnOf "_law_cell" "_law_cell" (defArgs s_Lcell) (defBody s_Lcell) (defScope s_Lcell) .none kV_Lcell dc_Lcell pm_Lcell an_Lcell cd_Lcell ct_Lcell), sl_Lcell⟩) (c_Lcell : PySem.W.codeIn K cd_Lcell "_law_cell" = true) (k_Lcell : PySem.W.keepIn K (.ref f_Lcell) = true)
    {f_Ldraws : Addr} {od_Ldraws an_Ldraws : Option Addr} {sl_Ldraws : Array (Option Value)} {oc_Ldraws kV_Ldraws dc_Ldraws pm_Ldraws cd_Ldraws ct_Ldraws : Value}
    (a_Ldraws : PySem.W.nsIn K mainGlobals "_law_draws" = some (some (.ref f_Ldraws))) (l_Ldraws : K.lookup f_Ldraws = some ⟨oc_Ldraws, od_Ldraws, .func (PySem.W.fnOf "_law_draws" "_law_draws" (defArgs s_Ldraws) (defBody s_Ldraws) (defScope s_Ldraws) .none kV_Ldraws dc_Ldraws pm_Ldraws an_Ldraws cd_Ldraws ct_Ldraws), sl_Ldraws⟩) (c_Ldraws : PySem.W.codeIn K cd_Ldraws "_law_draws" = true) (k_Ldraws : PySem.W.keepIn K (.ref f_Ldraws) = true)
    {f_Lwords : Addr} {od_Lwords an_Lwords : Option Addr} {sl_Lwords : Array (Option Value)} {oc_Lwords kV_Lwords dc_Lwords pm_Lwords cd_Lwords ct_Lwords : Value}
    (a_Lwords : PySem.W.nsIn K mainGlobals "_law_words" = some (some (.ref f_Lwords))) (l_Lwords : K.lookup f_Lwords = some ⟨oc_Lwords, od_Lwords, .func (PySem.W.fnOf "_law_words" "_law_words" (defArgs s_Lwords) (defBody s_Lwords) (defScope s_Lwords) .none kV_Lwords dc_Lwords pm_Lwords an_Lwords cd_Lwords ct_Lwords), sl_Lwords⟩) (c_Lwords : PySem.W.codeIn K cd_Lwords "_law_words" = true) (k_Lwords : PySem.W.keepIn K (.ref f_Lwords) = true)
    {f_Lspan : Addr} {od_Lspan an_Lspan : Option Addr} {sl_Lspan : Array (Option Value)} {oc_Lspan kV_Lspan dc_Lspan pm_Lspan cd_Lspan ct_Lspan : Value}
    (a_Lspan : PySem.W.nsIn K mainGlobals "_law_span" = some (some (.ref f_Lspan))) (l_Lspan : K.lookup f_Lspan = some ⟨oc_Lspan, od_Lspan, .func (PySem.W.fnOf "_law_span" "_law_span" (defArgs s_Lspan) (defBody s_Lspan) (defScope s_Lspan) .none kV_Lspan dc_Lspan pm_Lspan an_Lspan cd_Lspan ct_Lspan), sl_Lspan⟩) (c_Lspan : PySem.W.codeIn K cd_Lspan "_law_span" = true) (k_Lspan : PySem.W.keepIn K (.ref f_Lspan) = true)
    {f_Lcells : Addr} {od_Lcells an_Lcells : Option Addr} {sl_Lcells : Array (Option Value)} {oc_Lcells kV_Lcells dc_Lcells pm_Lcells cd_Lcells ct_Lcells : Value}
    (a_Lcells : PySem.W.nsIn K mainGlobals "_law_cells" = some (some (.ref f_Lcells))) (l_Lcells : K.lookup f_Lcells = some ⟨oc_Lcells, od_Lcells, .func (PySem.W.fnOf "_law_cells" "_law_cells" (defArgs s_Lcells) (defBody s_Lcells) (defScope s_Lcells) .none kV_Lcells dc_Lcells pm_Lcells an_Lcells cd_Lcells ct_Lcells), sl_Lcells⟩) (c_Lcells : PySem.W.codeIn K cd_Lcells "_law_cells" = true) (k_Lcells : PySem.W.keepIn K (.ref f_Lcells) = true)
    {f_Ltable : Addr} {od_Ltable an_Ltable : Option Addr} {sl_Ltable : Array (Option Value)} {oc_Ltable kV_Ltable dc_Ltable pm_Ltable cd_Ltable ct_Ltable : Value}
    (a_Ltable : PySem.W.nsIn K mainGlobals "_law_table" = some (some (.ref f_Ltable))) (l_Ltable : K.lookup f_Ltable = some ⟨oc_Ltable, od_Ltable, .func (PySem.W.fnOf "_law_table" "_law_table" (defArgs s_Ltable) (defBody s_Ltable) (defScope s_Ltable) .none kV_Ltable dc_Ltable pm_Ltable an_Ltable cd_Ltable ct_Ltable), sl_Ltable⟩) (c_Ltable : PySem.W.codeIn K cd_Ltable "_law_table" = true) (k_Ltable : PySem.W.keepIn K (.ref f_Ltable) = true)
    {f_Lline_count : Addr} {od_Lline_count an_Lline_count : Option Addr} {sl_Lline_count : Array (Option Value)} {oc_Lline_count kV_Lline_count dc_Lline_count pm_Lline_count cd_Lline_count ct_Lline_count : Value}
    (a_Lline_count : PySem.W.nsIn K mainGlobals "_law_line_count" = some (some (.ref f_Lline_count))) (l_Lline_count : K.lookup f_Lline_count = some ⟨oc_Lline_count, od_Lline_count, .func (PySem.W.fnOf "_law_line_count" "_law_line_count" (defArgs s_Lline_count) (defBody s_Lline_count) (defScope s_Lline_count) .none kV_Lline_count dc_Lline_count pm_Lline_count an_Lline_count cd_Lline_count ct_Lline_count), sl_Lline_count⟩) (c_Lline_count : PySem.W.codeIn K cd_Lline_count "_law_line_count" = true) (k_Lline_count : PySem.W.keepIn K (.ref f_Lline_count) = true)
    {f_Linner : Addr} {od_Linner an_Linner : Option Addr} {sl_Linner : Array (Option Value)} {oc_Linner kV_Linner dc_Linner pm_Linner cd_Linner ct_Linner : Value}
    (a_Linner : PySem.W.nsIn K mainGlobals "_law_inner" = some (some (.ref f_Linner))) (l_Linner : K.lookup f_Linner = some ⟨oc_Linner, od_Linner, .func (PySem.W.fnOf "_law_inner" "_law_inner" (defArgs s_Linner) (defBody s_Linner) (defScope s_Linner) .none kV_Linner dc_Linner pm_Linner an_Linner cd_Linner ct_Linner), sl_Linner⟩) (c_Linner : PySem.W.codeIn K cd_Linner "_law_inner" = true) (k_Linner : PySem.W.keepIn K (.ref f_Linner) = true)
    {f_Lcolumns_right : Addr} {od_Lcolumns_right an_Lcolumns_right : Option Addr} {sl_Lcolumns_right : Array (Option Value)} {oc_Lcolumns_right kV_Lcolumns_right dc_Lcolumns_right pm_Lcolumns_right cd_Lcolumns_right ct_Lcolumns_right : Value}
    (a_Lcolumns_right : PySem.W.nsIn K mainGlobals "_law_columns_right" = some (some (.ref f_Lcolumns_right))) (l_Lcolumns_right : K.lookup f_Lcolumns_right = some ⟨oc_Lcolumns_right, od_Lcolumns_right, .func (PySem.W.fnOf "_law_columns_right" "_law_columns_right" (defArgs s_Lcolumns_right) (defBody s_Lcolumns_right) (defScope s_Lcolumns_right) .none kV_Lcolumns_right dc_Lcolumns_right pm_Lcolumns_right an_Lcolumns_right cd_Lcolumns_right ct_Lcolumns_right), sl_Lcolumns_right⟩) (c_Lcolumns_right : PySem.W.codeIn K cd_Lcolumns_right "_law_columns_right" = true) (k_Lcolumns_right : PySem.W.keepIn K (.ref f_Lcolumns_right) = true)
    {f_Lcells_right : Addr} {od_Lcells_right an_Lcells_right : Option Addr} {sl_Lcells_right : Array (Option Value)} {oc_Lcells_right kV_Lcells_right dc_Lcells_right pm_Lcells_right cd_Lcells_right ct_Lcells_right : Value}
    (a_Lcells_right : PySem.W.nsIn K mainGlobals "_law_cells_right" = some (some (.ref f_Lcells_right))) (l_Lcells_right : K.lookup f_Lcells_right = some ⟨oc_Lcells_right, od_Lcells_right, .func (PySem.W.fnOf "_law_cells_right" "_law_cells_right" (defArgs s_Lcells_right) (defBody s_Lcells_right) (defScope s_Lcells_right) .none kV_Lcells_right dc_Lcells_right pm_Lcells_right an_Lcells_right cd_Lcells_right ct_Lcells_right), sl_Lcells_right⟩) (c_Lcells_right : PySem.W.codeIn K cd_Lcells_right "_law_cells_right" = true) (k_Lcells_right : PySem.W.keepIn K (.ref f_Lcells_right) = true)
    {f_Lrows_right : Addr} {od_Lrows_right an_Lrows_right : Option Addr} {sl_Lrows_right : Array (Option Value)} {oc_Lrows_right kV_Lrows_right dc_Lrows_right pm_Lrows_right cd_Lrows_right ct_Lrows_right : Value}
    (a_Lrows_right : PySem.W.nsIn K mainGlobals "_law_rows_right" = some (some (.ref f_Lrows_right))) (l_Lrows_right : K.lookup f_Lrows_right = some ⟨oc_Lrows_right, od_Lrows_right, .func (PySem.W.fnOf "_law_rows_right" "_law_rows_right" (defArgs s_Lrows_right) (defBody s_Lrows_right) (defScope s_Lrows_right) .none kV_Lrows_right dc_Lrows_right pm_Lrows_right an_Lrows_right cd_Lrows_right ct_Lrows_right), sl_Lrows_right⟩) (c_Lrows_right : PySem.W.codeIn K cd_Lrows_right "_law_rows_right" = true) (k_Lrows_right : PySem.W.keepIn K (.ref f_Lrows_right) = true)
    {f_Lrising : Addr} {od_Lrising an_Lrising : Option Addr} {sl_Lrising : Array (Option Value)} {oc_Lrising kV_Lrising dc_Lrising pm_Lrising cd_Lrising ct_Lrising : Value}
    (a_Lrising : PySem.W.nsIn K mainGlobals "_law_rising" = some (some (.ref f_Lrising))) (l_Lrising : K.lookup f_Lrising = some ⟨oc_Lrising, od_Lrising, .func (PySem.W.fnOf "_law_rising" "_law_rising" (defArgs s_Lrising) (defBody s_Lrising) (defScope s_Lrising) .none kV_Lrising dc_Lrising pm_Lrising an_Lrising cd_Lrising ct_Lrising), sl_Lrising⟩) (c_Lrising : PySem.W.codeIn K cd_Lrising "_law_rising" = true) (k_Lrising : PySem.W.keepIn K (.ref f_Lrising) = true)
    {f_Llayouts : Addr} {od_Llayouts an_Llayouts : Option Addr} {sl_Llayouts : Array (Option Value)} {oc_Llayouts kV_Llayouts dc_Llayouts pm_Llayouts cd_Llayouts ct_Llayouts : Value}
    (a_Llayouts : PySem.W.nsIn K mainGlobals "_law_layouts" = some (some (.ref f_Llayouts))) (l_Llayouts : K.lookup f_Llayouts = some ⟨oc_Llayouts, od_Llayouts, .func (PySem.W.fnOf "_law_layouts" "_law_layouts" (defArgs s_Llayouts) (defBody s_Llayouts) (defScope s_Llayouts) .none kV_Llayouts dc_Llayouts pm_Llayouts an_Llayouts cd_Llayouts ct_Llayouts), sl_Llayouts⟩) (c_Llayouts : PySem.W.codeIn K cd_Llayouts "_law_layouts" = true) (k_Llayouts : PySem.W.keepIn K (.ref f_Llayouts) = true)
    {f_Lheights : Addr} {od_Lheights an_Lheights : Option Addr} {sl_Lheights : Array (Option Value)} {oc_Lheights kV_Lheights dc_Lheights pm_Lheights cd_Lheights ct_Lheights : Value}
    (a_Lheights : PySem.W.nsIn K mainGlobals "_law_heights" = some (some (.ref f_Lheights))) (l_Lheights : K.lookup f_Lheights = some ⟨oc_Lheights, od_Lheights, .func (PySem.W.fnOf "_law_heights" "_law_heights" (defArgs s_Lheights) (defBody s_Lheights) (defScope s_Lheights) .none kV_Lheights dc_Lheights pm_Lheights an_Lheights cd_Lheights ct_Lheights), sl_Lheights⟩) (c_Lheights : PySem.W.codeIn K cd_Lheights "_law_heights" = true) (k_Lheights : PySem.W.keepIn K (.ref f_Lheights) = true)
    {f_Lpages : Addr} {od_Lpages an_Lpages : Option Addr} {sl_Lpages : Array (Option Value)} {oc_Lpages kV_Lpages dc_Lpages pm_Lpages cd_Lpages ct_Lpages : Value}
    (a_Lpages : PySem.W.nsIn K mainGlobals "_law_pages" = some (some (.ref f_Lpages))) (l_Lpages : K.lookup f_Lpages = some ⟨oc_Lpages, od_Lpages, .func (PySem.W.fnOf "_law_pages" "_law_pages" (defArgs s_Lpages) (defBody s_Lpages) (defScope s_Lpages) .none kV_Lpages dc_Lpages pm_Lpages an_Lpages cd_Lpages ct_Lpages), sl_Lpages⟩) (c_Lpages : PySem.W.codeIn K cd_Lpages "_law_pages" = true) (k_Lpages : PySem.W.keepIn K (.ref f_Lpages) = true)
    {f_Lother_table : Addr} {od_Lother_table an_Lother_table : Option Addr} {sl_Lother_table : Array (Option Value)} {oc_Lother_table kV_Lother_table dc_Lother_table pm_Lother_table cd_Lother_table ct_Lother_table : Value}
    (a_Lother_table : PySem.W.nsIn K mainGlobals "_law_other_table" = some (some (.ref f_Lother_table))) (l_Lother_table : K.lookup f_Lother_table = some ⟨oc_Lother_table, od_Lother_table, .func (PySem.W.fnOf "_law_other_table" "_law_other_table" (defArgs s_Lother_table) (defBody s_Lother_table) (defScope s_Lother_table) .none kV_Lother_table dc_Lother_table pm_Lother_table an_Lother_table cd_Lother_table ct_Lother_table), sl_Lother_table⟩) (c_Lother_table : PySem.W.codeIn K cd_Lother_table "_law_other_table" = true) (k_Lother_table : PySem.W.keepIn K (.ref f_Lother_table) = true)
    {f_law : Addr} {od_law an_law : Option Addr} {sl_law : Array (Option Value)} {oc_law kV_law dc_law pm_law cd_law ct_law : Value}
    (a_law : PySem.W.nsIn K mainGlobals "law" = some (some (.ref f_law))) (l_law : K.lookup f_law = some ⟨oc_law, od_law, .func (PySem.W.fnOf "law" "law" (defArgs s_law) (defBody s_law) (defScope s_law) .none kV_law dc_law pm_law an_law cd_law ct_law), sl_law⟩) (c_law : PySem.W.codeIn K cd_law "law" = true) (k_law : PySem.W.keepIn K (.ref f_law) = true)
    (z_len : PySem.W.nsIn K mainGlobals "len" = some none)
    (z_range : PySem.W.nsIn K mainGlobals "range" = some none)
    (z_tuple : PySem.W.nsIn K mainGlobals "tuple" = some none)
    (z_max : PySem.W.nsIn K mainGlobals "max" = some none)
    (z_any : PySem.W.nsIn K mainGlobals "any" = some none)
    (z_list : PySem.W.nsIn K mainGlobals "list" = some none)
    (z_zip : PySem.W.nsIn K mainGlobals "zip" = some none)
    (z_all : PySem.W.nsIn K mainGlobals "all" = some none)
    (z_enumerate : PySem.W.nsIn K mainGlobals "enumerate" = some none)
    (z_sum : PySem.W.nsIn K mainGlobals "sum" = some none)
    (z_min : PySem.W.nsIn K mainGlobals "min" = some none)
    (z_isinstance : PySem.W.nsIn K mainGlobals "isinstance" = some none)
    (y_LAST_LINE : PySem.W.nsIn K mainGlobals "LAST_LINE" = some (some (.int 2000 t_LAST_LINE)))
    : ∃ fd : FuncData, (∀ (s : Shared) (v : Value), BindsTo s fd ⟨[v], []⟩ [("script", v)]) ∧ ∀ base : Heap, K.In base → base.Ns mainGlobals mg → FnOk l.prog w K mg base CX0 9 fa fd ["script"] (spF K g_law) := by
  have e := hfa.symm.trans (PySem.W.mg_of X G a_law)
  cases e
  have F_inner_size := fun_mk (st := s_inner_size) l_inner_size c_inner_size k_inner_size
  have b_inner_size := F_inner_size.binds (ps := ["lines", "first", "span"]) fun _ _ _ _ _ _ us hl => match us, hl with | [_, _, _], _ => rfl
  have F_inner_sizes := fun_mk (st := s_inner_sizes) l_inner_sizes c_inner_sizes k_inner_sizes
  have b_inner_sizes := F_inner_sizes.binds (ps := ["lines"]) fun _ _ _ _ _ _ us hl => match us, hl with | [_], _ => rfl
  have F_lines_around := fun_mk (st := s_lines_around) l_lines_around c_lines_around k_lines_around
  have b_lines_around := F_lines_around.binds (ps := ["sizes"]) fun _ _ _ _ _ _ us hl => match us, hl with | [_], _ => rfl
  have F_width_of := fun_mk (st := s_width_of) l_width_of c_width_of k_width_of
  have b_width_of := F_width_of.binds (ps := ["layout"]) fun _ _ _ _ _ _ us hl => match us, hl with | [_], _ => rfl
  have F_height_of := fun_mk (st := s_height_of) l_height_of c_height_of k_height_of
  have b_height_of := F_height_of.binds (ps := ["layout"]) fun _ _ _ _ _ _ us hl => match us, hl with | [_], _ => rfl
  have F_longest := fun_mk (st := s_longest) l_longest c_longest k_longest
  have b_longest := F_longest.binds (ps := ["words"]) fun _ _ _ _ _ _ us hl => match us, hl with | [_], _ => rfl
  have F_length_of := fun_mk (st := s_length_of) l_length_of c_length_of k_length_of
  have b_length_of := F_length_of.binds (ps := ["words"]) fun _ _ _ _ _ _ us hl => match us, hl with | [_], _ => rfl
  have F_wrap := fun_mk (st := s_wrap) l_wrap c_wrap k_wrap
  have b_wrap := F_wrap.binds (ps := ["words", "width"]) fun _ _ _ _ _ _ us hl => match us, hl with | [_, _], _ => rfl
  have F_line_count := fun_mk (st := s_line_count) l_line_count c_line_count k_line_count
  have b_line_count := F_line_count.binds (ps := ["words", "width"]) fun _ _ _ _ _ _ us hl => match us, hl with | [_, _], _ => rfl
  have F_narrowest := fun_mk (st := s_narrowest) l_narrowest c_narrowest k_narrowest
  have b_narrowest := F_narrowest.binds (ps := ["words", "lines"]) fun _ _ _ _ _ _ us hl => match us, hl with | [_, _], _ => rfl
  have F_covers_both := fun_mk (st := s_covers_both) l_covers_both c_covers_both k_covers_both
  have b_covers_both := F_covers_both.binds (ps := ["cell", "row"]) fun _ _ _ _ _ _ us hl => match us, hl with | [_, _], _ => rfl
  have F_head_count := fun_mk (st := s_head_count) l_head_count c_head_count k_head_count
  have b_head_count := F_head_count.binds (ps := ["table"]) fun _ _ _ _ _ _ us hl => match us, hl with | [_], _ => rfl
  have F_breakable_rows := fun_mk (st := s_breakable_rows) l_breakable_rows c_breakable_rows k_breakable_rows
  have b_breakable_rows := F_breakable_rows.binds (ps := ["table"]) fun _ _ _ _ _ _ us hl => match us, hl with | [_], _ => rfl
  have F_height_of_page := fun_mk (st := s_height_of_page) l_height_of_page c_height_of_page k_height_of_page
  have b_height_of_page := F_height_of_page.binds (ps := ["row_lines", "head", "first", "behind"]) fun _ _ _ _ _ _ us hl => match us, hl with | [_, _, _, _], _ => rfl
  have F_paginate := fun_mk (st := s_paginate) l_paginate c_paginate k_paginate
  have b_paginate := F_paginate.binds (ps := ["table", "row_lines", "page_height"]) fun _ _ _ _ _ _ us hl => match us, hl with | [_, _, _], _ => rfl
  have F_raised := fun_mk (st := s_raised) l_raised c_raised k_raised
  have b_raised := F_raised.binds (ps := ["positions", "constraints"]) fun _ _ _ _ _ _ us hl => match us, hl with | [_, _], _ => rfl
  have F_least_positions := fun_mk (st := s_least_positions) l_least_positions c_least_positions k_least_positions
  have b_least_positions := F_least_positions.binds (ps := ["count", "constraints"]) fun _ _ _ _ _ _ us hl => match us, hl with | [_, _], _ => rfl
  have F_have_room := fun_mk (st := s_have_room) l_have_room c_have_room k_have_room
  have b_have_room := F_have_room.binds (ps := ["rows", "heights"]) fun _ _ _ _ _ _ us hl => match us, hl with | [_, _], _ => rfl
  have F_known_constraints := fun_mk (st := s_known_constraints) l_known_constraints c_known_constraints k_known_constraints
  have b_known_constraints := F_known_constraints.binds (ps := ["table", "heights"]) fun _ _ _ _ _ _ us hl => match us, hl with | [_, _], _ => rfl
  have F_share_constraints := fun_mk (st := s_share_constraints) l_share_constraints c_share_constraints k_share_constraints
  have b_share_constraints := F_share_constraints.binds (ps := ["columns", "last"]) fun _ _ _ _ _ _ us hl => match us, hl with | [_, _], _ => rfl
  have F_column_lines_for := fun_mk (st := s_column_lines_for) l_column_lines_for c_column_lines_for k_column_lines_for
  have b_column_lines_for := F_column_lines_for.binds (ps := ["table", "heights"]) fun _ _ _ _ _ _ us hl => match us, hl with | [_, _], _ => rfl
  have F_greatest_heights := fun_mk (st := s_greatest_heights) l_greatest_heights c_greatest_heights k_greatest_heights
  have b_greatest_heights := F_greatest_heights.binds (ps := ["table"]) fun _ _ _ _ _ _ us hl => match us, hl with | [_], _ => rfl
  have F_heights_to_try := fun_mk (st := s_heights_to_try) l_heights_to_try c_heights_to_try k_heights_to_try
  have b_heights_to_try := F_heights_to_try.binds (ps := ["table"]) fun _ _ _ _ _ _ us hl => match us, hl with | [_], _ => rfl
  have F_least_layouts := fun_mk (st := s_least_layouts) l_least_layouts c_least_layouts k_least_layouts
  have b_least_layouts := F_least_layouts.binds (ps := ["table"]) fun _ _ _ _ _ _ us hl => match us, hl with | [_], _ => rfl
  have F_by_pages := fun_mk (st := s_by_pages) l_by_pages c_by_pages k_by_pages
  have b_by_pages := F_by_pages.binds (ps := ["division"]) fun _ _ _ _ _ _ us hl => match us, hl with | [_], _ => rfl
  have F_fewest_of := fun_mk (st := s_fewest_of) l_fewest_of c_fewest_of k_fewest_of
  have b_fewest_of := F_fewest_of.binds (ps := ["table", "layouts", "max_width", "page_height"]) fun _ _ _ _ _ _ us hl => match us, hl with | [_, _, _, _], _ => rfl
  have F_fewest_pages := fun_mk (st := s_fewest_pages) l_fewest_pages c_fewest_pages k_fewest_pages
  have b_fewest_pages := F_fewest_pages.binds (ps := ["table", "max_width", "page_height"]) fun _ _ _ _ _ _ us hl => match us, hl with | [_, _, _], _ => rfl
  have F_Lcell := fun_mk (st := s_Lcell) l_Lcell c_Lcell k_Lcell
  have b_Lcell := F_Lcell.binds (ps := ["script", "k"]) fun _ _ _ _ _ _ us hl => match us, hl with | [_, _], _ => rfl
  have F_Ldraws := fun_mk (st := s_Ldraws) l_Ldraws c_Ldraws k_Ldraws
  have b_Ldraws := F_Ldraws.binds (ps := ["cell", "count"]) fun _ _ _ _ _ _ us hl => match us, hl with | [_, _], _ => rfl
  have F_Lwords := fun_mk (st := s_Lwords) l_Lwords c_Lwords k_Lwords
  have b_Lwords := F_Lwords.binds (ps := ["number"]) fun _ _ _ _ _ _ us hl => match us, hl with | [_], _ => rfl
  have F_Lspan := fun_mk (st := s_Lspan) l_Lspan c_Lspan k_Lspan
  have b_Lspan := F_Lspan.binds (ps := ["covered", "row", "column", "extent", "number"]) fun _ _ _ _ _ _ us hl => match us, hl with | [_, _, _, _, _], _ => rfl
  have F_Lcells := fun_mk (st := s_Lcells) l_Lcells c_Lcells k_Lcells
  have b_Lcells := F_Lcells.binds (ps := ["extent", "draws"]) fun _ _ _ _ _ _ us hl => match us, hl with | [_, _], _ => rfl
  have F_Ltable := fun_mk (st := s_Ltable) l_Ltable c_Ltable k_Ltable
  have b_Ltable := F_Ltable.binds (ps := ["script", "at", "most_columns", "most_rows"]) fun _ _ _ _ _ _ us hl => match us, hl with | [_, _, _, _], _ => rfl
  have F_Lline_count := fun_mk (st := s_Lline_count) l_Lline_count c_Lline_count k_Lline_count
  have b_Lline_count := F_Lline_count.binds (ps := ["words", "width"]) fun _ _ _ _ _ _ us hl => match us, hl with | [_, _], _ => rfl
  have F_Linner := fun_mk (st := s_Linner) l_Linner c_Linner k_Linner
  have b_Linner := F_Linner.binds (ps := ["lines", "first", "count"]) fun _ _ _ _ _ _ us hl => match us, hl with | [_, _, _], _ => rfl
  have F_Lcolumns_right := fun_mk (st := s_Lcolumns_right) l_Lcolumns_right c_Lcolumns_right k_Lcolumns_right
  have b_Lcolumns_right := F_Lcolumns_right.binds (ps := ["table", "xs"]) fun _ _ _ _ _ _ us hl => match us, hl with | [_, _], _ => rfl
  have F_Lcells_right := fun_mk (st := s_Lcells_right) l_Lcells_right c_Lcells_right k_Lcells_right
  have b_Lcells_right := F_Lcells_right.binds (ps := ["table", "xs", "ys"]) fun _ _ _ _ _ _ us hl => match us, hl with | [_, _, _], _ => rfl
  have F_Lrows_right := fun_mk (st := s_Lrows_right) l_Lrows_right c_Lrows_right k_Lrows_right
  have b_Lrows_right := F_Lrows_right.binds (ps := ["table", "ys"]) fun _ _ _ _ _ _ us hl => match us, hl with | [_, _], _ => rfl
  have F_Lrising := fun_mk (st := s_Lrising) l_Lrising c_Lrising k_Lrising
  have b_Lrising := F_Lrising.binds (ps := ["count", "most"]) fun _ _ _ _ _ _ us hl => match us, hl with | [_, _], _ => rfl
  have F_Llayouts := fun_mk (st := s_Llayouts) l_Llayouts c_Llayouts k_Llayouts
  have b_Llayouts := F_Llayouts.binds (ps := ["table", "most_x", "most_y"]) fun _ _ _ _ _ _ us hl => match us, hl with | [_, _, _], _ => rfl
  have F_Lheights := fun_mk (st := s_Lheights) l_Lheights c_Lheights k_Lheights
  have b_Lheights := F_Lheights.binds (ps := ["ys"]) fun _ _ _ _ _ _ us hl => match us, hl with | [_], _ => rfl
  have F_Lpages := fun_mk (st := s_Lpages) l_Lpages c_Lpages k_Lpages
  have b_Lpages := F_Lpages.binds (ps := ["table", "ys", "height"]) fun _ _ _ _ _ _ us hl => match us, hl with | [_, _, _], _ => rfl
  have F_Lother_table := fun_mk (st := s_Lother_table) l_Lother_table c_Lother_table k_Lother_table
  have b_Lother_table := F_Lother_table.binds (ps := []) fun _ _ _ _ _ _ us hl => match us, hl with | [], _ => rfl
  have F_law := fun_mk (st := s_law) l_law c_law k_law
  have b_law := F_law.binds (ps := ["script"]) fun _ _ _ _ _ _ us hl => match us, hl with | [_], _ => rfl
  refine ⟨PySem.W.fnOf "law" "law" (defArgs s_law) (defBody s_law) (defScope s_law) .none kV_law dc_law pm_law an_law cd_law ct_law, fun s v => .of_eq rfl, fun base _ _ => ?_⟩
  have H_inner_size := ok_inner_size (P := l.prog) (w := w) (mg := mg) (base := base) F_inner_size
  have H_inner_sizes := ok_inner_sizes (P := l.prog) (w := w) (mg := mg) (base := base) F_inner_sizes H_inner_size (PySem.W.mg_of X G a_inner_size) k_inner_size b_inner_size (PySem.W.mg_none_of X G z_len) (PySem.W.mg_none_of X G z_range) (PySem.W.mg_none_of X G z_tuple)
  have H_lines_around := ok_lines_around (P := l.prog) (w := w) (mg := mg) (base := base) F_lines_around
  have H_width_of := ok_width_of (P := l.prog) (w := w) (mg := mg) (base := base) F_width_of
  have H_height_of := ok_height_of (P := l.prog) (w := w) (mg := mg) (base := base) F_height_of
  have H_longest := ok_longest (P := l.prog) (w := w) (mg := mg) (base := base) F_longest (PySem.W.mg_none_of X G z_len) (PySem.W.mg_none_of X G z_max)
  have H_length_of := ok_length_of (P := l.prog) (w := w) (mg := mg) (base := base) F_length_of (PySem.W.mg_none_of X G z_len)
  have H_wrap := ok_wrap (P := l.prog) (w := w) (mg := mg) (base := base) F_wrap H_longest (PySem.W.mg_of X G a_longest) k_longest b_longest H_length_of (PySem.W.mg_of X G a_length_of) k_length_of b_length_of (PySem.W.mg_none_of X G z_len)
  have H_line_count := ok_line_count (P := l.prog) (w := w) (mg := mg) (base := base) F_line_count H_wrap (PySem.W.mg_of X G a_wrap) k_wrap b_wrap (PySem.W.mg_none_of X G z_len)
  have H_narrowest := ok_narrowest (P := l.prog) (w := w) (mg := mg) (base := base) F_narrowest H_longest (PySem.W.mg_of X G a_longest) k_longest b_longest H_line_count (PySem.W.mg_of X G a_line_count) k_line_count b_line_count (PySem.W.mg_none_of X G z_max)
  have H_covers_both := ok_covers_both (P := l.prog) (w := w) (mg := mg) (base := base) F_covers_both
  have H_head_count := ok_head_count (P := l.prog) (w := w) (mg := mg) (base := base) F_head_count (PySem.W.mg_none_of X G z_len)
  have H_breakable_rows := ok_breakable_rows (P := l.prog) (w := w) (mg := mg) (base := base) F_breakable_rows H_head_count (PySem.W.mg_of X G a_head_count) k_head_count b_head_count H_covers_both (PySem.W.mg_of X G a_covers_both) k_covers_both b_covers_both (PySem.W.mg_none_of X G z_len) (PySem.W.mg_none_of X G z_range) (PySem.W.mg_none_of X G z_any)
  have H_height_of_page := ok_height_of_page (P := l.prog) (w := w) (mg := mg) (base := base) F_height_of_page
  have H_paginate := ok_paginate (P := l.prog) (w := w) (mg := mg) (base := base) F_paginate H_head_count (PySem.W.mg_of X G a_head_count) k_head_count b_head_count H_height_of_page (PySem.W.mg_of X G a_height_of_page) k_height_of_page b_height_of_page H_breakable_rows (PySem.W.mg_of X G a_breakable_rows) k_breakable_rows b_breakable_rows (PySem.W.mg_none_of X G z_len)
  have H_raised := ok_raised (P := l.prog) (w := w) (mg := mg) (base := base) F_raised (PySem.W.mg_none_of X G z_list)
  have H_least_positions := ok_least_positions (P := l.prog) (w := w) (mg := mg) (base := base) F_least_positions H_raised (PySem.W.mg_of X G a_raised) k_raised b_raised (PySem.W.mg_none_of X G z_range)
  have H_have_room := ok_have_room (P := l.prog) (w := w) (mg := mg) (base := base) F_have_room H_lines_around (PySem.W.mg_of X G a_lines_around) k_lines_around b_lines_around (PySem.W.mg_none_of X G z_zip) (PySem.W.mg_none_of X G z_all) (PySem.W.mg_of X G y_LAST_LINE)
  have H_known_constraints := ok_known_constraints (P := l.prog) (w := w) (mg := mg) (base := base) F_known_constraints H_lines_around (PySem.W.mg_of X G a_lines_around) k_lines_around b_lines_around H_narrowest (PySem.W.mg_of X G a_narrowest) k_narrowest b_narrowest H_inner_size (PySem.W.mg_of X G a_inner_size) k_inner_size b_inner_size (PySem.W.mg_none_of X G z_enumerate)
  have H_share_constraints := ok_share_constraints (P := l.prog) (w := w) (mg := mg) (base := base) F_share_constraints (PySem.W.mg_none_of X G z_enumerate)
  have H_column_lines_for := ok_column_lines_for (P := l.prog) (w := w) (mg := mg) (base := base) F_column_lines_for H_have_room (PySem.W.mg_of X G a_have_room) k_have_room b_have_room H_known_constraints (PySem.W.mg_of X G a_known_constraints) k_known_constraints b_known_constraints H_least_positions (PySem.W.mg_of X G a_least_positions) k_least_positions b_least_positions H_share_constraints (PySem.W.mg_of X G a_share_constraints) k_share_constraints b_share_constraints (PySem.W.mg_none_of X G z_sum) (PySem.W.mg_none_of X G z_len) (PySem.W.mg_none_of X G z_tuple) (PySem.W.mg_of X G y_LAST_LINE)
  have H_greatest_heights := ok_greatest_heights (P := l.prog) (w := w) (mg := mg) (base := base) F_greatest_heights (PySem.W.mg_none_of X G z_enumerate) (PySem.W.mg_none_of X G z_len) (PySem.W.mg_none_of X G z_max) (PySem.W.mg_none_of X G z_tuple)
  have H_heights_to_try := ok_heights_to_try (P := l.prog) (w := w) (mg := mg) (base := base) F_heights_to_try H_greatest_heights (PySem.W.mg_of X G a_greatest_heights) k_greatest_heights b_greatest_heights (PySem.W.mg_none_of X G z_zip) (PySem.W.mg_none_of X G z_list) (PySem.W.mg_none_of X G z_range)
  have H_least_layouts := ok_least_layouts (P := l.prog) (w := w) (mg := mg) (base := base) F_least_layouts H_heights_to_try (PySem.W.mg_of X G a_heights_to_try) k_heights_to_try b_heights_to_try H_column_lines_for (PySem.W.mg_of X G a_column_lines_for) k_column_lines_for b_column_lines_for H_lines_around (PySem.W.mg_of X G a_lines_around) k_lines_around b_lines_around
  have H_by_pages := ok_by_pages (P := l.prog) (w := w) (mg := mg) (base := base) F_by_pages H_inner_sizes (PySem.W.mg_of X G a_inner_sizes) k_inner_sizes b_inner_sizes H_width_of (PySem.W.mg_of X G a_width_of) k_width_of b_width_of H_height_of (PySem.W.mg_of X G a_height_of) k_height_of b_height_of (PySem.W.mg_none_of X G z_len)
  have H_fewest_of := ok_fewest_of (P := l.prog) (w := w) (mg := mg) (base := base) F_fewest_of H_width_of (PySem.W.mg_of X G a_width_of) k_width_of b_width_of H_paginate (PySem.W.mg_of X G a_paginate) k_paginate b_paginate H_by_pages (PySem.W.mg_of X G a_by_pages) k_by_pages b_by_pages (PySem.W.mg_none_of X G z_min)
  have H_fewest_pages := ok_fewest_pages (P := l.prog) (w := w) (mg := mg) (base := base) F_fewest_pages H_fewest_of (PySem.W.mg_of X G a_fewest_of) k_fewest_of b_fewest_of H_least_layouts (PySem.W.mg_of X G a_least_layouts) k_least_layouts b_least_layouts
  have H_Lcell := ok_Lcell (P := l.prog) (w := w) (mg := mg) (base := base) F_Lcell (PySem.W.mg_none_of X G z_len)
  have H_Ldraws := ok_Ldraws (P := l.prog) (w := w) (mg := mg) (base := base) F_Ldraws (PySem.W.mg_none_of X G z_range)
  have H_Lwords := ok_Lwords (P := l.prog) (w := w) (mg := mg) (base := base) F_Lwords (PySem.W.mg_none_of X G z_range) (PySem.W.mg_none_of X G z_tuple)
  have H_Lspan := ok_Lspan (P := l.prog) (w := w) (mg := mg) (base := base) F_Lspan
  have H_Lcells := ok_Lcells (P := l.prog) (w := w) (mg := mg) (base := base) F_Lcells H_Lspan (PySem.W.mg_of X G a_Lspan) k_Lspan b_Lspan H_Lwords (PySem.W.mg_of X G a_Lwords) k_Lwords b_Lwords (PySem.W.mg_none_of X G z_range) (PySem.W.mg_none_of X G z_tuple)
  have H_Ltable := ok_Ltable (P := l.prog) (w := w) (mg := mg) (base := base) F_Ltable H_Ldraws (PySem.W.mg_of X G a_Ldraws) k_Ldraws b_Ldraws H_Lcell (PySem.W.mg_of X G a_Lcell) k_Lcell b_Lcell H_Lcells (PySem.W.mg_of X G a_Lcells) k_Lcells b_Lcells (PySem.W.mg_none_of X G z_range) (PySem.W.mg_none_of X G z_tuple)
  have H_Lline_count := ok_Lline_count (P := l.prog) (w := w) (mg := mg) (base := base) F_Lline_count (PySem.W.mg_none_of X G z_len)
  have H_Linner := ok_Linner (P := l.prog) (w := w) (mg := mg) (base := base) F_Linner
  have H_Lcolumns_right := ok_Lcolumns_right (P := l.prog) (w := w) (mg := mg) (base := base) F_Lcolumns_right H_Linner (PySem.W.mg_of X G a_Linner) k_Linner b_Linner (PySem.W.mg_none_of X G z_len) (PySem.W.mg_none_of X G z_range)
  have H_Lcells_right := ok_Lcells_right (P := l.prog) (w := w) (mg := mg) (base := base) F_Lcells_right H_Lline_count (PySem.W.mg_of X G a_Lline_count) k_Lline_count b_Lline_count H_Linner (PySem.W.mg_of X G a_Linner) k_Linner b_Linner
  have H_Lrows_right := ok_Lrows_right (P := l.prog) (w := w) (mg := mg) (base := base) F_Lrows_right H_Linner (PySem.W.mg_of X G a_Linner) k_Linner b_Linner (PySem.W.mg_none_of X G z_len) (PySem.W.mg_none_of X G z_range)
  have H_Lrising := ok_Lrising (P := l.prog) (w := w) (mg := mg) (base := base) F_Lrising (PySem.W.mg_none_of X G z_range)
  have H_Llayouts := ok_Llayouts (P := l.prog) (w := w) (mg := mg) (base := base) F_Llayouts H_Lrising (PySem.W.mg_of X G a_Lrising) k_Lrising b_Lrising H_Lrows_right (PySem.W.mg_of X G a_Lrows_right) k_Lrows_right b_Lrows_right H_Lcolumns_right (PySem.W.mg_of X G a_Lcolumns_right) k_Lcolumns_right b_Lcolumns_right H_Lcells_right (PySem.W.mg_of X G a_Lcells_right) k_Lcells_right b_Lcells_right (PySem.W.mg_none_of X G z_len)
  have H_Lheights := ok_Lheights (P := l.prog) (w := w) (mg := mg) (base := base) F_Lheights (PySem.W.mg_none_of X G z_len) (PySem.W.mg_none_of X G z_range) (PySem.W.mg_none_of X G z_tuple)
  have H_Lpages := ok_Lpages (P := l.prog) (w := w) (mg := mg) (base := base) F_Lpages (PySem.W.mg_none_of X G z_len) (PySem.W.mg_none_of X G z_range)
  have H_Lother_table := ok_Lother_table (P := l.prog) (w := w) (mg := mg) (base := base) F_Lother_table (PySem.W.mg_none_of X G z_tuple)
  have H_law := ok_law (P := l.prog) (w := w) (mg := mg) (base := base) F_law H_Ltable (PySem.W.mg_of X G a_Ltable) k_Ltable b_Ltable H_Lcell (PySem.W.mg_of X G a_Lcell) k_Lcell b_Lcell H_Lother_table (PySem.W.mg_of X G a_Lother_table) k_Lother_table b_Lother_table H_Llayouts (PySem.W.mg_of X G a_Llayouts) k_Llayouts b_Llayouts H_Lpages (PySem.W.mg_of X G a_Lpages) k_Lpages b_Lpages H_Lheights (PySem.W.mg_of X G a_Lheights) k_Lheights b_Lheights H_fewest_pages (PySem.W.mg_of X G a_fewest_pages) k_fewest_pages b_fewest_pages (PySem.W.mg_none_of X G z_len) (PySem.W.mg_none_of X G z_min) (PySem.W.mg_none_of X G z_isinstance) (PySem.W.mg_none_of X G z_tuple)
  exact H_law
end K17

namespace K17
open PySem PySem.Spec PyProof.Rows L2 Mir
theorem inT_pr (p : Int × Int) (ps : List (Int × Int)) : inT (pr p) (.list (ps.map pr)) = some (.bool (decide (p ∈ ps))) := inD_pr p ps
theorem notInT_pr (p : Int × Int) (ps : List (Int × Int)) : notInT (pr p) (.list (ps.map pr)) = some (.bool (!decide (p ∈ ps))) := by
  unfold notInT
  rw [inT_pr]

/-! the law's draws -/
theorem cell_ev (ns : List Int) (k : Nat) : g_Lcell [.list (ns.map .int), .int k] = some (.int (ns.getD k 0)) := by
  show outD (f_Lcell [.val (.list (ns.map .int)), .val (.int k)]) = _
  by_cases h : k < ns.length
  · have e1 : atI (ns.map PyData.int) (k : Int) = some (.int (ns.getD k 0)) := atI_map _ _ _ _ (by simp [List.getD, h])
    simp [f_Lcell, sSeq, sIf, t1, e2, eVar, eCall, aCons, aNil, lenA, ltD, i2, h, sRet, ixG, e1, outD]
  · have e1 : ns.getD k 0 = 0 := by simp [List.getD, List.getElem?_eq_none (Nat.le_of_not_lt h)]
    simp [f_Lcell, sSeq, sIf, t1, e2, eVar, eCall, aCons, aNil, lenA, ltD, i2, h, sRet, ixG, e1, outD, sNil, eC]
theorem pow18 : ∃ z : Int, powD (.int 10) (.int 18) = some (.int z) := by
  refine ⟨10 ^ (18 : Int).toNat, ?_⟩
  show (if CPow 10 18 then some (PyData.int (10 ^ (18 : Int).toNat)) else none) = _
  rw [if_pos ⟨by decide, by decide, by decide⟩]
theorem z1 (c z : Int) (n : Nat) (hp : powD (.int 10) (.int 18) = some (.int z)) : sSet 3 (e2 geD (eVar 0) (e2 powD (eC (.int 10)) (eC (.int 18)))) [.val (.int c), .val (.int n), .own [], .un, .un, .un] = .nx [.val (.int c), .val (.int n), .own [], .val (.bool (decide (z ≤ c))), .un, .un] := sSet_ev (e2_ev rfl (e2_ev rfl rfl hp) (geD_int c z))
theorem z2 (c z : Int) (n : Nat) (hn : n ≤ 1000) : iR1 (aCons (eVar 1) aNil) [.val (.int c), .val (.int n), .own [], .val (.bool (decide (z ≤ c))), .un, .un] = some (rngD 0 n) := by
    have := iR1_ev (fa := aCons (eVar 1) aNil) (env := [.val (.int c), .val (.int n), .own [], .val (.bool (decide (z ≤ c))), .un, .un]) (N := n) rfl (by omega) (by omega)
    rw [Int.toNat_natCast] at this
    exact this
theorem z3 (c z c' : Int) (n : Nat) (hn : n ≤ 1000) (ds : List Int) (x y : Sl) (h1 : loopF (gVal 4) b_Ldraws_1 (rngD 0 n) [.val (.int c), .val (.int n), .own [], .val (.bool (decide (z ≤ c))), .un, .un] = .nx [.val (.int c'), .val (.int n), .own (ds.map PyData.int), .val (.bool (decide (z ≤ c))), x, y])
 (hp : powD (.int 10) (.int 18) = some (.int z)) : f_Ldraws [.val (.int c), .val (.int n), .un, .un, .un, .un] = .rt (.list (ds.map PyData.int)) := by
    have k1 : sOwn 2 (fLst aNil) [.val (.int c), .val (.int n), .un, .un, .un, .un] = .nx [.val (.int c), .val (.int n), .own [], .un, .un, .un] := rfl
    unfold f_Ldraws
    rw [sSeq_nx k1, sSeq_nx (z1 c z n hp), sSeq_nx (sFor_ev (z2 c z n hn) h1)]
    rfl
theorem z4 (c : Int) (n : Nat) (ds : List Int) (this : f_Ldraws [.val (.int c), .val (.int n), .un, .un, .un, .un] = .rt (.list (ds.map PyData.int))) : g_Ldraws [.int c, .int n] = some (.list (ds.map PyData.int)) := gDef_ev (fB := f_Ldraws) rfl this
theorem draws_key (c : Int) (n : Nat) (hn : n ≤ 1000) (wide : Bool) : ∃ (c' : Int) (ds : List Int) (x y : Sl), loopF (gVal 4) b_Ldraws_1 (rngD 0 n) [.val (.int c), .val (.int n), .own [], .val (.bool wide), .un, .un] = .nx [.val (.int c'), .val (.int n), .own (ds.map .int), .val (.bool wide), x, y] ∧ ds.length = n ∧ ∀ d ∈ ds, 0 ≤ d ∧ d < 1000003 := by
  have key : ∃ e', loopF (gVal 4) b_Ldraws_1 (rngD 0 n) [.val (.int c), .val (.int n), .own [], .val (.bool wide), .un, .un] = .nx e' ∧
      (∃ (c' : Int) (ds : List Int) (x y : Sl), e' = [.val (.int c'), .val (.int n), .own (ds.map .int), .val (.bool wide), x, y] ∧ ds.length = n ∧ ∀ d ∈ ds, 0 ≤ d ∧ d < 1000003) := by
    refine loop_rng (fun j e => ∃ (c' : Int) (ds : List Int) (x y : Sl), e = [.val (.int c'), .val (.int n), .own (ds.map .int), .val (.bool wide), x, y] ∧ ds.length = j ∧ ∀ d ∈ ds, 0 ≤ d ∧ d < 1000003) ?_ ⟨c, [], .un, .un, rfl, rfl, fun d h => by cases h⟩
    rintro j e hj ⟨c', ds, x, y, rfl, hd, hb⟩
    obtain ⟨k, hk⟩ : ∃ k : Int, k = 0 + (j : Nat) := ⟨_, rfl⟩
    have hk1 : 0 ≤ k ∧ k < 1000 := by omega
    rw [← hk]
    refine ⟨[.val (.int c'), .val (.int n), .own (ds.map .int), .val (.bool wide), .val (.int k), y], rfl, ?_⟩
    have hl : ds.length < 1000000 := by omega
    cases wide with
    | true =>
      refine ⟨_, .inl (show b_Ldraws_1 _ = .nx [.val (.int (c' / 1009)), .val (.int n), .own ((ds ++ [c' % 1009]).map .int), .val (.bool true), .val (.int k), y] from ?_), c' / 1009, ds ++ [c' % 1009], .val (.int k), y, rfl, by simp [hd], ?_⟩
      · unfold b_Ldraws_1
        rw [sIf_t (by rfl)]
        exact draw_t' 1009 c' n ds _ _ y hl (by decide) (by decide)
      · intro d h
        rcases List.mem_append.mp h with h | h
        · exact hb d h
        · rw [List.mem_singleton.mp h]
          have h1 := Int.emod_nonneg c' (show (1009 : Int) ≠ 0 by decide)
          have h2 := Int.emod_lt_of_pos c' (show (0 : Int) < 1009 by decide)
          omega
    | false =>
      obtain ⟨m, hm⟩ : ∃ m : Int, (c' * 48271 + k * 69621) % 2147483647 = m := ⟨_, rfl⟩
      have hm1 : 0 ≤ m := by rw [← hm]; exact Int.emod_nonneg _ (by decide)
      have hm2 : m < 2147483647 := by rw [← hm]; exact Int.emod_lt_of_pos _ (by decide)
      obtain ⟨v, hv⟩ : ∃ v : Int, (m * m + c' * 31 + k) % 1000003 = v := ⟨_, rfl⟩
      have hv1 : 0 ≤ v := by rw [← hv]; exact Int.emod_nonneg _ (by decide)
      have hv2 : v < 1000003 := by rw [← hv]; exact Int.emod_lt_of_pos _ (by decide)
      refine ⟨_, .inl (show b_Ldraws_1 _ = .nx [.val (.int c'), .val (.int n), .own ((ds ++ [v]).map .int), .val (.bool false), .val (.int k), .val (.int m)] from ?_), c', ds ++ [v], .val (.int k), .val (.int m), rfl, by simp [hd], ?_⟩
      · unfold b_Ldraws_1
        rw [sIf_f (by rfl)]
        rw [sSeq_nx (draw_s1' 48271 69621 2147483647 c' m k n ds _ y (.inr (by omega)) (.inr (by omega)) (by decide) hm)]
        rw [← hv]
        exact draw_s2' 31 1000003 0 c' m k n ds _ hl (.inr (by omega)) (.inl (by omega)) (by decide)
      · intro d h
        rcases List.mem_append.mp h with h | h
        · exact hb d h
        · rw [List.mem_singleton.mp h]
          exact ⟨hv1, hv2⟩
  obtain ⟨e', h1, c', ds, x, y, rfl, h2, h3⟩ := key
  exact ⟨c', ds, x, y, h1, h2, h3⟩
theorem draws_ev (c : Int) (n : Nat) (hn : n ≤ 1000) : ∃ ds : List Int, g_Ldraws [.int c, .int n] = some (.list (ds.map .int)) ∧ ds.length = n ∧ ∀ d ∈ ds, 0 ≤ d ∧ d < 1000003 := by
  obtain ⟨z, hp⟩ := pow18
  obtain ⟨c', ds, x, y, h1, h2, h3⟩ := draws_key c n hn (decide (z ≤ c))
  exact ⟨ds, z4 c n ds (z3 c z c' n hn ds x y h1 hp), h2, h3⟩

/-! the table of three columns and rows by the digits of a cell -/
def pool4 : List Str := ["a", "bb", "c", "dd"]
theorem pool4_ok : ∀ w ∈ pool4, 1 ≤ w.length ∧ w.length ≤ 2 ∧ PyData.strOk w = true := by decide +kernel
theorem pick_ev {α : Type} (c : α → PyData) (xs : List α) (i : Int) (h : 0 ≤ i ∧ i < xs.length) : ∃ x ∈ xs, atI (xs.map c) i = some (c x) := by
  have h3 : i.toNat < xs.length := by omega
  refine ⟨xs[i.toNat], List.getElem_mem h3, ?_⟩
  have := atI_map c xs i.toNat _ (List.getElem?_eq_getElem h3)
  rw [Int.toNat_of_nonneg h.1] at this
  exact this
theorem compF_pick4 {g : PyData → En → Option En} {fe : En → Option PyData} {env : En} {lo : Int} {n : Nat} {Q : Str → Prop} (h : ∀ j : Nat, j < n → ∃ e1 w, g (.int (lo + (j : Nat))) env = some e1 ∧ fe e1 = some (.str w) ∧ Q w) :
    ∃ ws : List Str, compF g tYes' fe env (rngD lo n) = some (ws.map .str) ∧ ws.length = n ∧ ∀ w ∈ ws, Q w := by
  have aux : ∀ (ks : List Nat), (∀ j ∈ ks, j < n) → ∃ ws : List Str, compF g tYes' fe env (ks.map fun k => .int (lo + (k : Nat))) = some (ws.map .str) ∧ ws.length = ks.length ∧ ∀ w ∈ ws, Q w := by
    intro ks
    induction ks with
    | nil => exact fun _ => ⟨[], rfl, rfl, fun w h => by cases h⟩
    | cons k ks ih =>
      intro hk
      obtain ⟨ws, h1, h2, h3⟩ := ih fun j hj => hk j (List.mem_cons_of_mem _ hj)
      obtain ⟨e1, w, q1, q2, q3⟩ := h k (hk k List.mem_cons_self)
      refine ⟨w :: ws, ?_, by simp [h2], fun v hv => ?_⟩
      · simp only [List.map_cons, compF, q1, tYes', q2]
        rw [h1]
      · rcases List.mem_cons.mp hv with e | hv
        · rw [e]; exact q3
        · exact h3 v hv
  obtain ⟨ws, h1, h2, h3⟩ := aux (List.range n) fun j hj => List.mem_range.mp hj
  exact ⟨ws, h1, by rw [h2, List.length_range], h3⟩
theorem kwords_ev (c : Int) : ∃ ws : List Str, g_Lwords [.int c] = some (.tuple (ws.map .str)) ∧ ws.length ≤ 2 ∧ ∀ w ∈ ws, w ∈ pool4 := by
  have m0 := mod_lt c 3 (by decide)
  obtain ⟨N, hN⟩ : ∃ N : Int, N = c % 3 := ⟨_, rfl⟩
  rw [← hN] at m0
  obtain ⟨ws, h1, h2, h3⟩ := compF_pick4 (g := gVal 1) (fe := c_Lwords_1) (env := [.val (.int c), .un]) (lo := 0) (n := N.toNat) (Q := fun w => w ∈ pool4) fun j hj => by
    obtain ⟨k, hk⟩ : ∃ k : Int, k = 0 + (j : Nat) := ⟨_, rfl⟩
    rw [← hk]
    have m1 := mod_lt (c / (7 * (k + 1))) 4 (by decide)
    obtain ⟨w, hw, ha⟩ := pick_ev PyData.str pool4 (c / (7 * (k + 1)) % 4) ⟨m1.1, m1.2⟩
    refine ⟨[.val (.int c), .val (.int k)], w, rfl, ?_, hw⟩
    exact e2_ev (x := .list (pool4.map .str)) rfl (e2_ev (e2_ev rfl (e2_ev rfl (e2_ev rfl rfl (addD_int _ _)) (mulD_int (.inl (by decide)))) (divD_int ⟨by omega, by omega⟩)) rfl (modD_int (by decide))) ha
  refine ⟨ws, ?_, by omega, h3⟩
  refine gDef_ev' (fB := f_Lwords) [.val (.int c), .un] rfl rfl ?_
  unfold f_Lwords
  exact sRet_ev (eCall_ev (aCons_ev (eL_ev (fCmp_ev (iR1_ev (N := N) (aCons_ev (by rw [hN]; exact e2_ev rfl rfl (modD_int (by decide))) aNil_ev) (by omega) (by omega)) h1 (by rw [List.length_map]; omega))) aNil_ev) rfl)
theorem kspan_ev (ps : List (Int × Int)) (r c R C H n : Int) (hr : 0 ≤ r ∧ r < R) (hc : 0 ≤ c ∧ c < C) (hH : H ≤ R) : ∃ d a : Int, g_Lspan [.list (ps.map pr), .int r, .int c, .tuple [.int R, .int C, .int H], .int n] = some (.tuple [.int d, .int a]) ∧ (1 ≤ d ∧ d ≤ 2) ∧ (1 ≤ a ∧ a ≤ 2) ∧ r + d ≤ R ∧ c + a ≤ C := by
  have m0 := mod_lt n 2 (by decide)
  have m1 := mod_lt (n / 2) 2 (by decide)
  obtain ⟨d0, hd0⟩ : ∃ d0 : Int, d0 = 1 + n % 2 := ⟨_, rfl⟩
  obtain ⟨a0, ha0⟩ : ∃ a0 : Int, a0 = 1 + n / 2 % 2 := ⟨_, rfl⟩
  obtain ⟨Z, hZ⟩ : ∃ Z : Int, Z = if r < H then H else R := ⟨_, rfl⟩
  have hZR : Z ≤ R := by rw [hZ]; split <;> omega
  obtain ⟨X, hX⟩ : ∃ X : PyData, X = .tuple [.int R, .int C, .int H] := ⟨_, rfl⟩
  obtain ⟨Y, hY⟩ : ∃ Y : PyData, Y = .list (ps.map pr) := ⟨_, rfl⟩
  obtain ⟨d, hd1, hd2, hd3⟩ : ∃ d : Int, sIf (t1 (e2 gtD (e2 addD (eVar 1) (eVar 8)) (eIf (t1 (e2 ltD (eVar 1) (eVar 7))) (eVar 7) (eVar 5)))) (sSet 8 (eC (.int 1))) sNil [.val Y, .val (.int r), .val (.int c), .val X, .val (.int n), .val (.int R), .val (.int C), .val (.int H), .val (.int d0), .val (.int a0)] = .nx [.val Y, .val (.int r), .val (.int c), .val X, .val (.int n), .val (.int R), .val (.int C), .val (.int H), .val (.int d), .val (.int a0)] ∧ (1 ≤ d ∧ d ≤ 2) ∧ r + d ≤ R := by
    have hif : eIf (t1 (e2 ltD (eVar 1) (eVar 7))) (eVar 7) (eVar 5) [.val Y, .val (.int r), .val (.int c), .val X, .val (.int n), .val (.int R), .val (.int C), .val (.int H), .val (.int d0), .val (.int a0)] = some (.int Z) := by
      rw [hZ]
      by_cases z : r < H
      · rw [if_pos z]; exact eIf_t (t1_ev (e2_ev rfl rfl ((ltD_int _ _).trans (by rw [decide_eq_true z])))) rfl
      · rw [if_neg z]; exact eIf_f (t1_ev (e2_ev rfl rfl ((ltD_int _ _).trans (by rw [decide_eq_false z])))) rfl
    have hc := t1_ev (e2_ev (e2_ev (f := eVar 1) (g := eVar 8) rfl rfl (addD_int r d0)) hif (gtD_int _ _))
    by_cases z : Z < r + d0
    · rw [decide_eq_true z] at hc
      exact ⟨1, (sIf_t hc).trans rfl, by omega, by omega⟩
    · rw [decide_eq_false z] at hc
      exact ⟨d0, (sIf_f hc).trans rfl, by omega, by omega⟩
  obtain ⟨a, ha1, ha2, ha3⟩ : ∃ a : Int, sIf (tOr' (t1 (e2 gtD (e2 addD (eVar 2) (eVar 9)) (eVar 6))) (t1 (e2 inT (eTup (aCons (eVar 1) (aCons (e2 subD (e2 addD (eVar 2) (eVar 9)) (eC (.int 1))) aNil))) (eVar 0)))) (sSet 9 (eC (.int 1))) sNil [.val Y, .val (.int r), .val (.int c), .val X, .val (.int n), .val (.int R), .val (.int C), .val (.int H), .val (.int d), .val (.int a0)] = .nx [.val Y, .val (.int r), .val (.int c), .val X, .val (.int n), .val (.int R), .val (.int C), .val (.int H), .val (.int d), .val (.int a)] ∧ (1 ≤ a ∧ a ≤ 2) ∧ c + a ≤ C := by
    have h1 : t1 (e2 gtD (e2 addD (eVar 2) (eVar 9)) (eVar 6)) [.val Y, .val (.int r), .val (.int c), .val X, .val (.int n), .val (.int R), .val (.int C), .val (.int H), .val (.int d), .val (.int a0)] = some (decide (C < c + a0)) := t1_ev (e2_ev (e2_ev rfl rfl (addD_int c a0)) rfl (gtD_int _ _))
    have h2 : t1 (e2 inT (eTup (aCons (eVar 1) (aCons (e2 subD (e2 addD (eVar 2) (eVar 9)) (eC (.int 1))) aNil))) (eVar 0)) [.val Y, .val (.int r), .val (.int c), .val X, .val (.int n), .val (.int R), .val (.int C), .val (.int H), .val (.int d), .val (.int a0)] = some (decide ((r, c + a0 - 1) ∈ ps)) := by
      rw [hY]
      exact t1_ev (e2_ev (eTup_ev (aCons_ev rfl (aCons_ev (e2_ev (e2_ev rfl rfl (addD_int _ _)) rfl (subD_int _ _)) aNil_ev)) (by simp)) rfl (inT_pr (r, c + a0 - 1) ps))
    by_cases z : C < c + a0
    · rw [decide_eq_true z] at h1
      exact ⟨1, (sIf_t (or_t h1)).trans rfl, by omega, by omega⟩
    · rw [decide_eq_false z] at h1
      have h3 := or_f h1 h2
      by_cases y : (r, c + a0 - 1) ∈ ps
      · rw [decide_eq_true y] at h3
        exact ⟨1, (sIf_t h3).trans rfl, by omega, by omega⟩
      · rw [decide_eq_false y] at h3
        exact ⟨a0, (sIf_f h3).trans rfl, by omega, by omega⟩
  refine ⟨d, a, ?_, hd2, ha2, hd3, ha3⟩
  rw [← hX, ← hY]
  refine gDef_ev' (fB := f_Lspan) [.val Y, .val (.int r), .val (.int c), .val X, .val (.int n), .un, .un, .un, .un, .un] rfl rfl ?_
  unfold f_Lspan
  refine (sSeq_nx (e := [.val Y, .val (.int r), .val (.int c), .val X, .val (.int n), .val (.int R), .val (.int C), .val (.int H), .un, .un]) (by rw [hX]; rfl)).trans ?_
  refine (sSeq_nx (e := [.val Y, .val (.int r), .val (.int c), .val X, .val (.int n), .val (.int R), .val (.int C), .val (.int H), .val (.int d0), .un]) (by rw [hd0]; exact sSet_ev (e2_ev rfl (e2_ev rfl rfl (modD_int (by decide))) (addD_int _ _)))).trans ?_
  refine (sSeq_nx (e := [.val Y, .val (.int r), .val (.int c), .val X, .val (.int n), .val (.int R), .val (.int C), .val (.int H), .val (.int d0), .val (.int a0)]) (by rw [ha0]; exact sSet_ev (e2_ev rfl (e2_ev (e2_ev rfl rfl (divD_int ⟨by decide, by decide⟩)) rfl (modD_int (by decide))) (addD_int _ _)))).trans ?_
  rw [sSeq_nx hd1, sSeq_nx ha1]
  exact sRet_ev (by rfl)
structure LCell where
  r : Int
  c : Int
  h : Int
  w : Int
  ws : List Str
abbrev cellD (x : LCell) : PyData := .tuple [.int x.r, .int x.c, .int x.h, .int x.w, .tuple (x.ws.map .str)]
structure CellO2 (R C : Int) (x : LCell) : Prop where
  r : 0 ≤ x.r
  c : 0 ≤ x.c
  h : 1 ≤ x.h
  w : 1 ≤ x.w
  rh : x.r + x.h ≤ R
  cw : x.c + x.w ≤ C
  l : x.ws.length ≤ 4
  p : ∀ w ∈ x.ws, w ∈ pool4
  f : x.ws.length ≤ 2
theorem dr_ix {ds : List Int} {i : Int} (h : 0 ≤ i ∧ i < ds.length) : atI (ds.map PyData.int) i = some (.int (ds.getD i.toNat 0)) := by
  have h3 : i.toNat < ds.length := by omega
  have := atI_map PyData.int ds i.toNat (ds.getD i.toNat 0) (by simp [List.getD, h3])
  rw [Int.toNat_of_nonneg h.1] at this
  exact this
theorem kcells_ev (ds : List Int) (hl : ds.length = 40) (R C H : Int) (hR : 1 ≤ R ∧ R ≤ 3) (hC : 1 ≤ C ∧ C ≤ 3) (hH : H ≤ R) :
    ∃ cs : List LCell, g_Lcells [.tuple [.int R, .int C, .int H], .list (ds.map .int)] = some (.tuple (cs.map cellD)) ∧ cs.length ≤ 9 ∧ ∀ x ∈ cs, CellO2 R C x := by
  obtain ⟨X, hX⟩ : ∃ X : PyData, X = .tuple [.int R, .int C, .int H] := ⟨_, rfl⟩
  obtain ⟨Y, hY⟩ : ∃ Y : PyData, Y = .list (ds.map .int) := ⟨_, rfl⟩
  rw [← hX, ← hY]
  have inner : ∀ (r : Int) (ps : List (Int × Int)) (cs : List LCell) (y5 y6 y7 y8 y9 : Sl), 0 ≤ r ∧ r < R → ps.length ≤ 1000 → cs.length ≤ 9 → (∀ x ∈ cs, CellO2 R C x) →
      ∃ (ps' : List (Int × Int)) (cs' : List LCell) (z5 z6 z7 z8 z9 : Sl), b_Lcells_3 [.val X, .val Y, .own (ps.map pr), .own (cs.map cellD), .val (.int r), y5, y6, y7, y8, y9] = .nx [.val X, .val Y, .own (ps'.map pr), .own (cs'.map cellD), .val (.int r), z5, z6, z7, z8, z9] ∧ ps'.length ≤ ps.length + 12 ∧ cs'.length ≤ cs.length + 3 ∧ (∀ x ∈ cs', CellO2 R C x) := by
    intro r ps cs y5 y6 y7 y8 y9 hr hps hcs hok
    have hrg := iR1_ev (fa := aCons (e2 ixG (eVar 0) (eC (.int 1))) aNil) (env := [.val X, .val Y, .own (ps.map pr), .own (cs.map cellD), .val (.int r), y5, y6, y7, y8, y9]) (N := C) (by rw [hX]; rfl) (by omega) (by omega)
    have hlp := loop_rng (g := gVal 5) (b := b_Lcells_2) (lo := 0) (n := C.toNat) (e := [.val X, .val Y, .own (ps.map pr), .own (cs.map cellD), .val (.int r), y5, y6, y7, y8, y9])
      (fun j e => ∃ (ps' : List (Int × Int)) (cs' : List LCell) (z5 z6 z7 z8 z9 : Sl), ps'.length ≤ ps.length + 4 * j ∧ cs'.length ≤ cs.length + j ∧ (∀ x ∈ cs', CellO2 R C x) ∧ e = [.val X, .val Y, .own (ps'.map pr), .own (cs'.map cellD), .val (.int r), z5, z6, z7, z8, z9]) (fun j e hj he => by
        obtain ⟨ps', cs', z5, z6, z7, z8, z9, q1, q2, q3, rfl⟩ := he
        obtain ⟨c, hc⟩ : ∃ c : Int, c = 0 + (j : Nat) := ⟨_, rfl⟩
        rw [← hc]
        have hj3 : j < 3 := by omega
        refine ⟨[.val X, .val Y, .own (ps'.map pr), .own (cs'.map cellD), .val (.int r), .val (.int c), z6, z7, z8, z9], rfl, ?_⟩
        have ht : t1 (e2 notInT (eTup (aCons (eVar 4) (aCons (eVar 5) aNil))) (eBor 2)) [.val X, .val Y, .own (ps'.map pr), .own (cs'.map cellD), .val (.int r), .val (.int c), z6, z7, z8, z9] = some (!decide ((r, c) ∈ ps')) :=
          t1_ev (e2_ev rfl rfl (notInT_pr (r, c) ps'))
        by_cases y : (r, c) ∈ ps'
        · rw [decide_eq_true y] at ht
          exact ⟨_, .inl ((sIf_f ht).trans rfl), ps', cs', _, _, _, _, _, by omega, by omega, q3, rfl⟩
        · rw [decide_eq_false y] at ht
          obtain ⟨at_, hat⟩ : ∃ at_ : Int, at_ = 3 * r + c := ⟨_, rfl⟩
          have n1 := mod_lt (at_ * 5 + 1) 40 (by decide)
          have n2 := mod_lt (at_ * 7 + 3) 40 (by decide)
          obtain ⟨v1, hv1⟩ : ∃ v1 : Int, atI (ds.map PyData.int) ((at_ * 5 + 1) % 40) = some (.int v1) := ⟨_, dr_ix ⟨n1.1, by omega⟩⟩
          obtain ⟨v2, hv2⟩ : ∃ v2 : Int, atI (ds.map PyData.int) ((at_ * 7 + 3) % 40) = some (.int v2) := ⟨_, dr_ix ⟨n2.1, by omega⟩⟩
          obtain ⟨d, a, s1, s2, s3, s4, s5⟩ := kspan_ev ps' r c R C H (v1 / 3) hr (by omega) hH
          obtain ⟨ws, w1, w2, w3⟩ := kwords_ev v2
          have hm : 1 ≤ d * a ∧ d * a ≤ 4 := by
            rcases (by omega : d = 1 ∨ d = 2) with e | e <;> (subst e; omega)
          obtain ⟨N, hN⟩ : ∃ N : Int, N = d * a := ⟨_, rfl⟩
          rw [← hN] at hm
          have g6 : sSet 6 (e2 addD (e2 mulD (eC (.int 3)) (eVar 4)) (eVar 5)) [.val X, .val Y, .own (ps'.map pr), .own (cs'.map cellD), .val (.int r), .val (.int c), z6, z7, z8, z9] = .nx [.val X, .val Y, .own (ps'.map pr), .own (cs'.map cellD), .val (.int r), .val (.int c), .val (.int at_), z7, z8, z9] := by
            rw [hat]; exact sSet_ev (e2_ev (e2_ev rfl rfl (mulD_int (.inl (by decide)))) rfl (addD_int _ _))
          have g7 : sUnp (eN (eCall g_Lspan (aCons (eBor 2) (aCons (eVar 4) (aCons (eVar 5) (aCons (eVar 0) (aCons (e2 divD (e2 ixG (eVar 1) (e2 modD (e2 addD (e2 mulD (eVar 6) (eC (.int 5))) (eC (.int 1))) (eC (.int 40)))) (eC (.int 3))) aNil))))))) (gT [7, 8]) [.val X, .val Y, .own (ps'.map pr), .own (cs'.map cellD), .val (.int r), .val (.int c), .val (.int at_), z7, z8, z9] = .nx [.val X, .val Y, .own (ps'.map pr), .own (cs'.map cellD), .val (.int r), .val (.int c), .val (.int at_), .val (.int d), .val (.int a), z9] := by
            unfold sUnp
            rw [eN_ev (d := .tuple [.int d, .int a]) (eCall_ev (aCons_ev rfl (aCons_ev rfl (aCons_ev rfl (aCons_ev rfl (aCons_ev (e2_ev (e2_ev (x := .list (ds.map .int)) (by rw [hY]; rfl) (e2_ev (e2_ev (e2_ev rfl rfl (mulD_int (.inr (by decide)))) rfl (addD_int _ _)) rfl (modD_int (by decide))) hv1) rfl (divD_int ⟨by decide, by decide⟩)) aNil_ev))))) (by rw [hX]; exact s1)) rfl]
            rfl
          have hr2 := iR1_ev (fa := aCons (e2 mulD (eVar 7) (eVar 8)) aNil) (env := [.val X, .val Y, .own (ps'.map pr), .own (cs'.map cellD), .val (.int r), .val (.int c), .val (.int at_), .val (.int d), .val (.int a), z9]) (N := N) (aCons_ev (by rw [hN]; exact e2_ev rfl rfl (mulD_int (.inl (by omega)))) aNil_ev) (by omega) (by omega)
          have hl2 := loop_rng (g := gVal 9) (b := b_Lcells_1) (lo := 0) (n := N.toNat) (e := [.val X, .val Y, .own (ps'.map pr), .own (cs'.map cellD), .val (.int r), .val (.int c), .val (.int at_), .val (.int d), .val (.int a), z9])
            (fun j e => ∃ (qs : List (Int × Int)) (y : Sl), qs.length = ps'.length + j ∧ e = [.val X, .val Y, .own (qs.map pr), .own (cs'.map cellD), .val (.int r), .val (.int c), .val (.int at_), .val (.int d), .val (.int a), y]) (fun j e hj he => by
              obtain ⟨qs, y, hq, rfl⟩ := he
              obtain ⟨k, hk⟩ : ∃ k : Int, k = 0 + (j : Nat) := ⟨_, rfl⟩
              rw [← hk]
              refine ⟨[.val X, .val Y, .own (qs.map pr), .own (cs'.map cellD), .val (.int r), .val (.int c), .val (.int at_), .val (.int d), .val (.int a), .val (.int k)], rfl, [.val X, .val Y, .own ((qs ++ [(r + k / a, c + k % a)]).map pr), .own (cs'.map cellD), .val (.int r), .val (.int c), .val (.int at_), .val (.int d), .val (.int a), .val (.int k)], .inl ?_, qs ++ [(r + k / a, c + k % a)], _, by simp [hq]; omega, rfl⟩
              unfold b_Lcells_1
              rw [List.map_append]
              exact sApp_ev (i := 2) (eTup_ev (aCons_ev (e2_ev rfl (e2_ev rfl rfl (divD_int ⟨by omega, by omega⟩)) (addD_int _ _)) (aCons_ev (e2_ev rfl (e2_ev rfl rfl (modD_int (by omega))) (addD_int _ _)) aNil_ev)) (by simp)) rfl (by rw [List.length_map]; omega)) ⟨ps', z9, rfl, rfl⟩
          obtain ⟨e', k1, qs, y9', k2, rfl⟩ := hl2
          refine ⟨[.val X, .val Y, .own (qs.map pr), .own ((cs' ++ [(⟨r, c, d, a, ws⟩ : LCell)]).map cellD), .val (.int r), .val (.int c), .val (.int at_), .val (.int d), .val (.int a), y9'], .inl ?_, qs, cs' ++ [⟨r, c, d, a, ws⟩], _, _, _, _, _, by omega, by simp; omega, ?_, rfl⟩
          · unfold b_Lcells_2
            refine (sIf_t ht).trans ?_
            rw [sSeq_nx g6, sSeq_nx g7, sSeq_nx (sFor_ev hr2 k1), List.map_append]
            exact sApp_ev (i := 3) (eTup_ev (aCons_ev rfl (aCons_ev rfl (aCons_ev rfl (aCons_ev rfl (aCons_ev (eCall_ev (aCons_ev (e2_ev (x := .list (ds.map .int)) (by rw [hY]; rfl) (e2_ev (e2_ev (e2_ev rfl rfl (mulD_int (.inr (by decide)))) rfl (addD_int _ _)) rfl (modD_int (by decide))) hv2) aNil_ev) w1) aNil_ev))))) (by simp)) rfl (by rw [List.length_map]; omega)
          · intro x hx
            rcases List.mem_append.mp hx with hx | hx
            · exact q3 x hx
            · rw [List.mem_singleton.mp hx]
              exact ⟨hr.1, by show 0 ≤ c; omega, s2.1, s3.1, s4, s5, by show ws.length ≤ 4; omega, w3, by show ws.length ≤ 2; omega⟩) ⟨ps, cs, _, _, _, _, _, by omega, by omega, hok, rfl⟩
    obtain ⟨e', h1, ps', cs', z5, z6, z7, z8, z9, q1, q2, q3, rfl⟩ := hlp
    exact ⟨ps', cs', z5, z6, z7, z8, z9, sFor_ev hrg h1, by omega, by omega, q3⟩
  have hrg := iR1_ev (fa := aCons (e2 ixG (eVar 0) (eC (.int 0))) aNil) (env := [.val X, .val Y, .own [], .own [], .un, .un, .un, .un, .un, .un]) (N := R) (by rw [hX]; rfl) (by omega) (by omega)
  have hlp := loop_rng (g := gVal 4) (b := b_Lcells_3) (lo := 0) (n := R.toNat) (e := [.val X, .val Y, .own [], .own [], .un, .un, .un, .un, .un, .un])
    (fun j e => ∃ (ps : List (Int × Int)) (cs : List LCell) (y4 y5 y6 y7 y8 y9 : Sl), ps.length ≤ 12 * j ∧ cs.length ≤ 3 * j ∧ (∀ x ∈ cs, CellO2 R C x) ∧ e = [.val X, .val Y, .own (ps.map pr), .own (cs.map cellD), y4, y5, y6, y7, y8, y9]) (fun j e hj he => by
      obtain ⟨ps, cs, y4, y5, y6, y7, y8, y9, q1, q2, q3, rfl⟩ := he
      obtain ⟨r, hr⟩ : ∃ r : Int, r = 0 + (j : Nat) := ⟨_, rfl⟩
      rw [← hr]
      obtain ⟨ps', cs', z5, z6, z7, z8, z9, k0, k1, k2, k3⟩ := inner r ps cs y5 y6 y7 y8 y9 (by omega) (by omega) (by omega) q3
      exact ⟨[.val X, .val Y, .own (ps.map pr), .own (cs.map cellD), .val (.int r), y5, y6, y7, y8, y9], rfl, _, .inl k0, ps', cs', _, _, _, _, _, _, by omega, by omega, k3, rfl⟩) ⟨[], [], .un, .un, .un, .un, .un, .un, by simp, by simp, (fun x hx => by cases hx), rfl⟩
  obtain ⟨e', h1, ps, cs, y4, y5, y6, y7, y8, y9, q1, q2, q3, rfl⟩ := hlp
  refine ⟨cs, ?_, by omega, q3⟩
  refine gDef_ev' (fB := f_Lcells) [.val X, .val Y, .un, .un, .un, .un, .un, .un, .un, .un] rfl rfl ?_
  unfold f_Lcells
  refine (sSeq_nx (e := [.val X, .val Y, .own [], .un, .un, .un, .un, .un, .un, .un]) (by rfl)).trans ?_
  refine (sSeq_nx (e := [.val X, .val Y, .own [], .own [], .un, .un, .un, .un, .un, .un]) (by rfl)).trans ?_
  refine (sSeq_nx (sFor_ev hrg h1)).trans ?_
  exact sRet_ev (eTupO_ev rfl)

/-- a column: least, most, percent, align -/
structure LCol where
  least : Int
  most : Option Int
  pc : Option Int
  al : Str
def oD : Option Int → PyData
  | none => .none
  | some i => .int i
abbrev colD (x : LCol) : PyData := .tuple [.int x.least, oD x.most, oD x.pc, .str x.al]
structure ColOk (x : LCol) : Prop where
  least : 1 ≤ x.least ∧ x.least ≤ 3
  most : ∀ m, x.most = some m → x.least ≤ m ∧ m ≤ 6
  pc : ∀ p, x.pc = some p → 20 ≤ p ∧ p ≤ 50
  al : x.al ∈ (["left", "right", "center"] : List Str)
/-- a row: least, is_head, keeps -/
abbrev LRow := Int × Bool × Bool
abbrev rowD (x : LRow) : PyData := .tuple [.int x.1, .bool x.2.1, .bool x.2.2]
structure LTab where
  cols : List LCol
  rows : List LRow
  cells : List LCell
abbrev tabD (t : LTab) : PyData := .tuple [.tuple (t.cols.map colD), .tuple (t.rows.map rowD), .tuple (t.cells.map cellD)]
structure TabO2 (t : LTab) : Prop where
  nc : 1 ≤ t.cols.length ∧ t.cols.length ≤ 3
  nr : 1 ≤ t.rows.length ∧ t.rows.length ≤ 3
  col : ∀ x ∈ t.cols, ColOk x
  row : ∀ x ∈ t.rows, 1 ≤ x.1 ∧ x.1 ≤ 2
  cl : ∀ x ∈ t.cells, CellO2 t.rows.length t.cols.length x
  cn : t.cells.length ≤ 9
theorem opt_pick (env : En) (i : Nat) (fs : List (Option Int)) (k : Int) {f g : En → Option PyData} (hf : f env = some (.list (fs.map oD))) (hg : g env = some (.int k)) (h : 0 ≤ k ∧ k < fs.length) : ∃ o ∈ fs, e2 ixG f g env = some (oD o) := by
  obtain ⟨o, ho, ha⟩ := pick_ev oD fs k h
  exact ⟨o, ho, e2_ev hf hg ha⟩
theorem ktable_ev (ns : List Int) (st : Nat) (mc mr : Int) (hmc : 1 ≤ mc ∧ mc ≤ 3) (hmr : 1 ≤ mr ∧ mr ≤ 3) : ∃ t : LTab, g_Ltable [.list (ns.map .int), .int (st : Nat), .int mc, .int mr] = some (tabD t) ∧ TabO2 t ∧ (t.cols.length : Int) ≤ mc ∧ (t.rows.length : Int) ≤ mr := by
  obtain ⟨S, hS⟩ : ∃ S : PyData, S = .list (ns.map .int) := ⟨_, rfl⟩
  have hcell : ∀ k : Nat, g_Lcell [S, .int (k : Nat)] = some (.int (ns.getD k 0)) := fun k => by rw [hS]; exact cell_ev ns k
  rw [← hS]
  obtain ⟨ds, hd, hl, hb⟩ := draws_ev (ns.getD st 0) 40 (by decide)
  have m0 := mod_lt (ds.getD 0 0) mc (by omega)
  have m1 := mod_lt (ds.getD 1 0) mr (by omega)
  have m2 := mod_lt (ds.getD 2 0) 2 (by decide)
  obtain ⟨C, hC⟩ : ∃ C : Int, C = 1 + ds.getD 0 0 % mc := ⟨_, rfl⟩
  obtain ⟨R, hR⟩ : ∃ R : Int, R = 1 + ds.getD 1 0 % mr := ⟨_, rfl⟩
  obtain ⟨t, ht⟩ : ∃ t : Int, t = (st : Nat) := ⟨_, rfl⟩
  have hc1 := hcell st
  rw [← ht] at hc1 ⊢
  obtain ⟨Y, hY⟩ : ∃ Y : PyData, Y = .list (ds.map .int) := ⟨_, rfl⟩
  obtain ⟨H, hH1, hH2⟩ : ∃ H : Int, eIf (t1 (e2 eqD (e2 modD (e2 ixG (eVar 4) (eC (.int 3))) (eC (.int 3))) (eC (.int 0)))) (e2 modD (e2 ixG (eVar 4) (eC (.int 2))) (eC (.int 2))) (eC (.int 0)) [.val S, .val (.int t), .val (.int mc), .val (.int mr), .val Y, .un, .un, .un, .un, .un, .un, .un] = some (.int H) ∧ 0 ≤ H ∧ H ≤ 1 := by
    have hv : eVar 4 [.val S, .val (.int t), .val (.int mc), .val (.int mr), .val Y, .un, .un, .un, .un, .un, .un, .un] = some (.list (ds.map .int)) := by rw [hY]; rfl
    by_cases q : ds.getD 3 0 % 3 = 0
    · exact ⟨_, eIf_t (t1_ev (e2_ev (dr_mod' (ds := ds) hv (j := 3) (by omega) rfl (by decide)) rfl ((eqD_int _ _).trans (by rw [decide_eq_true q])))) (dr_mod' (ds := ds) hv (j := 2) (by omega) rfl (by decide)), by omega, by omega⟩
    · exact ⟨0, eIf_f (t1_ev (e2_ev (dr_mod' (ds := ds) hv (j := 3) (by omega) rfl (by decide)) rfl ((eqD_int _ _).trans (by rw [decide_eq_false q])))) rfl, by omega, by omega⟩
  obtain ⟨cs, k1, k2, k3⟩ := kcells_ev ds hl R C H (by omega) (by omega) (by omega)
  obtain ⟨X, hX⟩ : ∃ X : PyData, X = .tuple [.int R, .int C, .int H] := ⟨_, rfl⟩
  rw [← hX, ← hY] at k1
  have hrg := iR1_ev (fa := aCons (e2 ixG (eVar 5) (eC (.int 1))) aNil) (env := [.val S, .val (.int t), .val (.int mc), .val (.int mr), .val Y, .val X, .own [], .un, .un, .un, .un, .un]) (N := C) (by rw [hX]; rfl) (by omega) (by omega)
  have hlp := loop_rng (g := gVal 7) (b := b_Ltable_1) (lo := 0) (n := C.toNat) (e := [.val S, .val (.int t), .val (.int mc), .val (.int mr), .val Y, .val X, .own [], .un, .un, .un, .un, .un])
    (fun j e => ∃ (cl : List LCol) (y7 y8 y9 y10 : Sl), cl.length = j ∧ (∀ x ∈ cl, ColOk x) ∧ e = [.val S, .val (.int t), .val (.int mc), .val (.int mr), .val Y, .val X, .own (cl.map colD), y7, y8, y9, y10, .un]) (fun j e hj he => by
      obtain ⟨cl, y7, y8, y9, y10, q1, q2, rfl⟩ := he
      obtain ⟨k, hk⟩ : ∃ k : Int, k = 0 + (j : Nat) := ⟨_, rfl⟩
      rw [← hk]
      have hk2 : 0 ≤ k ∧ k < 3 := by omega
      refine ⟨[.val S, .val (.int t), .val (.int mc), .val (.int mr), .val Y, .val X, .own (cl.map colD), .val (.int k), y8, y9, y10, .un], rfl, ?_⟩
      have hdr : ∀ (o : Int) (m : Int) (z8 z9 z10 : Sl), 0 ≤ o ∧ o ≤ 37 → 0 < m → e2 modD (e2 ixG (eVar 4) (e2 addD (eC (.int o)) (eVar 7))) (eC (.int m)) [.val S, .val (.int t), .val (.int mc), .val (.int mr), .val Y, .val X, .own (cl.map colD), .val (.int k), z8, z9, z10, .un] = some (.int (ds.getD (o + k).toNat 0 % m)) := fun o m z8 z9 z10 ho hm => by
        rw [hY]
        exact e2_ev (e2_ev (x := .list (ds.map .int)) rfl (e2_ev rfl rfl (addD_int _ _)) (dr_ix ⟨by omega, by omega⟩)) rfl (modD_int hm)
      have n4 := mod_lt (ds.getD (4 + k).toNat 0) 3 (by decide)
      have n7 := mod_lt (ds.getD (7 + k).toNat 0) 4 (by decide)
      have n10 := mod_lt (ds.getD (10 + k).toNat 0) 3 (by decide)
      have n13 := mod_lt (ds.getD (13 + k).toNat 0) 6 (by decide)
      have n16 := mod_lt (ds.getD (16 + k).toNat 0) 3 (by decide)
      obtain ⟨l, hl8⟩ : ∃ l : Int, l = 1 + ds.getD (4 + k).toNat 0 % 3 := ⟨_, rfl⟩
      obtain ⟨mo, hmo, hmo2⟩ := opt_pick [.val S, .val (.int t), .val (.int mc), .val (.int mr), .val Y, .val X, .own (cl.map colD), .val (.int k), .val (.int l), y9, y10, .un] 0 [none, none, some (l + ds.getD (7 + k).toNat 0 % 4)] _
        (f := eL (fLst (aCons (eC .none) (aCons (eC .none) (aCons (e2 addD (eVar 8) (e2 modD (e2 ixG (eVar 4) (e2 addD (eC (.int 7)) (eVar 7))) (eC (.int 4)))) aNil)))))
        (eL_ev (fLst_ev (aCons_ev rfl (aCons_ev rfl (aCons_ev (e2_ev rfl (hdr 7 4 _ _ _ (by decide) (by decide)) (addD_int _ _)) aNil_ev))) (by simp))) (hdr 10 3 _ _ _ (by decide) (by decide)) ⟨n10.1, n10.2⟩
      obtain ⟨pc, hpc, hpc2⟩ := opt_pick [.val S, .val (.int t), .val (.int mc), .val (.int mr), .val Y, .val X, .own (cl.map colD), .val (.int k), .val (.int l), .val (oD mo), y10, .un] 0 [none, none, none, some 20, some 35, some 50] _
        (f := eL (fLst (aCons (eC .none) (aCons (eC .none) (aCons (eC .none) (aCons (eC (.int 20)) (aCons (eC (.int 35)) (aCons (eC (.int 50)) aNil))))))))
        rfl (hdr 13 6 _ _ _ (by decide) (by decide)) ⟨n13.1, n13.2⟩
      obtain ⟨al, hal, hal2⟩ := pick_ev PyData.str (["left", "right", "center"] : List Str) _ ⟨n16.1, n16.2⟩
      refine ⟨[.val S, .val (.int t), .val (.int mc), .val (.int mr), .val Y, .val X, .own ((cl ++ [(⟨l, mo, pc, al⟩ : LCol)]).map colD), .val (.int k), .val (.int l), .val (oD mo), .val (oD pc), .un], .inl ?_, cl ++ [⟨l, mo, pc, al⟩], _, _, _, _, by simp [q1], ?_, rfl⟩
      · unfold b_Ltable_1
        refine (sSeq_nx (e := [.val S, .val (.int t), .val (.int mc), .val (.int mr), .val Y, .val X, .own (cl.map colD), .val (.int k), .val (.int l), y9, y10, .un]) (by rw [hl8]; exact sSet_ev (e2_ev rfl (hdr 4 3 _ _ _ (by decide) (by decide)) (addD_int _ _)))).trans ?_
        refine (sSeq_nx (e := [.val S, .val (.int t), .val (.int mc), .val (.int mr), .val Y, .val X, .own (cl.map colD), .val (.int k), .val (.int l), .val (oD mo), y10, .un]) (sSet_ev hmo2)).trans ?_
        refine (sSeq_nx (e := [.val S, .val (.int t), .val (.int mc), .val (.int mr), .val Y, .val X, .own (cl.map colD), .val (.int k), .val (.int l), .val (oD mo), .val (oD pc), .un]) (sSet_ev hpc2)).trans ?_
        rw [List.map_append]
        exact sApp_ev (i := 6) (eTup_ev (aCons_ev rfl (aCons_ev rfl (aCons_ev rfl (aCons_ev (e2_ev (x := .list ((["left", "right", "center"] : List Str).map .str)) rfl (hdr 16 3 _ _ _ (by decide) (by decide)) hal2) aNil_ev)))) (by simp)) rfl (by rw [List.length_map]; omega)
      · intro x hx
        rcases List.mem_append.mp hx with hx | hx
        · exact q2 x hx
        · rw [List.mem_singleton.mp hx]
          refine ⟨⟨by show 1 ≤ l; omega, by show l ≤ 3; omega⟩, fun m hm => ?_, fun p hp => ?_, hal⟩
          · have hm : mo = some m := hm
            rw [hm] at hmo
            simp at hmo
            exact ⟨by show l ≤ m; omega, by omega⟩
          · have hp : pc = some p := hp
            rw [hp] at hpc
            simp at hpc
            omega) ⟨[], .un, .un, .un, .un, rfl, (fun x hx => by cases hx), rfl⟩
  obtain ⟨e', h1, cl, y7, y8, y9, y10, q1, q2, rfl⟩ := hlp
  have hrows : ∃ rs : List LRow, rs.length = R.toNat ∧ (∀ x ∈ rs, 1 ≤ x.1 ∧ x.1 ≤ 2) ∧ compF (gVal 7) tYes' c_Ltable_1 [.val S, .val (.int t), .val (.int mc), .val (.int mr), .val Y, .val X, .own (cl.map colD), .un, y8, y9, y10, .un] (rngD 0 R.toNat) = some (rs.map rowD) := by
    have aux : ∀ ks : List Nat, (∀ k ∈ ks, k < 3) → ∃ rs : List LRow, rs.length = ks.length ∧ (∀ x ∈ rs, 1 ≤ x.1 ∧ x.1 ≤ 2) ∧ compF (gVal 7) tYes' c_Ltable_1 [.val S, .val (.int t), .val (.int mc), .val (.int mr), .val Y, .val X, .own (cl.map colD), .un, y8, y9, y10, .un] (ks.map fun k => .int (0 + (k : Nat))) = some (rs.map rowD) := by
      intro ks
      induction ks with
      | nil => exact fun _ => ⟨[], rfl, (fun x hx => by cases hx), rfl⟩
      | cons j ks ih =>
        intro hks
        obtain ⟨rs, z0, z1, z2⟩ := ih fun k hk => hks k (List.mem_cons_of_mem _ hk)
        have hj := hks j List.mem_cons_self
        obtain ⟨k, hk⟩ : ∃ k : Int, k = 0 + (j : Nat) := ⟨_, rfl⟩
        have hdr : ∀ (o : Int) (m : Int), 0 ≤ o ∧ o ≤ 37 → 0 < m → e2 modD (e2 ixG (eVar 4) (e2 addD (eC (.int o)) (eVar 7))) (eC (.int m)) [.val S, .val (.int t), .val (.int mc), .val (.int mr), .val Y, .val X, .own (cl.map colD), .val (.int k), y8, y9, y10, .un] = some (.int (ds.getD (o + k).toNat 0 % m)) := fun o m ho hm => by
          rw [hY]
          exact e2_ev (e2_ev (x := .list (ds.map .int)) rfl (e2_ev rfl rfl (addD_int _ _)) (dr_ix ⟨by omega, by omega⟩)) rfl (modD_int hm)
        have n19 := mod_lt (ds.getD (19 + k).toNat 0) 2 (by decide)
        refine ⟨(1 + ds.getD (19 + k).toNat 0 % 2, decide (k < H), decide (ds.getD (22 + k).toNat 0 % 4 = 1)) :: rs, by simp [z0], fun x hx => ?_, ?_⟩
        · rcases List.mem_cons.mp hx with e | hx
          · rw [e]
            exact ⟨by show 1 ≤ 1 + ds.getD (19 + k).toNat 0 % 2; omega, by show 1 + ds.getD (19 + k).toNat 0 % 2 ≤ 2; omega⟩
          · exact z1 x hx
        · rw [List.map_cons, ← hk]
          have hce : c_Ltable_1 [.val S, .val (.int t), .val (.int mc), .val (.int mr), .val Y, .val X, .own (cl.map colD), .val (.int k), y8, y9, y10, .un] = some (rowD (1 + ds.getD (19 + k).toNat 0 % 2, decide (k < H), decide (ds.getD (22 + k).toNat 0 % 4 = 1))) :=
            eTup_ev (aCons_ev (e2_ev rfl (hdr 19 2 (by decide) (by decide)) (addD_int _ _)) (aCons_ev (e2_ev rfl (e2_ev (x := X) (y := .int 2) (d := .int H) rfl rfl (by rw [hX]; rfl)) (ltD_int _ _)) (aCons_ev (e2_ev (hdr 22 4 (by decide) (by decide)) rfl (eqD_int _ _)) aNil_ev))) (by simp)
          simp only [compF, gVal, List.set_cons_succ, List.set_cons_zero, tYes', hce]
          rw [z2]
          rfl
    obtain ⟨rs, z0, z1, z2⟩ := aux (List.range R.toNat) fun k hk => by have := List.mem_range.mp hk; omega
    exact ⟨rs, by rw [z0, List.length_range], z1, z2⟩
  obtain ⟨rs, r1, r2, r3⟩ := hrows
  have hRc : ((rs.length : Nat) : Int) = R := by omega
  have hCc : ((cl.length : Nat) : Int) = C := by omega
  refine ⟨⟨cl, rs, cs⟩, ?_, ⟨by show 1 ≤ cl.length ∧ cl.length ≤ 3; omega, by show 1 ≤ rs.length ∧ rs.length ≤ 3; omega, q2, r2, by show ∀ x ∈ cs, CellO2 (rs.length : Nat) (cl.length : Nat) x; rw [hRc, hCc]; exact k3, k2⟩, by show (cl.length : Int) ≤ mc; omega, by show (rs.length : Int) ≤ mr; omega⟩
  refine gDef_ev' (fB := f_Ltable) [.val S, .val (.int t), .val (.int mc), .val (.int mr), .un, .un, .un, .un, .un, .un, .un, .un] rfl rfl ?_
  unfold f_Ltable
  refine (sSeq_nx (e := [.val S, .val (.int t), .val (.int mc), .val (.int mr), .val Y, .un, .un, .un, .un, .un, .un, .un]) (by rw [hY]; exact sSet_ev (eCall_ev (aCons_ev (eCall_ev (aCons_ev rfl (aCons_ev rfl aNil_ev)) hc1) (aCons_ev rfl aNil_ev)) hd))).trans ?_
  refine (sSeq_nx (e := [.val S, .val (.int t), .val (.int mc), .val (.int mr), .val Y, .val X, .un, .un, .un, .un, .un, .un]) ?_).trans ?_
  · have hv : eVar 4 [.val S, .val (.int t), .val (.int mc), .val (.int mr), .val Y, .un, .un, .un, .un, .un, .un, .un] = some (.list (ds.map .int)) := by rw [hY]; rfl
    rw [hX, hR, hC]
    exact sSet_ev (eTup_ev (aCons_ev (e2_ev rfl (e2_ev (dr_at (ds := ds) hv (j := 1) (by omega) rfl) rfl (modD_int (by omega))) (addD_int _ _)) (aCons_ev (e2_ev rfl (e2_ev (dr_at (ds := ds) hv (j := 0) (by omega) rfl) rfl (modD_int (by omega))) (addD_int _ _)) (aCons_ev hH1 aNil_ev))) (by simp))
  refine (sSeq_nx (e := [.val S, .val (.int t), .val (.int mc), .val (.int mr), .val Y, .val X, .own [], .un, .un, .un, .un, .un]) (by rfl)).trans ?_
  refine (sSeq_nx (sFor_ev hrg h1)).trans ?_
  refine (sSeq_nx (e := [.val S, .val (.int t), .val (.int mc), .val (.int mr), .val Y, .val X, .own (cl.map colD), y7, y8, y9, y10, .val (.list (rs.map rowD))]) (sSet_ev (eL_ev (fCmp_ev (iR1_ev (N := R) (aCons_ev (by rw [hX]; rfl) aNil_ev) (by omega) (by omega)) r3 (by rw [List.length_map]; omega))))).trans ?_
  exact sRet_ev (eTup_ev (aCons_ev (eTupO_ev rfl) (aCons_ev (eCall_ev (aCons_ev rfl aNil_ev) rfl) (aCons_ev (eCall_ev (aCons_ev rfl (aCons_ev rfl aNil_ev)) k1) aNil_ev))) (by simp))
def pool8 : List Str := ["a", "bb", "c", "dd", "eeeeeeee"]
theorem pool8_ok : ∀ w ∈ pool8, 1 ≤ w.length ∧ w.length ≤ 8 ∧ PyData.strOk w = true := by decide +kernel
theorem pool48 : ∀ w ∈ pool4, w ∈ pool8 := by decide +kernel
structure CellOk (R C : Int) (x : LCell) : Prop where
  r : 0 ≤ x.r
  c : 0 ≤ x.c
  h : 1 ≤ x.h
  w : 1 ≤ x.w
  rh : x.r + x.h ≤ R
  cw : x.c + x.w ≤ C
  l : x.ws.length ≤ 4
  p : ∀ w ∈ x.ws, w ∈ pool8
structure TabOk (t : LTab) : Prop where
  nc : 1 ≤ t.cols.length ∧ t.cols.length ≤ 3
  nr : 1 ≤ t.rows.length ∧ t.rows.length ≤ 3
  col : ∀ x ∈ t.cols, ColOk x
  row : ∀ x ∈ t.rows, 1 ≤ x.1 ∧ x.1 ≤ 2
  cl : ∀ x ∈ t.cells, CellOk t.rows.length t.cols.length x
  cn : t.cells.length ≤ 9
theorem TabO2.up {t : LTab} (h : TabO2 t) : TabOk t := ⟨h.nc, h.nr, h.col, h.row, fun x hx => let k := h.cl x hx; ⟨k.r, k.c, k.h, k.w, k.rh, k.cw, k.l, fun w hw => pool48 w (k.p w hw)⟩, h.cn⟩

/-! boundbook.constraints -/
abbrev conD (c : Con) : PyData := .tuple [.int (c.1 : Nat), .int (c.2.1 : Nat), .int c.2.2]
theorem eqv_ints : ∀ xs ys : List Int, PyData.eqvAll (xs.map PyData.int) (ys.map PyData.int) = decide (xs = ys)
  | [], [] => by simp [PyData.eqvAll]
  | [], y :: ys => by simp [PyData.eqvAll]
  | x :: xs, [] => by simp [PyData.eqvAll]
  | x :: xs, y :: ys => by
    simp only [List.map_cons, PyData.eqvAll, PyData.eqv, eqv_ints xs ys]
    by_cases h : x = y
    · subst h
      simp
    · simp [h]
theorem lay_ints : ∀ xs : List Int, PyData.canLayAll0 (xs.map PyData.int) = true ∧ PyData.depthAll (xs.map PyData.int) = 0
  | [] => by simp [PyData.canLayAll0, PyData.depthAll]
  | x :: xs => by
    obtain ⟨h1, h2⟩ := lay_ints xs
    simp [PyData.canLayAll0, PyData.canLay0, PyData.depthAll, PyData.depth, h1, h2]
theorem shaped_ints (xs : List Int) : SeqAt.shaped (.list (xs.map PyData.int)) = true ∧ SeqAt.shaped (.tuple (xs.map PyData.int)) = true := by
  obtain ⟨h1, h2⟩ := lay_ints xs
  unfold SeqAt.shaped
  simp [PyData.canLay0, h1, PyData.depth, h2]
theorem eqD_ints (xs ys : List Int) : eqD (.list (xs.map .int)) (.list (ys.map .int)) = some (.bool (decide (xs = ys))) := by
  unfold eqD
  simp only [(shaped_ints xs).1, (shaped_ints ys).1, Bool.and_self, if_true, PyData.eqv, eqv_ints]
theorem eqD_intT (xs ys : List Int) : eqD (.tuple (xs.map .int)) (.tuple (ys.map .int)) = some (.bool (decide (xs = ys))) := by
  unfold eqD
  simp only [(shaped_ints xs).2, (shaped_ints ys).2, Bool.and_self, if_true, PyData.eqv, eqv_ints]
theorem neD_intT (xs ys : List Int) : neD (.tuple (xs.map .int)) (.tuple (ys.map .int)) = some (.bool (!decide (xs = ys))) := by
  unfold neD
  simp only [(shaped_ints xs).2, (shaped_ints ys).2, Bool.and_self, if_true, PyData.eqv, eqv_ints]
theorem ixN_nat {n j : Nat} (h : j < n) : ixN n (j : Int) = some j := by
  unfold ixN
  rw [if_pos (by omega), if_pos (by omega)]
  congr 1
theorem raised_loop (a0 a1 : Sl) : ∀ (cs : List Con) (h : List Int) (y3 y4 y5 : Sl), Ix cs h.length → ∃ z3 z4 z5, loopF (gT [3, 4, 5]) b_raised_1 (cs.map conD) [a0, a1, .own (h.map .int), y3, y4, y5] = .nx [a0, a1, .own ((rz cs h).map .int), z3, z4, z5]
  | [], h, y3, y4, y5, _ => ⟨y3, y4, y5, rfl⟩
  | c :: cs, h, y3, y4, y5, hi => by
    obtain ⟨h1, h2⟩ := hi c List.mem_cons_self
    have hb : b_raised_1 [a0, a1, .own (h.map .int), .val (.int (c.1 : Nat)), .val (.int (c.2.1 : Nat)), .val (.int c.2.2)] = .nx [a0, a1, .own ((rz1 h c).map .int), .val (.int (c.1 : Nat)), .val (.int (c.2.1 : Nat)), .val (.int c.2.2)] := by
      have k1 := atI_map PyData.int h c.1 (h.getD c.1 0) (by simp [List.getD, h1])
      have k2 := atI_map PyData.int h c.2.1 (h.getD c.2.1 0) (by simp [List.getD, h2])
      have hs : e2 addD (eIxO 2 (eVar 3)) (eVar 5) [a0, a1, .own (h.map .int), .val (.int (c.1 : Nat)), .val (.int (c.2.1 : Nat)), .val (.int c.2.2)] = some (.int (h.getD c.1 0 + c.2.2)) := e2_ev (eIxO_ev rfl rfl k1) rfl (addD_int _ _)
      have ht := t1_ev (e2_ev (eIxO_ev (i := 2) (g := eVar 4) (env := [a0, a1, .own (h.map .int), .val (.int (c.1 : Nat)), .val (.int (c.2.1 : Nat)), .val (.int c.2.2)]) rfl rfl k2) hs (ltD_int _ _))
      unfold b_raised_1 rz1
      by_cases q : h.getD c.2.1 0 < h.getD c.1 0 + c.2.2
      · rw [decide_eq_true q] at ht
        rw [if_pos q]
        refine (sIf_t ht).trans ?_
        unfold sPut
        rw [hs]
        show (match ixD (h.map PyData.int).length (.int (c.2.1 : Nat)) with | some j => _ | none => _) = _
        rw [show ixD (h.map PyData.int).length (.int (c.2.1 : Nat)) = some c.2.1 from ixN_nat (by rw [List.length_map]; exact h2)]
        show Out.nx [a0, a1, .own ((h.map PyData.int).set c.2.1 _), _, _, _] = _
        rw [← List.map_set]
      · rw [decide_eq_false q] at ht
        rw [if_neg q]
        exact (sIf_f ht).trans rfl
    obtain ⟨z3, z4, z5, ih⟩ := raised_loop a0 a1 cs (rz1 h c) (.val (.int (c.1 : Nat))) (.val (.int (c.2.1 : Nat))) (.val (.int c.2.2)) (fun d hd => by rw [rz1_len]; exact hi d (List.mem_cons_of_mem _ hd))
    refine ⟨z3, z4, z5, ?_⟩
    rw [List.map_cons]
    show loopF (gT [3, 4, 5]) b_raised_1 (.tuple [.int (c.1 : Nat), .int (c.2.1 : Nat), .int c.2.2] :: cs.map conD) _ = _
    simp only [loopF, gT, gMany, gVal, List.set_cons_succ, List.set_cons_zero, hb]
    exact ih
theorem raised_ev (p : List Int) (cs : List Con) (hi : Ix cs p.length) (hl : p.length ≤ 1000) : g_raised [.list (p.map .int), .list (cs.map conD)] = some (.list ((rz cs p).map .int)) := by
  obtain ⟨z3, z4, z5, h⟩ := raised_loop (.val (.list (p.map .int))) (.val (.list (cs.map conD))) cs p .un .un .un hi
  refine gDef_ev' (fB := f_raised) [.val (.list (p.map .int)), .val (.list (cs.map conD)), .un, .un, .un, .un] rfl rfl ?_
  unfold f_raised
  refine (sSeq_nx (e := [.val (.list (p.map .int)), .val (.list (cs.map conD)), .own (p.map .int), .un, .un, .un]) (by rfl)).trans ?_
  exact (sSeq_nx (sFor_ev (ds := cs.map conD) (by rfl) h)).trans rfl
theorem lp_loop (cs : List Con) (N : Nat) (hN : 0 < N) (hN2 : N ≤ 1000) (hi : Ix cs N) (a0 : Sl) : ∀ (ds : List PyData) (p : List Int) (y3 y4 : Sl), p.length = N →
    (match lp cs ds.length p with
    | some m => loopF (gVal 3) b_least_positions_1 ds [a0, .val (.list (cs.map conD)), .val (.list (p.map .int)), y3, y4] = .rt (.list (m.map .int))
    | none => (∃ e, loopF (gVal 3) b_least_positions_1 ds [a0, .val (.list (cs.map conD)), .val (.list (p.map .int)), y3, y4] = .nx e) ∨ loopF (gVal 3) b_least_positions_1 ds [a0, .val (.list (cs.map conD)), .val (.list (p.map .int)), y3, y4] = .rt .none)
  | [], p, y3, y4, hl => .inl ⟨_, rfl⟩
  | d :: ds, p, y3, y4, hl => by
    have hi' : Ix cs p.length := by rw [hl]; exact hi
    have s1 : sSet 4 (eCall g_raised (aCons (eVar 2) (aCons (eVar 1) aNil))) [a0, .val (.list (cs.map conD)), .val (.list (p.map .int)), .val d, y4] = .nx [a0, .val (.list (cs.map conD)), .val (.list (p.map .int)), .val d, .val (.list ((rz cs p).map .int))] :=
      sSet_ev (eCall_ev (aCons_ev rfl (aCons_ev rfl aNil_ev)) (raised_ev p cs hi' (by omega)))
    have t1' : t1 (e2 eqD (eVar 4) (eVar 2)) [a0, .val (.list (cs.map conD)), .val (.list (p.map .int)), .val d, .val (.list ((rz cs p).map .int))] = some (decide (rz cs p = p)) := t1_ev (e2_ev rfl rfl (eqD_ints _ _))
    have t2' : t1 (e2 gtD (e2 ixG (eVar 4) (eC (.int 0))) (eC (.int 0))) [a0, .val (.list (cs.map conD)), .val (.list (p.map .int)), .val d, .val (.list ((rz cs p).map .int))] = some (decide (0 < (rz cs p).getD 0 0)) := by
      have e1 := atI_map PyData.int (rz cs p) 0 ((rz cs p).getD 0 0) (by
        have : 0 < (rz cs p).length := by rw [rz_len, hl]; exact hN
        simp [List.getD, this])
      exact t1_ev (e2_ev (e2_ev rfl rfl e1) rfl (gtD_int _ _))
    rw [List.length_cons]
    unfold lp
    by_cases q : rz cs p = p
    · rw [decide_eq_true q] at t1'
      rw [if_pos q]
      have hb : b_least_positions_1 [a0, .val (.list (cs.map conD)), .val (.list (p.map .int)), .val d, y4] = .rt (.list (p.map .int)) := by
        unfold b_least_positions_1
        exact (sSeq_nx s1).trans (sSeq_rt ((sIf_t t1').trans rfl))
      simp only [loopF, gVal, List.set_cons_succ, List.set_cons_zero, hb]
    · rw [decide_eq_false q] at t1'
      rw [if_neg q]
      by_cases z : 0 < (rz cs p).getD 0 0
      · rw [decide_eq_true z] at t2'
        rw [if_pos z]
        have hb : b_least_positions_1 [a0, .val (.list (cs.map conD)), .val (.list (p.map .int)), .val d, y4] = .rt .none := by
          unfold b_least_positions_1
          exact (sSeq_nx s1).trans ((sSeq_nx ((sIf_f t1').trans rfl)).trans (sSeq_rt ((sIf_t t2').trans rfl)))
        refine .inr ?_
        simp only [loopF, gVal, List.set_cons_succ, List.set_cons_zero, hb]
      · rw [decide_eq_false z] at t2'
        rw [if_neg z]
        have hb : b_least_positions_1 [a0, .val (.list (cs.map conD)), .val (.list (p.map .int)), .val d, y4] = .nx [a0, .val (.list (cs.map conD)), .val (.list ((rz cs p).map .int)), .val d, .val (.list ((rz cs p).map .int))] := by
          unfold b_least_positions_1
          exact (sSeq_nx s1).trans ((sSeq_nx ((sIf_f t1').trans rfl)).trans ((sSeq_nx ((sIf_f t2').trans rfl)).trans rfl))
        have ih := lp_loop cs N hN hN2 hi a0 ds (rz cs p) (.val d) (.val (.list ((rz cs p).map .int))) (by rw [rz_len, hl])
        have hstep : loopF (gVal 3) b_least_positions_1 (d :: ds) [a0, .val (.list (cs.map conD)), .val (.list (p.map .int)), y3, y4] = loopF (gVal 3) b_least_positions_1 ds [a0, .val (.list (cs.map conD)), .val (.list ((rz cs p).map .int)), .val d, .val (.list ((rz cs p).map .int))] := by
          simp only [loopF, gVal, List.set_cons_succ, List.set_cons_zero, hb]
        rw [hstep]
        exact ih
theorem lp_ev (cs : List Con) (N : Nat) (hN : 0 < N) (hN2 : N ≤ 1000) (hi : Ix cs N) : g_least_positions [.int (N : Nat), .list (cs.map conD)] = some (match lp cs N (zs N) with
    | some m => .list (m.map .int)
    | none => .none) := by
  have hl := lp_loop cs N hN hN2 hi (.val (.int (N : Nat))) (rngD 0 N) (zs N) .un .un (by simp [zs])
  rw [rng_len] at hl
  have hr := iR1_ev (fa := aCons (eVar 0) aNil) (env := [.val (.int (N : Nat)), .val (.list (cs.map conD)), .val (.list ((zs N).map .int)), .un, .un]) (N := (N : Nat)) rfl (by omega) (by omega)
  rw [Int.toNat_natCast] at hr
  refine gDef_ev' (fB := f_least_positions) [.val (.int (N : Nat)), .val (.list (cs.map conD)), .un, .un, .un] rfl rfl ?_
  unfold f_least_positions
  refine (sSeq_nx (e := [.val (.int (N : Nat)), .val (.list (cs.map conD)), .val (.list ((zs N).map .int)), .un, .un]) (sSet_ev (eL_ev ?_))).trans ?_
  · refine (fRep_ev (ds := [.int 0]) (k := (N : Nat)) (by rfl) (by rfl) (by omega) (by rw [Int.toNat_natCast]; show 1 * N ≤ _; omega)).trans ?_
    rw [Int.toNat_natCast, rep_flat]
    unfold zs
    rw [List.map_replicate]
  · cases hz : lp cs N (zs N) with
    | some m =>
      rw [hz] at hl
      exact sSeq_rt (sFor_ev hr hl)
    | none =>
      rw [hz] at hl
      rcases hl with ⟨e, hl⟩ | hl
      · exact (sSeq_nx (sFor_ev hr hl)).trans rfl
      · exact sSeq_rt (sFor_ev hr hl)

abbrev tws (ws : List Str) : List PyData := ws.map PyData.str
def lg (ws : List Str) : Int := match ws.map (fun w => (w.length : Int)) with
  | [] => 0
  | n :: ns => mxI n ns
theorem longest_ev (ws : List Str) (h : ∀ w ∈ ws, w.length ≤ 8) (hl : ws.length ≤ 1000) : g_longest [.tuple (tws ws)] = some (.int (lg ws)) := by
  have h1 : compF (gVal 1) tYes' c_longest_1 [.val (.tuple (tws ws)), .un] (ws.map PyData.str) = some (ws.map fun w => .int (w.length : Int)) := by
    refine compF_mapS fun w hw => ⟨[.val (.tuple (tws ws)), .val (.str w)], rfl, ?_⟩
    have h8 := h w hw
    simp [c_longest_1, eCall, aCons, aNil, eVar, lenA, show w.length ≤ 1000000 by omega]
  have h2 : fCmp [1] (iSeq (eVar 0)) (gVal 1) tYes' c_longest_1 [.val (.tuple (tws ws)), .un] = some (ws.map fun w => .int (w.length : Int)) := by
    simp only [fCmp, iSeq, eVar, List.getElem?_cons_zero, wipeE, List.set_cons_succ, List.set_cons_zero]
    rw [h1]
    simp [show ws.length ≤ 1000000 by omega]
  have h3 : intsD (ws.map fun w => PyData.int (w.length : Int)) = some (ws.map fun w => (w.length : Int)) := by
    have := intsD_map (ws.map fun w => (w.length : Int))
    rw [List.map_map] at this
    exact this
  show outD (f_longest [.val (.tuple (tws ws)), .un]) = _
  simp only [f_longest, sRet, eMxD, eL, h2, Option.map_some, h3, eC, outD, lg]
  cases ws with
  | nil => rfl
  | cons w ws => rfl
theorem length_of_ev (ws : List Str) (h : ∀ w ∈ ws, w.length ≤ 8) (hl : ws.length ≤ 1000) : g_length_of [.tuple (tws ws)] = some (.int (jl ws)) := by
  show outD (f_length_of [.val (.tuple (tws ws))]) = _
  have h1 : eJoin (eC (.str " ")) (eVar 0) [.val (.tuple (tws ws))] = some (.str (Txt.join " " ws)) := by
    have hb : (ws.map (·.length)).sum + ws.length * (" " : Str).length ≤ 1000000 := by
      rw [spc_len]
      have : ∀ l : List Str, (∀ w ∈ l, w.length ≤ 8) → (l.map (·.length)).sum ≤ 8 * l.length := by
        intro l
        induction l with
        | nil => intro _; simp
        | cons x l ih =>
          intro hh
          have h1 := hh x List.mem_cons_self
          have h2 := ih fun w hw => hh w (List.mem_cons_of_mem _ hw)
          simp only [List.map_cons, List.sum_cons, List.length_cons]
          omega
      have := this ws h
      omega
    simp only [eJoin, e2, eC, eVar, List.getElem?_cons_zero, strsD_map, hb, if_true]
  have h2 : jl ws ≤ 1000000 := by
    have := jl_le ws h
    omega
  simp only [f_length_of, sRet, eCall, aCons, aNil, h1, lenA, outD]
  rw [if_pos (show (Txt.join " " ws).length ≤ 1000000 from h2)]
  rfl

/-! wrap -/
def step (W : Int) (s : List (List Str) × List Str) (w : Str) : List (List Str) × List Str := if s.2 ≠ [] ∧ W < (jl s.2 : Int) + 1 + w.length then (s.1 ++ [s.2], [w]) else (s.1, s.2 ++ [w])
abbrev tls (ls : List (List Str)) : List PyData := ls.map fun l => .tuple (tws l)
theorem tws_app (l : List Str) (w : Str) : tws (l ++ [w]) = tws l ++ [.str w] := by simp [tws]
theorem tls_app (l : List (List Str)) (w : List Str) : tls (l ++ [w]) = tls l ++ [.tuple (tws w)] := by simp [tls]
theorem wrap_body (a : PyData) (W : Int) (s : List (List Str) × List Str) (w : Str) (h : ∀ w ∈ s.2, w.length ≤ 8) (hw : w.length ≤ 8) (h1 : s.1.length < 1000) (h2 : s.2.length < 1000) :
    b_wrap_1 [.val a, .val (.int W), .own (tls s.1), .val (.tuple (tws s.2)), .val (.str w)] = .nx [.val a, .val (.int W), .own (tls (step W s w).1), .val (.tuple (tws (step W s w).2)), .val (.str w)] := by
  obtain ⟨lines, line⟩ := s
  simp only at h h1 h2
  have hlen : w.length ≤ 1000000 := by omega
  have happ : addD (.tuple (tws line)) (.tuple [.str w]) = some (.tuple (tws (line ++ [w]))) := by
    rw [addD_tup (by simp [tws]; omega), tws_app]
  cases line with
  | nil =>
    have e : step W (lines, []) w = (lines, [w]) := by simp [step]
    rw [e]
    simp [b_wrap_1, sSeq, sIf, tAnd', tTr, eVar, truD, sNil, sSet, e2, eTup, aCons, aNil, addD]
  | cons x r =>
    have hlo := length_of_ev (x :: r) h (by omega)
    have hx : addD (.tuple (tws (x :: r))) (.tuple [.str w]) = some (.tuple (tws (x :: r ++ [w]))) := happ
    by_cases hc : W < (jl (x :: r) : Int) + 1 + w.length
    · have e : step W (lines, x :: r) w = (lines ++ [x :: r], [w]) := by simp [step, hc]
      rw [e]
      simp [b_wrap_1, sSeq, sIf, tAnd', tTr, eVar, truD, sNil, sSet, e2, eTup, aCons, aNil, t1, gtD, i2, eCall, eC, lenA, hlen, hc, sApp, addD]
      rw [show g_length_of [PyData.tuple (PyData.str x :: List.map PyData.str r)] = some (.int (jl (x :: r))) from hlo]
      simp [hc, show lines.length < 1000000 by omega]
    · have e : step W (lines, x :: r) w = (lines, x :: r ++ [w]) := by simp [step, hc]
      rw [e]
      simp [b_wrap_1, sSeq, sIf, tAnd', tTr, eVar, truD, sNil, sSet, e2, eTup, aCons, aNil, t1, gtD, i2, eCall, eC, lenA, hlen, hc, sApp]
      rw [show g_length_of [PyData.tuple (PyData.str x :: List.map PyData.str r)] = some (.int (jl (x :: r))) from hlo]
      simp [addD, hc, show r.length ≤ 999998 by simp at h2; omega]
theorem wrap_loop (a : PyData) (W : Int) : ∀ (ws : List Str) (s : List (List Str) × List Str) (x : Sl), (∀ w ∈ ws, w.length ≤ 8) → (∀ w ∈ s.2, w.length ≤ 8) → s.1.length + ws.length < 1000 → s.2.length + ws.length < 1000 →
    ∃ x', loopF (gVal 4) b_wrap_1 (tws ws) [.val a, .val (.int W), .own (tls s.1), .val (.tuple (tws s.2)), x] = .nx [.val a, .val (.int W), .own (tls (ws.foldl (step W) s).1), .val (.tuple (tws (ws.foldl (step W) s).2)), x']
  | [], s, x, _, _, _, _ => ⟨x, rfl⟩
  | w :: ws, s, x, h, h', h1, h2 => by
    have hw := h w List.mem_cons_self
    simp only [List.length_cons] at h1 h2
    have hb := wrap_body a W s w h' hw (by omega) (by omega)
    have hs : (∀ v ∈ (step W s w).2, v.length ≤ 8) ∧ (step W s w).1.length ≤ s.1.length + 1 ∧ (step W s w).2.length ≤ s.2.length + 1 := by
      unfold step
      split
      · refine ⟨fun v hv => ?_, ?_, ?_⟩
        · rw [List.mem_singleton.mp hv]; exact hw
        · simp
        · simp
      · refine ⟨fun v hv => ?_, ?_, ?_⟩
        · rcases List.mem_append.mp hv with hv | hv
          · exact h' v hv
          · rw [List.mem_singleton.mp hv]; exact hw
        · simp
        · simp
    obtain ⟨x', ih⟩ := wrap_loop a W ws (step W s w) (.val (.str w)) (fun v hv => h v (List.mem_cons_of_mem _ hv)) hs.1 (by omega) (by omega)
    refine ⟨x', ?_⟩
    show loopF (gVal 4) b_wrap_1 (.str w :: tws ws) _ = _
    simp only [loopF, gVal, List.set_cons_succ, List.set_cons_zero, hb]
    exact ih
def wrapM (W : Int) (ws : List Str) : List (List Str) := let s := ws.foldl (step W) ([], []); if s.2 = [] then s.1 else s.1 ++ [s.2]
theorem step_len (W : Int) : ∀ (ws : List Str) (s : List (List Str) × List Str), (ws.foldl (step W) s).1.length ≤ s.1.length + ws.length
  | [], s => Nat.le_refl _
  | w :: ws, s => by
    have ih := step_len W ws (step W s w)
    have : (step W s w).1.length ≤ s.1.length + 1 := by
      unfold step
      split <;> simp
    simp only [List.foldl_cons, List.length_cons]
    omega
theorem wrap_ev (ws : List Str) (W : Int) (h : ∀ w ∈ ws, w.length ≤ 8) (hl : ws.length ≤ 100) : g_wrap [.tuple (tws ws), .int W] = some (if W < lg ws then .none else .list (tls (wrapM W ws))) := by
  have hlg := longest_ev ws h (by omega)
  show outD (f_wrap [.val (.tuple (tws ws)), .val (.int W), .un, .un, .un]) = _
  by_cases hW : W < lg ws
  · simp [f_wrap, sSeq, sIf, t1, e2, eCall, aCons, aNil, eVar, hlg, gtD, i2, hW, sRet, eC, outD]
  · obtain ⟨x', hloop⟩ := wrap_loop (.tuple (tws ws)) W ws ([], []) .un h (fun w hw => by cases hw) (by simp; omega) (by simp; omega)
    have hsl := step_len W ws ([], [])
    simp only [List.length_nil, Nat.zero_add] at hsl
    simp only [f_wrap, sSeq, sIf, t1, e2, eCall, aCons, aNil, eVar, hlg, gtD, i2, hW, sRet, eC, outD, decide_false, sNil, sOwn, fLst, sSet, eTup, sFor, iSeq, List.getElem?_cons_zero, List.getElem?_cons_succ, List.set_cons_zero, List.set_cons_succ, List.length_nil, Nat.zero_le, if_true, if_false]
    rw [show (Sl.own ([] : List PyData)) = Sl.own (tls (([] : List (List Str)), ([] : List Str)).1) from rfl, show (Sl.val (PyData.tuple [])) = Sl.val (.tuple (tws (([] : List (List Str)), ([] : List Str)).2)) from rfl]
    rw [hloop]
    generalize hS : ws.foldl (step W) ([], []) = S at *
    obtain ⟨lines, line⟩ := S
    simp only [wrapM, hS]
    cases line with
    | nil => simp [tTr, eVar, truD, frz]
    | cons y r =>
      simp only at hsl
      simp [tTr, eVar, truD, frz, sApp, show lines.length < 1000000 by omega]

/-! the mathematics -/
def hdl : List Str → Int
  | [] => 0
  | w :: _ => w.length
def Good (W : Int) : List (List Str) → Prop
  | [] => True
  | [l] => l ≠ [] ∧ (jl l : Int) ≤ W
  | l :: m :: r => (l ≠ [] ∧ (jl l : Int) ≤ W) ∧ W < (jl l : Int) + 1 + hdl m ∧ Good W (m :: r)
theorem good_new {W : Int} {l : List Str} {w : Str} (h1 : W < (jl l : Int) + 1 + w.length) (h2 : (w.length : Int) ≤ W) : ∀ {L : List (List Str)}, Good W (L ++ [l]) → Good W (L ++ [l] ++ [[w]])
  | [], h => ⟨h, h1, by simp, by rw [jl_one]; exact h2⟩
  | [x], h => by
    obtain ⟨a, b, c⟩ := h
    exact ⟨a, b, c, h1, by simp, by rw [jl_one]; exact h2⟩
  | x :: y :: r, h => by
    obtain ⟨a, b, c⟩ := h
    exact ⟨a, b, good_new (L := y :: r) h1 h2 c⟩
theorem hdl_app {l : List Str} {w : Str} (h : l ≠ []) : hdl (l ++ [w]) = hdl l := by
  cases l with
  | nil => exact absurd rfl h
  | cons x r => rfl
theorem good_more {W : Int} {l : List Str} {w : Str} (h0 : l ≠ []) (h1 : (jl (l ++ [w]) : Int) ≤ W) : ∀ {L : List (List Str)}, Good W (L ++ [l]) → Good W (L ++ [l ++ [w]])
  | [], h => ⟨by simp, h1⟩
  | [x], h => by
    obtain ⟨a, b, c⟩ := h
    exact ⟨a, by rw [hdl_app h0]; exact b, by simp, h1⟩
  | x :: y :: r, h => by
    obtain ⟨a, b, c⟩ := h
    exact ⟨a, b, good_more (L := y :: r) h0 h1 c⟩
/-- the lines so far -/
def cur (s : List (List Str) × List Str) : List (List Str) := if s.2 = [] then s.1 else s.1 ++ [s.2]
theorem step_good {W : Int} {s : List (List Str) × List Str} {w : Str} (hw : (w.length : Int) ≤ W) (h0 : s.2 = [] → s.1 = []) (h : Good W (cur s)) : Good W (cur (step W s w)) ∧ (step W s w).2 ≠ [] ∧ (cur (step W s w)).flatten = (cur s).flatten ++ [w] := by
  obtain ⟨lines, line⟩ := s
  cases line with
  | nil =>
    have e := h0 rfl
    simp only at e
    subst e
    have e1 : step W ([], []) w = ([], [w]) := by simp [step]
    rw [e1]
    refine ⟨?_, by simp, by simp [cur]⟩
    show Good W (cur ([], [w]))
    simp only [cur]
    rw [if_neg (by simp)]
    exact ⟨by simp, by rw [jl_one]; exact hw⟩
  | cons x r =>
    have hc : cur (lines, x :: r) = lines ++ [x :: r] := by simp [cur]
    rw [hc] at h ⊢
    by_cases hq : W < (jl (x :: r) : Int) + 1 + w.length
    · have e1 : step W (lines, x :: r) w = (lines ++ [x :: r], [w]) := by simp [step, hq]
      rw [e1]
      have hc2 : cur (lines ++ [x :: r], [w]) = lines ++ [x :: r] ++ [[w]] := by simp [cur]
      rw [hc2]
      exact ⟨good_new hq hw h, by simp, by simp⟩
    · have e1 : step W (lines, x :: r) w = (lines, x :: r ++ [w]) := by simp [step, hq]
      rw [e1]
      have hc2 : cur (lines, x :: r ++ [w]) = lines ++ [x :: r ++ [w]] := by simp [cur]
      rw [hc2]
      refine ⟨good_more (by simp) ?_ h, by simp, by simp⟩
      rw [jl_snoc _ _ (by simp)]
      omega
theorem fold_good {W : Int} : ∀ (ws : List Str) (s : List (List Str) × List Str), (∀ w ∈ ws, (w.length : Int) ≤ W) → (s.2 = [] → s.1 = []) → Good W (cur s) → Good W (cur (ws.foldl (step W) s)) ∧ (cur (ws.foldl (step W) s)).flatten = (cur s).flatten ++ ws
  | [], s, _, _, h => ⟨h, by simp⟩
  | w :: ws, s, hw, h0, h => by
    obtain ⟨h1, h2, h3⟩ := step_good (hw w List.mem_cons_self) h0 h
    obtain ⟨h4, h5⟩ := fold_good ws (step W s w) (fun v hv => hw v (List.mem_cons_of_mem _ hv)) (fun e => absurd e h2) h1
    exact ⟨h4, by rw [List.foldl_cons, h5, h3]; simp⟩
theorem wrapM_good {W : Int} {ws : List Str} (hw : ∀ w ∈ ws, (w.length : Int) ≤ W) : Good W (wrapM W ws) ∧ (wrapM W ws).flatten = ws := by
  have h := fold_good ws ([], []) hw (fun _ => rfl) trivial
  have e : wrapM W ws = cur (ws.foldl (step W) ([], [])) := rfl
  rw [e]
  exact ⟨h.1, by rw [h.2]; simp [cur]⟩
theorem good_at {W : Int} : ∀ {L : List (List Str)} {k : Nat} {l : List Str}, Good W L → L[k]? = some l → (l ≠ [] ∧ (jl l : Int) ≤ W) ∧ ∀ m, L[k + 1]? = some m → W < (jl l : Int) + 1 + hdl m
  | [], _, _, _, e => by simp at e
  | [x], 0, l, h, e => by
    simp at e
    subst e
    exact ⟨h, fun m hm => by simp at hm⟩
  | [x], k + 1, l, h, e => by simp at e
  | x :: y :: r, 0, l, h, e => by
    simp at e
    subst e
    obtain ⟨a, b, c⟩ := h
    refine ⟨a, fun m hm => ?_⟩
    simp at hm
    subst hm
    exact b
  | x :: y :: r, k + 1, l, h, e => by
    obtain ⟨a, b, c⟩ := h
    exact good_at (L := y :: r) c (by simpa using e)
theorem mem_line {L : List (List Str)} {ws : List Str} (h : L.flatten = ws) {l : List Str} (hl : l ∈ L) : ∀ w ∈ l, w ∈ ws := fun w hw => by
  rw [← h]
  exact List.mem_flatten.mpr ⟨l, hl, hw⟩
theorem sub_len : ∀ {L : List (List Str)} {l : List Str}, l ∈ L → l.length ≤ L.flatten.length
  | [], _, h => by cases h
  | x :: r, l, h => by
    rw [List.flatten_cons, List.length_append]
    rcases List.mem_cons.mp h with h | h
    · rw [h]; omega
    · have := sub_len h
      omega
theorem lg_spec (ws : List Str) : (∀ w ∈ ws, (w.length : Int) ≤ lg ws) ∧ 0 ≤ lg ws := by
  cases ws with
  | nil => exact ⟨fun w h => (by cases h), Int.le_refl _⟩
  | cons x r =>
    obtain ⟨h1, h2⟩ := mxI_spec (r.map fun w => (w.length : Int)) x.length
    have e : lg (x :: r) = mxI x.length (r.map fun w => (w.length : Int)) := rfl
    rw [e]
    refine ⟨fun w hw => ?_, ?_⟩
    · refine h2 _ ?_
      rcases List.mem_cons.mp hw with h | h
      · rw [h]; exact List.mem_cons_self
      · exact List.mem_cons_of_mem _ (List.mem_map.mpr ⟨w, h, rfl⟩)
    · have := h2 x.length List.mem_cons_self
      omega
theorem count_ev (ws : List Str) (W : Int) (h : ∀ w ∈ ws, w.length ≤ 8) (hl : ws.length ≤ 100) : g_line_count [.tuple (tws ws), .int W] = some (if W < lg ws then .none else .int (wrapM W ws).length) := by
  have hw := wrap_ev ws W h hl
  have hc : ∀ d, g_wrap [.tuple (tws ws), .int W] = some d → sSet 2 (eCall g_wrap (aCons (eVar 0) (aCons (eVar 1) aNil))) [.val (.tuple (tws ws)), .val (.int W), .un] = .nx [.val (.tuple (tws ws)), .val (.int W), .val d] := fun d h => sSet_ev (eCall_ev (aCons_ev rfl (aCons_ev rfl aNil_ev)) h)
  by_cases c : W < lg ws
  · rw [if_pos c] at hw ⊢
    refine gDef_ev (fB := f_line_count) rfl (show f_line_count [.val (.tuple (tws ws)), .val (.int W), .un] = _ from ?_)
    unfold f_line_count
    rw [sSeq_nx (hc _ hw)]
    rfl
  · rw [if_neg c] at hw ⊢
    refine gDef_ev (fB := f_line_count) rfl (show f_line_count [.val (.tuple (tws ws)), .val (.int W), .un] = _ from ?_)
    unfold f_line_count
    rw [sSeq_nx (hc _ hw)]
    refine (sSeq_nx (e := [.val (.tuple (tws ws)), .val (.int W), .val (.list (tls (wrapM W ws)))]) (by rfl)).trans ?_
    refine sRet_ev (eCall_ev (aCons_ev rfl aNil_ev) ?_)
    show some (PyData.int (tls (wrapM W ws)).length) = _
    rw [List.length_map]

/-! divisions of words into lines; the greedy one is the best (pieces of k01) -/
abbrev Row := List (List Str)
def ext (w : Str) (r : Row) : List Row := match r.getLast? with
  | none => [[[w]]]
  | some l => [r.dropLast ++ [l ++ [w]], r ++ [[w]]]
def dvs (ws : List Str) : List Row := ws.foldl (fun rs w => rs.flatMap (ext w)) [[]]
theorem ext_nil (w : Str) : ext w [] = [[[w]]] := rfl
theorem ext_snoc (w : Str) (r : Row) (l : List Str) : ext w (r ++ [l]) = [r ++ [l ++ [w]], r ++ [l] ++ [[w]]] := by
  unfold ext
  rw [List.getLast?_append, List.dropLast_concat]
  rfl
theorem dvs_nil : dvs [] = [[]] := rfl
theorem dvs_snoc (ws : List Str) (w : Str) : dvs (ws ++ [w]) = (dvs ws).flatMap (ext w) := by
  unfold dvs
  rw [List.foldl_append]
  rfl
theorem row_cases (r : Row) : r = [] ∨ ∃ r' l, r = r' ++ [l] := by
  rcases List.eq_nil_or_concat r with h | ⟨r', l, h⟩
  · exact .inl h
  · exact .inr ⟨r', l, by rw [h, List.concat_eq_append]⟩
theorem ext_mem {w : Str} {r q : Row} (h : q ∈ ext w r) : (r = [] ∧ q = [[w]]) ∨ ∃ r' l, r = r' ++ [l] ∧ (q = r' ++ [l ++ [w]] ∨ q = r' ++ [l] ++ [[w]]) := by
  rcases row_cases r with rfl | ⟨r', l, rfl⟩
  · rw [ext_nil] at h
    exact .inl ⟨rfl, List.mem_singleton.mp h⟩
  · rw [ext_snoc] at h
    simp only [List.mem_cons, List.not_mem_nil, or_false] at h
    exact .inr ⟨r', l, rfl, h⟩
def lastJ (r : Row) : Nat := match r.getLast? with
  | none => 0
  | some l => jl l
theorem lastJ_snoc (r : Row) (l : List Str) : lastJ (r ++ [l]) = jl l := by
  unfold lastJ
  rw [List.getLast?_append]
  rfl
def Fits (W : Int) (r : Row) : Prop := ∀ l ∈ r, (jl l : Int) ≤ W
def Les (c r : Row) : Prop := c.length < r.length ∨ (c.length = r.length ∧ lastJ c ≤ lastJ r)
theorem cur_step (W : Int) (s : List (List Str) × List Str) (w : Str) (h0 : s.2 = [] → s.1 = []) : cur (step W s w) ∈ ext w (cur s) ∧ (step W s w).2 ≠ [] ∧
    ((cur s = [] ∧ cur (step W s w) = [[w]]) ∨ ∃ r' l, cur s = r' ++ [l] ∧ ((W < (jl l : Int) + 1 + w.length ∧ cur (step W s w) = r' ++ [l] ++ [[w]]) ∨ (¬ W < (jl l : Int) + 1 + w.length ∧ cur (step W s w) = r' ++ [l ++ [w]]))) := by
  obtain ⟨lines, line⟩ := s
  cases line with
  | nil =>
    have e := h0 rfl
    simp only at e
    subst e
    have e1 : step W ([], []) w = ([], [w]) := by simp [step]
    rw [e1]
    have c1 : cur (([] : List (List Str)), ([] : List Str)) = [] := by simp [cur]
    have c2 : cur (([] : List (List Str)), [w]) = [[w]] := by simp [cur]
    rw [c1, c2]
    exact ⟨by rw [ext_nil]; simp, by simp, .inl ⟨rfl, rfl⟩⟩
  | cons x r =>
    have hc : cur (lines, x :: r) = lines ++ [x :: r] := by simp [cur]
    rw [hc]
    by_cases hq : W < (jl (x :: r) : Int) + 1 + w.length
    · have e1 : step W (lines, x :: r) w = (lines ++ [x :: r], [w]) := by simp [step, hq]
      rw [e1]
      have hc2 : cur (lines ++ [x :: r], [w]) = lines ++ [x :: r] ++ [[w]] := by simp [cur]
      rw [hc2]
      exact ⟨by rw [ext_snoc]; simp, by simp, .inr ⟨lines, x :: r, rfl, .inl ⟨hq, rfl⟩⟩⟩
    · have e1 : step W (lines, x :: r) w = (lines, x :: r ++ [w]) := by simp [step, hq]
      rw [e1]
      have hc2 : cur (lines, x :: r ++ [w]) = lines ++ [x :: r ++ [w]] := by simp [cur]
      rw [hc2]
      exact ⟨by rw [ext_snoc]; simp, by simp, .inr ⟨lines, x :: r, rfl, .inr ⟨hq, rfl⟩⟩⟩
def st (W : Int) (ws : List Str) := ws.foldl (step W) (([] : List (List Str)), ([] : List Str))
theorem st_snoc (W : Int) (ws : List Str) (w : Str) : st W (ws ++ [w]) = step W (st W ws) w := by
  unfold st
  rw [List.foldl_append]
  rfl
theorem dvs_ne : ∀ (ws : List Str) (r : Row), r ∈ dvs ws → ∀ l ∈ r, l ≠ [] := by
  have aux : ∀ (n : Nat) (ws : List Str), ws.length = n → ∀ r ∈ dvs ws, ∀ l ∈ r, l ≠ [] := by
    intro n
    induction n with
    | zero =>
      intro ws h r hr l hl
      have e : ws = [] := List.eq_nil_of_length_eq_zero h
      subst e
      rw [dvs_nil, List.mem_singleton] at hr
      subst hr
      cases hl
    | succ n ih =>
      intro ws h q hq m hm
      rcases List.eq_nil_or_concat ws with e | ⟨us, w, e⟩
      · subst e; cases h
      · rw [List.concat_eq_append] at e
        subst e
        rw [dvs_snoc] at hq
        obtain ⟨r, hr, hqr⟩ := List.mem_flatMap.mp hq
        have f2 := ih us (by simp at h; exact h) r hr
        rcases ext_mem hqr with ⟨rfl, rfl⟩ | ⟨r', l, rfl, rfl | rfl⟩
        · rw [List.mem_singleton.mp hm]; simp
        · rcases List.mem_append.mp hm with hm | hm
          · exact f2 m (List.mem_append_left _ hm)
          · rw [List.mem_singleton.mp hm]; simp
        · rcases List.mem_append.mp hm with hm | hm
          · exact f2 m hm
          · rw [List.mem_singleton.mp hm]; simp
  exact fun ws r hr => aux ws.length ws rfl r hr
theorem greedy : ∀ (n : Nat) (ws : List Str) (W : Int), ws.length = n → ((st W ws).2 = [] → (st W ws).1 = []) ∧ cur (st W ws) ∈ dvs ws ∧ ∀ r ∈ dvs ws, Fits W r → Les (cur (st W ws)) r
  | 0, ws, W, h => by
    have e : ws = [] := List.eq_nil_of_length_eq_zero h
    subst e
    refine ⟨fun _ => rfl, by rw [dvs_nil]; exact List.mem_singleton.mpr rfl, fun r hr _ => ?_⟩
    rw [dvs_nil, List.mem_singleton] at hr
    subst hr
    exact .inr ⟨rfl, Nat.le_refl _⟩
  | n + 1, ws, W, h => by
    rcases List.eq_nil_or_concat ws with e | ⟨us, w, e⟩
    · subst e; cases h
    · rw [List.concat_eq_append] at e
      subst e
      have hu : us.length = n := by simp at h; exact h
      obtain ⟨i0, i1, i2⟩ := greedy n us W hu
      obtain ⟨c1, c2, c3⟩ := cur_step W (st W us) w i0
      rw [st_snoc, dvs_snoc]
      refine ⟨fun e => absurd e c2, List.mem_flatMap.mpr ⟨_, i1, c1⟩, fun q hq hfit => ?_⟩
      obtain ⟨r, hr, hqr⟩ := List.mem_flatMap.mp hq
      rcases ext_mem hqr with ⟨rfl, rfl⟩ | ⟨r', l, rfl, rfl | rfl⟩
      · -- the first word
        have hles := i2 [] hr (fun l hl => by cases hl)
        have hcu : cur (st W us) = [] := by
          rcases hles with z | ⟨z, _⟩
          · cases z
          · exact List.eq_nil_of_length_eq_zero z
        rcases c3 with ⟨_, z⟩ | ⟨r', l, z, _⟩
        · rw [z]
          exact .inr ⟨rfl, Nat.le_refl _⟩
        · rw [hcu] at z
          exact absurd z.symm (by simp)
      · have hl' : l ≠ [] := (dvs_ne us (r' ++ [l]) hr) l (by simp)
        have hjl : (jl (l ++ [w]) : Int) ≤ W := hfit _ (by simp)
        have hsn := jl_snoc l w hl'
        have hles := i2 (r' ++ [l]) hr fun m hm => by
          rcases List.mem_append.mp hm with hm | hm
          · exact hfit m (List.mem_append_left _ hm)
          · rw [List.mem_singleton.mp hm]; omega
        unfold Les at hles ⊢
        rw [lastJ_snoc] at hles ⊢
        rcases c3 with ⟨z1, z2⟩ | ⟨s', k, z1, z3⟩
        · rw [z2]
          have : lastJ [[w]] = jl [w] := lastJ_snoc [] [w]
          rw [this, jl_one]
          simp only [List.length_append, List.length_cons, List.length_nil] at hles ⊢
          omega
        · rw [z1, lastJ_snoc] at hles
          rcases z3 with ⟨z4, z5⟩ | ⟨z4, z5⟩
          · rw [z5, lastJ_snoc, jl_one]
            simp only [List.length_append, List.length_cons, List.length_nil] at hles ⊢
            omega
          · rw [z5, lastJ_snoc]
            simp only [List.length_append, List.length_cons, List.length_nil] at hles ⊢
            have hk : k ≠ [] := (dvs_ne us (cur (st W us)) i1) k (by rw [z1]; simp)
            rw [jl_snoc k w hk]
            omega
      · have hles := i2 (r' ++ [l]) hr fun m hm => hfit m (List.mem_append_left _ hm)
        unfold Les at hles ⊢
        rw [lastJ_snoc, jl_one]
        rw [lastJ_snoc] at hles
        rcases c3 with ⟨z1, z2⟩ | ⟨s', k, z1, z3⟩
        · rw [z2]
          simp only [List.length_append, List.length_cons, List.length_nil]
          omega
        · rw [z1, lastJ_snoc] at hles
          rcases z3 with ⟨z4, z5⟩ | ⟨z4, z5⟩
          · rw [z5, lastJ_snoc, jl_one]
            simp only [List.length_append, List.length_cons, List.length_nil] at hles ⊢
            omega
          · rw [z5]
            simp only [List.length_append, List.length_cons, List.length_nil] at hles ⊢
            omega
theorem whole_mem : ∀ (n : Nat) (ws : List Str), ws.length = n → ws ≠ [] → [ws] ∈ dvs ws
  | 0, ws, h, h0 => absurd (List.eq_nil_of_length_eq_zero h) h0
  | n + 1, ws, h, h0 => by
    rcases List.eq_nil_or_concat ws with e | ⟨us, w, e⟩
    · exact absurd e h0
    · rw [List.concat_eq_append] at e
      subst e
      rw [dvs_snoc]
      have hu : us.length = n := by simp at h; exact h
      by_cases hz : us = []
      · subst hz
        exact List.mem_flatMap.mpr ⟨[], by rw [dvs_nil]; simp, by rw [ext_nil]; simp⟩
      · exact List.mem_flatMap.mpr ⟨[us], whole_mem n us hu hz, by
          have := ext_snoc w [] us
          rw [List.nil_append] at this
          rw [this]
          simp⟩
abbrev cnt (W : Int) (ws : List Str) : Nat := (wrapM W ws).length
theorem wrap_st (W : Int) (ws : List Str) : wrapM W ws = cur (st W ws) := rfl
theorem cnt_best {W : Int} {ws : List Str} {r : Row} (h : r ∈ dvs ws) (hf : Fits W r) : cnt W ws ≤ r.length := by
  have := (greedy ws.length ws W rfl).2.2 r h hf
  unfold Les at this
  rw [← wrap_st] at this
  show (wrapM W ws).length ≤ r.length
  omega
theorem wrap_mem (W : Int) (ws : List Str) : wrapM W ws ∈ dvs ws := (greedy ws.length ws W rfl).2.1
theorem fits_of_good {W : Int} : ∀ {L : Row}, Good W L → Fits W L
  | [], _ => fun l hl => by cases hl
  | [x], h => fun l hl => by rw [List.mem_singleton.mp hl]; exact h.2
  | x :: y :: r, h => by
    obtain ⟨a, b, c⟩ := h
    intro l hl
    rcases List.mem_cons.mp hl with e | hl
    · rw [e]; exact a.2
    · exact fits_of_good (L := y :: r) c l hl
theorem wrap_fits {W : Int} {ws : List Str} (h : lg ws ≤ W) : Fits W (wrapM W ws) := fits_of_good (wrapM_good fun w hw => by
  have := (lg_spec ws).1 w hw
  omega).1
theorem lg_mem (ws : List Str) : lg ws = 0 ∨ ∃ w ∈ ws, lg ws = (w.length : Int) := by
  cases ws with
  | nil => exact .inl rfl
  | cons x r =>
    obtain ⟨h1, _⟩ := mxI_spec (r.map fun w => (w.length : Int)) x.length
    have e : lg (x :: r) = mxI x.length (r.map fun w => (w.length : Int)) := rfl
    rw [e]
    rcases List.mem_cons.mp h1 with h | h
    · exact .inr ⟨x, List.mem_cons_self, h⟩
    · obtain ⟨w, hw, e2⟩ := List.mem_map.mp h
      exact .inr ⟨w, List.mem_cons_of_mem _ hw, e2.symm⟩
theorem lg_fits {W : Int} {ws : List Str} {r : Row} (hr : r.flatten = ws) (hf : Fits W r) (h0 : 0 ≤ W) : lg ws ≤ W := by
  rcases lg_mem ws with h | ⟨w, hw, h⟩
  · omega
  · rw [← hr] at hw
    obtain ⟨l, hl, hwl⟩ := List.mem_flatten.mp hw
    have h1 := word_le_jl l w hwl
    have h2 := hf l hl
    omega
theorem narrow_loop (ws : List Str) (h8 : ∀ w ∈ ws, w.length ≤ 8) (hl : ws.length ≤ 100) (h0 : ws ≠ []) (m : Int) (hm : 1 ≤ m) : ∀ (n : Nat) (V : Int), lg ws ≤ V → (jl ws : Int) - V < n → 0 < n →
    ∃ W, V ≤ W ∧ (cnt W ws : Int) ≤ m ∧ (∀ U, V ≤ U → U < W → m < (cnt U ws : Int)) ∧ whlF w_narrowest_1 b_narrowest_1 n [.val (.tuple (tws ws)), .val (.int m), .val (.int V)] = .nx [.val (.tuple (tws ws)), .val (.int m), .val (.int W)]
  | 0, V, _, _, h => absurd h (Nat.lt_irrefl 0)
  | n + 1, V, hV, hn, _ => by
    have hc := count_ev ws V h8 hl
    rw [if_neg (by omega)] at hc
    have ht : w_narrowest_1 [.val (.tuple (tws ws)), .val (.int m), .val (.int V)] = some (decide (m < (cnt V ws : Int))) := t1_ev (e2_ev (eCall_ev (aCons_ev rfl (aCons_ev rfl aNil_ev)) hc) rfl (gtD_int _ _))
    by_cases c : m < (cnt V ws : Int)
    · have hjl : V < (jl ws : Int) := by
        by_cases q : V < (jl ws : Int)
        · exact q
        · exfalso
          have := cnt_best (W := V) (whole_mem ws.length ws rfl h0) fun l hl => by
            rw [List.mem_singleton.mp hl]; omega
          simp only [List.length_cons, List.length_nil] at this
          omega
      obtain ⟨W, w1, w2, w3, w4⟩ := narrow_loop ws h8 hl h0 m hm n (V + 1) (by omega) (by omega) (by omega)
      refine ⟨W, by omega, w2, fun U h1 h2 => ?_, ?_⟩
      · by_cases e : U = V
        · rw [e]; exact c
        · exact w3 U (by omega) h2
      · rw [decide_eq_true c] at ht
        simp only [whlF, ht]
        exact w4
    · refine ⟨V, Int.le_refl _, by omega, fun U h1 h2 => by omega, ?_⟩
      rw [decide_eq_false c] at ht
      simp only [whlF, ht]
theorem narrow_ev (ws : List Str) (h8 : ∀ w ∈ ws, w.length ≤ 8) (hl : ws.length ≤ 4) (m : Int) (h0 : 0 ≤ m) :
    (ws = [] → g_narrowest [.tuple (tws ws), .int m] = some (.int 1)) ∧ (ws ≠ [] → m < 1 → g_narrowest [.tuple (tws ws), .int m] = some .none) ∧
    (ws ≠ [] → 1 ≤ m → ∃ W, 1 ≤ W ∧ lg ws ≤ W ∧ (cnt W ws : Int) ≤ m ∧ (∀ U, 1 ≤ U → lg ws ≤ U → U < W → m < (cnt U ws : Int)) ∧ g_narrowest [.tuple (tws ws), .int m] = some (.int W)) := by
  refine ⟨fun e => ?_, fun e hm => ?_, fun e hm => ?_⟩
  · subst e
    refine gDef_ev (fB := f_narrowest) rfl (show f_narrowest [.val (.tuple []), .val (.int m), .un] = _ from ?_)
    unfold f_narrowest
    exact sSeq_rt (by rfl)
  · obtain ⟨w, r, rfl⟩ : ∃ w r, ws = w :: r := by
      cases ws with
      | nil => exact absurd rfl e
      | cons w r => exact ⟨w, r, rfl⟩
    refine gDef_ev (fB := f_narrowest) rfl (show f_narrowest [.val (.tuple (tws (w :: r))), .val (.int m), .un] = _ from ?_)
    unfold f_narrowest
    refine (sSeq_nx (e := [.val (.tuple (tws (w :: r))), .val (.int m), .un]) (by rfl)).trans (sSeq_rt ?_)
    exact (sIf_t (t1_ev (e2_ev rfl rfl ((ltD_int _ _).trans (by rw [decide_eq_true hm]))))).trans rfl
  · have hlg := longest_ev ws h8 (by omega)
    have hj : jl ws ≤ 36 := by
      have := jl_le ws h8
      omega
    obtain ⟨V, hV⟩ : ∃ V : Int, V = if lg ws > 1 then lg ws else 1 := ⟨_, rfl⟩
    have hV1 : 1 ≤ V ∧ lg ws ≤ V := by rw [hV]; split <;> omega
    have hV2 : ∀ U : Int, 1 ≤ U → lg ws ≤ U → V ≤ U := by intro U h1 h2; rw [hV]; split <;> omega
    obtain ⟨W, w1, w2, w3, w4⟩ := narrow_loop ws h8 (by omega) e m hm 100 V hV1.2 (by omega) (by decide)
    refine ⟨W, by omega, by omega, w2, fun U h1 h2 h3 => w3 U (hV2 U h1 h2) h3, ?_⟩
    refine gDef_ev (fB := f_narrowest) rfl (show f_narrowest [.val (.tuple (tws ws)), .val (.int m), .un] = _ from ?_)
    unfold f_narrowest
    refine (sSeq_nx (e := [.val (.tuple (tws ws)), .val (.int m), .un]) ?_).trans ?_
    · cases ws with
      | nil => exact absurd rfl e
      | cons w r => rfl
    refine (sSeq_nx (e := [.val (.tuple (tws ws)), .val (.int m), .un]) ?_).trans ?_
    · exact sIf_f (t1_ev (e2_ev rfl rfl ((ltD_int _ _).trans (by rw [decide_eq_false (by omega)]))))
    refine (sSeq_nx (e := [.val (.tuple (tws ws)), .val (.int m), .val (.int V)]) ?_).trans ?_
    · exact sSet_ev (eCall_ev (aCons_ev rfl (aCons_ev (eCall_ev (aCons_ev rfl aNil_ev) hlg) aNil_ev)) (by rw [hV]; rfl))
    rw [sSeq_nx w4]
    rfl

/-! narrowest and line_count -/
theorem cnt_mono {ws : List Str} {W X : Int} (h : lg ws ≤ W) (hx : W ≤ X) : cnt X ws ≤ cnt W ws :=
  cnt_best (wrap_mem W ws) fun l hl => by have := wrap_fits h l hl; omega
/-- the least width for so many lines -/
theorem narrow_spec (ws : List Str) (h8 : ∀ w ∈ ws, w.length ≤ 8) (hl : ws.length ≤ 4) (m : Int) (h1 : 1 ≤ m) :
    ∃ W, 1 ≤ W ∧ g_narrowest [.tuple (tws ws), .int m] = some (.int W) ∧ ∀ X, 1 ≤ X → (W ≤ X ↔ lg ws ≤ X ∧ (cnt X ws : Int) ≤ m) := by
  obtain ⟨q1, q2, q3⟩ := narrow_ev ws h8 hl m (by omega)
  by_cases e : ws = []
  · refine ⟨1, by omega, q1 e, fun X hX => ?_⟩
    subst e
    have z1 : lg [] = 0 := rfl
    have z2 : cnt X [] = 0 := rfl
    rw [z1, z2]
    constructor <;> intro _ <;> omega
  · obtain ⟨W, w1, w2, w3, w4, w5⟩ := q3 e h1
    refine ⟨W, w1, w5, fun X hX => ⟨fun h => ⟨by omega, ?_⟩, fun h => ?_⟩⟩
    · have := cnt_mono w2 h
      omega
    · by_cases z : W ≤ X
      · exact z
      · have := w4 X hX h.1 (by omega)
        omega
theorem jl_pos {l : List Str} (h : l ≠ []) (h1 : ∀ w ∈ l, 1 ≤ w.length) : 1 ≤ jl l := by
  cases l with
  | nil => exact absurd rfl h
  | cons x r =>
    have a := word_le_jl (x :: r) x List.mem_cons_self
    have b := h1 x List.mem_cons_self
    omega
def used (s : List (List Str) × List Str) : Nat := jl s.2
def lines (s : List (List Str) × List Str) : Nat := s.1.length + (if s.2 = [] then 0 else 1)
/-- the law's own count of lines -/
theorem lcount_loop (S : PyData) (W : Int) : ∀ (ws : List Str) (s : List (List Str) × List Str) (x : Sl), (∀ w ∈ ws, w.length ≤ 8) → (s.2 = [] → s.1 = []) → s.1.length + ws.length < 1000 → jl s.2 + 9 * ws.length < 100000 →
    (if (∃ w ∈ ws, W < (w.length : Int)) then loopF (gVal 4) b_Lline_count_1 (tws ws) [.val S, .val (.int W), .val (.int (lines s : Nat)), .val (.int (used s : Nat)), x] = .rt .none
     else ∃ y, loopF (gVal 4) b_Lline_count_1 (tws ws) [.val S, .val (.int W), .val (.int (lines s : Nat)), .val (.int (used s : Nat)), x] = .nx [.val S, .val (.int W), .val (.int (lines (ws.foldl (step W) s) : Nat)), .val (.int (used (ws.foldl (step W) s) : Nat)), y])
  | [], s, x, _, _, _, _ => by
    rw [if_neg (by rintro ⟨w, hw, _⟩; cases hw)]
    exact ⟨x, rfl⟩
  | w :: ws, s, x, h8, h0, hl, hj => by
    have hw := h8 w List.mem_cons_self
    have hlen : eCall lenA (aCons (eVar 4) aNil) [.val S, .val (.int W), .val (.int (lines s : Nat)), .val (.int (used s : Nat)), .val (.str w)] = some (.int (w.length : Nat)) := by
      show (if w.length ≤ 1000000 then some (PyData.int (w.length : Nat)) else none) = _
      rw [if_pos (by omega)]
    have ht := t1_ev (e2_ev hlen (g := eVar 1) rfl (gtD_int _ W))
    by_cases q : W < (w.length : Int)
    · rw [if_pos ⟨w, List.mem_cons_self, q⟩]
      rw [decide_eq_true q] at ht
      have hb : b_Lline_count_1 [.val S, .val (.int W), .val (.int (lines s : Nat)), .val (.int (used s : Nat)), .val (.str w)] = .rt .none := by
        unfold b_Lline_count_1
        exact sSeq_rt ((sIf_t ht).trans rfl)
      show loopF (gVal 4) b_Lline_count_1 (.str w :: tws ws) _ = _
      simp only [loopF, gVal, List.set_cons_succ, List.set_cons_zero, hb]
    · rw [decide_eq_false q] at ht
      have hb : b_Lline_count_1 [.val S, .val (.int W), .val (.int (lines s : Nat)), .val (.int (used s : Nat)), .val (.str w)] = .nx [.val S, .val (.int W), .val (.int (lines (step W s w) : Nat)), .val (.int (used (step W s w) : Nat)), .val (.str w)] := by
        unfold b_Lline_count_1
        refine (sSeq_nx ((sIf_f ht).trans rfl)).trans ?_
        have g1 : t1 (e2 gtD (eVar 2) (eC (.int 0))) [.val S, .val (.int W), .val (.int (lines s : Nat)), .val (.int (used s : Nat)), .val (.str w)] = some (decide (s.2 ≠ [])) := by
          refine t1_ev (e2_ev rfl rfl ((gtD_int _ _).trans ?_))
          congr 2
          refine decide_eq_decide.mpr ?_
          unfold lines
          by_cases z : s.2 = []
          · rw [if_pos z, h0 z]; simp [z]
          · rw [if_neg z]
            exact ⟨fun _ => z, fun _ => by omega⟩
        have hsum : e2 addD (e2 addD (eVar 3) (eC (.int 1))) (eCall lenA (aCons (eVar 4) aNil)) [.val S, .val (.int W), .val (.int (lines s : Nat)), .val (.int (used s : Nat)), .val (.str w)] = some (.int ((used s : Nat) + 1 + (w.length : Nat))) := e2_ev (e2_ev rfl rfl (addD_int _ _)) hlen (addD_int _ _)
        have g2 : t1 (e2 leD (e2 addD (e2 addD (eVar 3) (eC (.int 1))) (eCall lenA (aCons (eVar 4) aNil))) (eVar 1)) [.val S, .val (.int W), .val (.int (lines s : Nat)), .val (.int (used s : Nat)), .val (.str w)] = some (decide ((used s : Int) + 1 + w.length ≤ W)) := t1_ev (e2_ev hsum rfl (leD_int _ _))
        obtain ⟨s1, s2⟩ := s
        by_cases z : s2 = []
        · have e0 : s1 = [] := h0 z
          subst z
          subst e0
          have est : step W (([] : List (List Str)), ([] : List Str)) w = ([], [w]) := by simp [step]
          rw [show decide ((([] : List (List Str)), ([] : List Str)).2 ≠ []) = false from rfl] at g1
          rw [est]
          refine (sIf_f (and_f g1)).trans ?_
          refine (sSeq_nx (e := [.val S, .val (.int W), .val (.int 1), .val (.int (used (([] : List (List Str)), ([] : List Str)) : Nat)), .val (.str w)]) (by rfl)).trans ?_
          refine (sSet_ev (i := 3) (env := [.val S, .val (.int W), .val (.int 1), .val (.int (used (([] : List (List Str)), ([] : List Str)) : Nat)), .val (.str w)]) (d := .int (w.length : Nat)) ?_).trans ?_
          · show (if w.length ≤ 1000000 then some (PyData.int (w.length : Nat)) else none) = _
            rw [if_pos (by omega)]
          · show Out.nx [.val S, .val (.int W), .val (.int 1), .val (.int (w.length : Nat)), .val (.str w)] = Out.nx [.val S, .val (.int W), .val (.int ((lines (([] : List (List Str)), [w]) : Nat) : Int)), .val (.int ((used (([] : List (List Str)), [w]) : Nat) : Int)), .val (.str w)]
            rw [show used (([] : List (List Str)), [w]) = w.length from jl_one w]
            rfl
        · rw [decide_eq_true (show (s1, s2).2 ≠ [] from z)] at g1
          by_cases y : (used (s1, s2) : Int) + 1 + w.length ≤ W
          · rw [decide_eq_true y] at g2
            have est : step W (s1, s2) w = (s1, s2 ++ [w]) := by
              unfold step
              rw [if_neg]
              rintro ⟨_, a⟩
              unfold used at y
              dsimp only at a y
              omega
            rw [est]
            refine (sIf_t (and_t g1 g2)).trans ((sSet_ev hsum).trans ?_)
            have ll : lines (s1, s2 ++ [w]) = lines (s1, s2) := by
              unfold lines
              rw [if_neg (show ¬ (s1, s2).2 = [] from z), if_neg (by simp)]
            have uu : ((used (s1, s2 ++ [w]) : Nat) : Int) = (used (s1, s2) : Nat) + 1 + (w.length : Nat) := by
              unfold used
              dsimp only
              rw [jl_snoc s2 w z]
              omega
            rw [ll, uu]
            rfl
          · rw [decide_eq_false y] at g2
            have est : step W (s1, s2) w = (s1 ++ [s2], [w]) := by
              unfold step
              rw [if_pos]
              refine ⟨z, ?_⟩
              unfold used at y
              dsimp only at y ⊢
              omega
            rw [est]
            refine (sIf_f ((and_t g1 g2))).trans ?_
            have ll : ((lines (s1 ++ [s2], [w]) : Nat) : Int) = (lines (s1, s2) : Nat) + 1 := by
              unfold lines
              rw [if_neg (show ¬ (s1, s2).2 = [] from z), if_neg (by simp)]
              simp
            have uu : used (s1 ++ [s2], [w]) = w.length := jl_one w
            rw [ll, uu]
            refine (sSeq_nx (e := [.val S, .val (.int W), .val (.int ((lines (s1, s2) : Nat) + 1)), .val (.int (used (s1, s2) : Nat)), .val (.str w)]) (by rfl)).trans ?_
            refine (sSet_ev (i := 3) (env := [.val S, .val (.int W), .val (.int ((lines (s1, s2) : Nat) + 1)), .val (.int (used (s1, s2) : Nat)), .val (.str w)]) (d := .int (w.length : Nat)) ?_).trans rfl
            show (if w.length ≤ 1000000 then some (PyData.int (w.length : Nat)) else none) = _
            rw [if_pos (by omega)]
      have hst : ((step W s w).2 = [] → (step W s w).1 = []) ∧ (step W s w).1.length ≤ s.1.length + 1 ∧ jl (step W s w).2 ≤ jl s.2 + 9 := by
        unfold step
        split
        · refine ⟨(fun e => nomatch e), by simp, ?_⟩
          dsimp only
          rw [jl_one]
          omega
        · refine ⟨(fun e => by simp at e), by simp, ?_⟩
          dsimp only
          by_cases z : s.2 = []
          · rw [z, List.nil_append, jl_one]; omega
          · rw [jl_snoc _ _ z]; omega
      have ih := lcount_loop S W ws (step W s w) (.val (.str w)) (fun v hv => h8 v (List.mem_cons_of_mem _ hv)) hst.1 (by rw [List.length_cons] at hl; omega) (by rw [List.length_cons] at hj; omega)
      have hex : (∃ v ∈ w :: ws, W < (v.length : Int)) ↔ ∃ v ∈ ws, W < (v.length : Int) := by
        constructor
        · rintro ⟨v, hv, z⟩
          rcases List.mem_cons.mp hv with e | hv
          · subst e; exact absurd z q
          · exact ⟨v, hv, z⟩
        · rintro ⟨v, hv, z⟩
          exact ⟨v, List.mem_cons_of_mem _ hv, z⟩
      have hstep : loopF (gVal 4) b_Lline_count_1 (tws (w :: ws)) [.val S, .val (.int W), .val (.int (lines s : Nat)), .val (.int (used s : Nat)), x] = loopF (gVal 4) b_Lline_count_1 (tws ws) [.val S, .val (.int W), .val (.int (lines (step W s w) : Nat)), .val (.int (used (step W s w) : Nat)), .val (.str w)] := by
        show loopF (gVal 4) b_Lline_count_1 (.str w :: tws ws) _ = _
        simp only [loopF, gVal, List.set_cons_succ, List.set_cons_zero, hb]
      rw [hstep]
      by_cases z : ∃ v ∈ ws, W < (v.length : Int)
      · rw [if_pos z] at ih
        rw [if_pos (hex.mpr z)]
        exact ih
      · rw [if_neg z] at ih
        rw [if_neg (fun e => z (hex.mp e))]
        exact ih
theorem lcount_ev (ws : List Str) (W : Int) (h8 : ∀ w ∈ ws, w.length ≤ 8) (hl : ws.length ≤ 4) : g_Lline_count [.tuple (tws ws), .int W] = some (if W < lg ws ∧ ws ≠ [] then .none else .int (cnt W ws : Nat)) := by
  have hlp := lcount_loop (.tuple (tws ws)) W ws ([], []) .un h8 (fun _ => rfl) (by simp; omega) (by show jl [] + _ < _; rw [jl_nil]; omega)
  have hcn : lines (ws.foldl (step W) ([], [])) = cnt W ws := by
    unfold lines cnt wrapM
    dsimp only
    split <;> simp
  have hex : (∃ w ∈ ws, W < (w.length : Int)) ↔ (W < lg ws ∧ ws ≠ []) := by
    constructor
    · rintro ⟨w, hw, z⟩
      have := (lg_spec ws).1 w hw
      exact ⟨by omega, fun e => by rw [e] at hw; cases hw⟩
    · rintro ⟨z, e⟩
      rcases lg_mem ws with h | ⟨w, hw, h⟩
      · cases ws with
        | nil => exact absurd rfl e
        | cons x r =>
          have := (lg_spec (x :: r)).1 x List.mem_cons_self
          exact ⟨x, List.mem_cons_self, by omega⟩
      · exact ⟨w, hw, by omega⟩
  refine gDef_ev' (fB := f_Lline_count) [.val (.tuple (tws ws)), .val (.int W), .un, .un, .un] rfl rfl ?_
  unfold f_Lline_count
  refine (sSeq_nx (e := [.val (.tuple (tws ws)), .val (.int W), .val (.int 0), .un, .un]) (by rfl)).trans ?_
  refine (sSeq_nx (e := [.val (.tuple (tws ws)), .val (.int W), .val (.int 0), .val (.int 0), .un]) (by rfl)).trans ?_
  have e0 : ((used (([] : List (List Str)), ([] : List Str)) : Nat) : Int) = 0 := by
    show ((jl [] : Nat) : Int) = 0
    rw [jl_nil]
    rfl
  by_cases z : ∃ w ∈ ws, W < (w.length : Int)
  · rw [if_pos z, e0] at hlp
    rw [if_pos (hex.mp z)]
    exact sSeq_rt (sFor_ev (ds := tws ws) (by rfl) hlp)
  · rw [if_neg z, e0] at hlp
    rw [if_neg (fun e => z (hex.mpr e))]
    obtain ⟨y, hlp⟩ := hlp
    rw [hcn] at hlp
    exact (sSeq_nx (sFor_ev (ds := tws ws) (by rfl) hlp)).trans rfl

/-! lines, inner sizes -/
theorem atI_last {α : Type} (f : α → PyData) (xs : List α) (x : α) (h : xs.getLast? = some x) : atI (xs.map f) (-1) = some (f x) := by
  have hl : xs ≠ [] := by intro e; subst e; cases h
  have hn : 0 < xs.length := List.length_pos_iff.mpr hl
  unfold atI ixN
  rw [List.getLast?_eq_getElem?] at h
  simp only [List.length_map]
  rw [if_neg (by omega), if_pos (by omega)]
  show (xs.map f)[((-1 : Int) + (xs.length : Int)).toNat]? = _
  rw [List.getElem?_map, show ((-1 : Int) + (xs.length : Int)).toNat = xs.length - 1 by omega, h]
  rfl
theorem last_ix (L : List Int) (h : 0 < L.length) : atI (L.map PyData.int) (-1) = some (.int (L.getD (L.length - 1) 0)) := atI_last _ _ _ (by
  rw [List.getLast?_eq_getElem?, List.getD_eq_getElem?_getD, List.getElem?_eq_getElem (by omega)]
  rfl)
theorem getD_app1 (L : List Int) (x : Int) (j : Nat) (h : j < L.length) : (L ++ [x]).getD j 0 = L.getD j 0 := by
  rw [List.getD_eq_getElem?_getD, List.getD_eq_getElem?_getD, List.getElem?_append_left h]
theorem getD_app2 (L : List Int) (x : Int) : (L ++ [x]).getD L.length 0 = x := by
  rw [List.getD_eq_getElem?_getD, List.getElem?_append_right (Nat.le_refl _)]
  simp
def inn (xs : List Int) (a s : Int) : Int := xs.getD (a + s).toNat 0 - xs.getD a.toNat 0 - 1
theorem inner_ev (xs : List Int) (a s : Int) (h : 0 ≤ a ∧ 0 ≤ s ∧ a + s < xs.length) : g_inner_size [.tuple (xs.map .int), .int a, .int s] = some (.int (inn xs a s)) ∧ g_Linner [.tuple (xs.map .int), .int a, .int s] = some (.int (inn xs a s)) := by
  constructor
  · refine gDef_ev' (fB := f_inner_size) [.val (.tuple (xs.map .int)), .val (.int a), .val (.int s)] rfl rfl ?_
    unfold f_inner_size
    exact sRet_ev (e2_ev (e2_ev (e2_ev (x := .tuple (xs.map .int)) rfl (e2_ev rfl rfl (addD_int _ _)) (dr_ix ⟨by omega, by omega⟩)) (e2_ev (x := .tuple (xs.map .int)) rfl rfl (dr_ix ⟨by omega, by omega⟩)) (subD_int _ _)) rfl (subD_int _ _))
  · refine gDef_ev' (fB := f_Linner) [.val (.tuple (xs.map .int)), .val (.int a), .val (.int s)] rfl rfl ?_
    unfold f_Linner
    exact sRet_ev (e2_ev (e2_ev (e2_ev (x := .tuple (xs.map .int)) rfl (e2_ev rfl rfl (addD_int _ _)) (dr_ix ⟨by omega, by omega⟩)) (e2_ev (x := .tuple (xs.map .int)) rfl rfl (dr_ix ⟨by omega, by omega⟩)) (subD_int _ _)) rfl (subD_int _ _))
def laS (l : List Int) (h : Int) : List Int := l ++ [l.getD (l.length - 1) 0 + h + 1]
def laF (hs : List Int) : List Int := hs.foldl laS [0]
theorem laS_len (l : List Int) (h : Int) : (laS l h).length = l.length + 1 := by simp [laS]
theorem la_loop (a0 : Sl) : ∀ (hs l : List Int) (y : Sl), 0 < l.length → l.length + hs.length < 1000 → ∃ z, loopF (gVal 2) b_lines_around_1 (hs.map .int) [a0, .val (.tuple (l.map .int)), y] = .nx [a0, .val (.tuple ((hs.foldl laS l).map .int)), z]
  | [], l, y, _, _ => ⟨y, rfl⟩
  | h :: hs, l, y, h0, hl => by
    rw [List.length_cons] at hl
    have hb : b_lines_around_1 [a0, .val (.tuple (l.map .int)), .val (.int h)] = .nx [a0, .val (.tuple ((laS l h).map .int)), .val (.int h)] := by
      unfold b_lines_around_1 laS
      rw [List.map_append]
      exact sSet_ev (e2_ev rfl (eTup_ev (aCons_ev (e2_ev (e2_ev (e2_ev rfl rfl (last_ix l h0)) rfl (addD_int _ _)) rfl (addD_int _ _)) aNil_ev) (by simp)) (addD_tup (by rw [List.length_map]; simp; omega)))
    obtain ⟨z, ih⟩ := la_loop a0 hs (laS l h) (.val (.int h)) (by rw [laS_len]; omega) (by rw [laS_len]; omega)
    refine ⟨z, ?_⟩
    rw [List.map_cons]
    simp only [loopF, gVal, List.set_cons_succ, List.set_cons_zero, hb]
    exact ih
theorem la_ev (hs : List Int) (h : hs.length < 900) : g_lines_around [.tuple (hs.map .int)] = some (.tuple ((laF hs).map .int)) := by
  obtain ⟨z, hl⟩ := la_loop (.val (.tuple (hs.map .int))) hs [0] .un (by simp) (by simp; omega)
  refine gDef_ev' (fB := f_lines_around) [.val (.tuple (hs.map .int)), .un, .un] rfl rfl ?_
  unfold f_lines_around
  refine (sSeq_nx (e := [.val (.tuple (hs.map .int)), .val (.tuple ([0].map .int)), .un]) (by rfl)).trans ?_
  exact (sSeq_nx (sFor_ev (ds := hs.map .int) (by rfl) hl)).trans rfl
theorem la_fold : ∀ (hs l : List Int), 0 < l.length → (hs.foldl laS l).length = l.length + hs.length ∧ (∀ j, j < l.length → (hs.foldl laS l).getD j 0 = l.getD j 0) ∧ ∀ (j : Nat) (h : Int), hs[j]? = some h → (hs.foldl laS l).getD (l.length + j) 0 = (hs.foldl laS l).getD (l.length - 1 + j) 0 + h + 1
  | [], l, h0 => ⟨rfl, fun _ _ => rfl, fun j h hj => by simp at hj⟩
  | x :: hs, l, h0 => by
    obtain ⟨a1, a2, a3⟩ := la_fold hs (laS l x) (by rw [laS_len]; omega)
    rw [laS_len] at a1 a2 a3
    refine ⟨by rw [List.foldl_cons, a1, List.length_cons]; omega, fun j hj => ?_, fun j h hj => ?_⟩
    · rw [List.foldl_cons, a2 j (by omega)]
      exact getD_app1 _ _ _ hj
    · rw [List.foldl_cons]
      cases j with
      | zero =>
        cases hj
        rw [Nat.add_zero, Nat.add_zero, a2 l.length (by omega), a2 (l.length - 1) (by omega)]
        unfold laS
        rw [getD_app2, getD_app1 _ _ _ (by omega)]
      | succ j =>
        have := a3 j h (by simpa using hj)
        rw [show l.length + (j + 1) = l.length + 1 + j by omega, show l.length - 1 + (j + 1) = l.length + 1 - 1 + j by omega]
        exact this
theorem laF_spec (hs : List Int) : (laF hs).length = hs.length + 1 ∧ (laF hs).getD 0 0 = 0 ∧ ∀ (j : Nat) (h : Int), hs[j]? = some h → (laF hs).getD (j + 1) 0 = (laF hs).getD j 0 + h + 1 := by
  obtain ⟨a1, a2, a3⟩ := la_fold hs [0] (by simp)
  refine ⟨by show (hs.foldl laS [0]).length = _; rw [a1]; simp; omega, a2 0 (by simp), fun j h hj => ?_⟩
  have := a3 j h hj
  rw [show ([0] : List Int).length + j = j + 1 by simp; omega, show ([0] : List Int).length - 1 + j = j by simp] at this
  exact this
/-! loops that say False -/
theorem loop_all {g : PyData → En → Option En} {b : En → Out} (P : Nat → Prop) (I : En → Prop) : ∀ (ds : List PyData) (k : Nat) (e : En), (∀ (j : Nat) d e, ds[j]? = some d → I e → ∃ e1, g d e = some e1 ∧ ((P (k + j) ∧ ∃ e2, (b e1 = .nx e2 ∨ b e1 = .ct e2) ∧ I e2) ∨ (¬ P (k + j) ∧ b e1 = .rt (.bool false)))) → I e →
    ((∃ e', loopF g b ds e = .nx e' ∧ I e') ∧ ∀ j, j < ds.length → P (k + j)) ∨ (loopF g b ds e = .rt (.bool false) ∧ ¬ ∀ j, j < ds.length → P (k + j))
  | [], k, e, _, h => .inl ⟨⟨e, rfl, h⟩, fun j hj => by cases hj⟩
  | d :: ds, k, e, st, h => by
    obtain ⟨e1, h1, h2⟩ := st 0 d e rfl h
    rcases h2 with ⟨hp, e2, h3, h4⟩ | ⟨hp, h3⟩
    · have ih := loop_all P I ds (k + 1) e2 (fun j d' e' hj hi => by
        have := st (j + 1) d' e' (by simpa using hj) hi
        rw [show k + (j + 1) = k + 1 + j by omega] at this
        exact this) h4
      have hstep : loopF g b (d :: ds) e = loopF g b ds e2 := by
        rcases h3 with h3 | h3 <;> simp only [loopF, h1, h3]
      rw [hstep]
      have hall : (∀ j, j < (d :: ds).length → P (k + j)) ↔ ∀ j, j < ds.length → P (k + 1 + j) := by
        constructor
        · intro z j hj
          have := z (j + 1) (by rw [List.length_cons]; omega)
          rw [show k + (j + 1) = k + 1 + j by omega] at this
          exact this
        · intro z j hj
          cases j with
          | zero => exact hp
          | succ j =>
            have := z j (by rw [List.length_cons] at hj; omega)
            rw [show k + (j + 1) = k + 1 + j by omega]
            exact this
      rcases ih with ⟨a, c⟩ | ⟨a, c⟩
      · exact .inl ⟨a, hall.mpr c⟩
      · exact .inr ⟨a, fun z => c (hall.mp z)⟩
    · refine .inr ⟨by simp only [loopF, h1, h3], fun z => hp (z 0 (by rw [List.length_cons]; omega))⟩
theorem loop_allR {g : PyData → En → Option En} {b : En → Out} (P : Nat → Prop) (I : En → Prop) {n : Nat} {e : En} (st : ∀ (j : Nat) e, j < n → I e → ∃ e1, g (.int (0 + (j : Nat))) e = some e1 ∧ ((P j ∧ ∃ e2, (b e1 = .nx e2 ∨ b e1 = .ct e2) ∧ I e2) ∨ (¬ P j ∧ b e1 = .rt (.bool false)))) (h : I e) :
    ((∃ e', loopF g b (rngD 0 n) e = .nx e' ∧ I e') ∧ ∀ j, j < n → P j) ∨ (loopF g b (rngD 0 n) e = .rt (.bool false) ∧ ¬ ∀ j, j < n → P j) := by
  have := loop_all P I (rngD 0 n) 0 e (fun j d e hj hi => by
    have hd := rng_get hj
    obtain ⟨l, _⟩ := List.getElem?_eq_some_iff.mp hj
    rw [rng_len] at l
    subst hd
    rw [Nat.zero_add]
    exact st j e l hi) h
  rw [rng_len] at this
  simpa only [Nat.zero_add] using this
/-! the law's tests of a layout -/
theorem tab_cols (t : LTab) (a : List Sl) : e2 ixG (eVar 0) (eC (.int 0)) (.val (tabD t) :: a) = some (.tuple (t.cols.map colD)) := rfl
theorem tab_rows (t : LTab) (a : List Sl) : e2 ixG (eVar 0) (eC (.int 1)) (.val (tabD t) :: a) = some (.tuple (t.rows.map rowD)) := rfl
theorem tab_cells (t : LTab) (a : List Sl) : e2 ixG (eVar 0) (eC (.int 2)) (.val (tabD t) :: a) = some (.tuple (t.cells.map cellD)) := rfl
def RowsR (t : LTab) (ys : List Int) : Prop := ∀ (j : Nat) (x : LRow), t.rows[j]? = some x → x.1 ≤ inn ys (j : Nat) 1
theorem rowsR_ev (t : LTab) (ht : TabOk t) (ys : List Int) (hy : ys.length = t.rows.length + 1) : ∃ b : Bool, g_Lrows_right [tabD t, .tuple (ys.map .int)] = some (.bool b) ∧ (b = true ↔ RowsR t ys) := by
  have hr := ht.nr
  obtain ⟨T, hT⟩ : ∃ T : PyData, T = tabD t := ⟨_, rfl⟩
  have hlp := loop_allR (g := gVal 2) (b := b_Lrows_right_1) (n := t.rows.length) (e := [.val T, .val (.tuple (ys.map .int)), .un]) (fun j => ∀ x : LRow, t.rows[j]? = some x → x.1 ≤ inn ys (j : Nat) 1) (fun e => ∃ y, e = [.val T, .val (.tuple (ys.map .int)), y]) (fun j e hj hi => by
    obtain ⟨y, rfl⟩ := hi
    obtain ⟨k, hk⟩ : ∃ k : Int, k = 0 + (j : Nat) := ⟨_, rfl⟩
    have hkj : k = (j : Nat) := by omega
    rw [← hk, ← hkj]
    refine ⟨[.val T, .val (.tuple (ys.map .int)), .val (.int k)], rfl, ?_⟩
    have hx := List.getElem?_eq_getElem (l := t.rows) hj
    have hat := atI_map rowD t.rows j _ hx
    rw [← hkj] at hat
    have htst := t1_ev (e2_ev (f := eCall g_Linner (aCons (eVar 1) (aCons (eVar 2) (aCons (eC (.int 1)) aNil)))) (env := [.val T, .val (.tuple (ys.map .int)), .val (.int k)]) (eCall_ev (aCons_ev rfl (aCons_ev rfl (aCons_ev rfl aNil_ev))) (inner_ev ys k 1 ⟨by omega, by omega, by omega⟩).2) (g := e2 ixG (e2 ixG (e2 ixG (eVar 0) (eC (.int 1))) (eVar 2)) (eC (.int 0))) (e2_ev (d := .int (t.rows[j]).1) (e2_ev (x := .tuple (t.rows.map rowD)) (by rw [hT]; exact tab_rows t _) rfl hat) rfl rfl) (ltD_int _ _))
    unfold b_Lrows_right_1
    by_cases q : inn ys k 1 < (t.rows[j]).1
    · rw [decide_eq_true q] at htst
      refine .inr ⟨fun z => ?_, (sIf_t htst).trans rfl⟩
      have := z _ hx
      omega
    · rw [decide_eq_false q] at htst
      refine .inl ⟨fun x hx' => ?_, _, .inl ((sIf_f htst).trans rfl), _, rfl⟩
      rw [hx] at hx'
      cases hx'
      omega) ⟨_, rfl⟩
  have hrg := iR1_ev (fa := aCons (eCall lenA (aCons (e2 ixG (eVar 0) (eC (.int 1))) aNil)) aNil) (env := [.val T, .val (.tuple (ys.map .int)), .un]) (N := (t.rows.length : Nat)) (aCons_ev (eCall_ev (aCons_ev (by rw [hT]; exact tab_rows t _) aNil_ev) (by show some (PyData.int (List.length _ : Nat)) = _; rw [List.length_map])) aNil_ev) (by omega) (by omega)
  rw [Int.toNat_natCast] at hrg
  have hiff : (∀ j, j < t.rows.length → ∀ x : LRow, t.rows[j]? = some x → x.1 ≤ inn ys (j : Nat) 1) ↔ RowsR t ys := ⟨fun z j x hx => z j (List.getElem?_eq_some_iff.mp hx).1 x hx, fun z j _ x hx => z j x hx⟩
  rw [← hT]
  rcases hlp with ⟨⟨e', h1, y, rfl⟩, h2⟩ | ⟨h1, h2⟩
  · refine ⟨true, gDef_ev' (fB := f_Lrows_right) [.val T, .val (.tuple (ys.map .int)), .un] rfl rfl ?_, ⟨fun _ => hiff.mp h2, fun _ => rfl⟩⟩
    unfold f_Lrows_right
    exact (sSeq_nx (sFor_ev hrg h1)).trans rfl
  · refine ⟨false, gDef_ev' (fB := f_Lrows_right) [.val T, .val (.tuple (ys.map .int)), .un] rfl rfl ?_, ⟨fun e => (by cases e), fun z => absurd (hiff.mpr z) h2⟩⟩
    unfold f_Lrows_right
    exact sSeq_rt (sFor_ev hrg h1)

def ColsR (t : LTab) (xs : List Int) : Prop := ∀ (j : Nat) (x : LCol), t.cols[j]? = some x → x.least ≤ inn xs (j : Nat) 1 ∧ (∀ m, x.most = some m → inn xs (j : Nat) 1 ≤ m) ∧ ∀ p, x.pc = some p → p * xs.getD (xs.length - 1) 0 ≤ 100 * (inn xs (j : Nat) 1 + 1)
theorem isnt_oD (o : Option Int) : isntD (oD o) .none = some (.bool (o ≠ none)) := by
  cases o <;> rfl
theorem colsR_ev (t : LTab) (ht : TabOk t) (xs : List Int) (hx : xs.length = t.cols.length + 1) : ∃ b : Bool, g_Lcolumns_right [tabD t, .tuple (xs.map .int)] = some (.bool b) ∧ (b = true ↔ ColsR t xs) := by
  have hr := ht.nc
  obtain ⟨T, hT⟩ : ∃ T : PyData, T = tabD t := ⟨_, rfl⟩
  obtain ⟨last, hlast⟩ : ∃ l : Int, l = xs.getD (xs.length - 1) 0 := ⟨_, rfl⟩
  obtain ⟨Y, hY⟩ : ∃ Y : PyData, Y = .tuple (xs.map .int) := ⟨_, rfl⟩
  have hlp := loop_allR (g := gVal 2) (b := b_Lcolumns_right_1) (n := t.cols.length) (e := [.val T, .val Y, .un, .un, .un, .un, .un, .un])
    (fun j => ∀ x : LCol, t.cols[j]? = some x → x.least ≤ inn xs (j : Nat) 1 ∧ (∀ m, x.most = some m → inn xs (j : Nat) 1 ≤ m) ∧ ∀ p, x.pc = some p → p * last ≤ 100 * (inn xs (j : Nat) 1 + 1)) (fun e => ∃ y2 y3 y4 y5 y6 y7, e = [.val T, .val Y, y2, y3, y4, y5, y6, y7]) (fun j e hj hi => by
    obtain ⟨y2, y3, y4, y5, y6, y7, rfl⟩ := hi
    obtain ⟨k, hk⟩ : ∃ k : Int, k = 0 + (j : Nat) := ⟨_, rfl⟩
    have hkj : k = (j : Nat) := by omega
    rw [← hk, ← hkj]
    refine ⟨[.val T, .val Y, .val (.int k), y3, y4, y5, y6, y7], rfl, ?_⟩
    have hxx := List.getElem?_eq_getElem (l := t.cols) hj
    obtain ⟨x, hxe⟩ : ∃ x, x = t.cols[j] := ⟨_, rfl⟩
    rw [← hxe] at hxx
    have hok := ht.col x (List.mem_of_getElem? hxx)
    have hat := atI_map colD t.cols j _ hxx
    rw [← hkj] at hat
    have g3 : sUnp (e2 ixG (e2 ixG (eVar 0) (eC (.int 0))) (eVar 2)) (gT [3, 4, 5, 6]) [.val T, .val Y, .val (.int k), y3, y4, y5, y6, y7] = .nx [.val T, .val Y, .val (.int k), .val (.int x.least), .val (oD x.most), .val (oD x.pc), .val (.str x.al), y7] := by
      unfold sUnp
      rw [e2_ev (x := .tuple (t.cols.map colD)) (by rw [hT]; exact tab_cols t _) rfl hat]
      rfl
    obtain ⟨w, hw⟩ : ∃ w : Int, w = inn xs k 1 := ⟨_, rfl⟩
    have g7 : sSet 7 (eCall g_Linner (aCons (eVar 1) (aCons (eVar 2) (aCons (eC (.int 1)) aNil)))) [.val T, .val Y, .val (.int k), .val (.int x.least), .val (oD x.most), .val (oD x.pc), .val (.str x.al), y7] = .nx [.val T, .val Y, .val (.int k), .val (.int x.least), .val (oD x.most), .val (oD x.pc), .val (.str x.al), .val (.int w)] := by
      rw [hw, hY]
      exact sSet_ev (eCall_ev (aCons_ev rfl (aCons_ev rfl (aCons_ev rfl aNil_ev))) (inner_ev xs k 1 ⟨by omega, by omega, by omega⟩).2)
    rw [← hw]
    obtain ⟨env, henv⟩ : ∃ env : En, env = [.val T, .val Y, .val (.int k), .val (.int x.least), .val (oD x.most), .val (oD x.pc), .val (.str x.al), .val (.int w)] := ⟨_, rfl⟩
    have c1 : t1 (e2 ltD (eVar 7) (eVar 3)) env = some (decide (w < x.least)) := by rw [henv]; exact t1_ev (e2_ev rfl rfl (ltD_int _ _))
    have c2 : ∃ b, tAnd' (t1 (e2 isntD (eVar 4) (eC .none))) (t1 (e2 gtD (eVar 7) (eVar 4))) env = some b ∧ (b = true ↔ ¬ ∀ m, x.most = some m → w ≤ m) := by
      have d1 : t1 (e2 isntD (eVar 4) (eC .none)) env = some (decide (x.most ≠ none)) := by rw [henv]; exact t1_ev (e2_ev rfl rfl (isnt_oD _))
      cases hm : x.most with
      | none =>
        rw [hm] at d1
        exact ⟨false, and_f d1, ⟨fun e => (by cases e), fun z => absurd (fun m hm => nomatch hm) z⟩⟩
      | some m =>
        rw [hm] at d1
        have d2 : t1 (e2 gtD (eVar 7) (eVar 4)) env = some (decide (m < w)) := by rw [henv, hm]; exact t1_ev (e2_ev rfl rfl (gtD_int _ _))
        refine ⟨_, and_t d1 d2, ?_⟩
        rw [decide_eq_true_iff]
        exact ⟨fun z y => by have := y m rfl; omega, fun z => by
          by_cases y : m < w
          · exact y
          · exact absurd (fun m' hm' => by cases hm'; omega) z⟩
    have c3 : ∃ b, tAnd' (t1 (e2 isntD (eVar 5) (eC .none))) (t1 (e2 ltD (e2 mulD (eC (.int 100)) (e2 addD (eVar 7) (eC (.int 1)))) (e2 mulD (eVar 5) (e2 ixG (eVar 1) (e1 negD (eC (.int 1))))))) env = some b ∧ (b = true ↔ ¬ ∀ p, x.pc = some p → p * last ≤ 100 * (w + 1)) := by
      have d1 : t1 (e2 isntD (eVar 5) (eC .none)) env = some (decide (x.pc ≠ none)) := by rw [henv]; exact t1_ev (e2_ev rfl rfl (isnt_oD _))
      cases hm : x.pc with
      | none =>
        rw [hm] at d1
        exact ⟨false, and_f d1, ⟨fun e => (by cases e), fun z => absurd (fun m hm => nomatch hm) z⟩⟩
      | some p =>
        rw [hm] at d1
        have hp := hok.pc p hm
        have d2 : t1 (e2 ltD (e2 mulD (eC (.int 100)) (e2 addD (eVar 7) (eC (.int 1)))) (e2 mulD (eVar 5) (e2 ixG (eVar 1) (e1 negD (eC (.int 1)))))) env = some (decide (100 * (w + 1) < p * last)) := by
          rw [henv, hm, hlast]
          exact t1_ev (e2_ev (e2_ev rfl (e2_ev rfl rfl (addD_int _ _)) (mulD_int (.inl (by decide)))) (e2_ev rfl (e2_ev (x := .tuple (xs.map .int)) (by rw [hY]; rfl) rfl (last_ix xs (by omega))) (mulD_int (.inl (by omega)))) (ltD_int _ _))
        refine ⟨_, and_t d1 d2, ?_⟩
        rw [decide_eq_true_iff]
        exact ⟨fun z y => by have := y p rfl; omega, fun z => by
          by_cases y : 100 * (w + 1) < p * last
          · exact y
          · exact absurd (fun m' hm' => by cases hm'; omega) z⟩
    obtain ⟨b2, c2, c2'⟩ := c2
    obtain ⟨b3, c3, c3'⟩ := c3
    have hstart : b_Lcolumns_right_1 [.val T, .val Y, .val (.int k), y3, y4, y5, y6, y7] = sSeq (sIf (tOr' (t1 (e2 ltD (eVar 7) (eVar 3))) (tAnd' (t1 (e2 isntD (eVar 4) (eC .none))) (t1 (e2 gtD (eVar 7) (eVar 4))))) (sRet (eC (.bool false))) sNil) (sIf (tAnd' (t1 (e2 isntD (eVar 5) (eC .none))) (t1 (e2 ltD (e2 mulD (eC (.int 100)) (e2 addD (eVar 7) (eC (.int 1)))) (e2 mulD (eVar 5) (e2 ixG (eVar 1) (e1 negD (eC (.int 1)))))))) (sRet (eC (.bool false))) sNil) env := by
      rw [henv]
      unfold b_Lcolumns_right_1
      exact (sSeq_nx g3).trans (sSeq_nx g7)
    rw [hstart]
    have hiff : (∀ x' : LCol, t.cols[j]? = some x' → x'.least ≤ w ∧ (∀ m, x'.most = some m → w ≤ m) ∧ ∀ p, x'.pc = some p → p * last ≤ 100 * (w + 1)) ↔ (x.least ≤ w ∧ (∀ m, x.most = some m → w ≤ m) ∧ ∀ p, x.pc = some p → p * last ≤ 100 * (w + 1)) := ⟨fun z => z x hxx, fun z x' hx' => by rw [hxx] at hx'; cases hx'; exact z⟩
    rw [hiff]
    by_cases q1 : w < x.least
    · rw [decide_eq_true q1] at c1
      exact .inr ⟨fun z => by omega, sSeq_rt ((sIf_t (or_t c1)).trans rfl)⟩
    · rw [decide_eq_false q1] at c1
      have c12 := or_f c1 c2
      cases b2 with
      | true => exact .inr ⟨fun z => (c2'.mp rfl) z.2.1, sSeq_rt ((sIf_t c12).trans rfl)⟩
      | false =>
        have z2 : ∀ m, x.most = some m → w ≤ m := Classical.byContradiction fun z => by have := c2'.mpr z; cases this
        cases b3 with
        | true => exact .inr ⟨fun z => (c3'.mp rfl) z.2.2, (sSeq_nx ((sIf_f c12).trans rfl)).trans ((sIf_t c3).trans rfl)⟩
        | false =>
          have z3 : ∀ p, x.pc = some p → p * last ≤ 100 * (w + 1) := Classical.byContradiction fun z => by have := c3'.mpr z; cases this
          exact .inl ⟨⟨by omega, z2, z3⟩, env, .inl ((sSeq_nx ((sIf_f c12).trans rfl)).trans ((sIf_f c3).trans rfl)), _, _, _, _, _, _, henv⟩) ⟨_, _, _, _, _, _, rfl⟩
  have hrg := iR1_ev (fa := aCons (eCall lenA (aCons (e2 ixG (eVar 0) (eC (.int 0))) aNil)) aNil) (env := [.val T, .val Y, .un, .un, .un, .un, .un, .un]) (N := (t.cols.length : Nat)) (aCons_ev (eCall_ev (aCons_ev (by rw [hT]; exact tab_cols t _) aNil_ev) (by show some (PyData.int (List.length _ : Nat)) = _; rw [List.length_map])) aNil_ev) (by omega) (by omega)
  rw [Int.toNat_natCast] at hrg
  have hiff : (∀ j, j < t.cols.length → ∀ x : LCol, t.cols[j]? = some x → x.least ≤ inn xs (j : Nat) 1 ∧ (∀ m, x.most = some m → inn xs (j : Nat) 1 ≤ m) ∧ ∀ p, x.pc = some p → p * last ≤ 100 * (inn xs (j : Nat) 1 + 1)) ↔ ColsR t xs := by
    unfold ColsR
    rw [← hlast]
    exact ⟨fun z j x hx => z j (List.getElem?_eq_some_iff.mp hx).1 x hx, fun z j _ x hx => z j x hx⟩
  rw [← hT, ← hY]
  rcases hlp with ⟨⟨e', h1, y2, y3, y4, y5, y6, y7, rfl⟩, h2⟩ | ⟨h1, h2⟩
  · refine ⟨true, gDef_ev' (fB := f_Lcolumns_right) [.val T, .val Y, .un, .un, .un, .un, .un, .un] rfl rfl ?_, ⟨fun _ => hiff.mp h2, fun _ => rfl⟩⟩
    unfold f_Lcolumns_right
    exact (sSeq_nx (sFor_ev hrg h1)).trans rfl
  · refine ⟨false, gDef_ev' (fB := f_Lcolumns_right) [.val T, .val Y, .un, .un, .un, .un, .un, .un] rfl rfl ?_, ⟨fun e => (by cases e), fun z => absurd (hiff.mpr z) h2⟩⟩
    unfold f_Lcolumns_right
    exact sSeq_rt (sFor_ev hrg h1)
/-- the words of a cell have room -/
def CellR (x : LCell) (xs ys : List Int) : Prop := lg x.ws ≤ inn xs x.c x.w ∧ (cnt (inn xs x.c x.w) x.ws : Int) ≤ inn ys x.r x.h
def CellsR (t : LTab) (xs ys : List Int) : Prop := ∀ x ∈ t.cells, CellR x xs ys

theorem cellsR_ev (t : LTab) (ht : TabOk t) (xs ys : List Int) (hx : xs.length = t.cols.length + 1) (hy : ys.length = t.rows.length + 1) (hpos : ∀ x ∈ t.cells, 0 ≤ inn xs x.c x.w) : ∃ b : Bool, g_Lcells_right [tabD t, .tuple (xs.map .int), .tuple (ys.map .int)] = some (.bool b) ∧ (b = true ↔ CellsR t xs ys) := by
  obtain ⟨T, hT⟩ : ∃ T : PyData, T = tabD t := ⟨_, rfl⟩
  obtain ⟨X, hX⟩ : ∃ X : PyData, X = .tuple (xs.map .int) := ⟨_, rfl⟩
  obtain ⟨Y, hY⟩ : ∃ Y : PyData, Y = .tuple (ys.map .int) := ⟨_, rfl⟩
  have hlp := loop_all (g := gT [3, 4, 5, 6, 7]) (b := b_Lcells_right_1)
    (fun j => ∀ x : LCell, t.cells[j]? = some x → CellR x xs ys) (fun e => ∃ y3 y4 y5 y6 y7 y8, e = [.val T, .val X, .val Y, y3, y4, y5, y6, y7, y8]) (t.cells.map cellD) 0 [.val T, .val X, .val Y, .un, .un, .un, .un, .un, .un] (fun j d e hj hi => by
    obtain ⟨y3, y4, y5, y6, y7, y8, rfl⟩ := hi
    rw [List.getElem?_map] at hj
    cases hxx : t.cells[j]? with
    | none => rw [hxx] at hj; cases hj
    | some x =>
      rw [hxx] at hj
      cases hj
      have hmem := List.mem_of_getElem? hxx
      have hok := ht.cl x hmem
      have hp := hpos x hmem
      rw [Nat.zero_add]
      have b1 := hok.r
      have b2 := hok.c
      have b3 := hok.h
      have b4 := hok.w
      have b5 := hok.rh
      have b6 := hok.cw
      have h8 : ∀ w ∈ x.ws, w.length ≤ 8 := fun w hw => by have := (pool8_ok w (hok.p w hw)).2.1; omega
      refine ⟨[.val T, .val X, .val Y, .val (.int x.r), .val (.int x.c), .val (.int x.h), .val (.int x.w), .val (.tuple (tws x.ws)), y8], rfl, ?_⟩
      obtain ⟨W, hW⟩ : ∃ W : Int, W = inn xs x.c x.w := ⟨_, rfl⟩
      obtain ⟨M, hM⟩ : ∃ M : Int, M = inn ys x.r x.h := ⟨_, rfl⟩
      have hiff : (∀ x' : LCell, t.cells[j]? = some x' → CellR x' xs ys) ↔ (lg x.ws ≤ W ∧ (cnt W x.ws : Int) ≤ M) := by
        rw [hW, hM]
        exact ⟨fun z => z x hxx, fun z x' hx' => by rw [hxx] at hx'; cases hx'; exact z⟩
      rw [hiff]
      rw [← hW] at hp
      have hin : eCall g_Linner (aCons (eVar 1) (aCons (eVar 4) (aCons (eVar 6) aNil))) [.val T, .val X, .val Y, .val (.int x.r), .val (.int x.c), .val (.int x.h), .val (.int x.w), .val (.tuple (tws x.ws)), y8] = some (.int W) := by
        rw [hX, hW]
        exact eCall_ev (aCons_ev rfl (aCons_ev rfl (aCons_ev rfl aNil_ev))) (inner_ev xs x.c x.w ⟨by omega, by omega, by omega⟩).2
      have hlc := lcount_ev x.ws W h8 hok.l
      by_cases q : W < lg x.ws ∧ x.ws ≠ []
      · rw [if_pos q] at hlc
        refine .inr ⟨fun z => by omega, ?_⟩
        unfold b_Lcells_right_1
        refine (sSeq_nx (e := [.val T, .val X, .val Y, .val (.int x.r), .val (.int x.c), .val (.int x.h), .val (.int x.w), .val (.tuple (tws x.ws)), .val .none]) (sSet_ev (eCall_ev (aCons_ev rfl (aCons_ev hin aNil_ev)) hlc))).trans ?_
        exact (sIf_t (or_t (t1_ev (e2_ev rfl rfl rfl)))).trans rfl
      · rw [if_neg q] at hlc
        have hlg : lg x.ws ≤ W := by
          by_cases z : x.ws = []
          · rw [z]; exact hp
          · have : ¬ W < lg x.ws := fun y => q ⟨y, z⟩
            omega
        have htst : tOr' (t1 (e2 isD (eVar 8) (eC .none))) (t1 (e2 gtD (eVar 8) (eCall g_Linner (aCons (eVar 2) (aCons (eVar 3) (aCons (eVar 5) aNil)))))) [.val T, .val X, .val Y, .val (.int x.r), .val (.int x.c), .val (.int x.h), .val (.int x.w), .val (.tuple (tws x.ws)), .val (.int (cnt W x.ws : Nat))] = some (decide (M < (cnt W x.ws : Int))) := by
          refine or_f (t1_ev (e2_ev rfl rfl rfl)) (t1_ev (e2_ev rfl ?_ (gtD_int _ _)))
          rw [hY, hM]
          exact eCall_ev (aCons_ev rfl (aCons_ev rfl (aCons_ev rfl aNil_ev))) (inner_ev ys x.r x.h ⟨by omega, by omega, by omega⟩).2
        have hset : sSet 8 (eCall g_Lline_count (aCons (eVar 7) (aCons (eCall g_Linner (aCons (eVar 1) (aCons (eVar 4) (aCons (eVar 6) aNil)))) aNil))) [.val T, .val X, .val Y, .val (.int x.r), .val (.int x.c), .val (.int x.h), .val (.int x.w), .val (.tuple (tws x.ws)), y8] = .nx [.val T, .val X, .val Y, .val (.int x.r), .val (.int x.c), .val (.int x.h), .val (.int x.w), .val (.tuple (tws x.ws)), .val (.int (cnt W x.ws : Nat))] := sSet_ev (eCall_ev (aCons_ev rfl (aCons_ev hin aNil_ev)) hlc)
        by_cases z : M < (cnt W x.ws : Int)
        · rw [decide_eq_true z] at htst
          refine .inr ⟨fun y => by omega, ?_⟩
          unfold b_Lcells_right_1
          exact (sSeq_nx hset).trans ((sIf_t htst).trans rfl)
        · rw [decide_eq_false z] at htst
          refine .inl ⟨⟨hlg, by omega⟩, [.val T, .val X, .val Y, .val (.int x.r), .val (.int x.c), .val (.int x.h), .val (.int x.w), .val (.tuple (tws x.ws)), .val (.int (cnt W x.ws : Nat))], .inl ?_, _, _, _, _, _, _, rfl⟩
          unfold b_Lcells_right_1
          exact (sSeq_nx hset).trans ((sIf_f htst).trans rfl)) ⟨_, _, _, _, _, _, rfl⟩
  rw [List.length_map] at hlp
  have hiff : (∀ j, j < t.cells.length → ∀ x : LCell, t.cells[0 + j]? = some x → CellR x xs ys) ↔ CellsR t xs ys := by
    constructor
    · intro z x hx
      obtain ⟨j, hj, e⟩ := List.getElem_of_mem hx
      exact z j hj x (by rw [Nat.zero_add, List.getElem?_eq_getElem hj, e])
    · intro z j hj x hx
      exact z x (List.mem_of_getElem? hx)
  have hit : iSeq (e2 ixG (eVar 0) (eC (.int 2))) [.val T, .val X, .val Y, .un, .un, .un, .un, .un, .un] = some (t.cells.map cellD) := by
    unfold iSeq
    rw [hT, tab_cells]
  rw [← hT, ← hX, ← hY]
  rcases hlp with ⟨⟨e', h1, y3, y4, y5, y6, y7, y8, rfl⟩, h2⟩ | ⟨h1, h2⟩
  · refine ⟨true, gDef_ev' (fB := f_Lcells_right) [.val T, .val X, .val Y, .un, .un, .un, .un, .un, .un] rfl rfl ?_, ⟨fun _ => hiff.mp h2, fun _ => rfl⟩⟩
    unfold f_Lcells_right
    exact (sSeq_nx (sFor_ev hit h1)).trans rfl
  · refine ⟨false, gDef_ev' (fB := f_Lcells_right) [.val T, .val X, .val Y, .un, .un, .un, .un, .un, .un] rfl rfl ?_, ⟨fun e => (by cases e), fun z => absurd (hiff.mpr z) h2⟩⟩
    unfold f_Lcells_right
    exact sSeq_rt (sFor_ev hit h1)
/-! all rising lines -/
abbrev tiD (x : List Int) : PyData := .tuple (x.map .int)
structure Ris (M : Int) (n : Nat) (x : List Int) : Prop where
  len : x.length = n + 1
  z : x.getD 0 0 = 0
  up : ∀ j, j < n → x.getD j 0 + 2 ≤ x.getD (j + 1) 0
  mx : ∀ j, j < n → x.getD (j + 1) 0 ≤ M
theorem Ris.last {M : Int} {n : Nat} {x : List Int} (h : Ris M n x) : 0 ≤ x.getD n 0 := by
  have : ∀ j, j ≤ n → 0 ≤ x.getD j 0 := by
    intro j
    induction j with
    | zero => intro _; rw [h.z]; exact Int.le_refl _
    | succ j ih => intro hj; have := ih (by omega); have := h.up j (by omega); omega
  exact this n (Nat.le_refl _)
theorem ris_zero (M : Int) (x : List Int) : Ris M 0 x ↔ x = [0] := by
  constructor
  · rintro ⟨h1, h2, _, _⟩
    cases x with
    | nil => cases h1
    | cons a r =>
      have hr : r = [] := List.eq_nil_of_length_eq_zero (by simpa using h1)
      subst hr
      have h2 : a = 0 := h2
      rw [h2]
  · intro e
    subst e
    exact ⟨rfl, rfl, fun j hj => by omega, fun j hj => by omega⟩
theorem ris_succ (M : Int) (n : Nat) (x : List Int) : Ris M (n + 1) x ↔ ∃ y v, x = y ++ [v] ∧ Ris M n y ∧ y.getD n 0 + 2 ≤ v ∧ v ≤ M := by
  constructor
  · rintro ⟨h1, h2, h3, h4⟩
    rcases List.eq_nil_or_concat x with e | ⟨y, v, e⟩
    · subst e; cases h1
    · rw [List.concat_eq_append] at e
      subst e
      have hl : y.length = n + 1 := by simpa using h1
      have hv : (y ++ [v]).getD (n + 1) 0 = v := by rw [← hl]; exact getD_app2 y v
      have hj : ∀ j, j < n + 1 → (y ++ [v]).getD j 0 = y.getD j 0 := fun j hj => getD_app1 y v j (by omega)
      refine ⟨y, v, rfl, ⟨hl, by rw [← hj 0 (by omega)]; exact h2, fun j hj' => ?_, fun j hj' => ?_⟩, ?_, ?_⟩
      · have := h3 j (by omega)
        rw [hj j (by omega), hj (j + 1) (by omega)] at this
        exact this
      · have := h4 j (by omega)
        rw [hj (j + 1) (by omega)] at this
        exact this
      · have := h3 n (by omega)
        rw [hj n (by omega), hv] at this
        exact this
      · have := h4 n (by omega)
        rw [hv] at this
        exact this
  · rintro ⟨y, v, rfl, ⟨h1, h2, h3, h4⟩, h5, h6⟩
    have hv : (y ++ [v]).getD (n + 1) 0 = v := by rw [← h1]; exact getD_app2 y v
    have hj : ∀ j, j < n + 1 → (y ++ [v]).getD j 0 = y.getD j 0 := fun j hj => getD_app1 y v j (by omega)
    refine ⟨by simp [h1], by rw [hj 0 (by omega)]; exact h2, fun j hj' => ?_, fun j hj' => ?_⟩
    · by_cases q : j < n
      · rw [hj j (by omega), hj (j + 1) (by omega)]; exact h3 j q
      · have e : j = n := by omega
        subst e
        rw [hj j (by omega), hv]; exact h5
    · by_cases q : j < n
      · rw [hj (j + 1) (by omega)]; exact h4 j q
      · have e : j = n := by omega
        subst e
        rw [hv]; exact h6
theorem ris_in (a0 a2 a3 : Sl) (M : Int) (m : Nat) (hM : 0 ≤ M ∧ M + 1 ≤ m ∧ m ≤ 31) (n : Nat) (hn : n ≤ 5) (L : List Int) (hL : Ris M n L) (acc : List (List Int)) (hacc : acc.length ≤ 100000) (y6 : Sl) :
    ∃ (N : List (List Int)) (z6 : Sl), N.length ≤ m ∧ (∀ x, x ∈ N ↔ ∃ v, x = L ++ [v] ∧ L.getD n 0 + 2 ≤ v ∧ v ≤ M) ∧ b_Lrising_2 [a0, .val (.int M), a2, a3, .own (acc.map tiD), .val (tiD L), y6] = .nx [a0, .val (.int M), a2, a3, .own ((acc ++ N).map tiD), .val (tiD L), z6] := by
  have hl := hL.last
  have hl2 := hL.len
  obtain ⟨lo, hlo⟩ : ∃ lo : Int, lo = L.getD n 0 + 2 := ⟨_, rfl⟩
  have hlx : atI (L.map PyData.int) (-1) = some (.int (L.getD n 0)) := by
    have := last_ix L (by omega)
    rw [show L.length - 1 = n by omega] at this
    exact this
  have hln : L.getD n 0 ≤ 30 := by
    by_cases q : n = 0
    · subst q; rw [hL.z]; omega
    · have := hL.mx (n - 1) (by omega)
      rw [show n - 1 + 1 = n by omega] at this
      omega
  have hr := iR2_ev (fa := aCons (e2 addD (e2 ixG (eVar 5) (e1 negD (eC (.int 1)))) (eC (.int 2))) (aCons (e2 addD (eVar 1) (eC (.int 1))) aNil)) (env := [a0, .val (.int M), a2, a3, .own (acc.map tiD), .val (tiD L), y6]) (M := lo) (N := M + 1)
    (aCons_ev (by rw [hlo]; exact e2_ev (e2_ev (x := tiD L) rfl rfl hlx) rfl (addD_int _ _)) (aCons_ev (e2_ev rfl rfl (addD_int _ _)) aNil_ev)) (by omega) (by omega) (by omega) (by omega)
  obtain ⟨c, hc⟩ : ∃ c : Nat, c = (M + 1 - lo).toNat := ⟨_, rfl⟩
  rw [← hc] at hr
  have hlp := loop_rng (g := gVal 6) (b := b_Lrising_1) (lo := lo) (n := c) (e := [a0, .val (.int M), a2, a3, .own (acc.map tiD), .val (tiD L), y6])
    (fun j e => ∃ (N : List (List Int)) (z6 : Sl), N.length = j ∧ (∀ x, x ∈ N ↔ ∃ v, x = L ++ [v] ∧ lo ≤ v ∧ v < lo + j) ∧ e = [a0, .val (.int M), a2, a3, .own ((acc ++ N).map tiD), .val (tiD L), z6]) (fun j e hj he => by
      obtain ⟨N, z6, h1, h2, rfl⟩ := he
      obtain ⟨v, hv⟩ : ∃ v : Int, v = lo + (j : Nat) := ⟨_, rfl⟩
      rw [← hv]
      refine ⟨[a0, .val (.int M), a2, a3, .own ((acc ++ N).map tiD), .val (tiD L), .val (.int v)], rfl, [a0, .val (.int M), a2, a3, .own ((acc ++ (N ++ [L ++ [v]])).map tiD), .val (tiD L), .val (.int v)], .inl ?_, N ++ [L ++ [v]], _, by simp [h1], fun x => ?_, rfl⟩
      · unfold b_Lrising_1
        rw [← List.append_assoc, List.map_append (l₁ := acc ++ N)]
        refine sApp_ev (i := 4) (e2_ev rfl (eTup_ev (aCons_ev rfl aNil_ev) (by simp)) ?_) rfl (by rw [List.length_map, List.length_append]; omega)
        show addD (.tuple (L.map .int)) (.tuple [.int v]) = some (.tuple ((L ++ [v]).map .int))
        rw [addD_tup (by rw [List.length_map]; simp; omega), List.map_append]
        rfl
      · rw [List.mem_append, List.mem_singleton, h2 x]
        constructor
        · rintro (⟨u, e, h3, h4⟩ | e)
          · exact ⟨u, e, h3, by omega⟩
          · exact ⟨v, e, by omega, by omega⟩
        · rintro ⟨u, e, h3, h4⟩
          by_cases q : u = v
          · rw [q] at e; exact .inr e
          · exact .inl ⟨u, e, h3, by omega⟩) ⟨[], y6, rfl, (fun x => ⟨fun h => (by cases h), fun ⟨v, _, h3, h4⟩ => by omega⟩), by simp⟩
  obtain ⟨e', k1, N, z6, k2, k3, rfl⟩ := hlp
  refine ⟨N, z6, by omega, fun x => ?_, ?_⟩
  · rw [k3 x, ← hlo]
    constructor
    · rintro ⟨v, e, h3, h4⟩; exact ⟨v, e, h3, by omega⟩
    · rintro ⟨v, e, h3, h4⟩; exact ⟨v, e, h3, by omega⟩
  · unfold b_Lrising_2
    exact sFor_ev hr k1
theorem ris_mid (a0 a2 a3 : Sl) (M : Int) (m : Nat) (hM : 0 ≤ M ∧ M + 1 ≤ m ∧ m ≤ 31) (n : Nat) (hn : n ≤ 5) : ∀ (Ls acc : List (List Int)) (y5 y6 : Sl), (∀ L ∈ Ls, Ris M n L) → acc.length + m * Ls.length ≤ 100000 →
    ∃ (N : List (List Int)) (z5 z6 : Sl), N.length ≤ m * Ls.length ∧ (∀ x, x ∈ N ↔ ∃ L ∈ Ls, ∃ v, x = L ++ [v] ∧ L.getD n 0 + 2 ≤ v ∧ v ≤ M) ∧ loopF (gVal 5) b_Lrising_2 (Ls.map tiD) [a0, .val (.int M), a2, a3, .own (acc.map tiD), y5, y6] = .nx [a0, .val (.int M), a2, a3, .own ((acc ++ N).map tiD), z5, z6]
  | [], acc, y5, y6, _, _ => ⟨[], y5, y6, by simp, (fun x => by simp), by simp [loopF]⟩
  | L :: Ls, acc, y5, y6, hL, hl => by
    rw [List.length_cons, Nat.mul_succ] at hl
    obtain ⟨N1, z6, n1, n2, n3⟩ := ris_in a0 a2 a3 M m hM n hn L (hL L List.mem_cons_self) acc (by omega) y6
    obtain ⟨N2, w5, w6, m1, m2, m3⟩ := ris_mid a0 a2 a3 M m hM n hn Ls (acc ++ N1) (.val (tiD L)) z6 (fun K hK => hL K (List.mem_cons_of_mem _ hK)) (by rw [List.length_append]; omega)
    refine ⟨N1 ++ N2, w5, w6, by rw [List.length_append, List.length_cons, Nat.mul_succ]; omega, fun x => ?_, ?_⟩
    · rw [List.mem_append, n2 x, m2 x]
      constructor
      · rintro (h | ⟨K, hK, h⟩)
        · exact ⟨L, List.mem_cons_self, h⟩
        · exact ⟨K, List.mem_cons_of_mem _ hK, h⟩
      · rintro ⟨K, hK, h⟩
        rcases List.mem_cons.mp hK with e | hK
        · subst e; exact .inl h
        · exact .inr ⟨K, hK, h⟩
    · rw [List.map_cons]
      simp only [loopF, gVal, List.set_cons_succ, List.set_cons_zero, n3]
      rw [m3, List.append_assoc]
theorem ris_ev (M : Int) (m : Nat) (hM : 0 ≤ M ∧ M + 1 ≤ m ∧ m ≤ 31) (C : Nat) (hC : C ≤ 3) : ∃ Rs : List (List Int), g_Lrising [.int (C : Nat), .int M] = some (.list (Rs.map tiD)) ∧ Rs.length ≤ m ^ C ∧ ∀ x, x ∈ Rs ↔ Ris M C x := by
  have hrg := iR1_ev (fa := aCons (eVar 0) aNil) (env := [.val (.int (C : Nat)), .val (.int M), .val (.list [tiD [0]]), .un, .un, .un, .un]) (N := (C : Nat)) rfl (by omega) (by omega)
  rw [Int.toNat_natCast] at hrg
  have hpw : ∀ j, j < 3 → m ^ j ≤ 961 := fun j hj => by
    have h1 : m ^ j ≤ 31 ^ j := Nat.pow_le_pow_left hM.2.2 j
    have h2 : (31 : Nat) ^ j ≤ 31 ^ 2 := Nat.pow_le_pow_right (by decide) (by omega)
    omega
  have hlp := loop_rng (g := gVal 3) (b := b_Lrising_3) (lo := 0) (n := C) (e := [.val (.int (C : Nat)), .val (.int M), .val (.list [tiD [0]]), .un, .un, .un, .un])
    (fun j e => ∃ (Fs : List (List Int)) (y3 y4 y5 y6 : Sl), Fs.length ≤ m ^ j ∧ (∀ x, x ∈ Fs ↔ Ris M j x) ∧ e = [.val (.int (C : Nat)), .val (.int M), .val (.list (Fs.map tiD)), y3, y4, y5, y6]) (fun j e hj he => by
      obtain ⟨Fs, y3, y4, y5, y6, h1, h2, rfl⟩ := he
      obtain ⟨k, hk⟩ : ∃ k : Int, k = 0 + (j : Nat) := ⟨_, rfl⟩
      rw [← hk]
      have hp := hpw j (by omega)
      have hmm : m * Fs.length ≤ 31 * 961 := Nat.mul_le_mul hM.2.2 (by omega)
      obtain ⟨N, z5, z6, n1, n2, n3⟩ := ris_mid (.val (.int (C : Nat))) (.val (.list (Fs.map tiD))) (.val (.int k)) M m hM j (by omega) Fs [] y5 y6 (fun L hL => (h2 L).mp hL) (by rw [List.length_nil]; omega)
      refine ⟨[.val (.int (C : Nat)), .val (.int M), .val (.list (Fs.map tiD)), .val (.int k), y4, y5, y6], rfl, [.val (.int (C : Nat)), .val (.int M), .val (.list (N.map tiD)), .val (.int k), .val (.list (N.map tiD)), z5, z6], .inl ?_, N, _, _, _, _, ?_, fun x => ?_, rfl⟩
      · unfold b_Lrising_3
        refine (sSeq_nx (e := [.val (.int (C : Nat)), .val (.int M), .val (.list (Fs.map tiD)), .val (.int k), .own [], y5, y6]) (by rfl)).trans ?_
        refine (sSeq_nx (sFor_ev (ds := Fs.map tiD) (by rfl) n3)).trans ?_
        rw [List.nil_append]
        rfl
      · rw [Nat.pow_succ, Nat.mul_comm]
        exact Nat.le_trans n1 (Nat.mul_le_mul (Nat.le_refl _) h1)
      · rw [n2 x, ris_succ]
        constructor
        · rintro ⟨L, hL, v, e, h3, h4⟩; exact ⟨L, v, e, (h2 L).mp hL, h3, h4⟩
        · rintro ⟨L, v, e, hL, h3, h4⟩; exact ⟨L, (h2 L).mpr hL, v, e, h3, h4⟩) ⟨[[0]], .un, .un, .un, .un, by simp, (fun x => by rw [ris_zero, List.mem_singleton]), rfl⟩
  obtain ⟨e', l1, Fs, y3, y4, y5, y6, k1, k2, rfl⟩ := hlp
  refine ⟨Fs, ?_, k1, k2⟩
  refine gDef_ev' (fB := f_Lrising) [.val (.int (C : Nat)), .val (.int M), .un, .un, .un, .un, .un] rfl rfl ?_
  unfold f_Lrising
  refine (sSeq_nx (e := [.val (.int (C : Nat)), .val (.int M), .val (.list [tiD [0]]), .un, .un, .un, .un]) (by rfl)).trans ?_
  exact (sSeq_nx (sFor_ev hrg l1)).trans rfl

/-! the constraints of the columns -/
theorem sol_app {cs ds : List Con} {X : Nat → Int} : Sol (cs ++ ds) X ↔ Sol cs X ∧ Sol ds X := by
  unfold Sol
  constructor
  · intro h
    exact ⟨fun c hc => h c (List.mem_append_left _ hc), fun c hc => h c (List.mem_append_right _ hc)⟩
  · rintro ⟨h1, h2⟩ c hc
    rcases List.mem_append.mp hc with hc | hc
    · exact h1 c hc
    · exact h2 c hc
theorem ix_app {cs ds : List Con} {N : Nat} (h1 : Ix cs N) (h2 : Ix ds N) : Ix (cs ++ ds) N := fun c hc => by
  rcases List.mem_append.mp hc with hc | hc
  · exact h1 c hc
  · exact h2 c hc
def gap (X : Nat → Int) (j : Nat) : Int := X (j + 1) - X j - 1
def colC (k : Nat) (x : LCol) : List Con := (k, k + 1, x.least + 1) :: (match x.most with
  | none => []
  | some m => [(k + 1, k, -m - 1)])
theorem colC_sol (k : Nat) (x : LCol) (X : Nat → Int) : Sol (colC k x) X ↔ x.least ≤ gap X k ∧ ∀ m, x.most = some m → gap X k ≤ m := by
  unfold colC Sol gap
  cases hm : x.most with
  | none =>
    simp
    omega
  | some m =>
    simp
    omega
theorem colC_len (k : Nat) (x : LCol) : (colC k x).length ≤ 2 := by
  unfold colC
  cases x.most <;> simp
theorem colC_ix (k : Nat) (x : LCol) (N : Nat) (h : k + 1 < N) : Ix (colC k x) N := by
  unfold colC Ix
  cases x.most <;> simp <;> omega
theorem known_cols (a0 a1 a2 a3 a4 a5 a11 a12 a13 a14 a15 : Sl) (N : Nat) : ∀ (cols : List LCol) (k : Nat) (acc : List Con) (y7 y8 y9 y10 : Sl), acc.length + 2 * cols.length ≤ 1000 → k + cols.length < N →
    ∃ (cs : List Con) (z7 z8 z9 z10 : Sl), loopF (gT [7, 8]) b_known_constraints_1 (enumD k (cols.map colD)) [a0, a1, a2, a3, a4, a5, .own (acc.map conD), y7, y8, y9, y10, a11, a12, a13, a14, a15] = .nx [a0, a1, a2, a3, a4, a5, .own ((acc ++ cs).map conD), z7, z8, z9, z10, a11, a12, a13, a14, a15] ∧ cs.length ≤ 2 * cols.length ∧ Ix cs N ∧ ∀ X, Sol cs X ↔ ∀ (j : Nat) (x : LCol), cols[j]? = some x → x.least ≤ gap X (k + j) ∧ ∀ m, x.most = some m → gap X (k + j) ≤ m
  | [], k, acc, y7, y8, y9, y10, _, _ => ⟨[], y7, y8, y9, y10, by simp [enumD, loopF], by simp, (fun c hc => by cases hc), fun X => ⟨fun _ j x hx => by simp at hx, fun _ c hc => by cases hc⟩⟩
  | x :: cols, k, acc, y7, y8, y9, y10, hl, hN => by
    rw [List.length_cons] at hl hN
    obtain ⟨kz, hkz⟩ : ∃ kz : Int, kz = (k : Nat) := ⟨_, rfl⟩
    have hcl := colC_len k x
    have hb : ∃ z9 z10, b_known_constraints_1 [a0, a1, a2, a3, a4, a5, .own (acc.map conD), .val (.int kz), .val (colD x), y9, y10, a11, a12, a13, a14, a15] = .nx [a0, a1, a2, a3, a4, a5, .own ((acc ++ colC k x).map conD), .val (.int kz), .val (colD x), z9, z10, a11, a12, a13, a14, a15] := by
      have g1 : sUnp (eSl (eVar 8) oNone (oSome (eC (.int 2)))) (gT [9, 10]) [a0, a1, a2, a3, a4, a5, .own (acc.map conD), .val (.int kz), .val (colD x), y9, y10, a11, a12, a13, a14, a15] = .nx [a0, a1, a2, a3, a4, a5, .own (acc.map conD), .val (.int kz), .val (colD x), .val (.int x.least), .val (oD x.most), a11, a12, a13, a14, a15] := rfl
      have g2 : sApp 6 (eTup (aCons (eVar 7) (aCons (e2 addD (eVar 7) (eC (.int 1))) (aCons (e2 addD (eVar 9) (eC (.int 1))) aNil)))) [a0, a1, a2, a3, a4, a5, .own (acc.map conD), .val (.int kz), .val (colD x), .val (.int x.least), .val (oD x.most), a11, a12, a13, a14, a15] = .nx [a0, a1, a2, a3, a4, a5, .own ((acc ++ [(k, k + 1, x.least + 1)]).map conD), .val (.int kz), .val (colD x), .val (.int x.least), .val (oD x.most), a11, a12, a13, a14, a15] := by
        rw [List.map_append]
        refine sApp_ev (i := 6) ((eTup_ev (aCons_ev rfl (aCons_ev (e2_ev rfl rfl (addD_int _ _)) (aCons_ev (e2_ev rfl rfl (addD_int _ _)) aNil_ev))) (by simp)).trans ?_) rfl (by rw [List.length_map]; omega)
        show some (PyData.tuple [.int kz, .int (kz + 1), .int (x.least + 1)]) = some (.tuple [.int (k : Nat), .int ((k + 1 : Nat) : Int), .int (x.least + 1)])
        rw [show ((k + 1 : Nat) : Int) = kz + 1 by omega, ← hkz]
      have d1 : t1 (e2 isntD (eVar 10) (eC .none)) [a0, a1, a2, a3, a4, a5, .own ((acc ++ [(k, k + 1, x.least + 1)]).map conD), .val (.int kz), .val (colD x), .val (.int x.least), .val (oD x.most), a11, a12, a13, a14, a15] = some (decide (x.most ≠ none)) := t1_ev (e2_ev rfl rfl (isnt_oD _))
      refine ⟨.val (.int x.least), .val (oD x.most), ?_⟩
      unfold b_known_constraints_1
      refine (sSeq_nx g1).trans ((sSeq_nx g2).trans ?_)
      cases hm : x.most with
      | none =>
        rw [hm] at d1
        have : colC k x = [(k, k + 1, x.least + 1)] := by unfold colC; rw [hm]
        rw [this]
        exact (sIf_f d1).trans rfl
      | some m =>
        rw [hm] at d1
        have : colC k x = [(k, k + 1, x.least + 1)] ++ [(k + 1, k, -m - 1)] := by unfold colC; rw [hm]; rfl
        rw [this, ← List.append_assoc, List.map_append (l₁ := acc ++ [(k, k + 1, x.least + 1)])]
        refine (sIf_t d1).trans ?_
        refine sApp_ev (i := 6) ((eTup_ev (aCons_ev (e2_ev rfl rfl (addD_int _ _)) (aCons_ev rfl (aCons_ev (e2_ev (x := .int (-m)) rfl rfl (subD_int _ _)) aNil_ev))) (by simp)).trans ?_) rfl (by rw [List.length_map, List.length_append]; simp; omega)
        show some (PyData.tuple [.int (kz + 1), .int kz, .int (-m - 1)]) = some (.tuple [.int ((k + 1 : Nat) : Int), .int (k : Nat), .int (-m - 1)])
        rw [show ((k + 1 : Nat) : Int) = kz + 1 by omega, ← hkz]
    obtain ⟨z9, z10, hb⟩ := hb
    obtain ⟨cs, w7, w8, w9, w10, i1, i2, i3, i4⟩ := known_cols a0 a1 a2 a3 a4 a5 a11 a12 a13 a14 a15 N cols (k + 1) (acc ++ colC k x) (.val (.int kz)) (.val (colD x)) z9 z10 (by rw [List.length_append]; omega) (by omega)
    refine ⟨colC k x ++ cs, w7, w8, w9, w10, ?_, by rw [List.length_append, List.length_cons]; omega, ix_app (colC_ix k x N (by omega)) i3, fun X => ?_⟩
    · rw [List.map_cons, enumD, ← hkz]
      simp only [loopF, gT, gMany, gVal, List.set_cons_succ, List.set_cons_zero, hb]
      rw [i1, List.append_assoc]
    · rw [sol_app, colC_sol, i4 X]
      constructor
      · rintro ⟨h1, h2⟩ j y hy
        cases j with
        | zero => cases hy; exact h1
        | succ j =>
          have := h2 j y (by simpa using hy)
          rw [show k + (j + 1) = k + 1 + j by omega]
          exact this
      · intro h
        refine ⟨h 0 x rfl, fun j y hy => ?_⟩
        have := h (j + 1) y (by simpa using hy)
        rw [show k + (j + 1) = k + 1 + j by omega] at this
        exact this

def gp (X : Nat → Int) (x : LCell) : Int := X (x.c + x.w).toNat - X x.c.toNat - 1
theorem known_cells (a0 a1 a2 a3 a4 a7 a9 a10 : Sl) (R C : Int) (ys : List Int) (hy : ys.length = R + 1) (N : Nat) (hN : (N : Int) = C + 1) : ∀ (cells : List LCell) (acc : List Con) (y8 y11 y12 y13 y14 y15 : Sl), (∀ x ∈ cells, CellOk R C x ∧ 1 ≤ inn ys x.r x.h) → acc.length + cells.length ≤ 1000 →
    ∃ (cs : List Con) (z8 z11 z12 z13 z14 z15 : Sl), loopF (gT [11, 8, 12, 13, 14]) b_known_constraints_2 (cells.map cellD) [a0, a1, a2, a3, a4, .val (tiD ys), .own (acc.map conD), a7, y8, a9, a10, y11, y12, y13, y14, y15] = .nx [a0, a1, a2, a3, a4, .val (tiD ys), .own ((acc ++ cs).map conD), a7, z8, a9, a10, z11, z12, z13, z14, z15] ∧ cs.length ≤ cells.length ∧ Ix cs N ∧ ∀ X, (∀ x ∈ cells, 1 ≤ gp X x) → (Sol cs X ↔ ∀ x ∈ cells, lg x.ws ≤ gp X x ∧ (cnt (gp X x) x.ws : Int) ≤ inn ys x.r x.h)
  | [], acc, y8, y11, y12, y13, y14, y15, _, _ => ⟨[], y8, y11, y12, y13, y14, y15, by simp [loopF], by simp, (fun c hc => by cases hc), fun X _ => ⟨(fun _ x hx => nomatch hx), (fun _ c hc => nomatch hc)⟩⟩
  | x :: cells, acc, y8, y11, y12, y13, y14, y15, hok, hl => by
    rw [List.length_cons] at hl
    obtain ⟨ho, hi⟩ := hok x List.mem_cons_self
    have b1 := ho.r
    have b2 := ho.c
    have b3 := ho.h
    have b4 := ho.w
    have b5 := ho.rh
    have b6 := ho.cw
    have h8 : ∀ w ∈ x.ws, w.length ≤ 8 := fun w hw => by have := (pool8_ok w (ho.p w hw)).2.1; omega
    obtain ⟨W, w1, w2, w3⟩ := narrow_spec x.ws h8 ho.l (inn ys x.r x.h) hi
    obtain ⟨c, hc⟩ : ∃ c : Con, c = (x.c.toNat, (x.c + x.w).toNat, W + 1) := ⟨_, rfl⟩
    have hb : b_known_constraints_2 [a0, a1, a2, a3, a4, .val (tiD ys), .own (acc.map conD), a7, .val (.int x.c), a9, a10, .val (.int x.r), .val (.int x.h), .val (.int x.w), .val (.tuple (tws x.ws)), y15] = .nx [a0, a1, a2, a3, a4, .val (tiD ys), .own ((acc ++ [c]).map conD), a7, .val (.int x.c), a9, a10, .val (.int x.r), .val (.int x.h), .val (.int x.w), .val (.tuple (tws x.ws)), .val (.int W)] := by
      unfold b_known_constraints_2
      refine (sSeq_nx (e := [a0, a1, a2, a3, a4, .val (tiD ys), .own (acc.map conD), a7, .val (.int x.c), a9, a10, .val (.int x.r), .val (.int x.h), .val (.int x.w), .val (.tuple (tws x.ws)), .val (.int W)]) (sSet_ev (eCall_ev (aCons_ev rfl (aCons_ev (eCall_ev (aCons_ev rfl (aCons_ev rfl (aCons_ev rfl aNil_ev))) (inner_ev ys x.r x.h ⟨by omega, by omega, by omega⟩).1) aNil_ev)) w2))).trans ?_
      rw [List.map_append]
      refine sApp_ev (i := 6) ((eTup_ev (aCons_ev rfl (aCons_ev (e2_ev rfl rfl (addD_int _ _)) (aCons_ev (e2_ev rfl rfl (addD_int _ _)) aNil_ev))) (by simp)).trans ?_) rfl (by rw [List.length_map]; omega)
      rw [hc]
      show some (PyData.tuple [.int x.c, .int (x.c + x.w), .int (W + 1)]) = some (.tuple [.int (x.c.toNat : Int), .int ((x.c + x.w).toNat : Int), .int (W + 1)])
      rw [Int.toNat_of_nonneg b2, Int.toNat_of_nonneg (by omega)]
    obtain ⟨cs, v8, v11, v12, v13, v14, v15, i1, i2, i3, i4⟩ := known_cells a0 a1 a2 a3 a4 a7 a9 a10 R C ys hy N hN cells (acc ++ [c]) (.val (.int x.c)) (.val (.int x.r)) (.val (.int x.h)) (.val (.int x.w)) (.val (.tuple (tws x.ws))) (.val (.int W)) (fun z hz => hok z (List.mem_cons_of_mem _ hz)) (by rw [List.length_append, List.length_singleton]; omega)
    refine ⟨[c] ++ cs, v8, v11, v12, v13, v14, v15, ?_, by simp; omega, ix_app (fun d hd => ?_) i3, fun X hX => ?_⟩
    · rw [List.map_cons]
      show loopF (gT [11, 8, 12, 13, 14]) b_known_constraints_2 (.tuple [.int x.r, .int x.c, .int x.h, .int x.w, .tuple (tws x.ws)] :: cells.map cellD) _ = _
      simp only [loopF, gT, gMany, gVal, List.set_cons_succ, List.set_cons_zero, hb]
      rw [i1, List.append_assoc]
    · rw [List.mem_singleton.mp hd, hc]
      exact ⟨by show x.c.toNat < N; omega, by show (x.c + x.w).toNat < N; omega⟩
    · have hx1 := hX x List.mem_cons_self
      have hone : Sol [c] X ↔ W ≤ gp X x := by
        unfold Sol gp
        rw [hc]
        simp
        omega
      rw [sol_app, hone, i4 X (fun z hz => hX z (List.mem_cons_of_mem _ hz)), w3 (gp X x) hx1]
      constructor
      · rintro ⟨h1, h2⟩ z hz
        rcases List.mem_cons.mp hz with e | hz
        · subst e; exact h1
        · exact h2 z hz
      · intro h
        exact ⟨h x List.mem_cons_self, fun z hz => h z (List.mem_cons_of_mem _ hz)⟩
def shC (k : Nat) (L : Int) (x : LCol) : List Con := match x.pc with
  | none => []
  | some p => [(k, k + 1, (p * L + 99) / 100)]
theorem shC_sol (k : Nat) (L : Int) (x : LCol) (X : Nat → Int) : Sol (shC k L x) X ↔ ∀ p, x.pc = some p → p * L ≤ 100 * (gap X k + 1) := by
  unfold shC Sol gap
  cases hm : x.pc with
  | none => simp
  | some p =>
    simp
    obtain ⟨q, hq⟩ : ∃ q : Int, q = p * L := ⟨_, rfl⟩
    rw [← hq]
    omega
theorem share_loop (a0 : Sl) (L : Int) (hL : 0 ≤ L ∧ L ≤ 100000) (N : Nat) : ∀ (cols : List LCol) (k : Nat) (acc : List Con) (y3 y4 y5 : Sl), (∀ x ∈ cols, ColOk x) → acc.length + cols.length ≤ 1000 → k + cols.length < N →
    ∃ (cs : List Con) (z3 z4 z5 : Sl), loopF (gT [3, 4]) b_share_constraints_1 (enumD k (cols.map colD)) [a0, .val (.int L), .own (acc.map conD), y3, y4, y5] = .nx [a0, .val (.int L), .own ((acc ++ cs).map conD), z3, z4, z5] ∧ cs.length ≤ cols.length ∧ Ix cs N ∧ ∀ X, Sol cs X ↔ ∀ (j : Nat) (x : LCol), cols[j]? = some x → ∀ p, x.pc = some p → p * L ≤ 100 * (gap X (k + j) + 1)
  | [], k, acc, y3, y4, y5, _, _, _ => ⟨[], y3, y4, y5, by simp [enumD, loopF], by simp, (fun c hc => by cases hc), fun X => ⟨fun _ j x hx => by simp at hx, fun _ c hc => by cases hc⟩⟩
  | x :: cols, k, acc, y3, y4, y5, hok, hl, hN => by
    rw [List.length_cons] at hl hN
    have ho := hok x List.mem_cons_self
    obtain ⟨kz, hkz⟩ : ∃ kz : Int, kz = (k : Nat) := ⟨_, rfl⟩
    have hb : b_share_constraints_1 [a0, .val (.int L), .own (acc.map conD), .val (.int kz), .val (colD x), y5] = .nx [a0, .val (.int L), .own ((acc ++ shC k L x).map conD), .val (.int kz), .val (colD x), .val (oD x.pc)] := by
      have g1 : sSet 5 (e2 ixG (eVar 4) (eC (.int 2))) [a0, .val (.int L), .own (acc.map conD), .val (.int kz), .val (colD x), y5] = .nx [a0, .val (.int L), .own (acc.map conD), .val (.int kz), .val (colD x), .val (oD x.pc)] := rfl
      have d1 : t1 (e2 isntD (eVar 5) (eC .none)) [a0, .val (.int L), .own (acc.map conD), .val (.int kz), .val (colD x), .val (oD x.pc)] = some (decide (x.pc ≠ none)) := t1_ev (e2_ev rfl rfl (isnt_oD _))
      unfold b_share_constraints_1
      refine (sSeq_nx g1).trans ?_
      cases hm : x.pc with
      | none =>
        rw [hm] at d1
        have : shC k L x = [] := by unfold shC; rw [hm]
        rw [this, List.append_nil]
        exact (sIf_f d1).trans rfl
      | some p =>
        rw [hm] at d1
        have hp := ho.pc p hm
        have : shC k L x = [(k, k + 1, (p * L + 99) / 100)] := by unfold shC; rw [hm]
        rw [this, List.map_append]
        refine (sIf_t d1).trans ?_
        refine sApp_ev (i := 2) ((eTup_ev (aCons_ev rfl (aCons_ev (e2_ev rfl rfl (addD_int _ _)) (aCons_ev (e2_ev (e2_ev (e2_ev (x := .int p) rfl rfl (mulD_int (.inl (by omega)))) rfl (addD_int _ _)) rfl (divD_int ⟨by decide, by decide⟩)) aNil_ev))) (by simp)).trans ?_) rfl (by rw [List.length_map]; omega)
        show some (PyData.tuple [.int kz, .int (kz + 1), .int ((p * L + 99) / 100)]) = some (.tuple [.int (k : Nat), .int ((k + 1 : Nat) : Int), .int ((p * L + 99) / 100)])
        rw [show ((k + 1 : Nat) : Int) = kz + 1 by omega, ← hkz]
    have hsl : (shC k L x).length ≤ 1 := by unfold shC; cases x.pc <;> simp
    obtain ⟨cs, w3, w4, w5, i1, i2, i3, i4⟩ := share_loop a0 L hL N cols (k + 1) (acc ++ shC k L x) (.val (.int kz)) (.val (colD x)) (.val (oD x.pc)) (fun z hz => hok z (List.mem_cons_of_mem _ hz)) (by rw [List.length_append]; omega) (by omega)
    refine ⟨shC k L x ++ cs, w3, w4, w5, ?_, by rw [List.length_append, List.length_cons]; omega, ix_app (fun c hc => ?_) i3, fun X => ?_⟩
    · rw [List.map_cons, enumD, ← hkz]
      simp only [loopF, gT, gMany, gVal, List.set_cons_succ, List.set_cons_zero, hb]
      rw [i1, List.append_assoc]
    · unfold shC at hc
      cases hm : x.pc with
      | none => rw [hm] at hc; cases hc
      | some p =>
        rw [hm] at hc
        rw [List.mem_singleton.mp hc]
        exact ⟨by show k < N; omega, by show k + 1 < N; omega⟩
    · rw [sol_app, shC_sol, i4 X]
      constructor
      · rintro ⟨h1, h2⟩ j y hy
        cases j with
        | zero => cases hy; exact h1
        | succ j =>
          have := h2 j y (by simpa using hy)
          rw [show k + (j + 1) = k + 1 + j by omega]
          exact this
      · intro h
        refine ⟨h 0 x rfl, fun j y hy => ?_⟩
        have := h (j + 1) y (by simpa using hy)
        rw [show k + (j + 1) = k + 1 + j by omega] at this
        exact this

theorem gap_sum (X : Nat → Int) (C : Nat) (h : ∀ j, j < C → 1 ≤ gap X j) : ∀ (s a : Nat), a + s + 1 ≤ C → 1 ≤ X (a + s + 1) - X a - 1
  | 0, a, ha => h a (by omega)
  | s + 1, a, ha => by
    have h1 := gap_sum X C h s a (by omega)
    have h2 := h (a + s + 1) (by omega)
    unfold gap at h2
    rw [show a + (s + 1) + 1 = a + s + 1 + 1 by omega]
    omega
theorem gp_pos (X : Nat → Int) (R C : Nat) (h : ∀ j, j < C → 1 ≤ gap X j) (x : LCell) (hx : CellOk R C x) : 1 ≤ gp X x := by
  have b2 := hx.c
  have b4 := hx.w
  have b6 := hx.cw
  have := gap_sum X C h (x.w.toNat - 1) x.c.toNat (by omega)
  unfold gp
  rw [show (x.c + x.w).toNat = x.c.toNat + (x.w.toNat - 1) + 1 by omega]
  exact this
/-- what the constraints say that don't hang on the last line -/
def KnownR (t : LTab) (ys : List Int) (X : Nat → Int) : Prop :=
  (∀ (j : Nat) (x : LCol), t.cols[j]? = some x → x.least ≤ gap X j ∧ ∀ m, x.most = some m → gap X j ≤ m) ∧ ∀ x ∈ t.cells, lg x.ws ≤ gp X x ∧ (cnt (gp X x) x.ws : Int) ≤ inn ys x.r x.h
theorem known_gap {t : LTab} (ht : TabOk t) {X : Nat → Int} (h : ∀ (j : Nat) (x : LCol), t.cols[j]? = some x → x.least ≤ gap X j ∧ ∀ m, x.most = some m → gap X j ≤ m) : ∀ j, j < t.cols.length → 1 ≤ gap X j := fun j hj => by
  have hx := List.getElem?_eq_getElem (l := t.cols) hj
  have h1 := (h j _ hx).1
  have h2 := (ht.col _ (List.mem_of_getElem? hx)).least
  omega
theorem known_ev (t : LTab) (ht : TabOk t) (hs : List Int) (hl : hs.length = t.rows.length) (hp : ∀ x ∈ t.cells, 1 ≤ inn (laF hs) x.r x.h) :
    ∃ cs : List Con, g_known_constraints [tabD t, .tuple (hs.map .int)] = some (.list (cs.map conD)) ∧ cs.length ≤ 20 ∧ Ix cs (t.cols.length + 1) ∧ ∀ X, Sol cs X ↔ KnownR t (laF hs) X := by
  have hr := ht.nr
  have hc := ht.nc
  have hn := ht.cn
  obtain ⟨cs1, y7, y8, y9, y10, i1, i2, i3, i4⟩ := known_cols (.val (tabD t)) (.val (.tuple (hs.map .int))) (.val (.tuple (t.cols.map colD))) (.val (.tuple (t.rows.map rowD))) (.val (.tuple (t.cells.map cellD))) (.val (tiD (laF hs))) .un .un .un .un .un (t.cols.length + 1) t.cols 0 [] .un .un .un .un (by simp; omega) (by omega)
  obtain ⟨cs2, w8, w11, w12, w13, w14, w15, j1, j2, j3, j4⟩ := known_cells (.val (tabD t)) (.val (.tuple (hs.map .int))) (.val (.tuple (t.cols.map colD))) (.val (.tuple (t.rows.map rowD))) (.val (.tuple (t.cells.map cellD))) y7 y9 y10 (t.rows.length : Nat) (t.cols.length : Nat) (laF hs) (by rw [(laF_spec hs).1]; omega) (t.cols.length + 1) (by omega) t.cells ([] ++ cs1) y8 .un .un .un .un .un (fun x hx => ⟨ht.cl x hx, hp x hx⟩) (by simp; omega)
  refine ⟨[] ++ cs1 ++ cs2, ?_, by simp; omega, ix_app (by simpa using i3) j3, fun X => ?_⟩
  · refine gDef_ev' (fB := f_known_constraints) [.val (tabD t), .val (.tuple (hs.map .int)), .un, .un, .un, .un, .un, .un, .un, .un, .un, .un, .un, .un, .un, .un] rfl rfl ?_
    unfold f_known_constraints
    refine (sSeq_nx (e := [.val (tabD t), .val (.tuple (hs.map .int)), .val (.tuple (t.cols.map colD)), .val (.tuple (t.rows.map rowD)), .val (.tuple (t.cells.map cellD)), .un, .un, .un, .un, .un, .un, .un, .un, .un, .un, .un]) (by rfl)).trans ?_
    refine (sSeq_nx (e := [.val (tabD t), .val (.tuple (hs.map .int)), .val (.tuple (t.cols.map colD)), .val (.tuple (t.rows.map rowD)), .val (.tuple (t.cells.map cellD)), .val (tiD (laF hs)), .un, .un, .un, .un, .un, .un, .un, .un, .un, .un]) (sSet_ev (eCall_ev (aCons_ev rfl aNil_ev) (la_ev hs (by omega))))).trans ?_
    refine (sSeq_nx (e := [.val (tabD t), .val (.tuple (hs.map .int)), .val (.tuple (t.cols.map colD)), .val (.tuple (t.rows.map rowD)), .val (.tuple (t.cells.map cellD)), .val (tiD (laF hs)), .own [], .un, .un, .un, .un, .un, .un, .un, .un, .un]) (by rfl)).trans ?_
    refine (sSeq_nx (sFor_ev (ds := enumD 0 (t.cols.map colD)) (by rfl) i1)).trans ?_
    refine (sSeq_nx (sFor_ev (ds := t.cells.map cellD) (by rfl) j1)).trans ?_
    rfl
  · rw [List.nil_append, sol_app, i4 X]
    unfold KnownR
    constructor
    · rintro ⟨h1, h2⟩
      have h1' : ∀ (j : Nat) (x : LCol), t.cols[j]? = some x → x.least ≤ gap X j ∧ ∀ m, x.most = some m → gap X j ≤ m := fun j x hx => by
        have := h1 j x hx
        rw [Nat.zero_add] at this
        exact this
      exact ⟨h1', (j4 X fun x hx => gp_pos X t.rows.length t.cols.length (known_gap ht h1') x (ht.cl x hx)).mp h2⟩
    · rintro ⟨h1, h2⟩
      exact ⟨fun j x hx => by rw [Nat.zero_add]; exact h1 j x hx, (j4 X fun x hx => gp_pos X t.rows.length t.cols.length (known_gap ht h1) x (ht.cl x hx)).mpr h2⟩
def ShareR (t : LTab) (L : Int) (X : Nat → Int) : Prop := ∀ (j : Nat) (x : LCol), t.cols[j]? = some x → ∀ p, x.pc = some p → p * L ≤ 100 * (gap X j + 1)
theorem share_ev (t : LTab) (ht : TabOk t) (L : Int) (hL : 0 ≤ L ∧ L ≤ 100000) : ∃ cs : List Con, g_share_constraints [.tuple (t.cols.map colD), .int L] = some (.list (cs.map conD)) ∧ cs.length ≤ 3 ∧ Ix cs (t.cols.length + 1) ∧ ∀ X, Sol cs X ↔ ShareR t L X := by
  have hc := ht.nc
  obtain ⟨cs, z3, z4, z5, i1, i2, i3, i4⟩ := share_loop (.val (.tuple (t.cols.map colD))) L hL (t.cols.length + 1) t.cols 0 [] .un .un .un ht.col (by simp; omega) (by omega)
  refine ⟨cs, ?_, by omega, i3, fun X => ?_⟩
  · refine gDef_ev' (fB := f_share_constraints) [.val (.tuple (t.cols.map colD)), .val (.int L), .un, .un, .un, .un] rfl rfl ?_
    unfold f_share_constraints
    refine (sSeq_nx (e := [.val (.tuple (t.cols.map colD)), .val (.int L), .own [], .un, .un, .un]) (by rfl)).trans ?_
    exact (sSeq_nx (sFor_ev (ds := enumD 0 (t.cols.map colD)) (by rfl) i1)).trans rfl
  · rw [i4 X]
    unfold ShareR
    simp only [Nat.zero_add]

/-- a layout's column lines -/
def Lay (t : LTab) (ys : List Int) (X : Nat → Int) : Prop := X 0 = 0 ∧ KnownR t ys X ∧ ShareR t (X t.cols.length) X
theorem known_nn {t : LTab} (ht : TabOk t) {ys : List Int} {X : Nat → Int} (h0 : X 0 = 0) (h : KnownR t ys X) : ∀ v, v < t.cols.length + 1 → 0 ≤ X v := by
  intro v
  induction v with
  | zero => intro _; rw [h0]; exact Int.le_refl _
  | succ v ih =>
    intro hv
    have h1 := known_gap ht h.1 v (by omega)
    have h2 := ih (by omega)
    unfold gap at h1
    omega
theorem share_mono {t : LTab} (ht : TabOk t) {l l' : Int} (h : l ≤ l') {X : Nat → Int} (hs : ShareR t l' X) : ShareR t l X := fun j x hx p hp => by
  have h1 := hs j x hx p hp
  have h2 := (ht.col x (List.mem_of_getElem? hx)).pc p hp
  have h3 : p * l ≤ p * l' := Int.mul_le_mul_of_nonneg_left h (by omega)
  omega
theorem clf_loop (t : LTab) (ht : TabOk t) (ys : List Int) (ks : List Con) (hk1 : ks.length ≤ 20) (hk2 : Ix ks (t.cols.length + 1)) (hk3 : ∀ X, Sol ks X ↔ KnownR t ys X) (a0 a1 a3 a4 : Sl) : ∀ (n : Nat) (l : Int) (y7 y8 : Sl), 0 ≤ l → 2001 - l < n → 0 < n → l ≤ 100000 →
    (∀ X, Lay t ys X → l ≤ X t.cols.length) → (∀ X, X 0 = 0 → KnownR t ys X → ShareR t l X → l ≤ X t.cols.length) →
    (∃ xs : List Int, whlF w_column_lines_for_1 b_column_lines_for_1 n [a0, a1, .val (.tuple (t.cols.map colD)), a3, a4, .val (.list (ks.map conD)), .val (.int l), y7, y8] = .rt (tiD xs) ∧ xs.length = t.cols.length + 1 ∧ Lay t ys (at0 xs) ∧ ∀ X, Lay t ys X → ∀ v, v < t.cols.length + 1 → at0 xs v ≤ X v) ∨
    ((whlF w_column_lines_for_1 b_column_lines_for_1 n [a0, a1, .val (.tuple (t.cols.map colD)), a3, a4, .val (.list (ks.map conD)), .val (.int l), y7, y8] = .rt .none ∨ ∃ e, whlF w_column_lines_for_1 b_column_lines_for_1 n [a0, a1, .val (.tuple (t.cols.map colD)), a3, a4, .val (.list (ks.map conD)), .val (.int l), y7, y8] = .nx e) ∧ ¬ ∃ X, Lay t ys X ∧ X t.cols.length ≤ 2000)
  | 0, l, y7, y8, h0, h1, hn, h2, hI, hJ => by
    exfalso
    omega
  | n + 1, l, y7, y8, h0, h1, hn, h2, hI, hJ => by
    have hc := ht.nc
    have hw : w_column_lines_for_1 [a0, a1, .val (.tuple (t.cols.map colD)), a3, a4, .val (.list (ks.map conD)), .val (.int l), y7, y8] = some (decide (l ≤ 2000)) := t1_ev (e2_ev rfl rfl (leD_int _ _))
    by_cases q : l ≤ 2000
    · rw [decide_eq_true q] at hw
      obtain ⟨ss, s1, s2, s3, s4⟩ := share_ev t ht l ⟨h0, by omega⟩
      have hix := ix_app hk2 s3
      have hsol : ∀ X, Sol (ks ++ ss) X ↔ KnownR t ys X ∧ ShareR t l X := fun X => by rw [sol_app, hk3 X, s4 X]
      have hsl : ∀ X, Lay t ys X → Sl0 (ks ++ ss) (t.cols.length + 1) X := fun X hX => ⟨(hsol X).mpr ⟨hX.2.1, share_mono ht (hI X hX) hX.2.2⟩, hX.1, known_nn ht hX.1 hX.2.1⟩
      have hlp := lp_ev (ks ++ ss) (t.cols.length + 1) (by omega) (by omega) hix
      have g7 : ∀ d, (match lp (ks ++ ss) (t.cols.length + 1) (zs (t.cols.length + 1)) with | some m => PyData.list (m.map .int) | none => .none) = d → sSet 7 (eCall g_least_positions (aCons (e2 addD (eCall lenA (aCons (eVar 2) aNil)) (eC (.int 1))) (aCons (e2 addD (eVar 5) (eCall g_share_constraints (aCons (eVar 2) (aCons (eVar 6) aNil)))) aNil))) [a0, a1, .val (.tuple (t.cols.map colD)), a3, a4, .val (.list (ks.map conD)), .val (.int l), y7, y8] = .nx [a0, a1, .val (.tuple (t.cols.map colD)), a3, a4, .val (.list (ks.map conD)), .val (.int l), .val d, y8] := fun d hd => by
        rw [hd] at hlp
        refine sSet_ev (eCall_ev (aCons_ev (e2_ev (x := .int (t.cols.length : Nat)) ?_ rfl (addD_int _ _)) (aCons_ev (e2_ev rfl (eCall_ev (aCons_ev rfl (aCons_ev rfl aNil_ev)) s1) (addD_list (by rw [List.length_map, List.length_map]; omega))) aNil_ev)) ?_)
        · show some (PyData.int ((t.cols.map colD).length : Nat)) = _
          rw [List.length_map]
        · rw [← List.map_append]
          exact hlp
      cases hm : lp (ks ++ ss) (t.cols.length + 1) (zs (t.cols.length + 1)) with
      | none =>
        rw [hm] at g7
        have g7 := g7 .none rfl
        have hno := lp_none (by omega) hix hm
        refine .inr ⟨.inl ?_, fun ⟨X, hX, _⟩ => hno ⟨X, hsl X hX⟩⟩
        have hb : b_column_lines_for_1 [a0, a1, .val (.tuple (t.cols.map colD)), a3, a4, .val (.list (ks.map conD)), .val (.int l), y7, y8] = .rt .none := by
          unfold b_column_lines_for_1
          exact (sSeq_nx g7).trans (sSeq_rt ((sIf_t (by rfl)).trans rfl))
        simp only [whlF, hw, hb]
      | some m =>
        rw [hm] at g7
        have g7 := g7 _ rfl
        obtain ⟨m1, m2, m3⟩ := lp_some (by omega) hix hm
        obtain ⟨mk, ms⟩ := (hsol _).mp m2.1
        have hlast := last_ix m (by omega)
        rw [show m.length - 1 = t.cols.length by omega] at hlast
        obtain ⟨v, hv⟩ : ∃ v : Int, v = m.getD t.cols.length 0 := ⟨_, rfl⟩
        rw [← hv] at hlast
        have hlv : l ≤ v := by rw [hv]; exact hJ _ m2.2.1 mk ms
        have c1 : t1 (e2 eqD (e2 ixG (eVar 7) (e1 negD (eC (.int 1)))) (eVar 6)) [a0, a1, .val (.tuple (t.cols.map colD)), a3, a4, .val (.list (ks.map conD)), .val (.int l), .val (.list (m.map .int)), y8] = some (decide (v = l)) := t1_ev (e2_ev (e2_ev (x := .list (m.map .int)) rfl rfl hlast) rfl (eqD_int _ _))
        by_cases z : v = l
        · rw [decide_eq_true z] at c1
          have hb : b_column_lines_for_1 [a0, a1, .val (.tuple (t.cols.map colD)), a3, a4, .val (.list (ks.map conD)), .val (.int l), y7, y8] = .rt (tiD m) := by
            unfold b_column_lines_for_1
            exact (sSeq_nx g7).trans ((sSeq_nx ((sIf_f (by rfl)).trans rfl)).trans (sSeq_rt ((sIf_t c1).trans rfl)))
          refine .inl ⟨m, by simp only [whlF, hw, hb], m1, ⟨m2.2.1, mk, ?_⟩, fun X hX => m3 X (hsl X hX)⟩
          have : at0 m t.cols.length = l := by unfold at0; rw [← hv, z]
          rw [this]
          exact ms
        · rw [decide_eq_false z] at c1
          have hb : b_column_lines_for_1 [a0, a1, .val (.tuple (t.cols.map colD)), a3, a4, .val (.list (ks.map conD)), .val (.int l), y7, y8] = .nx [a0, a1, .val (.tuple (t.cols.map colD)), a3, a4, .val (.list (ks.map conD)), .val (.int v), .val (.list (m.map .int)), y8] := by
            unfold b_column_lines_for_1
            exact (sSeq_nx g7).trans ((sSeq_nx ((sIf_f (by rfl)).trans rfl)).trans ((sSeq_nx ((sIf_f c1).trans rfl)).trans (sSet_ev (e2_ev (x := .list (m.map .int)) rfl rfl hlast))))
          have hI' : ∀ X, Lay t ys X → v ≤ X t.cols.length := fun X hX => by rw [hv]; exact m3 X (hsl X hX) _ (by omega)
          have hJ' : ∀ X, X 0 = 0 → KnownR t ys X → ShareR t v X → v ≤ X t.cols.length := fun X x0 xk xs => by
            rw [hv]
            exact m3 X ⟨(hsol X).mpr ⟨xk, share_mono ht hlv xs⟩, x0, known_nn ht x0 xk⟩ _ (by omega)
          have hstep : whlF w_column_lines_for_1 b_column_lines_for_1 (n + 1) [a0, a1, .val (.tuple (t.cols.map colD)), a3, a4, .val (.list (ks.map conD)), .val (.int l), y7, y8] = whlF w_column_lines_for_1 b_column_lines_for_1 n [a0, a1, .val (.tuple (t.cols.map colD)), a3, a4, .val (.list (ks.map conD)), .val (.int v), .val (.list (m.map .int)), y8] := by
            simp only [whlF, hw, hb]
          rw [hstep]
          by_cases big : v ≤ 100000
          · exact clf_loop t ht ys ks hk1 hk2 hk3 a0 a1 a3 a4 n v _ _ (by omega) (by omega) (by omega) big hI' hJ'
          · refine .inr ⟨.inr ?_, fun ⟨X, hX, hle⟩ => by have := hI' X hX; omega⟩
            cases n with
            | zero => exfalso; omega
            | succ n =>
              have hw2 : w_column_lines_for_1 [a0, a1, .val (.tuple (t.cols.map colD)), a3, a4, .val (.list (ks.map conD)), .val (.int v), .val (.list (m.map .int)), y8] = some false := t1_ev (e2_ev rfl rfl ((leD_int _ _).trans (by rw [decide_eq_false (by omega)])))
              exact ⟨[a0, a1, .val (.tuple (t.cols.map colD)), a3, a4, .val (.list (ks.map conD)), .val (.int v), .val (.list (m.map .int)), y8], by simp only [whlF, hw2]⟩
    · rw [decide_eq_false q] at hw
      exact .inr ⟨.inr ⟨[a0, a1, .val (.tuple (t.cols.map colD)), a3, a4, .val (.list (ks.map conD)), .val (.int l), y7, y8], by simp only [whlF, hw]⟩, fun ⟨X, hX, hle⟩ => by have := hI X hX; omega⟩

theorem room_comp (a0 a1 : Sl) : ∀ (rows : List LRow) (hs : List Int), ∃ bs : List Bool, compF (gT [2, 3]) tYes' c_have_room_1 [a0, a1, .un, .un] (zipD (rows.map rowD) (hs.map .int)) = some (bs.map .bool) ∧ bs.length ≤ rows.length ∧ (bs.all id = true ↔ ∀ (j : Nat) (x : LRow) (h : Int), rows[j]? = some x → hs[j]? = some h → x.1 ≤ h)
  | [], [] => ⟨[], rfl, Nat.le_refl _, ⟨fun _ j x h hx _ => by simp at hx, fun _ => rfl⟩⟩
  | [], h :: hs => ⟨[], rfl, Nat.le_refl _, ⟨fun _ j x h hx _ => by simp at hx, fun _ => rfl⟩⟩
  | x :: rows, [] => ⟨[], rfl, Nat.zero_le _, ⟨fun _ j x h _ hh => by simp at hh, fun _ => rfl⟩⟩
  | x :: rows, h :: hs => by
    obtain ⟨bs, h1, h2, h3⟩ := room_comp a0 a1 rows hs
    refine ⟨decide (x.1 ≤ h) :: bs, ?_, by simp [h2], ?_⟩
    · have hc : c_have_room_1 [a0, a1, .val (rowD x), .val (.int h)] = some (.bool (decide (x.1 ≤ h))) := e2_ev (e2_ev (x := rowD x) rfl rfl rfl) rfl (leD_int _ _)
      show compF (gT [2, 3]) tYes' c_have_room_1 [a0, a1, .un, .un] (.tuple [rowD x, .int h] :: zipD (rows.map rowD) (hs.map .int)) = _
      simp only [compF, gT, gMany, gVal, List.set_cons_succ, List.set_cons_zero, tYes', hc]
      rw [h1]
      rfl
    · rw [List.all_cons, Bool.and_eq_true, h3]
      constructor
      · rintro ⟨z1, z2⟩ j y k hy hk
        cases j with
        | zero => cases hy; cases hk; exact of_decide_eq_true z1
        | succ j => exact z2 j y k (by simpa using hy) (by simpa using hk)
      · intro z
        exact ⟨decide_eq_true (z 0 x h rfl rfl), fun j y k hy hk => z (j + 1) y k (by simpa using hy) (by simpa using hk)⟩
def RoomR (t : LTab) (hs : List Int) : Prop := ∀ (j : Nat) (x : LRow) (h : Int), t.rows[j]? = some x → hs[j]? = some h → x.1 ≤ h
theorem room_ev (t : LTab) (ht : TabOk t) (hs : List Int) (hl : hs.length = t.rows.length) (hb : (laF hs).getD t.rows.length 0 ≤ 2000) : ∃ b : Bool, g_have_room [.tuple (t.rows.map rowD), .tuple (hs.map .int)] = some (.bool b) ∧ (b = true ↔ RoomR t hs) := by
  have hr := ht.nr
  obtain ⟨bs, h1, h2, h3⟩ := room_comp (.val (.tuple (t.rows.map rowD))) (.val (.tuple (hs.map .int))) t.rows hs
  refine ⟨bs.all id, ?_, h3⟩
  have hlen := (laF_spec hs).1
  have hlast := last_ix (laF hs) (by omega)
  rw [show (laF hs).length - 1 = t.rows.length by omega] at hlast
  have hgt : t1 (e2 gtD (e2 ixG (eCall g_lines_around (aCons (eVar 1) aNil)) (e1 negD (eC (.int 1)))) (eC (.int 2000))) [.val (.tuple (t.rows.map rowD)), .val (.tuple (hs.map .int)), .un, .un] = some false := by
    refine t1_ev (e2_ev (e2_ev (x := tiD (laF hs)) (eCall_ev (aCons_ev rfl aNil_ev) (la_ev hs (by omega))) rfl hlast) rfl ((gtD_int _ _).trans ?_))
    rw [decide_eq_false (by omega)]
  refine gDef_ev' (fB := f_have_room) [.val (.tuple (t.rows.map rowD)), .val (.tuple (hs.map .int)), .un, .un] rfl rfl ?_
  unfold f_have_room
  refine (sSeq_nx ((sIf_f hgt).trans rfl)).trans ?_
  refine sRet_ev (eCall_ev (aCons_ev (eL_ev (fCmp_ev (ds := zipD (t.rows.map rowD) (hs.map .int)) (by rfl) h1 (by rw [List.length_map]; omega))) aNil_ev) ?_)
  show (boolsD (bs.map .bool)).map _ = _
  rw [boolsD_map]
  rfl
theorem pc_comp (e0 : Sl) (a0 a1 a2 a3 a4 a5 a6 a7 : Sl) : ∀ cols : List LCol, compF (gVal 8) t_column_lines_for_1 c_column_lines_for_1 [a0, a1, a2, a3, a4, a5, a6, a7, e0] (cols.map colD) = some ((cols.filterMap (·.pc)).map .int)
  | [] => rfl
  | x :: cols => by
    have ih := pc_comp e0 a0 a1 a2 a3 a4 a5 a6 a7 cols
    have ht : t_column_lines_for_1 [a0, a1, a2, a3, a4, a5, a6, a7, .val (colD x)] = some (decide (x.pc ≠ none)) := t1_ev (e2_ev (x := oD x.pc) rfl rfl (isnt_oD _))
    have hc : c_column_lines_for_1 [a0, a1, a2, a3, a4, a5, a6, a7, .val (colD x)] = some (oD x.pc) := rfl
    rw [List.map_cons]
    simp only [compF, gVal, List.set_cons_succ, List.set_cons_zero, ht]
    cases hm : x.pc with
    | none =>
      rw [List.filterMap_cons, hm]
      exact ih
    | some p =>
      rw [List.filterMap_cons, hm]
      rw [hm] at hc
      simp only [ne_eq, reduceCtorEq, not_false_eq_true, decide_true, hc]
      rw [ih]
      rfl
/-- shares of the whole, all together -/
theorem share_sum {L : Int} {X : Nat → Int} (hL : 0 ≤ L) : ∀ (cols : List LCol) (k : Nat), (∀ (j : Nat) (x : LCol), cols[j]? = some x → 0 ≤ gap X (k + j) + 1 ∧ ∀ p, x.pc = some p → p * L ≤ 100 * (gap X (k + j) + 1)) → (cols.filterMap (·.pc)).sum * L ≤ 100 * (X (k + cols.length) - X k)
  | [], k, _ => by simp
  | x :: cols, k, h => by
    have ih := share_sum hL cols (k + 1) fun j y hy => by
      have := h (j + 1) y (by simpa using hy)
      rw [show k + (j + 1) = k + 1 + j by omega] at this
      exact this
    obtain ⟨h1, h2⟩ := h 0 x rfl
    rw [Nat.add_zero] at h1 h2
    unfold gap at h1 h2
    rw [List.length_cons, show k + (cols.length + 1) = k + 1 + cols.length by omega, List.filterMap_cons]
    cases hm : x.pc with
    | none =>
      dsimp only
      omega
    | some p =>
      have h3 := h2 p hm
      dsimp only
      rw [List.sum_cons, Int.add_mul]
      omega
theorem clf_ev (t : LTab) (ht : TabOk t) (hs : List Int) (hl : hs.length = t.rows.length) (hb : (laF hs).getD t.rows.length 0 ≤ 2000) (hp : ∀ x ∈ t.cells, 1 ≤ inn (laF hs) x.r x.h) :
    (¬ RoomR t hs ∧ g_column_lines_for [tabD t, .tuple (hs.map .int)] = some .none) ∨
    (RoomR t hs ∧ ((∃ xs : List Int, g_column_lines_for [tabD t, .tuple (hs.map .int)] = some (tiD xs) ∧ xs.length = t.cols.length + 1 ∧ Lay t (laF hs) (at0 xs) ∧ ∀ X, Lay t (laF hs) X → ∀ v, v < t.cols.length + 1 → at0 xs v ≤ X v) ∨
      (g_column_lines_for [tabD t, .tuple (hs.map .int)] = some .none ∧ ¬ ∃ X, Lay t (laF hs) X ∧ X t.cols.length ≤ 2000))) := by
  have hc := ht.nc
  obtain ⟨b, r1, r2⟩ := room_ev t ht hs hl hb
  have s1 : sUnp (eVar 0) (gT [2, 3, 4]) [.val (tabD t), .val (.tuple (hs.map .int)), .un, .un, .un, .un, .un, .un, .un] = .nx [.val (tabD t), .val (.tuple (hs.map .int)), .val (.tuple (t.cols.map colD)), .val (.tuple (t.rows.map rowD)), .val (.tuple (t.cells.map cellD)), .un, .un, .un, .un] := rfl
  have c1 : tNot' (tTr (eCall g_have_room (aCons (eVar 3) (aCons (eVar 1) aNil)))) [.val (tabD t), .val (.tuple (hs.map .int)), .val (.tuple (t.cols.map colD)), .val (.tuple (t.rows.map rowD)), .val (.tuple (t.cells.map cellD)), .un, .un, .un, .un] = some (!b) := not_ev (tTr_ev (eCall_ev (aCons_ev rfl (aCons_ev rfl aNil_ev)) r1) rfl)
  cases b with
  | false =>
    refine .inl ⟨(fun z => nomatch (r2.mpr z)), ?_⟩
    refine gDef_ev' (fB := f_column_lines_for) [.val (tabD t), .val (.tuple (hs.map .int)), .un, .un, .un, .un, .un, .un, .un] rfl rfl ?_
    unfold f_column_lines_for
    exact (sSeq_nx s1).trans (sSeq_rt ((sIf_t c1).trans rfl))
  | true =>
    refine .inr ⟨r2.mp rfl, ?_⟩
    obtain ⟨ks, k1, k2, k3, k4⟩ := known_ev t ht hs hl hp
    have hpl : (t.cols.filterMap (·.pc)).length ≤ 3 := Nat.le_trans (List.length_filterMap_le _ _) hc.2
    have c2 : t1 (e2 gtD (eCall sumA (aCons (eL (fCmp [8] (iSeq (eVar 2)) (gVal 8) t_column_lines_for_1 c_column_lines_for_1)) aNil)) (eC (.int 100))) [.val (tabD t), .val (.tuple (hs.map .int)), .val (.tuple (t.cols.map colD)), .val (.tuple (t.rows.map rowD)), .val (.tuple (t.cells.map cellD)), .un, .un, .un, .un] = some (decide (100 < (t.cols.filterMap (·.pc)).sum)) := by
      refine t1_ev (e2_ev (eCall_ev (aCons_ev (eL_ev (fCmp_ev (ds := t.cols.map colD) (by rfl) (pc_comp .un _ _ _ _ _ _ _ _ t.cols) (by rw [List.length_map]; omega))) aNil_ev) ?_) rfl (gtD_int _ _))
      show (intsD ((t.cols.filterMap (·.pc)).map .int)).map _ = _
      rw [intsD_map]
      rfl
    by_cases q : 100 < (t.cols.filterMap (·.pc)).sum
    · rw [decide_eq_true q] at c2
      refine .inr ⟨?_, fun ⟨X, hX, _⟩ => ?_⟩
      · refine gDef_ev' (fB := f_column_lines_for) [.val (tabD t), .val (.tuple (hs.map .int)), .un, .un, .un, .un, .un, .un, .un] rfl rfl ?_
        unfold f_column_lines_for
        exact (sSeq_nx s1).trans ((sSeq_nx ((sIf_f c1).trans rfl)).trans (sSeq_rt ((sIf_t c2).trans rfl)))
      · have hg := known_gap ht hX.2.1.1
        have hnn := known_nn ht hX.1 hX.2.1
        have h0 := hnn t.cols.length (by omega)
        have h1 := share_sum h0 t.cols 0 fun j x hx => by
          rw [Nat.zero_add]
          have := hg j (List.getElem?_eq_some_iff.mp hx).1
          exact ⟨by omega, hX.2.2 j x hx⟩
        rw [Nat.zero_add, hX.1] at h1
        have h2 := gap_sum X t.cols.length hg (t.cols.length - 1) 0 (by omega)
        rw [show 0 + (t.cols.length - 1) + 1 = t.cols.length by omega, hX.1] at h2
        have h3 : 101 * X t.cols.length ≤ (t.cols.filterMap (·.pc)).sum * X t.cols.length := Int.mul_le_mul_of_nonneg_right (by omega) h0
        omega
    · rw [decide_eq_false q] at c2
      have hlp := clf_loop t ht (laF hs) ks k2 k3 k4 (.val (tabD t)) (.val (.tuple (hs.map .int))) (.val (.tuple (t.rows.map rowD))) (.val (.tuple (t.cells.map cellD))) 2100 0 .un .un (by omega) (by omega) (by decide) (by omega) (fun X hX => known_nn ht hX.1 hX.2.1 _ (by omega)) (fun X h0 hk _ => known_nn ht h0 hk _ (by omega))
      have start : ∀ o, (∀ rest : En → Out, sSeq (whlF w_column_lines_for_1 b_column_lines_for_1 2100) (sRet (eC .none)) [.val (tabD t), .val (.tuple (hs.map .int)), .val (.tuple (t.cols.map colD)), .val (.tuple (t.rows.map rowD)), .val (.tuple (t.cells.map cellD)), .val (.list (ks.map conD)), .val (.int 0), .un, .un] = .rt o) → g_column_lines_for [tabD t, .tuple (hs.map .int)] = some o := fun o ho => by
        refine gDef_ev' (fB := f_column_lines_for) [.val (tabD t), .val (.tuple (hs.map .int)), .un, .un, .un, .un, .un, .un, .un] rfl rfl ?_
        unfold f_column_lines_for
        refine (sSeq_nx s1).trans ((sSeq_nx ((sIf_f c1).trans rfl)).trans ((sSeq_nx ((sIf_f c2).trans rfl)).trans ?_))
        refine (sSeq_nx (e := [.val (tabD t), .val (.tuple (hs.map .int)), .val (.tuple (t.cols.map colD)), .val (.tuple (t.rows.map rowD)), .val (.tuple (t.cells.map cellD)), .val (.list (ks.map conD)), .un, .un, .un]) (sSet_ev (eCall_ev (aCons_ev rfl (aCons_ev rfl aNil_ev)) k1))).trans ?_
        refine (sSeq_nx (e := [.val (tabD t), .val (.tuple (hs.map .int)), .val (.tuple (t.cols.map colD)), .val (.tuple (t.rows.map rowD)), .val (.tuple (t.cells.map cellD)), .val (.list (ks.map conD)), .val (.int 0), .un, .un]) (by rfl)).trans ?_
        exact ho sNil
      rcases hlp with ⟨xs, l1, l2, l3, l4⟩ | ⟨l1 | ⟨e, l1⟩, l2⟩
      · exact .inl ⟨xs, start _ fun _ => sSeq_rt l1, l2, l3, l4⟩
      · exact .inr ⟨start _ fun _ => sSeq_rt l1, l2⟩
      · exact .inr ⟨start _ fun _ => (sSeq_nx l1).trans rfl, l2⟩

/-! ### the rest of k10 -/
theorem loop_cons {g : PyData → En → Option En} {b : En → Out} {d : PyData} {ds : List PyData} {e e1 e2 : En} (h1 : g d e = some e1) (h2 : b e1 = .nx e2) : loopF g b (d :: ds) e = loopF g b ds e2 := by
  rw [loopF, h1]
  simp only [h2]
theorem compF_filterS {α : Type} {g : PyData → En → Option En} {ga : En → Option Bool} {fe : En → Option PyData} {env : En} {c k : α → PyData} {p : α → Bool} : ∀ {xs : List α},
    (∀ x ∈ xs, ∃ e1, g (c x) env = some e1 ∧ ga e1 = some (p x) ∧ (p x = true → fe e1 = some (k x))) → compF g ga fe env (xs.map c) = some ((xs.filter p).map k)
  | [], _ => rfl
  | d :: ds, h => by
    obtain ⟨e1, h1, h2, h3⟩ := h d List.mem_cons_self
    have ih := compF_filterS (xs := ds) fun x hx => h x (List.mem_cons_of_mem _ hx)
    rw [List.map_cons]
    simp only [compF, h1, h2]
    cases hp : p d with
    | true =>
      rw [hp] at h3
      simp only [h3 rfl, ih, List.filter_cons, hp, if_true, List.map_cons]
    | false =>
      simp only [ih, List.filter_cons, hp, Bool.false_eq_true, if_false]
theorem inn_gap (xs : List Int) (j : Nat) : inn xs (j : Nat) 1 = gap (at0 xs) j := by
  unfold inn gap at0
  rw [show ((j : Nat) + (1 : Int)).toNat = j + 1 from by omega, Int.toNat_natCast]
theorem ris_gap {M : Int} {n : Nat} {x : List Int} (h : Ris M n x) : ∀ j, j < n → 1 ≤ gap (at0 x) j := fun j hj => by
  have := h.up j hj
  show 1 ≤ x.getD (j + 1) 0 - x.getD j 0 - 1
  omega
/-- right lines are layouts -/
theorem lay_iff (M : Int) (t : LTab) (ht : TabOk t) (xs ys : List Int) : (Ris M t.cols.length xs ∧ ColsR t xs ∧ CellsR t xs ys) ↔ (xs.length = t.cols.length + 1 ∧ Lay t ys (at0 xs) ∧ at0 xs t.cols.length ≤ M) := by
  constructor
  · rintro ⟨h1, h2, h3⟩
    have hl := h1.len
    refine ⟨hl, ⟨h1.z, ⟨fun j x hx => ?_, h3⟩, fun j x hx p hp => ?_⟩, ?_⟩
    · have := h2 j x hx
      rw [inn_gap] at this
      exact ⟨this.1, this.2.1⟩
    · have := (h2 j x hx).2.2 p hp
      rw [inn_gap, hl, Nat.add_sub_cancel] at this
      exact this
    · have h0 := ht.nc.1
      have := h1.mx (t.cols.length - 1) (by omega)
      rw [show t.cols.length - 1 + 1 = t.cols.length from by omega] at this
      exact this
  · rintro ⟨hl, ⟨h0, ⟨h1, h3⟩, h2⟩, h4⟩
    have hg := known_gap ht h1
    refine ⟨⟨hl, h0, fun j hj => ?_, fun j hj => ?_⟩, fun j x hx => ?_, h3⟩
    · have := hg j hj
      unfold gap at this
      show at0 xs j + 2 ≤ at0 xs (j + 1)
      omega
    · have up : ∀ d : Nat, j + 1 + d ≤ t.cols.length → at0 xs (j + 1) ≤ at0 xs (j + 1 + d) := by
        intro d
        induction d with
        | zero => intro _; exact Int.le_refl _
        | succ d ih =>
          intro hd
          have e1 := ih (by omega)
          have e2 := hg (j + 1 + d) (by omega)
          unfold gap at e2
          rw [show j + 1 + (d + 1) = j + 1 + d + 1 from by omega]
          omega
      have := up (t.cols.length - (j + 1)) (by omega)
      rw [show j + 1 + (t.cols.length - (j + 1)) = t.cols.length from by omega] at this
      show at0 xs (j + 1) ≤ M
      omega
    · rw [inn_gap, hl, Nat.add_sub_cancel]
      exact ⟨(h1 j x hx).1, (h1 j x hx).2, h2 j x hx⟩
theorem la_inn (hs : List Int) (j : Nat) (h : Int) (hj : hs[j]? = some h) : inn (laF hs) (j : Nat) 1 = h := by
  have := (laF_spec hs).2.2 j h hj
  unfold inn
  rw [show ((j : Nat) + (1 : Int)).toNat = j + 1 from by omega, Int.toNat_natCast, this]
  omega
theorem room_iff (t : LTab) (hs : List Int) (hl : hs.length = t.rows.length) : RowsR t (laF hs) ↔ RoomR t hs := by
  constructor
  · intro h j x v hx hv
    have := h j x hx
    rw [la_inn hs j v hv] at this
    exact this
  · intro h j x hx
    obtain ⟨hj, _⟩ := List.getElem?_eq_some_iff.mp hx
    have hv := List.getElem?_eq_getElem (l := hs) (show j < hs.length by omega)
    rw [la_inn hs j _ hv]
    exact h j x _ hx hv
/-! the least of lists -/
theorem mn2_ev {f g : En → Option PyData} {env : En} {a b : Int} (h1 : f env = some (.int a)) (h2 : g env = some (.int b)) : eCall mn2 (aCons f (aCons g aNil)) env = some (.int (if b < a then b else a)) := (eCall_ev (aCons_ev h1 (aCons_ev h2 aNil_ev)) rfl)
theorem sPut_ev {i : Nat} {fk f : En → Option PyData} {env : En} {d : PyData} {ds : List PyData} {k : Int} {j : Nat} (h1 : f env = some d) (h2 : env[i]? = some (.own ds)) (h3 : fk env = some (.int k)) (h4 : ixD ds.length (.int k) = some j) : sPut i fk f env = .nx (env.set i (.own (ds.set j d))) := by
  unfold sPut
  rw [h1, h2, h3]
  simp only [h4]
/-! the greatest heights -/
theorem chI_covE (x : LCell) (k : Int) {f g h : En → Option PyData} {env : En} (h1 : f env = some (.int x.r)) (h2 : g env = some (.int k)) (h3 : h env = some (.int (x.r + x.h))) : chI (fun i j => decide (i ≤ j)) (fun i j => decide (i < j)) f g h env = some (.bool (decide (x.r ≤ k ∧ k < x.r + x.h))) := by
  unfold chI
  rw [h1, h2]
  simp only []
  by_cases hr : x.r ≤ k
  · rw [if_pos (decide_eq_true hr), h3]
    show some (PyData.bool (decide (k < x.r + x.h))) = _
    by_cases hk : k < x.r + x.h
    · rw [decide_eq_true hk, decide_eq_true (show x.r ≤ k ∧ k < x.r + x.h from ⟨hr, hk⟩)]
    · rw [decide_eq_false hk, decide_eq_false (fun z : x.r ≤ k ∧ k < x.r + x.h => hk z.2)]
  · rw [if_neg (by rw [decide_eq_true_eq]; exact hr), decide_eq_false (fun z : x.r ≤ k ∧ k < x.r + x.h => hr z.1)]
/-- a row's greatest height -/
def GH (t : LTab) (j : Nat) (row : LRow) (g : Int) : Prop := row.1 ≤ g ∧ (∀ x ∈ t.cells, x.r ≤ (j : Nat) → ((j : Nat) : Int) < x.r + x.h → (x.ws.length : Int) ≤ g) ∧ (g = row.1 ∨ ∃ x ∈ t.cells, x.r ≤ (j : Nat) ∧ ((j : Nat) : Int) < x.r + x.h ∧ g = (x.ws.length : Int))
theorem gh_body (t : LTab) (ht : TabOk t) (T a1 a2 : Sl) (acc : List Int) (hacc : acc.length ≤ 100) (k : Nat) (kv : Int) (hk : kv = (k : Nat)) (row : LRow) (hrow : 1 ≤ row.1 ∧ row.1 ≤ 2) (z7 : Sl) :
    ∃ g w7, b_greatest_heights_1 [T, a1, a2, .val (.tuple (t.cells.map cellD)), .own (acc.map .int), .val (.int kv), .val (rowD row), z7, .un] = .nx [T, a1, a2, .val (.tuple (t.cells.map cellD)), .own ((acc ++ [g]).map .int), .val (.int kv), .val (rowD row), w7, .un] ∧ GH t k row g := by
  obtain ⟨ns, hns⟩ : ∃ ns : List Int, ns = (t.cells.filter fun x => decide (x.r ≤ kv ∧ kv < x.r + x.h)).map fun x => (x.ws.length : Int) := ⟨_, rfl⟩
  have hcn := ht.cn
  have hnl : ns.length ≤ 9 := by rw [hns, List.length_map]; exact Nat.le_trans (List.length_filter_le _ _) hcn
  obtain ⟨s1, s2⟩ := mxI_spec ns row.1
  refine ⟨mxI row.1 ns, .val (.list (ns.map .int)), ?_, ?_⟩
  · unfold b_greatest_heights_1
    refine (sSeq_nx (e := [T, a1, a2, .val (.tuple (t.cells.map cellD)), .own (acc.map .int), .val (.int kv), .val (rowD row), .val (.list (ns.map .int)), .un]) (sSet_ev ((eL_ev (fCmp_ev (ds := t.cells.map cellD) (vs := (t.cells.filter fun x => decide (x.r ≤ kv ∧ kv < x.r + x.h)).map fun x : LCell => PyData.int (List.length x.ws : Nat)) (iSeq_t rfl) (compF_filterS fun x hx => ⟨_, rfl, ?_, fun _ => ?_⟩) ?_)).trans ?_))).trans ?_
    · exact t1_ev (chI_covE x kv (e2_ev (x := cellD x) (y := .int 0) rfl rfl rfl) rfl (e2_ev (e2_ev (x := cellD x) (y := .int 0) rfl rfl rfl) (e2_ev (x := cellD x) (y := .int 2) rfl rfl rfl) rfl))
    · refine (eCall_ev (aCons_ev (e2_ev (x := cellD x) (y := .int 4) (d := .tuple (x.ws.map .str)) rfl rfl rfl) aNil_ev) rfl).trans ?_
      show some (PyData.int (List.length _ : Nat)) = _
      rw [List.length_map]
    · rw [List.length_map]
      exact Nat.le_trans (List.length_filter_le _ _) (by omega)
    · rw [hns, List.map_map]
      rfl
    · refine (sApp_ev (ds := acc.map .int) (d := .int (mxI row.1 ns)) ?_ rfl (by rw [List.length_map]; omega)).trans ?_
      · refine eCall_ev (aCons_ev (eL_ev (ds := (row.1 :: ns).map .int) ?_) aNil_ev) ?_
        · unfold fCat
          rw [eL_ev (fLst_ev (ds := [.int row.1]) (aCons_ev (e2_ev (x := rowD row) (y := .int 0) rfl rfl rfl) aNil_ev) (by simp))]
          show (if [PyData.int row.1].length + (ns.map PyData.int).length ≤ 1000000 then some ([PyData.int row.1] ++ ns.map PyData.int) else none) = _
          rw [if_pos (by rw [List.length_map]; simp; omega)]
          rfl
        · show (match intsD ((row.1 :: ns).map PyData.int) with
            | some (n :: ns) => some (PyData.int (mxI n ns))
            | _ => none) = _
          rw [intsD_map]
      · rw [List.map_append]
        rfl
  · refine ⟨s2 _ List.mem_cons_self, fun x hx h1 h2 => s2 _ (List.mem_cons_of_mem _ ?_), ?_⟩
    · rw [hns]
      refine List.mem_map.mpr ⟨x, List.mem_filter.mpr ⟨hx, decide_eq_true ⟨by omega, by omega⟩⟩, rfl⟩
    · rcases List.mem_cons.mp s1 with h | h
      · exact .inl h
      · rw [hns] at h
        obtain ⟨x, hx, hv⟩ := List.mem_map.mp h
        obtain ⟨q1, q2⟩ := List.mem_filter.mp hx
        have q2 := of_decide_eq_true q2
        refine .inr ⟨x, q1, by omega, by omega, ?_⟩
        rw [hns]
        exact hv.symm
theorem GH.le4 {t : LTab} (ht : TabOk t) {j : Nat} {row : LRow} {g : Int} (hr : row ∈ t.rows) (h : GH t j row g) : g ≤ 4 := by
  rcases h.2.2 with e | ⟨x, hx, _, _, e⟩
  · have := ht.row _ hr
    omega
  · have := (ht.cl x hx).l
    omega
theorem gh_loop (t : LTab) (ht : TabOk t) (T a1 a2 : Sl) : ∀ (rows : List LRow) (acc : List Int) (z5 z6 z7 : Sl), (∀ r ∈ rows, 1 ≤ r.1 ∧ r.1 ≤ 2) → acc.length + rows.length ≤ 100 →
    ∃ (gs : List Int) (w5 w6 w7 : Sl), loopF (gT [5, 6]) b_greatest_heights_1 (enumD acc.length (rows.map rowD)) [T, a1, a2, .val (.tuple (t.cells.map cellD)), .own (acc.map .int), z5, z6, z7, .un] = .nx [T, a1, a2, .val (.tuple (t.cells.map cellD)), .own ((acc ++ gs).map .int), w5, w6, w7, .un] ∧ gs.length = rows.length ∧ ∀ (j : Nat) (row : LRow) (g : Int), rows[j]? = some row → gs[j]? = some g → GH t (acc.length + j) row g
  | [], acc, z5, z6, z7, _, _ => ⟨[], z5, z6, z7, by rw [List.append_nil]; rfl, rfl, fun j row g h => by simp at h⟩
  | row :: rows, acc, z5, z6, z7, hr, hl => by
    rw [List.length_cons] at hl
    obtain ⟨kv, hkv⟩ : ∃ kz : Int, kz = (acc.length : Nat) := ⟨_, rfl⟩
    obtain ⟨g, w7, h1, h2⟩ := gh_body t ht T a1 a2 acc (by omega) acc.length kv hkv row (hr row List.mem_cons_self) z7
    obtain ⟨gs, v5, v6, v7, h3, h4, h5⟩ := gh_loop t ht T a1 a2 rows (acc ++ [g]) (.val (.int kv)) (.val (rowD row)) w7 (fun r h => hr r (List.mem_cons_of_mem _ h)) (by rw [List.length_append]; simp; omega)
    rw [List.length_append] at h3 h5
    refine ⟨g :: gs, v5, v6, v7, ?_, by rw [List.length_cons, List.length_cons, h4], fun j row' g' q1 q2 => ?_⟩
    · rw [show acc ++ g :: gs = (acc ++ [g]) ++ gs from by rw [List.append_assoc]; rfl, ← h3, hkv] at *
      exact loop_cons rfl h1
    · cases j with
      | zero =>
        cases q1
        cases q2
        exact h2
      | succ j =>
        have := h5 j row' g' q1 q2
        rw [show acc.length + [g].length + j = acc.length + (j + 1) from by simp; omega] at this
        exact this
theorem gh_ev (t : LTab) (ht : TabOk t) : ∃ gs : List Int, g_greatest_heights [tabD t] = some (.tuple (gs.map .int)) ∧ gs.length = t.rows.length ∧ ∀ (j : Nat) (row : LRow) (g : Int), t.rows[j]? = some row → gs[j]? = some g → GH t j row g := by
  have hn := ht.nr
  obtain ⟨gs, w5, w6, w7, h1, h2, h3⟩ := gh_loop t ht (.val (tabD t)) (.val (.tuple (t.cols.map colD))) (.val (.tuple (t.rows.map rowD))) t.rows [] .un .un .un ht.row (by simp; omega)
  refine ⟨gs, ?_, h2, fun j row g q1 q2 => by have := h3 j row g q1 q2; rw [List.length_nil, Nat.zero_add] at this; exact this⟩
  refine gDef_ev' (fB := f_greatest_heights) [.val (tabD t), .un, .un, .un, .un, .un, .un, .un, .un] rfl rfl ?_
  unfold f_greatest_heights
  refine (sSeq_nx (e := [.val (tabD t), .val (.tuple (t.cols.map colD)), .val (.tuple (t.rows.map rowD)), .val (.tuple (t.cells.map cellD)), .un, .un, .un, .un, .un]) (sUnp_ev rfl rfl)).trans ?_
  refine (sSeq_nx (e := [.val (tabD t), .val (.tuple (t.cols.map colD)), .val (.tuple (t.rows.map rowD)), .val (.tuple (t.cells.map cellD)), .own [], .un, .un, .un, .un]) rfl).trans ?_
  refine (sSeq_nx (sFor_ev (ds := enumD 0 (t.rows.map rowD)) rfl h1)).trans ?_
  exact sRet_ev (eTupO_ev rfl)
/-! heights that give all texts their room -/
theorem la_sum (hs : List Int) : ∀ (n a : Nat), a + n < hs.length → (∀ j, a ≤ j → j ≤ a + n → 1 ≤ hs.getD j 0) → hs.getD a 0 ≤ inn (laF hs) (a : Nat) ((n + 1 : Nat) : Int) ∧ (n : Int) ≤ inn (laF hs) (a : Nat) ((n + 1 : Nat) : Int) - hs.getD a 0 := by
  intro n
  induction n with
  | zero =>
    intro a ha h
    have := la_inn hs a (hs.getD a 0) (by simp [List.getD, show a < hs.length by omega])
    have e : inn (laF hs) (a : Nat) ((0 + 1 : Nat) : Int) = hs.getD a 0 := this
    rw [e]
    omega
  | succ n ih =>
    intro a ha h
    have h1 := ih a (by omega) fun j q1 q2 => h j q1 (by omega)
    have h2 := la_inn hs (a + n + 1) (hs.getD (a + n + 1) 0) (by simp [List.getD, show a + n + 1 < hs.length by omega])
    have h3 := h (a + n + 1) (by omega) (by omega)
    unfold inn at *
    rw [show ((a : Nat) + ((n + 1 : Nat) : Int)).toNat = a + n + 1 from by omega] at h1
    rw [show (((a + n + 1 : Nat) : Int) + 1).toNat = a + n + 1 + 1 from by omega, Int.toNat_natCast] at h2
    rw [show ((a : Nat) + ((n + 1 + 1 : Nat) : Int)).toNat = a + n + 1 + 1 from by omega]
    rw [Int.toNat_natCast] at h1 ⊢
    omega
theorem lines_le (W : Int) : ∀ (ws : List Str) (s : List (List Str) × List Str), lines (ws.foldl (step W) s) ≤ lines s + ws.length
  | [], s => Nat.le_refl _
  | w :: ws, s => by
    have ih := lines_le W ws (step W s w)
    have h1 : lines (step W s w) ≤ lines s + 1 := by
      unfold step lines
      split
      · rename_i h
        rw [if_neg h.1]
        simp
      · simp
    rw [List.foldl_cons, List.length_cons]
    omega
theorem cnt_len (W : Int) (ws : List Str) : cnt W ws ≤ ws.length := by
  have h := lines_le W ws ([], [])
  have e : lines (([], []) : List (List Str) × List Str) = 0 := rfl
  rw [e, Nat.zero_add] at h
  refine Nat.le_trans (Nat.le_of_eq ?_) h
  unfold cnt wrapM lines
  simp only []
  split <;> simp

theorem la_bound (hs : List Int) (m : Int) (hm : 0 ≤ m) (h : ∀ j, j < hs.length → hs.getD j 0 ≤ m) : ∀ j, j ≤ hs.length → (laF hs).getD j 0 ≤ (m + 1) * (j : Nat) := by
  intro j
  induction j with
  | zero => intro _; rw [(laF_spec hs).2.1]; simp
  | succ j ih =>
    intro hj
    have h1 := ih (by omega)
    have h2 := (laF_spec hs).2.2 j (hs.getD j 0) (by simp [List.getD, show j < hs.length by omega])
    have h3 := h j (by omega)
    rw [h2]
    have e : (m + 1) * ((j + 1 : Nat) : Int) = (m + 1) * (j : Nat) + (m + 1) := by rw [show ((j + 1 : Nat) : Int) = (j : Nat) + 1 from rfl, Int.mul_add, Int.mul_one]
    omega
/-- the rows of a cell -/
theorem cell_inn (t : LTab) (ht : TabOk t) (hs : List Int) (hl : hs.length = t.rows.length) (h1 : ∀ j, j < hs.length → 1 ≤ hs.getD j 0) (x : LCell) (hx : x ∈ t.cells) : hs.getD x.r.toNat 0 ≤ inn (laF hs) x.r x.h ∧ 1 ≤ inn (laF hs) x.r x.h := by
  have c := ht.cl x hx
  have b1 := c.r
  have b2 := c.h
  have b3 := c.rh
  have := la_sum hs (x.h.toNat - 1) x.r.toNat (by omega) fun j q1 q2 => h1 j (by omega)
  rw [show ((x.h.toNat - 1 + 1 : Nat) : Int) = x.h from by omega, Int.toNat_of_nonneg b1] at this
  have h2 := h1 x.r.toNat (by omega)
  omega
/-- room for every word on a line of its own: what is left of a layout -/
def Free (t : LTab) (hs : List Int) : Prop := ∀ x ∈ t.cells, (x.ws.length : Int) ≤ inn (laF hs) x.r x.h
theorem free_lay {t : LTab} {hs hs' : List Int} (h : Free t hs) (h' : Free t hs') (X : Nat → Int) : Lay t (laF hs) X → Lay t (laF hs') X := fun ⟨a, ⟨b, c⟩, d⟩ =>
  ⟨a, ⟨b, fun x hx => ⟨(c x hx).1, by have := cnt_len (gp X x) x.ws; have := h' x hx; omega⟩⟩, d⟩
theorem gD_of {α : Type} {l : List α} {j : Nat} {d : α} (h : j < l.length) : l[j]? = some (l.getD j d) := by simp [List.getD, h]
/-! members -/
theorem lay_tis : ∀ L : List (List Int), PyData.canLayAll0 (L.map tiD) = true ∧ PyData.depthAll (L.map tiD) ≤ 1
  | [] => ⟨rfl, Nat.zero_le _⟩
  | x :: L => by
    obtain ⟨h1, h2⟩ := lay_tis L
    obtain ⟨k1, k2⟩ := lay_ints x
    rw [List.map_cons]
    refine ⟨?_, ?_⟩
    · simp [tiD, PyData.canLayAll0, PyData.canLay0, h1, k1]
    · simp [tiD, PyData.depthAll, PyData.depth]
      omega
theorem notIn_ti (x : List Int) (L : List (List Int)) (h : x ∈ L) : notInT (tiD x) (.list (L.map tiD)) = some (.bool false) := by
  have s1 := (shaped_ints x).2
  have s2 : SeqAt.shaped (.list (L.map tiD)) = true := by
    obtain ⟨h1, h2⟩ := lay_tis L
    unfold SeqAt.shaped
    simp [PyData.canLay0, h1, PyData.depth]
    omega
  have ha : ((L.map tiD).any fun z => PyData.eqv z (tiD x)) = true := by
    rw [List.any_eq_true]
    refine ⟨tiD x, List.mem_map.mpr ⟨x, h, rfl⟩, ?_⟩
    show PyData.eqvAll _ _ = true
    rw [eqv_ints]
    exact decide_eq_true rfl
  have hi : inT (tiD x) (.list (L.map tiD)) = some (.bool true) := by
    show (if (SeqAt.shaped (tiD x) && SeqAt.shaped (.list (L.map tiD))) = true then some (PyData.bool ((L.map tiD).any fun z => PyData.eqv z (tiD x))) else none) = _
    rw [if_pos (by rw [show SeqAt.shaped (tiD x) = true from s1, s2]; rfl), ha]
  unfold notInT
  rw [hi]
  rfl
/-- the long table -/
def longT (m d : Nat) : LTab := ⟨[⟨1, none, none, "left"⟩, ⟨1, none, none, "left"⟩], List.replicate d (1, false, false), ⟨0, 0, (d : Nat), 1, List.replicate m ("a" : Str)⟩ :: (List.range d).map fun k : Nat => ⟨(k : Nat), 1, 1, 1, []⟩⟩
/-! ### heights -/
theorem la_get (hs : List Int) (j : Nat) (h : j < hs.length) : (laF hs).getD (j + 1) 0 = (laF hs).getD j 0 + hs.getD j 0 + 1 := (laF_spec hs).2.2 j _ (gD_of h)
/-- rows between lines -/
theorem la_span (hs : List Int) (a : Nat) : ∀ n : Nat, a + n < hs.length → inn (laF hs) (a : Nat) ((n + 1 : Nat) : Int) = (laF hs).getD (a + n + 1) 0 - (laF hs).getD a 0 - 1 := fun n _ => by
  unfold inn
  rw [show ((a : Nat) + ((n + 1 : Nat) : Int)).toNat = a + n + 1 from by omega, Int.toNat_natCast]
theorem la_mem (hs : List Int) (h1 : ∀ j, j < hs.length → 1 ≤ hs.getD j 0) (a : Nat) : ∀ n : Nat, a + n < hs.length → ∀ j, a ≤ j → j ≤ a + n → hs.getD j 0 ≤ inn (laF hs) (a : Nat) ((n + 1 : Nat) : Int) := by
  intro n
  induction n with
  | zero =>
    intro ha j q1 q2
    obtain rfl : j = a := by omega
    rw [la_span hs j 0 ha, Nat.add_zero, la_get hs j (by omega)]
    omega
  | succ n ih =>
    intro ha j q1 q2
    have e1 := la_span hs a (n + 1) ha
    have e2 := la_span hs a n (by omega)
    have e3 := la_get hs (a + (n + 1)) (by omega)
    have p := h1 (a + (n + 1)) (by omega)
    have p2 := h1 a (by omega)
    have e4 := ih (by omega) a (Nat.le_refl _) (by omega)
    rw [e1, e3]
    rw [e2] at e4
    rw [show a + (n + 1) = a + n + 1 from rfl] at *
    by_cases q : j = a + n + 1
    · subst q; omega
    · have := ih (by omega) j q1 (by omega)
      rw [e2] at this
      omega
theorem la_congr (hs hs' : List Int) (hl : hs.length = hs'.length) (a : Nat) : ∀ n : Nat, a + n < hs.length → (∀ j, a ≤ j → j ≤ a + n → hs.getD j 0 = hs'.getD j 0) → inn (laF hs) (a : Nat) ((n + 1 : Nat) : Int) = inn (laF hs') (a : Nat) ((n + 1 : Nat) : Int) := by
  intro n
  induction n with
  | zero =>
    intro ha h
    rw [la_span hs a 0 ha, la_span hs' a 0 (by omega), Nat.add_zero, la_get hs a (by omega), la_get hs' a (by omega), h a (Nat.le_refl _) (by omega)]
    omega
  | succ n ih =>
    intro ha h
    have e := ih (by omega) fun j q1 q2 => h j q1 (by omega)
    rw [la_span hs a n (by omega), la_span hs' a n (by omega)] at e
    have e1 := la_get hs (a + (n + 1)) (by omega)
    have e2 := la_get hs' (a + (n + 1)) (by omega)
    have e3 := h (a + (n + 1)) (by omega) (by omega)
    rw [la_span hs a (n + 1) ha, la_span hs' a (n + 1) (by omega), e1, e2, e3]
    rw [show a + (n + 1) = a + n + 1 from rfl]
    omega
theorem la_le (hs hs' : List Int) (hl : hs.length = hs'.length) (h : ∀ j, j < hs.length → hs.getD j 0 ≤ hs'.getD j 0) : ∀ j, j ≤ hs.length → (laF hs).getD j 0 ≤ (laF hs').getD j 0 ∧ (hs.take j ≠ hs'.take j → (laF hs).getD j 0 < (laF hs').getD j 0) := by
  intro j
  induction j with
  | zero => intro _; rw [(laF_spec hs).2.1, (laF_spec hs').2.1]; simp
  | succ j ih =>
    intro hj
    obtain ⟨i1, i2⟩ := ih (by omega)
    have e1 := la_get hs j (by omega)
    have e2 := la_get hs' j (by omega)
    have e3 := h j (by omega)
    refine ⟨by omega, fun ne => ?_⟩
    by_cases q : hs.take j = hs'.take j
    · have : hs.getD j 0 ≠ hs'.getD j 0 := fun e => ne (by
        rw [List.take_succ, List.take_succ, q, gD_of (show j < hs.length by omega) (d := 0), gD_of (show j < hs'.length by omega) (d := 0), e])
      omega
    · have := i2 q
      omega
def lastH (hs : List Int) : Int := (laF hs).getD hs.length 0
theorem lastH_le (hs hs' : List Int) (hl : hs.length = hs'.length) (h : ∀ j, j < hs.length → hs.getD j 0 ≤ hs'.getD j 0) : lastH hs ≤ lastH hs' ∧ (hs ≠ hs' → lastH hs < lastH hs') := by
  obtain ⟨h1, h2⟩ := la_le hs hs' hl h hs.length (Nat.le_refl _)
  unfold lastH
  rw [← hl]
  refine ⟨h1, fun ne => h2 ?_⟩
  rw [List.take_length, hl, List.take_length]
  exact ne
/-- the heights between lines -/
def hts (ys : List Int) : List Int := (List.range (ys.length - 1)).map fun k => ys.getD (k + 1) 0 - ys.getD k 0 - 1
theorem hts_len (ys : List Int) : (hts ys).length = ys.length - 1 := by simp [hts]
theorem hts_get (ys : List Int) (k : Nat) (h : k < ys.length - 1) : (hts ys).getD k 0 = ys.getD (k + 1) 0 - ys.getD k 0 - 1 := by
  unfold hts
  simp [List.getD, h]
theorem la_hts (ys : List Int) (h0 : ys.getD 0 0 = 0) (hl : 0 < ys.length) : laF (hts ys) = ys := by
  refine list_ext0 (by rw [(laF_spec _).1, hts_len]; omega) fun v hv => ?_
  rw [(laF_spec _).1, hts_len] at hv
  show (laF (hts ys)).getD v 0 = ys.getD v 0
  induction v with
  | zero => rw [(laF_spec _).2.1, h0]
  | succ v ih =>
    rw [la_get _ v (by rw [hts_len]; omega), ih (by omega), hts_get _ v (by omega)]
    omega
theorem hts_la (hs : List Int) : hts (laF hs) = hs := by
  have hl : (hts (laF hs)).length = hs.length := by rw [hts_len, (laF_spec hs).1]; rfl
  refine list_ext0 hl fun v hv => ?_
  rw [hl] at hv
  show (hts (laF hs)).getD v 0 = hs.getD v 0
  rw [hts_get _ v (by rw [(laF_spec hs).1]; exact hv), la_get _ v hv]
  omega
/-! less is enough: no row need be higher than its greatest height -/
def clip (hs gs : List Int) : List Int := (List.range hs.length).map fun k => if hs.getD k 0 ≤ gs.getD k 0 then hs.getD k 0 else gs.getD k 0
theorem clip_len (hs gs : List Int) : (clip hs gs).length = hs.length := by simp [clip]
theorem clip_get (hs gs : List Int) (k : Nat) (h : k < hs.length) : (clip hs gs).getD k 0 = if hs.getD k 0 ≤ gs.getD k 0 then hs.getD k 0 else gs.getD k 0 := by
  unfold clip
  simp [List.getD, h]
theorem clip_lay (t : LTab) (ht : TabOk t) (gs : List Int) (hg : ∀ (j : Nat) (row : LRow) (g : Int), t.rows[j]? = some row → gs[j]? = some g → GH t j row g) (hgl : gs.length = t.rows.length) (hs : List Int) (hl : hs.length = t.rows.length) (h1 : ∀ j, j < hs.length → 1 ≤ hs.getD j 0) (X : Nat → Int) (hX : Lay t (laF hs) X) : Lay t (laF (clip hs gs)) X := by
  obtain ⟨a, ⟨b, c⟩, d⟩ := hX
  have gh : ∀ j, j < gs.length → GH t j (t.rows.getD j (0, false, false)) (gs.getD j 0) := fun j hj => hg j _ _ (gD_of (by omega)) (gD_of hj)
  have g1 : ∀ j, j < gs.length → 1 ≤ gs.getD j 0 := fun j hj => by
    have := (gh j hj).1
    have := (ht.row _ (List.mem_of_getElem? (gD_of (l := t.rows) (j := j) (d := (0, false, false)) (by omega)))).1
    omega
  have c1 : ∀ j, j < (clip hs gs).length → 1 ≤ (clip hs gs).getD j 0 := fun j hj => by
    rw [clip_len] at hj
    rw [clip_get _ _ _ hj]
    have := h1 j hj
    have := g1 j (by omega)
    split <;> omega
  refine ⟨a, ⟨b, fun x hx => ⟨(c x hx).1, ?_⟩⟩, d⟩
  have ck := ht.cl x hx
  have b1 := ck.r
  have b2 := ck.h
  have b3 := ck.rh
  have c2 := (c x hx).2
  have er : x.r = (x.r.toNat : Nat) := by omega
  have eh : x.h = ((x.h.toNat - 1 + 1 : Nat) : Int) := by omega
  rw [er, eh] at c2 ⊢
  by_cases q : ∃ j, x.r.toNat ≤ j ∧ j ≤ x.r.toNat + (x.h.toNat - 1) ∧ gs.getD j 0 < hs.getD j 0
  · obtain ⟨j, q1, q2, q3⟩ := q
    have m := la_mem (clip hs gs) c1 x.r.toNat (x.h.toNat - 1) (by rw [clip_len]; omega) j q1 q2
    rw [clip_get _ _ _ (by omega), if_neg (by omega)] at m
    have := (gh j (by omega)).2.1 x hx (by omega) (by omega)
    have := cnt_len (gp X x) x.ws
    omega
  · rw [← la_congr hs (clip hs gs) (clip_len hs gs).symm x.r.toNat (x.h.toNat - 1) (by omega) fun j q1 q2 => ?_]
    · exact c2
    · rw [clip_get _ _ _ (by omega), if_pos]
      exact Int.not_lt.mp fun z => q ⟨j, q1, q2, z⟩

/-! ### the layouts that the program tries -/
theorem compF2_mapS {α : Type} {g g1 : PyData → En → Option En} {f1 : En → Option (List PyData)} {is1 : List Nat} {fe : En → Option PyData} {env : En} {c : α → PyData} {k : α → List PyData} : ∀ {xs : List α},
    (∀ x ∈ xs, ∃ e1 ds1, g (c x) env = some e1 ∧ ownF e1 = true ∧ f1 e1 = some ds1 ∧ compF g1 tYes' fe (wipeE e1 is1) ds1 = some (k x)) → compF2 g tYes' f1 is1 g1 tYes' fe env (xs.map c) = some (xs.flatMap k)
  | [], _ => rfl
  | x :: xs, h => by
    obtain ⟨e1, ds1, h1, h2, h3, h4⟩ := h x List.mem_cons_self
    have ih := compF2_mapS (xs := xs) fun y hy => h y (List.mem_cons_of_mem _ hy)
    show compF2 g tYes' f1 is1 g1 tYes' fe env (c x :: xs.map c) = _
    simp only [compF2, h1, tYes', h2, if_true, h3, h4]
    rw [ih]
    rfl
theorem fCmp2_ev {is is1 : List Nat} {f f1 : En → Option (List PyData)} {g g1 : PyData → En → Option En} {ga ga1 : En → Option Bool} {fe : En → Option PyData} {env : En} {ds vs : List PyData} (h1 : f env = some ds) (h2 : compF2 g ga f1 is1 g1 ga1 fe (wipeE env is) ds = some vs) (h3 : vs.length ≤ 1000000) : fCmp2 is f g ga is1 f1 g1 ga1 fe env = some vs := by
  unfold fCmp2
  rw [h1]
  simp only [h2]
  exact if_pos h3
/-- heights from least to greatest, one a row -/
def Cov (ps : List (LRow × Int)) (s : List Int) : Prop := s.length = ps.length ∧ ∀ (j : Nat) (p : LRow × Int) (h : Int), ps[j]? = some p → s[j]? = some h → p.1.1 ≤ h ∧ h ≤ p.2
theorem cov_cons (p : LRow × Int) (ps : List (LRow × Int)) (h : Int) (s : List Int) : Cov (p :: ps) (h :: s) ↔ (p.1.1 ≤ h ∧ h ≤ p.2) ∧ Cov ps s := by
  constructor
  · rintro ⟨h1, h2⟩
    exact ⟨h2 0 p h rfl rfl, by simpa using h1, fun j q k e1 e2 => h2 (j + 1) q k (by simpa using e1) (by simpa using e2)⟩
  · rintro ⟨h1, h2, h3⟩
    refine ⟨by simp [h2], fun j q k e1 e2 => ?_⟩
    cases j with
    | zero => cases e1; cases e2; exact h1
    | succ j => exact h3 j q k (by simpa using e1) (by simpa using e2)
def chs (p : LRow × Int) : List Int := (List.range (p.2 + 1 - p.1.1).toNat).map fun k : Nat => p.1.1 + (k : Nat)
theorem chs_mem (p : LRow × Int) (h : Int) : h ∈ chs p ↔ p.1.1 ≤ h ∧ h ≤ p.2 := by
  unfold chs
  rw [List.mem_map]
  constructor
  · rintro ⟨k, hk, rfl⟩
    have := List.mem_range.mp hk
    omega
  · rintro ⟨h1, h2⟩
    exact ⟨(h - p.1.1).toNat, List.mem_range.mpr (by omega), by omega⟩
theorem chs_len (p : LRow × Int) (h1 : 1 ≤ p.1.1) (h2 : p.2 ≤ 4) : (chs p).length ≤ 4 := by
  unfold chs
  rw [List.length_map, List.length_range]
  omega
def hstep (acc : List (List Int)) (p : LRow × Int) : List (List Int) := acc.flatMap fun a => (chs p).map fun h => a ++ [h]
theorem hstep_len (acc : List (List Int)) (p : LRow × Int) (h1 : 1 ≤ p.1.1) (h2 : p.2 ≤ 4) : (hstep acc p).length ≤ 4 * acc.length := by
  unfold hstep
  induction acc with
  | nil => simp
  | cons a acc ih =>
    rw [List.flatMap_cons, List.length_append, List.length_map, List.length_cons]
    have := chs_len p h1 h2
    omega
abbrev prD (q : LRow × Int) : PyData := .tuple [rowD q.1, .int q.2]
theorem ht_body (T y5 y6 : Sl) (hT : ow T = false) (p : LRow × Int) (acc : List (List Int)) (y4 : Sl) (hl : acc.length ≤ 10000) (ha : ∀ a ∈ acc, a.length ≤ 10) (h1 : 1 ≤ p.1.1) (h2 : p.2 ≤ 4 ∧ 0 ≤ p.2) (h3 : p.1.1 ≤ 100) (h4 : ow y4 = false) : b_heights_to_try_1 [T, .val (.list (acc.map tiD)), .val (rowD p.1), .val (.int p.2), y4, .un, .un] = .nx [T, .val (.list ((hstep acc p).map tiD)), .val (rowD p.1), .val (.int p.2), .val (.list ((chs p).map .int)), .un, .un] := by
  unfold b_heights_to_try_1
  refine (sSeq_nx (e := [T, .val (.list (acc.map tiD)), .val (rowD p.1), .val (.int p.2), .val (.list ((chs p).map .int)), .un, .un]) (sSet_ev (eL_ev ?_))).trans (sSet_ev (eL_ev ?_))
  · unfold fRng2
    rw [e2_ev (x := rowD p.1) (y := .int 0) (d := .int p.1.1) rfl rfl rfl, e2_ev (x := .int p.2) (y := .int 1) rfl rfl (addD_int _ _)]
    show (if rngOk p.1.1 (p.2 + 1) = true then some (rngD p.1.1 (p.2 + 1 - p.1.1).toNat) else none) = _
    rw [if_pos (show rngOk p.1.1 (p.2 + 1) = true from decide_eq_true (by omega))]
    unfold chs
    rw [List.map_map]
    rfl
  · have hlen := hstep_len acc p h1 h2.1
    have hk : (hstep acc p).map tiD = acc.flatMap fun a => (chs p).map fun h => tiD (a ++ [h]) := by
      unfold hstep
      rw [List.map_flatMap]
      congr 1
      funext a
      rw [List.map_map]
      rfl
    refine (fCmp2_ev (ds := acc.map tiD) (vs := (hstep acc p).map tiD) (iSeq_l rfl) ?_ (by rw [List.length_map]; omega))
    rw [hk]
    refine compF2_mapS fun a ha' => ⟨[T, .val (.list (acc.map tiD)), .val (rowD p.1), .val (.int p.2), .val (.list ((chs p).map .int)), .val (tiD a), .un], (chs p).map .int, rfl, ?_, rfl, ?_⟩
    · show (!ow T && _) = true
      rw [hT]
      rfl
    · refine compF_mapS fun h hh => ⟨[T, .val (.list (acc.map tiD)), .val (rowD p.1), .val (.int p.2), .val (.list ((chs p).map .int)), .val (tiD a), .val (.int h)], rfl, ?_⟩
      have := ha a ha'
      refine e2_ev rfl (eTup_ev (aCons_ev rfl aNil_ev) (by simp)) ?_
      show addD (.tuple (a.map .int)) (.tuple [.int h]) = some (.tuple ((a ++ [h]).map .int))
      rw [addD_tup (by rw [List.length_map]; simp; omega), List.map_append]
      rfl
theorem ht_loop (T : Sl) (hT : ow T = false) : ∀ (ps : List (LRow × Int)) (acc : List (List Int)) (y2 y3 y4 : Sl), (∀ p ∈ ps, (1 ≤ p.1.1 ∧ p.1.1 ≤ 100) ∧ p.2 ≤ 4 ∧ 0 ≤ p.2) → acc.length * 4 ^ ps.length ≤ 10000 → (∀ a ∈ acc, a.length + ps.length ≤ 9) → ow y4 = false →
    ∃ (N : List (List Int)) (z2 z3 z4 : Sl), loopF (gT [2, 3]) b_heights_to_try_1 (ps.map prD) [T, .val (.list (acc.map tiD)), y2, y3, y4, .un, .un] = .nx [T, .val (.list (N.map tiD)), z2, z3, z4, .un, .un] ∧ N.length ≤ acc.length * 4 ^ ps.length ∧ ∀ x, x ∈ N ↔ ∃ a ∈ acc, ∃ s, x = a ++ s ∧ Cov ps s
  | [], acc, y2, y3, y4, _, _, _, _ => ⟨acc, y2, y3, y4, rfl, by simp, fun x => ⟨fun h => ⟨x, h, [], by simp, rfl, fun j p h e => by simp at e⟩, fun ⟨a, ha, s, e, c1, _⟩ => by
      have : s = [] := List.eq_nil_of_length_eq_zero c1
      rw [e, this, List.append_nil]; exact ha⟩⟩
  | p :: ps, acc, y2, y3, y4, hp, hl, ha, h4 => by
    rw [List.length_cons, Nat.pow_succ] at hl
    obtain ⟨⟨p1, p2⟩, p3⟩ := hp p List.mem_cons_self
    have hs := hstep_len acc p p1 p3.1
    have hpos : 1 ≤ 4 ^ ps.length := Nat.pos_of_ne_zero (by simp)
    have hle : (hstep acc p).length * 4 ^ ps.length ≤ acc.length * (4 ^ ps.length * 4) := by
      have := Nat.mul_le_mul_right (4 ^ ps.length) hs
      calc (hstep acc p).length * 4 ^ ps.length ≤ 4 * acc.length * 4 ^ ps.length := this
        _ = acc.length * (4 ^ ps.length * 4) := by rw [Nat.mul_comm 4, Nat.mul_assoc, Nat.mul_comm 4]
    have hal : acc.length ≤ 10000 := by
      have := Nat.mul_le_mul_left acc.length hpos
      have h5 : acc.length * 4 ^ ps.length ≤ acc.length * (4 ^ ps.length * 4) := Nat.mul_le_mul_left _ (by omega)
      omega
    have hb := ht_body T .un .un hT p acc y4 hal (fun a h => by have := ha a h; omega) p1 p3 p2 h4
    obtain ⟨N, z2, z3, z4, n1, n2, n3⟩ := ht_loop T hT ps (hstep acc p) (.val (rowD p.1)) (.val (.int p.2)) (.val (.list ((chs p).map .int))) (fun q hq => hp q (List.mem_cons_of_mem _ hq)) (by omega) (fun a h => by
      unfold hstep at h
      obtain ⟨b, hb1, hb2⟩ := List.mem_flatMap.mp h
      obtain ⟨k, _, rfl⟩ := List.mem_map.mp hb2
      have := ha b hb1
      simp at this ⊢
      omega) rfl
    refine ⟨N, z2, z3, z4, ?_, by rw [List.length_cons, Nat.pow_succ]; omega, fun x => ?_⟩
    · rw [List.map_cons, ← n1]
      exact loop_cons rfl hb
    · rw [n3 x]
      constructor
      · rintro ⟨a, h1, s, e, hc⟩
        unfold hstep at h1
        obtain ⟨b, hb1, hb2⟩ := List.mem_flatMap.mp h1
        obtain ⟨k, hk, rfl⟩ := List.mem_map.mp hb2
        exact ⟨b, hb1, k :: s, by rw [e, List.append_assoc]; rfl, (cov_cons p ps k s).mpr ⟨(chs_mem p k).mp hk, hc⟩⟩
      · rintro ⟨a, h1, s, e, hc⟩
        cases s with
        | nil => have := hc.1; simp at this
        | cons k s =>
          obtain ⟨c1, c2⟩ := (cov_cons p ps k s).mp hc
          refine ⟨a ++ [k], ?_, s, by rw [e, List.append_assoc]; rfl, c2⟩
          unfold hstep
          exact List.mem_flatMap.mpr ⟨a, h1, List.mem_map.mpr ⟨k, (chs_mem p k).mpr c1, rfl⟩⟩
/-- between least and greatest -/
def Try (t : LTab) (gs hs : List Int) : Prop := hs.length = t.rows.length ∧ ∀ j, j < hs.length → (t.rows.getD j (0, false, false)).1 ≤ hs.getD j 0 ∧ hs.getD j 0 ≤ gs.getD j 0
theorem cov_try (t : LTab) (gs : List Int) (hg : gs.length = t.rows.length) (hs : List Int) : Cov (t.rows.zip gs) hs ↔ Try t gs hs := by
  have hz : (t.rows.zip gs).length = t.rows.length := by rw [List.length_zip]; omega
  constructor
  · rintro ⟨h1, h2⟩
    rw [hz] at h1
    refine ⟨h1, fun j hj => h2 j (t.rows.getD j (0, false, false), gs.getD j 0) _ ?_ (gD_of hj)⟩
    rw [List.getElem?_zip_eq_some]
    exact ⟨gD_of (by omega), gD_of (by omega)⟩
  · rintro ⟨h1, h2⟩
    refine ⟨by rw [hz, h1], fun j p h e1 e2 => ?_⟩
    have hj := (List.getElem?_eq_some_iff.mp e2).1
    obtain ⟨k1, k2⟩ := List.getElem?_zip_eq_some.mp e1
    have := h2 j hj
    rw [gD_of (l := t.rows) (d := (0, false, false)) (show j < t.rows.length by omega)] at k1
    rw [gD_of (l := gs) (d := 0) (show j < gs.length by omega)] at k2
    rw [gD_of (d := 0) hj] at e2
    rw [← Option.some.inj k1, ← Option.some.inj k2, ← Option.some.inj e2]
    exact this
theorem ht_ev (t : LTab) (ht : TabOk t) (gs : List Int) (h1 : g_greatest_heights [tabD t] = some (.tuple (gs.map .int))) (hgl : gs.length = t.rows.length) (hg : ∀ (j : Nat) (row : LRow) (g : Int), t.rows[j]? = some row → gs[j]? = some g → GH t j row g) :
    ∃ Hs : List (List Int), g_heights_to_try [tabD t] = some (.list (Hs.map tiD)) ∧ Hs.length ≤ 64 ∧ ∀ hs, hs ∈ Hs ↔ Try t gs hs := by
  have hn := ht.nr
  obtain ⟨N, z2, z3, z4, n1, n2, n3⟩ := ht_loop (.val (tabD t)) rfl (t.rows.zip gs) [[]] .un .un .un (fun p hp => by
    obtain ⟨j, hj, e⟩ := List.getElem_of_mem hp
    have e1 : (t.rows.zip gs)[j]? = some p := by rw [List.getElem?_eq_getElem hj, e]
    obtain ⟨k1, k2⟩ := List.getElem?_zip_eq_some.mp e1
    have := ht.row _ (List.mem_of_getElem? k1)
    have g := hg j _ _ k1 k2
    have g1 := g.1
    have g3 := g.le4 ht (List.mem_of_getElem? k1)
    exact ⟨⟨this.1, by omega⟩, g3, by omega⟩) (by
    have : (t.rows.zip gs).length ≤ 3 := by rw [List.length_zip]; omega
    have := Nat.pow_le_pow_right (show 0 < 4 by decide) this
    rw [List.length_singleton]; omega) (fun a ha => by
    have := List.mem_singleton.mp ha
    subst this
    rw [List.length_zip]; simp; omega) rfl
  refine ⟨N, ?_, ?_, fun hs => ?_⟩
  · refine gDef_ev' (fB := f_heights_to_try) [.val (tabD t), .un, .un, .un, .un, .un, .un] rfl rfl ?_
    unfold f_heights_to_try
    refine (sSeq_nx (e := [.val (tabD t), .val (.list ([[]].map tiD)), .un, .un, .un, .un, .un]) rfl).trans ?_
    refine (sSeq_nx (sFor_ev (ds := (t.rows.zip gs).map prD) ?_ n1)).trans rfl
    unfold iZp
    rw [aCons_ev (tab_rows t _) (aCons_ev (eCall_ev (aCons_ev rfl aNil_ev) h1) aNil_ev)]
    show (some (zipD (t.rows.map rowD) (gs.map .int)) : Option (List PyData)) = _
    rw [zipD_map]
  · have : (t.rows.zip gs).length ≤ 3 := by rw [List.length_zip]; omega
    have := Nat.pow_le_pow_right (show 0 < 4 by decide) this
    rw [List.length_singleton] at n2
    omega
  · rw [n3 hs, ← cov_try t gs hgl]
    constructor
    · rintro ⟨a, ha, s, e, hc⟩
      rw [List.mem_singleton.mp ha, List.nil_append] at e
      rw [e]; exact hc
    · intro hc
      exact ⟨[], List.mem_singleton.mpr rfl, hs, rfl, hc⟩

/-! ### least_layouts -/
abbrev LP := List Int × List Int
abbrev pD (p : LP) : PyData := .tuple [tiD p.1, tiD p.2]
/-- the least lines for these heights -/
def Lst (t : LTab) (hs xs : List Int) : Prop := xs.length = t.cols.length + 1 ∧ Lay t (laF hs) (at0 xs) ∧ ∀ X, Lay t (laF hs) X → ∀ v, v < t.cols.length + 1 → at0 xs v ≤ X v
def Ltt (t : LTab) (gs : List Int) (p : LP) : Prop := ∃ hs, Try t gs hs ∧ p.2 = laF hs ∧ Lst t hs p.1
theorem lst_uniq {t : LTab} {hs xs xs' : List Int} (h : Lst t hs xs) (h' : Lst t hs xs') : xs = xs' := by
  refine list_ext0 (by rw [h.1, h'.1]) fun v hv => ?_
  rw [h.1] at hv
  have a := h.2.2 _ h'.2.1 v hv
  have b := h'.2.2 _ h.2.1 v hv
  omega
theorem try_one {t : LTab} (ht : TabOk t) {gs hs : List Int} (h : Try t gs hs) : ∀ j, j < hs.length → 1 ≤ hs.getD j 0 := fun j hj => by
  have h1 := (h.2 j hj).1
  have h2 := (ht.row _ (List.mem_of_getElem? (gD_of (l := t.rows) (j := j) (d := (0, false, false)) (by rw [← h.1]; exact hj)))).1
  omega
theorem try_gh {t : LTab} (ht : TabOk t) {gs hs : List Int} (hg : ∀ (j : Nat) (row : LRow) (g : Int), t.rows[j]? = some row → gs[j]? = some g → GH t j row g) (hgl : gs.length = t.rows.length) (h : Try t gs hs) : ∀ j, j < hs.length → hs.getD j 0 ≤ 4 := fun j hj => by
  have h1 := (h.2 j hj).2
  have h3 := h.1
  have h2 := (hg j _ _ (gD_of (l := t.rows) (d := (0, false, false)) (by omega)) (gD_of (l := gs) (d := 0) (by omega))).le4 ht (List.mem_of_getElem? (gD_of (l := t.rows) (j := j) (d := (0, false, false)) (by omega)))
  omega
theorem ll_loop (t : LTab) (ht : TabOk t) (gs : List Int) (hgl : gs.length = t.rows.length) (hg : ∀ (j : Nat) (row : LRow) (g : Int), t.rows[j]? = some row → gs[j]? = some g → GH t j row g) : ∀ (Hs : List (List Int)) (acc : List LP) (y2 y3 : Sl), (∀ hs ∈ Hs, Try t gs hs) → acc.length + Hs.length ≤ 1000 →
    ∃ (N : List LP) (z2 z3 : Sl), loopF (gVal 2) b_least_layouts_1 (Hs.map tiD) [.val (tabD t), .own (acc.map pD), y2, y3] = .nx [.val (tabD t), .own ((acc ++ N).map pD), z2, z3] ∧ N.length ≤ Hs.length ∧ (∀ p ∈ N, ∃ hs ∈ Hs, p.2 = laF hs ∧ Lst t hs p.1) ∧ ∀ hs ∈ Hs, (∃ X, Lay t (laF hs) X ∧ X t.cols.length ≤ 2000) → ∃ xs, (xs, laF hs) ∈ N
  | [], acc, y2, y3, _, _ => ⟨[], y2, y3, by rw [List.append_nil]; rfl, Nat.le_refl _, (fun p h => by cases h), (fun hs h => by cases h)⟩
  | hs :: Hs, acc, y2, y3, hT, hl => by
    rw [List.length_cons] at hl
    have hn := ht.nr
    have tr := hT hs List.mem_cons_self
    have hb := la_bound hs 4 (by omega) (try_gh ht hg hgl tr) hs.length (Nat.le_refl _)
    have hc := clf_ev t ht hs tr.1 (by have := tr.1; rw [this] at hb; omega) (fun x hx => (cell_inn t ht hs tr.1 (try_one ht tr) x hx).2)
    have hla := la_ev hs (by have := tr.1; omega)
    have room : RoomR t hs := fun j x h q1 q2 => by
      have hj := (List.getElem?_eq_some_iff.mp q2).1
      have := (tr.2 j hj).1
      rw [gD_of (l := t.rows) (d := (0, false, false)) (List.getElem?_eq_some_iff.mp q1).1] at q1
      rw [gD_of (d := 0) hj] at q2
      rw [← Option.some.inj q1, ← Option.some.inj q2]
      exact this
    obtain ⟨L, hL⟩ : ∃ L, L = laF hs := ⟨_, rfl⟩
    rw [← hL] at hla
    rcases hc with ⟨c, _⟩ | ⟨_, ⟨xs, c1, c2, c3, c4⟩ | ⟨c1, c2⟩⟩
    · exact absurd room c
    · have hbd : b_least_layouts_1 [.val (tabD t), .own (acc.map pD), .val (tiD hs), y3] = .nx [.val (tabD t), .own ((acc ++ [(xs, L)]).map pD), .val (tiD hs), .val (tiD xs)] := by
        unfold b_least_layouts_1
        refine (sSeq_nx (e := [.val (tabD t), .own (acc.map pD), .val (tiD hs), .val (tiD xs)]) (sSet_ev (eCall_ev (aCons_ev rfl (aCons_ev rfl aNil_ev)) c1))).trans ?_
        refine (sIf_t (t1_ev (by rfl))).trans ?_
        rw [List.map_append]
        exact sApp_ev (i := 1) (d := pD (xs, L)) (eTup_ev (aCons_ev rfl (aCons_ev (eCall_ev (aCons_ev rfl aNil_ev) hla) aNil_ev)) (by simp)) rfl (by rw [List.length_map]; omega)
      obtain ⟨N, z2, z3, n1, n2, n3, n4⟩ := ll_loop t ht gs hgl hg Hs (acc ++ [(xs, L)]) (.val (tiD hs)) (.val (tiD xs)) (fun h hh => hT h (List.mem_cons_of_mem _ hh)) (by rw [List.length_append, List.length_singleton]; omega)
      refine ⟨(xs, L) :: N, z2, z3, ?_, by rw [List.length_cons, List.length_cons]; omega, fun p hp => ?_, fun h hh hX => ?_⟩
      · rw [List.map_cons, show acc ++ (xs, L) :: N = (acc ++ [(xs, L)]) ++ N from by rw [List.append_assoc]; rfl, ← n1]
        exact loop_cons rfl hbd
      · rcases List.mem_cons.mp hp with e | hp
        · rw [e]
          exact ⟨hs, List.mem_cons_self, hL, c2, c3, c4⟩
        · obtain ⟨h, h1, h2⟩ := n3 p hp
          exact ⟨h, List.mem_cons_of_mem _ h1, h2⟩
      · rcases List.mem_cons.mp hh with e | hh
        · rw [e, ← hL]
          exact ⟨xs, List.mem_cons_self⟩
        · obtain ⟨x, hx⟩ := n4 h hh hX
          exact ⟨x, List.mem_cons_of_mem _ hx⟩
    · have hbd : b_least_layouts_1 [.val (tabD t), .own (acc.map pD), .val (tiD hs), y3] = .nx [.val (tabD t), .own (acc.map pD), .val (tiD hs), .val .none] := by
        unfold b_least_layouts_1
        refine (sSeq_nx (e := [.val (tabD t), .own (acc.map pD), .val (tiD hs), .val .none]) (sSet_ev (eCall_ev (aCons_ev rfl (aCons_ev rfl aNil_ev)) c1))).trans ?_
        exact (sIf_f (t1_ev (by rfl))).trans rfl
      obtain ⟨N, z2, z3, n1, n2, n3, n4⟩ := ll_loop t ht gs hgl hg Hs acc (.val (tiD hs)) (.val .none) (fun h hh => hT h (List.mem_cons_of_mem _ hh)) (by omega)
      refine ⟨N, z2, z3, ?_, by rw [List.length_cons]; omega, fun p hp => ?_, fun h hh hX => ?_⟩
      · rw [List.map_cons, ← n1]
        exact loop_cons rfl hbd
      · obtain ⟨h, h1, h2⟩ := n3 p hp
        exact ⟨h, List.mem_cons_of_mem _ h1, h2⟩
      · rcases List.mem_cons.mp hh with e | hh
        · rw [e] at hX
          exact absurd hX c2
        · exact n4 h hh hX
theorem ll_ev (t : LTab) (ht : TabOk t) : ∃ (gs : List Int) (Ps : List LP), gs.length = t.rows.length ∧ (∀ (j : Nat) (row : LRow) (g : Int), t.rows[j]? = some row → gs[j]? = some g → GH t j row g) ∧ g_least_layouts [tabD t] = some (.list (Ps.map pD)) ∧ Ps.length ≤ 64 ∧ (∀ p ∈ Ps, Ltt t gs p) ∧ ∀ hs, Try t gs hs → (∃ X, Lay t (laF hs) X ∧ X t.cols.length ≤ 2000) → ∃ xs, (xs, laF hs) ∈ Ps := by
  obtain ⟨gs, g1, g2, g3⟩ := gh_ev t ht
  obtain ⟨Hs, h1, h2, h3⟩ := ht_ev t ht gs g1 g2 g3
  obtain ⟨N, z2, z3, n1, n2, n3, n4⟩ := ll_loop t ht gs g2 g3 Hs [] .un .un (fun hs hh => (h3 hs).mp hh) (by simp; omega)
  refine ⟨gs, N, g2, g3, ?_, by omega, fun p hp => ?_, fun hs ht' hX => n4 hs ((h3 hs).mpr ht') hX⟩
  · refine gDef_ev' (fB := f_least_layouts) [.val (tabD t), .un, .un, .un] rfl rfl ?_
    unfold f_least_layouts
    refine (sSeq_nx (e := [.val (tabD t), .own [], .un, .un]) (by rfl)).trans ?_
    refine (sSeq_nx (sFor_ev (ds := Hs.map tiD) (iSeq_l (eCall_ev (aCons_ev rfl aNil_ev) h1)) n1)).trans ?_
    rfl
  · obtain ⟨hs, q1, q2, q3⟩ := n3 p hp
    exact ⟨hs, (h3 hs).mp q1, q2, q3⟩
/-! widths, heights -/
theorem last_at (xs : List Int) (n : Nat) (h : xs.length = n + 1) : atI (xs.map PyData.int) (-1) = some (.int (xs.getD n 0)) := by
  have := last_ix xs (by omega)
  rw [h, Nat.add_sub_cancel] at this
  exact this
theorem wid_ev (p : LP) (n : Nat) (h : p.1.length = n + 1) : g_width_of [pD p] = some (.int (p.1.getD n 0 + 1)) := by
  refine gDef_ev' (fB := f_width_of) [.val (pD p)] rfl rfl ?_
  unfold f_width_of
  exact sRet_ev (e2_ev (x := .int (p.1.getD n 0)) (e2_ev (x := tiD p.1) (y := .int (-1)) (e2_ev (x := pD p) (y := .int 0) rfl rfl rfl) rfl (last_at p.1 n h)) rfl (addD_int _ _))
theorem hei_ev (p : LP) (n : Nat) (h : p.2.length = n + 1) : g_height_of [pD p] = some (.int (p.2.getD n 0 + 1)) := by
  refine gDef_ev' (fB := f_height_of) [.val (pD p)] rfl rfl ?_
  unfold f_height_of
  exact sRet_ev (e2_ev (x := .int (p.2.getD n 0)) (e2_ev (x := tiD p.2) (y := .int (-1)) (e2_ev (x := pD p) (y := .int 1) rfl rfl rfl) rfl (last_at p.2 n h)) rfl (addD_int _ _))
theorem iss_ev (ys : List Int) (h0 : 0 < ys.length) (hl : ys.length ≤ 1000) : g_inner_sizes [tiD ys] = some (tiD (hts ys)) := by
  obtain ⟨Y, hY⟩ : ∃ Y, Y = tiD ys := ⟨_, rfl⟩
  rw [← hY]
  refine gDef_ev' (fB := f_inner_sizes) [.val Y, .un] rfl rfl ?_
  unfold f_inner_sizes
  obtain ⟨n, hn⟩ : ∃ n : Nat, n = ys.length - 1 := ⟨_, rfl⟩
  refine sRet_ev ((eCall_ev (aCons_ev (eL_ev (fCmp_ev (ds := rngD 0 n) (vs := (List.range n).map fun k : Nat => PyData.int (ys.getD (k + 1) 0 - ys.getD k 0 - 1)) ?_ (compF_mapS fun k hk => ⟨_, rfl, ?_⟩) (by simp; omega))) aNil_ev) rfl).trans ?_)
  · have := iR1_ev (fa := aCons (e2 subD (eCall lenA (aCons (eVar 0) aNil)) (eC (.int 1))) aNil) (env := [.val Y, .un]) (N := (n : Nat)) (aCons_ev (by
      refine (e2_ev (x := .int (ys.length : Nat)) ((eCall_ev (aCons_ev rfl aNil_ev) (by rw [hY]; rfl)).trans (by show some (PyData.int (List.length _ : Nat)) = _; rw [List.length_map])) rfl (subD_int _ _)).trans ?_
      rw [show ((ys.length : Nat) : Int) - 1 = (n : Nat) from by omega]) aNil_ev) (by omega) (by omega)
    rw [Int.toNat_natCast] at this
    exact this
  · have hk' := List.mem_range.mp hk
    obtain ⟨kv, hkv⟩ : ∃ z : Int, z = 0 + (k : Nat) := ⟨_, rfl⟩
    rw [← hkv]
    refine (eCall_ev (aCons_ev rfl (aCons_ev rfl (aCons_ev rfl aNil_ev))) (by rw [hY]; exact (inner_ev ys kv 1 ⟨by omega, by omega, by omega⟩).1)).trans ?_
    unfold inn
    rw [show (kv + 1).toNat = k + 1 from by omega, show kv.toNat = k from by omega]
  · unfold hts
    rw [← hn]
    show some (PyData.tuple _) = some (PyData.tuple _)
    rw [List.map_map]
    rfl

/-! ### the first of the least keys -/
theorem minKD_ev {α : Type} {u k : α → PyData} {L : List α} {gk : List PyData → Option PyData} {f fy : En → Option PyData} {env : En} (h1 : f env = some (.list (L.map u))) (h2 : ∀ p ∈ L, gk [u p] = some (k p)) (h3 : fy env = some .none) (k1 : ∀ x ∈ L, noD (k x) = true ∧ (k x).depth ≤ 60 ∧ k x ≠ .none) (k2 : ∀ x ∈ L, ∀ y ∈ L, PySem.W.alike (k x) (k y) = true) :
    (L = [] ∧ eMinKD gk f fy env = some .none) ∨ ∃ m ∈ L, eMinKD gk f fy env = some (u m) ∧ ∀ p ∈ L, PySem.W.dataLt (k p) (k m) = false := by
  have hk := keysD_map (gk := gk) (u := u) (k := k) (xs := L) h2
  have hb := keysB_map (u := u) (k := k) (xs := L) k1 k2
  cases L with
  | nil =>
    left
    refine ⟨rfl, ?_⟩
    unfold eMinKD
    rw [h1]
    exact h3
  | cons a L =>
    right
    obtain ⟨qs, hqs⟩ : ∃ qs, qs = (a :: L).map fun x => (u x, k x) := ⟨_, rfl⟩
    rw [← hqs] at hk hb
    have hl : qs.length = L.length + 1 := by rw [hqs]; simp
    have hm := bestK_mem (qs := qs) (j := qs.length - 1) (by omega)
    have hmin := bestK_min (qs := qs) (j := qs.length - 1) (by omega)
    obtain ⟨m, hm1, hm2⟩ := List.mem_map.mp (hqs ▸ hm)
    refine ⟨m, hm1, ?_, fun p hp => ?_⟩
    · unfold eMinKD
      rw [h1]
      simp only [hk, hb, if_true]
      rw [if_neg (by omega), h3]
      show some (bestK qs (qs.length - 1)).1 = _
      rw [← hqs] at hm2
      rw [← hm2]
    · have hq : (u p, k p) ∈ qs := by rw [hqs]; exact List.mem_map.mpr ⟨p, hp, rfl⟩
      obtain ⟨i, hi, e⟩ := List.getElem_of_mem hq
      have := hmin i hi (by omega)
      rw [e] at this
      rw [← hqs] at hm2
      rw [← hm2] at this
      exact this
def kfH (t : LTab) (p : LP) : Int × Int × List Int := (p.2.getD t.rows.length 0 + 1, p.1.getD t.cols.length 0 + 1, hts p.2)
def kfW (t : LTab) (p : LP) : Int × Int × List Int := (p.1.getD t.cols.length 0 + 1, p.2.getD t.rows.length 0 + 1, hts p.2)
theorem ltt_len {t : LTab} {gs : List Int} {p : LP} (h : Ltt t gs p) : p.1.length = t.cols.length + 1 ∧ p.2.length = t.rows.length + 1 := by
  obtain ⟨hs, h1, h2, h3⟩ := h
  exact ⟨h3.1, by rw [h2, (laF_spec hs).1, h1.1]⟩
theorem keyD_ok (t : Bool) (a : Int × Int × List Int) : noD (keyD t a) = true ∧ (keyD t a).depth ≤ 60 ∧ keyD t a ≠ .none := ⟨key_noD t a, key_depth t a, by unfold keyD; intro h; cases h⟩
/-! ### all layouts of the law -/
open Classical in
theorem lay_in (t : LTab) (ht : TabOk t) (M : Int) (a1 a2 Y4 : Sl) (x : List Int) (hx : Ris M t.cols.length x) : ∀ (Ys : List (List Int)) (acc : List LP) (y6 : Sl), (∀ y ∈ Ys, y.length = t.rows.length + 1) → acc.length + Ys.length ≤ 1000000 →
    ∃ z6, loopF (gVal 6) b_Llayouts_1 (Ys.map tiD) [.val (tabD t), a1, a2, .own (acc.map pD), Y4, .val (tiD x), y6] = .nx [.val (tabD t), a1, a2, .own ((acc ++ (Ys.filter fun y => decide (CellsR t x y)).map fun y => (x, y)).map pD), Y4, .val (tiD x), z6]
  | [], acc, y6, _, _ => ⟨y6, by simp [loopF]⟩
  | y :: Ys, acc, y6, hy, hl => by
    rw [List.length_cons] at hl
    obtain ⟨b, k1, k2⟩ := cellsR_ev t ht x y hx.len (hy y List.mem_cons_self) (fun c hcm => by
      have := gp_pos (at0 x) t.rows.length t.cols.length (ris_gap hx) c (ht.cl c hcm)
      show 0 ≤ gp (at0 x) c
      omega)
    have hb : decide (CellsR t x y) = b := by
      cases b with
      | true => exact decide_eq_true (k2.mp rfl)
      | false => exact decide_eq_false fun z => absurd (k2.mpr z) (by decide)
    have htst : tTr (eCall g_Lcells_right (aCons (eVar 0) (aCons (eVar 5) (aCons (eVar 6) aNil)))) [.val (tabD t), a1, a2, .own (acc.map pD), Y4, .val (tiD x), .val (tiD y)] = some b := tTr_ev (eCall_ev (aCons_ev rfl (aCons_ev rfl (aCons_ev rfl aNil_ev))) k1) rfl
    cases b with
    | true =>
      obtain ⟨z6, ih⟩ := lay_in t ht M a1 a2 Y4 x hx Ys (acc ++ [(x, y)]) (.val (tiD y)) (fun z hz => hy z (List.mem_cons_of_mem _ hz)) (by rw [List.length_append, List.length_singleton]; omega)
      refine ⟨z6, ?_⟩
      rw [List.map_cons, List.filter_cons, if_pos hb, List.map_cons, show acc ++ (x, y) :: (Ys.filter fun y => decide (CellsR t x y)).map (fun y => (x, y)) = (acc ++ [(x, y)]) ++ (Ys.filter fun y => decide (CellsR t x y)).map (fun y => (x, y)) from by rw [List.append_assoc]; rfl, ← ih]
      refine loop_cons rfl ?_
      unfold b_Llayouts_1
      refine (sIf_t htst).trans ?_
      rw [List.map_append]
      exact sApp_ev (i := 3) (d := pD (x, y)) (eTup_ev (aCons_ev rfl (aCons_ev rfl aNil_ev)) (by simp)) rfl (by rw [List.length_map]; omega)
    | false =>
      obtain ⟨z6, ih⟩ := lay_in t ht M a1 a2 Y4 x hx Ys acc (.val (tiD y)) (fun z hz => hy z (List.mem_cons_of_mem _ hz)) (by omega)
      refine ⟨z6, ?_⟩
      rw [List.map_cons, List.filter_cons, if_neg (by rw [hb]; decide), ← ih]
      refine loop_cons rfl ?_
      unfold b_Llayouts_1
      exact (sIf_f htst).trans rfl
open Classical in
theorem lay_out (t : LTab) (ht : TabOk t) (M : Int) (a1 a2 : Sl) (Ys : List (List Int)) (hy : ∀ y ∈ Ys, y.length = t.rows.length + 1) : ∀ (Xs : List (List Int)) (acc : List LP) (y5 y6 : Sl), (∀ x ∈ Xs, Ris M t.cols.length x) → acc.length + Ys.length * Xs.length ≤ 1000000 →
    ∃ (N : List LP) (z5 z6 : Sl), loopF (gVal 5) b_Llayouts_2 (Xs.map tiD) [.val (tabD t), a1, a2, .own (acc.map pD), .val (.list (Ys.map tiD)), y5, y6] = .nx [.val (tabD t), a1, a2, .own ((acc ++ N).map pD), .val (.list (Ys.map tiD)), z5, z6] ∧ N.length ≤ Ys.length * Xs.length ∧ ∀ p, p ∈ N ↔ p.1 ∈ Xs ∧ ColsR t p.1 ∧ p.2 ∈ Ys ∧ CellsR t p.1 p.2
  | [], acc, y5, y6, _, _ => ⟨[], y5, y6, by rw [List.append_nil]; rfl, by simp, fun p => ⟨fun h => (by cases h), fun h => (by cases h.1)⟩⟩
  | x :: Xs, acc, y5, y6, hx, hl => by
    rw [List.length_cons, Nat.mul_succ] at hl
    have hx0 := hx x List.mem_cons_self
    obtain ⟨b, k1, k2⟩ := colsR_ev t ht x hx0.len
    have htst : tTr (eCall g_Lcolumns_right (aCons (eVar 0) (aCons (eVar 5) aNil))) [.val (tabD t), a1, a2, .own (acc.map pD), .val (.list (Ys.map tiD)), .val (tiD x), y6] = some b := tTr_ev (eCall_ev (aCons_ev rfl (aCons_ev rfl aNil_ev)) k1) rfl
    cases b with
    | true =>
      obtain ⟨w6, hin⟩ := lay_in t ht M a1 a2 (.val (.list (Ys.map tiD))) x hx0 Ys acc y6 hy (by omega)
      have hfl : ((Ys.filter fun y => decide (CellsR t x y)).map fun y => (x, y)).length ≤ Ys.length := by rw [List.length_map]; exact List.length_filter_le _ _
      obtain ⟨N, z5, z6, n1, n2, n3⟩ := lay_out t ht M a1 a2 Ys hy Xs (acc ++ (Ys.filter fun y => decide (CellsR t x y)).map fun y => (x, y)) (.val (tiD x)) w6 (fun z hz => hx z (List.mem_cons_of_mem _ hz)) (by rw [List.length_append]; omega)
      refine ⟨((Ys.filter fun y => decide (CellsR t x y)).map fun y => (x, y)) ++ N, z5, z6, ?_, by rw [List.length_append, List.length_cons, Nat.mul_succ]; omega, fun p => ?_⟩
      · rw [List.map_cons, ← List.append_assoc, ← n1]
        refine loop_cons rfl ?_
        unfold b_Llayouts_2
        exact (sIf_t htst).trans (sFor_ev (ds := Ys.map tiD) rfl hin)
      · rw [List.mem_append, n3 p, List.mem_map]
        constructor
        · rintro (⟨y, hy1, rfl⟩ | ⟨h1, h2⟩)
          · obtain ⟨q1, q2⟩ := List.mem_filter.mp hy1
            exact ⟨List.mem_cons_self, k2.mp rfl, q1, of_decide_eq_true q2⟩
          · exact ⟨List.mem_cons_of_mem _ h1, h2⟩
        · rintro ⟨h1, h2, h3, h4⟩
          rcases List.mem_cons.mp h1 with e | h1
          · obtain ⟨px, py⟩ := p
            have e : px = x := e
            subst e
            exact .inl ⟨py, List.mem_filter.mpr ⟨h3, decide_eq_true h4⟩, rfl⟩
          · exact .inr ⟨h1, h2, h3, h4⟩
    | false =>
      obtain ⟨N, z5, z6, n1, n2, n3⟩ := lay_out t ht M a1 a2 Ys hy Xs acc (.val (tiD x)) y6 (fun z hz => hx z (List.mem_cons_of_mem _ hz)) (by omega)
      refine ⟨N, z5, z6, ?_, by rw [List.length_cons, Nat.mul_succ]; omega, fun p => ?_⟩
      · rw [List.map_cons, ← n1]
        refine loop_cons rfl ?_
        unfold b_Llayouts_2
        exact (sIf_f htst).trans rfl
      · rw [n3 p]
        constructor
        · rintro ⟨h1, h2⟩
          exact ⟨List.mem_cons_of_mem _ h1, h2⟩
        · rintro ⟨h1, h2, h3⟩
          rcases List.mem_cons.mp h1 with e | h1
          · rw [e] at h2
            exact absurd (k2.mpr h2) (by decide)
          · exact ⟨h1, h2, h3⟩
theorem len_tab (t : LTab) (T : PyData) (hT : T = tabD t) (r : List Sl) : eCall lenA (aCons (e2 ixG (eVar 0) (eC (.int 0))) aNil) (.val T :: r) = some (.int (t.cols.length : Nat)) ∧ eCall lenA (aCons (e2 ixG (eVar 0) (eC (.int 1))) aNil) (.val T :: r) = some (.int (t.rows.length : Nat)) := by
  subst hT
  constructor
  · refine (eCall_ev (aCons_ev (tab_cols t _) aNil_ev) rfl).trans ?_
    show some (PyData.int (List.length _ : Nat)) = _
    rw [List.length_map]
  · refine (eCall_ev (aCons_ev (tab_rows t _) aNil_ev) rfl).trans ?_
    show some (PyData.int (List.length _ : Nat)) = _
    rw [List.length_map]
open Classical in
theorem layouts_ev (t : LTab) (ht : TabOk t) (M N : Int) (m n : Nat) (hM : 0 ≤ M ∧ M + 1 ≤ m ∧ m ≤ 31) (hN : 0 ≤ N ∧ N + 1 ≤ n ∧ n ≤ 31) (hmn : n ^ t.rows.length * m ^ t.cols.length ≤ 1000000) (hn1 : n ^ t.rows.length ≤ 1000000) : ∃ Ls : List LP, g_Llayouts [tabD t, .int M, .int N] = some (.list (Ls.map pD)) ∧ Ls.length ≤ 1000000 ∧ ∀ p, p ∈ Ls ↔ (Ris M t.cols.length p.1 ∧ ColsR t p.1 ∧ CellsR t p.1 p.2) ∧ Ris N t.rows.length p.2 ∧ RowsR t p.2 := by
  have hn := ht.nr
  have hc := ht.nc
  obtain ⟨Xs, x1, x2, x3⟩ := ris_ev M m hM t.cols.length hc.2
  obtain ⟨Ys, y1, y2, y3⟩ := ris_ev N n hN t.rows.length hn.2
  obtain ⟨Zs, hZ⟩ : ∃ Zs, Zs = Ys.filter fun y => decide (RowsR t y) := ⟨_, rfl⟩
  have zl : Zs.length ≤ n ^ t.rows.length := by rw [hZ]; exact Nat.le_trans (List.length_filter_le _ _) y2
  have zm : ∀ y, y ∈ Zs ↔ Ris N t.rows.length y ∧ RowsR t y := fun y => by rw [hZ, List.mem_filter, y3, decide_eq_true_eq]
  have hmul : Zs.length * Xs.length ≤ 1000000 := Nat.le_trans (Nat.mul_le_mul zl x2) hmn
  obtain ⟨Ls, z5, z6, l1, l2, l3⟩ := lay_out t ht M (.val (.int M)) (.val (.int N)) Zs (fun y hy => ((zm y).mp hy).1.len) Xs [] .un .un (fun x hx => (x3 x).mp hx) (by rw [List.length_nil]; omega)
  refine ⟨Ls, ?_, by omega, fun p => ?_⟩
  · obtain ⟨T, hT⟩ : ∃ T, T = tabD t := ⟨_, rfl⟩
    rw [← hT] at l1 ⊢
    refine gDef_ev' (fB := f_Llayouts) [.val T, .val (.int M), .val (.int N), .un, .un, .un, .un] rfl rfl ?_
    unfold f_Llayouts
    refine (sSeq_nx (e := [.val T, .val (.int M), .val (.int N), .own [], .un, .un, .un]) (by rfl)).trans ?_
    refine (sSeq_nx (e := [.val T, .val (.int M), .val (.int N), .own [], .val (.list (Zs.map tiD)), .un, .un]) (sSet_ev (eL_ev (fCmp_ev (ds := Ys.map tiD) (vs := Zs.map tiD) (iSeq_l (eCall_ev (aCons_ev (len_tab t T hT _).2 (aCons_ev rfl aNil_ev)) y1)) ?_ (by rw [List.length_map]; omega))))).trans ?_
    · rw [hZ]
      refine compF_filterS fun y hy => ⟨_, rfl, ?_, fun _ => rfl⟩
      obtain ⟨b, k1, k2⟩ := rowsR_ev t ht y ((y3 y).mp hy).len
      have hb : decide (RowsR t y) = b := by
        cases b with
        | true => exact decide_eq_true (k2.mp rfl)
        | false => exact decide_eq_false fun z => absurd (k2.mpr z) (by decide)
      rw [hb]
      exact tTr_ev (eCall_ev (aCons_ev rfl (aCons_ev rfl aNil_ev)) (by rw [hT]; exact k1)) rfl
    · exact (sSeq_nx (sFor_ev (ds := Xs.map tiD) (iSeq_l (eCall_ev (aCons_ev (len_tab t T hT _).1 (aCons_ev rfl aNil_ev)) x1)) l1)).trans rfl
  · rw [l3 p, x3, zm]
    constructor
    · rintro ⟨a, b, ⟨c, d⟩, e⟩; exact ⟨⟨a, b, e⟩, c, d⟩
    · rintro ⟨⟨a, b, e⟩, c, d⟩; exact ⟨a, b, ⟨c, d⟩, e⟩
/-- the law's layouts, told by heights -/
theorem lay_mem (t : LTab) (ht : TabOk t) (M N : Int) (p : LP) : ((Ris M t.cols.length p.1 ∧ ColsR t p.1 ∧ CellsR t p.1 p.2) ∧ Ris N t.rows.length p.2 ∧ RowsR t p.2) ↔ ∃ hs, hs.length = t.rows.length ∧ (∀ j, j < hs.length → (t.rows.getD j (0, false, false)).1 ≤ hs.getD j 0) ∧ p.2 = laF hs ∧ lastH hs ≤ N ∧ p.1.length = t.cols.length + 1 ∧ Lay t (laF hs) (at0 p.1) ∧ at0 p.1 t.cols.length ≤ M := by
  have hn := ht.nr
  rw [lay_iff M t ht]
  constructor
  · rintro ⟨⟨h1, h2, h3⟩, h4, h5⟩
    have e : p.2 = laF (hts p.2) := (la_hts p.2 h4.z (by rw [h4.len]; omega)).symm
    have hl : (hts p.2).length = t.rows.length := by rw [hts_len, h4.len]; rfl
    refine ⟨hts p.2, hl, fun j hj => ?_, e, ?_, h1, by rw [← e]; exact h2, h3⟩
    · have := h5 j _ (gD_of (l := t.rows) (d := (0, false, false)) (by omega))
      rw [hts_get _ j (by rw [h4.len]; omega)]
      unfold inn at this
      rw [show ((j : Nat) + (1 : Int)).toNat = j + 1 from by omega, Int.toNat_natCast] at this
      exact this
    · unfold lastH
      rw [← e, hl]
      have := h4.mx (t.rows.length - 1) (by omega)
      rw [show t.rows.length - 1 + 1 = t.rows.length from by omega] at this
      exact this
  · rintro ⟨hs, h1, h2, h3, h4, h5, h6, h7⟩
    have one : ∀ j, j < hs.length → 1 ≤ hs.getD j 0 := fun j hj => by
      have a := h2 j hj
      have b := (ht.row _ (List.mem_of_getElem? (gD_of (l := t.rows) (j := j) (d := (0, false, false)) (by omega)))).1
      omega
    have up : ∀ j, j < hs.length → (laF hs).getD j 0 + 2 ≤ (laF hs).getD (j + 1) 0 := fun j hj => by
      have := la_get hs j hj
      have := one j hj
      omega
    have mono : ∀ d j : Nat, j + d ≤ hs.length → (laF hs).getD j 0 ≤ (laF hs).getD (j + d) 0 := by
      intro d
      induction d with
      | zero => intro j _; exact Int.le_refl _
      | succ d ih =>
        intro j hj
        have a := ih j (by omega)
        have b := up (j + d) (by omega)
        rw [show j + (d + 1) = j + d + 1 from rfl]
        omega
    rw [h3]
    refine ⟨⟨h5, h6, h7⟩, ⟨by rw [(laF_spec hs).1, h1], (laF_spec hs).2.1, fun j hj => up j (by omega), fun j hj => ?_⟩, fun j x hx => ?_⟩
    · have := mono (hs.length - (j + 1)) (j + 1) (by omega)
      rw [show j + 1 + (hs.length - (j + 1)) = hs.length from by omega] at this
      unfold lastH at h4
      omega
    · have hj := (List.getElem?_eq_some_iff.mp hx).1
      have := h2 j (by omega)
      rw [la_inn hs j _ (gD_of (d := 0) (by omega))]
      rw [gD_of (l := t.rows) (d := (0, false, false)) hj] at hx
      rw [← Option.some.inj hx]
      exact this

/-! ### tuples in order -/
theorem lx_lt {x y : PyData} {xs ys : List PyData} (al : PySem.W.alike x y = true) (h : PySem.W.dataLt x y = true) : PyProof.Rows.lexLt itemOrd (PySem.W.keyToksAll (x :: xs)) (PySem.W.keyToksAll (y :: ys)) = true := by
  cases e : PyData.eqv x y with
  | true =>
    exfalso
    unfold PySem.W.dataLt at h
    rw [(PySem.W.toks_eqv x y al).1 e, lex_irrefl] at h
    cases h
  | false => rw [PySem.W.dataLt_all_no al e]; exact h
theorem lx_int {a b : Int} {xs ys : List PyData} (h : a < b) : PyProof.Rows.lexLt itemOrd (PySem.W.keyToksAll (.int a :: xs)) (PySem.W.keyToksAll (.int b :: ys)) = true := lx_lt (int_alike _ _) (by rw [PySem.W.dataLt_int]; exact decide_eq_true h)
theorem lx_int_eq {a : Int} {xs ys : List PyData} : PyProof.Rows.lexLt itemOrd (PySem.W.keyToksAll (.int a :: xs)) (PySem.W.keyToksAll (.int a :: ys)) = PyProof.Rows.lexLt itemOrd (PySem.W.keyToksAll xs) (PySem.W.keyToksAll ys) := PySem.W.dataLt_all_yes (int_alike _ _) (by rw [int_eqv, decide_eq_true rfl])
theorem ti_alike (x y : List Int) : PySem.W.alike (tiD x) (tiD y) = true := by simp [tiD, PySem.W.alike, alike_ints2]
theorem ti_eqv (x y : List Int) : PyData.eqv (tiD x) (tiD y) = decide (x = y) := eqv_ints x y
theorem lx_ti {a b : List Int} {xs ys : List PyData} (h : llt a b) : PyProof.Rows.lexLt itemOrd (PySem.W.keyToksAll (tiD a :: xs)) (PySem.W.keyToksAll (tiD b :: ys)) = true := lx_lt (ti_alike _ _) ((PySem.W.dataLt_tuple _ _).trans ((all_ints_lt a b).trans ((listLt_llt a b).mpr h)))
theorem lx_ti_eq {a : List Int} {xs ys : List PyData} : PyProof.Rows.lexLt itemOrd (PySem.W.keyToksAll (tiD a :: xs)) (PySem.W.keyToksAll (tiD a :: ys)) = PyProof.Rows.lexLt itemOrd (PySem.W.keyToksAll xs) (PySem.W.keyToksAll ys) := PySem.W.dataLt_all_yes (ti_alike _ _) (by rw [ti_eqv, decide_eq_true rfl])
/-- first the key, then the column lines -/
def tlt (a : Int × Int × List Int) (x : List Int) (b : Int × Int × List Int) (y : List Int) : Prop := klt a b ∨ (a = b ∧ llt x y)
theorem lx_tlt {a b : Int × Int × List Int} {x y : List Int} {r s : List PyData} (h : tlt a x b y) : PyProof.Rows.lexLt itemOrd (PySem.W.keyToksAll (.int a.1 :: .int a.2.1 :: tiD a.2.2 :: tiD x :: r)) (PySem.W.keyToksAll (.int b.1 :: .int b.2.1 :: tiD b.2.2 :: tiD y :: s)) = true := by
  rcases h with (h | ⟨e1, h | ⟨e2, h⟩⟩) | ⟨rfl, h⟩
  · exact lx_int h
  · rw [e1, lx_int_eq]; exact lx_int h
  · rw [e1, lx_int_eq, e2, lx_int_eq]; exact lx_ti h
  · rw [lx_int_eq, lx_int_eq, lx_ti_eq]; exact lx_ti h
theorem pd_alike (p q : LP) : PySem.W.alike (pD p) (pD q) = true := by simp [pD, PySem.W.alike, PySem.W.alikeAll, alike_ints2]
theorem ti_depth (x : List Int) : (tiD x).depth ≤ 1 := by simp [tiD, PyData.depth, depth_ints]
/-- pointwise less: less, or the same -/
theorem llt_of : ∀ {x y : List Int}, x.length = y.length → (∀ v, v < x.length → at0 x v ≤ at0 y v) → x = y ∨ llt x y
  | [], [], _, _ => .inl rfl
  | [], _ :: _, h, _ => by simp at h
  | _ :: _, [], h, _ => by simp at h
  | a :: x, b :: y, h, hv => by
    have h0 : a ≤ b := hv 0 (by simp)
    rcases llt_of (x := x) (y := y) (by simpa using h) (fun v hl => hv (v + 1) (by simpa using hl)) with e | e
    · by_cases q : a = b
      · rw [e, q]; exact .inl rfl
      · exact .inr (.inl (by omega))
    · by_cases q : a = b
      · exact .inr (.inr ⟨q, e⟩)
      · exact .inr (.inl (by omega))
/-! ### the program's layouts and the law's -/
/-- heights that a layout of the law may have, with its column lines -/
def Qlt (t : LTab) (p : LP) : Prop := ∃ hs, hs.length = t.rows.length ∧ (∀ j, j < hs.length → (t.rows.getD j (0, false, false)).1 ≤ hs.getD j 0) ∧ p.2 = laF hs ∧ p.1.length = t.cols.length + 1 ∧ Lay t (laF hs) (at0 p.1)
theorem ltt_q {t : LTab} {gs : List Int} {p : LP} (h : Ltt t gs p) : Qlt t p := by
  obtain ⟨hs, h1, h2, h3⟩ := h
  exact ⟨hs, h1.1, fun j hj => (h1.2 j hj).1, h2, h3.1, h3.2.1⟩
/-- each layout has one of the program's that is no worse -/
theorem better (t : LTab) (ht : TabOk t) (gs : List Int) (Ps : List LP) (hgl : gs.length = t.rows.length) (hg : ∀ (j : Nat) (row : LRow) (g : Int), t.rows[j]? = some row → gs[j]? = some g → GH t j row g) (hP : ∀ p ∈ Ps, Ltt t gs p) (hA : ∀ hs, Try t gs hs → (∃ X, Lay t (laF hs) X ∧ X t.cols.length ≤ 2000) → ∃ xs, (xs, laF hs) ∈ Ps)
    (q : LP) (hq : Qlt t q) (hb : at0 q.1 t.cols.length ≤ 2000) : ∃ p ∈ Ps, (∀ v, v < t.cols.length + 1 → at0 p.1 v ≤ at0 q.1 v) ∧ (∀ j, j ≤ t.rows.length → p.2.getD j 0 ≤ q.2.getD j 0) ∧ (∀ j, j < t.rows.length → (hts p.2).getD j 0 ≤ (hts q.2).getD j 0) ∧ (p.2.getD t.rows.length 0 < q.2.getD t.rows.length 0 ∨ p.2 = q.2) := by
  obtain ⟨hs, h1, h2, h3, h4, h5⟩ := hq
  have one : ∀ j, j < hs.length → 1 ≤ hs.getD j 0 := fun j hj => by
    have a := h2 j hj
    have b := (ht.row _ (List.mem_of_getElem? (gD_of (l := t.rows) (j := j) (d := (0, false, false)) (by omega)))).1
    omega
  have hc := clip_lay t ht gs hg hgl hs h1 one _ h5
  have hle : ∀ j, j < hs.length → (clip hs gs).getD j 0 ≤ hs.getD j 0 := fun j hj => by
    rw [clip_get _ _ _ hj]
    split <;> omega
  have htry : Try t gs (clip hs gs) := by
    refine ⟨by rw [clip_len, h1], fun j hj => ?_⟩
    rw [clip_len] at hj
    rw [clip_get _ _ _ hj]
    have a := h2 j hj
    have b := (hg j _ _ (gD_of (l := t.rows) (d := (0, false, false)) (by omega)) (gD_of (l := gs) (d := 0) (by omega))).1
    split
    · exact ⟨a, by omega⟩
    · exact ⟨b, Int.le_refl _⟩
  obtain ⟨xs, hxs⟩ := hA _ htry ⟨_, hc, hb⟩
  obtain ⟨hs', q1, q2, q3⟩ := hP _ hxs
  have e : hs' = clip hs gs := by rw [← hts_la hs', ← hts_la (clip hs gs)]; rw [show laF hs' = laF (clip hs gs) from q2.symm]
  subst e
  have hll := la_le (clip hs gs) hs (clip_len _ _) (fun j hj => hle j (by rw [clip_len] at hj; exact hj))
  refine ⟨_, hxs, fun v hv => q3.2.2 _ hc v hv, fun j hj => ?_, fun j hj => ?_, ?_⟩
  · rw [h3]
    exact (hll j (by rw [clip_len]; omega)).1
  · rw [h3]
    show (hts (laF (clip hs gs))).getD j 0 ≤ _
    rw [hts_la, hts_la]
    exact hle j (by omega)
  · rw [h3]
    show (laF (clip hs gs)).getD t.rows.length 0 < _ ∨ laF (clip hs gs) = _
    by_cases z : clip hs gs = hs
    · exact .inr (by rw [z])
    · left
      have := (hll t.rows.length (by rw [clip_len]; omega)).2
      refine this ?_
      rw [← h1]
      rw [show (clip hs gs).take hs.length = clip hs gs from by rw [← clip_len hs gs, List.take_length], List.take_length]
      exact z
theorem q_len {t : LTab} {p : LP} (h : Qlt t p) : p.1.length = t.cols.length + 1 ∧ p.2.length = t.rows.length + 1 := by
  obtain ⟨hs, h1, h2, h3, h4, _⟩ := h
  exact ⟨h4, by rw [h3, (laF_spec hs).1, h1]⟩
theorem hts_inj {t : LTab} {p q : LP} (hp : Qlt t p) (hq : Qlt t q) (h : hts p.2 = hts q.2) : p.2 = q.2 := by
  obtain ⟨hs, _, _, h3, _⟩ := hp
  obtain ⟨hs', _, _, h3', _⟩ := hq
  rw [h3, h3', hts_la, hts_la] at h
  rw [h3, h3', h]
theorem ltt_same {t : LTab} {gs : List Int} {p q : LP} (hp : Ltt t gs p) (hq : Ltt t gs q) (h : p.2 = q.2) : p = q := by
  obtain ⟨hs, _, h2, h3⟩ := hp
  obtain ⟨hs', _, h2', h3'⟩ := hq
  have e : hs = hs' := by rw [← hts_la hs, ← hts_la hs', ← h2, ← h2', h]
  subst e
  obtain ⟨px, py⟩ := p
  obtain ⟨qx, qy⟩ := q
  have h : py = qy := h
  subst h
  rw [show px = qx from lst_uniq h3 h3']
/-- the program's best is the law's, for a key that the lines' order keeps -/
theorem best_tlt (t : LTab) (ht : TabOk t) (gs : List Int) (Ps : List LP) (hgl : gs.length = t.rows.length) (hg : ∀ (j : Nat) (row : LRow) (g : Int), t.rows[j]? = some row → gs[j]? = some g → GH t j row g) (hP : ∀ p ∈ Ps, Ltt t gs p) (hA : ∀ hs, Try t gs hs → (∃ X, Lay t (laF hs) X ∧ X t.cols.length ≤ 2000) → ∃ xs, (xs, laF hs) ∈ Ps)
    (kf : LP → Int × Int × List Int) (hk : ∀ p q : LP, (hts p.2).length = (hts q.2).length → (∀ v, v < t.cols.length + 1 → at0 p.1 v ≤ at0 q.1 v) → (p.2.getD t.rows.length 0 < q.2.getD t.rows.length 0 ∨ p.2 = q.2) → ¬ klt (kf q) (kf p)) (hk2 : ∀ p q : LP, kf p = kf q → hts p.2 = hts q.2) (hk3 : ∀ p q : LP, kf p = kf q → p.2.getD t.rows.length 0 = q.2.getD t.rows.length 0)
    (ok : LP → Prop) (hok : ∀ p ∈ Ps, ∀ q, Qlt t q → ok q → (∀ v, v < t.cols.length + 1 → at0 p.1 v ≤ at0 q.1 v) → (∀ j, j < t.rows.length → (hts p.2).getD j 0 ≤ (hts q.2).getD j 0) → (∀ j, j ≤ t.rows.length → p.2.getD j 0 ≤ q.2.getD j 0) → ok p) (m : LP) (hm : m ∈ Ps) (hbest : ∀ p ∈ Ps, ok p → ¬ klt (kf p) (kf m)) (q : LP) (hq : Qlt t q) (hb : at0 q.1 t.cols.length ≤ 2000) (okq : ok q) : q = m ∨ tlt (kf m) m.1 (kf q) q.1 := by
  obtain ⟨p, p1, p2, p3, p5, p4⟩ := better t ht gs Ps hgl hg hP hA q hq hb
  have okp := hok p p1 q hq okq p2 p5 p3
  have lp := ltt_len (hP p p1)
  have lq := q_len hq
  have k1 := hbest p p1 okp
  have k2 := hk p q (by rw [hts_len, hts_len, lp.2, lq.2]) p2 p4
  have k3 := kle_trans k1 k2
  rcases klt_tri (kf m) (kf q) with z | z | z
  · exact .inr (.inl z)
  · -- the same key
    have e2 := hts_inj (ltt_q (hP m hm)) hq (hk2 _ _ z)
    have e3 := hk3 _ _ z
    have e4 : p.2 = q.2 := by
      rcases p4 with y | y
      · exfalso
        have hpm : ¬ klt (kf m) (kf p) := fun c => k2 (z ▸ c)
        rcases klt_tri (kf m) (kf p) with c | c | c
        · exact hpm c
        · have := hk3 _ _ c
          omega
        · exact k1 c
      · exact y
    have e5 : p = m := ltt_same (hP p p1) (hP m hm) (by rw [e4, e2])
    subst e5
    rcases llt_of (x := p.1) (y := q.1) (by rw [lp.1, lq.1]) (fun v hv => p2 v (by rw [lp.1] at hv; exact hv)) with e | e
    · left
      obtain ⟨px, py⟩ := p
      obtain ⟨qx, qy⟩ := q
      have e : px = qx := e
      have e4 : py = qy := e4
      rw [e, e4]
    · exact .inr (.inr ⟨z, e⟩)
  · exact absurd z k3

/-! boundbook.tables, boundbook.pages: head_count, breakable_rows, paginate -/
def LTab.heads (t : LTab) : Nat := (t.rows.filter fun x => x.2.1).length
theorem TabOk.nh {t : LTab} (ht : TabOk t) : t.heads ≤ t.rows.length ∧ t.heads ≤ 3 := by
  have h : t.heads ≤ t.rows.length := List.length_filter_le _ _
  have := ht.nr
  omega
theorem heads_ev (t : LTab) (ht : TabOk t) : g_head_count [tabD t] = some (.int (t.heads : Nat)) := by
  have hc : compF (gVal 1) t_head_count_1 c_head_count_1 [.val (tabD t), .un] (t.rows.map rowD) = some ((t.rows.filter fun x => x.2.1).map rowD) := compF_filterS fun x hx => ⟨[.val (tabD t), .val (rowD x)], rfl, rfl, fun _ => rfl⟩
  have hn := ht.nh
  have hr := ht.nr
  refine gDef_ev' (fB := f_head_count) [.val (tabD t), .un] rfl rfl ?_
  unfold f_head_count
  refine sRet_ev (eCall_ev (aCons_ev (eL_ev (fCmp_ev (ds := t.rows.map rowD) (by rfl) hc (by rw [List.length_map]; show t.heads ≤ _; omega))) aNil_ev) ?_)
  show some (PyData.int (List.length _ : Nat)) = _
  rw [List.length_map]
  rfl
abbrev ndD (n : Nat) : PyData := .int (n : Nat)
def covB (x : LCell) (k : Int) : Bool := decide (x.r < k) && decide (k < x.r + x.h)
def keepsB (t : LTab) (b : Nat) : Bool := match t.rows[b - 1]? with
  | some x => x.2.2
  | none => false
def mayB (t : LTab) (b : Nat) : Bool := !keepsB t b && !t.cells.any fun x => covB x b
theorem chI_cov (x : LCell) (k : Int) {f g h : En → Option PyData} {env : En} (h1 : f env = some (.int x.r)) (h2 : g env = some (.int k)) (h3 : h env = some (.int (x.r + x.h))) : chI (fun i j => decide (i < j)) (fun i j => decide (i < j)) f g h env = some (.bool (covB x k)) := by
  unfold chI covB
  rw [h1, h2]
  by_cases q : x.r < k
  · simp only [decide_eq_true q, if_true, h3, Bool.true_and]
  · simp only [decide_eq_false q, Bool.false_eq_true, if_false, Bool.false_and]
theorem covers_ev (x : LCell) (k : Int) : g_covers_both [cellD x, .int k] = some (.bool (covB x k)) := by
  refine gDef_ev' (fB := f_covers_both) [.val (cellD x), .val (.int k)] rfl rfl ?_
  unfold f_covers_both
  exact sRet_ev (chI_cov x k rfl rfl rfl)
theorem any_ev (t : LTab) (ht : TabOk t) (k : Int) (a0 a1 a3 a5 a6 : Sl) : eCall anyA (aCons (eL (fCmp [6] (iSeq (eVar 2)) (gVal 6) tYes' c_breakable_rows_1)) aNil) [a0, a1, .val (.tuple (t.cells.map cellD)), a3, .val (.int k), a5, a6] = some (.bool (t.cells.any fun x => covB x k)) := by
  have h1 := compF_mapS (g := gVal 6) (fe := c_breakable_rows_1) (env := [a0, a1, .val (.tuple (t.cells.map cellD)), a3, .val (.int k), a5, .un]) (c := cellD) (k := fun x => .bool (covB x k)) (xs := t.cells) fun x hx =>
    ⟨[a0, a1, .val (.tuple (t.cells.map cellD)), a3, .val (.int k), a5, .val (cellD x)], rfl, eCall_ev (aCons_ev rfl (aCons_ev rfl aNil_ev)) (covers_ev x k)⟩
  refine eCall_ev (aCons_ev (eL_ev (fCmp_ev (ds := t.cells.map cellD) (by rfl) h1 (by rw [List.length_map]; have := ht.cn; omega))) aNil_ev) ?_
  show (boolsD (t.cells.map fun x => .bool (covB x k))).map _ = _
  rw [show (t.cells.map fun x => PyData.bool (covB x k)) = (t.cells.map fun x => covB x k).map .bool by rw [List.map_map]; rfl, boolsD_map]
  simp [List.any_map]
theorem breaks_ev (t : LTab) (ht : TabOk t) : ∃ E : List Nat, g_breakable_rows [tabD t] = some (.list (E.map ndD)) ∧ E.Pairwise (· < ·) ∧ (∀ x, x ∈ E ↔ (t.heads < x ∧ x < t.rows.length) ∧ mayB t x = true) ∧ E.length ≤ 10 := by
  have hr := iR2_ev (fa := aCons (e2 addD (eCall g_head_count (aCons (eVar 0) aNil)) (eC (.int 1))) (aCons (eCall lenA (aCons (eVar 1) aNil)) aNil)) (env := [.val (tabD t), .val (.tuple (t.rows.map rowD)), .val (.tuple (t.cells.map cellD)), .own [], .un, .un, .un]) (M := (t.heads : Int) + 1) (N := (t.rows.length : Nat))
    (aCons_ev (e2_ev (eCall_ev (aCons_ev rfl aNil_ev) (heads_ev t ht)) rfl (addD_int _ _)) (aCons_ev (eCall_ev (aCons_ev rfl aNil_ev) (by show some (PyData.int (List.length _ : Nat)) = _; rw [List.length_map])) aNil_ev)) (by have := ht.nr; omega) (by omega) (by have := ht.nh; omega) (by omega)
  have hlp := loop_rng (g := gVal 4) (b := b_breakable_rows_1) (lo := (t.heads : Int) + 1) (n := ((t.rows.length : Int) - ((t.heads : Int) + 1)).toNat) (e := [.val (tabD t), .val (.tuple (t.rows.map rowD)), .val (.tuple (t.cells.map cellD)), .own [], .un, .un, .un])
    (fun j e => ∃ (E : List Nat) (y4 y5 : Sl), E.Pairwise (· < ·) ∧ (∀ x, x ∈ E ↔ (t.heads < x ∧ x < t.heads + 1 + j) ∧ mayB t x = true) ∧ E.length ≤ j ∧ e = [.val (tabD t), .val (.tuple (t.rows.map rowD)), .val (.tuple (t.cells.map cellD)), .own (E.map ndD), y4, y5, .un]) (fun j e hj he => by
      obtain ⟨E, y4, y5, h1, h2, h3, rfl⟩ := he
      obtain ⟨k, hk⟩ : ∃ k : Int, k = (t.heads : Int) + 1 + (j : Nat) := ⟨_, rfl⟩
      have hj2 : t.heads + j < t.rows.length := by omega
      have hj4 := ht.nr
      rw [← hk]
      refine ⟨[.val (tabD t), .val (.tuple (t.rows.map rowD)), .val (.tuple (t.cells.map cellD)), .own (E.map ndD), .val (.int k), y5, .un], rfl, ?_⟩
      obtain ⟨x, hx⟩ : ∃ x, t.rows[t.heads + j]? = some x := ⟨_, List.getElem?_eq_getElem hj2⟩
      have hat : atI (t.rows.map rowD) (k - 1) = some (rowD x) := by
        rw [show k - 1 = ((t.heads + j : Nat) : Int) by omega]
        exact atI_map rowD t.rows _ _ hx
      have e1 : sSet 5 (e2 ixG (e2 ixG (eVar 1) (e2 subD (eVar 4) (eC (.int 1)))) (eC (.int 2))) [.val (tabD t), .val (.tuple (t.rows.map rowD)), .val (.tuple (t.cells.map cellD)), .own (E.map ndD), .val (.int k), y5, .un] = .nx [.val (tabD t), .val (.tuple (t.rows.map rowD)), .val (.tuple (t.cells.map cellD)), .own (E.map ndD), .val (.int k), .val (.bool x.2.2), .un] :=
        sSet_ev (e2_ev (e2_ev rfl (e2_ev rfl rfl (subD_int _ _)) hat) rfl rfl)
      have hb := any_ev t ht k (.val (tabD t)) (.val (.tuple (t.rows.map rowD))) (.own (E.map ndD)) (.val (.bool x.2.2)) .un
      have hkb : k = ((t.heads + 1 + j : Nat) : Int) := by omega
      obtain ⟨c, hcm⟩ : ∃ c, c = mayB t (t.heads + 1 + j) := ⟨_, rfl⟩
      have hc : tAnd' (tNot' (tTr (eVar 5))) (tNot' (t1 (eCall anyA (aCons (eL (fCmp [6] (iSeq (eVar 2)) (gVal 6) tYes' c_breakable_rows_1)) aNil)))) [.val (tabD t), .val (.tuple (t.rows.map rowD)), .val (.tuple (t.cells.map cellD)), .own (E.map ndD), .val (.int k), .val (.bool x.2.2), .un] = some c := by
        have k0 : tNot' (tTr (eVar 5)) [.val (tabD t), .val (.tuple (t.rows.map rowD)), .val (.tuple (t.cells.map cellD)), .own (E.map ndD), .val (.int k), .val (.bool x.2.2), .un] = some (!x.2.2) := not_ev (tTr_ev rfl rfl)
        have k1 : keepsB t (t.heads + 1 + j) = x.2.2 := by
          unfold keepsB
          rw [show t.heads + 1 + j - 1 = t.heads + j by omega, hx]
        rw [hcm]
        unfold mayB
        rw [k1, ← hkb]
        cases hz : x.2.2 with
        | true => rw [hz] at k0; exact and_f k0
        | false => rw [hz] at k0 hb; exact and_t k0 (not_ev (t1_ev hb))
      cases c with
      | true =>
        refine ⟨[.val (tabD t), .val (.tuple (t.rows.map rowD)), .val (.tuple (t.cells.map cellD)), .own ((E ++ [t.heads + 1 + j]).map ndD), .val (.int k), .val (.bool x.2.2), .un], .inl ?_, E ++ [t.heads + 1 + j], _, _, ?_, ?_, by simp; omega, rfl⟩
        · unfold b_breakable_rows_1
          refine (sSeq_nx e1).trans ((sIf_t hc).trans ?_)
          rw [List.map_append]
          refine sApp_ev (i := 3) ?_ rfl (by rw [List.length_map]; omega)
          show some (PyData.int k) = some (ndD (t.heads + 1 + j))
          rw [show k = ((t.heads + 1 + j : Nat) : Int) by omega]
        · rw [List.pairwise_append]
          refine ⟨h1, List.pairwise_singleton _ _, fun a ha b hb => ?_⟩
          rw [List.mem_singleton.mp hb]
          exact ((h2 a).mp ha).1.2
        · intro a
          rw [List.mem_append, h2 a, List.mem_singleton]
          constructor
          · rintro (⟨p1, p2⟩ | p)
            · exact ⟨by omega, p2⟩
            · rw [p]; exact ⟨by omega, hcm.symm⟩
          · rintro ⟨p1, p2⟩
            by_cases q : a = t.heads + 1 + j
            · exact .inr q
            · exact .inl ⟨by omega, p2⟩
      | false =>
        refine ⟨[.val (tabD t), .val (.tuple (t.rows.map rowD)), .val (.tuple (t.cells.map cellD)), .own (E.map ndD), .val (.int k), .val (.bool x.2.2), .un], .inl ?_, E, _, _, h1, fun a => ?_, by omega, rfl⟩
        · unfold b_breakable_rows_1
          exact (sSeq_nx e1).trans ((sIf_f hc).trans rfl)
        · rw [h2 a]
          constructor
          · rintro ⟨p1, p2⟩
            exact ⟨by omega, p2⟩
          · rintro ⟨p1, p2⟩
            by_cases q : a = t.heads + 1 + j
            · rw [q, ← hcm] at p2; cases p2
            · exact ⟨by omega, p2⟩) ⟨[], .un, .un, List.Pairwise.nil, (fun x => by simp; omega), Nat.le_refl _, rfl⟩
  obtain ⟨e', h1, E, y4, y5, q1, q2, q3, rfl⟩ := hlp
  have hj4 := ht.nr
  refine ⟨E, ?_, q1, fun x => ?_, by omega⟩
  · refine gDef_ev' (fB := f_breakable_rows) [.val (tabD t), .un, .un, .un, .un, .un, .un] rfl rfl ?_
    unfold f_breakable_rows
    refine (sSeq_nx (e := [.val (tabD t), .val (.tuple (t.rows.map rowD)), .val (.tuple (t.cells.map cellD)), .un, .un, .un, .un]) (by rfl)).trans ?_
    refine (sSeq_nx (e := [.val (tabD t), .val (.tuple (t.rows.map rowD)), .val (.tuple (t.cells.map cellD)), .own [], .un, .un, .un]) (by rfl)).trans ?_
    exact (sSeq_nx (sFor_ev hr h1)).trans rfl
  · rw [q2 x]
    constructor
    · rintro ⟨p1, p2⟩
      exact ⟨by omega, p2⟩
    · rintro ⟨p1, p2⟩
      exact ⟨by omega, p2⟩
/-- the greedy pages -/
def gr (fit : Nat → Nat → Bool) (E : List Nat) (c : Nat) : Nat → Nat → Option (List (Nat × Nat))
  | 0, _ => some []
  | n + 1, f => if f < c then (match (E.filter fun b => decide (f < b) && fit f b).getLast? with
    | none => none
    | some b => (gr fit E c n b).map ((f, b) :: ·)) else some []
abbrev prN (p : Nat × Nat) : PyData := .tuple [.int (p.1 : Nat), .int (p.2 : Nat)]
def fitL (L : List Int) (h : Nat) (H : Int) (f b : Nat) : Bool := decide (L.getD h 0 + L.getD b 0 - L.getD f 0 + 1 ≤ H)
theorem getL (L : List Int) (j : Nat) (h : j < L.length) : atI (L.map PyData.int) (j : Nat) = some (.int (L.getD j 0)) := atI_map _ _ _ _ (by simp [List.getD, h])
theorem hop_ev (L : List Int) (h f b : Nat) (h1 : h < L.length) (h2 : f < L.length) (h3 : b < L.length) : g_height_of_page [.tuple (L.map .int), .int (h : Nat), .int (f : Nat), .int (b : Nat)] = some (.int (L.getD h 0 + L.getD b 0 - L.getD f 0 + 1)) := by
  refine gDef_ev' (fB := f_height_of_page) [.val (.tuple (L.map .int)), .val (.int (h : Nat)), .val (.int (f : Nat)), .val (.int (b : Nat))] rfl rfl ?_
  unfold f_height_of_page
  exact sRet_ev (e2_ev (e2_ev (e2_ev (e2_ev rfl rfl (getL L h h1)) (e2_ev rfl rfl (getL L b h3)) (addD_int _ _)) (e2_ev rfl rfl (getL L f h2)) (subD_int _ _)) rfl (addD_int _ _))
theorem pag_loop (T : PyData) (L : List Int) (H : Int) (h c : Nat) (a5 : Sl) (E : List Nat) (hE : ∀ b ∈ E, b ≤ c) (hL : c < L.length) (hh : h < L.length) (hc : c ≤ 1000) (hEl : E.length ≤ 1000) : ∀ (n f : Nat) (P : List (Nat × Nat)) (y9 : Sl), f ≤ c → c < f + n → P.length + n ≤ 1000 →
    (match gr (fitL L h H) E c n f with
    | none => whlF w_paginate_1 b_paginate_1 n [.val T, .val (.tuple (L.map .int)), .val (.int H), .val (.int (h : Nat)), .val (.int (c : Nat)), a5, .val (.list (E.map ndD)), .own (P.map prN), .val (.int (f : Nat)), y9, .un] = .rt .none
    | some Q => ∃ z8 z9 : Sl, whlF w_paginate_1 b_paginate_1 n [.val T, .val (.tuple (L.map .int)), .val (.int H), .val (.int (h : Nat)), .val (.int (c : Nat)), a5, .val (.list (E.map ndD)), .own (P.map prN), .val (.int (f : Nat)), y9, .un] = .nx [.val T, .val (.tuple (L.map .int)), .val (.int H), .val (.int (h : Nat)), .val (.int (c : Nat)), a5, .val (.list (E.map ndD)), .own ((P ++ Q).map prN), z8, z9, .un])
  | 0, f, P, y9, h1, h2, h3 => by omega
  | n + 1, f, P, y9, h1, h2, h3 => by
    have hw : w_paginate_1 [.val T, .val (.tuple (L.map .int)), .val (.int H), .val (.int (h : Nat)), .val (.int (c : Nat)), a5, .val (.list (E.map ndD)), .own (P.map prN), .val (.int (f : Nat)), y9, .un] = some (decide (f < c)) := by
      refine t1_ev (e2_ev rfl rfl ((ltD_int _ _).trans ?_))
      congr 2
      exact decide_eq_decide.mpr (by omega)
    by_cases q : f < c
    · rw [decide_eq_true q] at hw
      obtain ⟨F, hF⟩ : ∃ F : List Nat, F = E.filter fun b => decide (f < b) && fitL L h H f b := ⟨_, rfl⟩
      have hcmp : fCmp [10] (iSeq (eVar 6)) (gVal 10) t_paginate_1 c_paginate_1 [.val T, .val (.tuple (L.map .int)), .val (.int H), .val (.int (h : Nat)), .val (.int (c : Nat)), a5, .val (.list (E.map ndD)), .own (P.map prN), .val (.int (f : Nat)), y9, .un] = some (F.map ndD) := by
        refine fCmp_ev (ds := E.map ndD) (by rfl) ?_ (by rw [List.length_map, hF]; exact Nat.le_trans (List.length_filter_le _ _) (by omega))
        have aux : ∀ G : List Nat, (∀ b ∈ G, b ≤ c) → compF (gVal 10) t_paginate_1 c_paginate_1 (wipeE [.val T, .val (.tuple (L.map .int)), .val (.int H), .val (.int (h : Nat)), .val (.int (c : Nat)), a5, .val (.list (E.map ndD)), .own (P.map prN), .val (.int (f : Nat)), y9, .un] [10]) (G.map ndD) = some ((G.filter fun b => decide (f < b) && fitL L h H f b).map ndD) := by
          intro G
          induction G with
          | nil => intro _; rfl
          | cons b G ih =>
            intro hG
            have ih := ih fun x hx => hG x (List.mem_cons_of_mem _ hx)
            have hb := hG b List.mem_cons_self
            have ht : t_paginate_1 [.val T, .val (.tuple (L.map .int)), .val (.int H), .val (.int (h : Nat)), .val (.int (c : Nat)), a5, .val (.list (E.map ndD)), .own (P.map prN), .val (.int (f : Nat)), y9, .val (ndD b)] = some (decide (f < b) && fitL L h H f b) := by
              have g1 : t1 (e2 gtD (eVar 10) (eVar 8)) [.val T, .val (.tuple (L.map .int)), .val (.int H), .val (.int (h : Nat)), .val (.int (c : Nat)), a5, .val (.list (E.map ndD)), .own (P.map prN), .val (.int (f : Nat)), y9, .val (ndD b)] = some (decide (f < b)) := by
                refine t1_ev (e2_ev rfl rfl ((gtD_int _ _).trans ?_))
                congr 2
                exact decide_eq_decide.mpr (by omega)
              unfold t_paginate_1
              by_cases z : f < b
              · rw [decide_eq_true z] at g1 ⊢
                exact and_t g1 (t1_ev (e2_ev (eCall_ev (aCons_ev rfl (aCons_ev rfl (aCons_ev rfl (aCons_ev rfl aNil_ev)))) (hop_ev L h f b hh (by omega) (by omega))) rfl (leD_int _ _)))
              · rw [decide_eq_false z] at g1 ⊢
                exact and_f g1
            show compF _ _ _ [.val T, .val (.tuple (L.map .int)), .val (.int H), .val (.int (h : Nat)), .val (.int (c : Nat)), a5, .val (.list (E.map ndD)), .own (P.map prN), .val (.int (f : Nat)), y9, .un] (ndD b :: G.map ndD) = _
            simp only [compF, gVal, List.set_cons_succ, List.set_cons_zero, ht]
            rw [List.filter_cons]
            cases hz : (decide (f < b) && fitL L h H f b) with
            | true =>
              simp only [c_paginate_1, eVar, List.getElem?_cons_succ, List.getElem?_cons_zero, if_true]
              rw [show compF (gVal 10) t_paginate_1 (eVar 10) [.val T, .val (.tuple (L.map .int)), .val (.int H), .val (.int (h : Nat)), .val (.int (c : Nat)), a5, .val (.list (E.map ndD)), .own (P.map prN), .val (.int (f : Nat)), y9, .un] (G.map ndD) = _ from ih]
              rfl
            | false => exact ih
        rw [hF]
        exact aux E hE
      have s1 : sSet 9 (eL (fCmp [10] (iSeq (eVar 6)) (gVal 10) t_paginate_1 c_paginate_1)) [.val T, .val (.tuple (L.map .int)), .val (.int H), .val (.int (h : Nat)), .val (.int (c : Nat)), a5, .val (.list (E.map ndD)), .own (P.map prN), .val (.int (f : Nat)), y9, .un] = .nx [.val T, .val (.tuple (L.map .int)), .val (.int H), .val (.int (h : Nat)), .val (.int (c : Nat)), a5, .val (.list (E.map ndD)), .own (P.map prN), .val (.int (f : Nat)), .val (.list (F.map ndD)), .un] := sSet_ev (eL_ev hcmp)
      unfold gr
      rw [if_pos q, ← hF]
      cases hl : F.getLast? with
      | none =>
        have hF0 : F = [] := List.getLast?_eq_none_iff.mp hl
        have hb : b_paginate_1 [.val T, .val (.tuple (L.map .int)), .val (.int H), .val (.int (h : Nat)), .val (.int (c : Nat)), a5, .val (.list (E.map ndD)), .own (P.map prN), .val (.int (f : Nat)), y9, .un] = .rt .none := by
          unfold b_paginate_1
          rw [sSeq_nx s1, hF0]
          refine sSeq_rt ((sIf_t (by rfl)).trans rfl)
        simp only [whlF, hw, hb]
      | some b =>
        have hbF : b ∈ F := List.mem_of_getLast? hl
        have hb1 : b ∈ E ∧ f < b := by
          rw [hF] at hbF
          have := List.mem_filter.mp hbF
          simp at this
          exact ⟨this.1, this.2.1⟩
        have hbc := hE b hb1.1
        have hat : ∀ y7 y8 : Sl, e2 ixG (eVar 9) (e1 negD (eC (.int 1))) [.val T, .val (.tuple (L.map .int)), .val (.int H), .val (.int (h : Nat)), .val (.int (c : Nat)), a5, .val (.list (E.map ndD)), y7, y8, .val (.list (F.map ndD)), .un] = some (.int (b : Nat)) := fun y7 y8 => e2_ev rfl rfl (atI_last ndD F b hl)
        have hb : b_paginate_1 [.val T, .val (.tuple (L.map .int)), .val (.int H), .val (.int (h : Nat)), .val (.int (c : Nat)), a5, .val (.list (E.map ndD)), .own (P.map prN), .val (.int (f : Nat)), y9, .un] = .nx [.val T, .val (.tuple (L.map .int)), .val (.int H), .val (.int (h : Nat)), .val (.int (c : Nat)), a5, .val (.list (E.map ndD)), .own ((P ++ [(f, b)]).map prN), .val (.int (b : Nat)), .val (.list (F.map ndD)), .un] := by
          unfold b_paginate_1
          rw [sSeq_nx s1]
          have hcond : tNot' (tTr (eVar 9)) [.val T, .val (.tuple (L.map .int)), .val (.int H), .val (.int (h : Nat)), .val (.int (c : Nat)), a5, .val (.list (E.map ndD)), .own (P.map prN), .val (.int (f : Nat)), .val (.list (F.map ndD)), .un] = some false := by
            cases hz : F with
            | nil => rw [hz] at hl; cases hl
            | cons x F' => exact not_ev (b := true) (tTr_ev rfl rfl)
          refine (sSeq_nx ((sIf_f hcond).trans rfl)).trans ?_
          refine (sSeq_nx (e := [.val T, .val (.tuple (L.map .int)), .val (.int H), .val (.int (h : Nat)), .val (.int (c : Nat)), a5, .val (.list (E.map ndD)), .own ((P ++ [(f, b)]).map prN), .val (.int (f : Nat)), .val (.list (F.map ndD)), .un]) ?_).trans ?_
          · rw [List.map_append]
            exact sApp_ev (i := 7) (eTup_ev (aCons_ev rfl (aCons_ev (hat _ _) aNil_ev)) (by simp)) rfl (by rw [List.length_map]; omega)
          · exact sSet_ev (hat _ _)
        have ih := pag_loop T L H h c a5 E hE hL hh hc hEl n b (P ++ [(f, b)]) (.val (.list (F.map ndD))) hbc (by omega) (by simp; omega)
        cases hg : gr (fitL L h H) E c n b with
        | none =>
          rw [hg] at ih
          simp only [whlF, hw, hb, hg, Option.map_none]
          exact ih
        | some Q =>
          rw [hg] at ih
          obtain ⟨z8, z9, ih⟩ := ih
          simp only [whlF, hw, hb, hg, Option.map_some]
          refine ⟨z8, z9, ?_⟩
          rw [ih, List.append_assoc]
          rfl
    · rw [decide_eq_false q] at hw
      unfold gr
      rw [if_neg q]
      refine ⟨.val (.int (f : Nat)), y9, ?_⟩
      · simp only [whlF, hw]
        rw [List.append_nil]
theorem paginate_ev (t : LTab) (ht : TabOk t) (L : List Int) (H : Int) (hL : L.length = t.rows.length + 1) (E : List Nat) (hE : g_breakable_rows [tabD t] = some (.list (E.map ndD))) (hE2 : ∀ x ∈ E, t.heads < x ∧ x < t.rows.length) (hE3 : E.length ≤ 10) :
    g_paginate [tabD t, .tuple (L.map .int), .int H] = some (match (if t.heads = t.rows.length then (if fitL L t.heads H t.heads t.heads = true then some [(t.heads, t.heads)] else none) else gr (fitL L t.heads H) (E ++ [t.rows.length]) t.rows.length 100 t.heads) with
      | none => .none
      | some P => .list (P.map prN)) := by
  have hr := ht.nr
  have hh := ht.nh
  obtain ⟨h, e_h⟩ : ∃ h : Nat, h = t.heads := ⟨_, rfl⟩
  obtain ⟨c, e_c⟩ : ∃ c : Nat, c = t.rows.length := ⟨_, rfl⟩
  have hhe := heads_ev t ht
  obtain ⟨T, hT⟩ : ∃ T : PyData, T = tabD t := ⟨_, rfl⟩
  have hlen : eCall lenA (aCons (e2 ixG (eVar 0) (eC (.int 1))) aNil) [.val T, .val (.tuple (L.map .int)), .val (.int H), .val (.int (h : Nat)), .un, .un, .un, .un, .un, .un, .un] = some (.int (c : Nat)) := by
    rw [hT]
    refine eCall_ev (aCons_ev rfl aNil_ev) ?_
    show some (PyData.int (List.length _ : Nat)) = _
    rw [List.length_map, e_c]
  rw [← e_h] at hhe hE2 hh ⊢
  rw [← e_c] at hE2 hh hr hL ⊢
  rw [← hT] at hhe hE ⊢
  refine gDef_ev' (fB := f_paginate) [.val T, .val (.tuple (L.map .int)), .val (.int H), .un, .un, .un, .un, .un, .un, .un, .un] rfl rfl ?_
  unfold f_paginate
  refine (sSeq_nx (e := [.val T, .val (.tuple (L.map .int)), .val (.int H), .val (.int (h : Nat)), .un, .un, .un, .un, .un, .un, .un]) (sSet_ev (eCall_ev (aCons_ev rfl aNil_ev) hhe))).trans ?_
  refine (sSeq_nx (e := [.val T, .val (.tuple (L.map .int)), .val (.int H), .val (.int (h : Nat)), .val (.int (c : Nat)), .un, .un, .un, .un, .un, .un]) (sSet_ev hlen)).trans ?_
  have hcond : t1 (e2 eqD (eVar 3) (eVar 4)) [.val T, .val (.tuple (L.map .int)), .val (.int H), .val (.int (h : Nat)), .val (.int (c : Nat)), .un, .un, .un, .un, .un, .un] = some (decide (h = c)) := by
    refine t1_ev (e2_ev rfl rfl ((eqD_int _ _).trans ?_))
    congr 2
    exact decide_eq_decide.mpr (by omega)
  by_cases q : h = c
  · rw [decide_eq_true q] at hcond
    rw [if_pos q]
    refine sSeq_rt ((sIf_t hcond).trans ?_)
    refine (sSeq_nx (e := [.val T, .val (.tuple (L.map .int)), .val (.int H), .val (.int (h : Nat)), .val (.int (c : Nat)), .val (.bool (fitL L h H h h)), .un, .un, .un, .un, .un]) (sSet_ev (e2_ev (eCall_ev (aCons_ev rfl (aCons_ev rfl (aCons_ev rfl (aCons_ev rfl aNil_ev)))) (hop_ev L h h h (by omega) (by omega) (by omega))) rfl (leD_int _ _)))).trans ?_
    cases hz : fitL L h H h h with
    | true => exact sRet_ev (eIf_t (by rfl) (by rfl))
    | false => exact sRet_ev (eIf_f (by rfl) (by rfl))
  · rw [decide_eq_false q] at hcond
    rw [if_neg q]
    refine (sSeq_nx ((sIf_f hcond).trans rfl)).trans ?_
    have hEm : (E ++ [c]).map ndD = E.map ndD ++ [.int (c : Nat)] := by rw [List.map_append]; rfl
    refine (sSeq_nx (e := [.val T, .val (.tuple (L.map .int)), .val (.int H), .val (.int (h : Nat)), .val (.int (c : Nat)), .un, .val (.list ((E ++ [c]).map ndD)), .un, .un, .un, .un]) (sSet_ev (eL_ev ?_))).trans ?_
    · unfold fCat
      rw [eCall_ev (aCons_ev rfl aNil_ev) hE]
      rw [hEm]
      show (if (E.map ndD).length + 1 ≤ 1000000 then _ else _) = _
      rw [if_pos (by rw [List.length_map]; omega)]
    refine (sSeq_nx (e := [.val T, .val (.tuple (L.map .int)), .val (.int H), .val (.int (h : Nat)), .val (.int (c : Nat)), .un, .val (.list ((E ++ [c]).map ndD)), .own [], .un, .un, .un]) (by rfl)).trans ?_
    refine (sSeq_nx (e := [.val T, .val (.tuple (L.map .int)), .val (.int H), .val (.int (h : Nat)), .val (.int (c : Nat)), .un, .val (.list ((E ++ [c]).map ndD)), .own [], .val (.int (h : Nat)), .un, .un]) (by rfl)).trans ?_
    have hlp := pag_loop T L H h c .un (E ++ [c]) (fun b hb => by
      rcases List.mem_append.mp hb with hb | hb
      · have := hE2 b hb; omega
      · rw [List.mem_singleton.mp hb]; exact Nat.le_refl _) (by omega) (by omega) (by omega) (by simp; omega) 100 h [] .un (by omega) (by omega) (by simp)
    cases hg : gr (fitL L h H) (E ++ [c]) c 100 h with
    | none =>
      rw [hg] at hlp
      exact sSeq_rt hlp
    | some Q =>
      rw [hg] at hlp
      obtain ⟨z8, z9, hlp⟩ := hlp
      exact (sSeq_nx hlp).trans rfl

/-! fewer pages for lower rows -/
theorem last_ge : ∀ (l : List Nat), l.Pairwise (· < ·) → ∀ x ∈ l, ∃ y, l.getLast? = some y ∧ x ≤ y
  | [], _, x, h => by cases h
  | [a], _, x, h => ⟨a, rfl, by rw [List.mem_singleton.mp h]; exact Nat.le_refl _⟩
  | a :: b :: l, hp, x, h => by
    obtain ⟨h1, h2⟩ := List.pairwise_cons.mp hp
    rw [List.getLast?_cons_cons]
    rcases List.mem_cons.mp h with e | h
    · obtain ⟨y, q1, q2⟩ := last_ge (b :: l) h2 b List.mem_cons_self
      refine ⟨y, q1, ?_⟩
      have := h1 b List.mem_cons_self
      omega
    · exact last_ge (b :: l) h2 x h
theorem gr_le {fit1 fit2 : Nat → Nat → Bool} {E : List Nat} {c : Nat} (hE : E.Pairwise (· < ·)) (hc : ∀ b ∈ E, b ≤ c)
    (hf : ∀ f1 f2 b, f1 ≤ f2 → f2 < b → b ≤ c → fit1 f1 b = true → fit2 f2 b = true) : ∀ (n1 f1 n2 f2 : Nat) (P1 : List (Nat × Nat)), c < f1 + n1 → c < f2 + n2 → f1 ≤ f2 → f2 ≤ c → gr fit1 E c n1 f1 = some P1 → ∃ P2, gr fit2 E c n2 f2 = some P2 ∧ P2.length ≤ P1.length
  | 0, f1, n2, f2, P1, h1, h2, h3, h4, h => by omega
  | n1 + 1, f1, 0, f2, P1, h1, h2, h3, h4, h => by omega
  | n1 + 1, f1, n2 + 1, f2, P1, h1, h2, h3, h4, h => by
    by_cases q2 : f2 < c
    · unfold gr at h
      rw [if_pos (by omega)] at h
      cases hl : (E.filter fun b => decide (f1 < b) && fit1 f1 b).getLast? with
      | none => rw [hl] at h; cases h
      | some b1 =>
        rw [hl] at h
        have hb := List.mem_filter.mp (List.mem_of_getLast? hl)
        simp at hb
        obtain ⟨m1, m2, m3⟩ := hb
        have m4 := hc b1 m1
        dsimp only at h
        cases hg : gr fit1 E c n1 b1 with
        | none => rw [hg] at h; cases h
        | some P1' =>
          rw [hg] at h
          cases h
          by_cases q3 : b1 ≤ f2
          · obtain ⟨P2, r1, r2⟩ := gr_le hE hc hf n1 b1 (n2 + 1) f2 P1' (by omega) h2 q3 h4 hg
            refine ⟨P2, r1, ?_⟩
            rw [List.length_cons]
            omega
          · have hm : b1 ∈ E.filter fun b => decide (f2 < b) && fit2 f2 b := by
              refine List.mem_filter.mpr ⟨m1, ?_⟩
              rw [decide_eq_true (by omega), hf f1 f2 b1 h3 (by omega) m4 m3]
              rfl
            obtain ⟨b2, s1, s2⟩ := last_ge _ (hE.filter _) b1 hm
            have s3 := List.mem_filter.mp (List.mem_of_getLast? s1)
            have s4 := hc b2 s3.1
            have s5 : f2 < b2 := by omega
            obtain ⟨P2, r1, r2⟩ := gr_le hE hc hf n1 b1 n2 b2 P1' (by omega) (by omega) s2 s4 hg
            refine ⟨(f2, b2) :: P2, ?_, by simp [r2]⟩
            unfold gr
            rw [if_pos q2, s1]
            dsimp only
            rw [r1]
            rfl
    · refine ⟨[], ?_, Nat.zero_le _⟩
      unfold gr
      rw [if_neg q2]
theorem mono_of (L : List Int) (h : ∀ j, j + 1 < L.length → L.getD j 0 ≤ L.getD (j + 1) 0) : ∀ (d i : Nat), i + d < L.length → L.getD i 0 ≤ L.getD (i + d) 0
  | 0, i, _ => Int.le_refl _
  | d + 1, i, hl => Int.le_trans (mono_of L h d i (by omega)) (by rw [show i + (d + 1) = i + d + 1 by omega]; exact h _ (by omega))
theorem incr_of (L M : List Int) (hl : L.length = M.length) (h : ∀ j, j + 1 < L.length → M.getD (j + 1) 0 - M.getD j 0 ≤ L.getD (j + 1) 0 - L.getD j 0) : ∀ (d i : Nat), i + d < L.length → M.getD (i + d) 0 - M.getD i 0 ≤ L.getD (i + d) 0 - L.getD i 0
  | 0, i, _ => by simp
  | d + 1, i, hl' => by
    have a := incr_of L M hl h d i (by omega)
    have b := h (i + d) (by omega)
    rw [show i + (d + 1) = i + d + 1 by omega]
    omega
theorem fit_step (L M : List Int) (h c : Nat) (H K : Int) (hHK : H ≤ K) (hl : L.length = c + 1) (hl' : M.length = c + 1) (hh : h ≤ c) (l0 : M.getD 0 0 = L.getD 0 0)
    (hi : ∀ j, j + 1 < L.length → 0 ≤ M.getD (j + 1) 0 - M.getD j 0 ∧ M.getD (j + 1) 0 - M.getD j 0 ≤ L.getD (j + 1) 0 - L.getD j 0) : ∀ f1 f2 b, f1 ≤ f2 → f2 ≤ b → b ≤ c → fitL L h H f1 b = true → fitL M h K f2 b = true := by
  intro f1 f2 b h1 h2 h3 q
  unfold fitL at q ⊢
  have q := of_decide_eq_true q
  refine decide_eq_true ?_
  have a1 := incr_of L M (by omega) (fun j hj => (hi j hj).2) h 0 (by omega)
  have a2 := incr_of L M (by omega) (fun j hj => (hi j hj).2) (b - f1) f1 (by omega)
  have a3 := mono_of M (fun j hj => by have := (hi j (by omega)).1; omega) (f2 - f1) f1 (by omega)
  rw [Nat.zero_add] at a1
  rw [show f1 + (b - f1) = b by omega] at a2
  rw [show f1 + (f2 - f1) = f2 by omega] at a3
  omega

/-! ### the law's pages -/
theorem asc_extN : ∀ (a b : List Nat), a.Pairwise (· < ·) → b.Pairwise (· < ·) → (∀ x, x ∈ a ↔ x ∈ b) → a = b
  | [], [], _, _, _ => rfl
  | [], y :: b, _, _, h => by have := (h y).mpr List.mem_cons_self; cases this
  | x :: a, [], _, _, h => by have := (h x).mp List.mem_cons_self; cases this
  | x :: a, y :: b, ha, hb, h => by
    obtain ⟨a1, a2⟩ := List.pairwise_cons.mp ha
    obtain ⟨b1, b2⟩ := List.pairwise_cons.mp hb
    have e : x = y := by
      rcases List.mem_cons.mp ((h x).mp List.mem_cons_self) with e | hx
      · exact e
      · rcases List.mem_cons.mp ((h y).mpr List.mem_cons_self) with e | hy
        · exact e.symm
        · have q1 := b1 x hx
          have q2 := a1 y hy
          omega
    subst e
    rw [asc_extN a b a2 b2 fun z => ?_]
    constructor
    · intro hz
      rcases List.mem_cons.mp ((h z).mp (List.mem_cons_of_mem _ hz)) with e | hz'
      · have := a1 z hz
        omega
      · exact hz'
    · intro hz
      rcases List.mem_cons.mp ((h z).mpr (List.mem_cons_of_mem _ hz)) with e | hz'
      · have := b1 z hz
        omega
      · exact hz'
theorem str8 : ∀ w ∈ pool8, PyData.strOk w = true := fun w hw => (pool8_ok w hw).2.2
theorem lay_strs : ∀ ws : List Str, (∀ w ∈ ws, w ∈ pool8) → PyData.canLayAll0 (ws.map PyData.str) = true ∧ PyData.depthAll (ws.map PyData.str) = 0
  | [], _ => by simp [PyData.canLayAll0, PyData.depthAll]
  | x :: xs, h => by
    obtain ⟨h1, h2⟩ := lay_strs xs fun w hw => h w (List.mem_cons_of_mem _ hw)
    have h3 := str8 x (h x List.mem_cons_self)
    simp [PyData.canLayAll0, PyData.canLay0, PyData.depthAll, PyData.depth, h1, h2, h3]
theorem lay_cells : ∀ cs : List LCell, (∀ x ∈ cs, ∀ w ∈ x.ws, w ∈ pool8) → PyData.canLayAll0 (cs.map cellD) = true ∧ PyData.depthAll (cs.map cellD) ≤ 2
  | [], _ => by simp [PyData.canLayAll0, PyData.depthAll]
  | x :: xs, h => by
    obtain ⟨h1, h2⟩ := lay_cells xs fun y hy => h y (List.mem_cons_of_mem _ hy)
    obtain ⟨h3, h4⟩ := lay_strs x.ws (h x List.mem_cons_self)
    simp [cellD, PyData.canLayAll0, PyData.canLay0, PyData.depthAll, PyData.depth, h1, h3, h4]
    omega
theorem eqD_cells0 (cs : List LCell) (h : ∀ x ∈ cs, ∀ w ∈ x.ws, w ∈ pool8) : eqD (.list (cs.map cellD)) (.list []) = some (.bool (decide (cs = []))) := by
  have s1 : SeqAt.shaped (.list (cs.map cellD)) = true := by
    obtain ⟨h1, h2⟩ := lay_cells cs h
    unfold SeqAt.shaped
    simp [PyData.canLay0, h1, PyData.depth]
    omega
  have s2 : SeqAt.shaped (.list []) = true := by rfl
  unfold eqD
  simp only [s1, s2, Bool.and_self, if_true, PyData.eqv]
  cases cs with
  | nil => simp [PyData.eqvAll]
  | cons a r => simp [PyData.eqvAll]
/-- where a page may end, the end of the table among them -/
def endB (t : LTab) (b : Nat) : Bool := decide (b = t.rows.length) || mayB t b
theorem lends_body (t : LTab) (ht : TabOk t) (T : PyData) (hT : T = tabD t) (L : List Int) (H : Int) (hL : L.length = t.rows.length + 1) (c h f b : Nat) (hc : c = t.rows.length) (hh : h ≤ c) (h1 : f < b) (h2 : b ≤ c) (a5 : Sl) (F : List Nat) (hF : F.length ≤ 100) (y9 y10 : Sl) :
    ∃ z9 z10, b_Lpages_1 [.val T, .val (.tuple (L.map .int)), .val (.int H), .val (.int (c : Nat)), .val (.int (h : Nat)), a5, .val (.int (f : Nat)), .own (F.map ndD), .val (.int (b : Nat)), y9, y10, .un, .un] = .nx [.val T, .val (.tuple (L.map .int)), .val (.int H), .val (.int (c : Nat)), .val (.int (h : Nat)), a5, .val (.int (f : Nat)), .own ((if (endB t b && fitL L h H f b) = true then F ++ [b] else F).map ndD), .val (.int (b : Nat)), z9, z10, .un, .un] := by
  have hr := ht.nr
  have hcn := ht.cn
  obtain ⟨bi, hbi⟩ : ∃ z : Int, z = (b : Nat) := ⟨_, rfl⟩
  obtain ⟨cs, hcs⟩ : ∃ cs, cs = t.cells.filter fun x => covB x bi := ⟨_, rfl⟩
  have hcl : cs.length ≤ t.cells.length := by rw [hcs]; exact List.length_filter_le _ _
  have cells : ∀ a : List Sl, e2 ixG (eVar 0) (eC (.int 2)) (.val T :: a) = some (.tuple (t.cells.map cellD)) := fun a => by rw [hT]; rfl
  have rows : ∀ a : List Sl, e2 ixG (eVar 0) (eC (.int 1)) (.val T :: a) = some (.tuple (t.rows.map rowD)) := fun a => by rw [hT]; rfl
  have g9 : sSet 9 (eL (fCmp [12] (iSeq (e2 ixG (eVar 0) (eC (.int 2)))) (gVal 12) t_Lpages_2 c_Lpages_2)) [.val T, .val (.tuple (L.map .int)), .val (.int H), .val (.int (c : Nat)), .val (.int (h : Nat)), a5, .val (.int (f : Nat)), .own (F.map ndD), .val (.int bi), y9, y10, .un, .un] = .nx [.val T, .val (.tuple (L.map .int)), .val (.int H), .val (.int (c : Nat)), .val (.int (h : Nat)), a5, .val (.int (f : Nat)), .own (F.map ndD), .val (.int bi), .val (.list (cs.map cellD)), y10, .un, .un] := by
    refine sSet_ev (eL_ev (fCmp_ev (ds := t.cells.map cellD) (vs := cs.map cellD) (iSeq_t (cells _)) ?_ (by rw [List.length_map]; omega)))
    rw [hcs]
    refine compF_filterS fun x hx => ⟨[.val T, .val (.tuple (L.map .int)), .val (.int H), .val (.int (c : Nat)), .val (.int (h : Nat)), a5, .val (.int (f : Nat)), .own (F.map ndD), .val (.int bi), y9, y10, .un, .val (cellD x)], rfl, ?_, fun _ => rfl⟩
    exact t1_ev (chI_cov x bi (e2_ev (x := cellD x) (y := .int 0) rfl rfl rfl) rfl (e2_ev (e2_ev (x := cellD x) (y := .int 0) rfl rfl rfl) (e2_ev (x := cellD x) (y := .int 2) rfl rfl rfl) rfl))
  obtain ⟨e, he⟩ : ∃ e : Bool, e = endB t b := ⟨_, rfl⟩
  have g10 : sSet 10 (eOr (e2 eqD (eVar 8) (eVar 3)) (eAnd (e2 eqD (eVar 9) (eL (fLst aNil))) (eNot (e2 ixG (e2 ixG (e2 ixG (eVar 0) (eC (.int 1))) (e2 subD (eVar 8) (eC (.int 1)))) (eC (.int 2)))))) [.val T, .val (.tuple (L.map .int)), .val (.int H), .val (.int (c : Nat)), .val (.int (h : Nat)), a5, .val (.int (f : Nat)), .own (F.map ndD), .val (.int bi), .val (.list (cs.map cellD)), y10, .un, .un] = .nx [.val T, .val (.tuple (L.map .int)), .val (.int H), .val (.int (c : Nat)), .val (.int (h : Nat)), a5, .val (.int (f : Nat)), .own (F.map ndD), .val (.int bi), .val (.list (cs.map cellD)), .val (.bool e), .un, .un] := by
    refine sSet_ev ?_
    have q1 : e2 eqD (eVar 8) (eVar 3) [.val T, .val (.tuple (L.map .int)), .val (.int H), .val (.int (c : Nat)), .val (.int (h : Nat)), a5, .val (.int (f : Nat)), .own (F.map ndD), .val (.int bi), .val (.list (cs.map cellD)), y10, .un, .un] = some (.bool (decide (b = c))) := by
      refine e2_ev rfl rfl ((eqD_int _ _).trans ?_)
      congr 2
      exact decide_eq_decide.mpr (by omega)
    unfold eOr
    rw [q1]
    by_cases z : b = c
    · rw [decide_eq_true z, he]
      unfold endB
      rw [decide_eq_true (by omega)]
      rfl
    · rw [decide_eq_false z]
      have q2 : e2 eqD (eVar 9) (eL (fLst aNil)) [.val T, .val (.tuple (L.map .int)), .val (.int H), .val (.int (c : Nat)), .val (.int (h : Nat)), a5, .val (.int (f : Nat)), .own (F.map ndD), .val (.int bi), .val (.list (cs.map cellD)), y10, .un, .un] = some (.bool (decide (cs = []))) :=
        e2_ev rfl rfl (eqD_cells0 cs fun x hx => (ht.cl x (by rw [hcs] at hx; exact (List.mem_filter.mp hx).1)).p)
      have hcse : decide (cs = []) = !(t.cells.any fun x => covB x bi) := by
        rw [hcs]
        cases ha : (t.cells.any fun x => covB x bi) with
        | true =>
          obtain ⟨x, hx1, hx2⟩ := List.any_eq_true.mp ha
          rw [decide_eq_false]
          · rfl
          · intro e0
            have : x ∈ t.cells.filter fun x => covB x bi := List.mem_filter.mpr ⟨hx1, hx2⟩
            rw [e0] at this
            cases this
        | false =>
          rw [decide_eq_true]
          · rfl
          · refine List.filter_eq_nil_iff.mpr fun x hx q => ?_
            have := List.any_eq_false.mp ha x hx
            exact this q
      obtain ⟨x, hx⟩ : ∃ x, t.rows[b - 1]? = some x := ⟨_, List.getElem?_eq_getElem (by omega)⟩
      have hat : atI (t.rows.map rowD) (bi - 1) = some (rowD x) := by
        rw [show bi - 1 = ((b - 1 : Nat) : Int) by omega]
        exact atI_map rowD t.rows _ _ hx
      have q3 : eNot (e2 ixG (e2 ixG (e2 ixG (eVar 0) (eC (.int 1))) (e2 subD (eVar 8) (eC (.int 1)))) (eC (.int 2))) [.val T, .val (.tuple (L.map .int)), .val (.int H), .val (.int (c : Nat)), .val (.int (h : Nat)), a5, .val (.int (f : Nat)), .own (F.map ndD), .val (.int bi), .val (.list (cs.map cellD)), y10, .un, .un] = some (.bool (!x.2.2)) :=
        eNot_ev (e2_ev (x := rowD x) (y := .int 2) (e2_ev (rows _) (e2_ev rfl rfl (subD_int _ _)) hat) rfl rfl)
      have hkp : keepsB t b = x.2.2 := by unfold keepsB; rw [hx]
      unfold eAnd
      show (match e2 eqD (eVar 9) (eL (fLst aNil)) _ with | some (.bool true) => _ | some (.bool false) => _ | _ => _) = _
      rw [q2, hcse, he]
      unfold endB mayB
      rw [decide_eq_false (by omega), hkp, ← hbi]
      cases ha : (t.cells.any fun x => covB x bi) with
      | true => cases x.2.2 <;> rfl
      | false =>
        show eNot _ _ = _
        rw [q3]
        cases x.2.2 <;> rfl
  have hfit : t1 (e2 leD (e2 addD (e2 subD (e2 addD (e2 ixG (eVar 1) (eVar 4)) (e2 ixG (eVar 1) (eVar 8))) (e2 ixG (eVar 1) (eVar 6))) (eC (.int 1))) (eVar 2)) [.val T, .val (.tuple (L.map .int)), .val (.int H), .val (.int (c : Nat)), .val (.int (h : Nat)), a5, .val (.int (f : Nat)), .own (F.map ndD), .val (.int bi), .val (.list (cs.map cellD)), .val (.bool e), .un, .un] = some (fitL L h H f b) := by
    have gb : atI (L.map PyData.int) bi = some (.int (L.getD b 0)) := by rw [hbi]; exact getL L b (by omega)
    exact t1_ev (e2_ev (e2_ev (e2_ev (e2_ev (e2_ev rfl rfl (getL L h (by omega))) (e2_ev rfl rfl gb) (addD_int _ _)) (e2_ev rfl rfl (getL L f (by omega))) (subD_int _ _)) rfl (addD_int _ _)) rfl (leD_int _ _))
  rw [← hbi]
  refine ⟨.val (.list (cs.map cellD)), .val (.bool e), ?_⟩
  unfold b_Lpages_1
  refine (sSeq_nx g9).trans ((sSeq_nx g10).trans ?_)
  have h10 : tTr (eVar 10) [.val T, .val (.tuple (L.map .int)), .val (.int H), .val (.int (c : Nat)), .val (.int (h : Nat)), a5, .val (.int (f : Nat)), .own (F.map ndD), .val (.int bi), .val (.list (cs.map cellD)), .val (.bool e), .un, .un] = some e := tTr_ev rfl rfl
  rw [← he]
  cases e with
  | false =>
    rw [Bool.false_and, if_neg (by decide)]
    exact (sIf_f (and_f h10)).trans rfl
  | true =>
    rw [Bool.true_and]
    cases hz : fitL L h H f b with
    | false =>
      rw [hz] at hfit
      rw [if_neg (by decide)]
      exact (sIf_f (and_t h10 hfit)).trans rfl
    | true =>
      rw [hz] at hfit
      rw [if_pos rfl, List.map_append]
      refine (sIf_t (and_t h10 hfit)).trans (sApp_ev (i := 7) (d := .int bi) rfl rfl (by rw [List.length_map]; omega)) |>.trans ?_
      rw [hbi]
      rfl
theorem lends_loop (t : LTab) (ht : TabOk t) (T : PyData) (hT : T = tabD t) (L : List Int) (H : Int) (hL : L.length = t.rows.length + 1) (c h f : Nat) (hc : c = t.rows.length) (hh : h ≤ c) (hf : f < c) (a5 y8 y9 y10 : Sl) :
    ∃ (F : List Nat) (z8 z9 z10 : Sl), sFor (iR2 (aCons (e2 addD (eVar 6) (eC (.int 1))) (aCons (e2 addD (eVar 3) (eC (.int 1))) aNil))) (gVal 8) b_Lpages_1 [.val T, .val (.tuple (L.map .int)), .val (.int H), .val (.int (c : Nat)), .val (.int (h : Nat)), a5, .val (.int (f : Nat)), .own [], y8, y9, y10, .un, .un] = .nx [.val T, .val (.tuple (L.map .int)), .val (.int H), .val (.int (c : Nat)), .val (.int (h : Nat)), a5, .val (.int (f : Nat)), .own (F.map ndD), z8, z9, z10, .un, .un] ∧ F.length ≤ c ∧ F.Pairwise (· < ·) ∧ ∀ x, x ∈ F ↔ (f < x ∧ x ≤ c) ∧ endB t x = true ∧ fitL L h H f x = true := by
  have hr := ht.nr
  have hrg := iR2_ev (fa := aCons (e2 addD (eVar 6) (eC (.int 1))) (aCons (e2 addD (eVar 3) (eC (.int 1))) aNil)) (env := [.val T, .val (.tuple (L.map .int)), .val (.int H), .val (.int (c : Nat)), .val (.int (h : Nat)), a5, .val (.int (f : Nat)), .own [], y8, y9, y10, .un, .un]) (M := (f : Int) + 1) (N := (c : Int) + 1) (aCons_ev (e2_ev rfl rfl (addD_int _ _)) (aCons_ev (e2_ev rfl rfl (addD_int _ _)) aNil_ev)) (by omega) (by omega) (by omega) (by omega)
  rw [show ((c : Int) + 1 - ((f : Int) + 1)).toNat = c - f from by omega] at hrg
  have hlp := loop_rng (g := gVal 8) (b := b_Lpages_1) (lo := (f : Int) + 1) (n := c - f) (e := [.val T, .val (.tuple (L.map .int)), .val (.int H), .val (.int (c : Nat)), .val (.int (h : Nat)), a5, .val (.int (f : Nat)), .own [], y8, y9, y10, .un, .un])
    (fun j e => ∃ (F : List Nat) (y8 y9 y10 : Sl), e = [.val T, .val (.tuple (L.map .int)), .val (.int H), .val (.int (c : Nat)), .val (.int (h : Nat)), a5, .val (.int (f : Nat)), .own (F.map ndD), y8, y9, y10, .un, .un] ∧ F.length ≤ j ∧ F.Pairwise (· < ·) ∧ ∀ x, x ∈ F ↔ (f < x ∧ x < f + 1 + j) ∧ endB t x = true ∧ fitL L h H f x = true) (fun j e hj he => by
      obtain ⟨F, y8, y9, y10, rfl, h1, h2, h3⟩ := he
      obtain ⟨k, hk⟩ : ∃ k : Int, k = (f : Int) + 1 + (j : Nat) := ⟨_, rfl⟩
      have hkn : k = ((f + 1 + j : Nat) : Int) := by omega
      rw [← hk]
      obtain ⟨z9, z10, hb⟩ := lends_body t ht T hT L H hL c h f (f + 1 + j) hc hh (by omega) (by omega) a5 F (by omega) y9 y10
      rw [← hkn] at hb
      refine ⟨[.val T, .val (.tuple (L.map .int)), .val (.int H), .val (.int (c : Nat)), .val (.int (h : Nat)), a5, .val (.int (f : Nat)), .own (F.map ndD), .val (.int k), y9, y10, .un, .un], rfl, _, .inl hb, _, _, _, _, rfl, ?_, ?_, fun x => ?_⟩
      · split
        · rw [List.length_append, List.length_singleton]; omega
        · omega
      · split
        · rw [List.pairwise_append]
          refine ⟨h2, List.pairwise_singleton _ _, fun a ha b hb => ?_⟩
          rw [List.mem_singleton.mp hb]
          exact ((h3 a).mp ha).1.2
        · exact h2
      · cases hz : (endB t (f + 1 + j) && fitL L h H f (f + 1 + j)) with
        | true =>
          rw [if_pos rfl, List.mem_append, h3 x, List.mem_singleton]
          rw [Bool.and_eq_true] at hz
          constructor
          · rintro (⟨p1, p2⟩ | p)
            · exact ⟨by omega, p2⟩
            · rw [p]; exact ⟨by omega, hz⟩
          · rintro ⟨p1, p2⟩
            by_cases q : x = f + 1 + j
            · exact .inr q
            · exact .inl ⟨by omega, p2⟩
        | false =>
          rw [if_neg (by decide), h3 x]
          constructor
          · rintro ⟨p1, p2⟩
            exact ⟨by omega, p2⟩
          · rintro ⟨p1, p2⟩
            by_cases q : x = f + 1 + j
            · rw [q] at p2
              rw [p2.1, p2.2] at hz
              cases hz
            · exact ⟨by omega, p2⟩) ⟨[], y8, y9, y10, rfl, Nat.le_refl _, List.Pairwise.nil, fun x => ⟨fun q => (by cases q), fun q => by omega⟩⟩
  obtain ⟨e', k1, F, z8, z9, z10, rfl, k2, k3, k4⟩ := hlp
  refine ⟨F, z8, z9, z10, sFor_ev hrg k1, by omega, k3, fun x => ?_⟩
  rw [k4 x]
  constructor
  · rintro ⟨p1, p2⟩; exact ⟨by omega, p2⟩
  · rintro ⟨p1, p2⟩; exact ⟨by omega, p2⟩
theorem eqD_nds0 (F : List Nat) : eqD (.list (F.map ndD)) (.list []) = some (.bool (decide (F = []))) := by
  have := eqD_ints (F.map fun n : Nat => ((n : Nat) : Int)) []
  rw [List.map_map] at this
  refine this.trans ?_
  cases F <;> rfl
theorem whl_rt {w : En → Option Bool} {b : En → Out} {n : Nat} {e : En} {d : PyData} (h1 : w e = some true) (h2 : b e = .rt d) : whlF w b (n + 1) e = .rt d := by simp only [whlF, h1, h2]
theorem whl_nx {w : En → Option Bool} {b : En → Out} {n : Nat} {e e' : En} (h1 : w e = some true) (h2 : b e = .nx e') : whlF w b (n + 1) e = whlF w b n e' := by simp only [whlF, h1, h2]
theorem whl_end {w : En → Option Bool} {b : En → Out} {n : Nat} {e : En} (h1 : w e = some false) : whlF w b (n + 1) e = .nx e := by simp only [whlF, h1]
theorem lpag_loop (t : LTab) (ht : TabOk t) (T : PyData) (hT : T = tabD t) (L : List Int) (H : Int) (hL : L.length = t.rows.length + 1) (c h : Nat) (hc : c = t.rows.length) (hh : h ≤ c) (E : List Nat) (hEp : E.Pairwise (· < ·)) (hE : ∀ x, x ∈ E ↔ (h < x ∧ x < c) ∧ mayB t x = true) : ∀ (n f : Nat) (P : List (Nat × Nat)) (y7 y8 y9 y10 : Sl), h ≤ f → f ≤ c → c < f + n → P.length + n ≤ 1000 →
    (match gr (fitL L h H) (E ++ [c]) c n f with
    | none => whlF w_Lpages_2 b_Lpages_2 n [.val T, .val (.tuple (L.map .int)), .val (.int H), .val (.int (c : Nat)), .val (.int (h : Nat)), .own (P.map prN), .val (.int (f : Nat)), y7, y8, y9, y10, .un, .un] = .rt .none
    | some Q => ∃ z6 z7 z8 z9 z10 : Sl, whlF w_Lpages_2 b_Lpages_2 n [.val T, .val (.tuple (L.map .int)), .val (.int H), .val (.int (c : Nat)), .val (.int (h : Nat)), .own (P.map prN), .val (.int (f : Nat)), y7, y8, y9, y10, .un, .un] = .nx [.val T, .val (.tuple (L.map .int)), .val (.int H), .val (.int (c : Nat)), .val (.int (h : Nat)), .own ((P ++ Q).map prN), z6, z7, z8, z9, z10, .un, .un])
  | 0, f, P, y7, y8, y9, y10, h0, h1, h2, h3 => by omega
  | n + 1, f, P, y7, y8, y9, y10, h0, h1, h2, h3 => by
    have hw : w_Lpages_2 [.val T, .val (.tuple (L.map .int)), .val (.int H), .val (.int (c : Nat)), .val (.int (h : Nat)), .own (P.map prN), .val (.int (f : Nat)), y7, y8, y9, y10, .un, .un] = some (decide (f < c)) := by
      refine t1_ev (e2_ev rfl rfl ((ltD_int _ _).trans ?_))
      congr 2
      exact decide_eq_decide.mpr (by omega)
    by_cases q : f < c
    · rw [decide_eq_true q] at hw
      obtain ⟨F, z8, z9, z10, f1, f2, f3, f4⟩ := lends_loop t ht T hT L H hL c h f hc hh q (.own (P.map prN)) y8 y9 y10
      have hFe : ((E ++ [c]).filter fun b => decide (f < b) && fitL L h H f b) = F := by
        refine asc_extN _ _ (List.Pairwise.filter _ ?_) f3 fun x => ?_
        · rw [List.pairwise_append]
          refine ⟨hEp, List.pairwise_singleton _ _, fun a ha b hb => ?_⟩
          rw [List.mem_singleton.mp hb]
          exact ((hE a).mp ha).1.2
        · rw [List.mem_filter, List.mem_append, List.mem_singleton, hE x, f4 x, Bool.and_eq_true, decide_eq_true_eq]
          unfold endB
          rw [Bool.or_eq_true, decide_eq_true_eq, ← hc]
          constructor
          · rintro ⟨⟨⟨a1, a2⟩, a3⟩ | a, b1, b2⟩
            · exact ⟨⟨b1, by omega⟩, .inr a3, b2⟩
            · exact ⟨⟨b1, by omega⟩, .inl a, b2⟩
          · rintro ⟨⟨a1, a2⟩, a3, a4⟩
            refine ⟨?_, a1, a4⟩
            by_cases z : x = c
            · exact .inr z
            · refine .inl ⟨⟨by omega, by omega⟩, ?_⟩
              rcases a3 with a3 | a3
              · exact absurd a3 z
              · exact a3
      have s0 : sOwn 7 (fLst aNil) [.val T, .val (.tuple (L.map .int)), .val (.int H), .val (.int (c : Nat)), .val (.int (h : Nat)), .own (P.map prN), .val (.int (f : Nat)), y7, y8, y9, y10, .un, .un] = .nx [.val T, .val (.tuple (L.map .int)), .val (.int H), .val (.int (c : Nat)), .val (.int (h : Nat)), .own (P.map prN), .val (.int (f : Nat)), .own [], y8, y9, y10, .un, .un] := rfl
      have hc1 : t1 (e2 eqD (eBor 7) (eL (fLst aNil))) [.val T, .val (.tuple (L.map .int)), .val (.int H), .val (.int (c : Nat)), .val (.int (h : Nat)), .own (P.map prN), .val (.int (f : Nat)), .own (F.map ndD), z8, z9, z10, .un, .un] = some (decide (F = [])) := t1_ev (e2_ev (x := .list (F.map ndD)) rfl rfl (eqD_nds0 F))
      cases hl : F.getLast? with
      | none =>
        have eg : gr (fitL L h H) (E ++ [c]) c (n + 1) f = none := by
          unfold gr
          rw [if_pos q, hFe, hl]
        have hF0 : F = [] := List.getLast?_eq_none_iff.mp hl
        rw [decide_eq_true hF0] at hc1
        have hb : b_Lpages_2 [.val T, .val (.tuple (L.map .int)), .val (.int H), .val (.int (c : Nat)), .val (.int (h : Nat)), .own (P.map prN), .val (.int (f : Nat)), y7, y8, y9, y10, .un, .un] = .rt .none := by
          unfold b_Lpages_2
          exact (sSeq_nx s0).trans ((sSeq_nx f1).trans (sSeq_rt ((sIf_t hc1).trans rfl)))
        rw [eg]
        exact whl_rt hw hb
      | some b =>
        have hbF : b ∈ F := List.mem_of_getLast? hl
        have hb1 := ((f4 b).mp hbF).1
        have hne : ¬ F = [] := fun e => by rw [e] at hbF; cases hbF
        rw [decide_eq_false hne] at hc1
        have hat : ∀ y5 y6 : Sl, eIxO 7 (e1 negD (eC (.int 1))) [.val T, .val (.tuple (L.map .int)), .val (.int H), .val (.int (c : Nat)), .val (.int (h : Nat)), y5, y6, .own (F.map ndD), z8, z9, z10, .un, .un] = some (.int (b : Nat)) := fun y5 y6 => eIxO_ev (ds := F.map ndD) rfl rfl (atI_last ndD F b hl)
        have hb : b_Lpages_2 [.val T, .val (.tuple (L.map .int)), .val (.int H), .val (.int (c : Nat)), .val (.int (h : Nat)), .own (P.map prN), .val (.int (f : Nat)), y7, y8, y9, y10, .un, .un] = .nx [.val T, .val (.tuple (L.map .int)), .val (.int H), .val (.int (c : Nat)), .val (.int (h : Nat)), .own ((P ++ [(f, b)]).map prN), .val (.int (b : Nat)), .own (F.map ndD), z8, z9, z10, .un, .un] := by
          unfold b_Lpages_2
          refine (sSeq_nx s0).trans ((sSeq_nx f1).trans ((sSeq_nx ((sIf_f hc1).trans rfl)).trans ?_))
          refine (sSeq_nx (e := [.val T, .val (.tuple (L.map .int)), .val (.int H), .val (.int (c : Nat)), .val (.int (h : Nat)), .own ((P ++ [(f, b)]).map prN), .val (.int (f : Nat)), .own (F.map ndD), z8, z9, z10, .un, .un]) ?_).trans (sSet_ev (hat _ _))
          rw [List.map_append]
          exact sApp_ev (i := 5) (eTup_ev (aCons_ev rfl (aCons_ev (hat _ _) aNil_ev)) (by simp)) rfl (by rw [List.length_map]; omega)
        have ih := lpag_loop t ht T hT L H hL c h hc hh E hEp hE n b (P ++ [(f, b)]) (.own (F.map ndD)) z8 z9 z10 (by omega) (by omega) (by omega) (by simp; omega)
        have eg : gr (fitL L h H) (E ++ [c]) c (n + 1) f = (gr (fitL L h H) (E ++ [c]) c n b).map ((f, b) :: ·) := by
          conv => lhs; unfold gr
          rw [if_pos q, hFe, hl]
        rw [eg, whl_nx hw hb]
        cases hg : gr (fitL L h H) (E ++ [c]) c n b with
        | none =>
          rw [hg] at ih
          exact ih
        | some Q =>
          rw [hg] at ih
          obtain ⟨w6, w7, w8, w9, w10, ih⟩ := ih
          exact ⟨w6, w7, w8, w9, w10, ih.trans (by rw [List.append_assoc]; rfl)⟩
    · rw [decide_eq_false q] at hw
      have key : whlF w_Lpages_2 b_Lpages_2 (n + 1) [.val T, .val (.tuple (L.map .int)), .val (.int H), .val (.int (c : Nat)), .val (.int (h : Nat)), .own (P.map prN), .val (.int (f : Nat)), y7, y8, y9, y10, .un, .un] = .nx [.val T, .val (.tuple (L.map .int)), .val (.int H), .val (.int (c : Nat)), .val (.int (h : Nat)), .own (P.map prN), .val (.int (f : Nat)), y7, y8, y9, y10, .un, .un] := whl_end hw
      have eg : gr (fitL L h H) (E ++ [c]) c (n + 1) f = some [] := by
        unfold gr
        rw [if_neg q]
      have ep : P = P ++ [] := (List.append_nil P).symm
      rw [eg]
      exact ⟨.val (.int (f : Nat)), y7, y8, y9, y10, key.trans (by rw [← ep])⟩
/-- the pages of lines -/
def pgs (t : LTab) (E : List Nat) (L : List Int) (H : Int) : Option (List (Nat × Nat)) := if t.heads = t.rows.length then (if fitL L t.heads H t.heads t.heads = true then some [(t.heads, t.heads)] else none) else gr (fitL L t.heads H) (E ++ [t.rows.length]) t.rows.length 100 t.heads
def pgD : Option (List (Nat × Nat)) → PyData
  | none => .none
  | some P => .list (P.map prN)
theorem pag_ev (t : LTab) (ht : TabOk t) : ∃ E : List Nat, E.Pairwise (· < ·) ∧ (∀ x, x ∈ E ↔ (t.heads < x ∧ x < t.rows.length) ∧ mayB t x = true) ∧ ∀ (L : List Int) (H : Int), L.length = t.rows.length + 1 → g_paginate [tabD t, tiD L, .int H] = some (pgD (pgs t E L H)) ∧ g_Lpages [tabD t, tiD L, .int H] = some (pgD (pgs t E L H)) := by
  obtain ⟨E, hE, hEp, hEb, hEl⟩ := breaks_ev t ht
  have hr := ht.nr
  have hh := ht.nh
  refine ⟨E, hEp, hEb, fun L H hL => ⟨?_, ?_⟩⟩
  · have := paginate_ev t ht L H hL E hE (fun x hx => ((hEb x).mp hx).1) hEl
    refine this.trans ?_
    unfold pgD pgs
    rfl
  · obtain ⟨h, e_h⟩ : ∃ h : Nat, h = t.heads := ⟨_, rfl⟩
    obtain ⟨c, e_c⟩ : ∃ c : Nat, c = t.rows.length := ⟨_, rfl⟩
    obtain ⟨T, hT⟩ : ∃ T : PyData, T = tabD t := ⟨_, rfl⟩
    unfold pgs
    rw [← e_h, ← e_c, ← hT]
    have hlen : eCall lenA (aCons (e2 ixG (eVar 0) (eC (.int 1))) aNil) [.val T, .val (tiD L), .val (.int H), .un, .un, .un, .un, .un, .un, .un, .un, .un, .un] = some (.int (c : Nat)) := by
      rw [e_c]; exact (len_tab t T hT _).2
    have hhd : eCall lenA (aCons (eL (fCmp [11] (iSeq (e2 ixG (eVar 0) (eC (.int 1)))) (gVal 11) t_Lpages_1 c_Lpages_1)) aNil) [.val T, .val (tiD L), .val (.int H), .val (.int (c : Nat)), .un, .un, .un, .un, .un, .un, .un, .un, .un] = some (.int (h : Nat)) := by
      refine (len_l (ds := (t.rows.filter fun x => x.2.1).map rowD) (eL_ev (fCmp_ev (ds := t.rows.map rowD) (by rw [hT]; rfl) (compF_filterS fun x hx => ⟨[.val T, .val (tiD L), .val (.int H), .val (.int (c : Nat)), .un, .un, .un, .un, .un, .un, .un, .val (rowD x), .un], rfl, rfl, fun _ => rfl⟩) (by rw [List.length_map]; show t.heads ≤ _; omega)))).trans ?_
      rw [List.length_map, e_h]
      rfl
    refine gDef_ev' (fB := f_Lpages) [.val T, .val (tiD L), .val (.int H), .un, .un, .un, .un, .un, .un, .un, .un, .un, .un] rfl rfl ?_
    unfold f_Lpages
    refine (sSeq_nx (e := [.val T, .val (tiD L), .val (.int H), .val (.int (c : Nat)), .un, .un, .un, .un, .un, .un, .un, .un, .un]) (sSet_ev hlen)).trans ?_
    refine (sSeq_nx (e := [.val T, .val (tiD L), .val (.int H), .val (.int (c : Nat)), .val (.int (h : Nat)), .un, .un, .un, .un, .un, .un, .un, .un]) (sSet_ev hhd)).trans ?_
    have hcond : t1 (e2 eqD (eVar 4) (eVar 3)) [.val T, .val (tiD L), .val (.int H), .val (.int (c : Nat)), .val (.int (h : Nat)), .un, .un, .un, .un, .un, .un, .un, .un] = some (decide (h = c)) := by
      refine t1_ev (e2_ev rfl rfl ((eqD_int _ _).trans ?_))
      congr 2
      exact decide_eq_decide.mpr (by omega)
    by_cases q : h = c
    · rw [decide_eq_true q] at hcond
      rw [if_pos q]
      refine sSeq_rt ((sIf_t hcond).trans ?_)
      have hle : t1 (e2 leD (e2 addD (e2 ixG (eVar 1) (eVar 3)) (eC (.int 1))) (eVar 2)) [.val T, .val (tiD L), .val (.int H), .val (.int (c : Nat)), .val (.int (h : Nat)), .un, .un, .un, .un, .un, .un, .un, .un] = some (fitL L h H h h) := by
        refine t1_ev (e2_ev (e2_ev (e2_ev rfl rfl (getL L c (by omega))) rfl (addD_int _ _)) rfl ((leD_int _ _).trans ?_))
        unfold fitL
        congr 2
        exact decide_eq_decide.mpr (by rw [q]; omega)
      cases hz : fitL L h H h h with
      | true =>
        rw [hz] at hle
        refine sRet_ev ((eIf_t hle (by rfl)).trans ?_)
        rw [if_pos rfl, q]
        rfl
      | false =>
        rw [hz] at hle
        refine sRet_ev ((eIf_f hle (by rfl)).trans ?_)
        rw [if_neg (by decide)]
        rfl
    · rw [decide_eq_false q] at hcond
      rw [if_neg q]
      refine (sSeq_nx ((sIf_f hcond).trans rfl)).trans ?_
      refine (sSeq_nx (e := [.val T, .val (tiD L), .val (.int H), .val (.int (c : Nat)), .val (.int (h : Nat)), .own [], .un, .un, .un, .un, .un, .un, .un]) (by rfl)).trans ?_
      refine (sSeq_nx (e := [.val T, .val (tiD L), .val (.int H), .val (.int (c : Nat)), .val (.int (h : Nat)), .own [], .val (.int (h : Nat)), .un, .un, .un, .un, .un, .un]) (by rfl)).trans ?_
      have hlp := lpag_loop t ht T hT L H hL c h e_c (by omega) E hEp (fun x => by rw [hEb x, e_h, e_c]) 100 h [] .un .un .un .un (Nat.le_refl _) (by omega) (by omega) (by simp)
      cases hg : gr (fitL L h H) (E ++ [c]) c 100 h with
      | none =>
        rw [hg] at hlp
        exact sSeq_rt hlp
      | some Q =>
        rw [hg] at hlp
        obtain ⟨z6, z7, z8, z9, z10, hlp⟩ := hlp
        exact (sSeq_nx hlp).trans rfl
/-! ### fewer pages for lower rows, the best for any key -/
theorem pgs_mono (t : LTab) (ht : TabOk t) (E : List Nat) (hEp : E.Pairwise (· < ·)) (hEb : ∀ x ∈ E, t.heads < x ∧ x < t.rows.length) (L M : List Int) (H : Int) (hl : L.length = t.rows.length + 1) (hl' : M.length = t.rows.length + 1) (l0 : M.getD 0 0 = L.getD 0 0)
    (hi : ∀ j, j + 1 < L.length → 0 ≤ M.getD (j + 1) 0 - M.getD j 0 ∧ M.getD (j + 1) 0 - M.getD j 0 ≤ L.getD (j + 1) 0 - L.getD j 0) (P1 : List (Nat × Nat)) (h : pgs t E L H = some P1) : ∃ P2, pgs t E M H = some P2 ∧ P2.length ≤ P1.length := by
  have hh := ht.nh
  have hr := ht.nr
  have hfit := fit_step L M t.heads t.rows.length H H (Int.le_refl _) hl hl' hh.1 l0 hi
  unfold pgs at h ⊢
  by_cases q : t.heads = t.rows.length
  · rw [if_pos q] at h ⊢
    cases hz : fitL L t.heads H t.heads t.heads with
    | true =>
      rw [hz] at h
      rw [hfit t.heads t.heads t.heads (Nat.le_refl _) (Nat.le_refl _) hh.1 hz]
      exact ⟨P1, h, Nat.le_refl _⟩
    | false => rw [hz] at h; cases h
  · rw [if_neg q] at h ⊢
    refine gr_le ?_ ?_ (fun f1 f2 b q1 q2 q3 => hfit f1 f2 b q1 (by omega) q3) 100 t.heads 100 t.heads P1 (by omega) (by omega) (Nat.le_refl _) hh.1 h
    · rw [List.pairwise_append]
      refine ⟨hEp, List.pairwise_singleton _ _, fun a ha b hb => ?_⟩
      rw [List.mem_singleton.mp hb]
      exact (hEb a ha).2
    · intro b hb
      rcases List.mem_append.mp hb with hb | hb
      · have := hEb b hb; omega
      · rw [List.mem_singleton.mp hb]; exact Nat.le_refl _
abbrev K4 := Int × Int × Int × List Int
def k4lt (a b : K4) : Prop := a.1 < b.1 ∨ (a.1 = b.1 ∧ klt a.2 b.2)
theorem k4_trans {a b c : K4} (h1 : k4lt a b) (h2 : k4lt b c) : k4lt a c := by
  rcases h1 with h1 | ⟨e1, h1⟩
  · rcases h2 with h2 | ⟨e2, _⟩
    · exact .inl (by omega)
    · exact .inl (by omega)
  · rcases h2 with h2 | ⟨e2, h2⟩
    · exact .inl (by omega)
    · exact .inr ⟨by omega, klt_trans h1 h2⟩
theorem k4_tri (a b : K4) : k4lt a b ∨ a = b ∨ k4lt b a := by
  by_cases h : a.1 < b.1
  · exact .inl (.inl h)
  by_cases h' : b.1 < a.1
  · exact .inr (.inr (.inl h'))
  have e : a.1 = b.1 := by omega
  rcases klt_tri a.2 b.2 with q | q | q
  · exact .inl (.inr ⟨e, q⟩)
  · exact .inr (.inl (Prod.ext e q))
  · exact .inr (.inr (.inr ⟨e.symm, q⟩))
theorem k4le_trans {a b c : K4} (h1 : ¬ k4lt b a) (h2 : ¬ k4lt c b) : ¬ k4lt c a := fun h => by
  rcases k4_tri a b with q | rfl | q
  · exact h2 (k4_trans h q)
  · exact h2 h
  · exact h1 q
theorem best_gen (t : LTab) (ht : TabOk t) (gs : List Int) (Ps : List LP) (hgl : gs.length = t.rows.length) (hg : ∀ (j : Nat) (row : LRow) (g : Int), t.rows[j]? = some row → gs[j]? = some g → GH t j row g) (hP : ∀ p ∈ Ps, Ltt t gs p) (hA : ∀ hs, Try t gs hs → (∃ X, Lay t (laF hs) X ∧ X t.cols.length ≤ 2000) → ∃ xs, (xs, laF hs) ∈ Ps)
    (kf : LP → K4) (ok : LP → Prop) (hk : ∀ p q : LP, Qlt t p → Qlt t q → ok q → (∀ v, v < t.cols.length + 1 → at0 p.1 v ≤ at0 q.1 v) → (∀ j, j < t.rows.length → (hts p.2).getD j 0 ≤ (hts q.2).getD j 0) → (p.2.getD t.rows.length 0 < q.2.getD t.rows.length 0 ∨ p.2 = q.2) → ok p ∧ ¬ k4lt (kf q) (kf p)) (hk2 : ∀ p q : LP, kf p = kf q → hts p.2 = hts q.2) (hk3 : ∀ p q : LP, kf p = kf q → p.2.getD t.rows.length 0 = q.2.getD t.rows.length 0)
    (m : LP) (hm : m ∈ Ps) (hbest : ∀ p ∈ Ps, ok p → ¬ k4lt (kf p) (kf m)) (q : LP) (hq : Qlt t q) (hb : at0 q.1 t.cols.length ≤ 2000) (okq : ok q) : q = m ∨ k4lt (kf m) (kf q) ∨ (kf m = kf q ∧ llt m.1 q.1) := by
  obtain ⟨p, p1, p2, p3, p5, p4⟩ := better t ht gs Ps hgl hg hP hA q hq hb
  obtain ⟨okp, k2⟩ := hk p q (ltt_q (hP p p1)) hq okq p2 p5 p4
  have lp := ltt_len (hP p p1)
  have lq := q_len hq
  have k1 := hbest p p1 okp
  have k3 := k4le_trans k1 k2
  rcases k4_tri (kf m) (kf q) with z | z | z
  · exact .inr (.inl z)
  · have e2 := hts_inj (ltt_q (hP m hm)) hq (hk2 _ _ z)
    have e3 := hk3 _ _ z
    have e4 : p.2 = q.2 := by
      rcases p4 with y | y
      · exfalso
        have hpm : ¬ k4lt (kf m) (kf p) := fun c => k2 (z ▸ c)
        rcases k4_tri (kf m) (kf p) with c | c | c
        · exact hpm c
        · have := hk3 _ _ c
          omega
        · exact k1 c
      · exact y
    have e5 : p = m := ltt_same (hP p p1) (hP m hm) (by rw [e4, e2])
    subst e5
    rcases llt_of (x := p.1) (y := q.1) (by rw [lp.1, lq.1]) (fun v hv => p2 v (by rw [lp.1] at hv; exact hv)) with e | e
    · left
      obtain ⟨px, py⟩ := p
      obtain ⟨qx, qy⟩ := q
      have e : px = qx := e
      have e4 : py = qy := e4
      rw [e, e4]
    · exact .inr (.inr ⟨z, e⟩)
  · exact absurd z k3
theorem q_get {t : LTab} {p : LP} (h : Qlt t p) : p.2.getD 0 0 = 0 ∧ ∀ j, j < t.rows.length → p.2.getD (j + 1) 0 - p.2.getD j 0 - 1 = (hts p.2).getD j 0 ∧ True := by
  have hl := (q_len h).2
  obtain ⟨hs, _, _, h3, _⟩ := h
  refine ⟨by rw [h3]; exact (laF_spec hs).2.1, fun j hj => ⟨?_, trivial⟩⟩
  rw [hts_get _ j (by rw [hl]; omega)]
theorem q_one {t : LTab} (ht : TabOk t) {p : LP} (h : Qlt t p) : ∀ j, j < t.rows.length → 1 ≤ (hts p.2).getD j 0 := fun j hj => by
  obtain ⟨hs, h1, h2, h3, _⟩ := h
  rw [h3, hts_la]
  have a := h2 j (by omega)
  have b := (ht.row _ (List.mem_of_getElem? (gD_of (l := t.rows) (j := j) (d := (0, false, false)) hj))).1
  omega
/-! ### fewest_pages -/
abbrev DV := LP × List (Nat × Nat)
abbrev dvD (d : DV) : PyData := .tuple [pD d.1, .list (d.2.map prN)]
def key4 (t : LTab) (d : DV) : K4 := ((d.2.length : Nat), d.1.2.getD t.rows.length 0 + 1, d.1.1.getD t.cols.length 0 + 1, hts d.1.2)
def key4D (a : K4) : PyData := .tuple [.int a.1, .int a.2.1, .int a.2.2.1, tiD a.2.2.2]
theorem key4_ok (a : K4) : noD (key4D a) = true ∧ (key4D a).depth ≤ 60 ∧ key4D a ≠ .none := by
  refine ⟨?_, ?_, by unfold key4D; intro h; cases h⟩
  · simp [key4D, noD, noDA, noD_ints]
  · simp [key4D, PyData.depth, PyData.depthAll, depth_ints]
theorem key4_alike (a b : K4) : PySem.W.alike (key4D a) (key4D b) = true := by
  simp [key4D, PySem.W.alike, PySem.W.alikeAll, alike_ints2]
theorem key4_lt {a b : K4} (h : k4lt a b) : PySem.W.dataLt (key4D a) (key4D b) = true := by
  refine (PySem.W.dataLt_tuple _ _).trans ?_
  rcases h with h | ⟨e1, h | ⟨e2, h | ⟨e3, h⟩⟩⟩
  · exact lx_int h
  · rw [e1, lx_int_eq]; exact lx_int h
  · rw [e1, lx_int_eq, e2, lx_int_eq]; exact lx_int h
  · rw [e1, lx_int_eq, e2, lx_int_eq, e3, lx_int_eq]; exact lx_ti h
theorem bp_ev (t : LTab) (ht : TabOk t) (d : DV) (h : d.1.1.length = t.cols.length + 1 ∧ d.1.2.length = t.rows.length + 1) : g_by_pages [dvD d] = some (key4D (key4 t d)) := by
  have := ht.nr
  refine gDef_ev' (fB := f_by_pages) [.val (dvD d), .un, .un] rfl rfl ?_
  unfold f_by_pages
  refine (sSeq_nx (e := [.val (dvD d), .val (pD d.1), .val (.list (d.2.map prN))]) (sUnp_ev rfl rfl)).trans ?_
  refine sRet_ev (eTup_ev (aCons_ev ((len_l (ds := d.2.map prN) rfl).trans (by rw [List.length_map]; rfl)) (aCons_ev (eCall_ev (aCons_ev rfl aNil_ev) (hei_ev d.1 _ h.2)) (aCons_ev (eCall_ev (aCons_ev rfl aNil_ev) (wid_ev d.1 _ h.1)) (aCons_ev (eCall_ev (aCons_ev (e2_ev (x := pD d.1) (y := .int 1) rfl rfl rfl) aNil_ev) (iss_ev d.1.2 (by omega) (by omega))) aNil_ev)))) (by simp))
def dvs1 (t : LTab) (E : List Nat) (W H : Int) (p : LP) : Option DV := if p.1.getD t.cols.length 0 + 1 ≤ W then (pgs t E p.2 H).map fun P => (p, P) else none
theorem isnt_pg (o : Option (List (Nat × Nat))) : isntD (pgD o) .none = some (.bool o.isSome) := by
  cases o <;> rfl
theorem fw_loop (t : LTab) (ht : TabOk t) (T : PyData) (hT : T = tabD t) (E : List Nat) (hpg : ∀ (L : List Int) (H : Int), L.length = t.rows.length + 1 → g_paginate [tabD t, tiD L, .int H] = some (pgD (pgs t E L H))) (W H : Int) (a1 : Sl) : ∀ (Ps : List LP) (acc : List DV) (y5 y6 : Sl), (∀ p ∈ Ps, p.1.length = t.cols.length + 1 ∧ p.2.length = t.rows.length + 1) → acc.length + Ps.length ≤ 1000 →
    ∃ z5 z6, loopF (gVal 5) b_fewest_of_1 (Ps.map pD) [.val T, a1, .val (.int W), .val (.int H), .own (acc.map dvD), y5, y6] = .nx [.val T, a1, .val (.int W), .val (.int H), .own ((acc ++ Ps.filterMap (dvs1 t E W H)).map dvD), z5, z6]
  | [], acc, y5, y6, _, _ => ⟨y5, y6, by simp [loopF]⟩
  | p :: Ps, acc, y5, y6, hp, hl => by
    rw [List.length_cons] at hl
    obtain ⟨p1, p2⟩ := hp p List.mem_cons_self
    obtain ⟨A, hAe⟩ : ∃ A, A = acc ++ (dvs1 t E W H p).toList := ⟨_, rfl⟩
    have hb : ∃ z6, b_fewest_of_1 [.val T, a1, .val (.int W), .val (.int H), .own (acc.map dvD), .val (pD p), y6] = .nx [.val T, a1, .val (.int W), .val (.int H), .own (A.map dvD), .val (pD p), z6] := by
      have tst := t1_ev (e2_ev (f := eCall g_width_of (aCons (eVar 5) aNil)) (g := eVar 2) (env := [.val T, a1, .val (.int W), .val (.int H), .own (acc.map dvD), .val (pD p), y6]) (eCall_ev (aCons_ev rfl aNil_ev) (wid_ev p _ p1)) rfl (leD_int _ W))
      unfold b_fewest_of_1
      by_cases q : p.1.getD t.cols.length 0 + 1 ≤ W
      · rw [decide_eq_true q] at tst
        refine ⟨.val (pgD (pgs t E p.2 H)), (sIf_t tst).trans ?_⟩
        refine (sSeq_nx (e := [.val T, a1, .val (.int W), .val (.int H), .own (acc.map dvD), .val (pD p), .val (pgD (pgs t E p.2 H))]) (sSet_ev (eCall_ev (aCons_ev rfl (aCons_ev (e2_ev (x := pD p) (y := .int 1) rfl rfl rfl) (aCons_ev rfl aNil_ev))) (by rw [hT]; exact hpg p.2 H p2)))).trans ?_
        have t2 : t1 (e2 isntD (eVar 6) (eC .none)) [.val T, a1, .val (.int W), .val (.int H), .own (acc.map dvD), .val (pD p), .val (pgD (pgs t E p.2 H))] = some (pgs t E p.2 H).isSome := t1_ev (e2_ev rfl rfl (isnt_pg _))
        rw [hAe]
        unfold dvs1
        rw [if_pos q]
        cases hz : pgs t E p.2 H with
        | none =>
          rw [hz] at t2
          refine (sIf_f t2).trans ?_
          show _ = Out.nx [_, _, _, _, .own ((acc ++ []).map dvD), _, _]
          rw [List.append_nil]
          rfl
        | some P =>
          rw [hz] at t2
          refine (sIf_t t2).trans ?_
          show _ = Out.nx [_, _, _, _, .own ((acc ++ [(p, P)]).map dvD), _, _]
          rw [List.map_append]
          exact sApp_ev (i := 4) (d := dvD (p, P)) (eTup_ev (aCons_ev rfl (aCons_ev rfl aNil_ev)) (by simp)) rfl (by rw [List.length_map]; omega)
      · rw [decide_eq_false q] at tst
        refine ⟨y6, (sIf_f tst).trans ?_⟩
        rw [hAe]
        unfold dvs1
        rw [if_neg q]
        show _ = Out.nx [_, _, _, _, .own ((acc ++ []).map dvD), _, _]
        rw [List.append_nil]
        rfl
    obtain ⟨z6, hb⟩ := hb
    have hAl : A.length ≤ acc.length + 1 := by
      rw [hAe, List.length_append]
      cases dvs1 t E W H p <;> simp
    obtain ⟨w5, w6, ih⟩ := fw_loop t ht T hT E hpg W H a1 Ps A (.val (pD p)) z6 (fun r hr => hp r (List.mem_cons_of_mem _ hr)) (by omega)
    refine ⟨w5, w6, ?_⟩
    have e : acc ++ (p :: Ps).filterMap (dvs1 t E W H) = A ++ Ps.filterMap (dvs1 t E W H) := by
      rw [hAe, List.filterMap_cons]
      cases dvs1 t E W H p with
      | none => simp
      | some d => simp
    rw [e, List.map_cons, ← ih]
    exact loop_cons rfl hb
theorem fw_ev (t : LTab) (ht : TabOk t) (E : List Nat) (hpg : ∀ (L : List Int) (H : Int), L.length = t.rows.length + 1 → g_paginate [tabD t, tiD L, .int H] = some (pgD (pgs t E L H))) (Ps : List LP) (hPs : g_least_layouts [tabD t] = some (.list (Ps.map pD))) (hl : Ps.length ≤ 64) (hp : ∀ p ∈ Ps, p.1.length = t.cols.length + 1 ∧ p.2.length = t.rows.length + 1) (W H : Int) :
    ((∀ p ∈ Ps, p.1.getD t.cols.length 0 + 1 ≤ W → pgs t E p.2 H = none) ∧ g_fewest_pages [tabD t, .int W, .int H] = some .none) ∨ ∃ m ∈ Ps, ∃ P, m.1.getD t.cols.length 0 + 1 ≤ W ∧ pgs t E m.2 H = some P ∧ g_fewest_pages [tabD t, .int W, .int H] = some (dvD (m, P)) ∧ ∀ p ∈ Ps, ∀ Q, p.1.getD t.cols.length 0 + 1 ≤ W → pgs t E p.2 H = some Q → ¬ k4lt (key4 t (p, Q)) (key4 t (m, P)) := by
  obtain ⟨D, hD⟩ : ∃ D, D = Ps.filterMap (dvs1 t E W H) := ⟨_, rfl⟩
  have mem : ∀ d, d ∈ D ↔ d.1 ∈ Ps ∧ d.1.1.getD t.cols.length 0 + 1 ≤ W ∧ pgs t E d.1.2 H = some d.2 := fun d => by
    rw [hD, List.mem_filterMap]
    unfold dvs1
    constructor
    · rintro ⟨p, hp, h⟩
      by_cases q : p.1.getD t.cols.length 0 + 1 ≤ W
      · rw [if_pos q] at h
        cases hz : pgs t E p.2 H with
        | none => rw [hz] at h; cases h
        | some P => rw [hz] at h; cases h; exact ⟨hp, q, hz⟩
      · rw [if_neg q] at h; cases h
    · rintro ⟨h1, h2, h3⟩
      exact ⟨d.1, h1, by rw [if_pos h2, h3]; rfl⟩
  obtain ⟨T, hT⟩ : ∃ T, T = tabD t := ⟨_, rfl⟩
  obtain ⟨z5, z6, hlp⟩ := fw_loop t ht T hT E hpg W H (.val (.list (Ps.map pD))) Ps [] .un .un hp (by simp; omega)
  rw [List.nil_append, ← hD] at hlp
  have run : ∀ d, eMinKD g_by_pages (eVar 4) (eC .none) [.val T, .val (.list (Ps.map pD)), .val (.int W), .val (.int H), .val (.list (D.map dvD)), z5, z6] = some d → g_fewest_pages [tabD t, .int W, .int H] = some d := fun d hd => by
    have h1 : g_fewest_of [T, .list (Ps.map pD), .int W, .int H] = some d := by
      refine gDef_ev' (fB := f_fewest_of) [.val T, .val (.list (Ps.map pD)), .val (.int W), .val (.int H), .un, .un, .un] rfl rfl ?_
      unfold f_fewest_of
      refine (sSeq_nx (e := [.val T, .val (.list (Ps.map pD)), .val (.int W), .val (.int H), .own [], .un, .un]) (by rfl)).trans ?_
      refine (sSeq_nx (sFor_ev (ds := Ps.map pD) (iSeq_l rfl) hlp)).trans ?_
      exact sRet_ev hd
    rw [← hT] at hPs ⊢
    refine gDef_ev' (fB := f_fewest_pages) [.val T, .val (.int W), .val (.int H)] rfl rfl ?_
    unfold f_fewest_pages
    exact sRet_ev (eCall_ev (aCons_ev rfl (aCons_ev (eCall_ev (aCons_ev rfl aNil_ev) hPs) (aCons_ev rfl (aCons_ev rfl aNil_ev)))) h1)
  rcases minKD_ev (u := dvD) (k := fun d => key4D (key4 t d)) (L := D) (gk := g_by_pages) (f := eVar 4) (fy := eC .none) (env := [.val T, .val (.list (Ps.map pD)), .val (.int W), .val (.int H), .val (.list (D.map dvD)), z5, z6]) rfl (fun d h => bp_ev t ht d (hp d.1 ((mem d).mp h).1)) rfl (fun x _ => key4_ok _) (fun x _ y _ => key4_alike _ _) with ⟨e, r⟩ | ⟨d, h1, h2, h3⟩
  · left
    refine ⟨fun p h q => ?_, run _ r⟩
    cases hz : pgs t E p.2 H with
    | none => rfl
    | some P =>
      have : (p, P) ∈ D := (mem (p, P)).mpr ⟨h, q, hz⟩
      rw [e] at this
      cases this
  · right
    obtain ⟨q1, q2, q3⟩ := (mem d).mp h1
    refine ⟨d.1, q1, d.2, q2, q3, run _ h2, fun p h Q q hz c => ?_⟩
    have := h3 (p, Q) ((mem (p, Q)).mpr ⟨h, q, hz⟩)
    rw [key4_lt c] at this
    cases this
/-! ### the law -/
def k4L (t : LTab) (d : DV) : K4 := ((d.2.length : Nat), d.1.2.getD t.rows.length 0, d.1.1.getD t.cols.length 0, hts d.1.2)
theorem k4_iff (t : LTab) (a b : DV) : k4lt (key4 t a) (key4 t b) ↔ k4lt (k4L t a) (k4L t b) := by
  unfold k4lt klt key4 k4L
  simp only []
  constructor
  · rintro (h | ⟨h0, h | ⟨h1, h | ⟨h2, h⟩⟩⟩)
    · exact .inl h
    · exact .inr ⟨h0, .inl (by omega)⟩
    · exact .inr ⟨h0, .inr ⟨by omega, .inl (by omega)⟩⟩
    · exact .inr ⟨h0, .inr ⟨by omega, .inr ⟨by omega, h⟩⟩⟩
  · rintro (h | ⟨h0, h | ⟨h1, h | ⟨h2, h⟩⟩⟩)
    · exact .inl h
    · exact .inr ⟨h0, .inl (by omega)⟩
    · exact .inr ⟨h0, .inr ⟨by omega, .inl (by omega)⟩⟩
    · exact .inr ⟨h0, .inr ⟨by omega, .inr ⟨by omega, h⟩⟩⟩
/-- an item of the law's list -/
def itD (t : LTab) (d : DV) : PyData := .tuple [.int (k4L t d).1, .int (k4L t d).2.1, .int (k4L t d).2.2.1, tiD (k4L t d).2.2.2, tiD d.1.1, pD d.1, .list (d.2.map prN)]
theorem it_lt (t : LTab) (a b : DV) (h : k4lt (k4L t a) (k4L t b) ∨ (k4L t a = k4L t b ∧ llt a.1.1 b.1.1)) : PySem.W.dataLt (itD t a) (itD t b) = true := by
  refine (PySem.W.dataLt_tuple _ _).trans ?_
  rcases h with (h | ⟨e1, h | ⟨e2, h | ⟨e3, h⟩⟩⟩) | ⟨e, h⟩
  · exact lx_int h
  · rw [e1, lx_int_eq]; exact lx_int h
  · rw [e1, lx_int_eq, e2, lx_int_eq]; exact lx_int h
  · rw [e1, lx_int_eq, e2, lx_int_eq, e3, lx_int_eq]; exact lx_ti h
  · rw [e, lx_int_eq, lx_int_eq, lx_int_eq, lx_ti_eq]; exact lx_ti h
theorem prs_alike : ∀ P Q : List (Nat × Nat), PySem.W.alikeAll (P.map prN) (Q.map prN) = true
  | [], _ => by simp [PySem.W.alikeAll]
  | _ :: _, [] => by simp [PySem.W.alikeAll]
  | p :: P, q :: Q => by
    have := prs_alike P Q
    simp only [List.map_cons, PySem.W.alikeAll, this, Bool.and_true]
    simp [prN, PySem.W.alike, PySem.W.alikeAll]
theorem it_alike (t : LTab) (a b : DV) : PySem.W.alike (itD t a) (itD t b) = true := by
  unfold itD
  simp [PySem.W.alike, PySem.W.alikeAll, alike_ints2, prs_alike]
theorem prs_noD : ∀ P : List (Nat × Nat), noDA (P.map prN) = true ∧ PyData.depthAll (P.map prN) ≤ 1 ∧ PyData.canLayAll0 (P.map prN) = true
  | [] => by simp [noDA, PyData.depthAll, PyData.canLayAll0]
  | p :: P => by
    obtain ⟨h1, h2, h3⟩ := prs_noD P
    refine ⟨?_, ?_, ?_⟩
    · simp [prN, noDA, noD, h1]
    · simp [prN, PyData.depthAll, PyData.depth, h2]
    · simp [prN, PyData.canLayAll0, PyData.canLay0, h3]
theorem it_ok (t : LTab) (a : DV) : noD (itD t a) = true ∧ (itD t a).depth ≤ 60 := by
  obtain ⟨h1, h2, h3⟩ := prs_noD a.2
  unfold itD
  constructor
  · simp [noD, noDA, noD_ints, h1]
  · simp [PyData.depth, PyData.depthAll, depth_ints]
    omega
theorem shaped_dv (d : DV) : SeqAt.shaped (dvD d) = true := by
  obtain ⟨h1, h2⟩ := lay_ints d.1.1
  obtain ⟨h3, h4⟩ := lay_ints d.1.2
  obtain ⟨_, h5, h6⟩ := prs_noD d.2
  unfold SeqAt.shaped
  simp [dvD, pD, PyData.canLay0, PyData.canLayAll0, PyData.depth, PyData.depthAll, h1, h2, h3, h4, h6]
  omega
theorem dataLt_asym {a b : PyData} (h : PySem.W.dataLt a b = true) : PySem.W.dataLt b a = false := by
  cases e : PySem.W.dataLt b a with
  | false => rfl
  | true =>
    have := dataLt_trans h e
    rw [PySem.W.dataLt_self] at this
    cases this
theorem minB_it (t : LTab) (L : List DV) : minB (L.map (itD t)) = true := by
  unfold minB
  rw [Bool.and_eq_true, List.all_eq_true, List.all_eq_true]
  refine ⟨fun d hd => ?_, fun d hd => ?_⟩
  · obtain ⟨p, _, rfl⟩ := List.mem_map.mp hd
    obtain ⟨h1, h2⟩ := it_ok t p
    rw [Bool.and_eq_true, Bool.and_eq_true]
    exact ⟨⟨h1, decide_eq_true h2⟩, rfl⟩
  · rw [List.all_eq_true]
    intro e he
    obtain ⟨p, _, rfl⟩ := List.mem_map.mp hd
    obtain ⟨q, _, rfl⟩ := List.mem_map.mp he
    exact it_alike t p q
theorem lh_ev (ys : List Int) (h0 : 0 < ys.length) (hl : ys.length ≤ 1000) : g_Lheights [tiD ys] = some (tiD (hts ys)) := by
  obtain ⟨Y, hY⟩ : ∃ Y, Y = tiD ys := ⟨_, rfl⟩
  rw [← hY]
  refine gDef_ev' (fB := f_Lheights) [.val Y, .un] rfl rfl ?_
  unfold f_Lheights
  obtain ⟨n, hn⟩ : ∃ n : Nat, n = ys.length - 1 := ⟨_, rfl⟩
  refine sRet_ev ((eCall_ev (aCons_ev (eL_ev (fCmp_ev (ds := rngD 0 n) (vs := (List.range n).map fun k : Nat => PyData.int (ys.getD (k + 1) 0 - ys.getD k 0 - 1)) ?_ (compF_mapS fun k hk => ⟨_, rfl, ?_⟩) (by simp; omega))) aNil_ev) rfl).trans ?_)
  · have := iR1_ev (fa := aCons (e2 subD (eCall lenA (aCons (eVar 0) aNil)) (eC (.int 1))) aNil) (env := [.val Y, .un]) (N := (n : Nat)) (aCons_ev (by
      refine (e2_ev (x := .int (ys.length : Nat)) ((eCall_ev (aCons_ev rfl aNil_ev) (by rw [hY]; rfl)).trans (by show some (PyData.int (List.length _ : Nat)) = _; rw [List.length_map])) rfl (subD_int _ _)).trans ?_
      rw [show ((ys.length : Nat) : Int) - 1 = (n : Nat) from by omega]) aNil_ev) (by omega) (by omega)
    rw [Int.toNat_natCast] at this
    exact this
  · have hk' := List.mem_range.mp hk
    obtain ⟨kv, hkv⟩ : ∃ z : Int, z = 0 + (k : Nat) := ⟨_, rfl⟩
    rw [← hkv]
    have e1 : e2 ixG (eVar 0) (e2 addD (eVar 1) (eC (.int 1))) [.val Y, .val (.int kv)] = some (.int (ys.getD (k + 1) 0)) := by
      refine e2_ev (x := tiD ys) (by rw [hY]; rfl) (e2_ev rfl rfl (addD_int _ _)) ?_
      have := dr_ix (ds := ys) (i := kv + 1) ⟨by omega, by omega⟩
      rw [show (kv + 1).toNat = k + 1 from by omega] at this
      exact this
    have e2' : e2 ixG (eVar 0) (eVar 1) [.val Y, .val (.int kv)] = some (.int (ys.getD k 0)) := by
      refine e2_ev (x := tiD ys) (by rw [hY]; rfl) rfl ?_
      have := dr_ix (ds := ys) (i := kv) ⟨by omega, by omega⟩
      rw [show kv.toNat = k from by omega] at this
      exact this
    exact e2_ev (e2_ev e1 e2' (subD_int _ _)) rfl (subD_int _ _)
  · unfold hts
    rw [← hn]
    show some (PyData.tuple _) = some (PyData.tuple _)
    rw [List.map_map]
    rfl
def its1 (t : LTab) (E : List Nat) (H : Int) (p : LP) : Option DV := (pgs t E p.2 H).map fun P => (p, P)
theorem it_loop (t : LTab) (ht : TabOk t) (T : PyData) (hT : T = tabD t) (E : List Nat) (hpg : ∀ (L : List Int) (H : Int), L.length = t.rows.length + 1 → g_Lpages [tabD t, tiD L, .int H] = some (pgD (pgs t E L H))) (S : Sl) (W H : Int) : ∀ (Ls : List LP) (acc : List DV) (y5 y6 y7 : Sl), (∀ p ∈ Ls, p.1.length = t.cols.length + 1 ∧ p.2.length = t.rows.length + 1) → acc.length + Ls.length ≤ 1000000 →
    ∃ z5 z6 z7, loopF (gT [5, 6]) b_law_1 (Ls.map pD) [S, .val T, .val (.int W), .val (.int H), .own (acc.map (itD t)), y5, y6, y7, .un, .un] = .nx [S, .val T, .val (.int W), .val (.int H), .own ((acc ++ Ls.filterMap (its1 t E H)).map (itD t)), z5, z6, z7, .un, .un]
  | [], acc, y5, y6, y7, _, _ => ⟨y5, y6, y7, by simp [loopF]⟩
  | p :: Ls, acc, y5, y6, y7, hp, hl => by
    rw [List.length_cons] at hl
    have hr := ht.nr
    obtain ⟨p1, p2⟩ := hp p List.mem_cons_self
    obtain ⟨A, hAe⟩ : ∃ A, A = acc ++ (its1 t E H p).toList := ⟨_, rfl⟩
    have hb : b_law_1 [S, .val T, .val (.int W), .val (.int H), .own (acc.map (itD t)), .val (tiD p.1), .val (tiD p.2), y7, .un, .un] = .nx [S, .val T, .val (.int W), .val (.int H), .own (A.map (itD t)), .val (tiD p.1), .val (tiD p.2), .val (pgD (pgs t E p.2 H)), .un, .un] := by
      unfold b_law_1
      refine (sSeq_nx (e := [S, .val T, .val (.int W), .val (.int H), .own (acc.map (itD t)), .val (tiD p.1), .val (tiD p.2), .val (pgD (pgs t E p.2 H)), .un, .un]) (sSet_ev (eCall_ev (aCons_ev rfl (aCons_ev rfl (aCons_ev rfl aNil_ev))) (by rw [hT]; exact hpg p.2 H p2)))).trans ?_
      have t2 : t1 (e2 isntD (eVar 7) (eC .none)) [S, .val T, .val (.int W), .val (.int H), .own (acc.map (itD t)), .val (tiD p.1), .val (tiD p.2), .val (pgD (pgs t E p.2 H)), .un, .un] = some (pgs t E p.2 H).isSome := t1_ev (e2_ev rfl rfl (isnt_pg _))
      rw [hAe]
      unfold its1
      cases hz : pgs t E p.2 H with
      | none =>
        rw [hz] at t2
        refine (sIf_f t2).trans ?_
        show _ = Out.nx [_, _, _, _, .own ((acc ++ []).map (itD t)), _, _, _, _, _]
        rw [List.append_nil]
        rfl
      | some P =>
        rw [hz] at t2
        refine (sIf_t t2).trans ?_
        show _ = Out.nx [_, _, _, _, .own ((acc ++ [(p, P)]).map (itD t)), _, _, _, _, _]
        rw [List.map_append]
        refine sApp_ev (i := 4) (d := itD t (p, P)) (eTup_ev (aCons_ev ((len_l (ds := P.map prN) rfl).trans (by rw [List.length_map]; rfl)) (aCons_ev (e2_ev (x := tiD p.2) (y := .int (-1)) rfl rfl (last_at p.2 _ p2)) (aCons_ev (e2_ev (x := tiD p.1) (y := .int (-1)) rfl rfl (last_at p.1 _ p1)) (aCons_ev (eCall_ev (aCons_ev rfl aNil_ev) (lh_ev p.2 (by omega) (by omega))) (aCons_ev rfl (aCons_ev (eTup_ev (aCons_ev rfl (aCons_ev rfl aNil_ev)) (by simp)) (aCons_ev rfl aNil_ev))))))) (by simp)) rfl (by rw [List.length_map]; omega)
    have hAl : A.length ≤ acc.length + 1 := by
      rw [hAe, List.length_append]
      cases its1 t E H p <;> simp
    obtain ⟨w5, w6, w7, ih⟩ := it_loop t ht T hT E hpg S W H Ls A (.val (tiD p.1)) (.val (tiD p.2)) (.val (pgD (pgs t E p.2 H))) (fun r hr => hp r (List.mem_cons_of_mem _ hr)) (by omega)
    refine ⟨w5, w6, w7, ?_⟩
    have e : acc ++ (p :: Ls).filterMap (its1 t E H) = A ++ Ls.filterMap (its1 t E H) := by
      rw [hAe, List.filterMap_cons]
      cases its1 t E H p with
      | none => simp
      | some d => simp
    rw [e, List.map_cons, ← ih]
    exact loop_cons rfl hb
/-! the other table -/
def otherT : LTab := ⟨[⟨1, none, none, "left"⟩, ⟨1, none, none, "left"⟩], [(1, false, false), (1, false, false), (1, false, false)], [⟨0, 0, 1, 1, []⟩, ⟨0, 1, 1, 1, []⟩, ⟨1, 0, 1, 1, ["bb", "bb"]⟩, ⟨1, 1, 1, 1, []⟩, ⟨2, 0, 1, 1, []⟩, ⟨2, 1, 1, 1, ["a", "eeeeeeee", "a"]⟩]⟩
theorem other_ev : g_Lother_table [] = some (tabD otherT) := by kernel_rfl
theorem other_ok : TabOk otherT := by
  refine ⟨⟨(by decide : 1 ≤ 2), (by decide : 2 ≤ 3)⟩, ⟨(by decide : 1 ≤ 3), (by decide : 3 ≤ 3)⟩, fun x hx => ?_, fun x hx => ?_, fun x hx => ?_, (by decide : 6 ≤ 9)⟩
  · have hx' : x = ⟨1, none, none, "left"⟩ := by
      have : x ∈ ([⟨1, none, none, "left"⟩, ⟨1, none, none, "left"⟩] : List LCol) := hx
      simpa using this
    rw [hx']
    exact ⟨⟨by decide, by decide⟩, fun m h => (by cases h), fun m h => (by cases h), List.mem_cons_self⟩
  · have hx' : x = (1, false, false) := by
      have : x ∈ ([(1, false, false), (1, false, false), (1, false, false)] : List LRow) := hx
      simpa using this
    rw [hx']
    exact ⟨by decide, by decide⟩
  · have hx' : x ∈ ([⟨0, 0, 1, 1, []⟩, ⟨0, 1, 1, 1, []⟩, ⟨1, 0, 1, 1, ["bb", "bb"]⟩, ⟨1, 1, 1, 1, []⟩, ⟨2, 0, 1, 1, []⟩, ⟨2, 1, 1, 1, ["a", "eeeeeeee", "a"]⟩] : List LCell) := hx
    show CellOk ((3 : Nat) : Int) ((2 : Nat) : Int) x
    simp only [List.mem_cons, List.not_mem_nil, or_false] at hx'
    rcases hx' with rfl | rfl | rfl | rfl | rfl | rfl <;> exact ⟨by decide, by decide, by decide, by decide, by decide, by decide, by decide, by decide +kernel⟩
theorem other_bd (gs : List Int) (hl : gs.length = otherT.rows.length) (hg : ∀ (j : Nat) (row : LRow) (g : Int), otherT.rows[j]? = some row → gs[j]? = some g → GH otherT j row g) : lastH gs ≤ 11 := by
  have hl3 : gs.length = 3 := hl
  have bd : ∀ j, j < 3 → gs.getD j 0 ≤ (j : Nat) + 1 := fun j hj => by
    have g := hg j (1, false, false) (gs.getD j 0) (by
      show ([(1, false, false), (1, false, false), (1, false, false)] : List LRow)[j]? = _
      rcases (by omega : j = 0 ∨ j = 1 ∨ j = 2) with rfl | rfl | rfl <;> rfl) (gD_of (by omega))
    rcases g.2.2 with e | ⟨x, hx, h1, h2, e⟩
    · rw [e]; show (1 : Int) ≤ _; omega
    · have hx' : x ∈ ([⟨0, 0, 1, 1, []⟩, ⟨0, 1, 1, 1, []⟩, ⟨1, 0, 1, 1, ["bb", "bb"]⟩, ⟨1, 1, 1, 1, []⟩, ⟨2, 0, 1, 1, []⟩, ⟨2, 1, 1, 1, ["a", "eeeeeeee", "a"]⟩] : List LCell) := hx
      simp only [List.mem_cons, List.not_mem_nil, or_false] at hx'
      rw [e]
      rcases hx' with rfl | rfl | rfl | rfl | rfl | rfl <;> simp at h1 h2 ⊢ <;> omega
  have e1 := la_get gs 0 (by omega)
  have e2 := la_get gs 1 (by omega)
  have e3 := la_get gs 2 (by omega)
  have e0 := (laF_spec gs).2.1
  have b0 := bd 0 (by omega)
  have b1 := bd 1 (by omega)
  have b2 := bd 2 (by omega)
  unfold lastH
  rw [hl3]
  simp only [Nat.zero_add, Nat.reduceAdd] at e1 e2 e3
  omega
theorem plain_bd (t : LTab) (ht : TabO2 t) (gs : List Int) (hl : gs.length = t.rows.length) (hg : ∀ (j : Nat) (row : LRow) (g : Int), t.rows[j]? = some row → gs[j]? = some g → GH t j row g) : lastH gs ≤ 11 := by
  have hr := ht.nr
  have hb := la_bound gs 2 (by omega) (fun j hj => by
    have g := hg j _ _ (gD_of (l := t.rows) (d := (0, false, false)) (by omega)) (gD_of (d := 0) hj)
    rcases g.2.2 with e | ⟨x, hx, _, _, e⟩
    · have := (ht.row _ (List.mem_of_getElem? (gD_of (l := t.rows) (j := j) (d := (0, false, false)) (by omega)))).2
      omega
    · have := (ht.cl x hx).f
      omega) gs.length (Nat.le_refl _)
  unfold lastH
  omega
theorem core (t : LTab) (ok : TabOk t) (hC : t.cols.length ≤ 2) (hbd : ∀ gs : List Int, gs.length = t.rows.length → (∀ (j : Nat) (row : LRow) (g : Int), t.rows[j]? = some row → gs[j]? = some g → GH t j row g) → lastH gs ≤ 11) (W H : Int) (hW : 3 ≤ W ∧ W ≤ 18) (T : PyData) (hT : T = tabD t) (S : Sl) :
    (sSeq (sOwn 4 (fLst aNil)) (sSeq (sFor (iSeq (eCall g_Llayouts (aCons (eVar 1) (aCons (e2 subD (eVar 2) (eC (.int 1))) (aCons (eC (.int 11)) aNil))))) (gT [5, 6]) b_law_1) (sSeq (sSet 8 (eCall g_fewest_pages (aCons (eVar 1) (aCons (eVar 2) (aCons (eVar 3) aNil))))) (sSeq (fun env => (sIf (t1 (e2 eqD (eCall lenA (aCons (eVar 4) aNil)) (eC (.int 0)))) (sRet (e2 isD (eVar 8) (eC .none))) sNil) (frz 4 env)) (sSeq (sSet 9 (eMinD (eVar 4))) (sRet (eAnd (eIsi "tuple" (eVar 8)) (e2 eqD (eVar 8) (eTup (aCons (e2 ixG (eVar 9) (eC (.int 5))) (aCons (e2 ixG (eVar 9) (eC (.int 6))) aNil))))))))))) [S, .val T, .val (.int W), .val (.int H), .un, .un, .un, .un, .un, .un] = .rt (.bool true) := by
  have hnr := ok.nr
  have hnc := ok.nc
  obtain ⟨E, hEp, hEb, hpg⟩ := pag_ev t ok
  obtain ⟨gs, Ps, g1, g2, hPs, hPl, hP, hA⟩ := ll_ev t ok
  have hlen : ∀ p ∈ Ps, p.1.length = t.cols.length + 1 ∧ p.2.length = t.rows.length + 1 := fun p hp => ltt_len (hP p hp)
  have e18 : (18 : Nat) ^ t.cols.length ≤ 18 ^ 2 := Nat.pow_le_pow_right (by decide) (by omega)
  have e12 : (12 : Nat) ^ t.rows.length ≤ 12 ^ 3 := Nat.pow_le_pow_right (by decide) (by omega)
  obtain ⟨Ls, hLs, hLl, hLm⟩ := layouts_ev t ok (W - 1) 11 18 12 (by omega) (by omega) (Nat.le_trans (Nat.mul_le_mul e12 e18) (by decide)) (by omega)
  have hLq : ∀ p, p ∈ Ls ↔ ∃ hs, hs.length = t.rows.length ∧ (∀ j, j < hs.length → (t.rows.getD j (0, false, false)).1 ≤ hs.getD j 0) ∧ p.2 = laF hs ∧ lastH hs ≤ 11 ∧ p.1.length = t.cols.length + 1 ∧ Lay t (laF hs) (at0 p.1) ∧ at0 p.1 t.cols.length ≤ W - 1 := fun p => by rw [hLm p, lay_mem t ok]
  have hLQ : ∀ p ∈ Ls, Qlt t p ∧ at0 p.1 t.cols.length ≤ W - 1 := fun p hp => by
    obtain ⟨hs, h1, h2, h3, h4, h5, h6, h7⟩ := (hLq p).mp hp
    exact ⟨⟨hs, h1, h2, h3, h5, h6⟩, h7⟩
  have hLlen : ∀ p ∈ Ls, p.1.length = t.cols.length + 1 ∧ p.2.length = t.rows.length + 1 := fun p hp => q_len (hLQ p hp).1
  have hgs := hbd gs g1 g2
  have hsub : ∀ p ∈ Ps, p.1.getD t.cols.length 0 + 1 ≤ W → p ∈ Ls := fun p hp hw => by
    obtain ⟨hs, h1, h2, h3⟩ := hP p hp
    refine (hLq p).mpr ⟨hs, h1.1, fun j hj => (h1.2 j hj).1, h2, ?_, h3.1, h3.2.1, by show p.1.getD t.cols.length 0 ≤ _; omega⟩
    have := (lastH_le hs gs (by rw [h1.1, g1]) fun j hj => (h1.2 j hj).2).1
    omega
  have hEb' : ∀ x ∈ E, t.heads < x ∧ x < t.rows.length := fun x hx => ((hEb x).mp hx).1
  -- lower rows
  have mono : ∀ p q : LP, Qlt t p → Qlt t q → (∀ j, j < t.rows.length → (hts p.2).getD j 0 ≤ (hts q.2).getD j 0) → ∀ Q, pgs t E q.2 H = some Q → ∃ P, pgs t E p.2 H = some P ∧ P.length ≤ Q.length := fun p q hp hq hh Q hQ => by
    have lp := (q_len hp).2
    have lq := (q_len hq).2
    obtain ⟨p0, p1⟩ := q_get hp
    obtain ⟨q0, q1⟩ := q_get hq
    refine pgs_mono t ok E hEp hEb' q.2 p.2 H lq lp (by rw [p0, q0]) (fun j hj => ?_) Q hQ
    have a := (p1 j (by omega)).1
    have b := (q1 j (by omega)).1
    have c := hh j (by omega)
    have d := q_one ok hp j (by omega)
    omega
  obtain ⟨D, hD⟩ : ∃ D, D = Ls.filterMap (its1 t E H) := ⟨_, rfl⟩
  have mem : ∀ d, d ∈ D ↔ d.1 ∈ Ls ∧ pgs t E d.1.2 H = some d.2 := fun d => by
    rw [hD, List.mem_filterMap]
    unfold its1
    constructor
    · rintro ⟨p, hp, h⟩
      cases hz : pgs t E p.2 H with
      | none => rw [hz] at h; cases h
      | some P => rw [hz] at h; cases h; exact ⟨hp, hz⟩
    · rintro ⟨h1, h2⟩
      exact ⟨d.1, h1, by rw [h2]; rfl⟩
  have hDl : D.length ≤ 1000000 := by
    rw [hD]
    exact Nat.le_trans (List.length_filterMap_le _ _) hLl
  obtain ⟨z5, z6, z7, hlp⟩ := it_loop t ok T hT E (fun L H hL => (hpg L H hL).2) S W H Ls [] .un .un .un hLlen (by simp; omega)
  rw [List.nil_append, ← hD] at hlp
  have hfw := fw_ev t ok E (fun L H hL => (hpg L H hL).1) Ps hPs hPl hlen W H
  rw [← hT] at hLs hfw
  refine (sSeq_nx (e := [S, .val T, .val (.int W), .val (.int H), .own (([] : List DV).map (itD t)), .un, .un, .un, .un, .un]) (by rfl)).trans ?_
  refine (sSeq_nx (sFor_ev (ds := Ls.map pD) (iSeq_l (eCall_ev (aCons_ev rfl (aCons_ev (e2_ev rfl rfl (subD_int _ _)) (aCons_ev rfl aNil_ev))) hLs)) hlp)).trans ?_
  -- what the program says
  have hbet := fun q (hq : q ∈ Ls) => better t ok gs Ps g1 g2 hP hA q (hLQ q hq).1 (by have := (hLQ q hq).2; omega)
  have wid : ∀ q ∈ Ls, q.1.getD t.cols.length 0 + 1 ≤ W := fun q hq => by
    have := (hLQ q hq).2
    unfold at0 at this
    omega
  have htst : ∀ (y8 : Sl), t1 (e2 eqD (eCall lenA (aCons (eVar 4) aNil)) (eC (.int 0))) [S, .val T, .val (.int W), .val (.int H), .val (.list (D.map (itD t))), z5, z6, z7, y8, .un] = some (decide (D = [])) := fun y8 => by
    refine t1_ev (e2_ev ((len_l (ds := D.map (itD t)) rfl).trans (by rw [List.length_map])) rfl ((eqD_int _ _).trans ?_))
    congr 2
    refine decide_eq_decide.mpr ⟨fun h => List.eq_nil_of_length_eq_zero (by omega), fun h => by rw [h]; rfl⟩
  rcases hfw with ⟨h1, h2⟩ | ⟨m, m1, P, m2, m3, m4, m5⟩
  · refine (sSeq_nx (e := [S, .val T, .val (.int W), .val (.int H), .own (D.map (itD t)), z5, z6, z7, .val .none, .un]) (sSet_ev (eCall_ev (aCons_ev rfl (aCons_ev rfl (aCons_ev rfl aNil_ev))) h2))).trans ?_
    have hDe : D = [] := by
      refine List.eq_nil_iff_forall_not_mem.mpr fun d hd => ?_
      obtain ⟨d1, d2⟩ := (mem d).mp hd
      obtain ⟨p, p1, p2, p3, p5, _⟩ := hbet d.1 d1
      obtain ⟨Q, hQ, _⟩ := mono p d.1 (ltt_q (hP p p1)) (hLQ d.1 d1).1 p5 _ d2
      have hw := wid d.1 d1
      have := p2 t.cols.length (by omega)
      unfold at0 at this
      rw [h1 p p1 (by omega)] at hQ
      cases hQ
    have ht := htst (.val .none)
    rw [decide_eq_true hDe] at ht
    exact sSeq_rt ((sIf_t (s := sRet (e2 isD (eVar 8) (eC .none))) (t := sNil) ht).trans (sRet_ev rfl))
  · refine (sSeq_nx (e := [S, .val T, .val (.int W), .val (.int H), .own (D.map (itD t)), z5, z6, z7, .val (dvD (m, P)), .un]) (sSet_ev (eCall_ev (aCons_ev rfl (aCons_ev rfl (aCons_ev rfl aNil_ev))) m4))).trans ?_
    have hmD : (m, P) ∈ D := (mem (m, P)).mpr ⟨hsub m m1 m2, m3⟩
    have hDe : ¬ D = [] := fun e => by rw [e] at hmD; cases hmD
    have ht := htst (.val (dvD (m, P)))
    rw [decide_eq_false hDe] at ht
    refine (sSeq_nx (e := [S, .val T, .val (.int W), .val (.int H), .val (.list (D.map (itD t))), z5, z6, z7, .val (dvD (m, P)), .un]) ((sIf_f (s := sRet (e2 isD (eVar 8) (eC .none))) (t := sNil) ht).trans rfl)).trans ?_
    -- the least
    obtain ⟨kf, hkf1, hkf2⟩ : ∃ kf : LP → K4, (∀ p Q, pgs t E p.2 H = some Q → kf p = k4L t (p, Q)) ∧ ∀ p, (kf p).2.1 = p.2.getD t.rows.length 0 ∧ (kf p).2.2.2 = hts p.2 := ⟨fun p => k4L t (p, (pgs t E p.2 H).getD []), fun p Q h => by show k4L t (p, (pgs t E p.2 H).getD []) = _; rw [h]; rfl, fun p => ⟨rfl, rfl⟩⟩
    have hall : ∀ d ∈ D, d = (m, P) ∨ k4lt (k4L t (m, P)) (k4L t d) ∨ (k4L t (m, P) = k4L t d ∧ llt m.1 d.1.1) := fun d hd => by
      obtain ⟨d1, d2⟩ := (mem d).mp hd
      have := best_gen t ok gs Ps g1 g2 hP hA kf (fun p => p.1.getD t.cols.length 0 + 1 ≤ W ∧ ∃ Q, pgs t E p.2 H = some Q) (fun p q hp hq ⟨ok1, Q, ok2⟩ hv hh hl => by
        obtain ⟨R, hR, hRl⟩ := mono p q hp hq hh Q ok2
        have hv2 := hv t.cols.length (by omega)
        unfold at0 at hv2
        refine ⟨⟨by omega, R, hR⟩, ?_⟩
        rw [hkf1 p R hR, hkf1 q Q ok2]
        unfold k4lt klt k4L
        simp only []
        rintro (c | ⟨c0, c | ⟨c1, c | ⟨c2, c⟩⟩⟩)
        · omega
        · rcases hl with hl | hl
          · omega
          · rw [hl] at c; omega
        · rcases hl with hl | hl
          · omega
          · omega
        · rcases hl with hl | hl
          · omega
          · rw [hl] at c; exact llt_irr _ c) (fun p q e => by rw [← (hkf2 p).2, ← (hkf2 q).2, e]) (fun p q e => by rw [← (hkf2 p).1, ← (hkf2 q).1, e]) m m1 (fun p hp ⟨ok1, Q, ok2⟩ c => by
        rw [hkf1 p Q ok2, hkf1 m P m3] at c
        exact m5 p hp Q ok1 ok2 ((k4_iff t (p, Q) (m, P)).mpr c)) d.1 (hLQ d.1 d1).1 (by have := (hLQ d.1 d1).2; omega) ⟨wid d.1 d1, d.2, d2⟩
      rw [hkf1 m P m3, hkf1 d.1 d.2 d2] at this
      rcases this with e | e | e
      · left
        have e2 : d.2 = P := by
          rw [e, m3] at d2
          exact (Option.some.inj d2).symm
        exact Prod.ext e e2
      · exact .inr (.inl e)
      · exact .inr (.inr e)
    have hmin : eMinD (eVar 4) [S, .val T, .val (.int W), .val (.int H), .val (.list (D.map (itD t))), z5, z6, z7, .val (dvD (m, P)), .un] = some (itD t (m, P)) := by
      cases hDD : D with
      | nil => exact absurd hDD hDe
      | cons a L =>
        show (if minB ((a :: L).map (itD t)) = true then some (PySem.W.minD (itD t a) (L.map (itD t))) else none) = _
        rw [if_pos (minB_it t (a :: L))]
        congr 1
        rw [hDD] at hmD hall
        refine minD_is (m := itD t (m, P)) (List.mem_map.mpr ⟨(m, P), hmD, rfl⟩ : itD t (m, P) ∈ (a :: L).map (itD t)) fun x hx => ?_
        have hx : x ∈ (a :: L).map (itD t) := hx
        obtain ⟨q, hq, rfl⟩ := List.mem_map.mp hx
        rcases hall q hq with e | e
        · rw [e]; exact .inl rfl
        · have := it_lt t (m, P) q e
          exact .inr ⟨this, dataLt_asym this⟩
    refine (sSeq_nx (e := [S, .val T, .val (.int W), .val (.int H), .val (.list (D.map (itD t))), z5, z6, z7, .val (dvD (m, P)), .val (itD t (m, P))]) (sSet_ev hmin)).trans ?_
    refine sRet_ev (eAnd_t (eIsi_ev (d := dvD (m, P)) rfl rfl) (e2_ev (x := dvD (m, P)) (y := dvD (m, P)) rfl (eTup_ev (aCons_ev (e2_ev (x := itD t (m, P)) (y := .int 5) rfl rfl rfl) (aCons_ev (e2_ev (x := itD t (m, P)) (y := .int 6) rfl rfl rfl) aNil_ev)) (by simp)) (eqD_same (shaped_dv (m, P)))))
theorem law_true (ns : List Int) (hn : ns.length ≤ 63) : g_law [.list (ns.map .int)] = some (.bool true) := by
  obtain ⟨S, hS⟩ : ∃ S : PyData, S = .list (ns.map .int) := ⟨_, rfl⟩
  obtain ⟨t0, ht0, ok0, hC0, hR0⟩ := ktable_ev ns 1 2 3 (by omega) (by omega)
  have hc0 := cell_ev ns 0
  have hc2 := cell_ev ns 2
  have hc3 := cell_ev ns 3
  rw [← hS] at ht0 hc0 hc2 hc3 ⊢
  obtain ⟨a, ha⟩ : ∃ a : Int, a = ns.getD 0 0 := ⟨_, rfl⟩
  obtain ⟨b, hb⟩ : ∃ b : Int, b = ns.getD 2 0 := ⟨_, rfl⟩
  obtain ⟨c, hc⟩ : ∃ c : Int, c = ns.getD 3 0 := ⟨_, rfl⟩
  rw [← ha] at hc0
  rw [← hb] at hc2
  rw [← hc] at hc3
  obtain ⟨T0, hT0⟩ : ∃ T : PyData, T = tabD t0 := ⟨_, rfl⟩
  rw [← hT0] at ht0
  refine gDef_ev' (fB := f_law) [.val S, .un, .un, .un, .un, .un, .un, .un, .un, .un] rfl rfl ?_
  unfold f_law
  obtain ⟨W0, hW0⟩ : ∃ W : Int, W = 3 + a % 12 := ⟨_, rfl⟩
  obtain ⟨H0, hH0⟩ : ∃ H : Int, H = 3 + b % 10 := ⟨_, rfl⟩
  refine (sSeq_nx (e := [.val S, .val T0, .un, .un, .un, .un, .un, .un, .un, .un]) (sSet_ev (eCall_ev (aCons_ev rfl (aCons_ev rfl (aCons_ev rfl (aCons_ev rfl aNil_ev)))) ht0))).trans ?_
  refine (sSeq_nx (e := [.val S, .val T0, .val (.int W0), .un, .un, .un, .un, .un, .un, .un]) (by rw [hW0]; exact sSet_ev (e2_ev rfl (e2_ev (eCall_ev (aCons_ev rfl (aCons_ev rfl aNil_ev)) hc0) rfl (modD_int (by decide))) (addD_int _ _)))).trans ?_
  refine (sSeq_nx (e := [.val S, .val T0, .val (.int W0), .val (.int H0), .un, .un, .un, .un, .un, .un]) (by rw [hH0]; exact sSet_ev (e2_ev rfl (e2_ev (eCall_ev (aCons_ev rfl (aCons_ev rfl aNil_ev)) hc2) rfl (modD_int (by decide))) (addD_int _ _)))).trans ?_
  have m0 := mod_lt a 12 (by decide)
  have hcond : t1 (e2 eqD (e2 modD (eCall g_Lcell (aCons (eVar 0) (aCons (eC (.int 3)) aNil))) (eC (.int 4))) (eC (.int 1))) [.val S, .val T0, .val (.int W0), .val (.int H0), .un, .un, .un, .un, .un, .un] = some (decide (c % 4 = 1)) := t1_ev (e2_ev (e2_ev (eCall_ev (aCons_ev rfl (aCons_ev rfl aNil_ev)) hc3) rfl (modD_int (by decide))) rfl (eqD_int _ _))
  by_cases q : c % 4 = 1
  · rw [decide_eq_true q] at hcond
    obtain ⟨W1, hW1⟩ : ∃ W : Int, W = 16 + a % 3 := ⟨_, rfl⟩
    obtain ⟨H1, hH1⟩ : ∃ H : Int, H = 5 + b % 2 := ⟨_, rfl⟩
    have m1 := mod_lt a 3 (by decide)
    obtain ⟨T1, hT1⟩ : ∃ T : PyData, T = tabD otherT := ⟨_, rfl⟩
    have hot := other_ev
    rw [← hT1] at hot
    refine (sSeq_nx (e := [.val S, .val T1, .val (.int W1), .val (.int H1), .un, .un, .un, .un, .un, .un]) ((sIf_t hcond).trans ?_)).trans ?_
    · refine (sSeq_nx (e := [.val S, .val T1, .val (.int W0), .val (.int H0), .un, .un, .un, .un, .un, .un]) (sSet_ev (eCall_ev aNil_ev hot))).trans ?_
      refine (sSeq_nx (e := [.val S, .val T1, .val (.int W1), .val (.int H0), .un, .un, .un, .un, .un, .un]) (by rw [hW1]; exact sSet_ev (e2_ev rfl (e2_ev (eCall_ev (aCons_ev rfl (aCons_ev rfl aNil_ev)) hc0) rfl (modD_int (by decide))) (addD_int _ _)))).trans ?_
      rw [hH1]
      exact sSet_ev (e2_ev rfl (e2_ev (eCall_ev (aCons_ev rfl (aCons_ev rfl aNil_ev)) hc2) rfl (modD_int (by decide))) (addD_int _ _))
    · exact core otherT other_ok (by decide) other_bd W1 H1 (by omega) T1 hT1 (.val S)
  · rw [decide_eq_false q] at hcond
    refine (sSeq_nx (e := [.val S, .val T0, .val (.int W0), .val (.int H0), .un, .un, .un, .un, .un, .un]) ((sIf_f hcond).trans rfl)).trans ?_
    exact core t0 ok0.up (by omega) (plain_bd t0 ok0) W0 H0 (by omega) T0 hT0 (.val S)
end K17

open PySem PySem.W PyProof.Rows
set_option maxHeartbeats 0 in
theorem PySem.Challenge.cw_boundbook_k17_fewest_pages_holds : PySem.Challenge.rw_boundbook_k17_fewest_pages.Holds := by
  w_on; o_law; k_head; (case hw => w_witness2)
  k_fill
  refine L2.walk_of (l := PySem.Challenge.rw_boundbook_k17_fewest_pages) (n := 63) (k := 9) (x := "script") (CX := fun _ => L2.CX0) (sp := fun w => Mir.spF _ K17.g_law) rfl (by decide) rfl ⟨rfl, by decide, by decide⟩ (fun w h Y => PySem.W.kIn_of Y) ?F (fun w H a ns hl hO hS => Mir.law_end hS (K17.law_true ns hl)) (fun _ _ _ _ _ h => h)
  case F =>
    intro w mg fa h KX G hmg
    refine' K17.all_mk KX G hmg ?a_inner_size ?l_inner_size ?c_inner_size ?k_inner_size ?a_inner_sizes ?l_inner_sizes ?c_inner_sizes ?k_inner_sizes ?a_lines_around ?l_lines_around ?c_lines_around ?k_lines_around ?a_width_of ?l_width_of ?c_width_of ?k_width_of ?a_height_of ?l_height_of ?c_height_of ?k_height_of ?a_longest ?l_longest ?c_longest ?k_longest ?a_length_of ?l_length_of ?c_length_of ?k_length_of ?a_wrap ?l_wrap ?c_wrap ?k_wrap ?a_line_count ?l_line_count ?c_line_count ?k_line_count ?a_narrowest ?l_narrowest ?c_narrowest ?k_narrowest ?a_covers_both ?l_covers_both ?c_covers_both ?k_covers_both ?a_head_count ?l_head_count ?c_head_count ?k_head_count ?a_breakable_rows ?l_breakable_rows ?c_breakable_rows ?k_breakable_rows ?a_height_of_page ?l_height_of_page ?c_height_of_page ?k_height_of_page ?a_paginate ?l_paginate ?c_paginate ?k_paginate ?a_raised ?l_raised ?c_raised ?k_raised ?a_least_positions ?l_least_positions ?c_least_positions ?k_least_positions ?a_have_room ?l_have_room ?c_have_room ?k_have_room ?a_known_constraints ?l_known_constraints ?c_known_constraints ?k_known_constraints ?a_share_constraints ?l_share_constraints ?c_share_constraints ?k_share_constraints ?a_column_lines_for ?l_column_lines_for ?c_column_lines_for ?k_column_lines_for ?a_greatest_heights ?l_greatest_heights ?c_greatest_heights ?k_greatest_heights ?a_heights_to_try ?l_heights_to_try ?c_heights_to_try ?k_heights_to_try ?a_least_layouts ?l_least_layouts ?c_least_layouts ?k_least_layouts ?a_by_pages ?l_by_pages ?c_by_pages ?k_by_pages ?a_fewest_of ?l_fewest_of ?c_fewest_of ?k_fewest_of ?a_fewest_pages ?l_fewest_pages ?c_fewest_pages ?k_fewest_pages ?a_Lcell ?l_Lcell ?c_Lcell ?k_Lcell ?a_Ldraws ?l_Ldraws ?c_Ldraws ?k_Ldraws ?a_Lwords ?l_Lwords ?c_Lwords ?k_Lwords ?a_Lspan ?l_Lspan ?c_Lspan ?k_Lspan ?a_Lcells ?l_Lcells ?c_Lcells ?k_Lcells ?a_Ltable ?l_Ltable ?c_Ltable ?k_Ltable ?a_Lline_count ?l_Lline_count ?c_Lline_count ?k_Lline_count ?a_Linner ?l_Linner ?c_Linner ?k_Linner ?a_Lcolumns_right ?l_Lcolumns_right ?c_Lcolumns_right ?k_Lcolumns_right ?a_Lcells_right ?l_Lcells_right ?c_Lcells_right ?k_Lcells_right ?a_Lrows_right ?l_Lrows_right ?c_Lrows_right ?k_Lrows_right ?a_Lrising ?l_Lrising ?c_Lrising ?k_Lrising ?a_Llayouts ?l_Llayouts ?c_Llayouts ?k_Llayouts ?a_Lheights ?l_Lheights ?c_Lheights ?k_Lheights ?a_Lpages ?l_Lpages ?c_Lpages ?k_Lpages ?a_Lother_table ?l_Lother_table ?c_Lother_table ?k_Lother_table ?a_law ?l_law ?c_law ?k_law ?z_len ?z_range ?z_tuple ?z_max ?z_any ?z_list ?z_zip ?z_all ?z_enumerate ?z_sum ?z_min ?z_isinstance ?y_LAST_LINE
    (case a_inner_size => k_is)
    (case l_inner_size => k_is)
    (case c_inner_size => k_is)
    (case k_inner_size => k_is)
    (case a_inner_sizes => k_is)
    (case l_inner_sizes => k_is)
    (case c_inner_sizes => k_is)
    (case k_inner_sizes => k_is)
    (case a_lines_around => k_is)
    (case l_lines_around => k_is)
    (case c_lines_around => k_is)
    (case k_lines_around => k_is)
    (case a_width_of => k_is)
    (case l_width_of => k_is)
    (case c_width_of => k_is)
    (case k_width_of => k_is)
    (case a_height_of => k_is)
    (case l_height_of => k_is)
    (case c_height_of => k_is)
    (case k_height_of => k_is)
    (case a_longest => k_is)
    (case l_longest => k_is)
    (case c_longest => k_is)
    (case k_longest => k_is)
    (case a_length_of => k_is)
    (case l_length_of => k_is)
    (case c_length_of => k_is)
    (case k_length_of => k_is)
    (case a_wrap => k_is)
    (case l_wrap => k_is)
    (case c_wrap => k_is)
    (case k_wrap => k_is)
    (case a_line_count => k_is)
    (case l_line_count => k_is)
    (case c_line_count => k_is)
    (case k_line_count => k_is)
    (case a_narrowest => k_is)
    (case l_narrowest => k_is)
    (case c_narrowest => k_is)
    (case k_narrowest => k_is)
    (case a_covers_both => k_is)
    (case l_covers_both => k_is)
    (case c_covers_both => k_is)
    (case k_covers_both => k_is)
    (case a_head_count => k_is)
    (case l_head_count => k_is)
    (case c_head_count => k_is)
    (case k_head_count => k_is)
    (case a_breakable_rows => k_is)
    (case l_breakable_rows => k_is)
    (case c_breakable_rows => k_is)
    (case k_breakable_rows => k_is)
    (case a_height_of_page => k_is)
    (case l_height_of_page => k_is)
    (case c_height_of_page => k_is)
    (case k_height_of_page => k_is)
    (case a_paginate => k_is)
    (case l_paginate => k_is)
    (case c_paginate => k_is)
    (case k_paginate => k_is)
    (case a_raised => k_is)
    (case l_raised => k_is)
    (case c_raised => k_is)
    (case k_raised => k_is)
    (case a_least_positions => k_is)
    (case l_least_positions => k_is)
    (case c_least_positions => k_is)
    (case k_least_positions => k_is)
    (case a_have_room => k_is)
    (case l_have_room => k_is)
    (case c_have_room => k_is)
    (case k_have_room => k_is)
    (case a_known_constraints => k_is)
    (case l_known_constraints => k_is)
    (case c_known_constraints => k_is)
    (case k_known_constraints => k_is)
    (case a_share_constraints => k_is)
    (case l_share_constraints => k_is)
    (case c_share_constraints => k_is)
    (case k_share_constraints => k_is)
    (case a_column_lines_for => k_is)
    (case l_column_lines_for => k_is)
    (case c_column_lines_for => k_is)
    (case k_column_lines_for => k_is)
    (case a_greatest_heights => k_is)
    (case l_greatest_heights => k_is)
    (case c_greatest_heights => k_is)
    (case k_greatest_heights => k_is)
    (case a_heights_to_try => k_is)
    (case l_heights_to_try => k_is)
    (case c_heights_to_try => k_is)
    (case k_heights_to_try => k_is)
    (case a_least_layouts => k_is)
    (case l_least_layouts => k_is)
    (case c_least_layouts => k_is)
    (case k_least_layouts => k_is)
    (case a_by_pages => k_is)
    (case l_by_pages => k_is)
    (case c_by_pages => k_is)
    (case k_by_pages => k_is)
    (case a_fewest_of => k_is)
    (case l_fewest_of => k_is)
    (case c_fewest_of => k_is)
    (case k_fewest_of => k_is)
    (case a_fewest_pages => k_is)
    (case l_fewest_pages => k_is)
    (case c_fewest_pages => k_is)
    (case k_fewest_pages => k_is)
    (case a_Lcell => k_is)
    (case l_Lcell => k_is)
    (case c_Lcell => k_is)
    (case k_Lcell => k_is)
    (case a_Ldraws => k_is)
    (case l_Ldraws => k_is)
    (case c_Ldraws => k_is)
    (case k_Ldraws => k_is)
    (case a_Lwords => k_is)
    (case l_Lwords => k_is)
    (case c_Lwords => k_is)
    (case k_Lwords => k_is)
    (case a_Lspan => k_is)
    (case l_Lspan => k_is)
    (case c_Lspan => k_is)
    (case k_Lspan => k_is)
    (case a_Lcells => k_is)
    (case l_Lcells => k_is)
    (case c_Lcells => k_is)
    (case k_Lcells => k_is)
    (case a_Ltable => k_is)
    (case l_Ltable => k_is)
    (case c_Ltable => k_is)
    (case k_Ltable => k_is)
    (case a_Lline_count => k_is)
    (case l_Lline_count => k_is)
    (case c_Lline_count => k_is)
    (case k_Lline_count => k_is)
    (case a_Linner => k_is)
    (case l_Linner => k_is)
    (case c_Linner => k_is)
    (case k_Linner => k_is)
    (case a_Lcolumns_right => k_is)
    (case l_Lcolumns_right => k_is)
    (case c_Lcolumns_right => k_is)
    (case k_Lcolumns_right => k_is)
    (case a_Lcells_right => k_is)
    (case l_Lcells_right => k_is)
    (case c_Lcells_right => k_is)
    (case k_Lcells_right => k_is)
    (case a_Lrows_right => k_is)
    (case l_Lrows_right => k_is)
    (case c_Lrows_right => k_is)
    (case k_Lrows_right => k_is)
    (case a_Lrising => k_is)
    (case l_Lrising => k_is)
    (case c_Lrising => k_is)
    (case k_Lrising => k_is)
    (case a_Llayouts => k_is)
    (case l_Llayouts => k_is)
    (case c_Llayouts => k_is)
    (case k_Llayouts => k_is)
    (case a_Lheights => k_is)
    (case l_Lheights => k_is)
    (case c_Lheights => k_is)
    (case k_Lheights => k_is)
    (case a_Lpages => k_is)
    (case l_Lpages => k_is)
    (case c_Lpages => k_is)
    (case k_Lpages => k_is)
    (case a_Lother_table => k_is)
    (case l_Lother_table => k_is)
    (case c_Lother_table => k_is)
    (case k_Lother_table => k_is)
    (case a_law => k_is)
    (case l_law => k_is)
    (case c_law => k_is)
    (case k_law => k_is)
    (case z_len => k_is)
    (case z_range => k_is)
    (case z_tuple => k_is)
    (case z_max => k_is)
    (case z_any => k_is)
    (case z_list => k_is)
    (case z_zip => k_is)
    (case z_all => k_is)
    (case z_enumerate => k_is)
    (case z_sum => k_is)
    (case z_min => k_is)
    (case z_isinstance => k_is)
    (case y_LAST_LINE => k_is)


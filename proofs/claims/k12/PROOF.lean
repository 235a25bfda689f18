import PyProof.Rows.All
import Wide.All
import OpenK.AllK
import Wide.FinOn
import HandS.ForMost
import HandS.Deep
import HandS.TupAny
import KE.DatumOrd
import HandS.SortKw
import HandS.IsInst
import KE.GoesEnum
import HandS.Zip
import HandS.TupMul
import HandS.Style
import KE.KRevSl
import HandS.Dict
import HandS.ForExc
import KE.KExcSuper
import HandS.TryOnly
import HandS.WideBits
import HandS.More
import HandS.CallLocal
import PySem.Challenge.RW_boundbook_k12_row_lines_and_violations
set_option Elab.async false
set_option linter.all false
set_option maxRecDepth 100000
set_option maxHeartbeats 8000000
/-! Mir: pure data (PyData) for what a def handles, an environment by slots with lists that are owned, and what a piece of code does to it. -/
namespace Mir
open PySem PySem.Spec PyProof.Rows L2

/-! ### data in the heap; S: where its lists may stand -/
/-- a list of the written part -/
def KL (K : PySem.W.Frag) (a : Addr) (xs : List V) : Prop := ∃ (o : Obj) (its : Array Value) (n : Nat), K.lookup a = some o ∧ o.cls = .type "list" ∧ o.dict = none ∧ o.data = .seq its n ∧ its.size ≤ sizeLine ∧ Vals xs its.toList
def LsAt (K : PySem.W.Frag) (S : Addr → Prop) (H : Hp) (a : Addr) (xs : List V) : Prop := (S a ∧ Rd H a (.lst xs)) ∨ KL K a xs
theorem LsAt.sq {K : PySem.W.Frag} {S : Addr → Prop} {H : Hp} {a : Addr} {xs : List V} (h : LsAt K S H a xs) : SqL K H a xs := h.imp (fun z => z.2) id
theorem LsAt.of {K : PySem.W.Frag} {S : Addr → Prop} {H : Hp} {a : Addr} {xs : List V} (s : S a) (h : SqL K H a xs) : LsAt K S H a xs := h.imp (fun z => ⟨s, z⟩) id
/-- what never changes, and is no tuple -/
def fz : HO → Bool
  | .frz _ _ => true
  | .xd _ => true
  | _ => false
/-- keys as data -/
def kdD : Key → PyData
  | .inl i => .int i
  | .inr x => .str x
def kdT (k : List Key) : PyData := .tuple (k.map kdD)
mutual
def Rp (K : PySem.W.Frag) (S : Addr → Prop) (H : Hp) : PyData → V → Prop
  | .none, v => v = .non
  | .bool b, v => v = .bl b
  | .int i, v => v = .int i
  | .str x, v => v = .str x
  | .list ds, v => ∃ a xs, v = .ref a ∧ LsAt K S H a xs ∧ RpA K S H ds xs
  | .tuple ds, v => ∃ a xs, v = .ref a ∧ H a = some (.tup xs) ∧ RpA K S H ds xs
  | .dict kvs, v => ∃ a od, v = .ref a ∧ ((∃ ws, H a = some (.frz od (.dT ws)) ∧ RpD K S H (List Key) kdT kvs ws) ∨ ∃ ws, H a = some (.frz od (.dK ws)) ∧ RpD K S H Key kdD kvs ws)
def RpA (K : PySem.W.Frag) (S : Addr → Prop) (H : Hp) : List PyData → List V → Prop
  | [], vs => vs = []
  | d :: ds, vs => ∃ v r, vs = v :: r ∧ Rp K S H d v ∧ RpA K S H ds r
def RpD (K : PySem.W.Frag) (S : Addr → Prop) (H : Hp) (κ : Type) (kd : κ → PyData) : List (PyData × PyData) → List (κ × V) → Prop
  | [], vs => vs = []
  | (k, d) :: ds, vs => ∃ q v r, vs = (q, v) :: r ∧ k = kd q ∧ Rp K S H d v ∧ RpD K S H κ kd ds r
end
section
variable {K : PySem.W.Frag} {S S' : Addr → Prop} {H H' : Hp}
mutual
theorem Rp.mono (hL : ∀ a xs, S a → Rd H a (.lst xs) → S' a ∧ Rd H' a (.lst xs)) (hT : ∀ a xs, H a = some (.tup xs) → H' a = some (.tup xs)) (hD : ∀ a u, fz u = true → H a = some u → H' a = some u) : ∀ (d : PyData) (v : V), Rp K S H d v → Rp K S' H' d v
  | .none, _, h => by rw [Rp] at h ⊢; exact h
  | .bool _, _, h => by rw [Rp] at h ⊢; exact h
  | .int _, _, h => by rw [Rp] at h ⊢; exact h
  | .str _, _, h => by rw [Rp] at h ⊢; exact h
  | .list ds, _, h => by
    rw [Rp] at h ⊢
    obtain ⟨a, xs, e, q, r⟩ := h
    exact ⟨a, xs, e, q.imp (fun z => hL a xs z.1 z.2) id, RpA.mono hL hT hD ds xs r⟩
  | .tuple ds, _, h => by
    rw [Rp] at h ⊢
    obtain ⟨a, xs, e, q, r⟩ := h
    exact ⟨a, xs, e, hT a xs q, RpA.mono hL hT hD ds xs r⟩
  | .dict kvs, _, h => by
    rw [Rp] at h ⊢
    obtain ⟨a, od, e, q⟩ := h
    refine ⟨a, od, e, ?_⟩
    rcases q with ⟨ws, q, r⟩ | ⟨ws, q, r⟩
    · exact .inl ⟨ws, hD _ _ rfl q, RpD.mono hL hT hD _ _ kvs ws r⟩
    · exact .inr ⟨ws, hD _ _ rfl q, RpD.mono hL hT hD _ _ kvs ws r⟩
theorem RpA.mono (hL : ∀ a xs, S a → Rd H a (.lst xs) → S' a ∧ Rd H' a (.lst xs)) (hT : ∀ a xs, H a = some (.tup xs) → H' a = some (.tup xs)) (hD : ∀ a u, fz u = true → H a = some u → H' a = some u) : ∀ (ds : List PyData) (vs : List V), RpA K S H ds vs → RpA K S' H' ds vs
  | [], _, h => by rw [RpA] at h ⊢; exact h
  | d :: ds, _, h => by
    rw [RpA] at h ⊢
    obtain ⟨v, r, e, h1, h2⟩ := h
    exact ⟨v, r, e, Rp.mono hL hT hD d v h1, RpA.mono hL hT hD ds r h2⟩
theorem RpD.mono (hL : ∀ a xs, S a → Rd H a (.lst xs) → S' a ∧ Rd H' a (.lst xs)) (hT : ∀ a xs, H a = some (.tup xs) → H' a = some (.tup xs)) (hD : ∀ a u, fz u = true → H a = some u → H' a = some u) (κ : Type) (kd : κ → PyData) : ∀ (ds : List (PyData × PyData)) (vs : List (κ × V)), RpD K S H κ kd ds vs → RpD K S' H' κ kd ds vs
  | [], _, h => by rw [RpD] at h ⊢; exact h
  | (k, d) :: ds, _, h => by
    rw [RpD] at h ⊢
    obtain ⟨q, v, r, e, ek, h1, h2⟩ := h
    exact ⟨q, v, r, e, ek, Rp.mono hL hT hD d v h1, RpD.mono hL hT hD κ kd ds r h2⟩
end
theorem same_d (e : Same H H') : ∀ a u, fz u = true → H a = some u → H' a = some u := fun a u _ h => e _ _ h
theorem same_rd {a : Addr} {u : HO} (e : Same H H') (h : Rd H a u) : Rd H' a u := by
  rcases h with h | ⟨o, h⟩
  · exact .inl (e _ _ h)
  · exact .inr ⟨o, e _ _ h⟩
theorem same_t {a : Addr} {xs : List V} (e : Same H H') (h : H a = some (.tup xs)) : H' a = some (.tup xs) := e _ _ h
theorem live_t {a : Addr} {xs : List V} (h : H a = some (.tup xs)) : SqT K H a xs := .inl (.inl h)
theorem Rp.grow (e : Same H H') {d : PyData} {v : V} (h : Rp K S H d v) : Rp K S H' d v := Rp.mono (fun _ _ s q => ⟨s, same_rd e q⟩) (fun _ _ q => same_t e q) (same_d e) d v h
theorem RpA.grow (e : Same H H') {ds : List PyData} {vs : List V} (h : RpA K S H ds vs) : RpA K S H' ds vs := RpA.mono (fun _ _ s q => ⟨s, same_rd e q⟩) (fun _ _ q => same_t e q) (same_d e) ds vs h
theorem RpD.grow (e : Same H H') {κ : Type} {kd : κ → PyData} {ds : List (PyData × PyData)} {vs : List (κ × V)} (h : RpD K S H κ kd ds vs) : RpD K S H' κ kd ds vs := RpD.mono (fun _ _ s q => ⟨s, same_rd e q⟩) (fun _ _ q => same_t e q) (same_d e) κ kd ds vs h
theorem Rp.wide (w : ∀ a, S a → S' a) {d : PyData} {v : V} (h : Rp K S H d v) : Rp K S' H d v := Rp.mono (fun _ _ s q => ⟨w _ s, q⟩) (fun _ _ q => q) (fun _ _ _ q => q) d v h
theorem RpA.wide (w : ∀ a, S a → S' a) {ds : List PyData} {vs : List V} (h : RpA K S H ds vs) : RpA K S' H ds vs := RpA.mono (fun _ _ s q => ⟨w _ s, q⟩) (fun _ _ q => q) (fun _ _ _ q => q) ds vs h
theorem RpD.wide (w : ∀ a, S a → S' a) {κ : Type} {kd : κ → PyData} {ds : List (PyData × PyData)} {vs : List (κ × V)} (h : RpD K S H κ kd ds vs) : RpD K S' H κ kd ds vs := RpD.mono (fun _ _ s q => ⟨w _ s, q⟩) (fun _ _ q => q) (fun _ _ _ q => q) κ kd ds vs h
theorem RpA.length : ∀ {ds : List PyData} {vs : List V}, RpA K S H ds vs → vs.length = ds.length
  | [], _, h => by rw [RpA] at h; rw [h]; rfl
  | d :: ds, _, h => by
    rw [RpA] at h
    obtain ⟨v, r, e, _, h2⟩ := h
    rw [e, List.length_cons, List.length_cons, RpA.length h2]
theorem RpA.get : ∀ {ds : List PyData} {vs : List V} {i : Nat} {d : PyData}, RpA K S H ds vs → ds[i]? = some d → ∃ v, vs[i]? = some v ∧ Rp K S H d v
  | [], _, _, _, _, e => by simp at e
  | d :: ds, _, 0, d', h, e => by
    rw [RpA] at h
    obtain ⟨v, r, rfl, h1, _⟩ := h
    simp at e
    subst e
    exact ⟨v, rfl, h1⟩
  | d :: ds, _, i + 1, d', h, e => by
    rw [RpA] at h
    obtain ⟨v, r, rfl, _, h2⟩ := h
    obtain ⟨u, e1, e2⟩ := RpA.get (i := i) (d := d') h2 (by simpa using e)
    exact ⟨u, by simpa using e1, e2⟩
theorem RpA.append : ∀ {ds es : List PyData} {vs us : List V}, RpA K S H ds vs → RpA K S H es us → RpA K S H (ds ++ es) (vs ++ us)
  | [], _, _, _, h, g => by rw [RpA] at h; subst h; exact g
  | d :: ds, _, _, _, h, g => by
    rw [RpA] at h
    obtain ⟨v, r, rfl, h1, h2⟩ := h
    show RpA K S H (d :: (ds ++ _)) (v :: (r ++ _))
    rw [RpA]
    exact ⟨v, _, rfl, h1, RpA.append h2 g⟩
theorem RpA.nil : RpA K S H [] [] := by rw [RpA]
theorem RpA.cons {d : PyData} {v : V} {ds : List PyData} {vs : List V} (h : Rp K S H d v) (g : RpA K S H ds vs) : RpA K S H (d :: ds) (v :: vs) := by
  rw [RpA]
  exact ⟨v, vs, rfl, h, g⟩
theorem RpA.set : ∀ {ds : List PyData} {vs : List V} {i : Nat} {d : PyData} {v : V}, RpA K S H ds vs → Rp K S H d v → RpA K S H (ds.set i d) (vs.set i v)
  | [], _, _, _, _, h, _ => by rw [RpA] at h; subst h; exact RpA.nil
  | e :: ds, _, 0, d', v', h, g => by
    rw [RpA] at h
    obtain ⟨v, r, rfl, h1, h2⟩ := h
    exact RpA.cons g h2
  | e :: ds, _, i + 1, d', v', h, g => by
    rw [RpA] at h
    obtain ⟨v, r, rfl, h1, h2⟩ := h
    exact RpA.cons h1 (RpA.set h2 g)
theorem RpA.take : ∀ {ds : List PyData} {vs : List V} (n : Nat), RpA K S H ds vs → RpA K S H (ds.take n) (vs.take n)
  | _, _, 0, _ => by simpa using RpA.nil
  | [], _, n + 1, h => by rw [RpA] at h; subst h; exact RpA.nil
  | e :: ds, _, n + 1, h => by
    rw [RpA] at h
    obtain ⟨v, r, rfl, h1, h2⟩ := h
    exact RpA.cons h1 (RpA.take n h2)
theorem RpA.drop : ∀ {ds : List PyData} {vs : List V} (n : Nat), RpA K S H ds vs → RpA K S H (ds.drop n) (vs.drop n)
  | _, _, 0, h => by simpa using h
  | [], _, n + 1, h => by rw [RpA] at h; subst h; exact RpA.nil
  | e :: ds, _, n + 1, h => by
    rw [RpA] at h
    obtain ⟨v, r, rfl, h1, h2⟩ := h
    exact RpA.drop n h2
mutual
/-- no dict in it -/
def noD : PyData → Bool
  | .list ds => noDA ds
  | .tuple ds => noDA ds
  | .dict _ => false
  | .none => true
  | .bool _ => true
  | .int _ => true
  | .str _ => true
def noDA : List PyData → Bool
  | [] => true
  | d :: ds => noD d && noDA ds
end
mutual
theorem Rp.dp0 : ∀ (d : PyData) (v : V), noD d = true → Rp K S H d v → Dp K H v d
  | .none, _, _, h => by rw [Rp] at h; subst h; exact .non
  | .bool b, _, _, h => by rw [Rp] at h; subst h; exact .bl b
  | .int i, _, _, h => by rw [Rp] at h; subst h; exact .int i
  | .str x, _, _, h => by rw [Rp] at h; subst h; exact .str x
  | .list ds, _, n, h => by
    rw [Rp] at h
    rw [noD] at n
    obtain ⟨a, xs, rfl, q, r⟩ := h
    exact .lst q.sq (RpA.dp0 ds xs n r)
  | .tuple ds, _, n, h => by
    rw [Rp] at h
    rw [noD] at n
    obtain ⟨a, xs, rfl, q, r⟩ := h
    exact .tup (live_t q) (RpA.dp0 ds xs n r)
  | .dict _, _, n, _ => by rw [noD] at n; cases n
theorem RpA.dp0 : ∀ (ds : List PyData) (vs : List V), noDA ds = true → RpA K S H ds vs → DpAll K H vs ds
  | [], _, _, h => by rw [RpA] at h; subst h; exact .nil
  | d :: ds, _, n, h => by
    rw [RpA] at h
    rw [noDA, Bool.and_eq_true] at n
    obtain ⟨v, r, rfl, h1, h2⟩ := h
    exact .cons (Rp.dp0 d v n.1 h1) (RpA.dp0 ds r n.2 h2)
end
mutual
theorem noD_lay : ∀ d : PyData, d.canLay0 = true → noD d = true
  | .none, _ => by rw [noD]
  | .bool _, _ => by rw [noD]
  | .int _, _ => by rw [noD]
  | .str _, _ => by rw [noD]
  | .list ds, h => by rw [noD]; exact noDA_lay ds (by simpa [PyData.canLay0] using h)
  | .tuple ds, h => by rw [noD]; exact noDA_lay ds (by simpa [PyData.canLay0] using h)
  | .dict _, h => by simp [PyData.canLay0] at h
theorem noDA_lay : ∀ ds : List PyData, PyData.canLayAll0 ds = true → noDA ds = true
  | [], _ => by rw [noDA]
  | d :: ds, h => by
    simp only [PyData.canLayAll0, Bool.and_eq_true] at h
    rw [noDA, noD_lay d h.1, noDA_lay ds h.2]; rfl
end
theorem Rp.dp {d : PyData} {v : V} (h : Rp K S H d v) (s : SeqAt.shaped d = true) : Dp K H v d := Rp.dp0 d v (noD_lay d (by
  unfold SeqAt.shaped at s
  rw [Bool.and_eq_true] at s
  exact s.1)) h
/-! data without lists -/
mutual
def noL : PyData → Bool
  | .list _ => false
  | .tuple ds => noLA ds
  | .dict _ => false
  | .none => true
  | .bool _ => true
  | .int _ => true
  | .str _ => true
def noLA : List PyData → Bool
  | [] => true
  | d :: ds => noL d && noLA ds
end
mutual
theorem Rp.noL : ∀ (d : PyData) (v : V), noL d = true → Rp K S H d v → Rp K S' H d v
  | .none, _, _, h => by rw [Rp] at h ⊢; exact h
  | .bool _, _, _, h => by rw [Rp] at h ⊢; exact h
  | .int _, _, _, h => by rw [Rp] at h ⊢; exact h
  | .str _, _, _, h => by rw [Rp] at h ⊢; exact h
  | .list ds, _, n, _ => by rw [Mir.noL] at n; cases n
  | .tuple ds, _, n, h => by
    rw [Rp] at h ⊢
    rw [Mir.noL] at n
    obtain ⟨a, xs, e, q, r⟩ := h
    exact ⟨a, xs, e, q, RpA.noL ds xs n r⟩
  | .dict _, _, n, _ => by rw [Mir.noL] at n; cases n
theorem RpA.noL : ∀ (ds : List PyData) (vs : List V), noLA ds = true → RpA K S H ds vs → RpA K S' H ds vs
  | [], _, _, h => by rw [RpA] at h ⊢; exact h
  | d :: ds, _, n, h => by
    rw [RpA] at h ⊢
    rw [noLA, Bool.and_eq_true] at n
    obtain ⟨v, r, e, h1, h2⟩ := h
    exact ⟨v, r, e, Rp.noL d v n.1 h1, RpA.noL ds r n.2 h2⟩
end
end

/-! ### the environment -/
inductive Sl where
  | un
  | val (d : PyData)
  | own (ds : List PyData)
  | ownT (kvs : List (PyData × PyData))
  | ownK (kvs : List (PyData × PyData))
  | exc (a dd : Addr) (d : PyData)
  | fn (a : Addr)
def ow : Sl → Bool
  | .own _ => true
  | .ownT _ => true
  | .ownK _ => true
  | _ => false
def isMut : HO → Bool
  | .lst _ => true
  | .dT _ => true
  | .dK _ => true
  | _ => false
abbrev En := List Sl
def Bd (S0 : Addr → Prop) (H0 : Hp) : Addr → Prop := fun a => S0 a ∨ H0 a = none
def Cl (S0 : Addr → Prop) (H0 : Hp) (A : Addr → Prop) : Addr → Prop := fun a => Bd S0 H0 a ∧ ¬ A a
def SC (c : Bool) (S0 : Addr → Prop) (H0 : Hp) (A : Addr → Prop) : Addr → Prop := fun a => c = true → Cl S0 H0 A a
def SlOk (K : PySem.W.Frag) (S A : Addr → Prop) (H : Hp) : Sl → V → Prop
  | .un, _ => True
  | .val d, v => Rp K S H d v
  | .own ds, v => ∃ a xs, v = .ref a ∧ A a ∧ H a = some (.lst xs) ∧ RpA K S H ds xs
  | .ownT kvs, v => ∃ a ws, v = .ref a ∧ A a ∧ H a = some (.dT ws) ∧ RpD K S H (List Key) kdT kvs ws
  | .ownK kvs, v => ∃ a ws, v = .ref a ∧ A a ∧ H a = some (.dK ws) ∧ RpD K S H Key kdD kvs ws
  | .exc a dd d, v => v = .ref a ∧ ∃ u, H dd = some (.xd [(("what" : Str), u)]) ∧ Rp K S H d u
  | .fn a, v => v = .ref a
structure EnvOk (K : PySem.W.Frag) (S0 : Addr → Prop) (H0 : Hp) (A : Addr → Prop) (H : Hp) (σ : L2.St) (env : En) : Prop where
  len : σ.length = env.length
  sl : ∀ (i : Nat) (s : Sl), env[i]? = some s → s = .un ∨ ∃ v, σ[i]? = some (some v) ∧ SlOk K (Cl S0 H0 A) A H s v
  dis : ∀ (i j : Nat) (s t : Sl) (a : Addr), env[i]? = some s → env[j]? = some t → ow s = true → ow t = true → σ[i]? = some (some (.ref a)) → σ[j]? = some (some (.ref a)) → i = j
  tr : ∀ a, A a → ∃ u, H a = some u ∧ isMut u = true
  nw : ∀ a, A a → H0 a = none
  same : Same H0 H
def Fr (A : Addr → Prop) (H H' : Hp) : Prop := ∀ a o, H a = some o → ¬ A a → H' a = some o
def Sb (A : Addr → Prop) (H : Hp) (A' : Addr → Prop) : Prop := ∀ a, A' a → A a ∨ H a = none
section
variable {K : PySem.W.Frag} {S0 S : Addr → Prop} {H0 H H' H'' : Hp} {A A' A'' : Addr → Prop} {σ : L2.St} {env : En}
theorem Fr.of_same (e : Same H H') : Fr A H H' := fun a o h _ => e a o h
theorem Fr.refl : Fr A H H := fun _ _ h _ => h
theorem Sb.refl : Sb A H A := fun _ h => .inl h
theorem Fr.trans (h1 : Fr A H H') (s1 : Sb A H A') (h2 : Fr A' H' H'') : Fr A H H'' := fun a o h n => h2 a o (h1 a o h n) fun z => by
  rcases s1 a z with q | q
  · exact n q
  · rw [h] at q; cases q
theorem Sb.trans (h1 : Fr A H H') (s1 : Sb A H A') (s2 : Sb A' H' A'') : Sb A H A'' := fun a z => by
  rcases s2 a z with q | q
  · exact s1 a q
  · cases e : H a with
    | none => exact .inr rfl
    | some o =>
      by_cases n : A a
      · exact .inl n
      · rw [h1 a o e n] at q; cases q
theorem fz_mut {u : HO} (h : fz u = true) (m : isMut u = true) : False := by
  cases u <;> first | (cases h; done) | (cases m; done)
theorem EnvOk.no_frz (E : EnvOk K S0 H0 A H σ env) {a : Addr} {u : HO} (z : fz u = true) (ha : A a) (h : H a = some u) : False := by
  obtain ⟨w, e, m⟩ := E.tr a ha
  rw [h] at e; cases e; exact fz_mut z m
theorem EnvOk.no_tup (E : EnvOk K S0 H0 A H σ env) {a : Addr} {xs : List V} (ha : A a) (h : H a = some (.tup xs)) : False := by
  obtain ⟨w, e, m⟩ := E.tr a ha
  rw [h] at e; cases e; cases m
theorem cl_new (E : EnvOk K S0 H0 A H σ env) {p : Addr} (h : H p = none) : Cl S0 H0 A p := by
  refine ⟨.inr (E.same.free h), fun z => ?_⟩
  obtain ⟨u, q, _⟩ := E.tr p z
  rw [h] at q; cases q
theorem sc_new (E : EnvOk K S0 H0 A H σ env) {c : Bool} {p : Addr} (h : H p = none) : SC c S0 H0 A p := fun _ => cl_new E h
theorem SlOk.mono {S' : Addr → Prop} (hL : ∀ a xs, S a → Rd H a (.lst xs) → S' a ∧ Rd H' a (.lst xs)) (hT : ∀ a xs, H a = some (.tup xs) → H' a = some (.tup xs)) (hD : ∀ a u, fz u = true → H a = some u → H' a = some u) (hA : ∀ a u, A a → H a = some u → isMut u = true → A' a ∧ H' a = some u) {s : Sl} {v : V} (h : SlOk K S A H s v) : SlOk K S' A' H' s v := by
  cases s with
  | un => trivial
  | val d => exact Rp.mono hL hT hD d v h
  | own ds =>
    obtain ⟨a, xs, e1, ha, hh, r⟩ := h
    obtain ⟨k1, k2⟩ := hA a _ ha hh rfl
    exact ⟨a, xs, e1, k1, k2, RpA.mono hL hT hD _ _ r⟩
  | ownT ds =>
    obtain ⟨a, xs, e1, ha, hh, r⟩ := h
    obtain ⟨k1, k2⟩ := hA a _ ha hh rfl
    exact ⟨a, xs, e1, k1, k2, RpD.mono hL hT hD _ _ _ _ r⟩
  | ownK ds =>
    obtain ⟨a, xs, e1, ha, hh, r⟩ := h
    obtain ⟨k1, k2⟩ := hA a _ ha hh rfl
    exact ⟨a, xs, e1, k1, k2, RpD.mono hL hT hD _ _ _ _ r⟩
  | exc a dd d =>
    obtain ⟨e1, u, hh, r⟩ := h
    exact ⟨e1, u, hD _ _ rfl hh, Rp.mono hL hT hD _ _ r⟩
  | fn a => exact h
/-- but for one place, that this slot does not stand at -/
theorem SlOk.at {S' : Addr → Prop} {p : Addr} (hL : ∀ a xs, S a → Rd H a (.lst xs) → S' a ∧ Rd H' a (.lst xs)) (hT : ∀ a xs, H a = some (.tup xs) → H' a = some (.tup xs)) (hD : ∀ a u, fz u = true → H a = some u → H' a = some u) (hA : ∀ a u, A a → H a = some u → isMut u = true → a ≠ p → A' a ∧ H' a = some u) {s : Sl} {v : V} (hp : ow s = true → v ≠ .ref p) (h : SlOk K S A H s v) : SlOk K S' A' H' s v := by
  cases s with
  | un => trivial
  | val d => exact Rp.mono hL hT hD d v h
  | own ds =>
    obtain ⟨a, xs, rfl, ha, hh, r⟩ := h
    obtain ⟨k1, k2⟩ := hA a _ ha hh rfl fun e => hp rfl (by rw [e])
    exact ⟨a, xs, rfl, k1, k2, RpA.mono hL hT hD _ _ r⟩
  | ownT ds =>
    obtain ⟨a, xs, rfl, ha, hh, r⟩ := h
    obtain ⟨k1, k2⟩ := hA a _ ha hh rfl fun e => hp rfl (by rw [e])
    exact ⟨a, xs, rfl, k1, k2, RpD.mono hL hT hD _ _ _ _ r⟩
  | ownK ds =>
    obtain ⟨a, xs, rfl, ha, hh, r⟩ := h
    obtain ⟨k1, k2⟩ := hA a _ ha hh rfl fun e => hp rfl (by rw [e])
    exact ⟨a, xs, rfl, k1, k2, RpD.mono hL hT hD _ _ _ _ r⟩
  | exc a dd d =>
    obtain ⟨e1, u, hh, r⟩ := h
    exact ⟨e1, u, hD _ _ rfl hh, Rp.mono hL hT hD _ _ r⟩
  | fn a => exact h
theorem SlOk.ref {s : Sl} {v : V} (o : ow s = true) (h : SlOk K S A H s v) : ∃ a u, v = .ref a ∧ A a ∧ H a = some u ∧ isMut u = true := by
  cases s with
  | un => cases o
  | val _ => cases o
  | own ds => obtain ⟨a, xs, e1, ha, hh, _⟩ := h; exact ⟨a, _, e1, ha, hh, rfl⟩
  | ownT ds => obtain ⟨a, xs, e1, ha, hh, _⟩ := h; exact ⟨a, _, e1, ha, hh, rfl⟩
  | ownK ds => obtain ⟨a, xs, e1, ha, hh, _⟩ := h; exact ⟨a, _, e1, ha, hh, rfl⟩
  | exc _ _ _ => cases o
  | fn _ => cases o
theorem SlOk.grow (e : Same H H') {s : Sl} {v : V} (h : SlOk K S A H s v) : SlOk K S A H' s v := SlOk.mono (fun _ _ s q => ⟨s, same_rd e q⟩) (fun _ _ q => same_t e q) (same_d e) (fun a u ha hu _ => ⟨ha, e _ _ hu⟩) h
theorem EnvOk.grow (E : EnvOk K S0 H0 A H σ env) (e : Same H H') : EnvOk K S0 H0 A H' σ env where
  len := E.len
  sl := fun i s h => (E.sl i s h).imp id fun ⟨v, h1, h2⟩ => ⟨v, h1, h2.grow e⟩
  dis := E.dis
  tr := fun a h => let ⟨u, q, m⟩ := E.tr a h; ⟨u, e _ _ q, m⟩
  nw := E.nw
  same := E.same.trans e
theorem set_get {α : Type} {l : List α} {i j : Nat} {x y : α} (h : (l.set i x)[j]? = some y) : (i = j ∧ j < l.length ∧ y = x) ∨ (i ≠ j ∧ l[j]? = some y) := by
  rw [List.getElem?_set] at h
  by_cases e : i = j
  · rw [if_pos e] at h
    by_cases q : i < l.length
    · rw [if_pos q] at h
      exact .inl ⟨e, e ▸ q, (Option.some.inj h).symm⟩
    · rw [if_neg q] at h; cases h
  · rw [if_neg e] at h
    exact .inr ⟨e, h⟩
theorem set_self {α : Type} {l : List α} {i : Nat} {x : α} (h : i < l.length) : (l.set i x)[i]? = some x := by simp [h]
theorem set_other {α : Type} {l : List α} {i j : Nat} {x : α} (h : i ≠ j) : (l.set i x)[j]? = l[j]? := by simp [List.getElem?_set, h]
theorem EnvOk.set_val (E : EnvOk K S0 H0 A H σ env) {i : Nat} {d : PyData} {v : V} (h : Rp K (Cl S0 H0 A) H d v) : EnvOk K S0 H0 A H (σ.set i (some v)) (env.set i (.val d)) where
  len := by simp [E.len]
  sl := fun j s q => by
    rcases set_get q with ⟨rfl, l, rfl⟩ | ⟨n, q⟩
    · exact .inr ⟨v, set_self (by rw [E.len]; exact l), h⟩
    · rw [set_other n]
      exact E.sl j s q
  dis := fun j k s t a q1 q2 o1 o2 q3 q4 => by
    rcases set_get q1 with ⟨_, _, z⟩ | ⟨n1, q1⟩
    · subst z; cases o1
    rcases set_get q2 with ⟨_, _, z⟩ | ⟨n2, q2⟩
    · subst z; cases o2
    rw [set_other n1] at q3
    rw [set_other n2] at q4
    exact E.dis j k s t a q1 q2 o1 o2 q3 q4
  tr := E.tr
  nw := E.nw
  same := E.same
/-- a fresh thing is kept by the slot i alone -/
theorem EnvOk.set_new (E : EnvOk K S0 H0 A H σ env) {i : Nat} {s0 : Sl} {u0 : HO} {p : Addr} (hs : Same H H') (hn : H p = none) (hp : H' p = some u0) (hm : isMut u0 = true) (ho : ow s0 = true) (h : SlOk K (fun a => Cl S0 H0 A a ∧ a ≠ p) (fun a => A a ∨ a = p) H' s0 (.ref p)) :
    EnvOk K S0 H0 (fun a => A a ∨ a = p) H' (σ.set i (some (.ref p))) (env.set i s0) where
  len := by simp [E.len]
  sl := fun j s q => by
    have wd : ∀ a, (Cl S0 H0 A a ∧ a ≠ p) → Cl S0 H0 (fun a => A a ∨ a = p) a := fun a z => ⟨z.1.1, fun y => y.elim z.1.2 z.2⟩
    rcases set_get q with ⟨rfl, l, rfl⟩ | ⟨n, q⟩
    · exact .inr ⟨_, set_self (by rw [E.len]; exact l), SlOk.mono (fun a xs z r => ⟨wd a z, r⟩) (fun _ _ z => z) (fun _ _ _ z => z) (fun _ _ z y _ => ⟨z, y⟩) h⟩
    · rw [set_other n]
      refine (E.sl j s q).imp id fun ⟨v, h1, h2⟩ => ⟨v, h1, ?_⟩
      have hL : ∀ a ys, Cl S0 H0 A a → Rd H a (.lst ys) → Cl S0 H0 (fun a => A a ∨ a = p) a ∧ Rd H' a (.lst ys) := fun a ys z r => ⟨wd a ⟨z, fun e => by
        subst e
        rcases r with r | ⟨o, r⟩ <;> (rw [hn] at r; cases r)⟩, same_rd hs r⟩
      exact SlOk.mono hL (fun _ _ z => same_t hs z) (same_d hs) (fun a u ha hu _ => ⟨.inl ha, hs _ _ hu⟩) h2
  dis := fun j k s t a q1 q2 o1 o2 q3 q4 => by
    have no : ∀ (m : Nat) (g : Sl), env[m]? = some g → ow g = true → σ[m]? ≠ some (some (.ref p)) := fun m g g1 og g2 => by
      rcases E.sl m _ g1 with z | ⟨v, z1, z2⟩
      · subst z; cases og
      · rw [g2] at z1
        cases z1
        obtain ⟨a, u, e, ha, hu, _⟩ := z2.ref og
        cases e
        rw [hn] at hu; cases hu
    rcases set_get q1 with ⟨rfl, l1, z⟩ | ⟨n1, q1⟩
    · rcases set_get q2 with ⟨e2, l2, z2⟩ | ⟨n2, q2⟩
      · exact e2
      · rw [set_self (by rw [E.len]; exact l1)] at q3
        cases q3
        rw [set_other n2] at q4
        exact absurd q4 (no k _ q2 o2)
    · rw [set_other n1] at q3
      rcases set_get q2 with ⟨rfl, l2, z2⟩ | ⟨n2, q2⟩
      · rw [set_self (by rw [E.len]; exact l2)] at q4
        cases q4
        exact absurd q3 (no j _ q1 o1)
      · rw [set_other n2] at q4
        exact E.dis j k s t a q1 q2 o1 o2 q3 q4
  tr := fun a h => by
    rcases h with h | rfl
    · obtain ⟨u, q, m⟩ := E.tr a h
      exact ⟨u, hs _ _ q, m⟩
    · exact ⟨u0, hp, hm⟩
  nw := fun a h => by
    rcases h with h | rfl
    · exact E.nw a h
    · exact E.same.free hn
  same := E.same.trans hs
/-- a fresh list is kept by the slot i alone -/
theorem EnvOk.set_own (E : EnvOk K S0 H0 A H σ env) {i : Nat} {ds : List PyData} {xs : List V} {p : Addr} (hs : Same H H') (hn : H p = none) (hp : H' p = some (.lst xs)) (h : RpA K (fun a => Cl S0 H0 A a ∧ a ≠ p) H' ds xs) :
    EnvOk K S0 H0 (fun a => A a ∨ a = p) H' (σ.set i (some (.ref p))) (env.set i (.own ds)) := E.set_new hs hn hp rfl rfl ⟨p, xs, rfl, .inr rfl, hp, h⟩
/-- an owned thing is changed -/
theorem EnvOk.mutG (E : EnvOk K S0 H0 A H σ env) {i : Nat} {s0 s1 : Sl} {u0 u1 : HO} {a : Addr} (hi : env[i]? = some s0) (o0 : ow s0 = true) (o1 : ow s1 = true) (hv : σ[i]? = some (some (.ref a))) (ha : A a) (hp : H a = some u0) (m0 : isMut u0 = true) (m1 : isMut u1 = true)
    (h : SlOk K (Cl S0 H0 A) A (upd H a u1) s1 (.ref a)) : EnvOk K S0 H0 A (upd H a u1) σ (env.set i s1) := by
  have hL : ∀ b ys, Cl S0 H0 A b → Rd H b (.lst ys) → Cl S0 H0 A b ∧ Rd (upd H a u1) b (.lst ys) := fun b ys z r => ⟨z, by
    have n : b ≠ a := fun e => z.2 (e ▸ ha)
    rcases r with r | ⟨o, r⟩
    · exact .inl (by rw [upd_ne n]; exact r)
    · exact .inr ⟨o, by rw [upd_ne n]; exact r⟩⟩
  have nf : ∀ b u, fz u = true → H b = some u → b ≠ a := fun b u z r e => E.no_frz z ha (e ▸ r)
  have hT : ∀ b ys, H b = some (.tup ys) → upd H a u1 b = some (.tup ys) := fun b ys r => by rw [upd_ne (fun e => E.no_tup ha (e ▸ r))]; exact r
  have hD : ∀ b u, fz u = true → H b = some u → upd H a u1 b = some u := fun b u z r => by rw [upd_ne (nf _ _ z r)]; exact r
  have hl : i < env.length := by
    obtain ⟨q, _⟩ := List.getElem?_eq_some_iff.mp hi
    exact q
  refine ⟨by simp [E.len], fun j s q => ?_, fun j k s t b q1 q2 p1 p2 q3 q4 => ?_, fun b hb => ?_, E.nw, fun b o q => ?_⟩
  · rcases set_get q with ⟨rfl, l, rfl⟩ | ⟨n, q⟩
    · exact .inr ⟨_, hv, h⟩
    · refine (E.sl j s q).imp id fun ⟨v, h1, h2⟩ => ⟨v, h1, ?_⟩
      exact SlOk.at (p := a) hL hT hD (fun b u hb hu _ hn => ⟨hb, by rw [upd_ne hn]; exact hu⟩) (fun os e => n (E.dis i j s0 s a hi q o0 os hv (by rw [h1, e]))) h2
  · have back : ∀ (m : Nat) (g : Sl), (env.set i s1)[m]? = some g → ow g = true → ∃ g', env[m]? = some g' ∧ ow g' = true := fun m g q og => by
      rcases set_get q with ⟨rfl, _, _⟩ | ⟨_, q⟩
      · exact ⟨s0, hi, o0⟩
      · exact ⟨g, q, og⟩
    obtain ⟨s', r1, z1⟩ := back j s q1 p1
    obtain ⟨t', r2, z2⟩ := back k t q2 p2
    exact E.dis j k s' t' b r1 r2 z1 z2 q3 q4
  · by_cases e : b = a
    · subst e
      exact ⟨u1, upd_same, m1⟩
    · obtain ⟨u, q, m⟩ := E.tr b hb
      exact ⟨u, by rw [upd_ne e]; exact q, m⟩
  · have n : b ≠ a := fun e => by
      subst e
      have z := E.nw b ha
      rw [q] at z; cases z
    rw [upd_ne n]
    exact E.same b o q
theorem EnvOk.upd_mono (E : EnvOk K S0 H0 A H σ env) {a : Addr} {u1 : HO} (ha : A a) : (∀ b ys, Cl S0 H0 A b → Rd H b (.lst ys) → Cl S0 H0 A b ∧ Rd (upd H a u1) b (.lst ys)) ∧ (∀ b ys, H b = some (.tup ys) → upd H a u1 b = some (.tup ys)) ∧ ∀ b u, fz u = true → H b = some u → upd H a u1 b = some u := by
  have nf : ∀ b u, fz u = true → H b = some u → b ≠ a := fun b u z r e => E.no_frz z ha (e ▸ r)
  refine ⟨fun b ys z r => ⟨z, ?_⟩, fun b ys r => by rw [upd_ne (fun e => E.no_tup ha (e ▸ r))]; exact r, fun b u z r => by rw [upd_ne (nf _ _ z r)]; exact r⟩
  have n : b ≠ a := fun e => z.2 (e ▸ ha)
  rcases r with r | ⟨o, r⟩
  · exact .inl (by rw [upd_ne n]; exact r)
  · exact .inr ⟨o, by rw [upd_ne n]; exact r⟩
/-- an owned list is changed -/
theorem EnvOk.mut (E : EnvOk K S0 H0 A H σ env) {i : Nat} {ds ds' : List PyData} {xs xs' : List V} {a : Addr} (hi : env[i]? = some (.own ds)) (hv : σ[i]? = some (some (.ref a))) (ha : A a) (hp : H a = some (.lst xs)) (h : RpA K (Cl S0 H0 A) H ds' xs') :
    EnvOk K S0 H0 A (upd H a (.lst xs')) σ (env.set i (.own ds')) := by
  obtain ⟨hL, hT, hD⟩ := E.upd_mono (u1 := .lst xs') ha
  exact E.mutG hi rfl rfl hv ha hp rfl rfl ⟨a, xs', rfl, ha, upd_same, RpA.mono hL hT hD _ _ h⟩
def frz (i : Nat) (env : En) : En := match env[i]? with
  | some (.own ds) => env.set i (.val (.list ds))
  | _ => env
theorem EnvOk.frz (E : EnvOk K S0 H0 A H σ env) (i : Nat) : ∃ A', EnvOk K S0 H0 A' H σ (Mir.frz i env) ∧ ∀ a, A' a → A a := by
  unfold Mir.frz
  split
  · rename_i ds hi
    rcases E.sl i _ hi with z | ⟨v, h1, a, xs, rfl, ha, hh, r⟩
    · cases z
    have wd : ∀ b, Cl S0 H0 A b → Cl S0 H0 (fun b => A b ∧ b ≠ a) b := fun b z => ⟨z.1, fun y => z.2 y.1⟩
    refine ⟨fun b => A b ∧ b ≠ a, ⟨by simp [E.len], fun j s q => ?_, fun j k s t b q1 q2 o1 o2 q3 q4 => ?_, fun b hb => E.tr b hb.1, fun b hb => E.nw b hb.1, E.same⟩, fun _ z => z.1⟩
    · rcases set_get q with ⟨rfl, l, rfl⟩ | ⟨n, q⟩
      · refine .inr ⟨_, h1, ?_⟩
        show Rp K _ H (.list ds) _
        rw [Rp]
        exact ⟨a, xs, rfl, .inl ⟨⟨.inr (E.nw a ha), fun y => y.2 rfl⟩, .inl hh⟩, r.wide wd⟩
      · refine (E.sl j s q).imp id fun ⟨v, h2, h3⟩ => ⟨v, h2, ?_⟩
        exact SlOk.at (p := a) (fun b xs z r => ⟨wd b z, r⟩) (fun _ _ z => z) (fun _ _ _ z => z) (fun b u hb hu _ hn => ⟨⟨hb, hn⟩, hu⟩) (fun os e => n (E.dis i j _ s a hi q rfl os h1 (by rw [h2, e]))) h3
    · rcases set_get q1 with ⟨_, _, z⟩ | ⟨n1, q1⟩
      · subst z; cases o1
      rcases set_get q2 with ⟨_, _, z⟩ | ⟨n2, q2⟩
      · subst z; cases o2
      exact E.dis j k s t b q1 q2 o1 o2 q3 q4
  · exact ⟨A, E, fun _ z => z⟩
/-- a dict is let go: it is locked -/
theorem EnvOk.lockD (E : EnvOk K S0 H0 A H σ env) {i : Nat} {s0 : Sl} {d : PyData} {u0 : HO} {a : Addr} {od : Obj} (hi : env[i]? = some s0) (o0 : ow s0 = true) (hv : σ[i]? = some (some (.ref a))) (ha : A a) (hp : H a = some u0)
    (h : Rp K (Cl S0 H0 A) (upd H a (.frz od u0)) d (.ref a)) : EnvOk K S0 H0 (fun b => A b ∧ b ≠ a) (upd H a (.frz od u0)) σ (env.set i (.val d)) := by
  obtain ⟨hL, hT, hD⟩ := E.upd_mono (u1 := .frz od u0) ha
  have wd : ∀ b, Cl S0 H0 A b → Cl S0 H0 (fun b => A b ∧ b ≠ a) b := fun b z => ⟨z.1, fun y => z.2 y.1⟩
  refine ⟨by simp [E.len], fun j s q => ?_, fun j k s t b q1 q2 o1 o2 q3 q4 => ?_, fun b hb => ?_, fun b hb => E.nw b hb.1, fun b o q => ?_⟩
  · rcases set_get q with ⟨rfl, l, rfl⟩ | ⟨n, q⟩
    · exact .inr ⟨_, hv, Rp.wide wd h⟩
    · refine (E.sl j s q).imp id fun ⟨v, h2, h3⟩ => ⟨v, h2, ?_⟩
      exact SlOk.at (p := a) (fun b xs z r => ⟨wd b z, (hL b xs z r).2⟩) hT hD (fun b u hb hu _ hn => ⟨⟨hb, hn⟩, by rw [upd_ne hn]; exact hu⟩) (fun os e => n (E.dis i j _ s a hi q o0 os hv (by rw [h2, e]))) h3
  · rcases set_get q1 with ⟨_, _, z⟩ | ⟨n1, q1⟩
    · subst z; cases o1
    rcases set_get q2 with ⟨_, _, z⟩ | ⟨n2, q2⟩
    · subst z; cases o2
    exact E.dis j k s t b q1 q2 o1 o2 q3 q4
  · obtain ⟨u, q, m⟩ := E.tr b hb.1
    exact ⟨u, by rw [upd_ne hb.2]; exact q, m⟩
  · have n : b ≠ a := fun e => by
      subst e
      have z := E.nw b ha
      rw [q] at z; cases z
    rw [upd_ne n]
    exact E.same b o q
end
end Mir

namespace Mir
open PySem PySem.Spec PyProof.Rows L2

/-! ### readings -/
def tE (K : PySem.W.Frag) (c : Bool) (f : En → Option PyData) : TE := fun σ H Q => ∃ S0 H0 A env d, EnvOk K S0 H0 A H σ env ∧ f env = some d ∧ ∀ v H', Same H H' → Rp K (SC c S0 H0 A) H' d v → Q v H'
/-- a fresh list -/
def tF (K : PySem.W.Frag) (c : Bool) (f : En → Option (List PyData)) : TE := fun σ H Q => ∃ S0 H0 A env ds, EnvOk K S0 H0 A H σ env ∧ f env = some ds ∧ ∀ p xs H', H p = none → Same H H' → H' p = some (.lst xs) → RpA K (fun a => SC c S0 H0 A a ∧ a ≠ p) H' ds xs → Q (.ref p) H'
def tT (K : PySem.W.Frag) (f : En → Option Bool) : TT := fun σ H Q => ∃ S0 H0 A env b, EnvOk K S0 H0 A H σ env ∧ f env = some b ∧ ∀ H', Same H H' → Q b H'
def tA (K : PySem.W.Frag) (c : Bool) (f : En → Option (List PyData)) : TA := fun σ H Q => ∃ S0 H0 A env ds, EnvOk K S0 H0 A H σ env ∧ f env = some ds ∧ ∀ vs H', Same H H' → RpA K (SC c S0 H0 A) H' ds vs → Q vs H'
/-- a target: touches the slots vs alone -/
def tG (K : PySem.W.Frag) (vs : List Nat) (g : PyData → En → Option En) : TG := fun v σ H Q => ∃ S0 H0 A env d env', EnvOk K S0 H0 A H σ env ∧ Rp K (Cl S0 H0 A) H d v ∧ g d env = some env' ∧ ∀ σ', EnvOk K S0 H0 A H σ' env' → wipe σ' vs = wipe σ vs → Q σ' H

inductive Out where
  | nx (e : En)
  | bk (e : En)
  | ct (e : En)
  | rt (d : PyData)
  | bad
def OutOk (K : PySem.W.Frag) (S0 : Addr → Prop) (H0 : Hp) (A : Addr → Prop) (H : Hp) (o : Out) (D : Ends) : Prop := match o with
  | .nx e => ∀ A' H' σ', EnvOk K S0 H0 A' H' σ' e → Fr A H H' → Sb A H A' → D.nx σ' H'
  | .bk e => ∀ A' H' σ', EnvOk K S0 H0 A' H' σ' e → Fr A H H' → Sb A H A' → D.bk σ' H'
  | .ct e => ∀ A' H' σ', EnvOk K S0 H0 A' H' σ' e → Fr A H H' → Sb A H A' → D.ct σ' H'
  | .rt d => ∀ v H', Same H0 H' → Rp K (Bd S0 H0) H' d v → D.rt v H'
  | .bad => False
def tS (K : PySem.W.Frag) (f : En → Out) : TS := fun D σ H => ∃ S0 H0 A env, EnvOk K S0 H0 A H σ env ∧ OutOk K S0 H0 A H (f env) D

section
variable {K : PySem.W.Frag} {S0 S : Addr → Prop} {H0 H H' H'' : Hp} {A A' A'' : Addr → Prop} {σ : L2.St} {env : En} {D : Ends}
theorem OutOk.step {o : Out} (h : OutOk K S0 H0 A H o D) (f : Fr A H H') (s : Sb A H A') : OutOk K S0 H0 A' H' o D := by
  cases o with
  | nx e => exact fun A2 H2 σ2 E f2 s2 => h A2 H2 σ2 E (f.trans s f2) (Sb.trans f s s2)
  | bk e => exact fun A2 H2 σ2 E f2 s2 => h A2 H2 σ2 E (f.trans s f2) (Sb.trans f s s2)
  | ct e => exact fun A2 H2 σ2 E f2 s2 => h A2 H2 σ2 E (f.trans s f2) (Sb.trans f s s2)
  | rt d => exact h
  | bad => exact h
theorem sc_cl {c : Bool} {a : Addr} (h : Cl S0 H0 A a) : SC c S0 H0 A a := fun _ => h
theorem cl_sc {a : Addr} (h : SC true S0 H0 A a) : Cl S0 H0 A a := h rfl
end

section
variable {X : Cx} {a b e : Expr} {es : List Expr} {pos : Pos} {c c1 c2 : Bool} {f g : En → Option PyData} {fa : En → Option (List PyData)} {fb : En → Option Bool}
theorem pe_w {t t' : TE} (h : PE X e t) (w : ∀ σ H Q, t' σ H Q → t σ H Q) : PE X e t' := ⟨fun pins s σ H Q I q => h.run pins s σ H Q I (w σ H Q q)⟩
theorem pt_w {t t' : TT} (h : PT X e t) (w : ∀ σ H Q, t' σ H Q → t σ H Q) : PT X e t' := ⟨fun pins s σ H Q I q => h.run pins s σ H Q I (w σ H Q q)⟩
theorem pw_w {t t' : TT} (h : PW X e t) (w : ∀ σ H Q, t' σ H Q → t σ H Q) : PW X e t' := ⟨fun wh pins s σ H Q I q => h.run wh pins s σ H Q I (w σ H Q q)⟩
theorem pa_w {t t' : TA} (h : PA X es t) (w : ∀ σ H Q, t' σ H Q → t σ H Q) : PA X es t' := ⟨fun pos pins s σ H Q I q => h.run pos pins s σ H Q I (w σ H Q q)⟩
theorem ps_w {st : Stmt} {t t' : TS} (h : PS X st t) (w : ∀ D σ H, t' D σ H → t D σ H) : PS X st t' := ⟨fun pins s σ H D I q => h.run pins s σ H D I (w D σ H q)⟩
theorem pss_w {st : List Stmt} {t t' : TS} (h : PSs X st t) (w : ∀ D σ H, t' D σ H → t D σ H) : PSs X st t' := ⟨fun pins s σ H D I q => h.run pins s σ H D I (w D σ H q)⟩
theorem pg_w {tg : Expr} {t t' : TG} (h : PG X tg t) (w : ∀ v σ H Q, t' v σ H Q → t v σ H Q) : PG X tg t' := ⟨fun pins s σ H v u Q I r q => h.run pins s σ H v u Q I r (w v σ H Q q)⟩

/-- what is clean may be borrowed -/
theorem ce_b (h : PE X e (tE X.K true f)) : PE X e (tE X.K false f) := pe_w h fun σ H Q ⟨S0, H0, A, env, d, E, hf, q⟩ =>
  ⟨S0, H0, A, env, d, E, hf, fun v H' s r => q v H' s (r.wide fun _ _ z => nomatch z)⟩
theorem ca_b (h : PA X es (tA X.K true fa)) : PA X es (tA X.K false fa) := pa_w h fun σ H Q ⟨S0, H0, A, env, d, E, hf, q⟩ =>
  ⟨S0, H0, A, env, d, E, hf, fun v H' s r => q v H' s (r.wide fun _ _ z => nomatch z)⟩
/-- a fresh list as a value -/
def eL (f : En → Option (List PyData)) : En → Option PyData := fun env => (f env).map .list
theorem ce_l (h : PE X e (tF X.K c fa)) : PE X e (tE X.K c (eL fa)) := pe_w h fun σ H Q ⟨S0, H0, A, env, d, E, hf, q⟩ => by
  unfold eL at hf
  cases hd : fa env with
  | none => rw [hd] at hf; cases hf
  | some ds =>
    rw [hd] at hf
    cases hf
    refine ⟨S0, H0, A, env, ds, E, hd, fun p xs H' hn s hp r => q _ H' s ?_⟩
    rw [Rp]
    exact ⟨p, xs, rfl, .inl ⟨sc_new E hn, .inl hp⟩, r.wide fun _ z => z.1⟩
/-- a value without lists is clean -/
def eN (f : En → Option PyData) : En → Option PyData := fun env => (f env).bind fun d => if noL d = true then some d else none
theorem ce_n (h : PE X e (tE X.K false f)) : PE X e (tE X.K c (eN f)) := pe_w h fun σ H Q ⟨S0, H0, A, env, d, E, hf, q⟩ => by
  unfold eN at hf
  cases hd : f env with
  | none => rw [hd] at hf; cases hf
  | some d' =>
    rw [hd] at hf
    by_cases n : noL d' = true
    · have hf' : (if noL d' = true then some d' else none) = some d := hf
      rw [if_pos n] at hf'
      cases hf'
      exact ⟨S0, H0, A, env, d, E, hd, fun v H' s r => q v H' s (Rp.noL d v n r)⟩
    · have hf' : (if noL d' = true then some d' else none) = some d := hf
      rw [if_neg n] at hf'; cases hf'

/-! ### names, constants -/
def eVar (i : Nat) : En → Option PyData := fun env => match env[i]? with
  | some (.val d) => some d
  | _ => none
def eBor (i : Nat) : En → Option PyData := fun env => match env[i]? with
  | some (.own ds) => some (.list ds)
  | _ => none
theorem ce_var {i : Nat} (h : PE X e (tVar i)) : PE X e (tE X.K true (eVar i)) := pe_w h fun σ H Q ⟨S0, H0, A, env, d, E, hf, q⟩ => by
  unfold eVar at hf
  split at hf
  · rename_i d' hi
    cases hf
    rcases E.sl i _ hi with z | ⟨v, h1, h2⟩
    · cases z
    · exact ⟨v, h1, q v H (Same.refl H) (Rp.wide (fun _ z => sc_cl z) h2)⟩
  · cases hf
theorem ce_bor {i : Nat} (h : PE X e (tVar i)) : PE X e (tE X.K false (eBor i)) := pe_w h fun σ H Q ⟨S0, H0, A, env, d, E, hf, q⟩ => by
  unfold eBor at hf
  split at hf
  · rename_i ds hi
    cases hf
    rcases E.sl i _ hi with z | ⟨v, h1, a, xs, rfl, ha, hh, r⟩
    · cases z
    · refine ⟨_, h1, q _ H (Same.refl H) ?_⟩
      rw [Rp]
      exact ⟨a, xs, rfl, .inl ⟨(fun z => nomatch z), .inl hh⟩, r.wide fun _ _ z => nomatch z⟩
  · cases hf
def eC (d : PyData) : En → Option PyData := fun _ => some d
theorem ce_c {v : V} {d : PyData} (h : PE X e (tC v)) (r : ∀ S H, Rp X.K S H d v) : PE X e (tE X.K true (eC d)) := pe_w h fun σ H Q ⟨S0, H0, A, env, d', E, hf, q⟩ => by
  cases hf
  exact q v H (Same.refl H) (r _ _)
theorem ce_int {i : Int} {j : Nat} : PE X (.Constant (.int i) j pos) (tE X.K true (eC (.int i))) := ce_c pe_int fun _ _ => by rw [Rp]
theorem ce_bl {i : Bool} {j : Nat} : PE X (.Constant (.bool i) j pos) (tE X.K true (eC (.bool i))) := ce_c pe_bl fun _ _ => by rw [Rp]
theorem ce_non {j : Nat} : PE X (.Constant .none j pos) (tE X.K true (eC .none)) := ce_c pe_non fun _ _ => by rw [Rp]
theorem ce_str {i : Str} {j : Nat} : PE X (.Constant (.str i) j pos) (tE X.K true (eC (.str i))) := ce_c pe_str fun _ _ => by rw [Rp]

/-! ### operations on two values -/
/-- sc: the value has no lists -/
def R2Ok (K : PySem.W.Frag) (sc : Bool) (r : R2) (h : PyData → PyData → Option PyData) : Prop := ∀ (S S' : Addr → Prop) (H : Hp) (x y : V) (dx dy d : PyData) (Q : VK), (∀ p, H p = none → S p) → (sc = true ∨ S' = S) → Rp K S H dx x → Rp K S H dy y → h dx dy = some d →
  (∀ v H', Same H H' → Rp K S' H' d v → Q v H') → r x y H Q
def e2 (h : PyData → PyData → Option PyData) (f g : En → Option PyData) : En → Option PyData := fun env => match f env with
  | some x => match g env with
    | some y => h x y
    | none => none
  | none => none
theorem e2_some {h : PyData → PyData → Option PyData} {env : En} {d : PyData} (q : e2 h f g env = some d) : ∃ x y, f env = some x ∧ g env = some y ∧ h x y = some d := by
  unfold e2 at q
  split at q
  · split at q
    · exact ⟨_, _, by assumption, by assumption, q⟩
    · cases q
  · cases q
theorem e2_run {K : PySem.W.Frag} {sc : Bool} {r : R2} {h : PyData → PyData → Option PyData} (R : R2Ok K sc r h) (hc : sc = true ∨ c2 = c1) {σ : L2.St} {H : Hp} {Q : VK} (q : tE K c2 (e2 h f g) σ H Q) : tOp r (tE K c1 f) (tE K c1 g) σ H Q := by
  obtain ⟨S0, H0, A, env, d, E, hf, q⟩ := q
  obtain ⟨x, y, h1, h2, h3⟩ := e2_some hf
  refine ⟨S0, H0, A, env, x, E, h1, fun v H1 s1 r1 => ⟨S0, H0, A, env, y, E.grow s1, h2, fun u H2 s2 r2 => ?_⟩⟩
  refine R (SC c1 S0 H0 A) (SC c2 S0 H0 A) H2 v u x y d Q (fun p hp => sc_new (E.grow (s1.trans s2)) hp) (hc.imp id fun z => by rw [z]) (r1.grow s2) r2 h3 fun z H3 s3 r3 => q z H3 ((s1.trans s2).trans s3) r3
theorem ce_op {op : Operator} {r : R2} {h : PyData → PyData → Option PyData} {sc : Bool} (ho : OpR X (binaryOp op) r) (R : R2Ok X.K sc r h) (ha : PE X a (tE X.K c1 f)) (hb : PE X b (tE X.K c1 g)) (hc : sc = true ∨ c2 = c1 := by first | exact .inl rfl | exact .inr rfl) :
    PE X (.BinOp a op b pos) (tE X.K c2 (e2 h f g)) := pe_w (pe_op ho ha hb) fun _ _ _ q => e2_run R hc q
theorem ce_cmp {op : CmpOp} {r : R2} {h : PyData → PyData → Option PyData} (ho : OpR X (compareOp op) r) (R : R2Ok X.K true r h) (ha : PE X a (tE X.K c1 f)) (hb : PE X b (tE X.K c1 g)) (hm : behindInMarks op b = false) :
    PE X (.Compare a [op] [b] pos) (tE X.K true (e2 h f g)) := pe_w (pe_cmpR ho ha hb hm) fun _ _ _ q => e2_run R (.inl rfl) q
/-- a value as a test -/
def t1 (f : En → Option PyData) : En → Option Bool := fun env => match f env with
  | some (.bool b) => some b
  | _ => none
theorem t1_some {env : En} {b : Bool} (q : t1 f env = some b) : f env = some (.bool b) := by
  unfold t1 at q
  split at q
  · rename_i h
    cases q
    exact h
  · cases q
theorem t1_run {K : PySem.W.Frag} {t : TE} {σ : L2.St} {H : Hp} {Q : Bool → Hp → Prop} (ht : ∀ Q, tE K c f σ H Q → t σ H Q) (q : tT K (t1 f) σ H Q) : t σ H fun x H1 => ∃ c, x = .bl c ∧ Q c H1 := by
  obtain ⟨S0, H0, A, env, d, E, hf, q⟩ := q
  refine ht _ ⟨S0, H0, A, env, _, E, t1_some hf, fun v H' s r => ⟨d, ?_, q H' s⟩⟩
  rw [Rp] at r
  exact r
theorem ct_cmp {op : CmpOp} {r : R2} {h : PyData → PyData → Option PyData} (ho : OpR X (compareOp op) r) (R : R2Ok X.K true r h) (ha : PE X a (tE X.K c1 f)) (hb : PE X b (tE X.K c1 g)) (hm : behindInMarks op b = false) :
    PT X (.Compare a [op] [b] pos) (tT X.K (t1 (e2 h f g))) := pt_w (pt_cmpR ho ha hb hm) fun σ H Q q => t1_run (c := true) (fun Q q => e2_run R (.inl rfl) q) q
theorem ct_val (ha : PE X e (tE X.K c f)) (he : ∀ whole, isTrue e X.env whole = (do let v ← whole; standAt e.pos; holding [v] (truthy v)) := by intro _; rfl) : PT X e (tT X.K (t1 f)) := pt_w (pt_val ha he) fun σ H Q q => t1_run (fun Q q => q) q

/-! ### truth -/
def truD : PyData → Option Bool
  | .none => some false
  | .bool b => some b
  | .int i => some (i != 0)
  | .str y => if y.length ≤ 1000000 then some ((y.length : Int) != 0) else none
  | .list ds => some (!ds.isEmpty)
  | .tuple ds => some (!ds.isEmpty)
  | .dict _ => none
theorem sz6 {n : Nat} (h : n ≤ 1000000) : n ≤ sizeLine := Nat.le_trans h (by decide)
theorem rpA_empty {K : PySem.W.Frag} {S : Addr → Prop} {H : Hp} {ds : List PyData} {xs : List V} (r : RpA K S H ds xs) : (!ds.isEmpty) = !xs.isEmpty := by
  cases ds with
  | nil => rw [RpA] at r; subst r; rfl
  | cons d ds =>
    rw [RpA] at r
    obtain ⟨v, r', rfl, _⟩ := r
    rfl
theorem truD_ok {K : PySem.W.Frag} {S : Addr → Prop} {H : Hp} {d : PyData} {v : V} {b : Bool} (r : Rp K S H d v) (h : truD d = some b) : TruV K v H b := by
  cases d with
  | none => rw [Rp] at r; subst r; cases h; rfl
  | bool k => rw [Rp] at r; subst r; cases h; rfl
  | int k => rw [Rp] at r; subst r; cases h; rfl
  | str k =>
    rw [Rp] at r; subst r
    simp only [truD] at h
    by_cases q : k.length ≤ 1000000
    · rw [if_pos q] at h; cases h; exact ⟨sz6 q, rfl⟩
    · rw [if_neg q] at h; cases h
  | list ds =>
    rw [Rp] at r
    obtain ⟨a, xs, rfl, q, r⟩ := r
    cases h
    exact .inl ⟨xs, q.sq, rpA_empty r⟩
  | tuple ds =>
    rw [Rp] at r
    obtain ⟨a, xs, rfl, q, r⟩ := r
    cases h
    exact .inr (.inl ⟨xs, live_t q, rpA_empty r⟩)
  | dict k => cases h
def tTr (f : En → Option PyData) : En → Option Bool := fun env => (f env).bind truD
theorem ct_tru (ha : PE X e (tE X.K c f)) (he : ∀ whole, isTrue e X.env whole = (do let v ← whole; standAt e.pos; holding [v] (truthy v)) := by intro _; rfl) : PT X e (tT X.K (tTr f)) := pt_w (pt_truth ha he) fun σ H Q ⟨S0, H0, A, env, b, E, hf, q⟩ => by
  unfold tTr at hf
  cases hd : f env with
  | none => rw [hd] at hf; cases hf
  | some d =>
    rw [hd] at hf
    exact ⟨S0, H0, A, env, d, E, hd, fun v H' s r => ⟨b, truD_ok r hf, q H' s⟩⟩

/-! ### and, or, not -/
variable {ga gb : En → Option Bool} {rest : List Expr}
def tAnd' (ga gb : En → Option Bool) : En → Option Bool := fun env => match ga env with
  | some true => gb env
  | some false => some false
  | none => none
def tOr' (ga gb : En → Option Bool) : En → Option Bool := fun env => match ga env with
  | some true => some true
  | some false => gb env
  | none => none
def tNot' (ga : En → Option Bool) : En → Option Bool := fun env => (ga env).map (!·)
theorem and_run {K : PySem.W.Frag} {σ : L2.St} {H : Hp} {Q : Bool → Hp → Prop} (q : tT K (tAnd' ga gb) σ H Q) : tAnd (tT K ga) (tT K gb) σ H Q := by
  obtain ⟨S0, H0, A, env, b, E, hf, q⟩ := q
  unfold tAnd' at hf
  split at hf
  · rename_i h
    exact ⟨S0, H0, A, env, true, E, h, fun H' s => iteT <| ⟨S0, H0, A, env, b, E.grow s, hf, fun H2 s2 => q H2 (s.trans s2)⟩⟩
  · rename_i h
    cases hf
    exact ⟨S0, H0, A, env, false, E, h, fun H' s => iteF <| q H' s⟩
  · cases hf
theorem or_run {K : PySem.W.Frag} {σ : L2.St} {H : Hp} {Q : Bool → Hp → Prop} (q : tT K (tOr' ga gb) σ H Q) : tOr (tT K ga) (tT K gb) σ H Q := by
  obtain ⟨S0, H0, A, env, b, E, hf, q⟩ := q
  unfold tOr' at hf
  split at hf
  · rename_i h
    cases hf
    exact ⟨S0, H0, A, env, true, E, h, fun H' s => iteT <| q H' s⟩
  · rename_i h
    exact ⟨S0, H0, A, env, false, E, h, fun H' s => iteF <| ⟨S0, H0, A, env, b, E.grow s, hf, fun H2 s2 => q H2 (s.trans s2)⟩⟩
  · cases hf
theorem cw_and1 (ha : PT X a (tT X.K ga)) : PW X (.BoolOp .And [a] pos) (tT X.K ga) := pw_and1 ha
theorem cw_or1 (ha : PT X a (tT X.K ga)) : PW X (.BoolOp .Or [a] pos) (tT X.K ga) := pw_or1 ha
theorem cw_and (ha : PT X a (tT X.K ga)) (hb : PW X (.BoolOp .And (b :: rest) pos) (tT X.K gb)) : PW X (.BoolOp .And (a :: b :: rest) pos) (tT X.K (tAnd' ga gb)) := pw_w (pw_and ha hb) fun _ _ _ q => and_run q
theorem cw_or (ha : PT X a (tT X.K ga)) (hb : PW X (.BoolOp .Or (b :: rest) pos) (tT X.K gb)) : PW X (.BoolOp .Or (a :: b :: rest) pos) (tT X.K (tOr' ga gb)) := pw_w (pw_or ha hb) fun _ _ _ q => or_run q
theorem ct_not (ha : PT X a (tT X.K ga)) : PT X (.UnaryOp .Not a pos) (tT X.K (tNot' ga)) := pt_w (pt_not ha) fun σ H Q ⟨S0, H0, A, env, b, E, hf, q⟩ => by
  unfold tNot' at hf
  cases hd : ga env with
  | none => rw [hd] at hf; cases hf
  | some d =>
    rw [hd] at hf
    cases hf
    exact ⟨S0, H0, A, env, d, E, hd, q⟩
/-- and, or, not as values -/
def eB (ga : En → Option Bool) : En → Option PyData := fun env => (ga env).map .bool
theorem ce_one {op : BoolOp} (h : PE X a (tE X.K c f)) : PE X (.BoolOp op [a] pos) (tE X.K c f) := pe_one h
def eAnd (f g : En → Option PyData) : En → Option PyData := fun env => match f env with
  | some (.bool true) => g env
  | some (.bool false) => some (.bool false)
  | _ => none
def eOr (f g : En → Option PyData) : En → Option PyData := fun env => match f env with
  | some (.bool true) => some (.bool true)
  | some (.bool false) => g env
  | _ => none
theorem ce_and (ha : PE X a (tE X.K c1 f)) (hb : PE X (.BoolOp .And (b :: rest) pos) (tE X.K c g)) : PE X (.BoolOp .And (a :: b :: rest) pos) (tE X.K c (eAnd f g)) := pe_w (pe_and ha hb) fun σ H Q ⟨S0, H0, A, env, d, E, hf, q⟩ => by
  unfold eAnd at hf
  split at hf
  · rename_i h
    refine ⟨S0, H0, A, env, _, E, h, fun v H' s r => ?_⟩
    rw [Rp] at r
    exact ⟨true, r, iteT <| ⟨S0, H0, A, env, d, E.grow s, hf, fun v2 H2 s2 r2 => q v2 H2 (s.trans s2) r2⟩⟩
  · rename_i h
    cases hf
    refine ⟨S0, H0, A, env, _, E, h, fun v H' s r => ?_⟩
    rw [Rp] at r
    exact ⟨false, r, iteF <| q _ H' s (by rw [Rp])⟩
  · cases hf
theorem ce_or (ha : PE X a (tE X.K c1 f)) (hb : PE X (.BoolOp .Or (b :: rest) pos) (tE X.K c g)) : PE X (.BoolOp .Or (a :: b :: rest) pos) (tE X.K c (eOr f g)) := pe_w (pe_or ha hb) fun σ H Q ⟨S0, H0, A, env, d, E, hf, q⟩ => by
  unfold eOr at hf
  split at hf
  · rename_i h
    cases hf
    refine ⟨S0, H0, A, env, _, E, h, fun v H' s r => ?_⟩
    rw [Rp] at r
    exact ⟨true, r, iteT <| q _ H' s (by rw [Rp])⟩
  · rename_i h
    refine ⟨S0, H0, A, env, _, E, h, fun v H' s r => ?_⟩
    rw [Rp] at r
    exact ⟨false, r, iteF <| ⟨S0, H0, A, env, d, E.grow s, hf, fun v2 H2 s2 r2 => q v2 H2 (s.trans s2) r2⟩⟩
  · cases hf
def eNot (f : En → Option PyData) : En → Option PyData := fun env => match f env with
  | some (.bool b) => some (.bool (!b))
  | _ => none
theorem ce_not (ha : PE X a (tE X.K c1 f)) : PE X (.UnaryOp .Not a pos) (tE X.K true (eNot f)) := pe_w (pe_not ha) fun σ H Q ⟨S0, H0, A, env, d, E, hf, q⟩ => by
  unfold eNot at hf
  split at hf
  · rename_i k h
    cases hf
    refine ⟨S0, H0, A, env, _, E, h, fun v H' s r => ?_⟩
    rw [Rp] at r
    exact ⟨k, r, q _ H' s (by rw [Rp])⟩
  · cases hf
def eIf (ga : En → Option Bool) (f g : En → Option PyData) : En → Option PyData := fun env => match ga env with
  | some true => f env
  | some false => g env
  | none => none
theorem ce_if {t : Expr} (ht : PT X t (tT X.K ga)) (ha : PE X a (tE X.K c f)) (hb : PE X b (tE X.K c g)) : PE X (.IfExp t a b pos) (tE X.K c (eIf ga f g)) := pe_w (pe_ifExp ht ha hb) fun σ H Q ⟨S0, H0, A, env, d, E, hf, q⟩ => by
  unfold eIf at hf
  split at hf
  · rename_i h
    exact ⟨S0, H0, A, env, _, E, h, fun H' s => iteT <| ⟨S0, H0, A, env, d, E.grow s, hf, fun v2 H2 s2 r2 => q v2 H2 (s.trans s2) r2⟩⟩
  · rename_i h
    exact ⟨S0, H0, A, env, _, E, h, fun H' s => iteF <| ⟨S0, H0, A, env, d, E.grow s, hf, fun v2 H2 s2 r2 => q v2 H2 (s.trans s2) r2⟩⟩
  · cases hf

/-! ### argument lists, displays -/
def aNil : En → Option (List PyData) := fun _ => some []
def aCons (f : En → Option PyData) (g : En → Option (List PyData)) : En → Option (List PyData) := fun env => match f env with
  | some d => match g env with
    | some ds => some (d :: ds)
    | none => none
  | none => none
theorem aCons_some {env : En} {es : List PyData} (q : aCons f fa env = some es) : ∃ d ds, f env = some d ∧ fa env = some ds ∧ es = d :: ds := by
  unfold aCons at q
  split at q
  · split at q
    · cases q
      exact ⟨_, _, by assumption, by assumption, rfl⟩
    · cases q
  · cases q
theorem ca_nil : PA X [] (tA X.K c aNil) := pa_w pa_nil fun σ H Q ⟨S0, H0, A, env, d, E, hf, q⟩ => by
  cases hf
  exact q [] H (Same.refl H) RpA.nil
theorem ca_cons (ha : PE X e (tE X.K c f)) (hr : PA X es (tA X.K c fa)) (hs : starEach (e :: es) X.env = (false, eval e X.env) :: starEach es X.env := by rfl) : PA X (e :: es) (tA X.K c (aCons f fa)) := pa_w (pa_cons ha hr hs) fun σ H Q ⟨S0, H0, A, env, d, E, hf, q⟩ => by
  obtain ⟨d1, ds, h1, h2, rfl⟩ := aCons_some hf
  exact ⟨S0, H0, A, env, d1, E, h1, fun v H1 s1 r1 => ⟨S0, H0, A, env, ds, E.grow s1, h2, fun vs H2 s2 r2 => q _ H2 (s1.trans s2) (RpA.cons (r1.grow s2) r2)⟩⟩
def eTup (fa : En → Option (List PyData)) : En → Option PyData := fun env => match fa env with
  | some ds => if ds.length ≤ 1000000 then some (.tuple ds) else none
  | none => none
theorem eTup_some {env : En} {d : PyData} (q : eTup fa env = some d) : ∃ ds, fa env = some ds ∧ ds.length ≤ 1000000 ∧ d = .tuple ds := by
  unfold eTup at q
  split at q
  · split at q
    · cases q; exact ⟨_, by assumption, by assumption, rfl⟩
    · cases q
  · cases q
theorem ce_tup {x1 : Nat} (h : PA X es (tA X.K c fa)) : PE X (.Tuple es x1 pos) (tE X.K c (eTup fa)) := pe_w (pe_tup h) fun σ H Q ⟨S0, H0, A, env, d, E, hf, q⟩ => by
  obtain ⟨ds, h1, h2, rfl⟩ := eTup_some hf
  refine ⟨S0, H0, A, env, ds, E, h1, fun vs H1 s1 r1 => ⟨by rw [r1.length]; exact sz6 h2, fun p hp => q _ _ (s1.trans fun b o z => by rw [upd_ne (ne_of_none z hp)]; exact z) ?_⟩⟩
  rw [Rp]
  exact ⟨p, vs, rfl, upd_same, r1.grow fun b o z => by rw [upd_ne (ne_of_none z hp)]; exact z⟩
def fLst (fa : En → Option (List PyData)) : En → Option (List PyData) := fun env => match fa env with
  | some ds => if ds.length ≤ 1000000 then some ds else none
  | none => none
theorem fLst_some {env : En} {d : List PyData} (q : fLst fa env = some d) : fa env = some d ∧ d.length ≤ 1000000 := by
  unfold fLst at q
  split at q
  · split at q
    · cases q; exact ⟨by assumption, by assumption⟩
    · cases q
  · cases q
theorem same_new {H : Hp} {p : Addr} {o : HO} (h : H p = none) : Same H (upd H p o) := fun b u e => by
  rw [upd_ne (ne_of_none e h)]
  exact e
/-- items that stood ahead of the new list do not lean on it -/
theorem RpA.apart {K : PySem.W.Frag} {S : Addr → Prop} {H H' : Hp} {p : Addr} {ds : List PyData} {vs : List V} (h : RpA K S H ds vs) (hp : H p = none) (s : Same H H') : RpA K (fun a => S a ∧ a ≠ p) H' ds vs :=
  RpA.mono (fun a xs z r => ⟨⟨z, fun e => by
    subst e
    rcases r with r | ⟨o, r⟩ <;> (rw [hp] at r; cases r)⟩, same_rd s r⟩) (fun _ _ z => same_t s z) (same_d s) ds vs h
theorem Rp.apart {K : PySem.W.Frag} {S : Addr → Prop} {H H' : Hp} {p : Addr} {d : PyData} {v : V} (h : Rp K S H d v) (hp : H p = none) (s : Same H H') : Rp K (fun a => S a ∧ a ≠ p) H' d v :=
  Rp.mono (fun a xs z r => ⟨⟨z, fun e => by
    subst e
    rcases r with r | ⟨o, r⟩ <;> (rw [hp] at r; cases r)⟩, same_rd s r⟩) (fun _ _ z => same_t s z) (same_d s) d v h
theorem cf_lst (h : PA X es (tA X.K c fa)) : PE X (.List es pos) (tF X.K c (fLst fa)) := pe_w (pe_lst h) fun σ H Q ⟨S0, H0, A, env, ds, E, hf, q⟩ => by
  obtain ⟨h1, h2⟩ := fLst_some hf
  refine ⟨S0, H0, A, env, ds, E, h1, fun vs H1 s1 r1 => ⟨by rw [r1.length]; exact sz6 h2, fun p hp => ?_⟩⟩
  exact q p vs _ (s1.free hp) (s1.trans (same_new hp)) upd_same (r1.apart hp (same_new hp))
end

/-! ### statements -/
section
variable {X : Cx} {e : Expr} {pos pos' : Pos} {c : Bool} {f : En → Option PyData} {fa : En → Option (List PyData)} {ga : En → Option Bool} {s t : En → Out} {st : Stmt} {sts : List Stmt}
def sNil : En → Out := fun env => .nx env
def sSeq (s t : En → Out) : En → Out := fun env => match s env with
  | .nx e => t e
  | .bk e => .bk e
  | .ct e => .ct e
  | .rt d => .rt d
  | .bad => .bad
theorem cs_nil : PSs X [] (tS X.K sNil) := pss_w pss_nil fun D σ H ⟨S0, H0, A, env, E, o⟩ => o A H σ E Fr.refl Sb.refl
theorem cs_cons (h1 : PS X st (tS X.K s)) (h2 : PSs X sts (tS X.K t)) : PSs X (st :: sts) (tS X.K (sSeq s t)) := pss_w (pss_cons h1 h2) fun D σ H ⟨S0, H0, A, env, E, o⟩ => by
  refine ⟨S0, H0, A, env, E, ?_⟩
  unfold sSeq at o
  cases hs : s env with
  | nx e =>
    rw [hs] at o
    exact fun A' H' σ' E' f' b' => ⟨S0, H0, A', e, E', OutOk.step o f' b'⟩
  | bk e => rw [hs] at o; exact o
  | ct e => rw [hs] at o; exact o
  | rt d => rw [hs] at o; exact o
  | bad => rw [hs] at o; exact o
theorem cs_one (h1 : PS X st (tS X.K s)) : PSs X [st] (tS X.K s) := pss_one h1
/-- ahead of the statement the list of the slot i is let go -/
theorem cs_frz {i : Nat} (h : PS X st (tS X.K s)) : PS X st (tS X.K fun env => s (frz i env)) := ps_w h fun D σ H ⟨S0, H0, A, env, E, o⟩ => by
  obtain ⟨A', E', w⟩ := E.frz i
  exact ⟨S0, H0, A', _, E', OutOk.step o Fr.refl fun a z => .inl (w a z)⟩
theorem css_frz {i : Nat} (h : PSs X sts (tS X.K s)) : PSs X sts (tS X.K fun env => s (frz i env)) := pss_w h fun D σ H ⟨S0, H0, A, env, E, o⟩ => by
  obtain ⟨A', E', w⟩ := E.frz i
  exact ⟨S0, H0, A', _, E', OutOk.step o Fr.refl fun a z => .inl (w a z)⟩
def sSet (i : Nat) (f : En → Option PyData) : En → Out := fun env => match f env with
  | some d => .nx (env.set i (.val d))
  | none => .bad
def sOwn (i : Nat) (f : En → Option (List PyData)) : En → Out := fun env => match f env with
  | some d => .nx (env.set i (.own d))
  | none => .bad
theorem set_run {K : PySem.W.Frag} {i : Nat} {D : Ends} {σ : L2.St} {H : Hp} (h : tS K (sSet i f) D σ H) : tAsg (tE K true f) (gName i) D σ H := by
  obtain ⟨S0, H0, A, env, E, o⟩ := h
  unfold sSet at o
  cases hd : f env with
  | none => rw [hd] at o; exact o.elim
  | some d =>
    rw [hd] at o
    exact ⟨S0, H0, A, env, d, E, hd, fun v H' s r => o A H' _ ((E.grow s).set_val (r.wide fun _ z => cl_sc z)) (Fr.of_same s) Sb.refl⟩
theorem own_run {K : PySem.W.Frag} {i : Nat} {D : Ends} {σ : L2.St} {H : Hp} (h : tS K (sOwn i fa) D σ H) : tAsg (tF K true fa) (gName i) D σ H := by
  obtain ⟨S0, H0, A, env, E, o⟩ := h
  unfold sOwn at o
  cases hd : fa env with
  | none => rw [hd] at o; exact o.elim
  | some ds =>
    rw [hd] at o
    refine ⟨S0, H0, A, env, ds, E, hd, fun p xs H' hn s hp r => o _ H' _ (E.set_own s hn hp (r.wide fun _ z => ⟨cl_sc z.1, z.2⟩)) (Fr.of_same s) fun a z => z.imp id fun e => by rw [e]; exact hn⟩
theorem cs_set {i : Nat} (h : PS X st (tAsg (tE X.K true f) (gName i))) : PS X st (tS X.K (sSet i f)) := ps_w h fun _ _ _ q => set_run q
theorem cs_own {i : Nat} (h : PS X st (tAsg (tF X.K true fa) (gName i))) : PS X st (tS X.K (sOwn i fa)) := ps_w h fun _ _ _ q => own_run q
/-- x.append(e), x an owned list -/
def sApp (i : Nat) (f : En → Option PyData) : En → Out := fun env => match f env with
  | some d => match env[i]? with
    | some (.own ds) => if ds.length < 1000000 then .nx (env.set i (.own (ds ++ [d]))) else .bad
    | _ => .bad
  | none => .bad
theorem app_run {K : PySem.W.Frag} {i : Nat} {D : Ends} {σ : L2.St} {H : Hp} (h : tS K (sApp i f) D σ H) : tDrop (tBM K "list" rAppend (tVar i) (tCons (tE K true f) tNil)) D σ H := by
  obtain ⟨S0, H0, A, env, E, o⟩ := h
  unfold sApp at o
  cases hd : f env with
  | none => rw [hd] at o; exact o.elim
  | some d =>
    rw [hd] at o
    replace o : OutOk K S0 H0 A H (match env[i]? with
      | some (.own ds) => if ds.length < 1000000 then .nx (env.set i (.own (ds ++ [d]))) else .bad
      | _ => .bad) D := o
    split at o
    · rename_i ds hi
      split at o
      · rename_i hl
        rcases E.sl i _ hi with z | ⟨v, h1, a, xs, rfl, ha, hh, r⟩
        · cases z
        refine ⟨_, h1, .inl ⟨rfl, xs, .inl (.inl hh)⟩, S0, H0, A, env, d, E, hd, fun v H' s r' => ?_⟩
        have E' := E.grow s
        refine ⟨a, xs, v, rfl, rfl, s _ _ hh, ?_, ?_⟩
        · rw [r.length]
          exact Nat.lt_of_lt_of_le hl (by decide)
        · have q := RpA.append (r.grow s) (RpA.cons (r'.wide fun _ z => cl_sc z) RpA.nil)
          refine o A _ σ (E'.mut hi h1 ha (s _ _ hh) q) (fun b u e n => ?_) Sb.refl
          have nb : b ≠ a := fun z => n (z ▸ ha)
          rw [upd_ne nb]
          exact s _ _ e
      · exact o.elim
    · exact o.elim
theorem cs_app {i : Nat} (h : PS X st (tDrop (tBM X.K "list" rAppend (tVar i) (tCons (tE X.K true f) tNil)))) : PS X st (tS X.K (sApp i f)) := ps_w h fun _ _ _ q => app_run q
/-- x[k] = e, x an owned list -/
def ixD (n : Nat) (k : PyData) : Option Nat := match k with
  | .int i => ixN n i
  | _ => none
def sPut (i : Nat) (fk f : En → Option PyData) : En → Out := fun env => match f env with
  | some d => match env[i]? with
    | some (.own ds) => match fk env with
      | some k => match ixD ds.length k with
        | some j => .nx (env.set i (.own (ds.set j d)))
        | none => .bad
      | none => .bad
    | _ => .bad
  | none => .bad
theorem put_run {K : PySem.W.Frag} {i : Nat} {fk : En → Option PyData} {D : Ends} {σ : L2.St} {H : Hp} (h : tS K (sPut i fk f) D σ H) : tAsg (tE K true f) (gSub (tVar i) (tE K c fk) rSetL) D σ H := by
  obtain ⟨S0, H0, A, env, E, o⟩ := h
  unfold sPut at o
  cases hd : f env with
  | none => rw [hd] at o; exact o.elim
  | some d =>
    rw [hd] at o
    refine ⟨S0, H0, A, env, d, E, hd, fun v H1 s1 r1 => ?_⟩
    cases hi : env[i]? with
    | none => rw [hi] at o; exact o.elim
    | some sl =>
      rw [hi] at o
      cases sl with
      | un => exact o.elim
      | val _ => exact o.elim
      | ownT _ => exact o.elim
      | ownK _ => exact o.elim
      | exc _ _ _ => exact o.elim
      | fn _ => exact o.elim
      | own ds =>
        cases hk : fk env with
        | none => rw [hk] at o; exact o.elim
        | some k =>
          rw [hk] at o
          cases hj : ixD ds.length k with
          | none => simp only [hj] at o; exact o.elim
          | some j =>
            simp only [hj] at o
            rcases E.sl i _ hi with z | ⟨_, h1, a, xs, rfl, ha, hh, r⟩
            · cases z
            refine ⟨_, h1, S0, H0, A, env, k, E.grow s1, hk, fun u H2 s2 r2 => ?_⟩
            cases k with
            | int m =>
              rw [Rp] at r2
              have hh2 := s2 _ _ (s1 _ _ hh)
              refine ⟨a, xs, m, j, rfl, r2, hh2, by rw [r.length]; exact hj, ?_⟩
              have q := (r.grow (s1.trans s2)).set (i := j) ((r1.wide fun _ z => cl_sc z).grow s2)
              refine o A _ σ ((E.grow (s1.trans s2)).mut hi h1 ha hh2 q) (fun b u e n => ?_) Sb.refl
              have nb : b ≠ a := fun z => n (z ▸ ha)
              rw [upd_ne nb]
              exact (s1.trans s2) _ _ e
            | none => cases hj
            | bool _ => cases hj
            | str _ => cases hj
            | list _ => cases hj
            | tuple _ => cases hj
            | dict _ => cases hj
theorem cs_put {i : Nat} {fk : En → Option PyData} (h : PS X st (tAsg (tE X.K true f) (gSub (tVar i) (tE X.K c fk) rSetL))) : PS X st (tS X.K (sPut i fk f)) := ps_w h fun _ _ _ q => put_run q
def sIf (ga : En → Option Bool) (s t : En → Out) : En → Out := fun env => match ga env with
  | some true => s env
  | some false => t env
  | none => .bad
theorem cs_if {a b : List Stmt} (hc : PT X e (tT X.K ga)) (ha : PSs X a (tS X.K s)) (hb : PSs X b (tS X.K t)) : PS X (.If e a b pos) (tS X.K (sIf ga s t)) := ps_w (ps_if hc ha hb) fun D σ H ⟨S0, H0, A, env, E, o⟩ => by
  unfold sIf at o
  cases hd : ga env with
  | none => rw [hd] at o; exact o.elim
  | some k =>
    rw [hd] at o
    refine ⟨S0, H0, A, env, k, E, hd, fun H' sm => ?_⟩
    cases k with
    | true => exact iteT <| ⟨S0, H0, A, env, E.grow sm, OutOk.step o (Fr.of_same sm) Sb.refl⟩
    | false => exact iteF <| ⟨S0, H0, A, env, E.grow sm, OutOk.step o (Fr.of_same sm) Sb.refl⟩
def sRet (f : En → Option PyData) : En → Out := fun env => match f env with
  | some d => .rt d
  | none => .bad
theorem cs_ret (h : PE X e (tE X.K true f)) : PS X (.Return (some e) pos) (tS X.K (sRet f)) := ps_w (ps_ret h) fun D σ H ⟨S0, H0, A, env, E, o⟩ => by
  unfold sRet at o
  cases hd : f env with
  | none => rw [hd] at o; exact o.elim
  | some d =>
    rw [hd] at o
    exact ⟨S0, H0, A, env, d, E, hd, fun v H' sm r => o v H' (E.same.trans sm) (r.wide fun _ z => (cl_sc z).1)⟩
def sRetN : En → Out := fun _ => .rt .none
theorem cs_retN : PS X (.Return none pos) (tS X.K sRetN) := ps_w ps_retN fun D σ H ⟨S0, H0, A, env, E, o⟩ => o _ H E.same (by rw [Rp])
def sBrk : En → Out := fun env => .bk env
def sCnt : En → Out := fun env => .ct env
theorem cs_brk : PS X (.Break pos) (tS X.K sBrk) := ps_w ps_break fun D σ H ⟨S0, H0, A, env, E, o⟩ => o A H σ E Fr.refl Sb.refl
theorem cs_cnt : PS X (.Continue pos) (tS X.K sCnt) := ps_w ps_continue fun D σ H ⟨S0, H0, A, env, E, o⟩ => o A H σ E Fr.refl Sb.refl
theorem cs_pass : PS X (.Pass pos) (tS X.K sNil) := ps_w ps_pass fun D σ H ⟨S0, H0, A, env, E, o⟩ => o A H σ E Fr.refl Sb.refl
/-- an expression for nothing -/
def sDrop (f : En → Option PyData) : En → Out := fun env => match f env with
  | some _ => .nx env
  | none => .bad
theorem cs_drop (h : PS X st (tDrop (tE X.K c f))) : PS X st (tS X.K (sDrop f)) := ps_w h fun D σ H ⟨S0, H0, A, env, E, o⟩ => by
  unfold sDrop at o
  cases hd : f env with
  | none => rw [hd] at o; exact o.elim
  | some d =>
    rw [hd] at o
    exact ⟨S0, H0, A, env, d, E, hd, fun v H' sm r => o A H' σ (E.grow sm) (Fr.of_same sm) Sb.refl⟩
/-- x += e, ints -/
def sAug (i : Nat) (k : Int → Int → Int) (f : En → Option PyData) : En → Out := fun env => match env[i]? with
  | some (.val (.int x)) => match f env with
    | some (.int y) => .nx (env.set i (.val (.int (k x y))))
    | _ => .bad
  | _ => .bad
theorem cs_aug {i : Nat} {k : Int → Int → Int} (h : PS X st (tAug i (tE X.K c f) (ipI k))) : PS X st (tS X.K (sAug i k f)) := ps_w h fun D σ H ⟨S0, H0, A, env, E, o⟩ => by
  unfold sAug at o
  split at o
  · rename_i x hi
    rcases E.sl i _ hi with z | ⟨v, h1, h2⟩
    · cases z
    have h2' : Rp X.K (Cl S0 H0 A) H (.int x) v := h2
    rw [Rp] at h2'
    subst h2'
    split at o
    · rename_i y hd
      refine ⟨_, h1, S0, H0, A, env, _, E, hd, fun u H' sm r => ?_⟩
      rw [Rp] at r
      refine ⟨x, y, rfl, r, o A H' _ ((E.grow sm).set_val (by rw [Rp])) (Fr.of_same sm) Sb.refl⟩
    · exact o.elim
  · exact o.elim
end
end Mir

namespace Mir
open PySem PySem.Spec PyProof.Rows L2

/-! ### targets -/
def gVal (i : Nat) : PyData → En → Option En := fun d env => some (env.set i (.val d))
def gMany : List Nat → List PyData → En → Option En
  | [], [], env => some env
  | i :: is, d :: ds, env => gMany is ds (env.set i (.val d))
  | _, _, _ => none
def gT (is : List Nat) : PyData → En → Option En := fun d env => match d with
  | .tuple ds => gMany is ds env
  | _ => none
def gsOf : List Nat → TGs
  | [] => gNil
  | i :: is => gCons (gName i) (gsOf is)
section
variable {X : Cx} {tg e iter : Expr} {pos : Pos} {K : PySem.W.Frag} {S0 : Addr → Prop} {H0 H H1 : Hp} {A : Addr → Prop} {σ : L2.St} {env : En}
theorem wipe_set {i : Nat} {x : Option V} : ∀ {is : List Nat}, (wipe (σ.set i x) is).set i none = (wipe σ is).set i none
  | [] => by simp [wipe]
  | j :: is => by
    show ((wipe (σ.set i x) is).set j none).set i none = ((wipe σ is).set j none).set i none
    by_cases h : j = i
    · subst h
      rw [List.set_set, List.set_set]
      exact wipe_set
    · rw [List.set_comm _ _ h, List.set_comm _ _ h, wipe_set]
theorem wipe_get (i : Nat) : ∀ (vs : List Nat), (wipe σ vs)[i]? = if i ∈ vs then (σ[i]?).map (fun _ => none) else σ[i]?
  | [] => by simp [wipe]
  | j :: vs => by
    show ((wipe σ vs).set j none)[i]? = _
    rw [List.getElem?_set, wipe_length]
    by_cases h : j = i
    · subst h
      rw [if_pos rfl, if_pos List.mem_cons_self]
      by_cases l : j < σ.length
      · rw [if_pos l, List.getElem?_eq_getElem l]; rfl
      · rw [if_neg l, List.getElem?_eq_none (by omega)]; rfl
    · rw [if_neg h, wipe_get i vs]
      by_cases m : i ∈ vs
      · rw [if_pos m, if_pos (List.mem_cons_of_mem _ m)]
      · rw [if_neg m, if_neg (fun z => by
          rcases List.mem_cons.mp z with z | z
          · exact h z.symm
          · exact m z)]
theorem wipe_wipe (vs : List Nat) : wipe (wipe σ vs) vs = wipe σ vs := by
  apply List.ext_getElem?
  intro i
  rw [wipe_get, wipe_get]
  split
  · cases σ[i]? <;> rfl
  · rfl
theorem cg_name {i : Nat} (h : PG X tg (gName i)) : PG X tg (tG X.K [i] (gVal i)) := pg_w h fun v σ H Q ⟨S0, H0, A, env, d, env', E, r, hg, q⟩ => by
  cases hg
  refine q _ (E.set_val r) ?_
  show (σ.set i (some v)).set i none = σ.set i none
  rw [List.set_set]
theorem many_run : ∀ {is : List Nat} {ds : List PyData} {vs : List V} {σ : L2.St} {env env' : En} {Q : L2.St → Hp → Prop}, EnvOk K S0 H0 A H σ env → RpA K (Cl S0 H0 A) H ds vs → gMany is ds env = some env' →
    (∀ σ', EnvOk K S0 H0 A H σ' env' → wipe σ' is = wipe σ is → Q σ' H) → gsOf is vs σ H Q
  | [], [], _, σ, env, env', Q, E, r, g, q => by
    rw [RpA] at r
    subst r
    cases g
    exact ⟨rfl, q σ E rfl⟩
  | [], _ :: _, _, _, _, _, _, _, _, g, _ => by cases g
  | _ :: _, [], _, _, _, _, _, _, _, g, _ => by cases g
  | i :: is, d :: ds, _, σ, env, env', Q, E, r, g, q => by
    rw [RpA] at r
    obtain ⟨v, r', rfl, h1, h2⟩ := r
    refine ⟨v, r', rfl, ?_⟩
    show gsOf is r' (σ.set i (some v)) H Q
    refine many_run (E.set_val h1) h2 g fun σ' E' w => q σ' E' ?_
    show (wipe σ' is).set i none = (wipe σ is).set i none
    rw [w, wipe_set]
theorem gMany_len : ∀ {is : List Nat} {ds : List PyData} {env env' : En}, gMany is ds env = some env' → ds.length = is.length
  | [], [], _, _, _ => rfl
  | [], _ :: _, _, _, g => by cases g
  | _ :: _, [], _, _, g => by cases g
  | _ :: is, _ :: ds, env, env', g => by
    rw [List.length_cons, List.length_cons, gMany_len (is := is) (ds := ds) g]
theorem cg_tup {is : List Nat} {n : Nat} (h : PG X tg (gTup X.K n (gsOf is))) (hn : n = is.length := by rfl) : PG X tg (tG X.K is (gT is)) := pg_w h fun v σ H Q ⟨S0, H0, A, env, d, env', E, r, hg, q⟩ => by
  cases d with
  | tuple ds =>
    rw [Rp] at r
    obtain ⟨a, xs, rfl, hs, ra⟩ := r
    exact ⟨a, xs, rfl, live_t hs, by rw [ra.length, hn]; exact gMany_len hg, many_run E ra hg q⟩
  | _ => cases hg

/-! ### what is walked -/
structure Wk (K : PySem.W.Frag) (J : It) (G : Hp → Prop) (S : Addr → Prop) (ds : List PyData) : Prop where
  go : ∀ i H, G H → i < ds.length → J.go i H
  yld : ∀ (i : Nat) H d x H', G H → ds[i]? = some d → J.yld i H x H' → Same H H' ∧ Rp K S H' d x
  stop : ∀ i H, G H → ds.length ≤ i → J.stop i H
/-- c: it stands still while the code runs -/
def tI (K : PySem.W.Frag) (c : Bool) (f : En → Option (List PyData)) : TI := fun σ H R => ∃ S0 H0 A env ds, EnvOk K S0 H0 A H σ env ∧ f env = some ds ∧ ∀ J H' G, Same H H' → (∀ H2, Same H' H2 → G H2) → (c = true → ∀ H2, Fr A H' H2 → G H2) →
  Wk K J G (fun b => Cl S0 H0 A b ∧ H' b ≠ none) ds → R J H'
theorem pi_w {t t' : TI} (h : PI X tg iter t) (w : ∀ σ H R, t' σ H R → t σ H R) : PI X tg iter t' := ⟨fun pins s σ H R I q => h.run pins s σ H R I (w σ H R q)⟩
def iAny (K : PySem.W.Frag) (tl : TE) : TI := fun σ H R => tl σ H fun x H1 => ∃ a, x = .ref a ∧ (((∃ xs, SqL K H1 a xs) ∧ R (Itl K a) H1) ∨ ((∃ xs, SqT K H1 a xs) ∧ R (Itt K a) H1))
theorem pi_any {l : Expr} {tl : TE} (hl : PE X l tl) : PI X tg l (iAny X.K tl) := by
  constructor
  intro pins s σ H R I h
  refine thn (hl.run pins s σ H _ I h) ?_
  rintro v t ⟨x, H1, I1, r1, a, rfl, h1⟩
  cases r1
  have nx : ∀ (o : Obj) (b : Addr) (u : Obj), t.heap.get? b = some u → (t.heap.push o).get? b = some u := fun o b u e => Heap.get?_push_of_some _ e
  rcases h1 with ⟨⟨xs, hq⟩, q⟩ | ⟨⟨xs, hq⟩, q⟩
  · obtain ⟨its, rv, pl, hz⟩ := I1.list hq
    refine wpAny_pyIter_list pl.isList ⟨t.heap.objs.size, [t.heap.objs.size], _, _, H1, rfl, I1.kept (t' := t.toks) (nx _), turn_list a _, ⟨_, Heap.get?_push_size _ rfl, rfl, rfl⟩, ?_, q⟩
    intro b hb
    rw [List.mem_singleton.mp hb]
    exact I1.fpOk (Nat.le_refl _) (I1.hok.fresh (Nat.le_refl _))
  · obtain ⟨its, rv, pl, hz⟩ := I1.tuple hq
    refine wpAny_pyIter_tuple (show t.heap.IsTuple a its.toArray from pl) ⟨t.heap.objs.size, [t.heap.objs.size], _, _, H1, rfl, I1.kept (t' := t.toks) (nx _), turn_tuple a _, ⟨_, Heap.get?_push_size _ rfl, rfl, rfl⟩, ?_, q⟩
    intro b hb
    rw [List.mem_singleton.mp hb]
    exact I1.fpOk (Nat.le_refl _) (I1.hok.fresh (Nat.le_refl _))
theorem fr_rd {u : HO} {a : Addr} (f : Fr A H H1) (n : ¬ A a) (h : Rd H a u) : Rd H1 a u := by
  rcases h with h | ⟨o, h⟩
  · exact .inl (f a _ h n)
  · exact .inr ⟨o, f a _ h n⟩
theorem fr_t (E : EnvOk K S0 H0 A H σ env) (f : Fr A H H1) {a : Addr} {xs : List V} (h : H a = some (.tup xs)) : H1 a = some (.tup xs) := f a _ h fun z => E.no_tup z h
theorem fr_d (E : EnvOk K S0 H0 A H σ env) (f : Fr A H H1) : ∀ a u, fz u = true → H a = some u → H1 a = some u := fun a u y h => f a _ h fun z => E.no_frz y z h
/-- what is clean stands still -/
theorem RpA.fr (E : EnvOk K S0 H0 A H σ env) (f : Fr A H H1) {S : Addr → Prop} (w : ∀ a, S a → ¬ A a) {ds : List PyData} {vs : List V} (h : RpA K S H ds vs) : RpA K (fun b => S b ∧ H b ≠ none) H1 ds vs :=
  RpA.mono (fun a xs z r => ⟨⟨z, fun e => by rcases r with r | ⟨o, r⟩ <;> (rw [e] at r; cases r)⟩, fr_rd f (w a z) r⟩) (fun _ _ z => fr_t E f z) (fr_d E f) ds vs h
theorem RpA.sm (s : Same H H1) {S : Addr → Prop} {ds : List PyData} {vs : List V} (h : RpA K S H ds vs) : RpA K (fun b => S b ∧ H b ≠ none) H1 ds vs :=
  RpA.mono (fun a xs z r => ⟨⟨z, fun e => by rcases r with r | ⟨o, r⟩ <;> (rw [e] at r; cases r)⟩, same_rd s r⟩) (fun _ _ z => same_t s z) (same_d s) ds vs h
theorem RpA.at {S : Addr → Prop} {ds : List PyData} {vs : List V} {i : Nat} {d : PyData} {x : V} (h : RpA K S H ds vs) (e : ds[i]? = some d) (g : vs[i]? = some x) : Rp K S H d x := by
  obtain ⟨v, e1, e2⟩ := h.get e
  rw [e1] at g
  cases g
  exact e2
theorem wk_list {a : Addr} {xs : List V} {ds : List PyData} {S : Addr → Prop} : Wk K (Itl K a) (fun H => SqL K H a xs ∧ RpA K S H ds xs) S ds where
  go := fun i H g l => ⟨xs, xs[i]'(by rw [g.2.length]; exact l), g.1, by rw [List.getElem?_eq_getElem]⟩
  yld := fun i H d x H' g e y => by
    obtain ⟨rfl, y⟩ := y
    exact ⟨Same.refl _, g.2.at e (y xs g.1)⟩
  stop := fun i H g l => ⟨xs, g.1, by rw [g.2.length]; exact l⟩
theorem wk_tup {a : Addr} {xs : List V} {ds : List PyData} {S : Addr → Prop} : Wk K (Itt K a) (fun H => H a = some (.tup xs) ∧ RpA K S H ds xs) S ds where
  go := fun i H g l => ⟨xs, xs[i]'(by rw [g.2.length]; exact l), live_t g.1, by rw [List.getElem?_eq_getElem]⟩
  yld := fun i H d x H' g e y => by
    obtain ⟨rfl, y⟩ := y
    exact ⟨Same.refl _, g.2.at e (y xs (live_t g.1))⟩
  stop := fun i H g l => ⟨xs, live_t g.1, by rw [g.2.length]; exact l⟩
def iSeq (f : En → Option PyData) : En → Option (List PyData) := fun env => match f env with
  | some (.list ds) => some ds
  | some (.tuple ds) => some ds
  | _ => none
theorem ci_seq {f : En → Option PyData} (h : PE X iter (tE X.K true f)) : PI X tg iter (tI X.K true (iSeq f)) := pi_w (pi_any h) fun σ H R ⟨S0, H0, A, env, ds, E, hf, q⟩ => by
  unfold iSeq at hf
  split at hf
  · rename_i es hd
    cases hf
    refine ⟨S0, H0, A, env, _, E, hd, fun v H1 s r => ?_⟩
    rw [Rp] at r
    obtain ⟨a, xs, rfl, hs, ra⟩ := r
    have ra' : RpA X.K (Cl S0 H0 A) H1 ds xs := ra.wide fun _ z => cl_sc z
    exact ⟨a, rfl, .inl ⟨⟨xs, hs.sq⟩, q _ H1 _ s (fun H2 s2 => ⟨s2.seq hs.sq, ra'.sm s2⟩) (fun _ H2 f2 => ⟨hs.imp (fun z => fr_rd f2 (cl_sc z.1).2 z.2) id, ra'.fr (E.grow s) f2 fun _ z => z.2⟩) wk_list⟩⟩
  · rename_i es hd
    cases hf
    refine ⟨S0, H0, A, env, _, E, hd, fun v H1 s r => ?_⟩
    rw [Rp] at r
    obtain ⟨a, xs, rfl, hs, ra⟩ := r
    have ra' : RpA X.K (Cl S0 H0 A) H1 ds xs := ra.wide fun _ z => cl_sc z
    exact ⟨a, rfl, .inr ⟨⟨xs, live_t hs⟩, q _ H1 _ s (fun H2 s2 => ⟨same_t s2 hs, ra'.sm s2⟩) (fun _ H2 f2 => ⟨fr_t (E.grow s) f2 hs, ra'.fr (E.grow s) f2 fun _ z => z.2⟩) wk_tup⟩⟩
  · cases hf
/-- an owned list, walked by a comprehension -/
def iOwn (i : Nat) : En → Option (List PyData) := fun env => match env[i]? with
  | some (.own ds) => some ds
  | _ => none
theorem ci_own {i : Nat} (h : PE X iter (tVar i)) : PI X tg iter (tI X.K false (iOwn i)) := pi_w (pi_any h) fun σ H R ⟨S0, H0, A, env, ds, E, hf, q⟩ => by
  unfold iOwn at hf
  split at hf
  · rename_i es hi
    cases hf
    rcases E.sl i _ hi with z | ⟨v, h1, a, xs, rfl, ha, hh, r⟩
    · cases z
    exact ⟨_, h1, a, rfl, .inl ⟨⟨xs, .inl (.inl hh)⟩, q _ H _ (Same.refl H) (fun H2 s2 => ⟨.inl (.inl (s2 _ _ hh)), r.sm s2⟩) (fun z => nomatch z) wk_list⟩⟩
  · cases hf
/-! ranges -/
def rngD (lo : Int) (n : Nat) : List PyData := (List.range n).map fun k => .int (lo + (k : Nat))
theorem rng_len (lo : Int) (n : Nat) : (rngD lo n).length = n := by simp [rngD]
theorem rng_get {lo : Int} {n i : Nat} {d : PyData} (h : (rngD lo n)[i]? = some d) : d = .int (lo + (i : Nat)) := by
  unfold rngD at h
  rw [List.getElem?_map] at h
  cases q : (List.range n)[i]? with
  | none => rw [q] at h; cases h
  | some k =>
    rw [q] at h
    rw [List.getElem?_range (by
      obtain ⟨l, _⟩ := List.getElem?_eq_some_iff.mp q
      simpa using l)] at q
    cases q
    exact (Option.some.inj h).symm
theorem wk_rng {lo : Int} {n : Nat} {S : Addr → Prop} : Wk K (Itr lo n) (fun _ => True) S (rngD lo n) where
  go := fun i H _ l => by rw [rng_len] at l; exact l
  yld := fun i H d x H' _ e y => by
    obtain ⟨rfl, rfl⟩ := y
    rw [rng_get e]
    exact ⟨Same.refl _, by rw [Rp]⟩
  stop := fun i H _ l => by rw [rng_len] at l; exact l
def iR1 (fa : En → Option (List PyData)) : En → Option (List PyData) := fun env => match fa env with
  | some [.int j] => if j < 1000000 ∧ -1000000 < j then some (rngD 0 j.toNat) else none
  | _ => none
def iR2 (fa : En → Option (List PyData)) : En → Option (List PyData) := fun env => match fa env with
  | some [.int i, .int j] => if (j < 1000000000 ∧ -1000000000 < j) ∧ i < 1000000000 ∧ -1000000000 < i then some (rngD i (j - i).toNat) else none
  | _ => none
theorem RpA.one {S : Addr → Prop} {d : PyData} {vs : List V} (h : RpA K S H [d] vs) : ∃ v, vs = [v] ∧ Rp K S H d v := by
  rw [RpA] at h
  obtain ⟨v, r, rfl, h1, h2⟩ := h
  rw [RpA] at h2
  subst h2
  exact ⟨v, rfl, h1⟩
theorem RpA.two {S : Addr → Prop} {d e : PyData} {vs : List V} (h : RpA K S H [d, e] vs) : ∃ v u, vs = [v, u] ∧ Rp K S H d v ∧ Rp K S H e u := by
  rw [RpA] at h
  obtain ⟨v, r, rfl, h1, h2⟩ := h
  obtain ⟨u, rfl, h3⟩ := h2.one
  exact ⟨v, u, rfl, h1, h3⟩
theorem ci_r1 {c : Bool} {fa : En → Option (List PyData)} (h : PI X tg iter (iRng1 (tA X.K c fa))) : PI X tg iter (tI X.K true (iR1 fa)) := pi_w h fun σ H R ⟨S0, H0, A, env, ds, E, hf, q⟩ => by
  unfold iR1 at hf
  split at hf
  · rename_i j hd
    split at hf
    · rename_i hj
      cases hf
      refine ⟨S0, H0, A, env, _, E, hd, fun vs H1 s r => ?_⟩
      obtain ⟨v, rfl, r1⟩ := r.one
      rw [Rp] at r1
      subst r1
      exact ⟨j, rfl, by omega, by omega, q _ H1 _ s (fun _ _ => trivial) (fun _ _ _ => trivial) wk_rng⟩
    · cases hf
  · cases hf
theorem ci_r2 {c : Bool} {fa : En → Option (List PyData)} (h : PI X tg iter (iRng2 (tA X.K c fa))) : PI X tg iter (tI X.K true (iR2 fa)) := pi_w h fun σ H R ⟨S0, H0, A, env, ds, E, hf, q⟩ => by
  unfold iR2 at hf
  split at hf
  · rename_i i j hd
    split at hf
    · rename_i hj
      cases hf
      refine ⟨S0, H0, A, env, _, E, hd, fun vs H1 s r => ?_⟩
      obtain ⟨v, u, rfl, r1, r2⟩ := r.two
      rw [Rp] at r1 r2
      subst r1 r2
      exact ⟨i, j, rfl, ⟨by omega, by omega, by omega, by omega⟩, q _ H1 _ s (fun _ _ => trivial) (fun _ _ _ => trivial) wk_rng⟩
    · cases hf
  · cases hf

/-! ### for, while -/
def loopF (g : PyData → En → Option En) (b : En → Out) : List PyData → En → Out
  | [], e => .nx e
  | d :: ds, e => match g d e with
    | none => .bad
    | some e1 => match b e1 with
      | .nx e2 => loopF g b ds e2
      | .ct e2 => loopF g b ds e2
      | .bk e2 => .nx e2
      | .rt v => .rt v
      | .bad => .bad
def sFor (f : En → Option (List PyData)) (g : PyData → En → Option En) (b : En → Out) : En → Out := fun env => match f env with
  | some ds => loopF g b ds env
  | none => .bad
theorem for_run {f : En → Option (List PyData)} {g : PyData → En → Option En} {b : En → Out} {vs : List Nat} {D : Ends} (h : tS K (sFor f g b) D σ H) : tFor (tI K true f) (tG K vs g) (tS K b) D σ H := by
  obtain ⟨S0, H0, A, env, E, o⟩ := h
  unfold sFor at o
  cases hd : f env with
  | none => rw [hd] at o; exact o.elim
  | some ds =>
    rw [hd] at o
    refine ⟨S0, H0, A, env, ds, E, hd, fun J H1 G s _ gF wk => ?_⟩
    refine ⟨fun i m σ' H' => m = ds.length - i ∧ i ≤ ds.length ∧ ∃ A' env', EnvOk K S0 H0 A' H' σ' env' ∧ Fr A H1 H' ∧ Sb A H1 A' ∧ OutOk K S0 H0 A' H' (loopF g b (ds.drop i) env') D,
      ⟨_, rfl, Nat.zero_le _, A, env, E.grow s, Fr.refl, Sb.refl, OutOk.step o (Fr.of_same s) Sb.refl⟩, ?_⟩
    rintro i m σ' H' ⟨rfl, hi, A', env', E', f', b', o'⟩
    by_cases hlt : i < ds.length
    · have hdr : ds.drop i = ds[i] :: ds.drop (i + 1) := List.drop_eq_getElem_cons hlt
      rw [hdr] at o'
      refine .inr ⟨wk.go i H' (gF rfl H' f') hlt, fun σ2 H2 => ∃ A2 e2, EnvOk K S0 H0 A2 H2 σ2 e2 ∧ Fr A H1 H2 ∧ Sb A H1 A2 ∧ OutOk K S0 H0 A2 H2 (loopF g b (ds.drop (i + 1)) e2) D, ?_, fun x Hx y => ?_⟩
      · rintro σ2 H2 ⟨A2, e2, z⟩
        exact ⟨ds.length - (i + 1), by omega, rfl, hlt, A2, e2, z⟩
      · obtain ⟨sx, rx⟩ := wk.yld i H' _ x Hx (gF rfl H' f') (List.getElem?_eq_getElem hlt) y
        have rx' : Rp K (Cl S0 H0 A') Hx ds[i] x := rx.wide fun a z => ⟨z.1.1, fun y => by
          rcases b' a y with k | k
          · exact z.1.2 k
          · exact z.2 k⟩
        simp only [loopF] at o'
        cases hg : g ds[i] env' with
        | none => rw [hg] at o'; exact o'.elim
        | some e1 =>
          rw [hg] at o'
          refine ⟨S0, H0, A', env', _, e1, E'.grow sx, rx', hg, fun σ1 E1 _ => ⟨S0, H0, A', e1, E1, ?_⟩⟩
          have fs : Fr A' H' Hx := Fr.of_same sx
          cases hb : b e1 with
          | nx e2 =>
            simp only [hb] at o'
            exact fun A2 H2 σ2 E2 f2 b2 => ⟨A2, e2, E2, f'.trans b' (fs.trans Sb.refl f2), Sb.trans f' b' (Sb.trans fs Sb.refl b2), OutOk.step o' (fs.trans Sb.refl f2) (Sb.trans fs Sb.refl b2)⟩
          | ct e2 =>
            simp only [hb] at o'
            exact fun A2 H2 σ2 E2 f2 b2 => ⟨A2, e2, E2, f'.trans b' (fs.trans Sb.refl f2), Sb.trans f' b' (Sb.trans fs Sb.refl b2), OutOk.step o' (fs.trans Sb.refl f2) (Sb.trans fs Sb.refl b2)⟩
          | bk e2 =>
            simp only [hb] at o'
            exact fun A2 H2 σ2 E2 f2 b2 => o' A2 H2 σ2 E2 (fs.trans Sb.refl f2) (Sb.trans fs Sb.refl b2)
          | rt v => simp only [hb] at o'; exact o'
          | bad => simp only [hb] at o'; exact o'
    · have hdr : ds.drop i = [] := List.drop_eq_nil_of_le (by omega)
      rw [hdr] at o'
      exact .inl ⟨wk.stop i H' (gF rfl H' f') (by omega), o' A' H' σ' E' Fr.refl Sb.refl⟩
def whlF (c : En → Option Bool) (b : En → Out) : Nat → En → Out
  | 0, _ => .bad
  | n + 1, e => match c e with
    | none => .bad
    | some false => .nx e
    | some true => match b e with
      | .nx e2 => whlF c b n e2
      | .ct e2 => whlF c b n e2
      | .bk e2 => .nx e2
      | .rt v => .rt v
      | .bad => .bad
theorem while_run {c : En → Option Bool} {b : En → Out} {n : Nat} {D : Ends} (h : tS K (whlF c b n) D σ H) : tWhile (tT K c) (tS K b) D σ H := by
  obtain ⟨S0, H0, A, env, E, o⟩ := h
  refine ⟨fun m σ' H' => ∃ A' env', EnvOk K S0 H0 A' H' σ' env' ∧ Fr A H H' ∧ Sb A H A' ∧ OutOk K S0 H0 A' H' (whlF c b m env') D, ⟨n, A, env, E, Fr.refl, Sb.refl, o⟩, ?_⟩
  rintro m σ' H' ⟨A', env', E', f', b', o'⟩
  cases m with
  | zero => exact o'.elim
  | succ m =>
    simp only [whlF] at o'
    cases hc : c env' with
    | none => rw [hc] at o'; exact o'.elim
    | some k =>
      rw [hc] at o'
      refine ⟨S0, H0, A', env', k, E', hc, fun H2 s2 => ?_⟩
      have fs : Fr A' H' H2 := Fr.of_same s2
      cases k with
      | false => exact iteF (o' A' H2 σ' (E'.grow s2) fs Sb.refl)
      | true =>
        refine iteT ⟨fun σ3 H3 => ∃ A3 e3, EnvOk K S0 H0 A3 H3 σ3 e3 ∧ Fr A H H3 ∧ Sb A H A3 ∧ OutOk K S0 H0 A3 H3 (whlF c b m e3) D, ?_, S0, H0, A', env', E'.grow s2, ?_⟩
        · rintro σ3 H3 ⟨A3, e3, z⟩
          exact ⟨m, Nat.lt_succ_self m, A3, e3, z⟩
        · cases hb : b env' with
          | nx e2 =>
            simp only [hb] at o'
            exact fun A2 H3 σ2 E2 f2 b2 => ⟨A2, e2, E2, f'.trans b' (fs.trans Sb.refl f2), Sb.trans f' b' (Sb.trans fs Sb.refl b2), OutOk.step o' (fs.trans Sb.refl f2) (Sb.trans fs Sb.refl b2)⟩
          | ct e2 =>
            simp only [hb] at o'
            exact fun A2 H3 σ2 E2 f2 b2 => ⟨A2, e2, E2, f'.trans b' (fs.trans Sb.refl f2), Sb.trans f' b' (Sb.trans fs Sb.refl b2), OutOk.step o' (fs.trans Sb.refl f2) (Sb.trans fs Sb.refl b2)⟩
          | bk e2 =>
            simp only [hb] at o'
            exact fun A2 H3 σ2 E2 f2 b2 => o' A2 H3 σ2 E2 (fs.trans Sb.refl f2) (Sb.trans fs Sb.refl b2)
          | rt v => simp only [hb] at o'; exact o'
          | bad => simp only [hb] at o'; exact o'
variable {st : Stmt} {f : En → Option (List PyData)} {g : PyData → En → Option En} {b : En → Out} {vs : List Nat}
theorem cs_for {body : List Stmt} (hp : PassesOwn (model X.prog X.w) X.A X.env X.xe) (hc : X.calm = true) (hi : PI X tg iter (tI X.K true f)) (hg : PG X tg (tG X.K vs g)) (hb : PSs X body (tS X.K b)) (hs : ∀ x, foldedSetIterable iter X.env x = pure x := by intro _; rfl) :
    PS X (.For tg iter body [] pos) (tS X.K (sFor f g b)) := ps_w (ps_for hp hc hi hg hb hs) fun _ _ _ q => for_run q
theorem cs_while {body : List Stmt} {c : En → Option Bool} (n : Nat) (hp : PassesOwn (model X.prog X.w) X.A X.env X.xe) (hc : PT X e (tT X.K c)) (hb : PSs X body (tS X.K b)) : PS X (.While e body [] pos) (tS X.K (whlF c b n)) := ps_w (ps_while hp hc hb) fun _ _ _ q => while_run q
/-- a, b, .. = e -/
def sUnp (f : En → Option PyData) (g : PyData → En → Option En) : En → Out := fun env => match f env with
  | some d => match g d env with
    | some e => .nx e
    | none => .bad
  | none => .bad
theorem cs_unp {fe : En → Option PyData} (h : PS X st (tAsg (tE X.K true fe) (tG X.K vs g))) : PS X st (tS X.K (sUnp fe g)) := ps_w h fun D σ H ⟨S0, H0, A, env, E, o⟩ => by
  unfold sUnp at o
  cases hd : fe env with
  | none => rw [hd] at o; exact o.elim
  | some d =>
    simp only [hd] at o
    cases hg : g d env with
    | none => simp only [hg] at o; exact o.elim
    | some e =>
      simp only [hg] at o
      exact ⟨S0, H0, A, env, d, E, hd, fun v H1 s r => ⟨S0, H0, A, env, d, e, E.grow s, r.wide fun _ z => cl_sc z, hg, fun σ' E' _ => o A H1 σ' E' (Fr.of_same s) Sb.refl⟩⟩

/-! ### comprehensions -/
def wipeE : En → List Nat → En
  | env, [] => env
  | env, i :: is => (wipeE env is).set i .un
theorem EnvOk.un (E : EnvOk K S0 H0 A H σ env) (i : Nat) (o : Option V) : EnvOk K S0 H0 A H (σ.set i o) (env.set i .un) where
  len := by simp [E.len]
  sl := fun j s q => by
    rcases set_get q with ⟨rfl, l, rfl⟩ | ⟨n, q⟩
    · exact .inl rfl
    · rw [set_other n]
      exact E.sl j s q
  dis := fun j k s t a q1 q2 o1 o2 q3 q4 => by
    rcases set_get q1 with ⟨_, _, z⟩ | ⟨n1, q1⟩
    · subst z; cases o1
    rcases set_get q2 with ⟨_, _, z⟩ | ⟨n2, q2⟩
    · subst z; cases o2
    rw [set_other n1] at q3
    rw [set_other n2] at q4
    exact E.dis j k s t a q1 q2 o1 o2 q3 q4
  tr := E.tr
  nw := E.nw
  same := E.same
theorem EnvOk.wipe (E : EnvOk K S0 H0 A H σ env) : ∀ is : List Nat, EnvOk K S0 H0 A H (L2.wipe σ is) (wipeE env is)
  | [] => E
  | i :: is => EnvOk.un (EnvOk.wipe E is) i none
/-- a new thing that no slot keeps -/
theorem EnvOk.add (E : EnvOk K S0 H0 A H σ env) {u0 : HO} {p : Addr} (hs : Same H H1) (hn : H p = none) (hp : H1 p = some u0) (hm : isMut u0 = true := by rfl) : EnvOk K S0 H0 (fun a => A a ∨ a = p) H1 σ env where
  len := E.len
  sl := fun j s q => by
    refine (E.sl j s q).imp id fun ⟨v, h1, h2⟩ => ⟨v, h1, ?_⟩
    have hL : ∀ a ys, Cl S0 H0 A a → Rd H a (.lst ys) → Cl S0 H0 (fun a => A a ∨ a = p) a ∧ Rd H1 a (.lst ys) := fun a ys z r => ⟨⟨z.1, fun y => by
      rcases y with y | y
      · exact z.2 y
      · subst y
        rcases r with r | ⟨o, r⟩ <;> (rw [hn] at r; cases r)⟩, same_rd hs r⟩
    exact SlOk.mono hL (fun _ _ z => same_t hs z) (same_d hs) (fun a u ha hu _ => ⟨.inl ha, hs _ _ hu⟩) h2
  dis := E.dis
  tr := fun a h => by
    rcases h with h | rfl
    · obtain ⟨u, q, m⟩ := E.tr a h
      exact ⟨u, hs _ _ q, m⟩
    · exact ⟨u0, hp, hm⟩
  nw := fun a h => by
    rcases h with h | rfl
    · exact E.nw a h
    · exact E.same.free hn
  same := E.same.trans hs
def compF (g : PyData → En → Option En) (ga : En → Option Bool) (fe : En → Option PyData) (env : En) : List PyData → Option (List PyData)
  | [] => some []
  | d :: ds => match g d env with
    | none => none
    | some e1 => match ga e1 with
      | none => none
      | some false => compF g ga fe env ds
      | some true => match fe e1 with
        | none => none
        | some v => match compF g ga fe env ds with
          | none => none
          | some vs => some (v :: vs)
def fCmp (is : List Nat) (f : En → Option (List PyData)) (g : PyData → En → Option En) (ga : En → Option Bool) (fe : En → Option PyData) : En → Option (List PyData) := fun env => match f env with
  | none => none
  | some ds => match compF g ga fe (wipeE env is) ds with
    | none => none
    | some vs => if vs.length ≤ 1000000 then some vs else none
def tYes' : En → Option Bool := fun _ => some true
theorem yes_run {Q : Bool → Hp → Prop} (h : tT K tYes' σ H Q) : tYes σ H Q := by
  obtain ⟨S0, H0, A, env, b, E, hb, q⟩ := h
  cases hb
  exact q H (Same.refl H)
theorem upd_monoD {S : Addr → Prop} {p : Addr} {u0 u1 : HO} (hp : H p = some u0) (hm : isMut u0 = true) : (∀ a zs, (S a ∧ a ≠ p) → Rd H a (.lst zs) → (S a ∧ a ≠ p) ∧ Rd (upd H p u1) a (.lst zs)) ∧ (∀ a zs, H a = some (.tup zs) → upd H p u1 a = some (.tup zs)) ∧ ∀ a u, fz u = true → H a = some u → upd H p u1 a = some u := by
  have nf : ∀ a u, fz u = true → H a = some u → a ≠ p := fun a u z r e => by rw [e, hp] at r; cases r; exact fz_mut z hm
  refine ⟨fun a zs z r => ⟨z, ?_⟩, fun a zs r => by rw [upd_ne (fun e => by rw [e, hp] at r; cases r; cases hm)]; exact r, fun a u z r => by rw [upd_ne (nf _ _ z r)]; exact r⟩
  rcases r with r | ⟨o, r⟩
  · exact .inl (by rw [upd_ne z.2]; exact r)
  · exact .inr ⟨o, by rw [upd_ne z.2]; exact r⟩
theorem RpA.updD {S : Addr → Prop} {p : Addr} {xs ys : List V} {ds : List PyData} {vs : List V} (h : RpA K (fun a => S a ∧ a ≠ p) H ds vs) (hp : H p = some (.lst xs)) : RpA K (fun a => S a ∧ a ≠ p) (upd H p (.lst ys)) ds vs := by
  obtain ⟨h1, h2, h3⟩ := upd_monoD (S := S) (u1 := .lst ys) hp rfl
  exact RpA.mono h1 h2 h3 ds vs h
theorem lc_run {c c2 : Bool} {ga : En → Option Bool} {fe : En → Option PyData} {is : List Nat} {tt : TT} {Q : VK} (ht : ∀ σ H Q, tT K ga σ H Q → tt σ H Q) (h : tF K c2 (fCmp is f g ga fe) σ H Q) : tLc (tI K c f) (tG K is g) tt (tE K true fe) is σ H Q := by
  obtain ⟨S0, H0, A, env, res, E, hf, q⟩ := h
  unfold fCmp at hf
  cases hd : f env with
  | none => rw [hd] at hf; cases hf
  | some ds =>
    simp only [hd] at hf
    cases hc : compF g ga fe (wipeE env is) ds with
    | none => simp only [hc] at hf; cases hf
    | some vs =>
      simp only [hc] at hf
      split at hf
      · rename_i hlen
        cases hf
        refine ⟨S0, H0, A, env, ds, E, hd, fun J H1 G s gS _ wk D hD => ?_⟩
        have E1 := E.grow s
        refine ⟨fun i m H2 => m = ds.length - i ∧ i ≤ ds.length ∧ Same H1 H2 ∧ ∃ acc accD rest, H2 D = some (.lst acc) ∧ RpA K (fun a => Cl S0 H0 A a ∧ a ≠ D) H2 accD acc ∧ compF g ga fe (wipeE env is) (ds.drop i) = some rest ∧ accD ++ rest = res,
          ⟨_, rfl, Nat.zero_le _, same_new hD, [], [], res, upd_same, RpA.nil, hc, rfl⟩, ?_⟩
        rintro i m H2 ⟨rfl, hi, s2, acc, accD, rest, hacc, racc, hrest, hres⟩
        by_cases hlt : i < ds.length
        · have hdr : ds.drop i = ds[i] :: ds.drop (i + 1) := List.drop_eq_getElem_cons hlt
          rw [hdr] at hrest
          refine .inr ⟨wk.go i H2 (gS H2 s2) hlt, fun H3 => Same H1 H3 ∧ ∃ acc accD rest, H3 D = some (.lst acc) ∧ RpA K (fun a => Cl S0 H0 A a ∧ a ≠ D) H3 accD acc ∧ compF g ga fe (wipeE env is) (ds.drop (i + 1)) = some rest ∧ accD ++ rest = res, ?_, fun x Hx y => ?_⟩
          · rintro H3 ⟨s3, z⟩
            exact ⟨ds.length - (i + 1), by omega, rfl, hlt, s3, z⟩
          · obtain ⟨sx, rx⟩ := wk.yld i H2 _ x Hx (gS H2 s2) (List.getElem?_eq_getElem hlt) y
            have E2 : EnvOk K S0 H0 (fun a => A a ∨ a = D) Hx (L2.wipe σ is) (wipeE env is) := (E1.wipe is).add (s2.trans sx) hD (sx _ _ hacc)
            have rx' : Rp K (Cl S0 H0 (fun a => A a ∨ a = D)) Hx ds[i] x := rx.wide fun a z => ⟨z.1.1, fun y => by
              rcases y with k | k
              · exact z.1.2 k
              · exact z.2 (by rw [k]; exact hD)⟩
            simp only [compF] at hrest
            cases hg : g ds[i] (wipeE env is) with
            | none => rw [hg] at hrest; cases hrest
            | some e1 =>
              simp only [hg] at hrest
              refine ⟨S0, H0, _, _, _, e1, E2, rx', hg, fun σ2 E3 w3 => ⟨by rw [w3, wipe_wipe], ht _ _ _ ?_⟩⟩
              cases hga : ga e1 with
              | none => simp only [hga] at hrest; cases hrest
              | some k =>
                refine ⟨S0, H0, _, e1, k, E3, hga, fun H3 s3 => ?_⟩
                cases k with
                | false =>
                  simp only [hga] at hrest
                  exact iteF ⟨(s2.trans sx).trans s3, acc, accD, rest, s3 _ _ (sx _ _ hacc), (racc.grow sx).grow s3, hrest, hres⟩
                | true =>
                  simp only [hga] at hrest
                  cases hfe : fe e1 with
                  | none => simp only [hfe] at hrest; cases hrest
                  | some v =>
                    simp only [hfe] at hrest
                    cases hr2 : compF g ga fe (wipeE env is) (ds.drop (i + 1)) with
                    | none => simp only [hr2] at hrest; cases hrest
                    | some rest2 =>
                      simp only [hr2] at hrest
                      cases hrest
                      refine iteT ⟨S0, H0, _, e1, v, E3.grow s3, hfe, fun y H4 s4 r4 => ?_⟩
                      have h4 := s4 _ _ (s3 _ _ (sx _ _ hacc))
                      have r4' : Rp K (fun a => Cl S0 H0 A a ∧ a ≠ D) H4 v y := r4.wide fun a z => ⟨⟨(cl_sc z).1, fun k => (cl_sc z).2 (.inl k)⟩, fun k => (cl_sc z).2 (.inr k)⟩
                      have al : acc.length < sizeLine := by
                        rw [racc.length]
                        have : accD.length < res.length := by rw [← hres]; simp
                        exact Nat.lt_of_lt_of_le this (sz6 hlen)
                      refine ⟨acc, h4, al, fun b u e => ?_, acc ++ [y], accD ++ [v], rest2, upd_same, ?_, rfl, by rw [← hres]; simp⟩
                      · rw [upd_ne (ne_of_none e hD)]
                        exact s4 _ _ (s3 _ _ (sx _ _ (s2 _ _ e)))
                      · exact RpA.updD ((((racc.grow sx).grow s3).grow s4).append (RpA.cons r4' RpA.nil)) h4
        · have hdr : ds.drop i = [] := List.drop_eq_nil_of_le (by omega)
          rw [hdr] at hrest
          cases hrest
          rw [List.append_nil] at hres
          subst hres
          exact .inl ⟨wk.stop i H2 (gS H2 s2) (by omega), q D acc H2 (s.free hD) (s.trans s2) hacc (racc.wide fun a z => ⟨fun _ => z.1, z.2⟩)⟩
      · cases hf
theorem cf_lc {c c2 : Bool} {ga : En → Option Bool} {fe : En → Option PyData} {is : List Nat} (h : PE X e (tLc (tI X.K c f) (tG X.K is g) (tT X.K ga) (tE X.K true fe) is)) : PE X e (tF X.K c2 (fCmp is f g ga fe)) := pe_w h fun _ _ _ q => lc_run (fun _ _ _ z => z) q
theorem cf_lc1 {c c2 : Bool} {fe : En → Option PyData} {is : List Nat} (h : PE X e (tLc (tI X.K c f) (tG X.K is g) tYes (tE X.K true fe) is)) : PE X e (tF X.K c2 (fCmp is f g tYes' fe)) := pe_w h fun _ _ _ q => lc_run (fun _ _ _ z => yes_run z) q
theorem cs_lcO {i : Nat} {c : Bool} {ga : En → Option Bool} {fe : En → Option PyData} {is : List Nat} (h : PS X st (tAsg (tLc (tI X.K c f) (tG X.K is g) (tT X.K ga) (tE X.K true fe) is) (gName i))) : PS X st (tS X.K (sOwn i (fCmp is f g ga fe))) :=
  ps_w h fun D σ H q => lc_run (c2 := true) (fun _ _ _ z => z) (own_run q)
theorem cs_lcO1 {i : Nat} {c : Bool} {fe : En → Option PyData} {is : List Nat} (h : PS X st (tAsg (tLc (tI X.K c f) (tG X.K is g) tYes (tE X.K true fe) is) (gName i))) : PS X st (tS X.K (sOwn i (fCmp is f g tYes' fe))) :=
  ps_w h fun D σ H q => lc_run (c2 := true) (fun _ _ _ z => yes_run z) (own_run q)
end
end Mir

namespace Mir
open PySem PySem.Spec PyProof.Rows L2

/-! ### a def -/
def spF (K : PySem.W.Frag) (g : List PyData → Option PyData) : Sp := fun vs H Q _ => ∃ S ds d, RpA K S H ds vs ∧ g ds = some d ∧ ∀ v H', Same H H' → Rp K (Bd S H) H' d v → Q v H'
def env0 (nN : Nat) (ds : List PyData) : En := ds.map .val ++ List.replicate (nN - ds.length) .un
def outD : Out → Option PyData
  | .rt d => some d
  | .nx _ => some .none
  | _ => none
def gDef (np nN : Nat) (fB : En → Out) : List PyData → Option PyData := fun ds => if ds.length = np then outD (fB (env0 nN ds)) else none
section
variable {K : PySem.W.Frag}
theorem def_run {N : List Str} {np : Nat} {fB : En → Out} {vs : List V} {H : Hp} {Q : VK} {E : XK} (h : spF K (gDef np N.length fB) vs H Q E) : tS K fB { nx := fun _ H' => Q .non H', rt := Q } (L2.start N vs) H := by
  obtain ⟨S, ds, d, r, hg, q⟩ := h
  unfold gDef at hg
  split at hg
  · refine ⟨S, H, fun _ => False, env0 N.length ds, ⟨?_, fun i s e => ?_, fun i j es fs a e1 _ o1 => ?_, fun _ z => z.elim, fun _ z => z.elim, Same.refl H⟩, ?_⟩
    · simp [L2.start, env0, r.length]
    · unfold env0 at e
      by_cases hi : i < ds.length
      · rw [List.getElem?_append_left (by simpa using hi), List.getElem?_map, List.getElem?_eq_getElem hi] at e
        cases e
        obtain ⟨v, e1, e2⟩ := r.get (List.getElem?_eq_getElem hi)
        refine .inr ⟨v, ?_, e2.wide fun a z => ⟨.inl z, fun y => y⟩⟩
        unfold L2.start
        rw [List.getElem?_append_left (by simpa [r.length] using hi), List.getElem?_map, e1]
        rfl
      · rw [List.getElem?_append_right (by simpa using Nat.le_of_not_lt hi)] at e
        exact .inl (List.eq_of_mem_replicate (List.mem_of_getElem? e))
    · exfalso
      unfold env0 at e1
      by_cases hi : i < ds.length
      · rw [List.getElem?_append_left (by simpa using hi), List.getElem?_map, List.getElem?_eq_getElem hi] at e1
        cases e1
        cases o1
      · rw [List.getElem?_append_right (by simpa using Nat.le_of_not_lt hi)] at e1
        cases (List.eq_of_mem_replicate (List.mem_of_getElem? e1))
        cases o1
    · cases ho : fB (env0 N.length ds) with
      | rt v =>
        rw [ho] at hg
        cases hg
        exact q
      | nx e =>
        rw [ho] at hg
        cases hg
        exact fun A' H' σ' E' _ _ => q _ H' E'.same (by rw [Rp])
      | bk e => rw [ho] at hg; cases hg
      | ct e => rw [ho] at hg; cases hg
      | bad => rw [ho] at hg; cases hg
  · cases hg
variable {P : Program} {w : World} {mg : Str → Option Value} {base : Heap}
theorem fn_ok {x qual : Str} {st : Stmt} {f : Addr} {fd : FuncData} {N ps : List Str} {k np nN : Nat} {fB : En → Out} {g : List PyData → Option PyData} (F : Fun K x qual st f fd) (S : FnScope N ps (defScope st)) (hp : np = ps.length) (hN : nN = N.length) (hg : g = gDef np nN fB)
    (hb : ∀ (cdv : Value) (A : Around) (outer : List Env) (s : Shared) (H : Hp) (E : XK), Room k (A.deeper (envOfC qual (defScope st) s.heap.objs.size f cdv)) → PSs (cxOf CX0 P w K mg base N qual (defScope st) f cdv A outer s H E).nox (defBody st) (tS K fB)) :
    FnOk P w K mg base CX0 (k + 1) f fd ps (spF K g) := by
  subst hp hN hg
  refine F.ok S (fun vs H Q E h => ?_) fun cdv A outer s H vs Q E hr h => ⟨_, hb cdv A outer s H E hr, def_run h⟩
  obtain ⟨S', ds, d, r, hg, _⟩ := h
  unfold gDef at hg
  split at hg
  · rw [r.length]; assumption
  · cases hg
theorem fn_imp {k : Nat} {f : Addr} {fd : FuncData} {ps : List Str} {g g' : List PyData → Option PyData} (F : FnOk P w K mg base CX0 k f fd ps (spF K g)) (h : ∀ ds d, g' ds = some d → g ds = some d) : FnOk P w K mg base CX0 k f fd ps (spF K g') :=
  F.imp fun vs H Q E ⟨S, ds, d, r, hg, q⟩ => ⟨S, ds, d, r, h ds d hg, q⟩
end

/-! ### calls -/
def eCall (g : List PyData → Option PyData) (fa : En → Option (List PyData)) : En → Option PyData := fun env => match fa env with
  | some ds => g ds
  | none => none
section
variable {X : Cx} {a b e : Expr} {es : List Expr} {pos p : Pos} {x : Str} {c c1 c2 : Bool} {f g : En → Option PyData} {fa : En → Option (List PyData)} {fb : En → Option Bool}
theorem bd_sc {K : PySem.W.Frag} {S0 A : Addr → Prop} {H0 H : Hp} {σ : L2.St} {env : En} (E : EnvOk K S0 H0 A H σ env) {c : Bool} {a : Addr} (h : Bd (Cl S0 H0 A) H a) : SC c S0 H0 A a := fun _ => by
  rcases h with h | h
  · exact h
  · exact cl_new E h
theorem call_run {K : PySem.W.Frag} {σ : L2.St} {H : Hp} {Q : VK} {E : XK} {gd : List PyData → Option PyData} (h : tE K c (eCall gd fa) σ H Q) : tCall (spF K gd) [] E (tA K true fa) σ H Q := by
  obtain ⟨S0, H0, A, env, d, En, hf, q⟩ := h
  unfold eCall at hf
  cases hd : fa env with
  | none => rw [hd] at hf; cases hf
  | some ds =>
    simp only [hd] at hf
    refine ⟨S0, H0, A, env, ds, En, hd, fun vs H1 s r => ?_⟩
    show spF K gd (vs ++ []) H1 Q E
    rw [List.append_nil]
    exact ⟨Cl S0 H0 A, ds, d, r.wide fun _ z => cl_sc z, hf, fun v H2 s2 r2 => q v H2 (s.trans s2) (r2.wide fun _ z => bd_sc (En.grow s) z)⟩
theorem callB_run {K : PySem.W.Frag} {σ : L2.St} {H : Hp} {Q : VK} {E : XK} {gd : List PyData → Option PyData} (h : tE K c (eN (eCall gd fa)) σ H Q) : tCall (spF K gd) [] E (tA K false fa) σ H Q := by
  obtain ⟨S0, H0, A, env, d, En, hf, q⟩ := h
  unfold eN at hf
  cases hc : eCall gd fa env with
  | none => rw [hc] at hf; cases hf
  | some d' =>
    rw [hc] at hf
    have hf' : (if noL d' = true then some d' else none) = some d := hf
    by_cases n : noL d' = true
    · rw [if_pos n] at hf'
      cases hf'
      unfold eCall at hc
      cases hd : fa env with
      | none => rw [hd] at hc; cases hc
      | some ds =>
        simp only [hd] at hc
        refine ⟨S0, H0, A, env, ds, En, hd, fun vs H1 s r => ?_⟩
        show spF K gd (vs ++ []) H1 Q E
        rw [List.append_nil]
        exact ⟨_, ds, d, r, hc, fun v H2 s2 r2 => q v H2 (s.trans s2) (Rp.noL d v n r2)⟩
    · rw [if_neg n] at hf'; cases hf'
variable {E : XK} {gd : List PyData → Option PyData}
theorem ce_call (h : PE X e (tCall (spF X.K gd) [] E (tA X.K true fa))) : PE X e (tE X.K c (eCall gd fa)) := pe_w h fun _ _ _ q => call_run q
theorem ce_callB (h : PE X e (tCall (spF X.K gd) [] E (tA X.K false fa))) : PE X e (tE X.K c (eN (eCall gd fa))) := pe_w h fun _ _ _ q => callB_run q
theorem ce_call0 (h : PE X e (tCall (spF X.K gd) [] E tNil)) : PE X e (tE X.K c (eCall gd aNil)) := pe_w h fun σ H Q q => by
  obtain ⟨S0, H0, A, env, ds, En, hd, q⟩ := call_run (E := E) q
  cases hd
  exact q [] H (Same.refl H) RpA.nil

/-! ### built-ins called -/
def CROk (K : PySem.W.Frag) (sc : Bool) (r : List V → Hp → VK → Prop) (h : List PyData → Option PyData) : Prop := ∀ (S S' : Addr → Prop) (H : Hp) (vs : List V) (ds : List PyData) (d : PyData) (Q : VK), (∀ p, H p = none → S p) → (sc = true ∨ S' = S) → RpA K S H ds vs → h ds = some d →
  (∀ v H', Same H H' → Rp K S' H' d v → Q v H') → r vs H Q
theorem cb_run {K : PySem.W.Frag} {sc : Bool} {r : List V → Hp → VK → Prop} {h : List PyData → Option PyData} (R : CROk K sc r h) (hc : sc = true ∨ c2 = c1) {σ : L2.St} {H : Hp} {Q : VK} (q : tE K c2 (eCall h fa) σ H Q) : tCB r (tA K c1 fa) σ H Q := by
  obtain ⟨S0, H0, A, env, d, E, hf, q⟩ := q
  unfold eCall at hf
  cases hd : fa env with
  | none => rw [hd] at hf; cases hf
  | some ds =>
    simp only [hd] at hf
    exact ⟨S0, H0, A, env, ds, E, hd, fun vs H1 s1 r1 => R (SC c1 S0 H0 A) (SC c2 S0 H0 A) H1 vs ds d Q (fun p hp => sc_new (E.grow s1) hp) (hc.imp id fun z => by rw [z]) r1 hf fun v H2 s2 r2 => q v H2 (s1.trans s2) r2⟩
theorem ce_cb {sc : Bool} {r : List V → Hp → VK → Prop} {h : List PyData → Option PyData} (R : CROk X.K sc r h) (he : PE X e (tCB r (tA X.K c1 fa))) (hc : sc = true ∨ c2 = c1 := by first | exact .inl rfl | exact .inr rfl) : PE X e (tE X.K c2 (eCall h fa)) := pe_w he fun _ _ _ q => cb_run R hc q
theorem rp1 {K : PySem.W.Frag} {S : Addr → Prop} {H : Hp} {i : Int} : Rp K S H (.int i) (.int i) := by rw [Rp]
theorem rpb {K : PySem.W.Frag} {S : Addr → Prop} {H : Hp} {i : Bool} : Rp K S H (.bool i) (.bl i) := by rw [Rp]
theorem rps {K : PySem.W.Frag} {S : Addr → Prop} {H : Hp} {i : Str} : Rp K S H (.str i) (.str i) := by rw [Rp]
def lenA : List PyData → Option PyData
  | [.list ds] => some (.int ds.length)
  | [.tuple ds] => some (.int ds.length)
  | [.str x] => if x.length ≤ 1000000 then some (.int x.length) else none
  | _ => none
theorem cr_len {K : PySem.W.Frag} : CROk K true (fun xs H Q => ∃ x n, xs = [x] ∧ LenV K x H n ∧ Q (.int n) H) lenA := by
  intro S S' H vs ds d Q _ _ r h q
  unfold lenA at h
  split at h
  · cases h
    replace r := r.one
    obtain ⟨v, rfl, r⟩ := r
    rw [Rp] at r
    obtain ⟨a, xs, rfl, hs, ra⟩ := r
    exact ⟨_, _, rfl, .inl ⟨xs, hs.sq, rfl⟩, q _ H (Same.refl H) (by rw [ra.length]; exact rp1)⟩
  · cases h
    replace r := r.one
    obtain ⟨v, rfl, r⟩ := r
    rw [Rp] at r
    obtain ⟨a, xs, rfl, hs, ra⟩ := r
    exact ⟨_, _, rfl, .inr ⟨xs, live_t hs, rfl⟩, q _ H (Same.refl H) (by rw [ra.length]; exact rp1)⟩
  · split at h
    · rename_i hl
      cases h
      replace r := r.one
      obtain ⟨v, rfl, r⟩ := r
      rw [Rp] at r
      subst r
      exact ⟨_, _, rfl, ⟨sz6 hl, rfl⟩, q _ H (Same.refl H) rp1⟩
    · cases h
  · cases h
def intA : List PyData → Option PyData
  | [.int i] => some (.int i)
  | [.bool k] => some (.int (if k then 1 else 0))
  | _ => none
theorem cr_int {K : PySem.W.Frag} : CROk K true (fun xs H Q => (∃ i, xs = [.int i] ∧ Q (.int i) H) ∨ ∃ k, xs = [.bl k] ∧ Q (.int (if k then 1 else 0)) H) intA := by
  intro S S' H vs ds d Q _ _ r h q
  unfold intA at h
  split at h
  · cases h
    replace r := r.one
    obtain ⟨v, rfl, r⟩ := r
    rw [Rp] at r
    subst r
    exact .inl ⟨_, rfl, q _ H (Same.refl H) rp1⟩
  · cases h
    replace r := r.one
    obtain ⟨v, rfl, r⟩ := r
    rw [Rp] at r
    subst r
    exact .inr ⟨_, rfl, q _ H (Same.refl H) rp1⟩
  · cases h
def tupA : List PyData → Option PyData
  | [.list ds] => some (.tuple ds)
  | [.tuple ds] => some (.tuple ds)
  | _ => none
theorem cr_tup {K : PySem.W.Frag} : CROk K false (fun xs H Q => ∃ p ys, xs = [.ref p] ∧ ((SqL K H p ys ∧ ∀ l, H l = none → Q (.ref l) (upd H l (.tup ys))) ∨ (SqT K H p ys ∧ Q (.ref p) H))) tupA := by
  intro S S' H vs ds d Q hn hS r h q
  have hS' : S' = S := hS.elim (fun z => nomatch z) id
  subst hS'
  unfold tupA at h
  split at h
  · cases h
    replace r := r.one
    obtain ⟨v, rfl, r⟩ := r
    rw [Rp] at r
    obtain ⟨a, xs, rfl, hs, ra⟩ := r
    refine ⟨a, xs, rfl, .inl ⟨hs.sq, fun l hl => q _ _ (same_new hl) ?_⟩⟩
    rw [Rp]
    exact ⟨l, xs, rfl, upd_same, ra.grow (same_new hl)⟩
  · cases h
    replace r := r.one
    obtain ⟨v, rfl, r⟩ := r
    have r' := r
    rw [Rp] at r
    obtain ⟨a, xs, rfl, hs, ra⟩ := r
    exact ⟨a, xs, rfl, .inr ⟨live_t hs, q _ H (Same.refl H) r'⟩⟩
  · cases h
/-- tuple(x), x owned: its items are clean -/
def eTupO (i : Nat) : En → Option PyData := fun env => match env[i]? with
  | some (.own ds) => some (.tuple ds)
  | _ => none
theorem ce_tupO {i : Nat} (h : PE X e (tCB (fun xs H Q => ∃ p ys, xs = [.ref p] ∧ ((SqL X.K H p ys ∧ ∀ l, H l = none → Q (.ref l) (upd H l (.tup ys))) ∨ (SqT X.K H p ys ∧ Q (.ref p) H))) (tCons (tVar i) tNil))) : PE X e (tE X.K true (eTupO i)) := pe_w h fun σ H Q ⟨S0, H0, A, env, d, E, hf, q⟩ => by
  unfold eTupO at hf
  split at hf
  · rename_i ds hi
    cases hf
    rcases E.sl i _ hi with z | ⟨v, h1, a, xs, rfl, ha, hh, r⟩
    · cases z
    refine ⟨_, h1, a, xs, rfl, .inl ⟨.inl (.inl hh), fun l hl => q _ _ (same_new hl) ?_⟩⟩
    rw [Rp]
    exact ⟨l, xs, rfl, upd_same, (r.wide fun _ z => sc_cl z).grow (same_new hl)⟩
  · cases hf
/-- list(x): a fresh one -/
def fList (f : En → Option PyData) : En → Option (List PyData) := fun env => match f env with
  | some (.list ds) => some ds
  | some (.tuple ds) => some ds
  | _ => none
theorem cf_list (h : PE X e (tCB (fun xs H Q => ∃ p ys, xs = [.ref p] ∧ (SqL X.K H p ys ∨ SqT X.K H p ys) ∧ ∀ l, H l = none → Q (.ref l) (upd H l (.lst ys))) (tCons (tE X.K true f) tNil))) : PE X e (tF X.K c (fList f)) := pe_w h fun σ H Q ⟨S0, H0, A, env, d, E, hf, q⟩ => by
  unfold fList at hf
  split at hf
  · rename_i ds hd
    cases hf
    refine ⟨S0, H0, A, env, _, E, hd, fun v H1 s r => ?_⟩
    rw [Rp] at r
    obtain ⟨a, xs, rfl, hs, ra⟩ := r
    exact ⟨a, xs, rfl, .inl hs.sq, fun l hl => q l xs _ (s.free hl) (s.trans (same_new hl)) upd_same ((ra.wide fun _ z => sc_cl (cl_sc z)).apart hl (same_new hl))⟩
  · rename_i ds hd
    cases hf
    refine ⟨S0, H0, A, env, _, E, hd, fun v H1 s r => ?_⟩
    rw [Rp] at r
    obtain ⟨a, xs, rfl, hs, ra⟩ := r
    exact ⟨a, xs, rfl, .inr (live_t hs), fun l hl => q l xs _ (s.free hl) (s.trans (same_new hl)) upd_same ((ra.wide fun _ z => sc_cl (cl_sc z)).apart hl (same_new hl))⟩
  · cases hf
/-! max, min -/
def intsD : List PyData → Option (List Int)
  | [] => some []
  | .int i :: ds => match intsD ds with
    | some ns => some (i :: ns)
    | none => none
  | _ :: _ => none
theorem intsD_rp {K : PySem.W.Frag} {S : Addr → Prop} {H : Hp} : ∀ {ds : List PyData} {ns : List Int} {xs : List V}, intsD ds = some ns → RpA K S H ds xs → xs = ns.map V.int ∧ ds = ns.map PyData.int
  | [], ns, xs, h, r => by
    rw [RpA] at r
    cases h
    exact ⟨r, rfl⟩
  | .int i :: ds, ns, xs, h, r => by
    rw [RpA] at r
    obtain ⟨v, r', rfl, h1, h2⟩ := r
    rw [Rp] at h1
    simp only [intsD] at h
    split at h
    · rename_i ms hm
      cases h
      obtain ⟨e1, e2⟩ := intsD_rp hm h2
      subst h1
      exact ⟨by rw [e1]; rfl, by rw [e2]; rfl⟩
    · cases h
  | .none :: _, _, _, h, _ => by cases h
  | .bool _ :: _, _, _, h, _ => by cases h
  | .str _ :: _, _, _, h, _ => by cases h
  | .list _ :: _, _, _, h, _ => by cases h
  | .tuple _ :: _, _, _, h, _ => by cases h
  | .dict _ :: _, _, _, h, _ => by cases h
def mxI : Int → List Int → Int
  | m, [] => m
  | m, x :: xs => mxI (if x > m then x else m) xs
def mnI : Int → List Int → Int
  | m, [] => m
  | m, x :: xs => mnI (if x < m then x else m) xs
theorem mxI_spec : ∀ (xs : List Int) (m : Int), mxI m xs ∈ m :: xs ∧ ∀ y ∈ m :: xs, y ≤ mxI m xs
  | [], m => ⟨List.mem_cons_self, fun y h => by simp at h; rw [h]; exact Int.le_refl _⟩
  | x :: xs, m => by
    obtain ⟨h1, h2⟩ := mxI_spec xs (if x > m then x else m)
    refine ⟨?_, fun y h => ?_⟩
    · show mxI (if x > m then x else m) xs ∈ _
      rcases List.mem_cons.mp h1 with h | h
      · rw [h]
        split <;> simp
      · exact List.mem_cons_of_mem _ (List.mem_cons_of_mem _ h)
    · show y ≤ mxI (if x > m then x else m) xs
      have h3 := h2 (if x > m then x else m) List.mem_cons_self
      rcases List.mem_cons.mp h with h | h
      · subst h
        split at h3 <;> (split <;> omega)
      · rcases List.mem_cons.mp h with h | h
        · subst h
          split at h3 <;> (split <;> omega)
        · exact h2 y (List.mem_cons_of_mem _ h)
theorem mnI_spec : ∀ (xs : List Int) (m : Int), mnI m xs ∈ m :: xs ∧ ∀ y ∈ m :: xs, mnI m xs ≤ y
  | [], m => ⟨List.mem_cons_self, fun y h => by simp at h; rw [h]; exact Int.le_refl _⟩
  | x :: xs, m => by
    obtain ⟨h1, h2⟩ := mnI_spec xs (if x < m then x else m)
    refine ⟨?_, fun y h => ?_⟩
    · show mnI (if x < m then x else m) xs ∈ _
      rcases List.mem_cons.mp h1 with h | h
      · rw [h]
        split <;> simp
      · exact List.mem_cons_of_mem _ (List.mem_cons_of_mem _ h)
    · show mnI (if x < m then x else m) xs ≤ y
      have h3 := h2 (if x < m then x else m) List.mem_cons_self
      rcases List.mem_cons.mp h with h | h
      · subst h
        split at h3 <;> (split <;> omega)
      · rcases List.mem_cons.mp h with h | h
        · subst h
          split at h3 <;> (split <;> omega)
        · exact h2 y (List.mem_cons_of_mem _ h)
def mx1 (k : Int → List Int → Int) : List PyData → Option PyData
  | [.list ds] => match intsD ds with
    | some (n :: ns) => some (.int (k n ns))
    | _ => none
  | _ => none
theorem cr_mx {K : PySem.W.Frag} : CROk K true (rMax K) (mx1 mxI) := by
  intro S S' H vs ds d Q _ _ r h q
  unfold mx1 at h
  split at h
  · replace r := r.one
    obtain ⟨v, rfl, r⟩ := r
    rw [Rp] at r
    obtain ⟨a, xs, rfl, hs, ra⟩ := r
    split at h
    · rename_i n ns hi
      cases h
      obtain ⟨e1, _⟩ := intsD_rp hi ra
      subst e1
      refine ⟨a, n :: ns, rfl, hs.sq, Nat.zero_lt_succ _, fun m hm hy => ?_⟩
      obtain ⟨k1, k2⟩ := mxI_spec ns n
      have e : m = mxI n ns := Int.le_antisymm (k2 m hm) (hy _ k1)
      rw [e]
      exact q _ H (Same.refl H) rp1
    · cases h
  · cases h
theorem cr_mn {K : PySem.W.Frag} : CROk K true (rMin K) (mx1 mnI) := by
  intro S S' H vs ds d Q _ _ r h q
  unfold mx1 at h
  split at h
  · replace r := r.one
    obtain ⟨v, rfl, r⟩ := r
    rw [Rp] at r
    obtain ⟨a, xs, rfl, hs, ra⟩ := r
    split at h
    · rename_i n ns hi
      cases h
      obtain ⟨e1, _⟩ := intsD_rp hi ra
      subst e1
      refine ⟨a, n :: ns, rfl, hs.sq, Nat.zero_lt_succ _, fun m hm hy => ?_⟩
      obtain ⟨k1, k2⟩ := mnI_spec ns n
      have e : m = mnI n ns := Int.le_antisymm (hy _ k1) (k2 m hm)
      rw [e]
      exact q _ H (Same.refl H) rp1
    · cases h
  · cases h
def mx2 : List PyData → Option PyData
  | [.int i, .int j] => some (.int (if j > i then j else i))
  | _ => none
def mn2 : List PyData → Option PyData
  | [.int i, .int j] => some (.int (if j < i then j else i))
  | _ => none
theorem cr_mx2 {K : PySem.W.Frag} : CROk K true (fun xs H Q => ∃ i j, xs = [.int i, .int j] ∧ Q (.int (if j > i then j else i)) H) mx2 := by
  intro S S' H vs ds d Q _ _ r h q
  unfold mx2 at h
  split at h
  · cases h
    obtain ⟨v, u, rfl, r1, r2⟩ := r.two
    rw [Rp] at r1 r2
    subst r1 r2
    exact ⟨_, _, rfl, q _ H (Same.refl H) rp1⟩
  · cases h
theorem cr_mn2 {K : PySem.W.Frag} : CROk K true (fun xs H Q => ∃ i j, xs = [.int i, .int j] ∧ Q (.int (if j < i then j else i)) H) mn2 := by
  intro S S' H vs ds d Q _ _ r h q
  unfold mn2 at h
  split at h
  · cases h
    obtain ⟨v, u, rfl, r1, r2⟩ := r.two
    rw [Rp] at r1 r2
    subst r1 r2
    exact ⟨_, _, rfl, q _ H (Same.refl H) rp1⟩
  · cases h
/-- max(xs, default=d), min likewise: ints -/
def rMxD (K : PySem.W.Frag) (k : Int → List Int → Int) : List V → List V → Hp → VK → Prop := fun vs zs H Q => ∃ a ns y, vs = [.ref a] ∧ zs = [y] ∧ SqL K H a (ns.map V.int) ∧ (match ns with
  | [] => Q y H
  | n :: ns => Q (.int (k n ns)) H)
theorem readsInts {h : Heap} : ∀ {ns : List Int} {us : List Value}, Vals (ns.map V.int) us → ∃ as, ReadsAll h us (ns.map PyData.int) as
  | [], _, r => by
    cases r
    exact ⟨_, ReadsAll.nil⟩
  | n :: ns, _, r => by
    cases r with
    | cons r1 r2 =>
      obtain ⟨t, rfl⟩ := r1
      obtain ⟨as, h2⟩ := readsInts r2
      exact ⟨_, ReadsAll.cons (Reads.int n t) h2⟩
theorem mxI_max : ∀ (ns : List Int) (n : Int), ns.foldl max n = mxI n ns
  | [], _ => rfl
  | x :: ns, n => by
    show ns.foldl max (max n x) = mxI (if x > n then x else n) ns
    rw [mxI_max ns]
    congr 1
    by_cases h : x > n
    · rw [if_pos h]; omega
    · rw [if_neg h]; omega
theorem mnI_min : ∀ (ns : List Int) (n : Int), ns.foldl min n = mnI n ns
  | [], _ => rfl
  | x :: ns, n => by
    show ns.foldl min (min n x) = mnI (if x < n then x else n) ns
    rw [mnI_min ns]
    congr 1
    by_cases h : x < n
    · rw [if_pos h]; omega
    · rw [if_neg h]; omega
theorem alike_ints (ns : List Int) : PySem.W.AlikeAll (ns.map PyData.int) := PySem.W.alikeAll_datum (α := Int) ns
theorem depth_ints : ∀ (ns : List Int), PyData.depthAll (ns.map PyData.int) = 0
  | [] => by simp [PyData.depthAll]
  | n :: ns => by simp [PyData.depthAll, PyData.depth, depth_ints ns]
theorem reads_int {h : Heap} {u : Value} {i : Int} {as : List Addr} (r : Reads h u (.int i) as) : ∃ t, u = .int i t := by
  cases r
  exact ⟨_, rfl⟩
theorem call_mxD (hc : X.calm = true) (hu : X.A.units + 64 < cLine) : CallRK X (.builtin "max") [Str.ofString "default"] (rMxD X.K mxI) := by
  intro pins s σ H vs zs us ws Q I r rz h
  obtain ⟨a, ns, y, rfl, rfl, hs, q⟩ := h
  obtain ⟨its, rv, hl, _⟩ := I.list hs
  rw [Vals.ref1 r]
  obtain ⟨u, rfl, ru⟩ := vals1 rz
  obtain ⟨as, ra⟩ := readsInts (h := s.heap) rv
  refine PySem.W.max_list_default (I.ok.hd hc) hl.isList (by rw [List.toList_toArray]; exact ra) (alike_ints ns) (by rw [depth_ints]; omega) (fun e h' tk k => ?_) fun z zs i v h' tk bs e hi rr k => ?_
  · cases ns with
    | nil => exact ⟨y, H, I.kept (t' := tk) k, ru, q⟩
    | cons _ _ => cases e
  · cases ns with
    | nil => cases e
    | cons n ns =>
      cases e
      rw [PySem.W.maxD_ints] at rr
      obtain ⟨t, rfl⟩ := reads_int rr
      exact ⟨.int _, H, I.kept (t' := tk) k, ⟨_, rfl⟩, by rw [mxI_max]; exact q⟩
theorem call_mnD (hc : X.calm = true) (hu : X.A.units + 64 < cLine) : CallRK X (.builtin "min") [Str.ofString "default"] (rMxD X.K mnI) := by
  intro pins s σ H vs zs us ws Q I r rz h
  obtain ⟨a, ns, y, rfl, rfl, hs, q⟩ := h
  obtain ⟨its, rv, hl, _⟩ := I.list hs
  rw [Vals.ref1 r]
  obtain ⟨u, rfl, ru⟩ := vals1 rz
  obtain ⟨as, ra⟩ := readsInts (h := s.heap) rv
  refine PySem.W.min_list_default (I.ok.hd hc) hl.isList (by rw [List.toList_toArray]; exact ra) (alike_ints ns) (by rw [depth_ints]; omega) (fun e h' tk k => ?_) fun z zs i v h' tk bs e hi rr k => ?_
  · cases ns with
    | nil => exact ⟨y, H, I.kept (t' := tk) k, ru, q⟩
    | cons _ _ => cases e
  · cases ns with
    | nil => cases e
    | cons n ns =>
      cases e
      rw [PySem.W.minD_ints] at rr
      obtain ⟨t, rfl⟩ := reads_int rr
      exact ⟨.int _, H, I.kept (t' := tk) k, ⟨_, rfl⟩, by rw [mnI_min]; exact q⟩
def eMxD (k : Int → List Int → Int) (f g : En → Option PyData) : En → Option PyData := fun env => match f env with
  | some (.list ds) => match g env with
    | some d => match intsD ds with
      | some [] => some d
      | some (n :: ns) => some (.int (k n ns))
      | none => none
    | none => none
  | _ => none
theorem ce_mxD {k : Int → List Int → Int} (h : PE X e (tCKw (rMxD X.K k) (tCons (tE X.K c1 f) tNil) (tCons (tE X.K c g) tNil))) : PE X e (tE X.K c (eMxD k f g)) := pe_w h fun σ H Q ⟨S0, H0, A, env, d, E, hf, q⟩ => by
  unfold eMxD at hf
  split at hf
  · rename_i ds hd
    split at hf
    · rename_i d2 hd2
      refine ⟨S0, H0, A, env, _, E, hd, fun v H1 s r => ⟨S0, H0, A, env, d2, E.grow s, hd2, fun u H2 s2 r2 => ?_⟩⟩
      rw [Rp] at r
      obtain ⟨a, xs, rfl, hs, ra⟩ := r
      split at hf
      · rename_i hi
        cases hf
        obtain ⟨e1, _⟩ := intsD_rp hi ra
        subst e1
        exact ⟨a, [], u, rfl, rfl, s2.seq hs.sq, q u H2 (s.trans s2) r2⟩
      · rename_i n ns hi
        cases hf
        obtain ⟨e1, _⟩ := intsD_rp hi ra
        subst e1
        exact ⟨a, n :: ns, u, rfl, rfl, s2.seq hs.sq, q _ H2 (s.trans s2) rp1⟩
      · cases hf
    · cases hf
  · cases hf
/-! isinstance(x, T), T a built-in class -/
def tyD : PyData → String
  | .none => "NoneType"
  | .bool _ => "bool"
  | .int _ => "int"
  | .str _ => "str"
  | .list _ => "list"
  | .tuple _ => "tuple"
  | .dict _ => "dict"
theorem tyX_of {K : PySem.W.Frag} {S : Addr → Prop} {H : Hp} {d : PyData} {v : V} (nd : tyD d ≠ "dict") (r : Rp K S H d v) : TyX K H v (.type (tyD d)) := by
  cases d with
  | none => rw [Rp] at r; subst r; exact .base .non
  | bool k => rw [Rp] at r; subst r; exact .base (.bl k)
  | int k => rw [Rp] at r; subst r; exact .base (.int k)
  | str k => rw [Rp] at r; subst r; exact .base (.str k)
  | list ds =>
    rw [Rp] at r
    obtain ⟨a, xs, rfl, hs, _⟩ := r
    rcases hs with ⟨_, hs | ⟨o, hs⟩⟩ | ⟨o, its, n, hk, hc, _⟩
    · exact .base (.lst hs)
    · exact .base (.frz hs)
    · exact .kList hk hc
  | tuple ds =>
    rw [Rp] at r
    obtain ⟨a, xs, rfl, hs, _⟩ := r
    exact .base (.tup hs)
  | dict k => exact absurd rfl nd
def isiB (T t : String) : Option Bool :=
  if T = "list" then (if t = "NoneType" ∨ t = "bool" ∨ t = "int" ∨ t = "str" ∨ t = "tuple" then some false else if t = "list" then some true else none)
  else if T = "tuple" then (if t = "NoneType" ∨ t = "bool" ∨ t = "int" ∨ t = "str" ∨ t = "list" then some false else if t = "tuple" then some true else none)
  else if T = "bool" then (if t = "NoneType" ∨ t = "tuple" ∨ t = "int" ∨ t = "str" ∨ t = "list" then some false else if t = "bool" then some true else none)
  else if T = "str" then (if t = "NoneType" ∨ t = "tuple" ∨ t = "int" ∨ t = "bool" ∨ t = "list" then some false else if t = "str" then some true else none)
  else if T = "int" then (if t = "NoneType" ∨ t = "tuple" ∨ t = "str" ∨ t = "list" then some false else if t = "int" ∨ t = "bool" then some true else none)
  else none
theorem isiB_kit {T t : String} {b : Bool} (h : isiB T t = some b) : kitB t T = some b := by
  unfold isiB at h
  repeat' (split at h)
  all_goals first
    | (cases h; done)
    | (rename_i z; cases h; rcases z with z | z | z | z | z <;> (subst_vars; decide +kernel))
    | (rename_i z; cases h; rcases z with z | z | z | z <;> (subst_vars; decide +kernel))
    | (rename_i z; cases h; rcases z with z | z <;> (subst_vars; decide +kernel))
    | (rename_i z; cases h; subst_vars; decide +kernel)
theorem isiB_dict (T : String) : isiB T "dict" = none := by
  unfold isiB
  repeat' split
  all_goals first | rfl | (rename_i z; exfalso; revert z; decide)
def eIsi (T : String) (f : En → Option PyData) : En → Option PyData := fun env => match f env with
  | some d => (isiB T (tyD d)).map .bool
  | none => none
theorem ce_isi {T : String} (h : PE X e (tCB (rIsi X.K) (tCons (tE X.K c f) (tCons (tC (.ty T)) tNil)))) : PE X e (tE X.K true (eIsi T f)) := pe_w h fun σ H Q ⟨S0, H0, A, env, d, E, hf, q⟩ => by
  unfold eIsi at hf
  split at hf
  · rename_i d' hd
    cases hb : isiB T (tyD d') with
    | none => rw [hb] at hf; cases hf
    | some b =>
      rw [hb] at hf
      cases hf
      refine ⟨S0, H0, A, env, d', E, hd, fun v H1 s r => ?_⟩
      exact ⟨v, .ty T, _, _, b, rfl, .ty T, tyX_of (fun e => by rw [e, isiB_dict] at hb; cases hb) r, kit_ty (isiB_kit hb), q _ H1 s rpb⟩
  · cases hf
/-! sep.join(xs) -/
def strsD : List PyData → Option (List Str)
  | [] => some []
  | .str i :: ds => match strsD ds with
    | some ns => some (i :: ns)
    | none => none
  | _ :: _ => none
theorem strsD_rp {K : PySem.W.Frag} {S : Addr → Prop} {H : Hp} : ∀ {ds : List PyData} {ns : List Str} {xs : List V}, strsD ds = some ns → RpA K S H ds xs → xs = ns.map V.str
  | [], ns, xs, h, r => by
    rw [RpA] at r
    cases h
    exact r
  | .str i :: ds, ns, xs, h, r => by
    rw [RpA] at r
    obtain ⟨v, r', rfl, h1, h2⟩ := r
    rw [Rp] at h1
    simp only [strsD] at h
    split at h
    · rename_i ms hm
      cases h
      have e1 := strsD_rp hm h2
      subst h1
      rw [e1]; rfl
    · cases h
  | .none :: _, _, _, h, _ => by cases h
  | .bool _ :: _, _, _, h, _ => by cases h
  | .int _ :: _, _, _, h, _ => by cases h
  | .list _ :: _, _, _, h, _ => by cases h
  | .tuple _ :: _, _, _, h, _ => by cases h
  | .dict _ :: _, _, _, h, _ => by cases h
def eJoin (f g : En → Option PyData) : En → Option PyData := e2 (fun s d => match s with
  | .str a => match (match d with | .list ds => strsD ds | .tuple ds => strsD ds | _ => none) with
    | some ys => if (ys.map (·.length)).sum + ys.length * a.length ≤ 1000000 then some (.str (Txt.join a ys)) else none
    | none => none
  | _ => none) f g
theorem ce_join {t : TE} (h : PE X e (tM1 (fun x xs H Q => ∃ a p, ∃ ys : List Str, x = .str a ∧ xs = [.ref p] ∧ (SqL X.K H p (ys.map V.str) ∨ SqT X.K H p (ys.map V.str)) ∧ (ys.map (·.length)).sum + ys.length * a.length ≤ 16777216 ∧ Q (.str (Txt.join a ys)) H) (tE X.K c1 f) (tE X.K c2 g))) :
    PE X e (tE X.K true (eJoin f g)) := pe_w h fun σ H Q ⟨S0, H0, A, env, d, E, hf, q⟩ => by
  obtain ⟨x, y, h1, h2, h3⟩ := e2_some hf
  refine ⟨S0, H0, A, env, x, E, h1, fun v H1 s1 r1 => ?_⟩
  cases x with
  | str a =>
    rw [Rp] at r1
    subst r1
    refine ⟨⟨a, rfl⟩, S0, H0, A, env, y, E.grow s1, h2, fun u H2 s2 r2 => ?_⟩
    dsimp only at h3
    split at h3
    · rename_i ys hy
      split at h3
      · rename_i hl
        cases h3
        cases y with
        | list ds =>
          rw [Rp] at r2
          obtain ⟨p, xs, rfl, hs, ra⟩ := r2
          have e1 := strsD_rp hy ra
          subst e1
          exact ⟨a, p, ys, rfl, rfl, .inl hs.sq, by omega, q _ H2 (s1.trans s2) rps⟩
        | tuple ds =>
          rw [Rp] at r2
          obtain ⟨p, xs, rfl, hs, ra⟩ := r2
          have e1 := strsD_rp hy ra
          subst e1
          exact ⟨a, p, ys, rfl, rfl, .inr (live_t hs), by omega, q _ H2 (s1.trans s2) rps⟩
        | _ => cases hy
      · cases h3
    · cases h3
  | _ => cases h3
end
end Mir

namespace Mir
open PySem PySem.Spec PyProof.Rows L2

section
variable {X : Cx} {a b e : Expr} {es : List Expr} {pos p : Pos} {c c1 c2 : Bool} {f g : En → Option PyData} {fa : En → Option (List PyData)} {fb : En → Option Bool} {K : PySem.W.Frag}
/-! ### + -/
theorem cat_lists {prog : Program} {w : World} {A : Around} {E : Value → Shared → Prop} {s : Shared} {l b : Addr} {us ws : Array Value} {Q : Value → Shared → Prop} (hl : s.heap.IsList l us) (hb : s.heap.IsList b ws)
    (h : Q (.ref s.heap.objs.size) { s with heap := s.heap.push { cls := .type "list", data := .seq (us ++ ws) } }) (hz : us.size + ws.size ≤ sizeLine) : wpAny (model prog w) A (binaryOp .Add (.ref l) (.ref b)) Q E s := by
  rcases hl with ⟨⟨k1, d1, x1, t1⟩, g1, rfl, n1, y1⟩
  rcases hb with ⟨⟨k2, d2, x2, t2⟩, g2, rfl, n2, y2⟩
  dsimp only at y1 y2
  subst y1 y2
  exact concat_meets ⟨_, g1, rfl⟩ ⟨_, g2, rfl⟩ noFill_list_add seq_list_add PySem.F.slot_list_add PySem.F.entry_list_add (PySem.F.args_list_add_2 _ _)
    (list_addW l b us ws n1 n2 d1 d2 t1 t2 hz) ⟨g1, g2, h⟩
def rCatR (K : PySem.W.Frag) : R2 := fun x y H Q => ∃ l b xs zs, x = .ref l ∧ y = .ref b ∧ SqL K H l xs ∧ SqL K H b zs ∧ xs.length + zs.length ≤ sizeLine ∧ ∀ p, H p = none → Q (.ref p) (upd H p (.lst (xs ++ zs)))
theorem op_catR : OpR X (binaryOp .Add) (rCatR X.K) := by
  intro pins s σ H x y v u Q I rx ry h
  obtain ⟨l, b, xs, zs, rfl, rfl, h1, h2, hz, q⟩ := h
  cases rx
  cases ry
  obtain ⟨i1, r1, p1, _⟩ := I.list h1
  obtain ⟨i2, r2, p2, _⟩ := I.list h2
  have l1 := r1.length
  have l2 := r2.length
  refine cat_lists p1.isList p2.isList ?_ (by rw [List.size_toArray, List.size_toArray]; omega)
  have ea : i1.toArray ++ i2.toArray = (i1 ++ i2).toArray := by simp
  rw [ea]
  exact ⟨.ref s.heap.objs.size, _, I.lnew (t' := s.toks) (r1.append r2) (by rw [List.length_append]; omega), rfl, q _ I.fresh⟩
def rAddX (K : PySem.W.Frag) : R2 := fun x y H Q => (∃ i j, x = .int i ∧ y = .int j ∧ Q (.int (i + j)) H) ∨ (∃ i j, x = .str i ∧ y = .str j ∧ i.length + j.length ≤ sizeLine ∧ Q (.str (i ++ j)) H) ∨ rCatA K x y H Q ∨ rCatR K x y H Q
theorem op_addX : OpR X (binaryOp .Add) (rAddX X.K) := by
  intro pins s σ H x y v u Q I rx ry h
  rcases h with h | h | h | h
  · exact op_add pins s σ H x y v u Q I rx ry h
  · exact op_add_str pins s σ H x y v u Q I rx ry h
  · exact op_catA pins s σ H x y v u Q I rx ry h
  · exact op_catR pins s σ H x y v u Q I rx ry h
def addD : PyData → PyData → Option PyData
  | .int i, .int j => some (.int (i + j))
  | .str x, .str y => if x.length + y.length ≤ 1000000 then some (.str (x ++ y)) else none
  | .tuple xs, .tuple ys => if xs.length + ys.length ≤ 1000000 then some (.tuple (xs ++ ys)) else none
  | .list xs, .list ys => if xs.length + ys.length ≤ 1000000 then some (.list (xs ++ ys)) else none
  | _, _ => none
theorem r2_add : R2Ok K false (rAddX K) addD := by
  intro S S' H x y dx dy d Q hn hS rx ry h q
  have hS' : S' = S := hS.elim (fun z => nomatch z) id
  subst hS'
  unfold addD at h
  split at h
  · cases h
    rw [Rp] at rx ry
    subst rx ry
    exact .inl ⟨_, _, rfl, rfl, q _ H (Same.refl H) rp1⟩
  · split at h
    · rename_i hl
      cases h
      rw [Rp] at rx ry
      subst rx ry
      exact .inr (.inl ⟨_, _, rfl, rfl, sz6 hl, q _ H (Same.refl H) rps⟩)
    · cases h
  · rename_i xs ys
    split at h
    · rename_i hl
      cases h
      have rx' := rx
      have ry' := ry
      rw [Rp] at rx ry
      obtain ⟨l, us, rfl, h1, r1⟩ := rx
      obtain ⟨m, vs, rfl, h2, r2⟩ := ry
      have l1 := r1.length
      have l2 := r2.length
      refine .inr (.inr (.inl ⟨l, m, us, vs, rfl, rfl, live_t h1, live_t h2, by rw [l1, l2]; exact sz6 hl, fun e => ?_, fun n e => ?_, fun n1 n2 p hp => ?_⟩))
      · have e1 : xs = [] := List.eq_nil_of_length_eq_zero (by rw [← l1, e]; rfl)
        subst e1
        exact q _ H (Same.refl H) ry'
      · have e1 : ys = [] := List.eq_nil_of_length_eq_zero (by rw [← l2, e]; rfl)
        subst e1
        rw [List.append_nil] at q
        exact q _ H (Same.refl H) rx'
      · refine q _ _ (same_new hp) ?_
        rw [Rp]
        exact ⟨p, _, rfl, upd_same, (r1.append r2).grow (same_new hp)⟩
    · cases h
  · split at h
    · rename_i hl
      cases h
      rw [Rp] at rx ry
      obtain ⟨l, us, rfl, h1, r1⟩ := rx
      obtain ⟨m, vs, rfl, h2, r2⟩ := ry
      refine .inr (.inr (.inr ⟨l, m, us, vs, rfl, rfl, h1.sq, h2.sq, by rw [r1.length, r2.length]; exact sz6 hl, fun p hp => q _ _ (same_new hp) ?_⟩))
      rw [Rp]
      exact ⟨p, _, rfl, .inl ⟨hn p hp, .inl upd_same⟩, (r1.append r2).grow (same_new hp)⟩
    · cases h
  · cases h
theorem ce_add (ha : PE X a (tE X.K c f)) (hb : PE X b (tE X.K c g)) : PE X (.BinOp a .Add b pos) (tE X.K c (e2 addD f g)) := ce_op op_addX r2_add ha hb
/-- list + list, fresh -/
def fCat (f g : En → Option PyData) : En → Option (List PyData) := fun env => match f env with
  | some (.list xs) => match g env with
    | some (.list ys) => if xs.length + ys.length ≤ 1000000 then some (xs ++ ys) else none
    | _ => none
  | _ => none
theorem cf_cat (ha : PE X a (tE X.K true f)) (hb : PE X b (tE X.K true g)) : PE X (.BinOp a .Add b pos) (tF X.K c (fCat f g)) := pe_w (pe_op op_catR ha hb) fun σ H Q ⟨S0, H0, A, env, d, E, hf, q⟩ => by
  unfold fCat at hf
  split at hf
  · rename_i xs h1
    split at hf
    · rename_i ys h2
      split at hf
      · rename_i hl
        cases hf
        refine ⟨S0, H0, A, env, _, E, h1, fun v H1 s1 r1 => ⟨S0, H0, A, env, _, E.grow s1, h2, fun u H2 s2 r2 => ?_⟩⟩
        rw [Rp] at r1 r2
        obtain ⟨l, us, rfl, k1, q1⟩ := r1
        obtain ⟨m, vs, rfl, k2, q2⟩ := r2
        refine ⟨l, m, us, vs, rfl, rfl, s2.seq k1.sq, k2.sq, by rw [q1.length, q2.length]; exact sz6 hl, fun p hp => q p _ _ ((s1.trans s2).free hp) ((s1.trans s2).trans (same_new hp)) upd_same ?_⟩
        exact (((q1.grow s2).append q2).wide fun _ z => sc_cl (cl_sc z)).apart hp (same_new hp)
      · cases hf
    · cases hf
  · cases hf

/-! ### ints -/
def i2 (h : Int → Int → Option PyData) : PyData → PyData → Option PyData
  | .int i, .int j => h i j
  | _, _ => none
theorem r2_I {C : Int → Int → Prop} [DecidableRel C] {k : Int → Int → Int} : R2Ok K true (rI C fun i j => .int (k i j)) (i2 fun i j => if C i j then some (.int (k i j)) else none) := by
  intro S S' H x y dx dy d Q hn hS rx ry h q
  unfold i2 at h
  split at h
  · dsimp only at h
    split at h
    · rename_i hc
      cases h
      rw [Rp] at rx ry
      subst rx ry
      exact ⟨_, _, rfl, rfl, hc, q _ H (Same.refl H) rp1⟩
    · cases h
  · cases h
theorem r2_I0 {k : Int → Int → Int} : R2Ok K true (rI0 fun i j => .int (k i j)) (i2 fun i j => some (.int (k i j))) := by
  intro S S' H x y dx dy d Q hn hS rx ry h q
  unfold i2 at h
  split at h
  · cases h
    rw [Rp] at rx ry
    subst rx ry
    exact ⟨_, _, rfl, rfl, q _ H (Same.refl H) rp1⟩
  · cases h
theorem r2_B0 {k : Int → Int → Bool} : R2Ok K true (rI0 fun i j => .bl (k i j)) (i2 fun i j => some (.bool (k i j))) := by
  intro S S' H x y dx dy d Q hn hS rx ry h q
  unfold i2 at h
  split at h
  · cases h
    rw [Rp] at rx ry
    subst rx ry
    exact ⟨_, _, rfl, rfl, q _ H (Same.refl H) rpb⟩
  · cases h
instance : DecidableRel CMul := fun i j => by unfold CMul; infer_instance
instance : DecidableRel CDiv := fun i j => by unfold CDiv; infer_instance
instance : DecidableRel CPow := fun i j => by unfold CPow; infer_instance
def subD : PyData → PyData → Option PyData := i2 fun i j => some (.int (i - j))
def mulD : PyData → PyData → Option PyData := i2 fun i j => if CMul i j then some (.int (i * j)) else none
def divD : PyData → PyData → Option PyData := i2 fun i j => if CDiv i j then some (.int (i / j)) else none
def modD : PyData → PyData → Option PyData := i2 fun i j => if 0 < j then some (.int (i % j)) else none
def powD : PyData → PyData → Option PyData := i2 fun i j => if CPow i j then some (.int (i ^ j.toNat)) else none
theorem ce_sub (ha : PE X a (tE X.K c f)) (hb : PE X b (tE X.K c g)) : PE X (.BinOp a .Sub b pos) (tE X.K true (e2 subD f g)) := ce_op op_sub r2_I0 ha hb
theorem ce_mul (ha : PE X a (tE X.K c f)) (hb : PE X b (tE X.K c g)) : PE X (.BinOp a .Mult b pos) (tE X.K true (e2 mulD f g)) := ce_op op_mul r2_I ha hb
theorem ce_div (ha : PE X a (tE X.K c f)) (hb : PE X b (tE X.K c g)) : PE X (.BinOp a .FloorDiv b pos) (tE X.K true (e2 divD f g)) := ce_op op_fdiv r2_I ha hb
theorem ce_mod (ha : PE X a (tE X.K c f)) (hb : PE X b (tE X.K c g)) : PE X (.BinOp a .Mod b pos) (tE X.K true (e2 modD f g)) := ce_op op_mod r2_I ha hb
theorem ce_pow (ha : PE X a (tE X.K c f)) (hb : PE X b (tE X.K c g)) : PE X (.BinOp a .Pow b pos) (tE X.K true (e2 powD f g)) := ce_op op_pow r2_I ha hb
def negD : PyData → Option PyData
  | .int i => some (.int (-i))
  | _ => none
def e1 (h : PyData → Option PyData) (f : En → Option PyData) : En → Option PyData := fun env => match f env with
  | some d => h d
  | none => none
theorem ce_neg (ha : PE X a (tE X.K c f)) : PE X (.UnaryOp .USub a pos) (tE X.K true (e1 negD f)) := pe_w (pe_un un_neg ha) fun σ H Q ⟨S0, H0, A, env, d, E, hf, q⟩ => by
  unfold e1 at hf
  split at hf
  · rename_i x hx
    cases x with
    | int i =>
      cases hf
      refine ⟨S0, H0, A, env, _, E, hx, fun v H1 s r => ?_⟩
      rw [Rp] at r
      subst r
      exact ⟨_, rfl, q _ H1 s rp1⟩
    | _ => cases hf
  · cases hf

/-! ### comparisons -/
def ltD : PyData → PyData → Option PyData := i2 fun i j => some (.bool (decide (i < j)))
def leD : PyData → PyData → Option PyData := i2 fun i j => some (.bool (decide (i ≤ j)))
def gtD : PyData → PyData → Option PyData := i2 fun i j => some (.bool (decide (j < i)))
def geD : PyData → PyData → Option PyData := i2 fun i j => some (.bool (decide (j ≤ i)))
theorem ce_lt (ha : PE X a (tE X.K c f)) (hb : PE X b (tE X.K c g)) : PE X (.Compare a [.Lt] [b] pos) (tE X.K true (e2 ltD f g)) := ce_cmp op_lt r2_B0 ha hb (nomark _)
theorem ce_le (ha : PE X a (tE X.K c f)) (hb : PE X b (tE X.K c g)) : PE X (.Compare a [.LtE] [b] pos) (tE X.K true (e2 leD f g)) := ce_cmp op_le r2_B0 ha hb (nomark _)
theorem ce_gt (ha : PE X a (tE X.K c f)) (hb : PE X b (tE X.K c g)) : PE X (.Compare a [.Gt] [b] pos) (tE X.K true (e2 gtD f g)) := ce_cmp op_gt r2_B0 ha hb (nomark _)
theorem ce_ge (ha : PE X a (tE X.K c f)) (hb : PE X b (tE X.K c g)) : PE X (.Compare a [.GtE] [b] pos) (tE X.K true (e2 geD f g)) := ce_cmp op_ge r2_B0 ha hb (nomark _)
def eqD : PyData → PyData → Option PyData := fun x y => if (SeqAt.shaped x && SeqAt.shaped y) = true then some (.bool (PyData.eqv x y)) else none
def neD : PyData → PyData → Option PyData := fun x y => if (SeqAt.shaped x && SeqAt.shaped y) = true then some (.bool (!PyData.eqv x y)) else none
theorem r2_eq : R2Ok K true (rEqD K) eqD := by
  intro S S' H x y dx dy d Q hn hS rx ry h q
  unfold eqD at h
  split at h
  · rename_i hs
    rw [Bool.and_eq_true] at hs
    cases h
    exact ⟨dx, dy, rx.dp hs.1, ry.dp hs.2, hs.1, hs.2, q _ H (Same.refl H) rpb⟩
  · cases h
theorem r2_ne : R2Ok K true (rNeD K) neD := by
  intro S S' H x y dx dy d Q hn hS rx ry h q
  unfold neD at h
  split at h
  · rename_i hs
    rw [Bool.and_eq_true] at hs
    cases h
    exact ⟨dx, dy, rx.dp hs.1, ry.dp hs.2, hs.1, hs.2, q _ H (Same.refl H) rpb⟩
  · cases h
theorem ce_eq (hu : X.A.units + 64 < cLine) (ha : PE X a (tE X.K c f)) (hb : PE X b (tE X.K c g)) : PE X (.Compare a [.Eq] [b] pos) (tE X.K true (e2 eqD f g)) := ce_cmp (op_eqD hu) r2_eq ha hb (nomark _)
theorem ce_ne (hu : X.A.units + 64 < cLine) (ha : PE X a (tE X.K c f)) (hb : PE X b (tE X.K c g)) : PE X (.Compare a [.NotEq] [b] pos) (tE X.K true (e2 neD f g)) := ce_cmp (op_neD hu) r2_ne ha hb (nomark _)
def noneB : PyData → Bool
  | .none => true
  | _ => false
def isD : PyData → PyData → Option PyData
  | x, .none => some (.bool (noneB x))
  | _, _ => none
def isntD : PyData → PyData → Option PyData
  | x, .none => some (.bool (!noneB x))
  | _, _ => none
theorem noneB_rp {S : Addr → Prop} {H : Hp} {d : PyData} {v : V} (r : Rp K S H d v) : decide (v = .non) = noneB d := by
  cases d with
  | none => rw [Rp] at r; subst r; rfl
  | bool k => rw [Rp] at r; subst r; rfl
  | int k => rw [Rp] at r; subst r; rfl
  | str k => rw [Rp] at r; subst r; rfl
  | list ds => rw [Rp] at r; obtain ⟨a, xs, rfl, _⟩ := r; rfl
  | tuple ds => rw [Rp] at r; obtain ⟨a, xs, rfl, _⟩ := r; rfl
  | dict k => rw [Rp] at r; obtain ⟨a, od, rfl, _⟩ := r; rfl
theorem r2_is : R2Ok K true (fun x y H Q => y = .non ∧ Q (.bl (decide (x = .non))) H) isD := by
  intro S S' H x y dx dy d Q hn hS rx ry h q
  unfold isD at h
  split at h
  · cases h
    rw [Rp] at ry
    exact ⟨ry, by rw [noneB_rp rx]; exact q _ H (Same.refl H) rpb⟩
  · cases h
theorem r2_isnt : R2Ok K true (fun x y H Q => y = .non ∧ Q (.bl (!decide (x = .non))) H) isntD := by
  intro S S' H x y dx dy d Q hn hS rx ry h q
  unfold isntD at h
  split at h
  · cases h
    rw [Rp] at ry
    exact ⟨ry, by rw [noneB_rp rx]; exact q _ H (Same.refl H) rpb⟩
  · cases h
theorem ce_is (ha : PE X a (tE X.K c f)) (hb : PE X b (tE X.K c g)) : PE X (.Compare a [.Is] [b] pos) (tE X.K true (e2 isD f g)) := ce_cmp op_isN r2_is ha hb (nomark _)
theorem ce_isnt (ha : PE X a (tE X.K c f)) (hb : PE X b (tE X.K c g)) : PE X (.Compare a [.IsNot] [b] pos) (tE X.K true (e2 isntD f g)) := ce_cmp op_notN r2_isnt ha hb (nomark _)
/-! in: a list of data of any depth -/
def inD : PyData → PyData → Option PyData
  | x, .list ds => if (SeqAt.shaped x && SeqAt.shaped (.list ds)) = true then some (.bool (ds.any fun z => PyData.eqv z x)) else none
  | _, _ => none
def notInD : PyData → PyData → Option PyData
  | x, .list ds => if (SeqAt.shaped x && SeqAt.shaped (.list ds)) = true then some (.bool (!ds.any fun z => PyData.eqv z x)) else none
  | _, _ => none
theorem r2_in : R2Ok K true (rInD K) inD := by
  intro S S' H x y dx dy d Q hn hS rx ry h q
  unfold inD at h
  split at h
  · split at h
    · rename_i hs
      rw [Bool.and_eq_true] at hs
      cases h
      exact ⟨_, _, rx.dp hs.1, ry.dp hs.2, hs.1, hs.2, q _ H (Same.refl H) rpb⟩
    · cases h
  · cases h
theorem r2_notIn : R2Ok K true (rNotInD K) notInD := by
  intro S S' H x y dx dy d Q hn hS rx ry h q
  unfold notInD at h
  split at h
  · split at h
    · rename_i hs
      rw [Bool.and_eq_true] at hs
      cases h
      exact ⟨_, _, rx.dp hs.1, ry.dp hs.2, hs.1, hs.2, q _ H (Same.refl H) rpb⟩
    · cases h
  · cases h
theorem ce_in (hu : X.A.units + 65 < cLine) (ha : PE X a (tE X.K c f)) (hb : PE X b (tE X.K c g)) (hm : behindInMarks .In b = false) : PE X (.Compare a [.In] [b] pos) (tE X.K true (e2 inD f g)) := ce_cmp (op_inD hu) r2_in ha hb hm
theorem ce_notIn (hu : X.A.units + 65 < cLine) (ha : PE X a (tE X.K c f)) (hb : PE X b (tE X.K c g)) (hm : behindInMarks .NotIn b = false) : PE X (.Compare a [.NotIn] [b] pos) (tE X.K true (e2 notInD f g)) := ce_cmp (op_notInD hu) r2_notIn ha hb hm
/-! chains of ints: a < b < c -/
def chI (k1 k2 : Int → Int → Bool) (f g h : En → Option PyData) : En → Option PyData := fun env => match f env with
  | some (.int i) => match g env with
    | some (.int j) => if k1 i j = true then (match h env with
      | some (.int m) => some (.bool (k2 j m))
      | _ => none) else some (.bool false)
    | _ => none
  | _ => none
theorem ce_chain {k1 k2 : Int → Int → Bool} {h : En → Option PyData} (he : PE X e (tChain (rI0 fun i j => .bl (k1 i j)) (rI0 fun i j => .bl (k2 i j)) (tE X.K c f) (tE X.K c1 g) (tE X.K c2 h))) : PE X e (tE X.K true (chI k1 k2 f g h)) := pe_w he fun σ H Q ⟨S0, H0, A, env, d, E, hf, q⟩ => by
  unfold chI at hf
  split at hf
  · rename_i i hi
    split at hf
    · rename_i j hj
      refine ⟨S0, H0, A, env, _, E, hi, fun v H1 s1 r1 => ⟨S0, H0, A, env, _, E.grow s1, hj, fun u H2 s2 r2 => ?_⟩⟩
      rw [Rp] at r1 r2
      subst r1 r2
      refine ⟨i, j, rfl, rfl, k1 i j, rfl, ?_⟩
      by_cases hk : k1 i j = true
      · rw [if_pos hk] at hf
        rw [hk, if_pos rfl]
        split at hf
        · rename_i m hm
          cases hf
          refine ⟨S0, H0, A, env, _, (E.grow s1).grow s2, hm, fun w H3 s3 r3 => ?_⟩
          rw [Rp] at r3
          subst r3
          exact ⟨j, m, rfl, rfl, q _ H3 ((s1.trans s2).trans s3) rpb⟩
        · cases hf
      · rw [if_neg hk] at hf
        cases hf
        rw [if_neg hk]
        have e : k1 i j = false := by cases z : k1 i j with
          | true => exact absurd z hk
          | false => rfl
        exact q _ H2 (s1.trans s2) rpb
    · cases hf
  · cases hf

/-! ### items, slices -/
def ixG (x k : PyData) : Option PyData := match k with
  | .int i => match x with
    | .list ds => atI ds i
    | .tuple ds => atI ds i
    | .str z => if z.length ≤ 1000000 then (atI z.cps.toList i).map fun c => .str ⟨#[c]⟩ else none
    | _ => none
  | _ => none
theorem atI_rp {S : Addr → Prop} {H : Hp} {ds : List PyData} {xs : List V} {i : Int} {d : PyData} (r : RpA K S H ds xs) (h : atI ds i = some d) : ∃ v, atI xs i = some v ∧ Rp K S H d v := by
  unfold atI at h ⊢
  rw [r.length]
  cases hj : ixN ds.length i with
  | none => rw [hj] at h; cases h
  | some j =>
    rw [hj] at h
    exact r.get h
theorem r2_ix : R2Ok K false (rIx K) ixG := by
  intro S S' H x y dx dy d Q hn hS rx ry h q
  have hS' : S' = S := hS.elim (fun z => nomatch z) id
  subst hS'
  unfold ixG at h
  split at h
  · rename_i i
    rw [Rp] at ry
    subst ry
    split at h
    · rw [Rp] at rx
      obtain ⟨l, us, rfl, h1, r1⟩ := rx
      obtain ⟨v, e1, e2⟩ := atI_rp r1 h
      exact .inl ⟨l, us, i, v, rfl, rfl, h1.sq, e1, q v H (Same.refl H) e2⟩
    · rw [Rp] at rx
      obtain ⟨l, us, rfl, h1, r1⟩ := rx
      obtain ⟨v, e1, e2⟩ := atI_rp r1 h
      exact .inr (.inl ⟨l, us, i, v, rfl, rfl, live_t h1, e1, q v H (Same.refl H) e2⟩)
    · rename_i z
      split at h
      · rename_i hl
        rw [Rp] at rx
        subst rx
        cases hc : atI z.cps.toList i with
        | none => rw [hc] at h; cases h
        | some k =>
          rw [hc] at h
          cases h
          exact .inr (.inr ⟨z, i, k, rfl, rfl, sz6 hl, hc, q _ H (Same.refl H) rps⟩)
      · cases h
    · cases h
  · cases h
theorem ce_ix (ha : PE X a (tE X.K c f)) (hb : PE X b (tE X.K c g)) (hs : PlainIx b) : PE X (.Subscript a b pos) (tE X.K c (e2 ixG f g)) := pe_w (pe_ix ix_seq ha hb hs) fun _ _ _ q => e2_run r2_ix (.inr rfl) q
/-- x[k], x owned: a clean item -/
def eIxO (i : Nat) (g : En → Option PyData) : En → Option PyData := fun env => match env[i]? with
  | some (.own ds) => match g env with
    | some (.int k) => atI ds k
    | _ => none
  | _ => none
theorem ce_ixO {i : Nat} (ha : PE X a (tVar i)) (hb : PE X b (tE X.K c g)) (hs : PlainIx b) : PE X (.Subscript a b pos) (tE X.K true (eIxO i g)) := pe_w (pe_ix ix_seq ha hb hs) fun σ H Q ⟨S0, H0, A, env, d, E, hf, q⟩ => by
  unfold eIxO at hf
  split at hf
  · rename_i ds hi
    split at hf
    · rename_i k hk
      rcases E.sl i _ hi with z | ⟨v, h1, l, us, rfl, ha, hh, r⟩
      · cases z
      refine ⟨_, h1, S0, H0, A, env, _, E, hk, fun u H1 s1 r1 => ?_⟩
      rw [Rp] at r1
      subst r1
      obtain ⟨v, e1, e2⟩ := atI_rp (r.grow s1) hf
      exact .inl ⟨l, us, k, v, rfl, rfl, .inl (.inl (s1 _ _ hh)), e1, q v H1 s1 (Rp.wide (fun _ z => sc_cl z) e2)⟩
    · cases hf
  · cases hf
def tOp' (K : PySem.W.Frag) (f : En → Option (Option Int)) : TO := fun σ H Q => ∃ S0 H0 A env o, EnvOk K S0 H0 A H σ env ∧ f env = some o ∧ ∀ H', Same H H' → Q o H'
def oNone : En → Option (Option Int) := fun _ => some none
def oSome (f : En → Option PyData) : En → Option (Option Int) := fun env => match f env with
  | some (.int i) => some (some i)
  | _ => none
theorem co_none : PO X none (tOp' X.K oNone) := ⟨fun pins s σ H Q I ⟨S0, H0, A, env, o, E, hf, q⟩ => (po_none).run pins s σ H Q I (by cases hf; exact q H (Same.refl H))⟩
theorem co_some (h : PE X e (tE X.K c f)) : PO X (some e) (tOp' X.K (oSome f)) := ⟨fun pins s σ H Q I ⟨S0, H0, A, env, o, E, hf, q⟩ => (po_some h).run pins s σ H Q I (by
  unfold oSome at hf
  split at hf
  · rename_i i hi
    cases hf
    refine ⟨S0, H0, A, env, _, E, hi, fun v H1 s r => ?_⟩
    rw [Rp] at r
    exact ⟨i, r, q H1 s⟩
  · cases hf)⟩
def cutL {α : Type} (xs : List α) (lo hi : Option Int) : List α := (xs.drop (HT.sIx xs.length 0 lo)).take (HT.sIx xs.length xs.length hi - HT.sIx xs.length 0 lo)
def rSlX (K : PySem.W.Frag) : V → Option Int → Option Int → Hp → VK → Prop := fun x lo hi H Q => (∃ a xs, x = .ref a ∧ SqL K H a xs ∧ ∀ p, H p = none → Q (.ref p) (upd H p (.lst (cutV xs lo hi)))) ∨ rSlA K x lo hi H Q ∨ rSlS x lo hi H Q
theorem sl_X : SlR X (rSlX X.K) := by
  intro pins s σ H x v vl vu lo hi sl Q I rx hs pl pu h
  rcases h with h | h | h
  · exact sl_list pins s σ H x v vl vu lo hi sl Q I rx hs pl pu h
  · exact sl_tupA pins s σ H x v vl vu lo hi sl Q I rx hs pl pu h
  · exact sl_str pins s σ H x v vl vu lo hi sl Q I rx hs pl pu h
def slG (x : PyData) (lo hi : Option Int) : Option PyData := match x with
  | .list ds => some (.list (cutL ds lo hi))
  | .tuple ds => some (.tuple (cutL ds lo hi))
  | .str z => if z.length ≤ 1000000 then some (.str (cutS z lo hi)) else none
  | _ => none
theorem cut_rp {S : Addr → Prop} {H : Hp} {ds : List PyData} {xs : List V} (r : RpA K S H ds xs) (lo hi : Option Int) : RpA K S H (cutL ds lo hi) (cutV xs lo hi) := by
  unfold cutL cutV
  rw [r.length]
  exact (r.drop _).take _
theorem cut_whole {ds : List PyData} {lo hi : Option Int} (h : HT.sIx ds.length 0 lo = 0 ∧ HT.sIx ds.length ds.length hi = ds.length) : cutL ds lo hi = ds := by
  unfold cutL
  rw [h.1, h.2]
  simp
def eSl (f : En → Option PyData) (l h : En → Option (Option Int)) : En → Option PyData := fun env => match f env with
  | some x => match l env with
    | some lo => match h env with
      | some hi => slG x lo hi
      | none => none
    | none => none
  | none => none
theorem ce_sl {lo hi : Option Expr} {p2 : Pos} {l h : En → Option (Option Int)} (ha : PE X a (tE X.K c f)) (hl : PO X lo (tOp' X.K l)) (hh : PO X hi (tOp' X.K h)) : PE X (.Subscript a (.Slice lo hi none p2) pos) (tE X.K c (eSl f l h)) := pe_w (pe_slice sl_X ha hl hh) fun σ H Q ⟨S0, H0, A, env, d, E, hf, q⟩ => by
  unfold eSl at hf
  split at hf
  · rename_i x hx
    split at hf
    · rename_i lo' hlo
      split at hf
      · rename_i hi' hhi
        refine ⟨S0, H0, A, env, x, E, hx, fun v H1 s1 r1 => ⟨S0, H0, A, env, lo', E.grow s1, hlo, fun H2 s2 => ⟨S0, H0, A, env, hi', (E.grow s1).grow s2, hhi, fun H3 s3 => ?_⟩⟩⟩
        have sm := (s1.trans s2).trans s3
        have r3 := (r1.grow s2).grow s3
        unfold slG at hf
        split at hf
        · cases hf
          rw [Rp] at r3
          obtain ⟨m, us, rfl, k, r⟩ := r3
          refine .inl ⟨m, us, rfl, k.sq, fun p hp => q _ _ (sm.trans (same_new hp)) ?_⟩
          rw [Rp]
          exact ⟨p, _, rfl, .inl ⟨sc_new (E.grow sm) hp, .inl upd_same⟩, (cut_rp r _ _).grow (same_new hp)⟩
        · cases hf
          have r3' := r3
          rw [Rp] at r3
          obtain ⟨m, us, rfl, k, r⟩ := r3
          refine .inr (.inl ⟨m, us, rfl, live_t k, fun w => ?_, fun _ p hp => q _ _ (sm.trans (same_new hp)) ?_⟩)
          · rw [r.length] at w
            rw [cut_whole w] at q
            exact q _ H3 sm r3'
          · rw [Rp]
            exact ⟨p, _, rfl, upd_same, (cut_rp r _ _).grow (same_new hp)⟩
        · split at hf
          · rename_i z hz
            cases hf
            rw [Rp] at r3
            subst r3
            exact .inr (.inr ⟨z, rfl, sz6 hz, q _ H3 sm rps⟩)
          · cases hf
        · cases hf
      · cases hf
    · cases hf
  · cases hf
end
end Mir

namespace Mir
open PySem PySem.Spec PyProof.Rows L2
theorem hu65 {k : Nat} {A : Around} (r : Room k A) : A.units + 65 < cLine := by
  have := r.un
  omega
abbrev tNilE : TE := tC .non
section
variable {X : Cx} {a b e : Expr} {es : List Expr} {pos p : Pos} {st : Stmt} {c c1 c2 : Bool} {f g : En → Option PyData} {fa : En → Option (List PyData)} {fb : En → Option Bool} {K : PySem.W.Frag}
theorem ct_chain {k1 k2 : Int → Int → Bool} {h : En → Option PyData} (he : PT X e (tTest (tChain (rI0 fun i j => .bl (k1 i j)) (rI0 fun i j => .bl (k2 i j)) (tE X.K c f) (tE X.K c1 g) (tE X.K c2 h)))) : PT X e (tT X.K (t1 (chI k1 k2 f g h))) := pt_w he fun σ H Q ⟨S0, H0, A, env, d, E, hf, q⟩ => by
  have hf := t1_some hf
  unfold chI at hf
  split at hf
  · rename_i i hi
    split at hf
    · rename_i j hj
      refine ⟨S0, H0, A, env, _, E, hi, fun v H1 s1 r1 => ⟨S0, H0, A, env, _, E.grow s1, hj, fun u H2 s2 r2 => ?_⟩⟩
      rw [Rp] at r1 r2
      subst r1 r2
      refine ⟨i, j, rfl, rfl, k1 i j, rfl, ?_⟩
      by_cases hk : k1 i j = true
      · rw [if_pos hk] at hf
        rw [hk, if_pos rfl]
        split at hf
        · rename_i m hm
          cases hf
          refine ⟨S0, H0, A, env, _, (E.grow s1).grow s2, hm, fun w H3 s3 r3 => ?_⟩
          rw [Rp] at r3
          subst r3
          exact ⟨j, m, rfl, rfl, _, rfl, q H3 ((s1.trans s2).trans s3)⟩
        · cases hf
      · rw [if_neg hk] at hf
        cases hf
        rw [if_neg hk]
        exact ⟨_, rfl, q H2 (s1.trans s2)⟩
    · cases hf
  · cases hf
theorem ce_l' {t : TE} (h : ∀ σ H Q, tF K c fa σ H Q → t σ H Q) {σ : L2.St} {H : Hp} {Q : VK} (q : tE K c (eL fa) σ H Q) : t σ H Q := by
  obtain ⟨S0, H0, A, env, d, E, hf, q⟩ := q
  unfold eL at hf
  cases hd : fa env with
  | none => rw [hd] at hf; cases hf
  | some ds =>
    rw [hd] at hf
    cases hf
    refine h _ _ _ ⟨S0, H0, A, env, ds, E, hd, fun p xs H' hn s hp r => q _ H' s ?_⟩
    rw [Rp]
    exact ⟨p, xs, rfl, .inl ⟨sc_new E hn, .inl hp⟩, r.wide fun _ z => z.1⟩
theorem cs_lcV {i : Nat} {c : Bool} {f : En → Option (List PyData)} {g : PyData → En → Option En} {ga : En → Option Bool} {fe : En → Option PyData} {is : List Nat} (h : PS X st (tAsg (tLc (tI X.K c f) (tG X.K is g) (tT X.K ga) (tE X.K true fe) is) (gName i))) : PS X st (tS X.K (sSet i (eL (fCmp is f g ga fe)))) :=
  ps_w h fun D σ H q => ce_l' (c := true) (fun _ _ _ z => lc_run (fun _ _ _ z => z) z) (set_run q)
theorem cs_lcV1 {i : Nat} {c : Bool} {f : En → Option (List PyData)} {g : PyData → En → Option En} {fe : En → Option PyData} {is : List Nat} (h : PS X st (tAsg (tLc (tI X.K c f) (tG X.K is g) tYes (tE X.K true fe) is) (gName i))) : PS X st (tS X.K (sSet i (eL (fCmp is f g tYes' fe)))) :=
  ps_w h fun D σ H q => ce_l' (c := true) (fun _ _ _ z => lc_run (fun _ _ _ z => yes_run z) z) (set_run q)
end
/-! any, all, sum -/
def boolsD : List PyData → Option (List Bool)
  | [] => some []
  | .bool i :: ds => match boolsD ds with
    | some ns => some (i :: ns)
    | none => none
  | _ :: _ => none
theorem boolsD_rp {K : PySem.W.Frag} {S : Addr → Prop} {H : Hp} : ∀ {ds : List PyData} {ns : List Bool} {xs : List V}, boolsD ds = some ns → RpA K S H ds xs → xs = ns.map V.bl
  | [], ns, xs, h, r => by
    rw [RpA] at r
    cases h
    exact r
  | .bool i :: ds, ns, xs, h, r => by
    rw [RpA] at r
    obtain ⟨v, r', rfl, h1, h2⟩ := r
    rw [Rp] at h1
    simp only [boolsD] at h
    split at h
    · rename_i ms hm
      cases h
      have e1 := boolsD_rp hm h2
      subst h1
      rw [e1]; rfl
    · cases h
  | .none :: _, _, _, h, _ => by cases h
  | .str _ :: _, _, _, h, _ => by cases h
  | .int _ :: _, _, _, h, _ => by cases h
  | .list _ :: _, _, _, h, _ => by cases h
  | .tuple _ :: _, _, _, h, _ => by cases h
  | .dict _ :: _, _, _, h, _ => by cases h
theorem boolsD_map : ∀ ns : List Bool, boolsD (ns.map PyData.bool) = some ns
  | [] => rfl
  | n :: ns => by
    show (match boolsD (ns.map PyData.bool) with | some ns => some (n :: ns) | none => none) = _
    rw [boolsD_map ns]
def anyA : List PyData → Option PyData
  | [.list ds] => (boolsD ds).map fun bs => .bool (bs.any id)
  | _ => none
def allA : List PyData → Option PyData
  | [.list ds] => (boolsD ds).map fun bs => .bool (bs.all id)
  | _ => none
def sumA : List PyData → Option PyData
  | [.list ds] => (intsD ds).map fun ns => .int ns.sum
  | _ => none
theorem cr_any' {K : PySem.W.Frag} : CROk K true (rAny K) anyA := by
  intro S S' H vs ds d Q _ _ r h q
  unfold anyA at h
  split at h
  · obtain ⟨v, rfl, r1⟩ := r.one
    rw [Rp] at r1
    obtain ⟨a, xs, rfl, hs, ra⟩ := r1
    rename_i es
    cases hb : boolsD es with
    | none => rw [hb] at h; cases h
    | some bs =>
      rw [hb] at h
      cases h
      have e1 := boolsD_rp hb ra
      subst e1
      exact ⟨a, bs, rfl, hs.sq, q _ H (Same.refl H) rpb⟩
  · cases h
theorem cr_all' {K : PySem.W.Frag} : CROk K true (rAll K) allA := by
  intro S S' H vs ds d Q _ _ r h q
  unfold allA at h
  split at h
  · obtain ⟨v, rfl, r1⟩ := r.one
    rw [Rp] at r1
    obtain ⟨a, xs, rfl, hs, ra⟩ := r1
    rename_i es
    cases hb : boolsD es with
    | none => rw [hb] at h; cases h
    | some bs =>
      rw [hb] at h
      cases h
      have e1 := boolsD_rp hb ra
      subst e1
      exact ⟨a, bs, rfl, hs.sq, q _ H (Same.refl H) rpb⟩
  · cases h
theorem cr_sum' {K : PySem.W.Frag} : CROk K true (rSum K) sumA := by
  intro S S' H vs ds d Q _ _ r h q
  unfold sumA at h
  split at h
  · obtain ⟨v, rfl, r1⟩ := r.one
    rw [Rp] at r1
    obtain ⟨a, xs, rfl, hs, ra⟩ := r1
    rename_i es
    cases hb : intsD es with
    | none => rw [hb] at h; cases h
    | some ns =>
      rw [hb] at h
      cases h
      obtain ⟨e1, _⟩ := intsD_rp hb ra
      subst e1
      exact ⟨a, ns, rfl, hs.sq, q _ H (Same.refl H) rp1⟩
  · cases h
/-- the law's own end -/
theorem ints_rp {K : PySem.W.Frag} {S : Addr → Prop} {H : Hp} : ∀ ns : List Int, RpA K S H (ns.map PyData.int) (ns.map V.int)
  | [] => RpA.nil
  | n :: ns => RpA.cons rp1 (ints_rp ns)
theorem law_end {K : PySem.W.Frag} {H : Hp} {a : Addr} {ns : List Int} {g : List PyData → Option PyData} {E : XK} (h : SqL K H a (ns.map V.int)) (e : g [.list (ns.map .int)] = some (.bool true)) : spF K g [.ref a] H (fun v _ => v = .bl true) E := by
  refine ⟨fun _ => True, _, _, RpA.cons ?_ RpA.nil, e, fun v H' _ r => by rw [Rp] at r; exact r⟩
  rw [Rp]
  exact ⟨a, _, rfl, LsAt.of trivial h, ints_rp ns⟩
end Mir

namespace Mir
open PySem PySem.Spec PyProof.Rows L2
/-! ### enumerate over a tuple -/
theorem called_any {c : Value} {M : Model} {A : Around} {E : Value → Shared → Prop} {s : Shared} {Q : Bool → Shared → Prop} (h : ∀ b, Q b s) : wpAny M A (Builtin.SmallTypes.calledThroughType c) Q E s :=
  wpAny_bind (wpAny_stack_any fun st => wpAny_pure (h _))
theorem meets_enumT {v : Value} {o : Obj} {HH : Heap → Prop} (B : Begins v o HH) :
    Meets (Builtin.«enumerate.__new__» { pos := [Value.type "enumerate", v] }) fun x R s =>
      HH s.heap ∧ R (Except.ok (Flow.ret (Value.ref (s.heap.push o).objs.size)))
        { heap := (s.heap.push o).push { cls := Value.type "enumerate", data := Data.fields #[Value.none, Value.bool false, Value.ref s.heap.objs.size, rawInt 0, Value.none, Value.none] },
          gens := s.gens, drawn := s.drawn, toks := s.toks, os := s.os } := by
  refine Meets.of_wp fun prog w A R s h => ?_
  obtain ⟨hp, g, d, tk, os⟩ := s
  obtain ⟨h1, h⟩ := h
  have hsub := sub_enumerate
  refine wpAny_bind (wpAny_bind (wpAny_pure (wpAny_ite_false (by decide) (wpAny_bind (wpAny_of_eq hsub (wpAny_ite_false (by decide) (wpAny_pure (wpAny_ite_true (by decide) (wpAny_bind (called_any fun sh => ?_))))))))))
  have key : wpAny (model prog w) A.in1 (do
      let x ← pyIter v
      let y ← Builtin.SmallTypes.newRecord (Value.type "enumerate") (Builtin.SmallTypes.ownedTupleFields ++ [x, rawInt 0, Value.none, Value.none])
      ret y) (fun fin s' => ∃ v, fin = Fin.done (Flow.ret v) ∧ R (Except.ok (Flow.ret v)) s') (fun e s' => R (Except.error e) s') { heap := hp, gens := g, drawn := d, toks := tk, os := os } := by
    refine wpAny_bind (B.iter prog w _ _ _ _ h1 (wpAny_bind ?_))
    exact wpAny_bind (wpAny_alloc (wpAny_pure (wpAny_pure ⟨_, rfl, h⟩)))
  cases sh
  · exact wpAny_ite_false (by decide) (wpAny_bind (wpAny_of_eq (show _ = pure (v, none) from rfl) key))
  · exact wpAny_ite_true (by decide) (wpAny_bind (wpAny_of_eq (show _ = pure (v, none) from rfl) key))
theorem call_enumT {prog : Program} {w : World} {A : Around} {E : Value → Shared → Prop} {s : Shared} {v : Value} {o : Obj} {HH : Heap → Prop} {Q : Value → Shared → Prop} (B : Begins v o HH) (h1 : HH s.heap)
    (h : ∀ h' : Heap, IsEnum h' (s.heap.objs.size + 1) s.heap.objs.size 0 Value.none → h'.get? s.heap.objs.size = some o → h'.objs.size = s.heap.objs.size + 2 → (∀ (b : Addr) (o : Obj), s.heap.get? b = some o → h'.get? b = some o) →
      Q (Value.ref (s.heap.objs.size + 1)) { heap := h', gens := s.gens, drawn := s.drawn, toks := s.toks, os := s.os }) :
    wpAny (model prog w) A (call (Value.type "enumerate") [v]) Q E s := by
  refine callType_new F.called_enumerate (by decide) (F.typeCall_enumerate_1 v) (F.newCall_enumerate_1 v) (fun obj => F.args_object_init_2 obj v) F.entry_enumerate_new (meets_enumT B) ⟨h1, ?_⟩
  have hz := Heap.size_push s.heap o
  have he := Heap.get?_push_size (s.heap.push o) (o := { cls := Value.type "enumerate", data := Data.fields #[Value.none, Value.bool false, Value.ref s.heap.objs.size, rawInt 0, Value.none, Value.none] }) rfl
  rw [hz] at he
  show _ ∧ _
  rw [hz]
  refine ⟨⟨_, he, rfl⟩, h _ he (Heap.get?_push_of_some _ (Heap.get?_push_size s.heap B.free)) ?_ fun b o' x => Heap.get?_push_of_some _ (Heap.get?_push_of_some _ x)⟩
  rw [Heap.size_push, hz]

def IteT (K : PySem.W.Frag) (a : Addr) (n : Nat) : It where
  go := fun i H => ∃ xs x, SqT K H a xs ∧ xs.length = n ∧ xs[i]? = some x
  yld := fun i H v H' => ∃ T x, v = .ref T ∧ H T = none ∧ H' = upd H T (.tup [.int (i : Nat), x]) ∧ ∀ xs : List V, SqT K H a xs → xs[i]? = some x
  stop := fun i H => ∃ xs, SqT K H a xs ∧ xs.length = n ∧ n ≤ i
theorem turn_enumT {P : Program} {w : World} {K : PySem.W.Frag} {elts : List Expr} {kk : Nat} {tpos : Pos} (a e it : Addr) (n : Nat) :
    Turn P w K (.Tuple elts kk tpos) (IteT K a n) [e, it] e fun i h => (∃ old, IsEnum h e it (i : Nat) old) ∧ h.IsTupleIter it a i ∧ e ≠ it ∧ i ≤ n where
  mem := by simp
  obj := by
    rintro i h ⟨⟨old, he⟩, ⟨o, ho, hc, hd⟩, hne, hn⟩ b hb
    have e' : b = e ∨ b = it := by simpa using hb
    rcases e' with z | z
    · rw [z]; exact ⟨_, he, fun v q => nomatch q⟩
    · rw [z]; exact ⟨o, ho, fun v q => by rw [hd] at q; cases q⟩
  keep := by
    rintro i h h' ⟨⟨old, he⟩, hi, hne, hn⟩ k
    exact ⟨⟨old, k e (by simp) _ he⟩, Heap.IsTupleIter.at hi fun o q => k it (by simp) o q, hne, hn⟩
  item := by
    intro X hP hw hK hc i pins s σ H E I hf st hg
    subst hP hw hK
    obtain ⟨⟨old, he⟩, hit, hne, hn⟩ := st
    obtain ⟨xs, x, hq, hln, hx⟩ := hg
    obtain ⟨its, rv, p, hz⟩ := I.tuple hq
    obtain ⟨u, hu, ru⟩ := rv.get hx
    have hel := Heap.lt_size he
    have hil : it < s.heap.objs.size := by obtain ⟨w, q, _⟩ := hit; exact Heap.lt_size q
    have pT : s.heap.IsTuple a its.toArray := p
    have hai : a ≠ it := by
      intro z
      subst z
      obtain ⟨o1, q1, q2, _⟩ := hit
      obtain ⟨o2, r1, r2, _⟩ := pT
      rw [q1] at r1
      cases r1
      exact absurd (Value.type.inj (q2.symm.trans r2)) (by decide)
    have hea : e ≠ a := by
      intro z
      subst z
      obtain ⟨o2, r1, r2, _⟩ := pT
      have he' : s.heap.get? e = some _ := he
      rw [he'] at r1
      cases r1
      exact absurd (Value.type.inj r2) (by decide)
    have hlt : i < xs.length := (List.getElem?_eq_some_iff.mp hx).1
    have hlv : its.length = xs.length := by have := rv.length; omega
    refine wpAny_pyNext_enum_itemD (fp := [it, a]) (n := its.toArray.size) (Draws.tuple (A := X.A.in1) (show X.A.in1.handled = none from I.ok.hd hc) it a hai its.toArray) he ⟨hit, pT⟩ (by simp; omega) hne (by simp; exact ⟨hne, hea⟩) fun u' h' tk hP' ho hS hT hsz hk => ?_
    obtain ⟨hit', pT'⟩ := hS
    have hu' : u' = u := by
      have h1 : its[i]? = some u' := by simpa using hP'
      rw [hu] at h1
      cases h1
      rfl
    subst hu'
    refine ⟨_, rfl, wpAny_letOwnedTupleGo_enum ho fun h'' he' sb => ?_⟩
    have hT2 := (sb.2 s.heap.objs.size (Nat.ne_of_gt hel)).trans hT
    have new : ObjOk X.prog X.w (upd H s.heap.objs.size (.tup [.int (i : Nat), x])) h'' s.heap.objs.size (.tup [.int (i : Nat), x]) :=
      ⟨by show (2 : Nat) ≤ sizeLine; decide, [Value.int (i : Nat) tk, u'], .cons ⟨tk, rfl⟩ (.cons ru .nil), ⟨_, hT2, rfl, 0, rfl⟩⟩
    have I1 := I.turnedNew (t' := tk + 1) (ch := [e, it]) (fun b ob hb q => (sb.2 b fun z => hb (by simp [z])).trans (hk b ob (fun z => hb (by simp [z])) (fun z => hb (by simp [z])) q)) hf (Nat.le_refl s.heap.objs.size) new
    refine ⟨.ref s.heap.objs.size, _, I1, rfl, ⟨_, x, rfl, I.hok.fresh (Nat.le_refl _), rfl, fun ys hy => by rw [I.tuple_inj hy hq]; exact hx⟩, ⟨⟨u', ?_⟩, Heap.IsTupleIter.at hit' fun o q => (sb.2 it (Ne.symm hne)).trans q, hne, by omega⟩, fun b hb => ?_⟩
    · show IsEnum h'' e it ((i + 1 : Nat) : Int) u'
      rw [show ((i + 1 : Nat) : Int) = (i : Nat) + 1 by omega]
      exact he'
    · have hb' : b < s.heap.objs.size := by
        have e' : b = e ∨ b = it := by simpa using hb
        rcases e' with z | z <;> (rw [z]; assumption)
      rw [upd_ne (Nat.ne_of_lt hb')]
      exact (hf b hb).1
  done := by
    intro X hP hw hK hc i pins s σ H E I hf st hg
    subst hP hw hK
    obtain ⟨⟨old, he⟩, hit, hne, hn⟩ := st
    obtain ⟨xs, hq, hln, hx⟩ := hg
    obtain ⟨its, rv, p, hz⟩ := I.tuple hq
    have pT : s.heap.IsTuple a its.toArray := p
    have hai : a ≠ it := by
      intro z
      subst z
      obtain ⟨o1, q1, q2, _⟩ := hit
      obtain ⟨o2, r1, r2, _⟩ := pT
      rw [q1] at r1
      cases r1
      exact absurd (Value.type.inj (q2.symm.trans r2)) (by decide)
    have hlv : its.length = xs.length := by have := rv.length; omega
    obtain ⟨f0, f1, f2, f3, f4, f5⟩ := hf it (by simp)
    have hin : its.toArray.size = i := by simp; omega
    refine wpAny_pyNext_enum_endD (fp := [it, a]) (n := its.toArray.size) (Draws.tuple (A := X.A.in1) (show X.A.in1.handled = none from I.ok.hd hc) it a hai its.toArray) he ⟨by rw [hin]; exact hit, pT⟩ fun h' eb => ⟨rfl, I.turned (fun b o hb q => eb b o hb q) f0 f1 f3 f4 f5⟩
  self := by
    rintro A i s Q E ⟨⟨old, he⟩, _⟩ h
    exact wpAny_pyIter_enum he h
def iEnumA (K : PySem.W.Frag) (ta : TA) : TI := fun σ H R => ta σ H fun vs H1 => ∃ a xs, vs = [.ref a] ∧ ((SqL K H1 a xs ∧ R (Ite K a) H1) ∨ (SqT K H1 a xs ∧ R (IteT K a xs.length) H1))
theorem pi_enumA {X : Cx} {e : Expr} {ta : TA} {p pos tpos : Pos} {elts : List Expr} {kk : Nat} (hg : Gl X "enumerate") (hm : X.mg "enumerate" = none) (ha : PA X [e] ta) (hs : starEach [e] X.env = [(false, eval e X.env)] := by rfl) :
    PI X (.Tuple elts kk tpos) (.Call (.Name "enumerate" p) [e] [] pos) (iEnumA X.K ta) := by
  constructor
  intro pins s σ H R I h
  refine Call_ (ld_blt I hg hm boot_enumerate (PyProof.Rows.callWith_type1 (thn (ha.run pos pins s σ H _ I h) ?_) (by rw [hs]; rfl)))
  rintro us s1 ⟨vs, H1, I1, r1, a, xs, rfl, q⟩
  cases r1 with
  | cons r rr =>
    cases rr
    cases r
    rcases q with ⟨hq, q⟩ | ⟨hq, q⟩
    · obtain ⟨its, rv, pl, hz⟩ := I1.list hq
      refine call_enumerate_list pl.isList fun h' he hi hsz hk => ?_
      refine wpAny_pyIter_enum he ⟨s1.heap.objs.size + 1, [s1.heap.objs.size + 1, s1.heap.objs.size], _, _, H1, rfl, I1.kept (t' := s1.toks) hk, turn_enum a _ _, ⟨⟨_, he⟩, hi, Nat.succ_ne_self _⟩, ?_, q⟩
      intro b hb
      have e' : b = s1.heap.objs.size + 1 ∨ b = s1.heap.objs.size := by simpa using hb
      have hb : s1.heap.objs.size ≤ b := by
        rcases e' with z | z
        · rw [z]; exact Nat.le_succ _
        · rw [z]; exact Nat.le_refl _
      exact I1.fpOk hb (I1.hok.fresh hb)
    · obtain ⟨its, rv, pl, hz⟩ := I1.tuple hq
      refine call_enumT (begins_tuple a its.toArray) (show s1.heap.IsTuple a its.toArray from pl) fun h' he hi hsz hk => ?_
      refine wpAny_pyIter_enum he ⟨s1.heap.objs.size + 1, [s1.heap.objs.size + 1, s1.heap.objs.size], _, _, H1, rfl, I1.kept (t' := s1.toks) hk, turn_enumT a _ _ xs.length, ⟨⟨_, he⟩, ⟨_, hi, rfl, rfl⟩, Nat.succ_ne_self _, Nat.zero_le _⟩, ?_, q⟩
      intro b hb
      have e' : b = s1.heap.objs.size + 1 ∨ b = s1.heap.objs.size := by simpa using hb
      have hb : s1.heap.objs.size ≤ b := by
        rcases e' with z | z
        · rw [z]; exact Nat.le_succ _
        · rw [z]; exact Nat.le_refl _
      exact I1.fpOk hb (I1.hok.fresh hb)

/-! ### enumerate, zip as readings -/
section
variable {K : PySem.W.Frag} {X : Cx} {tg iter : Expr}
def enumD : Nat → List PyData → List PyData
  | _, [] => []
  | k, d :: ds => .tuple [.int (k : Nat), d] :: enumD (k + 1) ds
theorem enumD_len : ∀ (ds : List PyData) (k : Nat), (enumD k ds).length = ds.length
  | [], _ => rfl
  | _ :: ds, k => by rw [enumD, List.length_cons, List.length_cons, enumD_len ds]
theorem enumD_get : ∀ (ds : List PyData) (k i : Nat) (d : PyData), (enumD k ds)[i]? = some d → ∃ x, ds[i]? = some x ∧ d = .tuple [.int ((k + i : Nat) : Int), x]
  | [], _, i, d, h => by simp [enumD] at h
  | x :: ds, k, 0, d, h => by
    simp [enumD] at h
    exact ⟨x, rfl, by rw [← h]; rfl⟩
  | x :: ds, k, i + 1, d, h => by
    rw [enumD, List.getElem?_cons_succ] at h
    obtain ⟨y, h1, h2⟩ := enumD_get ds (k + 1) i d h
    exact ⟨y, by simpa using h1, by rw [h2, show k + 1 + i = k + (i + 1) by omega]⟩
theorem pair_rp {S : Addr → Prop} {H : Hp} {T : Addr} {d e : PyData} {u v : V} (hT : H T = none) (h1 : Rp K S H d u) (h2 : Rp K S H e v) : Rp K S (upd H T (.tup [u, v])) (.tuple [d, e]) (.ref T) := by
  rw [Rp]
  exact ⟨T, [u, v], rfl, upd_same, RpA.cons (h1.grow (same_new hT)) (RpA.cons (h2.grow (same_new hT)) RpA.nil)⟩
theorem wk_enumL {a : Addr} {xs : List V} {ds : List PyData} {S : Addr → Prop} : Wk K (Ite K a) (fun H => SqL K H a xs ∧ RpA K S H ds xs) S (enumD 0 ds) where
  go := fun i H g l => by
    rw [enumD_len] at l
    exact ⟨xs, xs[i]'(by rw [g.2.length]; exact l), g.1, by rw [List.getElem?_eq_getElem]⟩
  yld := fun i H d x H' g e y => by
    obtain ⟨T, x', rfl, hT, rfl, hx⟩ := y
    obtain ⟨z, h1, rfl⟩ := enumD_get ds 0 i d e
    rw [Nat.zero_add]
    exact ⟨same_new hT, pair_rp hT (by rw [Rp]) (g.2.at h1 (hx xs g.1))⟩
  stop := fun i H g l => ⟨xs, g.1, by rw [g.2.length]; rw [enumD_len] at l; exact l⟩
theorem wk_enumT {a : Addr} {xs : List V} {ds : List PyData} {S : Addr → Prop} : Wk K (IteT K a xs.length) (fun H => H a = some (.tup xs) ∧ RpA K S H ds xs) S (enumD 0 ds) where
  go := fun i H g l => by
    rw [enumD_len] at l
    exact ⟨xs, xs[i]'(by rw [g.2.length]; exact l), live_t g.1, rfl, by rw [List.getElem?_eq_getElem]⟩
  yld := fun i H d x H' g e y => by
    obtain ⟨T, x', rfl, hT, rfl, hx⟩ := y
    obtain ⟨z, h1, rfl⟩ := enumD_get ds 0 i d e
    rw [Nat.zero_add]
    exact ⟨same_new hT, pair_rp hT (by rw [Rp]) (g.2.at h1 (hx xs (live_t g.1)))⟩
  stop := fun i H g l => ⟨xs, live_t g.1, rfl, by rw [g.2.length]; rw [enumD_len] at l; exact l⟩
def iEnm (fa : En → Option (List PyData)) : En → Option (List PyData) := fun env => match fa env with
  | some [.list ds] => some (enumD 0 ds)
  | some [.tuple ds] => some (enumD 0 ds)
  | _ => none
theorem ci_enum {fa : En → Option (List PyData)} (h : PI X tg iter (iEnumA X.K (tA X.K true fa))) : PI X tg iter (tI X.K true (iEnm fa)) := pi_w h fun σ H R ⟨S0, H0, A, env, ds, E, hf, q⟩ => by
  unfold iEnm at hf
  split at hf
  · rename_i es hd
    cases hf
    refine ⟨S0, H0, A, env, _, E, hd, fun vs H1 s r => ?_⟩
    obtain ⟨v, rfl, r1⟩ := r.one
    rw [Rp] at r1
    obtain ⟨a, xs, rfl, hs, ra⟩ := r1
    have ra' : RpA X.K (Cl S0 H0 A) H1 es xs := ra.wide fun _ z => cl_sc z
    exact ⟨a, xs, rfl, .inl ⟨hs.sq, q _ H1 _ s (fun H2 s2 => ⟨s2.seq hs.sq, ra'.sm s2⟩) (fun _ H2 f2 => ⟨hs.imp (fun z => fr_rd f2 (cl_sc z.1).2 z.2) id, ra'.fr (E.grow s) f2 fun _ z => z.2⟩) wk_enumL⟩⟩
  · rename_i es hd
    cases hf
    refine ⟨S0, H0, A, env, _, E, hd, fun vs H1 s r => ?_⟩
    obtain ⟨v, rfl, r1⟩ := r.one
    rw [Rp] at r1
    obtain ⟨a, xs, rfl, hs, ra⟩ := r1
    have ra' : RpA X.K (Cl S0 H0 A) H1 es xs := ra.wide fun _ z => cl_sc z
    exact ⟨a, xs, rfl, .inr ⟨live_t hs, q _ H1 _ s (fun H2 s2 => ⟨same_t s2 hs, ra'.sm s2⟩) (fun _ H2 f2 => ⟨fr_t (E.grow s) f2 hs, ra'.fr (E.grow s) f2 fun _ z => z.2⟩) wk_enumT⟩⟩
  · cases hf
def zipD : List PyData → List PyData → List PyData
  | d :: ds, e :: es => .tuple [d, e] :: zipD ds es
  | _, _ => []
theorem zipD_len : ∀ (ds es : List PyData), (zipD ds es).length = min ds.length es.length
  | [], [] => rfl
  | [], _ :: _ => by simp [zipD]
  | _ :: _, [] => by simp [zipD]
  | d :: ds, e :: es => by
    rw [zipD, List.length_cons, List.length_cons, List.length_cons, zipD_len ds es]
    omega
theorem zipD_get : ∀ (ds es : List PyData) (i : Nat) (d : PyData), (zipD ds es)[i]? = some d → ∃ x y, ds[i]? = some x ∧ es[i]? = some y ∧ d = .tuple [x, y]
  | [], [], i, d, h => by simp [zipD] at h
  | [], _ :: _, i, d, h => by simp [zipD] at h
  | _ :: _, [], i, d, h => by simp [zipD] at h
  | x :: ds, y :: es, 0, d, h => by
    simp [zipD] at h
    exact ⟨x, y, rfl, rfl, h.symm⟩
  | x :: ds, y :: es, i + 1, d, h => by
    rw [zipD, List.getElem?_cons_succ] at h
    obtain ⟨u, v, h1, h2, h3⟩ := zipD_get ds es i d h
    exact ⟨u, v, by simpa using h1, by simpa using h2, h3⟩
theorem wk_zipL {a b : Addr} {xs ys : List V} {ds es : List PyData} {S : Addr → Prop} : Wk K (Itz K a b) (fun H => (SqL K H a xs ∧ RpA K S H ds xs) ∧ SqL K H b ys ∧ RpA K S H es ys) S (zipD ds es) where
  go := fun i H g l => by
    rw [zipD_len] at l
    exact ⟨xs, ys, xs[i]'(by rw [g.1.2.length]; omega), ys[i]'(by rw [g.2.2.length]; omega), g.1.1, g.2.1, by rw [List.getElem?_eq_getElem], by rw [List.getElem?_eq_getElem]⟩
  yld := fun i H d x H' g e y => by
    obtain ⟨T, x', y', rfl, hT, rfl, hx, hy⟩ := y
    obtain ⟨u, v, h1, h2, rfl⟩ := zipD_get ds es i d e
    exact ⟨same_new hT, pair_rp hT (g.1.2.at h1 (hx xs g.1.1)) (g.2.2.at h2 (hy ys g.2.1))⟩
  stop := fun i H g l => ⟨xs, ys, g.1.1, g.2.1, by rw [g.1.2.length, g.2.2.length]; rw [zipD_len] at l; omega⟩
theorem wk_zipT {a b : Addr} {xs ys : List V} {ds es : List PyData} {S : Addr → Prop} : Wk K (RZ.ItzT K a b) (fun H => (H a = some (.tup xs) ∧ RpA K S H ds xs) ∧ H b = some (.tup ys) ∧ RpA K S H es ys) S (zipD ds es) where
  go := fun i H g l => by
    rw [zipD_len] at l
    exact ⟨xs, ys, xs[i]'(by rw [g.1.2.length]; omega), ys[i]'(by rw [g.2.2.length]; omega), live_t g.1.1, live_t g.2.1, by rw [List.getElem?_eq_getElem], by rw [List.getElem?_eq_getElem]⟩
  yld := fun i H d x H' g e y => by
    obtain ⟨T, x', y', rfl, hT, rfl, hx, hy⟩ := y
    obtain ⟨u, v, h1, h2, rfl⟩ := zipD_get ds es i d e
    exact ⟨same_new hT, pair_rp hT (g.1.2.at h1 (hx xs (live_t g.1.1))) (g.2.2.at h2 (hy ys (live_t g.2.1)))⟩
  stop := fun i H g l => ⟨xs, ys, live_t g.1.1, live_t g.2.1, by rw [g.1.2.length, g.2.2.length]; rw [zipD_len] at l; omega⟩
def iZp (fa : En → Option (List PyData)) : En → Option (List PyData) := fun env => match fa env with
  | some [.list ds, .list es] => some (zipD ds es)
  | some [.tuple ds, .tuple es] => some (zipD ds es)
  | _ => none
theorem ci_zip {fa : En → Option (List PyData)} (h : PI X tg iter (RZ.iZipA X.K (tA X.K true fa))) : PI X tg iter (tI X.K true (iZp fa)) := pi_w h fun σ H R ⟨S0, H0, A, env, ds, E, hf, q⟩ => by
  unfold iZp at hf
  split at hf
  · rename_i es fs hd
    cases hf
    refine ⟨S0, H0, A, env, _, E, hd, fun vs H1 s r => ?_⟩
    obtain ⟨v, u, rfl, r1, r2⟩ := r.two
    rw [Rp] at r1 r2
    obtain ⟨a, xs, rfl, hs, ra⟩ := r1
    obtain ⟨b, ys, rfl, ht, rb⟩ := r2
    have ra' : RpA X.K (Cl S0 H0 A) H1 es xs := ra.wide fun _ z => cl_sc z
    have rb' : RpA X.K (Cl S0 H0 A) H1 fs ys := rb.wide fun _ z => cl_sc z
    exact ⟨a, b, xs, ys, rfl, .inl ⟨hs.sq, ht.sq, q _ H1 _ s (fun H2 s2 => ⟨⟨s2.seq hs.sq, ra'.sm s2⟩, s2.seq ht.sq, rb'.sm s2⟩)
      (fun _ H2 f2 => ⟨⟨hs.imp (fun z => fr_rd f2 (cl_sc z.1).2 z.2) id, ra'.fr (E.grow s) f2 fun _ z => z.2⟩, ht.imp (fun z => fr_rd f2 (cl_sc z.1).2 z.2) id, rb'.fr (E.grow s) f2 fun _ z => z.2⟩) wk_zipL⟩⟩
  · rename_i es fs hd
    cases hf
    refine ⟨S0, H0, A, env, _, E, hd, fun vs H1 s r => ?_⟩
    obtain ⟨v, u, rfl, r1, r2⟩ := r.two
    rw [Rp] at r1 r2
    obtain ⟨a, xs, rfl, hs, ra⟩ := r1
    obtain ⟨b, ys, rfl, ht, rb⟩ := r2
    have ra' : RpA X.K (Cl S0 H0 A) H1 es xs := ra.wide fun _ z => cl_sc z
    have rb' : RpA X.K (Cl S0 H0 A) H1 fs ys := rb.wide fun _ z => cl_sc z
    exact ⟨a, b, xs, ys, rfl, .inr ⟨live_t hs, live_t ht, q _ H1 _ s (fun H2 s2 => ⟨⟨same_t s2 hs, ra'.sm s2⟩, same_t s2 ht, rb'.sm s2⟩)
      (fun _ H2 f2 => ⟨⟨fr_t (E.grow s) f2 hs, ra'.fr (E.grow s) f2 fun _ z => z.2⟩, fr_t (E.grow s) f2 ht, rb'.fr (E.grow s) f2 fun _ z => z.2⟩) wk_zipT⟩⟩
  · cases hf
end

/-! ### tuple * int, [x] * int, constants of the module -/
theorem mul_form (l : Addr) (u : Tok) : ∃ (X : Int → Sem PySem.Fin) (Z : Int → Array Value → Sem PySem.Fin), Builtin.«tuple.__mul__» { pos := [Value.ref l, Value.int 1 u] } =
    (asIndex (Value.int 1 u) >>= fun n => if (decide (n < -2 ^ 63) || decide (n ≥ 2 ^ 63)) = true then X n else
      (Builtin.Tuple.tupleItemsOf (Value.ref l) >>= fun xs => if (xs.isEmpty || n == 1) = true then (Builtin.Tuple.tupleIsExact (Value.ref l) >>= fun b => if b = true then (rule "tuple.repeat.same-object" >>= fun _ => ret (Value.ref l)) else Z n xs) else Z n xs)) := ⟨_, _, rfl⟩
theorem tuple_mul1 (l : Addr) (items : Array Value) (n : Nat) (dd : Option Addr) (sl : Array (Option Value)) (u : Tok) :
    Meets (Builtin.«tuple.__mul__» { pos := [Value.ref l, Value.int 1 u] }) fun x_1 R s =>
      s.heap.get? l = some { cls := Value.type "tuple", dict := dd, data := Data.seq items n, slots := sl } ∧ R (Except.ok (Flow.ret (Value.ref l))) s := by
  refine Meets.of_wp fun prog w A R s h => ?_
  obtain ⟨hp, g, d, tk, os⟩ := s
  obtain ⟨hl, h⟩ := h
  obtain ⟨X, Z, e⟩ := mul_form l u
  rw [e]
  refine wpAny_bind (wpAny_bind (wpAny_pure (wpAny_pure ?_)))
  refine wpAny_ite_false rfl ?_
  refine wpAny_bind (wpAny_bind (wpAny_bind (wpAny_load' hl (wpAny_pure (wpAny_pure ?_)))))
  refine wpAny_ite_true (by simp) ?_
  exact wpAny_bind (wpAny_bind (wpAny_bind (wpAny_loadPart' hl (wpAny_pure (wpAny_pure (wpAny_ite_true rfl (wpAny_bind (wpAny_rule (wpAny_pure ⟨_, rfl, h⟩)))))))))
def rRep1 (K : PySem.W.Frag) : R2 := fun x y H Q => ∃ l xs, x = .ref l ∧ y = .int 1 ∧ SqT K H l xs ∧ Q (.ref l) H
theorem op_rep1 {X : Cx} : OpR X (binaryOp .Mult) (rRep1 X.K) := by
  intro pins s σ H x y v u Q I rx ry h
  obtain ⟨l, xs, rfl, rfl, hT, q⟩ := h
  cases rx
  obtain ⟨t, rfl⟩ := ry
  obtain ⟨its, r, ⟨⟨c, dd, dt, sl⟩, ho, hc, n, hd⟩, hs⟩ := I.tuple hT
  dsimp only at hc hd
  subst hc
  subst hd
  exact wpAny_binaryOp_repeat_ref (by decide) ⟨_, ho, rfl⟩ (fun s' => typeIs_int s' 1 t) noFill_tuple_mul F.fills_int_mul F.slot_int_rmul repeat_tuple F.slot_int_index.lookup
    (call_meets F.slot_int_rmul (typeIs_int s 1 t) F.entry_int_rmul (F.args_int_rmul_2 (Value.int 1 t) (Value.ref l)) (int_rmul_tuple 1 t l its.toArray n dd sl)
      ⟨ho, rfl, ⟨_, ho, rfl⟩, call_meets F.slot_tuple_mul ⟨_, ho, rfl⟩ F.entry_tuple_mul (F.args_tuple_mul_2 (Value.ref l) (Value.int 1 t)) (tuple_mul1 l its.toArray n dd sl t) ⟨ho, ⟨.ref l, H, I, rfl, q⟩⟩⟩)

def rTm (K : PySem.W.Frag) : R2 := fun x y H Q => rRep1 K x y H Q ∨ rRepT K x y H Q
theorem op_tm {X : Cx} : OpR X (binaryOp .Mult) (rTm X.K) := by
  intro pins s σ H x y v u Q I rx ry h
  rcases h with h | h
  · exact op_rep1 pins s σ H x y v u Q I rx ry h
  · exact op_repT pins s σ H x y v u Q I rx ry h
def tmulD : PyData → PyData → Option PyData
  | .tuple ds, .int k => if k = 1 then some (.tuple ds) else if ds ≠ [] ∧ (2 ≤ k ∧ k ≤ 1000) ∧ ds.length ≤ 1000 then some (.tuple (List.replicate k.toNat ds).flatten) else none
  | _, _ => none
theorem RpA.rep {K : PySem.W.Frag} {S : Addr → Prop} {H : Hp} {ds : List PyData} {vs : List V} (h : RpA K S H ds vs) : ∀ n : Nat, RpA K S H (List.replicate n ds).flatten (List.replicate n vs).flatten
  | 0 => RpA.nil
  | n + 1 => by
    rw [List.replicate_succ, List.replicate_succ, List.flatten_cons, List.flatten_cons]
    exact h.append (RpA.rep h n)
theorem r2_tm {K : PySem.W.Frag} : R2Ok K false (rTm K) tmulD := by
  intro S S' H x y dx dy d Q hn hS rx ry h q
  have hS' : S' = S := hS.elim (fun z => nomatch z) id
  subst hS'
  cases dx with
  | tuple ds =>
   cases dy with
   | int k =>
    change (if k = 1 then some (.tuple ds) else if ds ≠ [] ∧ (2 ≤ k ∧ k ≤ 1000) ∧ ds.length ≤ 1000 then some (.tuple (List.replicate k.toNat ds).flatten) else none) = some d at h
    have rx0 := rx
    have ry1 : y = V.int k := by rw [Rp] at ry; exact ry
    have rx1 : ∃ a xs, x = .ref a ∧ H a = some (.tup xs) ∧ RpA K S' H ds xs := by rw [Rp] at rx; exact rx
    obtain ⟨a, xs, rfl, hs, ra⟩ := rx1
    subst ry1
    split at h
    · rename_i hk
      cases h
      subst hk
      exact .inl ⟨a, xs, rfl, rfl, live_t hs, q _ H (Same.refl H) rx0⟩
    · split at h
      · rename_i hc
        cases h
        refine .inr ⟨a, k, xs, rfl, rfl, live_t hs, fun e => hc.1 (List.eq_nil_of_length_eq_zero (by rw [← ra.length, e]; rfl)), hc.2.1.1, hc.2.1.2, by rw [ra.length]; exact hc.2.2, fun p hp => ?_⟩
        refine q _ _ (same_new hp) ?_
        rw [Rp]
        exact ⟨p, _, rfl, upd_same, (ra.rep _).grow (same_new hp)⟩
      · cases h
   | _ => cases h
  | _ => cases h
section
variable {X : Cx} {a b : Expr} {pos : Pos} {c : Bool} {f g : En → Option PyData}
theorem ce_tmul (ha : PE X a (tE X.K c f)) (hb : PE X b (tE X.K c g)) : PE X (.BinOp a .Mult b pos) (tE X.K c (e2 tmulD f g)) := ce_op op_tm r2_tm ha hb
def fRep (ff : En → Option (List PyData)) (g : En → Option PyData) : En → Option (List PyData) := fun env => match ff env with
  | some ds => match g env with
    | some (.int k) => if (-1000000 ≤ k ∧ k ≤ 1000000) ∧ ds.length * k.toNat ≤ 1000000 then some (List.replicate k.toNat ds).flatten else none
    | _ => none
  | none => none
theorem cf_rep {ff : En → Option (List PyData)} (ha : PE X a (tF X.K c ff)) (hb : PE X b (tE X.K true g)) : PE X (.BinOp a .Mult b pos) (tF X.K c (fRep ff g)) := pe_w (pe_op op_rep ha hb) fun σ H Q ⟨S0, H0, A, env, d, E, hf, q⟩ => by
  unfold fRep at hf
  split at hf
  · rename_i ds h1
    split at hf
    · rename_i k h2
      split at hf
      · rename_i hl
        cases hf
        refine ⟨S0, H0, A, env, _, E, h1, fun l us H1 hl1 s1 hl2 r1 => ⟨S0, H0, A, env, _, E.grow s1, h2, fun u H2 s2 r2 => ?_⟩⟩
        rw [Rp] at r2
        subst r2
        refine ⟨l, k, us, rfl, rfl, s2 _ _ hl2, by omega, by omega, by rw [r1.length]; exact sz6 hl.2, fun p hp => q p _ _ ((s1.trans s2).free hp) ((s1.trans s2).trans (same_new hp)) upd_same ?_⟩
        exact (((r1.rep _).grow s2).wide fun _ z => z.1).apart hp (same_new hp)
      · cases hf
    · cases hf
  · cases hf
end
end Mir

namespace Mir
open PySem PySem.Spec PyProof.Rows L2
/-! ### in over a tuple of plain values -/
def flatD : PyData → Bool
  | .none => true
  | .bool _ => true
  | .int _ => true
  | .str _ => true
  | _ => false
theorem flatD_rp {K : PySem.W.Frag} {S : Addr → Prop} {H : Hp} {d : PyData} {v : V} (h : flatD d = true) (r : Rp K S H d v) : flatV v = true := by
  cases d with
  | none => rw [Rp] at r; subst r; rfl
  | bool _ => rw [Rp] at r; subst r; rfl
  | int _ => rw [Rp] at r; subst r; rfl
  | str _ => rw [Rp] at r; subst r; rfl
  | list _ => cases h
  | tuple _ => cases h
  | dict _ => cases h
theorem eqD_V {K : PySem.W.Frag} {S : Addr → Prop} {H : Hp} {d e : PyData} {v u : V} (h : flatD d = true) (h' : flatD e = true) (r : Rp K S H d v) (r' : Rp K S H e u) : eqV v u = PyData.eqv d e := by
  cases d <;> cases e <;> first | (cases h; done) | (cases h'; done) | (rw [Rp] at r; rw [Rp] at r'; subst r; subst r'; simp [eqV, PyData.eqv])
theorem allflat_rp {K : PySem.W.Frag} {S : Addr → Prop} {H : Hp} : ∀ {ds : List PyData} {vs : List V}, ds.all flatD = true → RpA K S H ds vs → vs.all flatV = true
  | [], _, _, r => by rw [RpA] at r; subst r; rfl
  | d :: ds, _, h, r => by
    rw [RpA] at r
    obtain ⟨v, r', rfl, h1, h2⟩ := r
    rw [List.all_cons, Bool.and_eq_true] at h
    rw [List.all_cons, flatD_rp h.1 h1, allflat_rp h.2 h2]; rfl
theorem inV_rp {K : PySem.W.Frag} {S : Addr → Prop} {H : Hp} {x : PyData} {u : V} (hx : flatD x = true) (rx : Rp K S H x u) : ∀ {ds : List PyData} {vs : List V}, ds.all flatD = true → RpA K S H ds vs → inV u vs = ds.any fun z => PyData.eqv z x
  | [], _, _, r => by rw [RpA] at r; subst r; rfl
  | d :: ds, _, h, r => by
    rw [RpA] at r
    obtain ⟨v, r', rfl, h1, h2⟩ := r
    rw [List.all_cons, Bool.and_eq_true] at h
    have ih := inV_rp hx rx h.2 h2
    unfold inV at ih ⊢
    rw [List.any_cons, List.any_cons, ih, eqD_V h.1 hx h1 rx]
def inT (x : PyData) : PyData → Option PyData
  | .list ds => if (SeqAt.shaped x && SeqAt.shaped (.list ds)) = true then some (.bool (ds.any fun z => PyData.eqv z x)) else none
  | .tuple ds => if (flatD x && ds.all flatD) = true then some (.bool (ds.any fun z => PyData.eqv z x)) else none
  | _ => none
def notInT (x y : PyData) : Option PyData := match inT x y with
  | some (.bool b) => some (.bool (!b))
  | _ => none
theorem r2_inT {K : PySem.W.Frag} : R2Ok K true (fun x y H Q => rInD K x y H Q ∨ rIn K false x y H Q) inT := by
  intro S S' H x y dx dy d Q hn hS rx ry h q
  unfold inT at h
  split at h
  · split at h
    · rename_i hs
      rw [Bool.and_eq_true] at hs
      cases h
      exact .inl ⟨_, _, rx.dp hs.1, ry.dp hs.2, hs.1, hs.2, q _ H (Same.refl H) rpb⟩
    · cases h
  · split at h
    · rename_i hs
      rw [Bool.and_eq_true] at hs
      cases h
      rw [Rp] at ry
      obtain ⟨a, xs, rfl, ht, ra⟩ := ry
      refine .inr ⟨a, xs, rfl, .inr (live_t ht), flatD_rp hs.1 rx, allflat_rp hs.2 ra, ?_⟩
      show Q (.bl (inV x xs)) H
      rw [inV_rp hs.1 rx hs.2 ra]
      exact q _ H (Same.refl H) rpb
    · cases h
  · cases h
theorem r2_notInT {K : PySem.W.Frag} : R2Ok K true (fun x y H Q => rNotInD K x y H Q ∨ rIn K true x y H Q) notInT := by
  intro S S' H x y dx dy d Q hn hS rx ry h q
  unfold notInT inT at h
  split at h
  · rename_i b hb
    split at hb
    · split at hb
      · rename_i hs
        rw [Bool.and_eq_true] at hs
        cases hb
        cases h
        exact .inl ⟨_, _, rx.dp hs.1, ry.dp hs.2, hs.1, hs.2, q _ H (Same.refl H) rpb⟩
      · cases hb
    · split at hb
      · rename_i hs
        rw [Bool.and_eq_true] at hs
        cases hb
        cases h
        rw [Rp] at ry
        obtain ⟨a, xs, rfl, ht, ra⟩ := ry
        refine .inr ⟨a, xs, rfl, .inr (live_t ht), flatD_rp hs.1 rx, allflat_rp hs.2 ra, ?_⟩
        show Q (.bl (!inV x xs)) H
        rw [inV_rp hs.1 rx hs.2 ra]
        exact q _ H (Same.refl H) rpb
      · cases hb
    · cases hb
  · cases h
theorem op_inT {X : Cx} (hu : X.A.units + 65 < cLine) : OpR X (compareOp .In) (fun x y H Q => rInD X.K x y H Q ∨ rIn X.K false x y H Q) := OpR.or (op_inD hu) op_in_seq
theorem op_notInT {X : Cx} (hu : X.A.units + 65 < cLine) : OpR X (compareOp .NotIn) (fun x y H Q => rNotInD X.K x y H Q ∨ rIn X.K true x y H Q) := OpR.or (op_notInD hu) op_notIn_seq

/-! ### x[::k], k 1 or -1 -/
theorem places_back (n : Nat) : Builtin.Slice.slicePlaces ((n : Int) - 1) (-1) (-1) = n := by
  unfold Builtin.Slice.slicePlaces
  have h1 : ¬ ((-1 : Int) > 0) := by omega
  rw [if_neg h1, show (-(-1) : Int) = 1 from rfl]
  split <;> omega
theorem pick_back (xs : Array Value) : ((List.range xs.size).filterMap fun (m : Nat) => xs[((xs.size : Int) - 1 + (m : Int) * (-1)).toNat]?).toArray = xs.toList.reverse.toArray := by
  have e : ∀ m ∈ List.range xs.size, xs[((xs.size : Int) - 1 + (m : Int) * (-1)).toNat]? = xs.toList.reverse[m]? := fun m hm => by
    have hm' := List.mem_range.mp hm
    rw [show ((xs.size : Int) - 1 + (m : Int) * (-1)).toNat = xs.size - 1 - m by omega, List.getElem?_reverse (by rw [Array.length_toList]; exact hm'), Array.length_toList, Array.getElem?_toList]
  congr 1
  have fc : ∀ (l : List Nat), (∀ m ∈ l, xs[((xs.size : Int) - 1 + (m : Int) * (-1)).toNat]? = xs.toList.reverse[m]?) → (l.filterMap fun (m : Nat) => xs[((xs.size : Int) - 1 + (m : Int) * (-1)).toNat]?) = l.filterMap (xs.toList.reverse[·]?) := fun l => by
    induction l with
    | nil => intro _; rfl
    | cons a l ih =>
      intro h
      rw [List.filterMap_cons, List.filterMap_cons, ih fun m hm => h m (List.mem_cons_of_mem _ hm), h a List.mem_cons_self]
  rw [fc _ e]
  have q : ∀ (l : List Value) (k : Nat), k ≤ l.length → (List.range k).filterMap (l[·]?) = l.take k := fun l k => by
    induction k with
    | zero => intro _; rfl
    | succ k ih =>
      intro h
      rw [List.range_succ, List.filterMap_append, ih (by omega), List.take_succ]
      simp [List.getElem?_eq_getElem (show k < l.length by omega)]
  rw [q _ _ (by simp), List.take_of_length_le (by simp)]
section
variable {prog : Program} {w : World} {A : Around} {E : Value → Shared → Prop} {s : Shared}
theorem tup_back {t sl : Addr} {items : Array Value} {vs : Value} {Q : Value → Shared → Prop} (ht : IsTup s.heap t items) (hs : s.heap.IsSliceOf sl .none .none vs) (ps : IsPart vs (some (-1))) (hz : items.size ≤ sizeLine)
    (h : Q (.ref s.heap.objs.size) { s with heap := s.heap.push { cls := .type "tuple", data := .seq items.toList.reverse.toArray } }) : wpAny (model prog w) A (getItem (.ref t) (.ref sl)) Q E s := by
  have hk : sizeOk (.seq items.toList.reverse.toArray) := by
    show items.toList.reverse.toArray.size ≤ sizeLine
    simpa using hz
  obtain ⟨os, hos, hcs, hds⟩ := hs
  have hT : s.TypeIs (.ref sl) "slice" := ⟨os, hos, hcs⟩
  unfold getItem
  first | with_reducible refine wpAny_holding ?_ | skip
  first | refine wpAny_bind (wpAny_pure ?_) | skip
  refine wpAny_bind (wpAny_sequenceKey ht.typeIs (by decide) (wpAny_bind (wpAny_callSpecial?_slot (name := Str.ofString "__getitem__") ht.typeIs PyProof.Rows.slot_tuple_getitem (wpAny_call_entry PyProof.Rows.slot_tuple_getitem ht.typeIs entry_tuple_getitem ?_ (args_tuple_getitem _ _)))))
  show wpAny _ _ (Builtin.Tuple.tupleItemsOf (.ref t) >>= _) _ _ s
  refine wpAny_bind (tupleItemsOf_ ht (wpAny_bind (wpAny_typeOf hT ?_)))
  rw [if_pos (show (Value.type "slice" == Value.type "slice") = true from by decide)]
  refine wpAny_bind ?_
  unfold Builtin.Slice.sliceApplied Builtin.Slice.sliceFields
  refine wpAny_bind (wpAny_bind (wpAny_field hos hds (x := .none) rfl (wpAny_bind (wpAny_field hos hds (x := .none) rfl (wpAny_bind (wpAny_field hos hds (x := vs) rfl (wpAny_pure ?_)))))))
  refine wpAny_bind (HT.slicePart_ ps ?_)
  show wpAny _ _ (if ((-1 : Int) == 0) = true then _ else _) _ _ s
  rw [if_neg (show ¬ (((-1 : Int) == 0) = true) by decide)]
  refine wpAny_bind (HT.slicePart_ .none (wpAny_bind (HT.slicePart_ .none (wpAny_bind (wpAny_pure ?_)))))
  have e : Builtin.Slice.sliceAdjust none none (-1) (items.size : Int) = ((items.size : Int) - 1, -1) := rfl
  show wpAny _ _ (match Builtin.Slice.sliceAdjust none none (-1) (items.size : Int) with | (lo, hi) => pure (lo, (-1 : Int), Builtin.Slice.slicePlaces lo hi (-1))) _ _ s
  rw [e]
  show wpAny _ _ (pure ((items.size : Int) - 1, (-1 : Int), Builtin.Slice.slicePlaces ((items.size : Int) - 1) (-1) (-1))) _ _ s
  rw [places_back]
  refine wpAny_pure ?_
  have hno : ¬ (((items.size : Int) - 1 == 0 && (-1 : Int) == 1 && items.size == items.size) = true) := by
    rw [show ((-1 : Int) == 1) = false from rfl, Bool.and_false, Bool.false_and]
    exact Bool.false_ne_true
  show wpAny _ _ (if ((items.size : Int) - 1 == 0 && (-1 : Int) == 1 && items.size == items.size) = true then _ else _) _ _ s
  rw [if_neg hno, pick_back]
  first
    | exact wpAny_bind (m := Builtin.Tuple.tupleExact _) (wpAny_newObj_type (wpAny_pure ⟨_, rfl, wpAny_pure h⟩) hk)
    | exact wpAny_bind (wpAny_bind (m := Builtin.Tuple.tupleExact _) (wpAny_newObj_type (wpAny_pure (wpAny_pure ⟨_, rfl, wpAny_pure h⟩)) hk))
    | exact wpAny_bind (wpAny_bind (m := Builtin.Tuple.tupleExact _) (wpAny_newObj_type (wpAny_pure ⟨_, rfl, wpAny_pure h⟩) hk))
theorem tup_fwd {t sl : Addr} {items : Array Value} {vs : Value} {Q : Value → Shared → Prop} (ht : IsTup s.heap t items) (hs : s.heap.IsSliceOf sl .none .none vs) (ps : IsPart vs (some 1)) (h : Q (.ref t) s) : wpAny (model prog w) A (getItem (.ref t) (.ref sl)) Q E s := by
  obtain ⟨os, hos, hcs, hds⟩ := hs
  have hT : s.TypeIs (.ref sl) "slice" := ⟨os, hos, hcs⟩
  unfold getItem
  first | with_reducible refine wpAny_holding ?_ | skip
  first | refine wpAny_bind (wpAny_pure ?_) | skip
  refine wpAny_bind (wpAny_sequenceKey ht.typeIs (by decide) (wpAny_bind (wpAny_callSpecial?_slot (name := Str.ofString "__getitem__") ht.typeIs PyProof.Rows.slot_tuple_getitem (wpAny_call_entry PyProof.Rows.slot_tuple_getitem ht.typeIs entry_tuple_getitem ?_ (args_tuple_getitem _ _)))))
  show wpAny _ _ (Builtin.Tuple.tupleItemsOf (.ref t) >>= _) _ _ s
  refine wpAny_bind (tupleItemsOf_ ht (wpAny_bind (wpAny_typeOf hT ?_)))
  rw [if_pos (show (Value.type "slice" == Value.type "slice") = true from by decide)]
  refine wpAny_bind ?_
  unfold Builtin.Slice.sliceApplied Builtin.Slice.sliceFields
  refine wpAny_bind (wpAny_bind (wpAny_field hos hds (x := .none) rfl (wpAny_bind (wpAny_field hos hds (x := .none) rfl (wpAny_bind (wpAny_field hos hds (x := vs) rfl (wpAny_pure ?_)))))))
  refine wpAny_bind (HT.slicePart_ ps ?_)
  show wpAny _ _ (if ((1 : Int) == 0) = true then _ else _) _ _ s
  rw [if_neg (show ¬ (((1 : Int) == 0) = true) by decide)]
  refine wpAny_bind (HT.slicePart_ .none (wpAny_bind (HT.slicePart_ .none (wpAny_bind (wpAny_pure ?_)))))
  have e : Builtin.Slice.sliceAdjust none none 1 (items.size : Int) = (0, (items.size : Int)) := rfl
  show wpAny _ _ (match Builtin.Slice.sliceAdjust none none 1 (items.size : Int) with | (lo, hi) => pure (lo, (1 : Int), Builtin.Slice.slicePlaces lo hi 1)) _ _ s
  rw [e]
  show wpAny _ _ (pure ((0 : Int), (1 : Int), Builtin.Slice.slicePlaces ((0 : Nat) : Int) (items.size : Int) 1)) _ _ s
  rw [HT.places_gen, Nat.sub_zero]
  refine wpAny_pure ?_
  have hy : (((0 : Int) == 0 && (1 : Int) == 1 && items.size == items.size) = true) := by simp
  show wpAny _ _ (if ((0 : Int) == 0 && (1 : Int) == 1 && items.size == items.size) = true then _ else _) _ _ s
  rw [if_pos hy]
  refine wpAny_bind ?_
  show wpAny _ _ (typeOf (.ref t) >>= fun T => pure (T == .type "tuple")) _ _ s
  refine wpAny_bind (wpAny_typeOf ht.typeIs (wpAny_pure ?_))
  first | rw [if_pos (show (Value.type "tuple" == Value.type "tuple") = true from by decide)] | simp only [beq_self_eq_true, if_true]
  first
    | exact wpAny_bind (wpAny_rule (wpAny_pure ⟨_, rfl, wpAny_pure h⟩))
    | exact wpAny_bind (wpAny_rule (wpAny_bind (wpAny_pure (wpAny_pure ⟨_, rfl, wpAny_pure h⟩))))
end
def tRevS (K : PySem.W.Frag) (te : TE) (ts : TO) : TE := fun σ H Q => te σ H fun x H1 => ts σ H1 fun o H2 => ∃ a xs, x = .ref a ∧
  ((o = some (-1) ∧ ((SqL K H2 a xs ∧ ∀ p, H2 p = none → Q (.ref p) (upd H2 p (.lst xs.reverse))) ∨ (SqT K H2 a xs ∧ ∀ p, H2 p = none → Q (.ref p) (upd H2 p (.tup xs.reverse))))) ∨
   (o = some 1 ∧ SqT K H2 a xs ∧ Q (.ref a) H2))
section
variable {X : Cx} {e st : Expr} {te : TE} {ts : TO} {p3 pos : Pos} {c c1 : Bool} {f g : En → Option PyData}
theorem pe_revS (he : PE X e te) (hst : PO X (some st) ts) (hq : ∀ a b, subscripted (.Slice none none (some st) p3) false a b = operate [a, b] (getItem a b) := by intro a b; with_unfolding_all rfl) : PE X (.Subscript e (.Slice none none (some st) p3) pos) (tRevS X.K te ts) := by
  refine ⟨fun pins s σ H Q I h => Subscript_ (thn (he.run pins s σ H _ I h) fun v s1 ⟨x, H1, I1, r1, q1⟩ => ?_)⟩
  refine wpAny_Slice (thn (po_none.run pins s1 σ H1 (fun o H2 => o = none ∧ H2 = H1) I1 ⟨rfl, rfl⟩) fun vl s2 ⟨l, H2, I2, pl, el, e2⟩ => ?_)
  subst el e2
  refine thn (po_none.run pins s2 σ H2 (fun o H3 => o = none ∧ H3 = H2) I2 ⟨rfl, rfl⟩) fun vu s3 ⟨u, H3, I3, pu, eu, e3⟩ => ?_
  subst eu e3
  refine thn (hst.run pins s3 σ H3 _ I3 q1) fun vs s4 ⟨o, H4, I4, ps, a, xs, ex, q⟩ => ?_
  subst ex
  cases r1
  cases pl
  cases pu
  have I5 : Inv X pins σ H4 { s4 with heap := s4.heap.push { cls := .type "slice", data := .fields #[.none, .none, vs] } } := I4.kept (t' := s4.toks) fun b ob q => Heap.get?_push_of_some _ q
  show wpAny (model X.prog X.w) X.A (subscriptTail e (.Slice none none (some st) p3) (.ref a) (.ref s4.heap.objs.size)) (EP X pins σ Q) X.xe { s4 with heap := s4.heap.push { cls := .type "slice", data := .fields #[.none, .none, vs] } }
  rcases q with ⟨rfl, q⟩ | ⟨rfl, hx, q⟩
  · rcases q with ⟨hx, q⟩ | ⟨hx, q⟩
    · obtain ⟨its, r, ht, hz⟩ := I5.list hx
      have hlen := r.length
      refine tail_any (ops := [.ref a, .ref s4.heap.objs.size]) ht.isList.typeIs (PySem.slot_list_getitem.lookup) ?_ (hq _ _)
      refine wpAny_getItem_list_slice ht.isList (Heap.IsSliceOf.new _ _ _ vs) .none .none ps (by decide) ?_ (by rw [List.size_toArray]; omega)
      rw [PySem.W.krv_pick]
      exact ⟨.ref _, _, I5.laid (t' := s4.toks) (o := .lst xs.reverse) (fun b ob q => Heap.get?_push_of_some _ q) (Nat.le_refl _) ⟨by rw [List.length_reverse]; exact hz, _, 0, r.reverse, Heap.get?_push_size _ rfl⟩, rfl, q _ (I5.hok.fresh (Nat.le_refl _))⟩
    · obtain ⟨its, r, ht, hz⟩ := I5.tuple hx
      have hlen : its.toArray.size = xs.length := by rw [List.size_toArray]; exact r.length.symm
      refine tail_any (ops := [.ref a, .ref s4.heap.objs.size]) ht.typeIs (PyProof.Rows.slot_tuple_getitem.lookup) ?_ (hq _ _)
      refine tup_back ht (Heap.IsSliceOf.new _ _ _ vs) ps (by rw [hlen]; exact hz) ?_
      exact ⟨.ref _, _, I5.laid (t' := s4.toks) (o := .tup xs.reverse) (fun b ob q => Heap.get?_push_of_some _ q) (Nat.le_refl _) ⟨by rw [List.length_reverse]; exact hz, _, r.reverse, IsTup.new _ _⟩, rfl, q _ (I5.hok.fresh (Nat.le_refl _))⟩
  · obtain ⟨its, r, ht, hz⟩ := I5.tuple hx
    refine tail_any (ops := [.ref a, .ref s4.heap.objs.size]) ht.typeIs (PyProof.Rows.slot_tuple_getitem.lookup) ?_ (hq _ _)
    exact tup_fwd ht (Heap.IsSliceOf.new _ _ _ vs) ps ⟨.ref a, _, I5, rfl, q⟩
theorem RpA.reverse {K : PySem.W.Frag} {S : Addr → Prop} {H : Hp} : ∀ {ds : List PyData} {vs : List V}, RpA K S H ds vs → RpA K S H ds.reverse vs.reverse
  | [], _, r => by rw [RpA] at r; subst r; exact RpA.nil
  | d :: ds, _, r => by
    rw [RpA] at r
    obtain ⟨v, r', rfl, h1, h2⟩ := r
    rw [List.reverse_cons, List.reverse_cons]
    exact RpA.append (RpA.reverse h2) (RpA.cons h1 RpA.nil)
def revD (k : Int) : PyData → Option PyData
  | .tuple ds => if k = -1 then some (.tuple ds.reverse) else if k = 1 then some (.tuple ds) else none
  | .list ds => if k = -1 then some (.list ds.reverse) else none
  | _ => none
def eRev (f g : En → Option PyData) : En → Option PyData := fun env => match f env with
  | some d => match g env with
    | some (.int k) => revD k d
    | _ => none
  | none => none
theorem ce_rev (he : PE X e (tE X.K c f)) (hst : PE X st (tE X.K c1 g)) (hq : ∀ a b, subscripted (.Slice none none (some st) p3) false a b = operate [a, b] (getItem a b) := by intro a b; with_unfolding_all rfl) : PE X (.Subscript e (.Slice none none (some st) p3) pos) (tE X.K c (eRev f g)) :=
  pe_w (pe_revS he (po_some hst) hq) fun σ H Q ⟨S0, H0, A, env, d, E, hf, q⟩ => by
    unfold eRev at hf
    split at hf
    · rename_i x hx
      split at hf
      · rename_i k hk
        refine ⟨S0, H0, A, env, x, E, hx, fun v H1 s1 r1 => ?_⟩
        refine ⟨S0, H0, A, env, _, E.grow s1, hk, fun u H2 s2 r2 => ?_⟩
        rw [Rp] at r2
        subst r2
        refine ⟨_, rfl, ?_⟩
        have E2 := E.grow (s1.trans s2)
        have s12 := s1.trans s2
        cases x with
        | tuple ds =>
          have r3 := r1.grow s2
          rw [Rp] at r3
          obtain ⟨a, xs, rfl, ht, ra⟩ := r3
          unfold revD at hf
          refine ⟨a, xs, rfl, ?_⟩
          by_cases h1 : k = -1
          · simp only [h1, if_true] at hf
            cases hf
            refine .inl ⟨by rw [h1], .inr ⟨live_t ht, fun p hp => q _ _ (s12.trans (same_new hp)) ?_⟩⟩
            rw [Rp]
            exact ⟨p, _, rfl, upd_same, (RpA.reverse ra).grow (same_new hp)⟩
          · by_cases h2 : k = 1
            · simp only [h1, h2, if_true, if_false] at hf
              have hf' : some (PyData.tuple ds) = some d := by simpa using hf
              cases hf'
              refine .inr ⟨by rw [h2], live_t ht, q _ _ s12 ?_⟩
              rw [Rp]
              exact ⟨a, xs, rfl, ht, ra⟩
            · simp only [h1, h2, if_false] at hf
              cases hf
        | list ds =>
          have r3 := r1.grow s2
          rw [Rp] at r3
          obtain ⟨a, xs, rfl, ht, ra⟩ := r3
          unfold revD at hf
          refine ⟨a, xs, rfl, ?_⟩
          by_cases h1 : k = -1
          · simp only [h1, if_true] at hf
            cases hf
            refine .inl ⟨by rw [h1], .inl ⟨ht.sq, fun p hp => q _ _ (s12.trans (same_new hp)) ?_⟩⟩
            rw [Rp]
            exact ⟨p, _, rfl, .inl ⟨sc_new E2 hp, .inl upd_same⟩, (RpA.reverse ra).grow (same_new hp)⟩
          · simp only [h1, if_false] at hf
            cases hf
        | none => cases hf
        | bool _ => cases hf
        | int _ => cases hf
        | str _ => cases hf
        | dict _ => cases hf
      · cases hf
    · cases hf
end
end Mir

namespace Mir
open PySem PySem.Spec PyProof.Rows L2
section
variable {X : Cx} {e a b : Expr} {st : Stmt} {sts : List Stmt} {pos : Pos} {c c1 c2 : Bool} {f g : En → Option PyData} {fa : En → Option (List PyData)} {s : En → Out}
/-! ### one reading or the other -/
theorem pe_or {t u : TE} (h1 : PE X e t) (h2 : PE X e u) : PE X e (fun σ H Q => t σ H Q ∨ u σ H Q) := ⟨fun pins s σ H Q I q => q.elim (h1.run pins s σ H Q I) (h2.run pins s σ H Q I)⟩
theorem ps_or {t u : TS} (h1 : PS X st t) (h2 : PS X st u) : PS X st (fun D σ H => t D σ H ∨ u D σ H) := ⟨fun pins s σ H D I q => q.elim (h1.run pins s σ H D I) (h2.run pins s σ H D I)⟩
theorem pi_or {tg : Expr} {t u : TI} (h1 : PI X tg e t) (h2 : PI X tg e u) : PI X tg e (fun σ H R => t σ H R ∨ u σ H R) := ⟨fun pins s σ H R I q => q.elim (h1.run pins s σ H R I) (h2.run pins s σ H R I)⟩
theorem ps_lockP {t : TS} (h : PS X st t) : PS X st (fun D σ H => ∃ d u, H d = some u ∧ Mut (some u) ∧ ∀ od, t D σ (upd H d (.frz od u))) := ⟨fun pins s σ H D I ⟨d, u, hd, mu, q⟩ => by
  obtain ⟨od, I1⟩ := I.lock hd mu
  exact h.run pins s σ _ D I1 (q od)⟩
theorem pss_lockP {t : TS} (h : PSs X sts t) : PSs X sts (fun D σ H => t D σ H ∨ ∃ d u, H d = some u ∧ Mut (some u) ∧ ∀ od, t D σ (upd H d (.frz od u))) := ⟨fun pins s σ H D I q => by
  rcases q with q | ⟨d, u, hd, mu, q⟩
  · exact h.run pins s σ H D I q
  · obtain ⟨od, I1⟩ := I.lock hd mu
    exact h.run pins s σ _ D I1 (q od)⟩
/-- a list or a dict of the slot i is let go -/
def frzD (i : Nat) (env : En) : En := match env[i]? with
  | some (.own ds) => env.set i (.val (.list ds))
  | some (.ownT kvs) => env.set i (.val (.dict kvs))
  | some (.ownK kvs) => env.set i (.val (.dict kvs))
  | _ => env
theorem frzD_run {K : PySem.W.Frag} {s : En → Out} {i : Nat} {D : Ends} {σ : L2.St} {H : Hp} (h : tS K (fun env => s (frzD i env)) D σ H) : tS K s D σ H ∨ ∃ d u, H d = some u ∧ Mut (some u) ∧ ∀ od, tS K s D σ (upd H d (.frz od u)) := by
  obtain ⟨S0, H0, A, env, E, o⟩ := h
  have o' : OutOk K S0 H0 A H (s (frzD i env)) D := o
  unfold frzD at o'
  split at o'
  · rename_i ds hi
    left
    obtain ⟨A', E', w⟩ := E.frz i
    have e : frz i env = env.set i (.val (.list ds)) := by
      unfold frz
      rw [hi]
    rw [e] at E'
    exact ⟨S0, H0, A', _, E', OutOk.step o' Fr.refl fun a z => .inl (w a z)⟩
  · rename_i kvs hi
    right
    rcases E.sl i _ hi with z | ⟨v, h1, a, ws, rfl, ha, hh, r⟩
    · cases z
    refine ⟨a, _, hh, trivial, fun od => ?_⟩
    obtain ⟨hL, hT, hD⟩ := E.upd_mono (u1 := .frz od (.dT ws)) ha
    have q : Rp K (Cl S0 H0 A) (upd H a (.frz od (.dT ws))) (.dict kvs) (.ref a) := by
      rw [Rp]
      exact ⟨a, od, rfl, .inl ⟨ws, upd_same, RpD.mono hL hT hD _ _ _ _ r⟩⟩
    refine ⟨S0, H0, _, _, E.lockD hi rfl h1 ha hh q, OutOk.step o' (fun b u z n => ?_) fun b z => .inl z.1⟩
    rw [upd_ne (fun y => n (by rw [y]; exact ha))]; exact z
  · rename_i kvs hi
    right
    rcases E.sl i _ hi with z | ⟨v, h1, a, ws, rfl, ha, hh, r⟩
    · cases z
    refine ⟨a, _, hh, trivial, fun od => ?_⟩
    obtain ⟨hL, hT, hD⟩ := E.upd_mono (u1 := .frz od (.dK ws)) ha
    have q : Rp K (Cl S0 H0 A) (upd H a (.frz od (.dK ws))) (.dict kvs) (.ref a) := by
      rw [Rp]
      exact ⟨a, od, rfl, .inr ⟨ws, upd_same, RpD.mono hL hT hD _ _ _ _ r⟩⟩
    refine ⟨S0, H0, _, _, E.lockD hi rfl h1 ha hh q, OutOk.step o' (fun b u z n => ?_) fun b z => .inl z.1⟩
    rw [upd_ne (fun y => n (by rw [y]; exact ha))]; exact z
  · exact .inl ⟨S0, H0, A, env, E, o'⟩
theorem cs_frzD {i : Nat} (h : PS X st (tS X.K s)) : PS X st (tS X.K fun env => s (frzD i env)) := ps_w (ps_or h (ps_lockP h)) fun D σ H q => frzD_run q
theorem css_frzD {i : Nat} (h : PSs X sts (tS X.K s)) : PSs X sts (tS X.K fun env => s (frzD i env)) := pss_w (pss_lockP h) fun D σ H q => frzD_run q
/-! ### dicts: new ones -/
def sNewT (i : Nat) : En → Out := fun env => .nx (env.set i (.ownT []))
def sNewK (i : Nat) : En → Out := fun env => .nx (env.set i (.ownK []))
theorem cs_newT {i : Nat} (h : PS X st (tAsg tDNewT (gName i))) : PS X st (tS X.K (sNewT i)) := ps_w h fun D σ H ⟨S0, H0, A, env, E, o⟩ => fun p hp =>
  o _ _ _ (E.set_new (s0 := .ownT []) (same_new hp) hp upd_same rfl rfl ⟨p, [], rfl, .inr rfl, upd_same, by rw [RpD]⟩) (Fr.of_same (same_new hp)) fun a z => z.imp id fun e => by rw [e]; exact hp
theorem cs_newK {i : Nat} (h : PS X st (tAsg tDNewK (gName i))) : PS X st (tS X.K (sNewK i)) := ps_w h fun D σ H ⟨S0, H0, A, env, E, o⟩ => fun p hp =>
  o _ _ _ (E.set_new (s0 := .ownK []) (same_new hp) hp upd_same rfl rfl ⟨p, [], rfl, .inr rfl, upd_same, by rw [RpD]⟩) (Fr.of_same (same_new hp)) fun a z => z.imp id fun e => by rw [e]; exact hp
end
/-! ### keys, entries -/
def keysOf : List PyData → Option (List Key)
  | [] => some []
  | .int i :: ds => match keysOf ds with
    | some ks => some (.inl i :: ks)
    | none => none
  | .str x :: ds => match keysOf ds with
    | some ks => some (.inr x :: ks)
    | none => none
  | _ :: _ => none
def kT : PyData → Option (List Key)
  | .tuple ds => keysOf ds
  | _ => none
def kK : PyData → Option Key
  | .int i => some (.inl i)
  | .str x => some (.inr x)
  | _ => none
theorem keysOf_map : ∀ ks : List Key, keysOf (ks.map kdD) = some ks
  | [] => rfl
  | .inl i :: ks => by
    show (match keysOf (ks.map kdD) with | some ks => some (Sum.inl i :: ks) | none => none) = _
    rw [keysOf_map ks]
  | .inr x :: ks => by
    show (match keysOf (ks.map kdD) with | some ks => some (Sum.inr x :: ks) | none => none) = _
    rw [keysOf_map ks]
theorem kT_kd (k : List Key) : kT (kdT k) = some k := keysOf_map k
theorem kK_kd (k : Key) : kK (kdD k) = some k := by cases k <;> rfl
theorem keys_rp {K : PySem.W.Frag} {S : Addr → Prop} {H : Hp} : ∀ {ds : List PyData} {ks : List Key} {xs : List V}, keysOf ds = some ks → RpA K S H ds xs → xs = ks.map kV ∧ ds = ks.map kdD
  | [], ks, xs, h, r => by
    cases h
    rw [RpA] at r
    subst r
    exact ⟨rfl, rfl⟩
  | d :: ds, ks, xs, h, r => by
    rw [RpA] at r
    obtain ⟨v, r', rfl, h1, h2⟩ := r
    cases d with
    | int i =>
      simp only [keysOf] at h
      split at h
      · rename_i ks' hk
        cases h
        obtain ⟨e1, e2⟩ := keys_rp hk h2
        rw [Rp] at h1
        subst h1
        exact ⟨by rw [e1]; rfl, by rw [e2]; rfl⟩
      · cases h
    | str i =>
      simp only [keysOf] at h
      split at h
      · rename_i ks' hk
        cases h
        obtain ⟨e1, e2⟩ := keys_rp hk h2
        rw [Rp] at h1
        subst h1
        exact ⟨by rw [e1]; rfl, by rw [e2]; rfl⟩
      · cases h
    | none => cases h
    | bool _ => cases h
    | list _ => cases h
    | tuple _ => cases h
    | dict _ => cases h
section
variable {κ : Type} [DecidableEq κ]
def getD' (kk : PyData → Option κ) (kvs : List (PyData × PyData)) (k : κ) : Option PyData := (kvs.find? fun p => decide (kk p.1 = some k)).map (·.2)
def putD (kd : κ → PyData) (kk : PyData → Option κ) (kvs : List (PyData × PyData)) (k : κ) (d : PyData) : List (PyData × PyData) :=
  if (kvs.any fun p => decide (kk p.1 = some k)) = true then kvs.map (fun p => if kk p.1 = some k then (p.1, d) else p) else kvs ++ [(kd k, d)]
variable {K : PySem.W.Frag} {S : Addr → Prop} {H : Hp} {kd : κ → PyData} {kk : PyData → Option κ}
theorem RpD.get (hk : ∀ k, kk (kd k) = some k) {k : κ} : ∀ {kvs : List (PyData × PyData)} {ws : List (κ × V)} {d : PyData}, RpD K S H κ kd kvs ws → getD' kk kvs k = some d → ∃ v, valV ws k = some v ∧ Rp K S H d v
  | [], _, _, _, h => by cases h
  | (a, x) :: kvs, _, d, r, h => by
    rw [RpD] at r
    obtain ⟨q, v, ws, rfl, rfl, h1, h2⟩ := r
    unfold getD' at h
    rw [List.find?_cons] at h
    by_cases e : q = k
    · subst e
      simp only [hk, decide_true, Option.map_some, Option.some.injEq] at h
      subst h
      exact ⟨v, valV_pos rfl, h1⟩
    · have e' : decide (kk (kd q) = some k) = false := by simp [hk, e]
      simp only [e'] at h
      obtain ⟨v', g1, g2⟩ := RpD.get hk h2 (show getD' kk kvs k = some d from h)
      exact ⟨v', by rw [valV_neg e]; exact g1, g2⟩
theorem RpD.none (hk : ∀ k, kk (kd k) = some k) {k : κ} : ∀ {kvs : List (PyData × PyData)} {ws : List (κ × V)}, RpD K S H κ kd kvs ws → (valV ws k).isSome = (getD' kk kvs k).isSome
  | [], _, r => by rw [RpD] at r; subst r; rfl
  | (a, x) :: kvs, _, r => by
    rw [RpD] at r
    obtain ⟨q, v, ws, rfl, rfl, h1, h2⟩ := r
    unfold getD'
    rw [List.find?_cons]
    by_cases e : q = k
    · subst e
      simp only [hk, decide_true, Option.map_some]
      rw [valV_pos rfl]; rfl
    · have e' : decide (kk (kd q) = some k) = false := by simp [hk, e]
      simp only [e']
      rw [valV_neg e]
      exact RpD.none hk h2
theorem RpD.any (hk : ∀ k, kk (kd k) = some k) {k : κ} : ∀ {kvs : List (PyData × PyData)} {ws : List (κ × V)}, RpD K S H κ kd kvs ws → (ws.any fun kv => decide (kv.1 = k)) = kvs.any fun p => decide (kk p.1 = some k)
  | [], _, r => by rw [RpD] at r; subst r; rfl
  | (a, x) :: kvs, _, r => by
    rw [RpD] at r
    obtain ⟨q, v, ws, rfl, rfl, h1, h2⟩ := r
    rw [List.any_cons, List.any_cons, RpD.any hk h2]
    simp only [hk, Option.some.injEq]
theorem RpD.repl (hk : ∀ k, kk (kd k) = some k) {k : κ} {d : PyData} {v : V} (hd : Rp K S H d v) : ∀ {kvs : List (PyData × PyData)} {ws : List (κ × V)}, RpD K S H κ kd kvs ws → RpD K S H κ kd (kvs.map fun p => if kk p.1 = some k then (p.1, d) else p) (ws.map fun kv => if kv.1 = k then (kv.1, v) else kv)
  | [], _, r => by rw [RpD] at r; subst r; rw [List.map_nil, List.map_nil, RpD]
  | (a, x) :: kvs, _, r => by
    rw [RpD] at r
    obtain ⟨q, u, ws, rfl, rfl, h1, h2⟩ := r
    rw [List.map_cons, List.map_cons]
    have ih := RpD.repl (k := k) hk hd h2
    by_cases e : q = k
    · subst e
      simp only [hk, if_true]
      rw [RpD]
      exact ⟨q, v, _, rfl, rfl, hd, ih⟩
    · have e' : ¬ kk (kd q) = some k := by simp [hk, e]
      simp only [e', e, if_false]
      rw [RpD]
      exact ⟨q, u, _, rfl, rfl, h1, ih⟩
theorem RpD.snoc {k : κ} {d : PyData} {v : V} (hd : Rp K S H d v) : ∀ {kvs : List (PyData × PyData)} {ws : List (κ × V)}, RpD K S H κ kd kvs ws → RpD K S H κ kd (kvs ++ [(kd k, d)]) (ws ++ [(k, v)])
  | [], _, r => by
    rw [RpD] at r
    subst r
    rw [List.nil_append, List.nil_append, RpD]
    exact ⟨k, v, [], rfl, rfl, hd, by rw [RpD]⟩
  | (a, x) :: kvs, _, r => by
    rw [RpD] at r
    obtain ⟨q, u, ws, rfl, rfl, h1, h2⟩ := r
    rw [List.cons_append, List.cons_append, RpD]
    exact ⟨q, u, _, rfl, rfl, h1, RpD.snoc hd h2⟩
theorem RpD.put (hk : ∀ k, kk (kd k) = some k) {k : κ} {d : PyData} {v : V} (hd : Rp K S H d v) {kvs : List (PyData × PyData)} {ws : List (κ × V)} (r : RpD K S H κ kd kvs ws) : RpD K S H κ kd (putD kd kk kvs k d) (putK ws k v) := by
  unfold putD putK
  rw [r.any hk]
  split
  · exact r.repl hk hd
  · exact r.snoc hd
theorem RpD.len : ∀ {kvs : List (PyData × PyData)} {ws : List (κ × V)}, RpD K S H κ kd kvs ws → ws.length = kvs.length
  | [], _, r => by rw [RpD] at r; subst r; rfl
  | (a, x) :: kvs, _, r => by
    rw [RpD] at r
    obtain ⟨q, v, ws, rfl, rfl, h1, h2⟩ := r
    rw [List.length_cons, List.length_cons, RpD.len h2]
theorem RpD.at : ∀ {kvs : List (PyData × PyData)} {ws : List (κ × V)} {i : Nat} {p : PyData × PyData}, RpD K S H κ kd kvs ws → kvs[i]? = some p → ∃ q v, ws[i]? = some (q, v) ∧ p.1 = kd q
  | [], _, _, _, _, e => by simp at e
  | (a, x) :: kvs, _, i, p, r, e => by
    rw [RpD] at r
    obtain ⟨q, v, ws, rfl, rfl, h1, h2⟩ := r
    cases i with
    | zero =>
      simp at e
      subst e
      exact ⟨q, v, rfl, rfl⟩
    | succ i => exact RpD.at (i := i) h2 (by simpa using e)
end
/-! ### d[k], k in d -/
section
variable {X : Cx} {e a b : Expr} {st : Stmt} {sts : List Stmt} {pos : Pos} {c c1 c2 : Bool} {f g : En → Option PyData} {fa : En → Option (List PyData)} {s : En → Out}
def dGet (kvs : List (PyData × PyData)) (k : PyData) : Option PyData := match kT k with
  | some q => getD' kT kvs q
  | none => match kK k with
    | some q => getD' kK kvs q
    | none => none
theorem kT_kK {d : PyData} {q : List Key} (h : kT d = some q) : kK d = none := by
  cases d <;> first | rfl | cases h
theorem key_rp {K : PySem.W.Frag} {S : Addr → Prop} {H : Hp} {k : PyData} {q : List Key} {y : V} (h : kT k = some q) (r : Rp K S H k y) : ∃ b, y = .ref b ∧ H b = some (.tup (q.map kV)) := by
  cases k with
  | tuple ds =>
    rw [Rp] at r
    obtain ⟨b, xs, rfl, hb, ra⟩ := r
    obtain ⟨e, _⟩ := keys_rp (show keysOf ds = some q from h) ra
    exact ⟨b, rfl, by rw [← e]; exact hb⟩
  | none => cases h
  | bool _ => cases h
  | int _ => cases h
  | str _ => cases h
  | list _ => cases h
  | dict _ => cases h
theorem keyK_rp {K : PySem.W.Frag} {S : Addr → Prop} {H : Hp} {k : PyData} {q : Key} {y : V} (h : kK k = some q) (r : Rp K S H k y) : y = kV q := by
  cases k with
  | int i => cases h; rw [Rp] at r; subst r; rfl
  | str i => cases h; rw [Rp] at r; subst r; rfl
  | none => cases h
  | bool _ => cases h
  | tuple _ => cases h
  | list _ => cases h
  | dict _ => cases h
theorem e2_ev' {k : PyData → PyData → Option PyData} {env : En} {x y d : PyData} (h1 : f env = some x) (h2 : g env = some y) (h3 : k x y = some d) : e2 k f g env = some d := by
  unfold e2
  rw [h1, h2]
  exact h3
/-- what a dict's data say is what it holds -/
theorem dget_rp {K : PySem.W.Frag} {S S' : Addr → Prop} {H : Hp} {kvs : List (PyData × PyData)} {k d : PyData} {x y : V} (rx : Rp K S H (.dict kvs) x) (ry : Rp K S' H k y) (h : dGet kvs k = some d) : ∃ a v, x = .ref a ∧ DGet H a y (some v) ∧ Rp K S H d v := by
  rw [Rp] at rx
  obtain ⟨a, od, rfl, q⟩ := rx
  unfold dGet at h
  rcases q with ⟨ws, hw, r⟩ | ⟨ws, hw, r⟩
  · split at h
    · rename_i q hq
      obtain ⟨v, g1, g2⟩ := r.get kT_kd h
      obtain ⟨b, rfl, hb⟩ := key_rp hq ry
      exact ⟨a, v, rfl, .inr ⟨ws, q, b, .inr ⟨od, hw⟩, rfl, hb, g1.symm⟩, g2⟩
    · exfalso
      have no : ∀ {l : List (PyData × PyData)} {ws : List (List Key × V)} (z : Key), RpD K S H (List Key) kdT l ws → getD' kK l z = none := fun {l} => by
        induction l with
        | nil => intro _ _ _; rfl
        | cons p l ih =>
          intro ws z r
          obtain ⟨pk, pd⟩ := p
          rw [RpD] at r
          obtain ⟨q, v, ws', rfl, rfl, _, h2⟩ := r
          unfold getD'
          rw [List.find?_cons]
          have : decide (kK (kdT q) = some z) = false := by simp [kdT, kK]
          simp only [this]
          exact ih z h2
      split at h
      · rw [no _ r] at h; cases h
      · cases h
  · split at h
    · exfalso
      rename_i q hq
      have no : ∀ {l : List (PyData × PyData)} {ws : List (Key × V)} (z : List Key), RpD K S H Key kdD l ws → getD' kT l z = none := fun {l} => by
        induction l with
        | nil => intro _ _ _; rfl
        | cons p l ih =>
          intro ws z r
          obtain ⟨pk, pd⟩ := p
          rw [RpD] at r
          obtain ⟨q, v, ws', rfl, rfl, _, h2⟩ := r
          unfold getD'
          rw [List.find?_cons]
          have : decide (kT (kdD q) = some z) = false := by cases q <;> simp [kdD, kT]
          simp only [this]
          exact ih z h2
      rw [no _ r] at h; cases h
    · split at h
      · rename_i q hq
        obtain ⟨v, g1, g2⟩ := r.get kK_kd h
        rw [keyK_rp hq ry]
        exact ⟨a, v, rfl, .inl ⟨ws, q, .inr ⟨od, hw⟩, rfl, g1.symm⟩, g2⟩
      · cases h
/-- x[k], x a list, a tuple or a dict that was let go -/
def ixU (x k : PyData) : Option PyData := match x with
  | .dict kvs => dGet kvs k
  | _ => ixG x k
theorem ce_ixU (hu : X.A.units + 1 < cLine) (ha : PE X a (tE X.K c f)) (hb : PE X b (tE X.K c g)) (hs : PlainIx b) (hs' : NoSl b) : PE X (.Subscript a b pos) (tE X.K c (e2 ixU f g)) := pe_w (pe_or (ce_ix ha hb hs) (pe_dget hu ha hb hs')) fun σ H Q ⟨S0, H0, A, env, d, E, hf, q⟩ => by
  obtain ⟨x, k, h1, h2, h3⟩ := e2_some hf
  by_cases hx : ∃ kvs, x = .dict kvs
  · right
    obtain ⟨kvs, rfl⟩ := hx
    refine ⟨S0, H0, A, env, _, E, h1, fun v H1 s1 r1 => ⟨S0, H0, A, env, k, E.grow s1, h2, fun u H2 s2 r2 => ?_⟩⟩
    obtain ⟨p, v', rfl, g1, g2⟩ := dget_rp (r1.grow s2) r2 (show dGet kvs k = some d from h3)
    exact ⟨p, v', rfl, g1, q _ _ (s1.trans s2) g2⟩
  · left
    refine ⟨S0, H0, A, env, d, E, ?_, q⟩
    refine e2_ev' h1 h2 ?_
    cases x with
    | dict kvs => exact absurd ⟨kvs, rfl⟩ hx
    | none => exact h3
    | bool _ => exact h3
    | int _ => exact h3
    | str _ => exact h3
    | list _ => exact h3
    | tuple _ => exact h3
/-- d[k], d an owned dict -/
def eGetO (i : Nat) (g : En → Option PyData) : En → Option PyData := fun env => match env[i]? with
  | some (.ownT kvs) => match g env with
    | some k => match kT k with
      | some q => getD' kT kvs q
      | none => none
    | none => none
  | some (.ownK kvs) => match g env with
    | some k => match kK k with
      | some q => getD' kK kvs q
      | none => none
    | none => none
  | _ => none
theorem ce_getO {i : Nat} (hu : X.A.units + 1 < cLine) (ha : PE X a (tVar i)) (hb : PE X b (tE X.K c1 g)) (hs' : NoSl b) : PE X (.Subscript a b pos) (tE X.K c (eGetO i g)) := pe_w (pe_dget hu ha hb hs') fun σ H Q ⟨S0, H0, A, env, d, E, hf, q⟩ => by
  unfold eGetO at hf
  split at hf
  · rename_i kvs hi
    rcases E.sl i _ hi with z | ⟨v, h1, p, ws, rfl, ha, hh, r⟩
    · cases z
    split at hf
    · rename_i k hk
      split at hf
      · rename_i y hy
        refine ⟨_, h1, S0, H0, A, env, k, E, hk, fun u H2 s2 r2 => ?_⟩
        obtain ⟨v, g1, g2⟩ := r.get kT_kd hf
        obtain ⟨b, rfl, hb⟩ := key_rp hy r2
        exact ⟨p, v, rfl, .inr ⟨ws, y, b, .inl (s2 _ _ hh), rfl, hb, g1.symm⟩, q _ _ s2 ((g2.grow s2).wide fun _ z => sc_cl z)⟩
      · cases hf
    · cases hf
  · rename_i kvs hi
    rcases E.sl i _ hi with z | ⟨v, h1, p, ws, rfl, ha, hh, r⟩
    · cases z
    split at hf
    · rename_i k hk
      split at hf
      · rename_i y hy
        refine ⟨_, h1, S0, H0, A, env, k, E, hk, fun u H2 s2 r2 => ?_⟩
        obtain ⟨v, g1, g2⟩ := r.get kK_kd hf
        rw [keyK_rp hy r2]
        exact ⟨p, v, rfl, .inl ⟨ws, y, .inl (s2 _ _ hh), rfl, g1.symm⟩, q _ _ s2 ((g2.grow s2).wide fun _ z => sc_cl z)⟩
      · cases hf
    · cases hf
  · cases hf
/-- d[k] = v, d an owned dict -/
def sPutD (i : Nat) (fk f : En → Option PyData) : En → Out := fun env => match f env with
  | some d => match fk env with
    | some k => match env[i]? with
      | some (.ownT kvs) => match kT k with
        | some q => if kvs.length < 1000000 then .nx (env.set i (.ownT (putD kdT kT kvs q d))) else .bad
        | none => .bad
      | some (.ownK kvs) => match kK k with
        | some q => if kvs.length < 1000000 then .nx (env.set i (.ownK (putD kdD kK kvs q d))) else .bad
        | none => .bad
      | _ => .bad
    | none => .bad
  | none => .bad
theorem cs_putD {i : Nat} {fk : En → Option PyData} (h : PS X st (sDPut (tVar i) (tE X.K c fk) (tE X.K true f))) : PS X st (tS X.K (sPutD i fk f)) := ps_w h fun D σ H ⟨S0, H0, A, env, E, o⟩ => by
  unfold sPutD at o
  split at o
  · rename_i d hd
    refine ⟨S0, H0, A, env, d, E, hd, fun v H1 s1 r1 => ?_⟩
    split at o
    · rename_i k hk
      split at o
      · rename_i kvs hi
        rcases E.sl i _ hi with z | ⟨v', h1, p, ws, rfl, ha, hh, r⟩
        · cases z
        split at o
        · rename_i y hy
          split at o
          · rename_i hl
            refine ⟨_, h1, S0, H0, A, env, k, E.grow s1, hk, fun u H2 s2 r2 => ?_⟩
            obtain ⟨b, rfl, hb⟩ := key_rp hy r2
            have s12 := s1.trans s2
            have E2 := E.grow s12
            obtain ⟨hL, hT, hD⟩ := E2.upd_mono (u1 := .dT (putK ws y v)) ha
            refine ⟨p, _, rfl, .inr ⟨ws, y, b, s12 _ _ hh, rfl, hb, by rw [r.len]; exact Nat.lt_of_lt_of_le hl (by decide), rfl⟩, ?_⟩
            refine o A _ σ (E2.mutG hi rfl rfl h1 ha (s12 _ _ hh) rfl rfl ⟨p, _, rfl, ha, upd_same, RpD.mono hL hT hD _ _ _ _ ((r.grow s12).put kT_kd ((r1.wide fun _ z => cl_sc z).grow s2))⟩) (fun b u e n => ?_) Sb.refl
            rw [upd_ne (fun z => n (by rw [z]; exact ha))]
            exact s12 _ _ e
          · exact o.elim
        · exact o.elim
      · rename_i kvs hi
        rcases E.sl i _ hi with z | ⟨v', h1, p, ws, rfl, ha, hh, r⟩
        · cases z
        split at o
        · rename_i y hy
          split at o
          · rename_i hl
            refine ⟨_, h1, S0, H0, A, env, k, E.grow s1, hk, fun u H2 s2 r2 => ?_⟩
            have eu := keyK_rp hy r2
            subst eu
            have s12 := s1.trans s2
            have E2 := E.grow s12
            obtain ⟨hL, hT, hD⟩ := E2.upd_mono (u1 := .dK (putK ws y v)) ha
            refine ⟨p, _, rfl, .inl ⟨ws, y, s12 _ _ hh, rfl, by rw [r.len]; exact Nat.lt_of_lt_of_le hl (by decide), rfl⟩, ?_⟩
            refine o A _ σ (E2.mutG hi rfl rfl h1 ha (s12 _ _ hh) rfl rfl ⟨p, _, rfl, ha, upd_same, RpD.mono hL hT hD _ _ _ _ ((r.grow s12).put kK_kd ((r1.wide fun _ z => cl_sc z).grow s2))⟩) (fun b u e n => ?_) Sb.refl
            rw [upd_ne (fun z => n (by rw [z]; exact ha))]
            exact s12 _ _ e
          · exact o.elim
        · exact o.elim
      · exact o.elim
    · exact o.elim
  · exact o.elim
/-! ### for k in d -/
theorem wk_keysT {K : PySem.W.Frag} {a : Addr} {od : Obj} {ws : List (List Key × V)} {kvs : List (PyData × PyData)} {S0 S : Addr → Prop} {H0 : Hp} (r : RpD K S0 H0 (List Key) kdT kvs ws) : Wk K (Itkt a od ws) (fun H => H a = some (.frz od (.dT ws))) S (kvs.map (·.1)) where
  go := fun i H g l => ⟨g, by rw [r.len]; simpa using l⟩
  yld := fun i H d x H' g e y => by
    obtain ⟨rfl, k, v, p, h1, rfl, h2⟩ := y
    refine ⟨Same.refl _, ?_⟩
    rw [List.getElem?_map] at e
    cases hk : kvs[i]? with
    | none => rw [hk] at e; cases e
    | some pr =>
      rw [hk] at e
      cases e
      obtain ⟨q', v', h3, h4⟩ := r.at hk
      rw [h1] at h3
      cases h3
      show Rp K S H' pr.1 _
      rw [h4]
      unfold kdT
      rw [Rp]
      refine ⟨p, _, rfl, h2, ?_⟩
      have rk : ∀ ks : List Key, RpA K S H' (ks.map kdD) (ks.map kV) := fun ks => by
        induction ks with
        | nil => exact RpA.nil
        | cons z ks ih => exact RpA.cons (by cases z <;> (show Rp K S H' _ _; simp only [kdD, kV]; rw [Rp])) ih
      exact rk k
  stop := fun i H g l => ⟨g, by rw [r.len]; simpa using l⟩
theorem wk_keysK {K : PySem.W.Frag} {a : Addr} {od : Obj} {ws : List (Key × V)} {kvs : List (PyData × PyData)} {S0 S : Addr → Prop} {H0 : Hp} (r : RpD K S0 H0 Key kdD kvs ws) : Wk K (Itk a od ws) (fun H => H a = some (.frz od (.dK ws))) S (kvs.map (·.1)) where
  go := fun i H g l => ⟨g, by rw [r.len]; simpa using l⟩
  yld := fun i H d x H' g e y => by
    obtain ⟨rfl, k, v, h1, rfl⟩ := y
    refine ⟨Same.refl _, ?_⟩
    rw [List.getElem?_map] at e
    cases hk : kvs[i]? with
    | none => rw [hk] at e; cases e
    | some pr =>
      rw [hk] at e
      cases e
      obtain ⟨q', v', h3, h4⟩ := r.at hk
      rw [h1] at h3
      cases h3
      show Rp K S H' pr.1 _
      rw [h4]
      cases k <;> (simp only [kdD, kV]; rw [Rp])
  stop := fun i H g l => ⟨g, by rw [r.len]; simpa using l⟩
def iSeqU (f : En → Option PyData) : En → Option (List PyData) := fun env => match f env with
  | some (.list ds) => some ds
  | some (.tuple ds) => some ds
  | some (.dict kvs) => some (kvs.map (·.1))
  | _ => none
theorem ci_seqU {tg iter : Expr} {f : En → Option PyData} (h : PE X iter (tE X.K true f)) : PI X tg iter (tI X.K true (iSeqU f)) := pi_w (pi_or (ci_seq h) (pi_keys h)) fun σ H R ⟨S0, H0, A, env, ds, E, hf, q⟩ => by
  unfold iSeqU at hf
  split at hf
  · rename_i es hd
    exact .inl ⟨S0, H0, A, env, ds, E, by unfold iSeq; rw [hd]; exact hf, q⟩
  · rename_i es hd
    exact .inl ⟨S0, H0, A, env, ds, E, by unfold iSeq; rw [hd]; exact hf, q⟩
  · rename_i kvs hd
    cases hf
    refine .inr ⟨S0, H0, A, env, _, E, hd, fun v H1 s r => ?_⟩
    rw [Rp] at r
    obtain ⟨a, od, rfl, z⟩ := r
    have E1 := E.grow s
    refine ⟨a, od, rfl, ?_⟩
    rcases z with ⟨ws, hw, r⟩ | ⟨ws, hw, r⟩
    · exact .inr ⟨ws, hw, q _ H1 _ s (fun H2 s2 => s2 _ _ hw) (fun _ H2 f2 => f2 a _ hw fun z => E1.no_frz rfl z hw) (wk_keysT r)⟩
    · exact .inl ⟨ws, hw, q _ H1 _ s (fun H2 s2 => s2 _ _ hw) (fun _ H2 f2 => f2 a _ hw fun z => E1.no_frz rfl z hw) (wk_keysK r)⟩
  · cases hf
/-! ### a display with written keys -/
def trsOf (K : PySem.W.Frag) (ps : List (Str × (En → Option PyData))) : List (TE × TE) := ps.map fun p => (tC (.str p.1), tE K true p.2)
def valsE : List (Str × (En → Option PyData)) → En → Option (List (Key × PyData))
  | [], _ => some []
  | (k, f) :: ps, env => match f env with
    | some d => match valsE ps env with
      | some ds => some ((.inr k, d) :: ds)
      | none => none
    | none => none
def mkD (ps : List (Key × PyData)) : List (PyData × PyData) := ps.foldl (fun acc kv => putD kdD kK acc kv.1 kv.2) []
/-- the new dict's entries stand apart from it -/
inductive Ents (K : PySem.W.Frag) (S : Addr → Prop) (H : Hp) : List (Key × PyData) → List (V × V) → Prop
  | nil : Ents K S H [] []
  | cons {k : Key} {d : PyData} {v : V} {ps : List (Key × PyData)} {vs : List (V × V)} : Rp K S H d v → Ents K S H ps vs → Ents K S H ((k, d) :: ps) ((kV k, v) :: vs)
theorem Ents.kv {K : PySem.W.Frag} {S : Addr → Prop} {H : Hp} {ps : List (Key × PyData)} {vs : List (V × V)} (h : Ents K S H ps vs) : ∃ ws : List (Key × V), vs = ws.map (fun kv => (kV kv.1, kv.2)) ∧ ws.length = ps.length ∧ ∀ {acc : List (PyData × PyData)} {aw : List (Key × V)}, RpD K S H Key kdD acc aw → RpD K S H Key kdD (ps.foldl (fun acc kv => putD kdD kK acc kv.1 kv.2) acc) (mergeK aw ws) := by
  induction h with
  | nil => exact ⟨[], rfl, rfl, fun r => r⟩
  | @cons k d v ps vs r _ ih =>
    obtain ⟨ws, e, l, f⟩ := ih
    refine ⟨(k, v) :: ws, by rw [e]; rfl, by rw [List.length_cons, List.length_cons, l], fun {acc aw} ra => ?_⟩
    exact f (ra.put kK_kd r)
theorem pairs_run {K : PySem.W.Frag} {S0 : Addr → Prop} {H0 : Hp} {A : Addr → Prop} {env : En} {σ : L2.St} : ∀ {ps : List (Str × (En → Option PyData))} {H1 : Hp} {ds : List (Key × PyData)} {Q : List (V × V) → Hp → Prop}, EnvOk K S0 H0 A H1 σ env → valsE ps env = some ds →
    (∀ vs H2, Same H1 H2 → Ents K (Cl S0 H0 A) H2 ds vs → Q vs H2) → tPairs (trsOf K ps) σ H1 Q
  | [], H1, ds, Q, E, h, q => by
    cases h
    exact q [] H1 (Same.refl _) .nil
  | (k, f) :: ps, H1, ds, Q, E, h, q => by
    simp only [valsE] at h
    split at h
    · rename_i d hd
      split at h
      · rename_i ds' hds
        cases h
        show tPairs ((tC (.str k), tE K true f) :: trsOf K ps) σ H1 Q
        refine ⟨S0, H0, A, env, d, E, hd, fun v H2 s2 r2 => ?_⟩
        refine pairs_run (E.grow s2) hds fun vs H3 s3 en => ?_
        exact q _ H3 (s2.trans s3) (.cons ((r2.wide fun _ z => cl_sc z).grow s3) en)
      · cases h
    · cases h
def sDisp (i : Nat) (ps : List (Str × (En → Option PyData))) : En → Out := fun env => match valsE ps env with
  | some ds => if ds.length ≤ 15 then .nx (env.set i (.ownK (mkD ds))) else .bad
  | none => .bad
theorem cs_disp {i : Nat} {ps : List (Str × (En → Option PyData))} (h : PS X st (tAsg (tDisp (trsOf X.K ps)) (gName i))) : PS X st (tS X.K (sDisp i ps)) := ps_w h fun D σ H ⟨S0, H0, A, env, E, o⟩ => fun p hp => by
  unfold sDisp at o
  split at o
  · rename_i ds hds
    split at o
    · rename_i hl
      refine pairs_run (E.grow (same_new hp)) hds fun vs H2 s2 en => ?_
      obtain ⟨ws, rfl, wl, f⟩ := en.kv
      have hp2 : H2 p = some (.dK []) := s2 _ _ upd_same
      refine ⟨hp2, ws, rfl, by rw [wl]; exact hl, ?_⟩
      have sH : Same H (upd H2 p (.dK (mergeK [] ws))) := fun b u z => by
        rw [upd_ne (ne_of_none z hp)]
        exact s2 _ _ ((same_new hp) _ _ z)
      have r := f (acc := []) (aw := []) (by rw [RpD])
      obtain ⟨k1, k2, k3⟩ := upd_monoD (S := Cl S0 H0 A) (u1 := .dK (mergeK [] ws)) hp2 rfl
      have r' : RpD X.K (fun a => Cl S0 H0 A a ∧ a ≠ p) H2 Key kdD (mkD ds) (mergeK [] ws) := RpD.mono (fun a xs z y => ⟨⟨z, fun e => by
        rw [e] at y
        rcases y with y | ⟨_, y⟩ <;> (rw [hp2] at y; cases y)⟩, y⟩) (fun _ _ z => z) (fun _ _ _ z => z) _ _ _ _ r
      refine o _ _ _ (E.set_new (s0 := .ownK (mkD ds)) sH hp upd_same rfl rfl ⟨p, _, rfl, .inr rfl, upd_same, RpD.mono k1 k2 k3 _ _ _ _ r'⟩) (Fr.of_same sH) fun a z => z.imp id fun e => by rw [e]; exact hp
    · exact o.elim
  · exact o.elim
theorem hu1 {k : Nat} {A : Around} (r : Room k A) : A.units + 1 < cLine := by
  have := hu65 r
  omega
/-! ### k in d -/
def inU (k x : PyData) : Option PyData := match x with
  | .dict kvs => match kvs with
    | [] => none
    | (p, _) :: _ => match kT p with
      | some _ => match kT k with
        | some q => some (.bool (getD' kT kvs q).isSome)
        | none => none
      | none => match kK k with
        | some q => some (.bool (getD' kK kvs q).isSome)
        | none => none
  | _ => inT k x
end
end Mir

/-! Exc1: the class Refused(BookError) with super().__init__(what); self.what = what: made, raised, its field read -/
namespace PySem
namespace RfX
open PySem.W PySem.Calls PyProof.Rows PySem.HandSPX
def iA : Arguments := { posonlyargs := [], args := [{ arg := "self", annotation := none, pos := ⟨6, 17, 6, 21⟩ }, { arg := "what", annotation := none, pos := ⟨6, 23, 6, 27⟩ }], vararg := none, kwonlyargs := [], kw_defaults := [], kwarg := none, defaults := [] }
def iB : List Stmt := [.Expr (.Call (.Attribute (.Call (.Name "super" ⟨7, 8, 7, 13⟩) [] [] ⟨7, 8, 7, 15⟩) "__init__" ⟨7, 8, 7, 24⟩) [.Name "what" ⟨7, 25, 7, 29⟩] [] ⟨7, 8, 7, 30⟩) ⟨7, 8, 7, 30⟩, .Assign [.Attribute (.Name "self" ⟨8, 8, 8, 12⟩) "what" ⟨8, 8, 8, 17⟩] (.Name "what" ⟨8, 20, 8, 24⟩) ⟨8, 8, 8, 24⟩]
def iS : Scope := { kind := .function, names := [(PySem.Str.ofString "self", .local), (PySem.Str.ofString "what", .local), (PySem.Str.ofString "__class__", .free), (PySem.Str.ofString "super", .globalImplicit)], isGenerator := false, isCoroutine := false, more := [] }
/-- what the written part says of Refused, at C, and of its __init__, at fI -/
structure RfTxt (prog : Program) (K : Frag) (mg : Str → Option Value) (C fI : Addr) : Prop where
  gC : mg "Refused" = some (.ref C)
  cls : ∃ nm q N bs bm sn sub ab col dd k0 k1 k2 k3 k5, K.lookup C = some (excClassObj nm q C N bs bm true sn sub ab col dd k0 k1 k2 k3 k5 "ValueError.__new__") ∧ refsVE bm = true
  sa : findIn K (.ref C) "__setattr__" = some (some (.builtin "object.__setattr__"))
  ga : findIn K (.ref C) "__getattribute__" = some (some (.builtin "BaseException.__getattribute__"))
  gg : findIn K (.ref C) "__getattr__" = some none
  noN : findIn K (.ref C) "what" = some none
  iC : findIn K (.ref C) "__init__" = some (some (.ref fI))
  tC : typeIn K (.ref fI) = some (.type "function")
  kC : keepIn K (.ref C) = true
  exC : subIn K (.ref C) (.type "BaseException") = some true
  tyC : typeIn K (.ref C) = some (.type "type")
  hdC : hasDictIn K C = true
  te : exmOne K (.ref C) (.ref C) = some true
  sup : mg "super" = none
  opq : nsIn K cStatics "thirdparty.any" = some none
  sIn : ks_superIn K C C "__init__" = some (some (.builtin "ValueError.__init__"))
  hB : subIn K (.ref C) (.type "ValueError") = some true
  mro : mroIn K C (.ref C) = some true
  top : (prog.main.scope.names.lookup ("super" : Str)).isSome = false
  fn : ∃ (oc : Value) (od : Option Addr) (doc pm : Value) (an : Option Addr) (cda cc : Addr) (ct : Value) (osl : Array (Option Value)) (vs : Array Value) (file : Str) (tf : Tok) (c1 c2 : Value) (d1 d2 : Option Addr) (s1 s2 : Array (Option Value)),
    K.lookup fI = some ⟨oc, od, .func (fnX "__init__" "Refused.__init__" iA iB iS [("__class__", cc)] .none .none doc pm an (.ref cda) ct), osl⟩ ∧ codeIn K (.ref cda) "Refused.__init__" = true ∧
    K.lookup cda = some ⟨c1, d1, .fields vs, s1⟩ ∧ vs[2]? = some (.str file tf) ∧ ((prog.main.file : Str) == file) = true ∧ K.lookup cc = some ⟨c2, d2, .cell (some (.ref C)), s2⟩
theorem one_size (v : Value) : [v].length ≤ sizeLine := by
  rw [sizeLine_eq]
  exact (by decide : 1 ≤ 16777216)
/-- what __init__ leaves of a fresh exception at x -/
structure InitEnd (h h' : Heap) (x C dx t1 : Addr) (v : Value) : Prop where
  keep : ∀ b o, b ≠ x → h.get? b = some o → h'.get? b = some o
  obj : h'.get? x = some { cls := .ref C, dict := some dx, data := .fields #[.ref t1, .none, .none, .none, .bool false, .none] }
  dbig : h.objs.size ≤ dx
  dne : dx ≠ x
  ns : h'.Ns1 dx (fun y => if y = "what" then some v else none)
/-- a made one -/
structure OwnMade (h h' : Heap) (e C d : Addr) (v : Value) : Prop where
  keep : ∀ b o, h.get? b = some o → h'.get? b = some o
  new : h.objs.size ≤ e
  obj : ∃ oe vs, h'.get? e = some oe ∧ oe.cls = .ref C ∧ oe.dict = some d ∧ oe.data = .fields vs ∧ vs[1]? = some .none
  dbig : h.objs.size ≤ d
  dne : d ≠ e
  ns : h'.Ns1 d (fun y => if y = "what" then some v else none)
section
variable {prog : Program} {w : World} {A : Around} {E : Value → Shared → Prop} {R : Result → Shared → Prop} {s : Shared} {K : Frag} {mg : Str → Option Value} {C fI : Addr}
theorem rf_init (T : RfTxt prog K mg C fI) {x t0 : Addr} {v : Value} (X : K.In s.heap) (G : s.heap.Ns mainGlobals mg) (B : ∃ mb, s.heap.Ns builtinsNs mb ∧ ∀ x : Str, x ≠ "__name__" → mb x = bootBuiltins x) (hlim : s.heap.NoLimit) (hx : s.heap.get? x = some (excO C t0)) (hnx : K.lookup x = none) (hroom : A.depth < recursionLimit)
    (hq : ∀ h' tk dx t1, InitEnd s.heap h' x C dx t1 v → R (.ok (.ret .none)) { s with heap := h', toks := tk }) :
    codeAny (model prog w) A (.call (.ref fI) ⟨[.ref x, v], []⟩) R s := by
  obtain ⟨oc, od, doc, pm, an, cda, cc, ct, osl, vs, file, tf, c1, c2, d1, d2, s1, s2, ho, hcd, hcode, hvs, hfile, hcell⟩ := T.fn
  obtain ⟨nm, q, N, bs, bm, sn, sub, ab, col, dd, k0, k1, k2, k3, k5, hC, hbm⟩ := T.cls
  have hcl : clsIn K C = some { name := nm, bases := bs, mro := .ref C :: bm, ns := N, qualname := q, hasDict := true, slotNames := sn, subclasses := sub, abstract := ab, collection := col, hasDel := false } := by unfold clsIn; rw [hC] <;> rfl
  refine ks_codeAny_call_defAt (binds := [("self", .ref x), ("what", v)]) hroom (X _ _ ho) rfl hlim (codeRec_of X hcd) rfl (BindsTo.of_eq (by first | rfl | with_unfolding_all rfl)) (show ∀ y ∈ iS.names, y.2 ≠ NameKind.cell from by decide +kernel) (fun y hy => by
    rcases List.mem_cons.mp hy with rfl | hy
    · kernel_rfl
    rcases List.mem_cons.mp hy with rfl | hy
    · kernel_rfl
    cases hy) (fun h₁ hn hk => ?_) rfl rfl rfl
  have X₁ : K.In h₁ := X.keeps hk
  have hx₁ := hk _ _ hx
  have hL : s.heap.objs.size ≠ x := Nat.ne_of_gt (Heap.lt_size hx)
  have G₁ := G.keeps hk
  obtain ⟨mb, b1, b2⟩ := B
  have b1 := b1.keeps hk
  have hne : x ≠ C := fun e => by
    have z := X _ _ hC
    rw [← e, hx] at z
    cases z
  show wpAt _ _ _ (execs (_ :: _) _) _ _ _
  refine ks_wpAt_execs_cons (ks_wpAt_Expr_any (ks_wpAt_MethodCall ?_))
  have hCat := X₁ _ _ hC
  refine ks_wpAt_super_base (ar := { arg := "self", annotation := none, pos := ⟨6, 17, 6, 21⟩ }) (env := ksEnv "Refused.__init__" iS s.heap.objs.size fI (.ref cda) cc) (by kernel_rfl) (by kernel_rfl) (by decide +kernel) rfl (X₁ _ _ ho) rfl (by kernel_rfl) rfl (X₁ _ _ hcode) rfl hvs hfile T.top ?_
  refine ks_loadName_global rfl (by kernel_rfl) (loadGlobal_builtin (env := ksEnv "Refused.__init__" iS s.heap.objs.size fI (.ref cda) cc) G₁ T.sup b1 ((b2 _ (by decide +kernel)).trans (by first | boot_by_name | rfl | kernel_rfl)) ⟨rfl, ?_⟩)
  refine wpAny_loadName_free rfl (by kernel_rfl) (by kernel_rfl) ⟨_, X₁ _ _ hcell, rfl⟩ ?_
  refine wpAny_loadName_local (v := .ref x) rfl (by kernel_rfl) hn (by kernel_rfl) ?_
  refine ks_wpAny_isType_cls hCat rfl ⟨rfl, ?_⟩
  refine ks_wpAny_call_super hCat rfl hx₁ rfl (fun c e => by cases e) (looks_mroIn X₁ T.mro) (fun h₂ hso k₂ => ?_)
  have X₂ : K.In h₂ := X₁.keeps k₂
  have hx₂ := k₂ _ _ hx₁
  have hn₂ := hn.keeps k₂
  have I₂ : InstAt h₂ x (excO C t0) C none := ⟨hx₂, rfl, rfl, trivial⟩
  have hm := T.sIn
  unfold ks_superIn at hm
  rw [hcl] at hm
  refine kxs_getMethod kxs_ValueError (l₀ := .ref C :: bm) hso (looks_opaque X₂ T.opq) (fun A Q E s k q => wpAny_bind ((looks_clsIn X₂ hcl) A _ E s k (wpAny_pure q))) rfl X₂ hm (I₂.type.andThen (looks_subIn X₂ T.hB)) hne (by decide +kernel) ?_
  have k₃ : ∀ b o, h₂.get? b = some o → (h₂.push (kxs_mw "ValueError.__init__" x)).get? b = some o := fun b o e => Heap.get?_push_of_some _ e
  have hu : (h₂.push (kxs_mw "ValueError.__init__" x)).get? h₂.objs.size = some (kxs_mw "ValueError.__init__" x) := Heap.get?_push_at rfl rfl
  refine kxs_callWith (i := "ValueError.__init__") (x := x) (by kernel_rfl) ?_
  refine evalArgs_plain (spliced_cons ?_)
  have hn₃ := hn₂.keeps k₃
  refine wpAny_Name (env := ksEnv "Refused.__init__" iS s.heap.objs.size fI (.ref cda) cc) (wpAny_loadName_local (v := v) rfl (by kernel_rfl) hn₃ (by kernel_rfl) ?_) (by decide +kernel)
  refine spliced_nil ⟨hu, ?_⟩
  have hC₃ := k₃ _ _ (k₂ _ _ hCat)
  have hx₃ := k₃ _ _ hx₂
  refine wpAny_call (codeAny_of_tree (show wpAny _ _ (callAny (.ref h₂.objs.size) ⟨[v], []⟩) _ _ _ from ?_))
  simp only [callAny]
  refine wpAny_bind (wpAny_load hu ?_)
  simp only [kxs_mw, show ((Value.type "method-wrapper" == Value.type "method") || (Value.type "method-wrapper" == Value.type "builtin_function_or_method") || (Value.type "method-wrapper" == Value.type "method-wrapper")) = true by decide, if_true]
  refine KFB.if_so (by decide) (wpAny_bind (check_bound_init F.excBase_ValueError.toExcCallFacts hC₃ hx₃ rfl (wpAny_bind (wpAny_pure (wpAny_pure ⟨plainId_quiet F.excBase_ValueError.init.plain _, codeAny_builtin F.excBase_ValueError.initEntry ?_⟩)))))
  refine exc_init_tree (cls := .ref C) (t0 := t0) (dv := none) (c2 := .none) (c3 := .none) (b4 := .bool false) hx₃ (one_size v) fun h₄ k₄ hx₄ ht₄ => ?_
  have hn₄ : h₄.Ns s.heap.objs.size (fun y => [(("self" : Str), Value.ref x), (("what" : Str), v)].reverse.lookup y) := by
    obtain ⟨oL, es, ep, e1, r⟩ := hn₃
    exact ⟨oL, es, ep, k₄ _ _ (fun z => hL z) e1, r⟩
  have old : ∀ b o, b ≠ x → s.heap.get? b = some o → h₄.get? b = some o := fun b o nb e => k₄ b o nb (k₃ _ _ (k₂ _ _ (hk _ _ e)))
  have X₄ : K.In h₄ := fun b o e => old b o (fun z => by rw [z, hnx] at e; cases e) (X _ _ e)
  refine wpAt_of_wpAny (wpAny_execs_cons (plainObj_wpAny_Assign_Attribute ?_))
  refine wpAny_Name (env := ksEnv "Refused.__init__" iS s.heap.objs.size fI (.ref cda) cc) (wpAny_loadName_local (v := v) rfl (by kernel_rfl) hn₄ (by kernel_rfl) ?_) (by decide +kernel)
  refine wpAny_Name (env := ksEnv "Refused.__init__" iS s.heap.objs.size fI (.ref cda) cc) (wpAny_loadName_local (v := .ref x) rfl (by kernel_rfl) hn₄ (by kernel_rfl) ?_) (by decide +kernel)
  refine set_plain X₄ (od := none) ⟨hx₄, rfl, rfl, trivial⟩ T.sa ?_
  refine exc_osa X₄ hx₄ hcl (show refsVE (.ref C :: bm) = true from hbm) rfl T.noN (fun h₅ tk₅ dx k₅ dn dne hx₅ hn₅ => ?_)
  show wpAny _ _ (execs _ _) _ _ _
  refine wpAny_execs_nil (hq h₅ tk₅ dx _ ⟨fun b o hb e => k₅ b o hb (old b o hb e), hx₅, ?_, dne, hn₅⟩)
  obtain ⟨oL, es, ep, e1, r⟩ := hn₄
  exact Nat.le_of_lt (Nat.lt_of_lt_of_le (Heap.lt_size e1) dn)
theorem rf_made (T : RfTxt prog K mg C fI) {v : Value} (X : K.In s.heap) (G : s.heap.Ns mainGlobals mg) (B : ∃ mb, s.heap.Ns builtinsNs mb ∧ ∀ x : Str, x ≠ "__name__" → mb x = bootBuiltins x) (hlim : s.heap.NoLimit) (hroom : A.depth + 1 < recursionLimit)
    (hq : ∀ h' tk e d, OwnMade s.heap h' e C d v → R (.ok (.ret (.ref e))) { s with heap := h', toks := tk }) :
    codeAny (model prog w) A (.call (.ref C) ⟨[v], []⟩) R s := by
  obtain ⟨nm, q, N, bs, bm, sn, sub, ab, col, dd, k0, k1, k2, k3, k5, hC, hbm⟩ := T.cls
  obtain ⟨hp, g, dr, tk, os⟩ := s
  have k : ∀ b o, hp.get? b = some o → ((hp.push (kdv_tup [v])).push (excO C hp.objs.size)).get? b = some o := fun b o e => Heap.get?_push_of_some _ (Heap.get?_push_of_some _ e)
  have hget : ((hp.push (kdv_tup [v])).push (excO C hp.objs.size)).get? (hp.objs.size + 1) = some (excO C hp.objs.size) := by heap_get
  have hnx : K.lookup (hp.objs.size + 1) = none := by
    cases e : K.lookup (hp.objs.size + 1) with
    | none => rfl
    | some o =>
      have z : hp.get? (hp.objs.size + 1) = some o := X _ _ e
      exact absurd (Nat.lt_of_succ_lt (Heap.lt_size z)) (Nat.lt_irrefl _)
  obtain ⟨mb, b1, b2⟩ := B
  refine call_own F.excBase_ValueError (fun X => refsVE_contains X bm hbm) (X _ _ hC) (looks_findIn X T.iC) (fun self => bind_fn X self T.tC) (one_size v) ?_
  refine rf_init (s := ⟨(hp.push (kdv_tup [v])).push (excO C hp.objs.size), g, dr, tk, os⟩) T (X.keeps k) (G.keeps k) ⟨mb, b1.keeps k, b2⟩ (hlim.keeps k) hget hnx ?_ fun h' tk' dx t1 ⟨k', hx, dn, dne, hns⟩ => ?_
  · show A.depth + 1 < recursionLimit
    exact hroom
  · have old : ∀ b o, hp.get? b = some o → h'.get? b = some o := fun b o e => k' b o (Nat.ne_of_lt (Nat.lt_succ_of_lt (Heap.lt_size e))) (k b o e)
    have z : hp.objs.size + 1 + 1 ≤ dx := by
      first
        | (simpa only [Heap.size_push] using dn)
        | exact dn
        | (have q := dn; rw [Heap.size_push, Heap.size_push] at q; exact q)
    exact ⟨rfl, hq h' tk' (hp.objs.size + 1) dx ⟨old, Nat.le_succ _, ⟨_, _, hx, rfl, rfl, rfl, rfl⟩, Nat.le_trans (Nat.le_trans (Nat.le_succ _) (Nat.le_succ _)) z, dne, hns⟩⟩
end
end RfX
end PySem
namespace L2
open PySem PySem.Spec PyProof.Rows
theorem relO_rf {v : V} {v' : Value} (r : RelV v v') (f : Str) : RelO (List.lookup f [(("what" : Str), v)]) (if f = "what" then some v' else none) := by
  by_cases hw : f = "what"
  · subst hw
    rw [if_pos rfl]
    have q : List.lookup ("what" : Str) [(("what" : Str), v)] = some v := by simp [List.lookup]
    rw [q]
    exact r
  · rw [if_neg hw]
    have qw : (f == ("what" : Str)) = false := by simpa using hw
    have q2 : List.lookup f [(("what" : Str), v)] = none := by simp [List.lookup, qw]
    rw [q2]
    trivial
section
variable {X : Cx} {C fI : Addr}
/-- Refused(e) -/
def tMkRf (C : Addr) (ta : TA) : St → Hp → XK → Prop := fun σ H Q => ta σ H fun vs H1 => ∃ v, vs = [v] ∧ ∀ d, H1 d = none → Q (.ref C) (some d) (upd H1 d (.xd [(("what" : Str), v)]))
theorem pmk_rf {a : Expr} {ta : TA} {p pos : Pos} {k : Nat} (T : PySem.RfX.RfTxt X.prog X.K X.mg C fI) (hr : Room k X.A) (ha : PA X [a] ta) (hg : Gl X "Refused" := by rfl)
    (he : starEach (a :: []) X.env = (false, eval a X.env) :: starEach [] X.env := by rfl) (hpl : (backTo pos (starEach [] X.env)).any (·.1) = false := by rfl) :
    PMk X (.Call (.Name "Refused" p) [a] [] pos) (tMkRf C ta) := by
  intro pins s σ H Q I h
  refine wpAny_Call_Name_kw (ld_glob I hg T.gC ?_)
  refine PySem.W.callWith_K (h₀ := X.base) I.ok.mod.kin T.kC (thn (ha.run pos pins s σ H _ I h) fun us s1 hh => ?_) he hpl
  obtain ⟨vs, H1, I1, r1, v, ev, q1⟩ := hh
  subst ev
  refine ⟨I1.kIn, ?_⟩
  cases r1 with
  | cons rv rn =>
    rename_i v' us'
    cases rn
    show wpAny _ _ (call (.ref C) [v']) _ _ _
    have hlim := I1.nolimit
    have hG := I1.mod.glob.keeps I1.bk
    obtain ⟨mb, hb1, hb2⟩ := I1.mod.blt
    have hB := hb1.keeps I1.bk
    obtain ⟨hp, g, dr, tk, os⟩ := s1
    refine wpAny_call (PySem.RfX.rf_made T I1.kIn hG ⟨mb, hB, hb2⟩ hlim (by have := hr.dp; omega) fun h' tk' e d M => ?_)
    show MkP X pins σ Q (.ref e) ⟨h', g, dr, tk', os⟩
    obtain ⟨oe, fv, hoe, hc, hd, hdat, h1⟩ := M.obj
    have hns := M.ns
    obtain ⟨G', g1, g2⟩ := restrict h' fun b => decide (b ≠ e)
    have gk : ∀ b, b ≠ e → G'.get? b = h'.get? b := fun b hb => g1 b (decide_eq_true hb)
    have ge : G'.get? e = none := g2 e (by simp)
    have old : ∀ b o, hp.get? b = some o → G'.get? b = some o := fun b o q => (gk b (Nat.ne_of_lt (Nat.lt_of_lt_of_le (Heap.lt_size q) M.new))).trans (M.keep b o q)
    have ob : ObjOk X.prog X.w (upd H1 d (.xd [(("what" : Str), v)])) G' d (.xd [(("what" : Str), v)]) :=
      ⟨_, hns.at (fun o q => (gk d M.dne).trans q), fun f => relO_rf rv f⟩
    have J : Inv X pins σ (upd H1 d (.xd [(("what" : Str), v)])) ⟨G', g, dr, tk', os⟩ := I1.laid (t' := tk') old M.dbig ob
    refine ⟨e, oe, fv, ⟨G', g, dr, tk', os⟩, _, .ref C, some d, rfl, J, fun b o q => ?_, ge, hoe, ⟨hc, hd⟩, hdat, h1, ?_, rfl, I1.bare, raises_own T.exC T.tyC, q1 d (I1.hok.fresh M.dbig)⟩
    · by_cases hb : b = e
      · have q' : G'.get? b = some o := q
        rw [hb, ge] at q'; cases q'
      · exact (gk b hb).symm.trans q
    · rw [upd_ne (Ne.symm M.dne)]
      exact I1.hok.fresh M.new
/-- raise Refused(e) -/
def tRaiseRf (C : Addr) (W : WX) (ta : TA) : TS := fun _ σ H => tMkRf C ta σ H fun cls d H' => W cls d σ H'
theorem ps_raiseRf {a : Expr} {ta : TA} {W : WX} {p pos pos2 : Pos} {k : Nat} (hc : X.calm = true) (T : PySem.RfX.RfTxt X.prog X.K X.mg C fI) (hr : Room k X.A) (tk : Takes X W) (ha : PA X [a] ta) (hg : Gl X "Refused" := by rfl)
    (he : starEach (a :: []) X.env = (false, eval a X.env) :: starEach [] X.env := by rfl) (hpl : (backTo pos (starEach [] X.env)).any (·.1) = false := by rfl) :
    PS X (.Raise (some (.Call (.Name "Refused" p) [a] [] pos)) none pos2) (tRaiseRf C W ta) := ps_raise hc tk (pmk_rf T hr ha hg he hpl)
/-- e.what, e the exception that the suite holds (at a; its class cls, its dict d) -/
def tByRf (C : Addr) (a : Addr) (cls : Value) (d : Option Addr) (te : TE) : TE := fun σ H Q => te σ H fun x H1 => x = .ref a ∧ cls = .ref C ∧ ∃ (dd : Addr) (v : V), d = some dd ∧ H1 dd = some (.xd [(("what" : Str), v)]) ∧ Q v H1
theorem pe_byRf {a : Addr} {oe : Obj} {cls : Value} {d : Option Addr} {pn : List (Addr × Obj)} {e : Expr} {te : TE} {pos : Pos} (T : PySem.RfX.RfTxt X.prog X.K X.mg C fI) (hz : Zc cls d oe) (hf : ∃ vs, oe.data = .fields vs) (he : PE (X.suite a ((a, oe) :: pn)) e te)
    (hb : attributeBase e "what" X.env (eval e X.env) = eval e X.env := by rfl) :
    PE (X.suite a ((a, oe) :: pn)) (.Attribute e "what" pos) (tByRf C a cls d te) := by
  refine ⟨fun pins s σ H Q I h => ?_⟩
  refine attr_of hb (thn (he.run pins s σ H _ I h) fun u s1 hh => ?_)
  obtain ⟨x, H1, I1, rx, ex, ec, dd, v, ed, ea, q⟩ := hh
  subst ex
  obtain rfl : u = Value.ref a := rx
  subst ec
  subst ed
  obtain ⟨ha, _⟩ := I1.pin (a, oe) (List.mem_append_left _ List.mem_cons_self)
  obtain ⟨vs, hd⟩ := hf
  have hx : ObjOk X.prog X.w H1 s1.heap dd (.xd [(("what" : Str), v)]) := I1.hok dd _ ea
  obtain ⟨mA, hns, hr⟩ := hx
  obtain ⟨od, ho, hl⟩ := lookIn_ns hns
  have l : List.lookup ("what" : Str) [(("what" : Str), v)] = some v := by simp [List.lookup]
  obtain ⟨u, hu, ru⟩ := RelO.some_of (v := v) (o := mA "what") (by rw [← l]; exact hr "what")
  have J : PySem.W.InstAt s1.heap a oe C (some od) := ⟨ha, hz.1, by unfold PySem.W.notCls; rw [hd] <;> rfl, by rw [hz.2]; exact ho⟩
  exact HandSPX.exc_get I1.kIn J T.ga T.gg T.exC (PySem.W.findObj_own T.hdC T.noN rfl (by rw [hl, hu])) (handed_of ru) ⟨v, H1, I1.tok _, ru, q⟩
end
theorem exm_selfR {K : PySem.W.Frag} {S : Addr} (h1 : PySem.W.subIn K (.ref S) (.type "BaseException") = some true) (h2 : PySem.W.isClsIn K S = true) (h3 : PySem.W.typeIn K (.ref S) = some (.type "type")) (h4 : PySem.W.subIn K (.ref S) (.ref S) = some true) :
    PySem.W.exmOne K (.ref S) (.ref S) = some true := by
  have e1 : (PySem.W.subIn K (.ref S) (.type "BaseException") == some true) = true := by rw [h1] <;> rfl
  have e2 : ((PySem.W.clsIn K S).isSome && PySem.W.typeIn K (.ref S) == some (.type "type")) = true := by
    have h2' : (PySem.W.clsIn K S).isSome = true := h2
    rw [h2', h3] <;> rfl
  show (if (PySem.W.subIn K (.ref S) (.type "BaseException") == some true) = true then (if ((PySem.W.clsIn K S).isSome && PySem.W.typeIn K (.ref S) == some (.type "type")) = true then PySem.W.subIn K (.ref S) (.ref S) else none) else none) = some true
  rw [if_pos e1, if_pos e2]
  exact h4
end L2

/-! Exc2: defs that may raise Refused, told on data -/
namespace Mir
open PySem PySem.Spec PyProof.Rows L2
abbrev xdW (v : V) : HO := .xd [(("what" : Str), v)]
/-- what a def that may raise gives -/
inductive Rz where
  | ok (d : PyData)
  | ex (d : PyData)
inductive RzA where
  | ok (ds : List PyData)
  | ex (d : PyData)
inductive OutX where
  | nx (e : En)
  | bk (e : En)
  | ct (e : En)
  | rt (d : PyData)
  | rs (e : En) (d : PyData)
  | bad
def OutOkX (K : PySem.W.Frag) (C : Addr) (W : WX) (S0 : Addr → Prop) (H0 : Hp) (A : Addr → Prop) (H : Hp) (o : OutX) (D : Ends) : Prop := match o with
  | .nx e => OutOk K S0 H0 A H (.nx e) D
  | .bk e => OutOk K S0 H0 A H (.bk e) D
  | .ct e => OutOk K S0 H0 A H (.ct e) D
  | .rt d => OutOk K S0 H0 A H (.rt d) D
  | .rs e d => ∀ A' H' σ' dx v, EnvOk K S0 H0 A' H' σ' e → Fr A H H' → Sb A H A' → H' dx = some (xdW v) → Rp K (Cl S0 H0 A') H' d v → W (.ref C) (some dx) σ' H'
  | .bad => False
def tSX (K : PySem.W.Frag) (C : Addr) (W : WX) (f : En → OutX) : TS := fun D σ H => ∃ S0 H0 A env, EnvOk K S0 H0 A H σ env ∧ OutOkX K C W S0 H0 A H (f env) D
def upO : Out → OutX
  | .nx e => .nx e
  | .bk e => .bk e
  | .ct e => .ct e
  | .rt d => .rt d
  | .bad => .bad
def up (s : En → Out) : En → OutX := fun env => upO (s env)
section
variable {K : PySem.W.Frag} {C : Addr} {W : WX} {S0 S : Addr → Prop} {H0 H H' H'' : Hp} {A A' A'' : Addr → Prop} {σ : L2.St} {env : En} {D : Ends}
theorem OutOkX.step {o : OutX} (h : OutOkX K C W S0 H0 A H o D) (f : Fr A H H') (s : Sb A H A') : OutOkX K C W S0 H0 A' H' o D := by
  cases o with
  | nx e => exact OutOk.step (o := .nx e) h f s
  | bk e => exact OutOk.step (o := .bk e) h f s
  | ct e => exact OutOk.step (o := .ct e) h f s
  | rt d => exact OutOk.step (o := .rt d) h f s
  | rs e d => exact fun A2 H2 σ2 dx v E f2 s2 hx r => h A2 H2 σ2 dx v E (f.trans s f2) (Sb.trans f s s2) hx r
  | bad => exact h
theorem up_ok {o : Out} (h : OutOkX K C W S0 H0 A H (upO o) D) : OutOk K S0 H0 A H o D := by cases o <;> exact h
end
section
variable {X : Cx} {C fI : Addr} {W : WX} {e a b : Expr} {es : List Expr} {st : Stmt} {sts : List Stmt} {pos pos' : Pos} {c c1 c2 : Bool} {f : En → Option PyData} {fa : En → Option (List PyData)} {fx : En → Option Rz} {s t : En → OutX} {ga : En → Option Bool}
/-! ### statements -/
theorem sx_up {s : En → Out} (h : PS X st (tS X.K s)) : PS X st (tSX X.K C W (up s)) := ps_w h fun D σ H ⟨S0, H0, A, env, E, o⟩ => ⟨S0, H0, A, env, E, up_ok o⟩
def xNil : En → OutX := fun env => .nx env
def xSeq (s t : En → OutX) : En → OutX := fun env => match s env with
  | .nx e => t e
  | .bk e => .bk e
  | .ct e => .ct e
  | .rt d => .rt d
  | .rs e d => .rs e d
  | .bad => .bad
theorem sx_nil : PSs X [] (tSX X.K C W xNil) := pss_w pss_nil fun D σ H ⟨S0, H0, A, env, E, o⟩ => o A H σ E Fr.refl Sb.refl
theorem sx_one (h1 : PS X st (tSX X.K C W s)) : PSs X [st] (tSX X.K C W s) := pss_one h1
theorem sx_cons (h1 : PS X st (tSX X.K C W s)) (h2 : PSs X sts (tSX X.K C W t)) : PSs X (st :: sts) (tSX X.K C W (xSeq s t)) := pss_w (pss_cons h1 h2) fun D σ H ⟨S0, H0, A, env, E, o⟩ => by
  refine ⟨S0, H0, A, env, E, ?_⟩
  unfold xSeq at o
  cases hs : s env with
  | nx e =>
    rw [hs] at o
    exact fun A' H' σ' E' f' b' => ⟨S0, H0, A', e, E', OutOkX.step o f' b'⟩
  | bk e => rw [hs] at o; exact o
  | ct e => rw [hs] at o; exact o
  | rt d => rw [hs] at o; exact o
  | rs e d => rw [hs] at o; exact o
  | bad => rw [hs] at o; exact o
theorem sx_frz {i : Nat} (h : PS X st (tSX X.K C W s)) : PS X st (tSX X.K C W fun env => s (frz i env)) := ps_w h fun D σ H ⟨S0, H0, A, env, E, o⟩ => by
  obtain ⟨A', E', w⟩ := E.frz i
  exact ⟨S0, H0, A', _, E', OutOkX.step o Fr.refl fun a z => .inl (w a z)⟩
def xIf (ga : En → Option Bool) (s t : En → OutX) : En → OutX := fun env => match ga env with
  | some true => s env
  | some false => t env
  | none => .bad
theorem sx_if {a b : List Stmt} (hc : PT X e (tT X.K ga)) (ha : PSs X a (tSX X.K C W s)) (hb : PSs X b (tSX X.K C W t)) : PS X (.If e a b pos) (tSX X.K C W (xIf ga s t)) := ps_w (ps_if hc ha hb) fun D σ H ⟨S0, H0, A, env, E, o⟩ => by
  unfold xIf at o
  cases hd : ga env with
  | none => rw [hd] at o; exact o.elim
  | some k =>
    rw [hd] at o
    refine ⟨S0, H0, A, env, k, E, hd, fun H' sm => ?_⟩
    cases k with
    | true => exact iteT <| ⟨S0, H0, A, env, E.grow sm, OutOkX.step o (Fr.of_same sm) Sb.refl⟩
    | false => exact iteF <| ⟨S0, H0, A, env, E.grow sm, OutOkX.step o (Fr.of_same sm) Sb.refl⟩
def loopX (g : PyData → En → Option En) (b : En → OutX) : List PyData → En → OutX
  | [], e => .nx e
  | d :: ds, e => match g d e with
    | none => .bad
    | some e1 => match b e1 with
      | .nx e2 => loopX g b ds e2
      | .ct e2 => loopX g b ds e2
      | .bk e2 => .nx e2
      | .rt v => .rt v
      | .rs e2 v => .rs e2 v
      | .bad => .bad
def xFor (f : En → Option (List PyData)) (g : PyData → En → Option En) (b : En → OutX) : En → OutX := fun env => match f env with
  | some ds => loopX g b ds env
  | none => .bad
theorem forX_run {K : PySem.W.Frag} {σ : L2.St} {H : Hp} {f : En → Option (List PyData)} {g : PyData → En → Option En} {b : En → OutX} {vs : List Nat} {D : Ends} (h : tSX K C W (xFor f g b) D σ H) : tFor (tI K true f) (tG K vs g) (tSX K C W b) D σ H := by
  obtain ⟨S0, H0, A, env, E, o⟩ := h
  unfold xFor at o
  cases hd : f env with
  | none => rw [hd] at o; exact o.elim
  | some ds =>
    rw [hd] at o
    refine ⟨S0, H0, A, env, ds, E, hd, fun J H1 G s _ gF wk => ?_⟩
    refine ⟨fun i m σ' H' => m = ds.length - i ∧ i ≤ ds.length ∧ ∃ A' env', EnvOk K S0 H0 A' H' σ' env' ∧ Fr A H1 H' ∧ Sb A H1 A' ∧ OutOkX K C W S0 H0 A' H' (loopX g b (ds.drop i) env') D,
      ⟨_, rfl, Nat.zero_le _, A, env, E.grow s, Fr.refl, Sb.refl, OutOkX.step o (Fr.of_same s) Sb.refl⟩, ?_⟩
    rintro i m σ' H' ⟨rfl, hi, A', env', E', f', b', o'⟩
    by_cases hlt : i < ds.length
    · have hdr : ds.drop i = ds[i] :: ds.drop (i + 1) := List.drop_eq_getElem_cons hlt
      rw [hdr] at o'
      refine .inr ⟨wk.go i H' (gF rfl H' f') hlt, fun σ2 H2 => ∃ A2 e2, EnvOk K S0 H0 A2 H2 σ2 e2 ∧ Fr A H1 H2 ∧ Sb A H1 A2 ∧ OutOkX K C W S0 H0 A2 H2 (loopX g b (ds.drop (i + 1)) e2) D, ?_, fun x Hx y => ?_⟩
      · rintro σ2 H2 ⟨A2, e2, z⟩
        exact ⟨ds.length - (i + 1), by omega, rfl, hlt, A2, e2, z⟩
      · obtain ⟨sx, rx⟩ := wk.yld i H' _ x Hx (gF rfl H' f') (List.getElem?_eq_getElem hlt) y
        have rx' : Rp K (Cl S0 H0 A') Hx ds[i] x := rx.wide fun a z => ⟨z.1.1, fun y => by
          rcases b' a y with k | k
          · exact z.1.2 k
          · exact z.2 k⟩
        simp only [loopX] at o'
        cases hg : g ds[i] env' with
        | none => rw [hg] at o'; exact o'.elim
        | some e1 =>
          rw [hg] at o'
          refine ⟨S0, H0, A', env', _, e1, E'.grow sx, rx', hg, fun σ1 E1 _ => ⟨S0, H0, A', e1, E1, ?_⟩⟩
          have fs : Fr A' H' Hx := Fr.of_same sx
          cases hb : b e1 with
          | nx e2 =>
            simp only [hb] at o'
            exact fun A2 H2 σ2 E2 f2 b2 => ⟨A2, e2, E2, f'.trans b' (fs.trans Sb.refl f2), Sb.trans f' b' (Sb.trans fs Sb.refl b2), OutOkX.step o' (fs.trans Sb.refl f2) (Sb.trans fs Sb.refl b2)⟩
          | ct e2 =>
            simp only [hb] at o'
            exact fun A2 H2 σ2 E2 f2 b2 => ⟨A2, e2, E2, f'.trans b' (fs.trans Sb.refl f2), Sb.trans f' b' (Sb.trans fs Sb.refl b2), OutOkX.step o' (fs.trans Sb.refl f2) (Sb.trans fs Sb.refl b2)⟩
          | bk e2 =>
            simp only [hb] at o'
            exact fun A2 H2 σ2 E2 f2 b2 => o' A2 H2 σ2 E2 (fs.trans Sb.refl f2) (Sb.trans fs Sb.refl b2)
          | rt v => simp only [hb] at o'; exact o'
          | rs e2 v =>
            simp only [hb] at o'
            exact fun A2 H2 σ2 dx u E2 f2 b2 hx r => o' A2 H2 σ2 dx u E2 (fs.trans Sb.refl f2) (Sb.trans fs Sb.refl b2) hx r
          | bad => simp only [hb] at o'; exact o'
    · have hdr : ds.drop i = [] := List.drop_eq_nil_of_le (by omega)
      rw [hdr] at o'
      exact .inl ⟨wk.stop i H' (gF rfl H' f') (by omega), o' A' H' σ' E' Fr.refl Sb.refl⟩
theorem sx_for {tg iter : Expr} {f : En → Option (List PyData)} {g : PyData → En → Option En} {b : En → OutX} {vs : List Nat} {body : List Stmt} (hp : PassesOwn (model X.prog X.w) X.A X.env X.xe) (hc : X.calm = true) (hi : PI X tg iter (tI X.K true f)) (hg : PG X tg (tG X.K vs g)) (hb : PSs X body (tSX X.K C W b)) (hs : ∀ x, foldedSetIterable iter X.env x = pure x := by intro _; rfl) :
    PS X (.For tg iter body [] pos) (tSX X.K C W (xFor f g b)) := ps_w (ps_for hp hc hi hg hb hs) fun _ _ _ q => forX_run q
/-- raise Refused(e) -/
def xRaise (f : En → Option PyData) : En → OutX := fun env => match f env with
  | some d => .rs env d
  | none => .bad
theorem sx_raise (h : PS X st (tRaiseRf C W (tCons (tE X.K true f) tNil))) : PS X st (tSX X.K C W (xRaise f)) := ps_w h fun D σ H ⟨S0, H0, A, env, E, o⟩ => by
  unfold xRaise at o
  cases hd : f env with
  | none => rw [hd] at o; exact o.elim
  | some d =>
    rw [hd] at o
    refine ⟨S0, H0, A, env, d, E, hd, fun v H1 s1 r1 => ⟨v, rfl, fun dx hdx => ?_⟩⟩
    exact o A _ σ dx v (E.grow (s1.trans (same_new hdx))) (Fr.of_same (s1.trans (same_new hdx))) Sb.refl upd_same ((r1.wide fun _ z => cl_sc z).grow (same_new hdx))
/-! ### expressions that may raise -/
def tX (K : PySem.W.Frag) (C : Addr) (W : WX) (c : Bool) (f : En → Option Rz) : TE := fun σ H Q => ∃ S0 H0 A env r, EnvOk K S0 H0 A H σ env ∧ f env = some r ∧ match r with
  | .ok d => ∀ v H', Same H H' → Rp K (SC c S0 H0 A) H' d v → Q v H'
  | .ex d => ∀ dx v H', Same H H' → H' dx = some (xdW v) → Rp K (SC true S0 H0 A) H' d v → W (.ref C) (some dx) σ H'
def tAX (K : PySem.W.Frag) (C : Addr) (W : WX) (c : Bool) (f : En → Option RzA) : TA := fun σ H Q => ∃ S0 H0 A env r, EnvOk K S0 H0 A H σ env ∧ f env = some r ∧ match r with
  | .ok ds => ∀ vs H', Same H H' → RpA K (SC c S0 H0 A) H' ds vs → Q vs H'
  | .ex d => ∀ dx v H', Same H H' → H' dx = some (xdW v) → Rp K (SC true S0 H0 A) H' d v → W (.ref C) (some dx) σ H'
def spX (K : PySem.W.Frag) (C : Addr) (g : List PyData → Option Rz) : Sp := fun vs H Q E => ∃ S ds r, RpA K S H ds vs ∧ g ds = some r ∧ match r with
  | .ok d => ∀ v H', Same H H' → Rp K (Bd S H) H' d v → Q v H'
  | .ex d => ∀ dx v H', Same H H' → H' dx = some (xdW v) → Rp K (Bd S H) H' d v → E (.ref C) (some dx) H'
def xOk (f : En → Option PyData) : En → Option Rz := fun env => (f env).map .ok
theorem xe_ok (h : PE X e (tE X.K c f)) : PE X e (tX X.K C W c (xOk f)) := pe_w h fun σ H Q ⟨S0, H0, A, env, r, E, hf, q⟩ => by
  unfold xOk at hf
  cases hd : f env with
  | none => rw [hd] at hf; cases hf
  | some d => rw [hd] at hf; cases hf; exact ⟨S0, H0, A, env, d, E, hd, q⟩
def xaOk (fa : En → Option (List PyData)) : En → Option RzA := fun env => (fa env).map .ok
theorem xa_ok (h : PA X es (tA X.K c fa)) : PA X es (tAX X.K C W c (xaOk fa)) := pa_w h fun σ H Q ⟨S0, H0, A, env, r, E, hf, q⟩ => by
  unfold xaOk at hf
  cases hd : fa env with
  | none => rw [hd] at hf; cases hf
  | some d => rw [hd] at hf; cases hf; exact ⟨S0, H0, A, env, d, E, hd, q⟩
/-- the first argument may raise, the others not -/
def xaCons (fx : En → Option Rz) (fa : En → Option (List PyData)) : En → Option RzA := fun env => match fx env with
  | some (.ok d) => match fa env with
    | some ds => some (.ok (d :: ds))
    | none => none
  | some (.ex d) => some (.ex d)
  | none => none
theorem xa_cons (ha : PE X e (tX X.K C W c fx)) (hr : PA X es (tA X.K c fa)) (hs : starEach (e :: es) X.env = (false, eval e X.env) :: starEach es X.env := by rfl) : PA X (e :: es) (tAX X.K C W c (xaCons fx fa)) := pa_w (pa_cons ha hr hs) fun σ H Q ⟨S0, H0, A, env, r, E, hf, q⟩ => by
  unfold xaCons at hf
  split at hf
  · rename_i d hd
    split at hf
    · rename_i ds hds
      cases hf
      exact ⟨S0, H0, A, env, .ok d, E, hd, fun v H1 s1 r1 => ⟨S0, H0, A, env, ds, E.grow s1, hds, fun vs H2 s2 r2 => q _ H2 (s1.trans s2) (RpA.cons (r1.grow s2) r2)⟩⟩
    · cases hf
  · rename_i d hd
    cases hf
    exact ⟨S0, H0, A, env, .ex d, E, hd, q⟩
  · cases hf
/-- a call of a def that may raise -/
def xCall (g : List PyData → Option Rz) (fa : En → Option RzA) : En → Option Rz := fun env => match fa env with
  | some (.ok ds) => g ds
  | some (.ex d) => some (.ex d)
  | none => none
theorem xe_call {gd : List PyData → Option Rz} {fa : En → Option RzA} (h : PE X e (tCallS (spX X.K C gd) (WE W) (tAX X.K C W true fa))) : PE X e (tX X.K C W c (xCall gd fa)) := pe_w h fun σ H Q ⟨S0, H0, A, env, r, En, hf, q⟩ => by
  unfold xCall at hf
  split at hf
  · rename_i ds hd
    refine ⟨S0, H0, A, env, .ok ds, En, hd, fun vs H1 s1 r1 => ⟨Cl S0 H0 A, ds, r, r1.wide fun _ z => cl_sc z, hf, ?_⟩⟩
    cases r with
    | ok d => exact fun v H2 s2 r2 => q v H2 (s1.trans s2) (r2.wide fun _ z => bd_sc (En.grow s1) z)
    | ex d => exact fun dx v H2 s2 hx r2 => q dx v H2 (s1.trans s2) hx (r2.wide fun _ z => bd_sc (En.grow s1) z)
  · rename_i d hd
    cases hf
    exact ⟨S0, H0, A, env, .ex d, En, hd, q⟩
  · cases hf
/-- a call of a def that raises nothing, of arguments the first of which may -/
def xCall0 (g : List PyData → Option PyData) (fa : En → Option RzA) : En → Option Rz := fun env => match fa env with
  | some (.ok ds) => (g ds).map .ok
  | some (.ex d) => some (.ex d)
  | none => none
theorem xe_call0 {gd : List PyData → Option PyData} {fa : En → Option RzA} {E0 : XK} (h : PE X e (tCall (spF X.K gd) [] E0 (tAX X.K C W true fa))) : PE X e (tX X.K C W c (xCall0 gd fa)) := pe_w h fun σ H Q ⟨S0, H0, A, env, r, En, hf, q⟩ => by
  unfold xCall0 at hf
  split at hf
  · rename_i ds hd
    refine ⟨S0, H0, A, env, .ok ds, En, hd, fun vs H1 s1 r1 => ?_⟩
    cases hg : gd ds with
    | none => rw [hg] at hf; cases hf
    | some d =>
      rw [hg] at hf
      cases hf
      show spF X.K gd (vs ++ []) H1 Q E0
      rw [List.append_nil]
      exact ⟨Cl S0 H0 A, ds, d, r1.wide fun _ z => cl_sc z, hg, fun v H2 s2 r2 => q v H2 (s1.trans s2) (r2.wide fun _ z => bd_sc (En.grow s1) z)⟩
  · rename_i d hd
    cases hf
    exact ⟨S0, H0, A, env, .ex d, En, hd, q⟩
  · cases hf
/-- a built-in of such arguments -/
theorem xe_cb {sc : Bool} {r : List V → Hp → VK → Prop} {h : List PyData → Option PyData} {fa : En → Option RzA} (R : CROk X.K sc r h) (he : PE X e (tCB r (tAX X.K C W c1 fa))) (hc : sc = true ∨ c2 = c1 := by first | exact .inl rfl | exact .inr rfl) : PE X e (tX X.K C W c2 (xCall0 h fa)) := pe_w he fun σ H Q ⟨S0, H0, A, env, z, E, hf, q⟩ => by
  unfold xCall0 at hf
  split at hf
  · rename_i ds hd
    refine ⟨S0, H0, A, env, .ok ds, E, hd, fun vs H1 s1 r1 => ?_⟩
    cases hg : h ds with
    | none => rw [hg] at hf; cases hf
    | some d =>
      rw [hg] at hf
      cases hf
      exact R (SC c1 S0 H0 A) (SC c2 S0 H0 A) H1 vs ds d Q (fun p hp => sc_new (E.grow s1) hp) (hc.imp id fun z => by rw [z]) r1 hg fun v H2 s2 r2 => q v H2 (s1.trans s2) r2
  · rename_i d hd
    cases hf
    exact ⟨S0, H0, A, env, .ex d, E, hd, q⟩
  · cases hf
/-- x op y, y may raise -/
def x2 (h : PyData → PyData → Option PyData) (f : En → Option PyData) (g : En → Option Rz) : En → Option Rz := fun env => match f env with
  | some x => match g env with
    | some (.ok y) => (h x y).map .ok
    | some (.ex d) => some (.ex d)
    | none => none
  | none => none
theorem xe_op {op : Operator} {r : R2} {h : PyData → PyData → Option PyData} {sc : Bool} {g : En → Option Rz} (ho : OpR X (binaryOp op) r) (R : R2Ok X.K sc r h) (ha : PE X a (tE X.K c1 f)) (hb : PE X b (tX X.K C W c1 g)) (hc : sc = true ∨ c2 = c1 := by first | exact .inl rfl | exact .inr rfl) :
    PE X (.BinOp a op b pos) (tX X.K C W c2 (x2 h f g)) := pe_w (pe_op ho ha hb) fun σ H Q ⟨S0, H0, A, env, z, E, hf, q⟩ => by
  unfold x2 at hf
  split at hf
  · rename_i x hx
    refine ⟨S0, H0, A, env, x, E, hx, fun v H1 s1 r1 => ?_⟩
    split at hf
    · rename_i y hy
      refine ⟨S0, H0, A, env, .ok y, E.grow s1, hy, fun u H2 s2 r2 => ?_⟩
      cases hg : h x y with
      | none => rw [hg] at hf; cases hf
      | some d =>
        rw [hg] at hf
        cases hf
        exact R (SC c1 S0 H0 A) (SC c2 S0 H0 A) H2 v u x y d Q (fun p hp => sc_new (E.grow (s1.trans s2)) hp) (hc.imp id fun z => by rw [z]) (r1.grow s2) r2 hg fun z H3 s3 r3 => q z H3 ((s1.trans s2).trans s3) r3
    · rename_i d hd
      cases hf
      exact ⟨S0, H0, A, env, .ex d, E.grow s1, hd, fun dx v H2 s2 hx r2 => q dx v H2 (s1.trans s2) hx r2⟩
    · cases hf
  · cases hf
/-- [e], e may raise -/
def xLst (fa : En → Option RzA) : En → Option Rz := fun env => match fa env with
  | some (.ok ds) => if ds.length ≤ 1000000 then some (.ok (.list ds)) else none
  | some (.ex d) => some (.ex d)
  | none => none
theorem xe_lst {fa : En → Option RzA} (h : PA X es (tAX X.K C W c fa)) : PE X (.List es pos) (tX X.K C W c (xLst fa)) := pe_w (pe_lst h) fun σ H Q ⟨S0, H0, A, env, r, E, hf, q⟩ => by
  unfold xLst at hf
  split at hf
  · rename_i ds hd
    split at hf
    · rename_i hl
      cases hf
      refine ⟨S0, H0, A, env, .ok ds, E, hd, fun vs H1 s1 r1 => ⟨by rw [r1.length]; exact sz6 hl, fun p hp => q _ _ (s1.trans (same_new hp)) ?_⟩⟩
      rw [Rp]
      exact ⟨p, vs, rfl, .inl ⟨sc_new (E.grow s1) hp, .inl upd_same⟩, r1.grow (same_new hp)⟩
    · cases hf
  · rename_i d hd
    cases hf
    exact ⟨S0, H0, A, env, .ex d, E, hd, q⟩
  · cases hf
/-- list(e), e may raise -/
def xList (g : En → Option Rz) : En → Option Rz := fun env => match g env with
  | some (.ok (.list ds)) => some (.ok (.list ds))
  | some (.ok (.tuple ds)) => some (.ok (.list ds))
  | some (.ex d) => some (.ex d)
  | _ => none
theorem xe_list {g : En → Option Rz} (h : PE X e (tCB (fun xs H Q => ∃ p ys, xs = [.ref p] ∧ (SqL X.K H p ys ∨ SqT X.K H p ys) ∧ ∀ l, H l = none → Q (.ref l) (upd H l (.lst ys))) (tCons (tX X.K C W true g) tNil))) : PE X e (tX X.K C W c (xList g)) := pe_w h fun σ H Q ⟨S0, H0, A, env, r, E, hf, q⟩ => by
  unfold xList at hf
  split at hf
  · rename_i ds hd
    cases hf
    refine ⟨S0, H0, A, env, _, E, hd, fun v H1 s1 r1 => ?_⟩
    rw [Rp] at r1
    obtain ⟨p, xs, rfl, hs, ra⟩ := r1
    refine ⟨p, xs, rfl, .inl hs.sq, fun l hl => q _ _ (s1.trans (same_new hl)) ?_⟩
    rw [Rp]
    exact ⟨l, xs, rfl, .inl ⟨sc_new (E.grow s1) hl, .inl upd_same⟩, (ra.wide fun _ z => sc_cl (cl_sc z)).grow (same_new hl)⟩
  · rename_i ds hd
    cases hf
    refine ⟨S0, H0, A, env, _, E, hd, fun v H1 s1 r1 => ?_⟩
    rw [Rp] at r1
    obtain ⟨p, xs, rfl, hs, ra⟩ := r1
    refine ⟨p, xs, rfl, .inr (live_t hs), fun l hl => q _ _ (s1.trans (same_new hl)) ?_⟩
    rw [Rp]
    exact ⟨l, xs, rfl, .inl ⟨sc_new (E.grow s1) hl, .inl upd_same⟩, (ra.wide fun _ z => sc_cl (cl_sc z)).grow (same_new hl)⟩
  · rename_i d hd
    cases hf
    exact ⟨S0, H0, A, env, .ex d, E, hd, q⟩
  · cases hf
/-! ### statements of such expressions -/
theorem rs_of {K : PySem.W.Frag} {S0 : Addr → Prop} {H0 H H' : Hp} {A : Addr → Prop} {σ : L2.St} {env : En} {D : Ends} {d : PyData} (E : EnvOk K S0 H0 A H σ env) (o : OutOkX K C W S0 H0 A H (.rs env d) D) {dx : Addr} {v : V} (s : Same H H') (hx : H' dx = some (xdW v)) (r : Rp K (SC true S0 H0 A) H' d v) : W (.ref C) (some dx) σ H' :=
  o A H' σ dx v (E.grow s) (Fr.of_same s) Sb.refl hx (r.wide fun _ z => cl_sc z)
def xSet (i : Nat) (fx : En → Option Rz) : En → OutX := fun env => match fx env with
  | some (.ok d) => .nx (env.set i (.val d))
  | some (.ex d) => .rs env d
  | none => .bad
theorem sx_set {i : Nat} (h : PS X st (tAsg (tX X.K C W true fx) (gName i))) : PS X st (tSX X.K C W (xSet i fx)) := ps_w h fun D σ H ⟨S0, H0, A, env, E, o⟩ => by
  unfold xSet at o
  split at o
  · rename_i d hd
    exact ⟨S0, H0, A, env, _, E, hd, fun v H' s r => o A H' _ ((E.grow s).set_val (r.wide fun _ z => cl_sc z)) (Fr.of_same s) Sb.refl⟩
  · rename_i d hd
    exact ⟨S0, H0, A, env, _, E, hd, fun dx v H' s hx r => rs_of E o s hx r⟩
  · exact o.elim
def xUnp (fx : En → Option Rz) (g : PyData → En → Option En) : En → OutX := fun env => match fx env with
  | some (.ok d) => match g d env with
    | some e => .nx e
    | none => .bad
  | some (.ex d) => .rs env d
  | none => .bad
theorem sx_unp {g : PyData → En → Option En} {vs : List Nat} (h : PS X st (tAsg (tX X.K C W true fx) (tG X.K vs g))) : PS X st (tSX X.K C W (xUnp fx g)) := ps_w h fun D σ H ⟨S0, H0, A, env, E, o⟩ => by
  unfold xUnp at o
  split at o
  · rename_i d hd
    split at o
    · rename_i e hg
      exact ⟨S0, H0, A, env, _, E, hd, fun v H1 s r => ⟨S0, H0, A, env, d, e, E.grow s, r.wide fun _ z => cl_sc z, hg, fun σ' E' _ => o A H1 σ' E' (Fr.of_same s) Sb.refl⟩⟩
    · exact o.elim
  · rename_i d hd
    exact ⟨S0, H0, A, env, _, E, hd, fun dx v H' s hx r => rs_of E o s hx r⟩
  · exact o.elim
def xRet (fx : En → Option Rz) : En → OutX := fun env => match fx env with
  | some (.ok d) => .rt d
  | some (.ex d) => .rs env d
  | none => .bad
theorem sx_ret (h : PE X e (tX X.K C W true fx)) : PS X (.Return (some e) pos) (tSX X.K C W (xRet fx)) := ps_w (ps_ret h) fun D σ H ⟨S0, H0, A, env, E, o⟩ => by
  unfold xRet at o
  split at o
  · rename_i d hd
    exact ⟨S0, H0, A, env, _, E, hd, fun v H' sm r => o v H' (E.same.trans sm) (r.wide fun _ z => (cl_sc z).1)⟩
  · rename_i d hd
    exact ⟨S0, H0, A, env, _, E, hd, fun dx v H' s hx r => rs_of E o s hx r⟩
  · exact o.elim
/-! ### try .. except Refused as e -/
def wipeO (i : Nat) : Out → Out
  | .nx e => .nx (e.set i .un)
  | .bk e => .bk (e.set i .un)
  | .ct e => .ct (e.set i .un)
  | .rt d => .rt d
  | .bad => .bad
open Classical in
noncomputable def sTry (i : Nat) (body : En → OutX) (suite : Addr → Addr → En → Out) : En → Out := fun env => match body env with
  | .nx e => .nx e
  | .bk e => .bk e
  | .ct e => .ct e
  | .rt d => .rt d
  | .bad => .bad
  | .rs e d => if h : ∃ o, ∀ a dd, wipeO i (suite a dd (e.set i (.exc a dd d))) = o then Classical.choose h else .bad
theorem EnvOk.set_exc {K : PySem.W.Frag} {S0 : Addr → Prop} {H0 H : Hp} {A : Addr → Prop} {σ : L2.St} {env : En} (E : EnvOk K S0 H0 A H σ env) {i : Nat} {a dd : Addr} {d : PyData} {u : V} (h1 : H dd = some (xdW u)) (h2 : Rp K (Cl S0 H0 A) H d u) : EnvOk K S0 H0 A H (σ.set i (some (.ref a))) (env.set i (.exc a dd d)) where
  len := by simp [E.len]
  sl := fun j s q => by
    rcases set_get q with ⟨rfl, l, rfl⟩ | ⟨n, q⟩
    · exact .inr ⟨_, set_self (by rw [E.len]; exact l), rfl, u, h1, h2⟩
    · rw [set_other n]
      exact E.sl j s q
  dis := fun j k s t b q1 q2 o1 o2 q3 q4 => by
    rcases set_get q1 with ⟨_, _, z⟩ | ⟨n1, q1⟩
    · subst z; cases o1
    rcases set_get q2 with ⟨_, _, z⟩ | ⟨n2, q2⟩
    · subst z; cases o2
    rw [set_other n1] at q3
    rw [set_other n2] at q4
    exact E.dis j k s t b q1 q2 o1 o2 q3 q4
  tr := E.tr
  nw := E.nw
  same := E.same
theorem pss_ex {ι : Type} {P : ι → Prop} {t : ι → TS} (h : ∀ i, P i → PSs X sts (t i)) : PSs X sts (fun D σ H => ∃ i, P i ∧ t i D σ H) := ⟨fun pins s σ H D I ⟨i, p, q⟩ => (h i p).run pins s σ H D I q⟩
/-- what the suite's text does to data, the exception at a, its dict at dd -/
def tsE (K : PySem.W.Frag) (C : Addr) (suite : Addr → Addr → En → Out) : Addr → Value → Option Addr → TS := fun a cls dx D σ H => ∃ dd, (cls = .ref C ∧ dx = some dd) ∧ tS K (suite a dd) D σ H
open Classical in
theorem cs_tryAs {i : Nat} {body : En → OutX} {suite : Addr → Addr → En → Out} {Wout : WX} (T : PySem.RfX.RfTxt X.prog X.K X.mg C fI) (h : PS X st (fun D σ H => tSX X.K C (wAs X.K (.ref C) i (tsE X.K C suite) Wout D) body D σ H)) : PS X st (tS X.K (sTry i body suite)) := ps_w h fun D σ H ⟨S0, H0, A, env, E, o⟩ => by
  refine ⟨S0, H0, A, env, E, ?_⟩
  unfold sTry at o
  cases hb : body env with
  | nx e => rw [hb] at o; exact o
  | bk e => rw [hb] at o; exact o
  | ct e => rw [hb] at o; exact o
  | rt d => rw [hb] at o; exact o
  | bad => rw [hb] at o; exact o
  | rs e d =>
    rw [hb] at o
    intro A' H' σ' dx v E' f' b' hx r
    refine ⟨true, T.te, fun _ a ha => ?_, fun q => nomatch q⟩
    replace o : OutOk X.K S0 H0 A H (if h : ∃ o, ∀ a dd, wipeO i (suite a dd (e.set i (.exc a dd d))) = o then Classical.choose h else .bad) D := o
    split at o
    · rename_i hex
      have hch := Classical.choose_spec hex a dx
      refine ⟨dx, ⟨rfl, rfl⟩, S0, H0, A', _, E'.set_exc (a := a) (dd := dx) hx r, ?_⟩
      have o' := OutOk.step o f' b'
      rw [← hch] at o'
      cases hs : suite a dx (e.set i (.exc a dx d)) with
      | nx e2 =>
        rw [hs] at o'
        exact fun A2 H2 σ2 E2 f2 b2 => o' A2 H2 _ (E2.un i none) f2 b2
      | bk e2 =>
        rw [hs] at o'
        exact fun A2 H2 σ2 E2 f2 b2 => o' A2 H2 _ (E2.un i none) f2 b2
      | ct e2 =>
        rw [hs] at o'
        exact fun A2 H2 σ2 E2 f2 b2 => o' A2 H2 _ (E2.un i none) f2 b2
      | rt v2 => rw [hs] at o'; exact o'
      | bad => rw [hs] at o'; exact o'.elim
    · exact o.elim
/-- try .. except Refused, without a name -/
def sTry0 (body : En → OutX) (suite : En → Out) : En → Out := fun env => match body env with
  | .nx e => .nx e
  | .bk e => .bk e
  | .ct e => .ct e
  | .rt d => .rt d
  | .bad => .bad
  | .rs e _ => suite e
theorem cs_try0 {body : En → OutX} {suite : En → Out} {Wout : WX} (T : PySem.RfX.RfTxt X.prog X.K X.mg C fI) (h : PS X st (fun D σ H => tSX X.K C (wOnly X.K (.ref C) (fun _ _ _ => tS X.K suite) Wout D) body D σ H)) : PS X st (tS X.K (sTry0 body suite)) := ps_w h fun D σ H ⟨S0, H0, A, env, E, o⟩ => by
  refine ⟨S0, H0, A, env, E, ?_⟩
  unfold sTry0 at o
  cases hb : body env with
  | nx e => rw [hb] at o; exact o
  | bk e => rw [hb] at o; exact o
  | ct e => rw [hb] at o; exact o
  | rt d => rw [hb] at o; exact o
  | bad => rw [hb] at o; exact o
  | rs e d =>
    rw [hb] at o
    intro A' H' σ' dx v E' f' b' hx r
    exact ⟨true, T.te, fun _ a ha => ⟨S0, H0, A', e, E', OutOk.step o f' b'⟩, fun q => nomatch q⟩
open Classical in
theorem sTry_ev {i : Nat} {body : En → OutX} {suite : Addr → Addr → En → Out} {env e : En} {d : PyData} {o : Out} (h1 : body env = .rs e d) (h2 : ∀ a dd, wipeO i (suite a dd (e.set i (.exc a dd d))) = o) : sTry i body suite env = o := by
  unfold sTry
  rw [h1]
  have hex : ∃ o, ∀ a dd, wipeO i (suite a dd (e.set i (.exc a dd d))) = o := ⟨o, h2⟩
  show (if h : _ then Classical.choose h else .bad) = o
  rw [dif_pos hex]
  rw [← Classical.choose_spec hex 0 0, h2]
/-- e.what -/
def eWhat (i : Nat) (a dd : Addr) : En → Option PyData := fun env => match env[i]? with
  | some (.exc a' dd' d) => if a' = a ∧ dd' = dd then some d else none
  | _ => none
theorem ce_what {i : Nat} {a dd : Addr} {oe : Obj} {cls : Value} {dx : Option Addr} {pn : List (Addr × Obj)} (T : PySem.RfX.RfTxt X.prog X.K X.mg C fI) (hz : Zc cls dx oe) (hf : ∃ vs, oe.data = .fields vs) (h1 : cls = .ref C) (h2 : dx = some dd) (he : PE (X.suite a ((a, oe) :: pn)) e (tVar i))
    (hb : attributeBase e "what" X.env (eval e X.env) = eval e X.env := by rfl) : PE (X.suite a ((a, oe) :: pn)) (.Attribute e "what" pos) (tE X.K true (eWhat i a dd)) := pe_w (pe_byRf T hz hf he hb) fun σ H Q ⟨S0, H0, A, env, d, E, hd, q⟩ => by
  unfold eWhat at hd
  split at hd
  · rename_i a' dd' d' hi
    split at hd
    · rename_i hh
      cases hd
      obtain ⟨rfl, rfl⟩ := hh
      rcases E.sl i _ hi with z | ⟨v, k1, rfl, u, k2, k3⟩
      · cases z
      exact ⟨_, k1, rfl, h1, dd', u, h2, k2, q u H (Same.refl H) (k3.wide fun _ z => sc_cl z)⟩
    · cases hd
  · cases hd
end
/-! ### a def -/
def outDX : OutX → Option Rz
  | .rt d => some (.ok d)
  | .nx _ => some (.ok .none)
  | .rs _ d => some (.ex d)
  | _ => none
def gDefX (np nN : Nat) (fB : En → OutX) : List PyData → Option Rz := fun ds => if ds.length = np then outDX (fB (env0 nN ds)) else none
section
variable {K : PySem.W.Frag} {P : Program} {w : World} {mg : Str → Option Value} {base : Heap} {C : Addr}
theorem start_ok {N : List Str} {ds : List PyData} {vs : List V} {S : Addr → Prop} {H : Hp} (r : RpA K S H ds vs) : EnvOk K S H (fun _ => False) H (L2.start N vs) (env0 N.length ds) := by
  have h : spF K (gDef ds.length N.length fun _ => .rt .none) vs H (fun _ _ => True) (fun _ _ _ => True) := ⟨S, ds, .none, r, by unfold gDef; rw [if_pos rfl]; rfl, fun _ _ _ _ => trivial⟩
  refine ⟨?_, fun i s e => ?_, fun i j es fs a e1 _ o1 => ?_, fun _ z => z.elim, fun _ z => z.elim, Same.refl H⟩
  · simp [L2.start, env0, r.length]
  · unfold env0 at e
    by_cases hi : i < ds.length
    · rw [List.getElem?_append_left (by simpa using hi), List.getElem?_map, List.getElem?_eq_getElem hi] at e
      cases e
      obtain ⟨v, e1, e2⟩ := r.get (List.getElem?_eq_getElem hi)
      refine .inr ⟨v, ?_, e2.wide fun a z => ⟨.inl z, fun y => y⟩⟩
      unfold L2.start
      rw [List.getElem?_append_left (by simpa [r.length] using hi), List.getElem?_map, e1]
      rfl
    · rw [List.getElem?_append_right (by simpa using Nat.le_of_not_lt hi)] at e
      exact .inl (List.eq_of_mem_replicate (List.mem_of_getElem? e))
  · exfalso
    unfold env0 at e1
    by_cases hi : i < ds.length
    · rw [List.getElem?_append_left (by simpa using hi), List.getElem?_map, List.getElem?_eq_getElem hi] at e1
      cases e1
      cases o1
    · rw [List.getElem?_append_right (by simpa using Nat.le_of_not_lt hi)] at e1
      cases (List.eq_of_mem_replicate (List.mem_of_getElem? e1))
      cases o1
theorem def_runX {N : List Str} {np : Nat} {fB : En → OutX} {vs : List V} {H : Hp} {Q : VK} {E : XK} (h : spX K C (gDefX np N.length fB) vs H Q E) : tSX K C (fun cls d _ H => E cls d H) fB { nx := fun _ H' => Q .non H', rt := Q } (L2.start N vs) H := by
  obtain ⟨S, ds, z, r, hg, q⟩ := h
  unfold gDefX at hg
  split at hg
  · refine ⟨S, H, fun _ => False, env0 N.length ds, start_ok r, ?_⟩
    cases ho : fB (env0 N.length ds) with
    | rt v => rw [ho] at hg; cases hg; exact q
    | nx e => rw [ho] at hg; cases hg; exact fun A' H' σ' E' _ _ => q _ H' E'.same (by rw [Rp])
    | bk e => rw [ho] at hg; cases hg
    | ct e => rw [ho] at hg; cases hg
    | rs e d => rw [ho] at hg; cases hg; exact fun A' H' σ' dx v E' _ _ hx r => q dx v H' E'.same hx (r.wide fun _ z => z.1)
    | bad => rw [ho] at hg; cases hg
  · cases hg
theorem fn_okX {x qual : Str} {st : Stmt} {f : Addr} {fd : FuncData} {N ps : List Str} {k np nN : Nat} {fB : En → OutX} {g : List PyData → Option Rz} (F : Fun K x qual st f fd) (S : FnScope N ps (defScope st)) (hp : np = ps.length) (hN : nN = N.length) (hg : g = gDefX np nN fB)
    (hb : ∀ (cdv : Value) (A : Around) (outer : List Env) (s : Shared) (H : Hp) (E : XK), Room k (A.deeper (envOfC qual (defScope st) s.heap.objs.size f cdv)) → PSs (cxOf (L2.CX P w) P w K mg base N qual (defScope st) f cdv A outer s H E) (defBody st) (tSX K C (fun cls d _ H => E cls d H) fB)) :
    FnOk P w K mg base (L2.CX P w) (k + 1) f fd ps (spX K C g) := by
  subst hp hN hg
  refine F.okX S (fun vs H Q E h => ?_) fun cdv A outer s H vs Q E hr h => ⟨_, hb cdv A outer s H E hr, def_runX h⟩
  obtain ⟨S', ds, d, r, hg, _⟩ := h
  unfold gDefX at hg
  split at hg
  · rw [r.length]; assumption
  · cases hg
end
end Mir

namespace Mir
open PySem PySem.Spec PyProof.Rows L2
section
variable {X : Cx} {e a b : Expr} {st : Stmt} {pos p : Pos} {c c1 c2 : Bool} {f g : En → Option PyData} {x : Str}
/-! ### a dict of the module with text keys and text values -/
def eKd (tab : List (Str × Str)) (g : En → Option PyData) : En → Option PyData := fun env => match g env with
  | some (.str z) => (tab.find? fun q => decide (q.1 = z)).map fun q => .str q.2
  | _ => none
theorem ce_kd {tab : List (Str × Str)} {d : Addr} (hg : Gl X x) (hm : X.mg x = some (.ref d)) (D : ∀ q ∈ tab, KDct X.K X.w d q.1 (.str q.2)) (hb : PE X b (tE X.K c1 g)) (hs : PlainIx b) (hd : (x == ("__debug__" : Str)) = false := by decide) : PE X (.Subscript (.Name x p) b pos) (tE X.K true (eKd tab g)) :=
  pe_w (pe_ix ix_kdict (pe_glob (v := .ref d) hg hm rfl hd) hb hs) fun σ H Q ⟨S0, H0, A, env, z, E, hf, q⟩ => by
    unfold eKd at hf
    split at hf
    · rename_i y hy
      cases hk : tab.find? fun q => decide (q.1 = y) with
      | none => rw [hk] at hf; cases hf
      | some r =>
        rw [hk] at hf
        cases hf
        have h1 := List.find?_some hk
        have h2 := List.mem_of_find?_eq_some hk
        refine ⟨S0, H0, A, env, _, E, hy, fun u H1 s1 r1 => ?_⟩
        rw [Rp] at r1
        have e1 : r.1 = y := by simpa using h1
        exact ⟨d, y, .str r.2, rfl, r1, e1 ▸ D r h2, q _ H1 s1 rps⟩
    · cases hf
/-! ### x.bit_length() -/
def bitsD : PyData → Option PyData
  | .int i => some (.int (Builtin.Int.intBits i : Nat))
  | _ => none
theorem ce_bits (h : PE X e (tBits (tE X.K c1 f))) : PE X e (tE X.K c (e1 bitsD f)) := pe_w h fun σ H Q ⟨S0, H0, A, env, d, E, hf, q⟩ => by
  unfold e1 at hf
  split at hf
  · rename_i x hx
    refine ⟨S0, H0, A, env, _, E, hx, fun v H1 s1 r1 => ?_⟩
    cases x with
    | int i =>
      rw [Rp] at r1
      cases hf
      exact ⟨i, r1, q _ H1 s1 (by rw [Rp])⟩
    | _ => cases hf
  · cases hf
/-! ### a def that may raise, called where it doesn't -/
def eCallNR (g : List PyData → Option Rz) (fa : En → Option (List PyData)) : En → Option PyData := fun env => match fa env with
  | some ds => match g ds with
    | some (.ok d) => some d
    | _ => none
  | none => none
theorem ce_callNR {C : Addr} {gd : List PyData → Option Rz} {fa : En → Option (List PyData)} (h : PE X e (tCallS (spX X.K C gd) (WE fun _ _ _ _ => False) (tA X.K true fa))) : PE X e (tE X.K c (eCallNR gd fa)) := pe_w h fun σ H Q ⟨S0, H0, A, env, r, En, hf, q⟩ => by
  unfold eCallNR at hf
  split at hf
  · rename_i ds hd
    split at hf
    · rename_i d hg
      cases hf
      exact ⟨S0, H0, A, env, ds, En, hd, fun vs H1 s1 r1 => ⟨Cl S0 H0 A, ds, .ok _, r1.wide fun _ z => cl_sc z, hg, fun v H2 s2 r2 => q v H2 (s1.trans s2) (r2.wide fun _ z => bd_sc (En.grow s1) z)⟩⟩
    · cases hf
  · cases hf
/-! ### a, b = x, y -/
def sPar (i j : Nat) (fa : En → Option (List PyData)) : En → Out := fun env => match fa env with
  | some [d1, d2] => .nx ((env.set i (.val d1)).set j (.val d2))
  | _ => .bad
theorem cs_par {i j : Nat} {fa : En → Option (List PyData)} (h : PS X st (tPar i j (tA X.K true fa))) : PS X st (tS X.K (sPar i j fa)) := ps_w h fun D σ H ⟨S0, H0, A, env, E, o⟩ => by
  unfold sPar at o
  split at o
  · rename_i d1 d2 hd
    refine ⟨S0, H0, A, env, _, E, hd, fun vs H1 s1 r1 => ?_⟩
    obtain ⟨v, u, rfl, r2, r3⟩ := r1.two
    exact ⟨v, u, rfl, o A H1 _ (((E.grow s1).set_val (r2.wide fun _ z => cl_sc z)).set_val (r3.wide fun _ z => cl_sc z)) (Fr.of_same s1) Sb.refl⟩
  · exact o.elim
/-! ### max over a tuple -/
def rMxT (K : PySem.W.Frag) (k : Int → List Int → Int) : List V → Hp → VK → Prop := fun vs H Q => ∃ a n ns, vs = [.ref a] ∧ SqT K H a ((n :: ns).map V.int) ∧ Q (.int (k n ns)) H
theorem call_mxT (hc : X.calm = true) (hu : X.A.units + 64 < cLine) : CallR X (.builtin "max") (rMxT X.K mxI) := by
  intro pins s σ H vs us Q I r h
  obtain ⟨a, n, ns, rfl, hs, q⟩ := h
  obtain ⟨its, rv, hl, _⟩ := I.tuple hs
  rw [Vals.ref1 r]
  obtain ⟨as, ra⟩ := readsInts (h := s.heap) rv
  refine PySem.W.max_tuple_data (I.ok.hd hc) hl (by rw [List.toList_toArray]; exact ra) (alike_ints (n :: ns)) (by rw [show PyData.int n :: ns.map PyData.int = (n :: ns).map PyData.int from rfl, depth_ints]; omega) fun i v h' tk bs hi rr k => ?_
  rw [PySem.W.maxD_ints] at rr
  obtain ⟨t, rfl⟩ := reads_int rr
  exact ⟨.int _, H, I.kept (t' := tk) k, ⟨_, rfl⟩, by rw [mxI_max]; exact q⟩
def mxTA (k : Int → List Int → Int) : List PyData → Option PyData
  | [.tuple ds] => match intsD ds with
    | some (n :: ns) => some (.int (k n ns))
    | _ => none
  | _ => none
theorem cr_mxT {K : PySem.W.Frag} {k : Int → List Int → Int} : CROk K true (rMxT K k) (mxTA k) := by
  intro S S' H vs ds d Q _ _ r h q
  unfold mxTA at h
  split at h
  · replace r := r.one
    obtain ⟨v, rfl, r⟩ := r
    rw [Rp] at r
    obtain ⟨a, xs, rfl, hs, ra⟩ := r
    split at h
    · rename_i n ns hi
      cases h
      obtain ⟨e1, _⟩ := intsD_rp hi ra
      subst e1
      exact ⟨a, n, ns, rfl, live_t hs, q _ H (Same.refl H) rp1⟩
    · cases h
  · cases h
end
end Mir

/-! Mir11: a def handed over as the first argument, and called by its local name -/
namespace Mir
open PySem PySem.Spec PyProof.Rows L2
section
variable {K : PySem.W.Frag} {P : Program} {w : World} {mg : Str → Option Value} {base : Heap} {C : Addr}
def env1 (a : Addr) (nN : Nat) (ds : List PyData) : En := .fn a :: env0 (nN - 1) ds
def gDef1 (a : Addr) (np nN : Nat) (fB : En → Out) : List PyData → Option PyData := fun ds => if ds.length = np then outD (fB (env1 a nN ds)) else none
def sp1 (a : Addr) (sp : Sp) : Sp := fun vs H Q E => ∃ us, vs = .ref a :: us ∧ sp us H Q E
theorem EnvOk.cons_fn {S : Addr → Prop} {H : Hp} {σ : L2.St} {env : En} {a : Addr} (E : EnvOk K S H (fun _ => False) H σ env) (no : ∀ s ∈ env, ow s = false) : EnvOk K S H (fun _ => False) H (some (.ref a) :: σ) (.fn a :: env) where
  len := by simp [E.len]
  sl := fun i s h => by
    cases i with
    | zero => cases h; exact .inr ⟨_, rfl, rfl⟩
    | succ i => exact E.sl i s h
  dis := fun i j s t b h1 h2 o1 o2 _ _ => by
    exfalso
    cases i with
    | zero => cases h1; cases o1
    | succ i =>
      have := no s (List.mem_of_getElem? h1)
      rw [this] at o1
      cases o1
  tr := fun _ z => z.elim
  nw := fun _ z => z.elim
  same := E.same
theorem env0_ow (nN : Nat) (ds : List PyData) : ∀ s ∈ env0 nN ds, ow s = false := fun s h => by
  unfold env0 at h
  rcases List.mem_append.mp h with h | h
  · obtain ⟨d, _, rfl⟩ := List.mem_map.mp h
    rfl
  · rw [List.eq_of_mem_replicate h]
    rfl
theorem start_ok1 {N : List Str} {ds : List PyData} {us : List V} {S : Addr → Prop} {H : Hp} {a : Addr} (hN : N ≠ []) (r : RpA K S H ds us) : EnvOk K S H (fun _ => False) H (L2.start N (.ref a :: us)) (env1 a N.length ds) := by
  cases N with
  | nil => exact absurd rfl hN
  | cons x N =>
    have e : L2.start (x :: N) (.ref a :: us) = some (.ref a) :: L2.start N us := by
      unfold L2.start
      rw [List.map_cons, List.length_cons, List.length_cons, Nat.add_sub_add_right]
      rfl
    rw [e]
    exact (start_ok (N := N) r).cons_fn (env0_ow _ _)
theorem def_run1 {N : List Str} {np : Nat} {fB : En → Out} {vs : List V} {H : Hp} {Q : VK} {E : XK} {a : Addr} (hN : N ≠ []) (h : sp1 a (spF K (gDef1 a np N.length fB)) vs H Q E) : tS K fB { nx := fun _ H' => Q .non H', rt := Q } (L2.start N vs) H := by
  obtain ⟨us, rfl, S, ds, d, r, hg, q⟩ := h
  unfold gDef1 at hg
  split at hg
  · refine ⟨S, H, fun _ => False, env1 a N.length ds, start_ok1 hN r, ?_⟩
    cases ho : fB (env1 a N.length ds) with
    | rt v =>
      rw [ho] at hg
      cases hg
      exact q
    | nx e =>
      rw [ho] at hg
      cases hg
      exact fun A' H' σ' E' _ _ => q _ H' E'.same (by rw [Rp])
    | bk e => rw [ho] at hg; cases hg
    | ct e => rw [ho] at hg; cases hg
    | bad => rw [ho] at hg; cases hg
  · cases hg
theorem fn_ok1 {x qual : Str} {st : Stmt} {f a : Addr} {fd : FuncData} {N ps : List Str} {k np nN : Nat} {fB : En → Out} {g : List PyData → Option PyData} (F : Fun K x qual st f fd) (S : FnScope N ps (defScope st)) (hp : np + 1 = ps.length) (hN : nN = N.length) (hn : N ≠ []) (hg : g = gDef1 a np nN fB)
    (hb : ∀ (cdv : Value) (A : Around) (outer : List Env) (s : Shared) (H : Hp) (E : XK), Room k (A.deeper (envOfC qual (defScope st) s.heap.objs.size f cdv)) → PSs (cxOf CX0 P w K mg base N qual (defScope st) f cdv A outer s H E).nox (defBody st) (tS K fB)) :
    FnOk P w K mg base CX0 (k + 1) f fd ps (sp1 a (spF K g)) := by
  subst hN hg
  refine F.ok S (fun vs H Q E h => ?_) fun cdv A outer s H vs Q E hr h => ⟨_, hb cdv A outer s H E hr, def_run1 hn h⟩
  obtain ⟨us, rfl, S', ds, d, r, hg, _⟩ := h
  unfold gDef1 at hg
  split at hg
  · rw [List.length_cons, r.length, ← hp]; omega
  · cases hg
open Classical in
/-- whatever the address -/
noncomputable def gAll (g : Addr → List PyData → Option PyData) : List PyData → Option PyData := fun ds => if h : ∃ d, ∀ a, g a ds = some d then some (Classical.choose h) else none
theorem gAll_of {g : Addr → List PyData → Option PyData} {ds : List PyData} {d : PyData} (h : gAll g ds = some d) (a : Addr) : g a ds = some d := by
  unfold gAll at h
  split at h
  · rename_i hx
    cases h
    exact Classical.choose_spec hx a
  · cases h
theorem gAll_ev {g : Addr → List PyData → Option PyData} {ds : List PyData} {d : PyData} (h : ∀ a, g a ds = some d) : gAll g ds = some d := by
  have hx : ∃ d, ∀ a, g a ds = some d := ⟨d, h⟩
  unfold gAll
  rw [dif_pos hx, ← Classical.choose_spec hx 0, h]
theorem fn_imp1 {k : Nat} {f a : Addr} {fd : FuncData} {ps : List Str} {g : Addr → List PyData → Option PyData} (F : FnOk P w K mg base CX0 k f fd ps (sp1 a (spF K (g a)))) : FnOk P w K mg base CX0 k f fd ps (sp1 a (spF K (gAll g))) :=
  F.imp fun vs H Q E ⟨us, e, S, ds, d, r, hg, q⟩ => ⟨us, e, S, ds, d, r, gAll_of hg a, q⟩
end
section
variable {X : Cx} {CX : CXT} {k i : Nat} {f a : Addr} {fd : FuncData} {ps : List Str} {sp : Sp} {x : Str} {p pos : Pos} {e : Expr} {es : List Expr} {t : TA} {c : Bool} {fa : En → Option (List PyData)} {gd : List PyData → Option PyData}
/-- h(def, ..) -/
theorem ce_call1 {E0 : XK} (h : PE X e (tCall (sp1 a (spF X.K gd)) [] E0 (tCons (tC (.ref a)) (tA X.K true fa)))) : PE X e (tE X.K c (eCall gd fa)) := pe_w h fun σ H Q q => by
  have z := call_run (E := E0) q
  obtain ⟨S0, H0, A, env, ds, En, hd, q⟩ := z
  refine ⟨S0, H0, A, env, ds, En, hd, fun vs H1 s1 r1 => ?_⟩
  exact ⟨vs ++ [], rfl, q vs H1 s1 r1⟩
/-- the def in slot i, called; it may raise -/
def tCallLS (i : Nat) (f : Addr) (sp : Sp) (E : L2.St → XK) (t : TA) : TE := fun σ H Q => σ[i]? = some (some (.ref f)) ∧ t σ H fun vs H1 => sp vs H1 Q (E σ)
theorem pe_callLS {E : L2.St → XK} (F : FnOk X.prog X.w X.K X.mg X.base CX k f fd ps sp) (hr : Room k X.A) (hN : X.N[i]? = some x) (hv : Vis X.env.scope x) (hk : PySem.W.keepIn X.K (.ref f) = true) (hb : Binds X.K fd ps []) (hx : ∀ σ, PassesAt CX X σ (E σ)) (ha : PA X (e :: es) t)
    (hdb : (x == ("__debug__" : Str)) = false := by decide) (hcd : (x == ("__classdict__" : Str)) = false := by decide)
    (he : starEach (e :: es) X.env = (false, eval e X.env) :: starEach es X.env := by rfl) (hpl : (backTo pos (starEach es X.env)).any (·.1) = false := by rfl) : PE X (.Call (.Name x p) (e :: es) [] pos) (tCallLS i f sp E t) := by
  refine ⟨fun pins s σ H Q I h => ?_⟩
  obtain ⟨hs, ht⟩ := h
  refine wpAny_Call_Name_kw (thn ((pe_var (pos := p) hN hv hdb hcd).run pins s σ H (fun v H1 => v = .ref f ∧ H1 = H) I ⟨.ref f, hs, rfl, rfl⟩) fun u s1 ⟨v, H1, I1, r1, q1⟩ => ?_)
  obtain ⟨rfl, rfl⟩ := q1
  cases r1
  refine PySem.W.callWith_K (h₀ := X.base) I.ok.mod.kin hk (thn (ha.run pos pins s1 σ _ _ I1 ht) fun us s2 ⟨vs, H2, I2, r, q⟩ => ⟨I2.kIn, ?_⟩) he hpl
  exact run_fnS F hr hb (hx σ) I2 r q
def xCallF (i : Nat) (a : Addr) (g : List PyData → Option Rz) (fa : En → Option RzA) : En → Option Rz := fun env => match env[i]? with
  | some (.fn b) => if b = a then xCall g fa env else none
  | _ => none
theorem xe_callF {C : Addr} {W : WX} {gx : List PyData → Option Rz} {fx : En → Option RzA} (hs : PE X e (tCallLS i a (spX X.K C gx) (WE W) (tAX X.K C W true fx))) : PE X e (tX X.K C W c (xCallF i a gx fx)) := pe_w hs fun σ H Q ⟨S0, H0, A, env, r, En, hf, q⟩ => by
  unfold xCallF at hf
  split at hf
  · rename_i b hb
    split at hf
    · rename_i e
      subst e
      have h1 : σ[i]? = some (some (.ref b)) := by
        rcases En.sl i _ hb with z | ⟨v, h1, h2⟩
        · cases z
        · rw [h1, (show v = .ref b from h2)]
      refine ⟨h1, ?_⟩
      unfold xCall at hf
      split at hf
      · rename_i ds hd
        refine ⟨S0, H0, A, env, .ok ds, En, hd, fun vs H1 s1 r1 => ⟨Cl S0 H0 A, ds, r, r1.wide fun _ z => cl_sc z, hf, ?_⟩⟩
        cases r with
        | ok d => exact fun v H2 s2 r2 => q v H2 (s1.trans s2) (r2.wide fun _ z => bd_sc (En.grow s1) z)
        | ex d => exact fun dx v H2 s2 hx r2 => q dx v H2 (s1.trans s2) hx (r2.wide fun _ z => bd_sc (En.grow s1) z)
      · rename_i d hd
        cases hf
        exact ⟨S0, H0, A, env, .ex d, En, hd, q⟩
      · cases hf
    · cases hf
  · cases hf
end
end Mir

/-! Mir12: x.extend(y), y any list that is told as data -/
namespace Mir
open PySem PySem.Spec PyProof.Rows L2
theorem sub_list_tuple' : isSubtype (.type "list") (.type "tuple") = pure false := by rw [isSubtype_type]; kernel_rfl
theorem list_extend_any (l : Addr) (items : Array Value) (n : Nat) (b : Addr) (items2 : Array Value) (n2 : Nat) (sl : Array (Option Value)) (hc0 : ¬(!items.isEmpty && Builtin.List.listTooLong (items.size + items2.size)) = true) (hc1 : items.size ≤ sizeLine) (hs2 : items.size + items2.size ≤ sizeLine + 1) :
    Meets (Builtin.«list.extend» ⟨[.ref l, .ref b], []⟩) (fun _ R s => s.heap.get? l = some { cls := .type "list", dict := none, data := .seq items n, slots := #[] } ∧ s.heap.get? b = some { cls := .type "list", dict := none, data := .seq items2 n2, slots := sl } ∧ R (.ok (.ret Value.none)) { s with heap := s.heap.update l (Obj.mapSeq fun x => x ++ items2), toks := s.toks }) :=
  .of_wp fun prog w A R s h => by
    obtain ⟨hp, g, d, tk, os⟩ := s; obtain ⟨hl, hb, h⟩ := h; have f1 := AutoSeq1.idx_int; have f2 := AutoSeq1.sub_tuple_tuple; have f3 := AutoSeq1.sub_list_list; have f4 := AutoSeq1.sub_tuple_list; have f5 := AutoSeq1.sub_list_tuple;
    have hz' : (items ++ items2).size ≤ sizeLine + 1 := by rw [Array.size_append]; exact hs2
    wp_walk using (wpAny_updateSeq hl rfl (hz := hc1) (_hz' := hz')), wpAny_loadPart' hl, wpAny_loadPart' hb; exact ⟨_, rfl, h⟩
def rExtA (K : PySem.W.Frag) : V → List V → Hp → VK → Prop := fun x vs H Q => ∃ l b xs zs, x = .ref l ∧ vs = [.ref b] ∧ H l = some (.lst xs) ∧ SqL K H b zs ∧ xs.length + zs.length ≤ sizeLine ∧ Q .non (upd H l (.lst (xs ++ zs)))
section
variable {X : Cx} {st : Stmt} {f : En → Option PyData}
theorem mt_extA : MtM X "list.extend" (rExtA X.K) := by
  intro pins s σ H x vs v us Q I rx rv h
  obtain ⟨l, b, xs, zs, rfl, rfl, hH, hB, hz, q⟩ := h
  cases rx
  obtain ⟨u, rfl, ru⟩ := rv.one
  cases ru
  obtain ⟨z, its, n, r, hl, e⟩ := I.lstM hH
  obtain ⟨its2, r2, ⟨⟨cls, dd, data, sl⟩, n2, e2, hc, hd, hs⟩, z2⟩ := I.list hB
  simp only at hc hd hs
  subst hc hd hs
  have hl2 := r2.length
  have hsz : its.toArray.size + its2.toArray.size ≤ sizeLine := by rw [List.size_toArray, List.size_toArray]; omega
  have hlong : ¬ (!its.toArray.isEmpty && Builtin.List.listTooLong (its.toArray.size + its2.toArray.size)) = true := by
    rw [notLongL hsz, Bool.and_false]
    exact Bool.false_ne_true
  refine call_meets F.slot_list_extend ⟨_, e, rfl⟩ F.entry_list_extend (F.args_list_extend_2 _ _)
    (list_extend_any l its.toArray n b its2.toArray n2 sl hlong (by rw [List.size_toArray]; omega) (by omega)) ⟨e, e2, ?_⟩
  refine ⟨.non, _, I.lset (its' := its ++ its2) hH e (by simp) (r.append r2) ?_, rfl, q⟩
  rw [List.length_append]
  omega
def sExt (i : Nat) (f : En → Option PyData) : En → Out := fun env => match f env with
  | some (.list es) => match env[i]? with
    | some (.own ds) => if ds.length + es.length < 1000000 then .nx (env.set i (.own (ds ++ es))) else .bad
    | _ => .bad
  | _ => .bad
theorem cs_ext {i : Nat} (h : PS X st (tDrop (tBM X.K "list" (rExtA X.K) (tVar i) (tCons (tE X.K true f) tNil)))) : PS X st (tS X.K (sExt i f)) := ps_w h fun D σ H ⟨S0, H0, A, env, E, o⟩ => by
  unfold sExt at o
  split at o
  · rename_i es hd
    split at o
    · rename_i ds hi
      split at o
      · rename_i hl
        rcases E.sl i _ hi with z | ⟨v, h1, a, xs, rfl, ha, hh, r⟩
        · cases z
        refine ⟨_, h1, .inl ⟨rfl, xs, .inl (.inl hh)⟩, S0, H0, A, env, _, E, hd, fun v H' s r' => ?_⟩
        have E' := E.grow s
        rw [Rp] at r'
        obtain ⟨b, zs, rfl, hb, rz⟩ := r'
        refine ⟨a, b, xs, zs, rfl, rfl, s _ _ hh, hb.sq, ?_, ?_⟩
        · rw [r.length, rz.length]
          exact Nat.le_of_lt (Nat.lt_of_lt_of_le hl (by decide))
        · have q := RpA.append (r.grow s) (rz.wide fun _ z => cl_sc z)
          refine o A _ σ (E'.mut hi h1 ha (s _ _ hh) q) (fun b u e n => ?_) Sb.refl
          have nb : b ≠ a := fun z => n (z ▸ ha)
          rw [upd_ne nb]
          exact s _ _ e
      · exact o.elim
    · exact o.elim
  · exact o.elim
end
end Mir

namespace Mir
open PySem PySem.Spec PyProof.Rows L2
/-! ### data of ints, of texts -/
theorem intsD_map : ∀ ns : List Int, intsD (ns.map PyData.int) = some ns
  | [] => rfl
  | n :: ns => by
    show (match intsD (ns.map PyData.int) with | some ns => some (n :: ns) | none => none) = _
    rw [intsD_map ns]
theorem strsD_map : ∀ ns : List Str, strsD (ns.map PyData.str) = some ns
  | [] => rfl
  | n :: ns => by
    show (match strsD (ns.map PyData.str) with | some ns => some (n :: ns) | none => none) = _
    rw [strsD_map ns]
/-- a comprehension whose element is k of each item, kept where p -/
theorem compF_filter {g : PyData → En → Option En} {ga : En → Option Bool} {fe : En → Option PyData} {env : En} {p : PyData → Bool} {k : PyData → PyData} : ∀ {ds : List PyData},
    (∀ d ∈ ds, ∃ e1, g d env = some e1 ∧ ga e1 = some (p d) ∧ (p d = true → fe e1 = some (k d))) → compF g ga fe env ds = some ((ds.filter p).map k)
  | [], _ => rfl
  | d :: ds, h => by
    obtain ⟨e1, h1, h2, h3⟩ := h d List.mem_cons_self
    have ih := compF_filter (ds := ds) fun x hx => h x (List.mem_cons_of_mem _ hx)
    simp only [compF, h1, h2]
    cases hp : p d with
    | true =>
      rw [hp] at h3
      simp only [h3 rfl, ih, List.filter_cons, hp, if_true, List.map_cons]
    | false =>
      simp only [ih, List.filter_cons, hp, Bool.false_eq_true, if_false]
theorem compF_map {g : PyData → En → Option En} {fe : En → Option PyData} {env : En} {k : PyData → PyData} {ds : List PyData} (h : ∀ d ∈ ds, ∃ e1, g d env = some e1 ∧ fe e1 = some (k d)) : compF g tYes' fe env ds = some (ds.map k) := by
  have q := compF_filter (g := g) (ga := tYes') (fe := fe) (env := env) (p := fun _ => true) (k := k) (ds := ds) fun d hd => by
    obtain ⟨e1, h1, h2⟩ := h d hd
    exact ⟨e1, h1, rfl, fun _ => h2⟩
  rw [q, List.filter_eq_self.mpr (fun _ _ => rfl)]
theorem compF_mapS {α : Type} {g : PyData → En → Option En} {fe : En → Option PyData} {env : En} {c : α → PyData} {k : α → PyData} : ∀ {xs : List α}, (∀ x ∈ xs, ∃ e1, g (c x) env = some e1 ∧ fe e1 = some (k x)) → compF g tYes' fe env (xs.map c) = some (xs.map k)
  | [], _ => rfl
  | x :: xs, h => by
    obtain ⟨e1, h1, h2⟩ := h x List.mem_cons_self
    have ih := compF_mapS (xs := xs) fun y hy => h y (List.mem_cons_of_mem _ hy)
    show compF g tYes' fe env (c x :: xs.map c) = _
    simp only [compF, h1, tYes', h2]
    rw [ih]
    rfl
/-! ### joined texts -/
def jl (ws : List Str) : Nat := (Txt.join (" " : Str) ws).length
theorem spc_len : ((" " : Str)).length = 1 := by decide +kernel
theorem len_app (x y : Str) : (x ++ y).length = x.length + y.length := by
  show (x.cps ++ y.cps).size = x.cps.size + y.cps.size
  simp
theorem jl_nil : jl [] = 0 := by
  unfold jl
  rw [TL.join_eq]
  rfl
theorem jl_one (w : Str) : jl [w] = w.length := by
  unfold jl
  rw [TL.join_eq]
  rfl
theorem jl_cons (w y : Str) (r : List Str) : jl (w :: y :: r) = w.length + 1 + jl (y :: r) := by
  unfold jl
  rw [TL.join_eq, TL.join_eq]
  show (w ++ (" " : Str) ++ Str.join (" " : Str) (y :: r)).length = _
  rw [len_app, len_app, spc_len]
theorem jl_snoc : ∀ (l : List Str) (w : Str), l ≠ [] → jl (l ++ [w]) = jl l + 1 + w.length
  | [], _, h => absurd rfl h
  | [x], w, _ => by
    show jl (x :: w :: []) = _
    rw [jl_cons, jl_one, jl_one]
  | x :: y :: r, w, _ => by
    show jl (x :: y :: (r ++ [w])) = _
    have ih := jl_snoc (y :: r) w (by simp)
    rw [jl_cons, jl_cons]
    rw [show jl (y :: (r ++ [w])) = jl (y :: r) + 1 + w.length from ih]
    omega
theorem jl_le : ∀ (l : List Str), (∀ w ∈ l, w.length ≤ 8) → jl l ≤ 9 * l.length
  | [], _ => by rw [jl_nil]; exact Nat.zero_le _
  | [x], h => by
    rw [jl_one]
    have := h x List.mem_cons_self
    simp
    omega
  | x :: y :: r, h => by
    rw [jl_cons]
    have h1 := h x List.mem_cons_self
    have h2 := jl_le (y :: r) fun w hw => h w (List.mem_cons_of_mem _ hw)
    rw [List.length_cons]
    omega
theorem word_le_jl : ∀ (l : List Str) (w : Str), w ∈ l → w.length ≤ jl l
  | [], _, h => by cases h
  | [x], w, h => by
    rw [jl_one]
    rw [List.mem_singleton.mp h]
    exact Nat.le_refl _
  | x :: y :: r, w, h => by
    rw [jl_cons]
    rcases List.mem_cons.mp h with h | h
    · subst h; omega
    · have := word_le_jl (y :: r) w h
      omega
/-! ### texts in tuples compared -/
theorem eqv_strs : ∀ xs ys : List Str, PyData.eqvAll (xs.map PyData.str) (ys.map PyData.str) = decide (xs = ys)
  | [], [] => by simp [PyData.eqvAll]
  | [], y :: ys => by simp [PyData.eqvAll]
  | x :: xs, [] => by simp [PyData.eqvAll]
  | x :: xs, y :: ys => by
    simp only [List.map_cons, PyData.eqvAll, PyData.eqv, eqv_strs xs ys]
    by_cases h : x = y
    · subst h
      simp
    · simp [h]
theorem lay_strs : ∀ xs : List Str, (∀ x ∈ xs, PyData.strOk x = true) → PyData.canLayAll0 (xs.map PyData.str) = true
  | [], _ => by simp [PyData.canLayAll0]
  | x :: xs, h => by
    simp only [List.map_cons, PyData.canLayAll0, PyData.canLay0, h x List.mem_cons_self, lay_strs xs (fun y hy => h y (List.mem_cons_of_mem _ hy)), Bool.and_self]
theorem depth_strs : ∀ xs : List Str, PyData.depthAll (xs.map PyData.str) = 0
  | [] => by simp [PyData.depthAll]
  | x :: xs => by simp [PyData.depthAll, PyData.depth, depth_strs xs]
theorem shaped_strs (xs : List Str) (h : ∀ x ∈ xs, PyData.strOk x = true) : SeqAt.shaped (.tuple (xs.map PyData.str)) = true := by
  unfold SeqAt.shaped
  simp [PyData.canLay0, lay_strs xs h, PyData.depth, depth_strs]
theorem shaped_int (i : Int) : SeqAt.shaped (.int i) = true := by
  unfold SeqAt.shaped
  simp [PyData.canLay0, PyData.depth]
theorem shaped_none : SeqAt.shaped .none = true := by
  unfold SeqAt.shaped
  simp [PyData.canLay0, PyData.depth]
theorem shaped_bool (i : Bool) : SeqAt.shaped (.bool i) = true := by
  unfold SeqAt.shaped
  simp [PyData.canLay0, PyData.depth]
theorem eqD_int (i j : Int) : eqD (.int i) (.int j) = some (.bool (decide (i = j))) := by
  unfold eqD
  rw [shaped_int, shaped_int]
  simp only [Bool.and_self, if_true, PyData.eqv]
  congr 2
theorem neD_int (i j : Int) : neD (.int i) (.int j) = some (.bool (!decide (i = j))) := by
  unfold neD
  rw [shaped_int, shaped_int]
  simp only [Bool.and_self, if_true, PyData.eqv]
  congr 3
theorem eqD_strs (xs ys : List Str) (h : ∀ x ∈ xs, PyData.strOk x = true) (h' : ∀ x ∈ ys, PyData.strOk x = true) : eqD (.tuple (xs.map PyData.str)) (.tuple (ys.map PyData.str)) = some (.bool (decide (xs = ys))) := by
  unfold eqD
  rw [shaped_strs xs h, shaped_strs ys h']
  simp only [Bool.and_self, if_true, PyData.eqv, eqv_strs]
theorem addD_tup {xs ys : List PyData} (h : xs.length + ys.length ≤ 1000000) : addD (.tuple xs) (.tuple ys) = some (.tuple (xs ++ ys)) := by
  simp only [addD, h, if_true]
theorem addD_list {xs ys : List PyData} (h : xs.length + ys.length ≤ 1000000) : addD (.list xs) (.list ys) = some (.list (xs ++ ys)) := by
  simp only [addD, h, if_true]
theorem addD_str {x y : Str} (h : x.length + y.length ≤ 1000000) : addD (.str x) (.str y) = some (.str (x ++ y)) := by
  simp only [addD, h, if_true]
/-! ### loops by a word -/
theorem loop_ix {g : PyData → En → Option En} {b : En → Out} (P : Nat → En → Prop) : ∀ (ds : List PyData) (k : Nat) (e : En), (∀ (j : Nat) d e, ds[j]? = some d → P (k + j) e → ∃ e1, g d e = some e1 ∧ ∃ e2, (b e1 = .nx e2 ∨ b e1 = .ct e2) ∧ P (k + j + 1) e2) → P k e → ∃ e', loopF g b ds e = .nx e' ∧ P (k + ds.length) e'
  | [], k, e, _, h => ⟨e, rfl, h⟩
  | d :: ds, k, e, st, h => by
    obtain ⟨e1, h1, e2, h2, h3⟩ := st 0 d e rfl h
    obtain ⟨e', h4, h5⟩ := loop_ix P ds (k + 1) e2 (fun j d' e' hj hp => by
      have hp' : P (k + (j + 1)) e' := by rw [show k + (j + 1) = k + 1 + j by omega]; exact hp
      have := st (j + 1) d' e' (by simpa using hj) hp'
      rw [show k + (j + 1) + 1 = k + 1 + j + 1 by omega] at this
      exact this) h3
    refine ⟨e', ?_, by rw [List.length_cons, show k + (ds.length + 1) = k + 1 + ds.length by omega]; exact h5⟩
    rcases h2 with h2 | h2 <;> (simp only [loopF, h1, h2]; exact h4)
theorem loop_rng {g : PyData → En → Option En} {b : En → Out} (P : Nat → En → Prop) {lo : Int} {n : Nat} {e : En} (st : ∀ (j : Nat) e, j < n → P j e → ∃ e1, g (.int (lo + (j : Nat))) e = some e1 ∧ ∃ e2, (b e1 = .nx e2 ∨ b e1 = .ct e2) ∧ P (j + 1) e2) (h : P 0 e) : ∃ e', loopF g b (rngD lo n) e = .nx e' ∧ P n e' := by
  obtain ⟨e', h1, h2⟩ := loop_ix P (rngD lo n) 0 e (fun j d e hj hp => by
    have hd := rng_get hj
    obtain ⟨l, _⟩ := List.getElem?_eq_some_iff.mp hj
    rw [rng_len] at l
    subst hd
    rw [Nat.zero_add] at hp ⊢
    exact st j e l hp) h
  rw [rng_len, Nat.zero_add] at h2
  exact ⟨e', h1, h2⟩
theorem atI_map {α : Type} (f : α → PyData) (xs : List α) (j : Nat) (x : α) (h : xs[j]? = some x) : atI (xs.map f) (j : Int) = some (f x) := atI_nat (by rw [List.getElem?_map, h]; rfl)
theorem noL_ints : ∀ ns : List Int, noLA (ns.map PyData.int) = true
  | [] => rfl
  | n :: ns => by
    show (noL (.int n) && noLA (ns.map PyData.int)) = true
    rw [noL_ints ns]; rfl
theorem sSeq_nx {s t : En → Out} {env e : En} (h : s env = .nx e) : sSeq s t env = t e := by
  unfold sSeq
  rw [h]
theorem sSeq_rt {s t : En → Out} {env : En} {d : PyData} (h : s env = .rt d) : sSeq s t env = .rt d := by
  unfold sSeq
  rw [h]
theorem addD_int (i j : Int) : addD (.int i) (.int j) = some (.int (i + j)) := rfl
theorem subD_int (i j : Int) : subD (.int i) (.int j) = some (.int (i - j)) := rfl
theorem mulD_int {i j : Int} (h : CMul i j) : mulD (.int i) (.int j) = some (.int (i * j)) := if_pos h
theorem modD_int {i j : Int} (h : 0 < j) : modD (.int i) (.int j) = some (.int (i % j)) := if_pos h
theorem divD_int {i j : Int} (h : CDiv i j) : divD (.int i) (.int j) = some (.int (i / j)) := if_pos h
theorem powD_int {i j : Int} (h : CPow i j) : powD (.int i) (.int j) = some (.int (i ^ j.toNat)) := if_pos h
theorem ltD_int (i j : Int) : ltD (.int i) (.int j) = some (.bool (decide (i < j))) := rfl
theorem leD_int (i j : Int) : leD (.int i) (.int j) = some (.bool (decide (i ≤ j))) := rfl
theorem gtD_int (i j : Int) : gtD (.int i) (.int j) = some (.bool (decide (j < i))) := rfl
theorem geD_int (i j : Int) : geD (.int i) (.int j) = some (.bool (decide (j ≤ i))) := rfl
/-! a draw, its numbers kept as letters -/
theorem draw_s1 (a b M : Int) (c' m k : Int) (n : Nat) (ds : List Int) (w y : Sl) (k1 : CMul c' a) (k2 : CMul k b) (k3 : 0 < M) (hm : (c' * a + k * b) % M = m) :
    (sSet 5 (e2 modD (eCall intA (aCons (e2 addD (e2 mulD (eVar 0) (eC (.int a))) (e2 mulD (eVar 4) (eC (.int b)))) aNil)) (eC (.int M)))) [.val (.int c'), .val (.int n), .own (ds.map .int), w, .val (.int k), y] = .nx [.val (.int c'), .val (.int n), .own (ds.map .int), w, .val (.int k), .val (.int m)] := by
  have k1 := mulD_int k1
  have k2 := mulD_int k2
  have k5 := modD_int (i := c' * a + k * b) k3
  rw [hm] at k5
  simp only [sSet, e2, eCall, aCons, aNil, intA, eC, eVar, List.getElem?_cons_zero, List.getElem?_cons_succ, List.set_cons_zero, List.set_cons_succ, addD_int, k1, k2, k5]
theorem draw_s2 (a M L : Int) (c' m k : Int) (n : Nat) (ds : List Int) (w : Sl) (hl : ds.length < 1000000) (k3 : CMul c' a) (k4 : CMul m m) (k6 : 0 < M) :
    (sApp 2 (e2 modD (eCall intA (aCons (e2 addD (e2 addD (e2 mulD (eVar 5) (eVar 5)) (e2 mulD (eVar 0) (eC (.int a)))) (eVar 4)) aNil)) (eC (.int M)))) [.val (.int c'), .val (.int n), .own (ds.map .int), w, .val (.int k), .val (.int m)] = .nx [.val (.int c'), .val (.int n), .own ((ds ++ [(m * m + c' * a + k) % M]).map .int), w, .val (.int k), .val (.int m)] := by
  have k3 := mulD_int k3
  have k4 := mulD_int k4
  have k6 := modD_int (i := m * m + c' * a + k) k6
  simp only [sApp, e2, eCall, aCons, aNil, intA, eC, eVar, List.getElem?_cons_zero, List.getElem?_cons_succ, addD_int, k3, k4, k6, List.length_map, hl, if_true, List.set_cons_zero, List.set_cons_succ, List.map_append, List.map_cons, List.map_nil]
theorem draw_s1' (a b M : Int) (c' m k : Int) (n : Nat) (ds : List Int) (w y : Sl) (k1 : CMul c' a) (k2 : CMul k b) (k3 : 0 < M) (hm : (c' * a + k * b) % M = m) :
    (sSet 5 (e2 modD (e2 addD (e2 mulD (eVar 0) (eC (.int a))) (e2 mulD (eVar 4) (eC (.int b)))) (eC (.int M)))) [.val (.int c'), .val (.int n), .own (ds.map .int), w, .val (.int k), y] = .nx [.val (.int c'), .val (.int n), .own (ds.map .int), w, .val (.int k), .val (.int m)] := by
  have k1 := mulD_int k1
  have k2 := mulD_int k2
  have k5 := modD_int (i := c' * a + k * b) k3
  rw [hm] at k5
  simp only [sSet, e2, eC, eVar, List.getElem?_cons_zero, List.getElem?_cons_succ, List.set_cons_zero, List.set_cons_succ, addD_int, k1, k2, k5]
theorem draw_s2' (a M L : Int) (c' m k : Int) (n : Nat) (ds : List Int) (w : Sl) (hl : ds.length < 1000000) (k3 : CMul c' a) (k4 : CMul m m) (k6 : 0 < M) :
    (sApp 2 (e2 modD (e2 addD (e2 addD (e2 mulD (eVar 5) (eVar 5)) (e2 mulD (eVar 0) (eC (.int a)))) (eVar 4)) (eC (.int M)))) [.val (.int c'), .val (.int n), .own (ds.map .int), w, .val (.int k), .val (.int m)] = .nx [.val (.int c'), .val (.int n), .own ((ds ++ [(m * m + c' * a + k) % M]).map .int), w, .val (.int k), .val (.int m)] := by
  have k3 := mulD_int k3
  have k4 := mulD_int k4
  have k6 := modD_int (i := m * m + c' * a + k) k6
  simp only [sApp, e2, eC, eVar, List.getElem?_cons_zero, List.getElem?_cons_succ, addD_int, k3, k4, k6, List.length_map, hl, if_true, List.set_cons_zero, List.set_cons_succ, List.map_append, List.map_cons, List.map_nil]
theorem draw_t (M : Int) (c' : Int) (n : Nat) (ds : List Int) (w x y : Sl) (hl : ds.length < 1000000) (k1 : 0 < M) (k2 : M < 1073741824) :
    sSeq (sApp 2 (e2 modD (eCall intA (aCons (eVar 0) aNil)) (eC (.int M)))) (sSet 0 (e2 divD (eVar 0) (eC (.int M)))) [.val (.int c'), .val (.int n), .own (ds.map .int), w, x, y] = .nx [.val (.int (c' / M)), .val (.int n), .own ((ds ++ [c' % M]).map .int), w, x, y] := by
  have h1 := modD_int (i := c') k1
  have h2 := divD_int (i := c') (j := M) ⟨k1, k2⟩
  simp only [sSeq, sApp, sSet, e2, eCall, aCons, aNil, intA, eC, eVar, List.getElem?_cons_zero, List.getElem?_cons_succ, List.set_cons_zero, List.set_cons_succ, h1, h2, hl, if_true, List.length_map, List.map_append, List.map_cons, List.map_nil]
theorem draw_t' (M : Int) (c' : Int) (n : Nat) (ds : List Int) (w x y : Sl) (hl : ds.length < 1000000) (k1 : 0 < M) (k2 : M < 1073741824) :
    sSeq (sApp 2 (e2 modD (eVar 0) (eC (.int M)))) (sSet 0 (e2 divD (eVar 0) (eC (.int M)))) [.val (.int c'), .val (.int n), .own (ds.map .int), w, x, y] = .nx [.val (.int (c' / M)), .val (.int n), .own ((ds ++ [c' % M]).map .int), w, x, y] := by
  have h1 := modD_int (i := c') k1
  have h2 := divD_int (i := c') (j := M) ⟨k1, k2⟩
  simp only [sSeq, sApp, sSet, e2, eC, eVar, List.getElem?_cons_zero, List.getElem?_cons_succ, List.set_cons_zero, List.set_cons_succ, h1, h2, hl, if_true, List.length_map, List.map_append, List.map_cons, List.map_nil]
theorem sIf_t {ga : En → Option Bool} {s t : En → Out} {env : En} (h : ga env = some true) : sIf ga s t env = s env := by
  unfold sIf
  rw [h]
theorem sIf_f {ga : En → Option Bool} {s t : En → Out} {env : En} (h : ga env = some false) : sIf ga s t env = t env := by
  unfold sIf
  rw [h]
theorem iR1_ev {fa : En → Option (List PyData)} {env : En} {N : Int} (h : fa env = some [.int N]) (h1 : N < 1000000) (h2 : -1000000 < N) : iR1 fa env = some (rngD 0 N.toNat) := by
  unfold iR1
  rw [h]
  exact if_pos ⟨h1, h2⟩
theorem iR2_ev {fa : En → Option (List PyData)} {env : En} {M N : Int} (h : fa env = some [.int M, .int N]) (h1 : N < 1000000000) (h2 : -1000000000 < N) (h3 : M < 1000000000) (h4 : -1000000000 < M) : iR2 fa env = some (rngD M (N - M).toNat) := by
  unfold iR2
  rw [h]
  exact if_pos ⟨⟨h1, h2⟩, h3, h4⟩
/-- a loop that may be left by a return -/
theorem loop_any {g : PyData → En → Option En} {b : En → Out} (P : Nat → En → Prop) (Q : PyData → Prop) : ∀ (ds : List PyData) (k : Nat) (e : En), (∀ (j : Nat) d e, ds[j]? = some d → P (k + j) e → ∃ e1, g d e = some e1 ∧ ((∃ e2, (b e1 = .nx e2 ∨ b e1 = .ct e2) ∧ P (k + j + 1) e2) ∨ ∃ v, b e1 = .rt v ∧ Q v)) → P k e →
    (∃ e', loopF g b ds e = .nx e' ∧ P (k + ds.length) e') ∨ ∃ v, loopF g b ds e = .rt v ∧ Q v
  | [], k, e, _, h => .inl ⟨e, rfl, h⟩
  | d :: ds, k, e, st, h => by
    obtain ⟨e1, h1, h2⟩ := st 0 d e rfl h
    rcases h2 with ⟨e2, h2, h3⟩ | ⟨v, h2, h3⟩
    · have ih := loop_any P Q ds (k + 1) e2 (fun j d' e' hj hp => by
        have hp' : P (k + (j + 1)) e' := by rw [show k + (j + 1) = k + 1 + j by omega]; exact hp
        have := st (j + 1) d' e' (by simpa using hj) hp'
        rw [show k + (j + 1) + 1 = k + 1 + j + 1 by omega] at this
        exact this) h3
      have e0 : loopF g b (d :: ds) e = loopF g b ds e2 := by
        rcases h2 with h2 | h2 <;> simp only [loopF, h1, h2]
      rw [e0, List.length_cons, show k + (ds.length + 1) = k + 1 + ds.length by omega]
      exact ih
    · exact .inr ⟨v, by simp only [loopF, h1, h2], h3⟩
theorem loop_rngA {g : PyData → En → Option En} {b : En → Out} (P : Nat → En → Prop) (Q : PyData → Prop) {lo : Int} {n : Nat} {e : En} (st : ∀ (j : Nat) e, j < n → P j e → ∃ e1, g (.int (lo + (j : Nat))) e = some e1 ∧ ((∃ e2, (b e1 = .nx e2 ∨ b e1 = .ct e2) ∧ P (j + 1) e2) ∨ ∃ v, b e1 = .rt v ∧ Q v)) (h : P 0 e) :
    (∃ e', loopF g b (rngD lo n) e = .nx e' ∧ P n e') ∨ ∃ v, loopF g b (rngD lo n) e = .rt v ∧ Q v := by
  have := loop_any P Q (rngD lo n) 0 e (fun j d e hj hp => by
    have hd := rng_get hj
    obtain ⟨l, _⟩ := List.getElem?_eq_some_iff.mp hj
    rw [rng_len] at l
    subst hd
    rw [Nat.zero_add] at hp ⊢
    exact st j e l hp) h
  rw [rng_len, Nat.zero_add] at this
  exact this
/-! evaluation, step by step -/
section
variable {env env' : En} {f g h : En → Option PyData} {fa : En → Option (List PyData)} {x y d : PyData} {ds : List PyData}
theorem e2_ev {k : PyData → PyData → Option PyData} (h1 : f env = some x) (h2 : g env = some y) (h3 : k x y = some d) : e2 k f g env = some d := by
  unfold e2
  rw [h1, h2]
  exact h3
theorem aCons_ev (h1 : f env = some x) (h2 : fa env = some ds) : aCons f fa env = some (x :: ds) := by
  unfold aCons
  rw [h1, h2]
theorem aNil_ev : aNil env = some [] := rfl
theorem eCall_ev {k : List PyData → Option PyData} (h1 : fa env = some ds) (h2 : k ds = some d) : eCall k fa env = some d := by
  unfold eCall
  rw [h1]
  exact h2
theorem sSet_ev {i : Nat} (h1 : f env = some d) : sSet i f env = .nx (env.set i (.val d)) := by
  unfold sSet
  rw [h1]
theorem sOwn_ev {i : Nat} (h1 : fa env = some ds) : sOwn i fa env = .nx (env.set i (.own ds)) := by
  unfold sOwn
  rw [h1]
theorem sRet_ev (h1 : f env = some d) : sRet f env = .rt d := by
  unfold sRet
  rw [h1]
theorem sApp_ev {i : Nat} (h1 : f env = some d) (h2 : env[i]? = some (.own ds)) (h3 : ds.length < 1000000) : sApp i f env = .nx (env.set i (.own (ds ++ [d]))) := by
  unfold sApp
  rw [h1, h2]
  exact if_pos h3
theorem sFor_ev {k : PyData → En → Option En} {b : En → Out} {o : Out} (h1 : fa env = some ds) (h2 : loopF k b ds env = o) : sFor fa k b env = o := by
  unfold sFor
  rw [h1]
  exact h2
theorem eL_ev (h1 : fa env = some ds) : eL fa env = some (.list ds) := by
  unfold eL
  rw [h1]
  rfl
theorem t1_ev {b : Bool} (h1 : f env = some (.bool b)) : t1 f env = some b := by
  unfold t1
  rw [h1]
theorem and_t {ga gb : En → Option Bool} {b : Bool} (h1 : ga env = some true) (h2 : gb env = some b) : tAnd' ga gb env = some b := by
  unfold tAnd'
  rw [h1]
  exact h2
theorem and_f {ga gb : En → Option Bool} (h1 : ga env = some false) : tAnd' ga gb env = some false := by
  unfold tAnd'
  rw [h1]
theorem or_t {ga gb : En → Option Bool} (h1 : ga env = some true) : tOr' ga gb env = some true := by
  unfold tOr'
  rw [h1]
theorem or_f {ga gb : En → Option Bool} {b : Bool} (h1 : ga env = some false) (h2 : gb env = some b) : tOr' ga gb env = some b := by
  unfold tOr'
  rw [h1]
  exact h2
theorem not_ev {ga : En → Option Bool} {b : Bool} (h1 : ga env = some b) : tNot' ga env = some (!b) := by
  unfold tNot'
  rw [h1]
  rfl
theorem eIf_t {ga : En → Option Bool} (h1 : ga env = some true) (h2 : f env = some d) : eIf ga f g env = some d := by
  unfold eIf
  rw [h1]
  exact h2
theorem eIf_f {ga : En → Option Bool} (h1 : ga env = some false) (h2 : g env = some d) : eIf ga f g env = some d := by
  unfold eIf
  rw [h1]
  exact h2
theorem eTup_ev (h1 : fa env = some ds) (h2 : ds.length ≤ 1000000) : eTup fa env = some (.tuple ds) := by
  unfold eTup
  rw [h1]
  exact if_pos h2
theorem fLst_ev (h1 : fa env = some ds) (h2 : ds.length ≤ 1000000) : fLst fa env = some ds := by
  unfold fLst
  rw [h1]
  exact if_pos h2
theorem fCmp_ev {is : List Nat} {k : PyData → En → Option En} {ga : En → Option Bool} {fe : En → Option PyData} {vs : List PyData} (h1 : fa env = some ds) (h2 : compF k ga fe (wipeE env is) ds = some vs) (h3 : vs.length ≤ 1000000) : fCmp is fa k ga fe env = some vs := by
  unfold fCmp
  simp only [h1, h2]
  exact if_pos h3
theorem eIsi_ev {T : String} {b : Bool} (h1 : f env = some d) (h2 : isiB T (tyD d) = some b) : eIsi T f env = some (.bool b) := by
  unfold eIsi
  rw [h1]
  simp only [h2]
  rfl
theorem tTr_ev {b : Bool} (h1 : f env = some d) (h2 : truD d = some b) : tTr f env = some b := by
  unfold tTr
  rw [h1]
  exact h2
theorem outD_rt {o : Out} (h : o = .rt d) : outD o = some d := by rw [h]; rfl
end
theorem gDef_ev {np nN : Nat} {fB : En → Out} {ds : List PyData} {d : PyData} (h1 : ds.length = np) (h2 : fB (env0 nN ds) = .rt d) : gDef np nN fB ds = some d := by
  unfold gDef
  rw [if_pos h1, h2]
  rfl
/-! draws read; pairs of ints -/
theorem dr_at {ds : List Int} {env : En} {i j : Nat} {k : Int} (h : eVar i env = some (.list (ds.map .int))) (hj : j < ds.length) (hk : k = (j : Nat)) : e2 ixG (eVar i) (eC (.int k)) env = some (.int (ds.getD j 0)) := by
  refine e2_ev h rfl ?_
  subst hk
  refine (atI_map PyData.int ds j (ds.getD j 0) ?_)
  simp [List.getD, hj]
theorem dr_int {ds : List Int} {env : En} {i j : Nat} {k : Int} (h : eVar i env = some (.list (ds.map .int))) (hj : j < ds.length) (hk : k = (j : Nat)) : eCall intA (aCons (e2 ixG (eVar i) (eC (.int k))) aNil) env = some (.int (ds.getD j 0)) :=
  eCall_ev (aCons_ev (dr_at h hj hk) aNil_ev) rfl
theorem dr_mod {ds : List Int} {env : En} {i j : Nat} {k m : Int} (h : eVar i env = some (.list (ds.map .int))) (hj : j < ds.length) (hk : k = (j : Nat)) (hm : 0 < m) : e2 modD (eCall intA (aCons (e2 ixG (eVar i) (eC (.int k))) aNil)) (eC (.int m)) env = some (.int (ds.getD j 0 % m)) :=
  e2_ev (dr_int h hj hk) rfl (modD_int hm)
theorem dr_mod' {ds : List Int} {env : En} {i j : Nat} {k m : Int} (h : eVar i env = some (.list (ds.map .int))) (hj : j < ds.length) (hk : k = (j : Nat)) (hm : 0 < m) : e2 modD (e2 ixG (eVar i) (eC (.int k))) (eC (.int m)) env = some (.int (ds.getD j 0 % m)) :=
  e2_ev (dr_at h hj hk) rfl (modD_int hm)
theorem mod_lt (x m : Int) (h : 0 < m) : 0 ≤ x % m ∧ x % m < m := ⟨Int.emod_nonneg _ (by omega), Int.emod_lt_of_pos _ h⟩
abbrev pr (p : Int × Int) : PyData := .tuple [.int p.1, .int p.2]
theorem shaped_pr (p : Int × Int) : SeqAt.shaped (pr p) = true := by
  unfold SeqAt.shaped
  simp [pr, PyData.canLay0, PyData.canLayAll0, PyData.depth, PyData.depthAll]
theorem lay_prs : ∀ ps : List (Int × Int), PyData.canLayAll0 (ps.map pr) = true ∧ PyData.depthAll (ps.map pr) ≤ 1
  | [] => by simp [PyData.canLayAll0, PyData.depthAll]
  | p :: ps => by
    obtain ⟨h1, h2⟩ := lay_prs ps
    simp only [List.map_cons, PyData.canLayAll0, PyData.depthAll, h1]
    simp [pr, PyData.canLay0, PyData.canLayAll0, PyData.depth, PyData.depthAll]
    omega
theorem shaped_prs (ps : List (Int × Int)) : SeqAt.shaped (.list (ps.map pr)) = true := by
  unfold SeqAt.shaped
  obtain ⟨h1, h2⟩ := lay_prs ps
  simp [PyData.canLay0, h1, PyData.depth]
  omega
theorem eqv_pr (p q : Int × Int) : PyData.eqv (pr p) (pr q) = decide (p = q) := by
  obtain ⟨a, b⟩ := p
  obtain ⟨c, d⟩ := q
  simp only [pr, PyData.eqv, PyData.eqvAll]
  by_cases h1 : a = c
  · by_cases h2 : b = d
    · simp [h1, h2]
    · simp [h1, h2]
  · simp [h1]
theorem any_pr (p : Int × Int) : ∀ ps : List (Int × Int), ((ps.map pr).any fun z => PyData.eqv z (pr p)) = decide (p ∈ ps)
  | [] => by simp
  | q :: ps => by
    rw [List.map_cons, List.any_cons, any_pr p ps, eqv_pr]
    by_cases h : q = p
    · simp [h]
    · have : ¬ p = q := fun e => h e.symm
      simp [h, this]
theorem inD_pr (p : Int × Int) (ps : List (Int × Int)) : inD (pr p) (.list (ps.map pr)) = some (.bool (decide (p ∈ ps))) := by
  unfold inD
  simp only [shaped_pr, shaped_prs, any_pr, Bool.and_self, if_true]
theorem notInD_pr (p : Int × Int) (ps : List (Int × Int)) : notInD (pr p) (.list (ps.map pr)) = some (.bool (!decide (p ∈ ps))) := by
  unfold notInD
  simp only [shaped_pr, shaped_prs, any_pr, Bool.and_self, if_true]
theorem eNot_ev {f : En → Option PyData} {env : En} {b : Bool} (h : f env = some (.bool b)) : eNot f env = some (.bool (!b)) := by
  unfold eNot
  rw [h]
theorem eN_ev {f : En → Option PyData} {env : En} {d : PyData} (h : f env = some d) (hn : noL d = true) : eN f env = some d := by
  unfold eN
  rw [h]
  exact if_pos hn
theorem eTupO_ev {i : Nat} {env : En} {ds : List PyData} (h : env[i]? = some (.own ds)) : eTupO i env = some (.tuple ds) := by
  unfold eTupO
  rw [h]
theorem eIxO_ev {i : Nat} {env : En} {ds : List PyData} {g : En → Option PyData} {k : Int} {d : PyData} (h : env[i]? = some (.own ds)) (h1 : g env = some (.int k)) (h2 : atI ds k = some d) : eIxO i g env = some d := by
  have e : eIxO i g env = (match g env with | some (.int k) => atI ds k | _ => none) := by
    unfold eIxO
    rw [h]
    all_goals rfl
  rw [e, h1]
  exact h2
theorem gDef_ev' {np nN : Nat} {fB : En → Out} {ds : List PyData} {d : PyData} (env : En) (h1 : ds.length = np) (h0 : env0 nN ds = env) (h2 : fB env = .rt d) : gDef np nN fB ds = some d := gDef_ev h1 (by rw [h0]; exact h2)
theorem neD_same {d : PyData} (h : SeqAt.shaped d = true) : neD d d = some (.bool false) := by
  unfold neD
  have h2 : d.canLay0 = true := by
    unfold SeqAt.shaped at h
    exact (Bool.and_eq_true _ _ ▸ h).1
  rw [h, SeqAt.eqv_refl d h2]
  rfl
theorem eqD_same {d : PyData} (h : SeqAt.shaped d = true) : eqD d d = some (.bool true) := by
  unfold eqD
  have h2 : d.canLay0 = true := by
    unfold SeqAt.shaped at h
    exact (Bool.and_eq_true _ _ ▸ h).1
  rw [h, SeqAt.eqv_refl d h2]
  rfl
theorem eAnd_t {f g : En → Option PyData} {env : En} {d : PyData} (h1 : f env = some (.bool true)) (h2 : g env = some d) : eAnd f g env = some d := by
  unfold eAnd
  rw [h1]
  exact h2
theorem eAnd_f {f g : En → Option PyData} {env : En} (h1 : f env = some (.bool false)) : eAnd f g env = some (.bool false) := by
  unfold eAnd
  rw [h1]
theorem sUnp_ev {f : En → Option PyData} {g : PyData → En → Option En} {env e : En} {d : PyData} (h1 : f env = some d) (h2 : g d env = some e) : sUnp f g env = .nx e := by
  unfold sUnp
  rw [h1]
  simp only [h2]
theorem iSeq_l {f : En → Option PyData} {env : En} {ds : List PyData} (h : f env = some (.list ds)) : iSeq f env = some ds := by
  unfold iSeq
  rw [h]
theorem iSeq_t {f : En → Option PyData} {env : En} {ds : List PyData} (h : f env = some (.tuple ds)) : iSeq f env = some ds := by
  unfold iSeq
  rw [h]
end Mir

namespace Mir
open PySem PySem.Spec PyProof.Rows L2
theorem fRep_ev {ff : En → Option (List PyData)} {g : En → Option PyData} {env : En} {ds : List PyData} {k : Int} (h1 : ff env = some ds) (h2 : g env = some (.int k)) (h3 : -1000000 ≤ k ∧ k ≤ 1000000) (h4 : ds.length * k.toNat ≤ 1000000) : fRep ff g env = some (List.replicate k.toNat ds).flatten := by
  unfold fRep
  rw [h1]
  simp only [h2]
  exact if_pos ⟨h3, h4⟩
theorem rep_flat {α : Type} (x : α) : ∀ n : Nat, (List.replicate n [x]).flatten = List.replicate n x
  | 0 => rfl
  | n + 1 => by rw [List.replicate_succ, List.flatten_cons, rep_flat x n, List.replicate_succ]; rfl
/-! ### systems of constraints: the least solution -/
abbrev Con := Nat × Nat × Int
def rz1 (h : List Int) (c : Con) : List Int := if h.getD c.2.1 0 < h.getD c.1 0 + c.2.2 then h.set c.2.1 (h.getD c.1 0 + c.2.2) else h
def rz (cs : List Con) (p : List Int) : List Int := cs.foldl rz1 p
def lp (cs : List Con) : Nat → List Int → Option (List Int)
  | 0, _ => none
  | n + 1, p => if rz cs p = p then some p else if 0 < (rz cs p).getD 0 0 then none else lp cs n (rz cs p)
def Sol (cs : List Con) (x : Nat → Int) : Prop := ∀ c ∈ cs, x c.1 + c.2.2 ≤ x c.2.1
def Ix (cs : List Con) (N : Nat) : Prop := ∀ c ∈ cs, c.1 < N ∧ c.2.1 < N
abbrev at0 (p : List Int) : Nat → Int := fun v => p.getD v 0
theorem getD_set (p : List Int) (i j : Nat) (x : Int) (h : i < p.length) : (p.set i x).getD j 0 = if j = i then x else p.getD j 0 := by
  rw [List.getD_eq_getElem?_getD, List.getD_eq_getElem?_getD, List.getElem?_set]
  by_cases q : i = j
  · subst q
    simp [h]
  · have : ¬ j = i := fun e => q e.symm
    simp [q, this]
theorem rz1_len (h : List Int) (c : Con) : (rz1 h c).length = h.length := by
  unfold rz1
  split <;> simp
theorem rz1_ge (h : List Int) (c : Con) (hc : c.2.1 < h.length) (v : Nat) : at0 h v ≤ at0 (rz1 h c) v := by
  unfold rz1 at0
  split
  · rename_i q
    rw [getD_set _ _ _ _ hc]
    split
    · rename_i e; rw [e]; omega
    · exact Int.le_refl _
  · exact Int.le_refl _
theorem rz1_con (h : List Int) (c : Con) (hc : c.2.1 < h.length) : at0 h c.1 + c.2.2 ≤ at0 (rz1 h c) c.2.1 := by
  unfold rz1 at0
  split
  · rw [getD_set _ _ _ _ hc, if_pos rfl]
    exact Int.le_refl _
  · omega
theorem rz1_le (h : List Int) (c : Con) (hc : c.2.1 < h.length) (x : Nat → Int) (hx : x c.1 + c.2.2 ≤ x c.2.1) (hu : c.1 < h.length) (hp : ∀ v, v < h.length → at0 h v ≤ x v) : ∀ v, v < h.length → at0 (rz1 h c) v ≤ x v := by
  intro v hv
  unfold rz1 at0
  split
  · rw [getD_set _ _ _ _ hc]
    split
    · rename_i e
      subst e
      have := hp c.1 hu
      unfold at0 at this
      omega
    · exact hp v hv
  · exact hp v hv
theorem rz_len : ∀ (cs : List Con) (p : List Int), (rz cs p).length = p.length
  | [], _ => rfl
  | c :: cs, p => by
    show (rz cs (rz1 p c)).length = _
    rw [rz_len cs, rz1_len]
theorem rz_ge : ∀ (cs : List Con) (p : List Int), Ix cs p.length → ∀ v, at0 p v ≤ at0 (rz cs p) v
  | [], _, _, _ => Int.le_refl _
  | c :: cs, p, hi, v => by
    have h1 := rz1_ge p c (hi c List.mem_cons_self).2 v
    have h2 := rz_ge cs (rz1 p c) (fun d hd => by rw [rz1_len]; exact hi d (List.mem_cons_of_mem _ hd)) v
    exact Int.le_trans h1 h2
theorem rz_le : ∀ (cs : List Con) (p : List Int), Ix cs p.length → ∀ x : Nat → Int, Sol cs x → (∀ v, v < p.length → at0 p v ≤ x v) → ∀ v, v < p.length → at0 (rz cs p) v ≤ x v
  | [], _, _, _, _, h => h
  | c :: cs, p, hi, x, hx, h => by
    have hc := hi c List.mem_cons_self
    have h1 := rz1_le p c hc.2 x (hx c List.mem_cons_self) hc.1 h
    have h2 := rz_le cs (rz1 p c) (fun d hd => by rw [rz1_len]; exact hi d (List.mem_cons_of_mem _ hd)) x (fun d hd => hx d (List.mem_cons_of_mem _ hd)) (by rw [rz1_len]; exact h1)
    rw [rz1_len] at h2
    exact h2
theorem rz_con : ∀ (cs : List Con) (p : List Int), Ix cs p.length → ∀ c ∈ cs, at0 p c.1 + c.2.2 ≤ at0 (rz cs p) c.2.1
  | [], _, _, c, hc => by cases hc
  | d :: cs, p, hi, c, hc => by
    have hd := hi d List.mem_cons_self
    have hi' : Ix cs (rz1 p d).length := fun e he => by rw [rz1_len]; exact hi e (List.mem_cons_of_mem _ he)
    rcases List.mem_cons.mp hc with e | hc
    · subst e
      exact Int.le_trans (rz1_con p c hd.2) (rz_ge cs _ hi' _)
    · have h1 := rz1_ge p d hd.2 c.1
      have h2 := rz_con cs (rz1 p d) hi' c hc
      have h3 : at0 (rz (d :: cs) p) c.2.1 = at0 (rz cs (rz1 p d)) c.2.1 := rfl
      rw [h3]
      omega
theorem rz_fix {cs : List Con} {p : List Int} (hi : Ix cs p.length) (h : rz cs p = p) : Sol cs (at0 p) := fun c hc => by
  have := rz_con cs p hi c hc
  rw [h] at this
  exact this
theorem list_ext0 {p q : List Int} (hl : p.length = q.length) (h : ∀ v, v < p.length → at0 p v = at0 q v) : p = q := by
  refine List.ext_getElem hl fun i h1 h2 => ?_
  have := h i h1
  unfold at0 at this
  rw [List.getD_eq_getElem?_getD, List.getD_eq_getElem?_getD, List.getElem?_eq_getElem h1, List.getElem?_eq_getElem h2] at this
  exact this
/-- what comes out is a solution, between -/
theorem lp_sol {cs : List Con} {N : Nat} (hN : 0 < N) (hi : Ix cs N) : ∀ (n : Nat) (p m : List Int), p.length = N → at0 p 0 = 0 → (∀ v, v < N → 0 ≤ at0 p v) → lp cs n p = some m → m.length = N ∧ Sol cs (at0 m) ∧ at0 m 0 = 0 ∧ (∀ v, v < N → 0 ≤ at0 m v) ∧ ∀ x : Nat → Int, Sol cs x → (∀ v, v < N → at0 p v ≤ x v) → ∀ v, v < N → at0 m v ≤ x v
  | 0, p, m, _, _, _, h => by cases h
  | n + 1, p, m, hl, h0, hp, h => by
    have hi' : Ix cs p.length := by rw [hl]; exact hi
    unfold lp at h
    by_cases q : rz cs p = p
    · rw [if_pos q] at h
      cases h
      exact ⟨hl, rz_fix hi' q, h0, hp, fun x _ hx => hx⟩
    · rw [if_neg q] at h
      by_cases z : 0 < (rz cs p).getD 0 0
      · rw [if_pos z] at h; cases h
      · rw [if_neg z] at h
        have g := rz_ge cs p hi'
        have g0 := g 0
        obtain ⟨a1, a2, a3, a4, a5⟩ := lp_sol hN hi n (rz cs p) m (by rw [rz_len, hl]) (by unfold at0 at *; omega) (fun v hv => Int.le_trans (hp v hv) (g v)) h
        refine ⟨a1, a2, a3, a4, fun x hx hpx => a5 x hx ?_⟩
        have := rz_le cs p hi' x hx (by rw [hl]; exact hpx)
        rw [hl] at this
        exact this
/-! sums -/
def sm (f : Nat → Int) : Nat → Int
  | 0 => 0
  | n + 1 => sm f n + f n
theorem sm_le {f g : Nat → Int} : ∀ n, (∀ v, v < n → f v ≤ g v) → sm f n ≤ sm g n
  | 0, _ => Int.le_refl _
  | n + 1, h => by
    have a := sm_le n fun v hv => h v (by omega)
    have b := h n (by omega)
    show sm f n + f n ≤ sm g n + g n
    omega
theorem sm_lt {f g : Nat → Int} : ∀ n, (∀ v, v < n → f v ≤ g v) → (∃ v, v < n ∧ f v < g v) → sm f n < sm g n
  | 0, _, ⟨v, hv, _⟩ => by omega
  | n + 1, h, ⟨v, hv, hlt⟩ => by
    have b := h n (by omega)
    show sm f n + f n < sm g n + g n
    by_cases q : v = n
    · subst q
      have a := sm_le v fun u hu => h u (by omega)
      omega
    · have a := sm_lt n (fun u hu => h u (by omega)) ⟨v, by omega, hlt⟩
      omega
theorem sm_nn {f : Nat → Int} (n : Nat) (h : ∀ v, v < n → 0 ≤ f v) : 0 ≤ sm f n := by
  have := sm_le (f := fun _ => 0) (g := f) n h
  have z : ∀ n, sm (fun _ => 0) n = 0 := by
    intro n
    induction n with
    | zero => rfl
    | succ n ih => show sm _ n + 0 = 0; rw [ih]; rfl
  rw [z] at this
  exact this
/-- a solution from 0 on, 0 at 0 -/
def Sl0 (cs : List Con) (N : Nat) (x : Nat → Int) : Prop := Sol cs x ∧ x 0 = 0 ∧ ∀ v, v < N → 0 ≤ x v
theorem min_sum {cs : List Con} {N : Nat} : ∀ k : Nat, (∃ S, Sl0 cs N S ∧ sm S N ≤ k) → ∃ S, Sl0 cs N S ∧ ∀ S', Sl0 cs N S' → sm S N ≤ sm S' N
  | 0, ⟨S, h1, h2⟩ => ⟨S, h1, fun S' h' => by have := sm_nn N h'.2.2; omega⟩
  | k + 1, ⟨S, h1, h2⟩ => by
    by_cases q : ∃ S, Sl0 cs N S ∧ sm S N ≤ k
    · exact min_sum k q
    · refine ⟨S, h1, fun S' h' => ?_⟩
      have : ¬ sm S' N ≤ k := fun e => q ⟨S', h', e⟩
      omega
/-- how many stand already -/
def cnt (p S : Nat → Int) : Nat → Nat
  | 0 => 0
  | n + 1 => cnt p S n + (if p n < S n then 0 else 1)
theorem cnt_le (p S : Nat → Int) : ∀ n, cnt p S n ≤ n
  | 0 => Nat.le_refl _
  | n + 1 => by
    have := cnt_le p S n
    show cnt p S n + _ ≤ n + 1
    split <;> omega
theorem cnt_mono {p q S : Nat → Int} : ∀ n, (∀ v, v < n → p v ≤ q v) → cnt p S n ≤ cnt q S n
  | 0, _ => Nat.le_refl _
  | n + 1, h => by
    have a := cnt_mono (S := S) n fun v hv => h v (by omega)
    have b := h n (by omega)
    show cnt p S n + _ ≤ cnt q S n + _
    split <;> split <;> omega
theorem cnt_lt {p q S : Nat → Int} : ∀ n, (∀ v, v < n → p v ≤ q v) → (∃ v, v < n ∧ p v < S v ∧ ¬ q v < S v) → cnt p S n < cnt q S n
  | 0, _, ⟨v, hv, _⟩ => by omega
  | n + 1, h, ⟨v, hv, h1, h2⟩ => by
    have b := h n (by omega)
    show cnt p S n + _ < cnt q S n + _
    by_cases e : v = n
    · subst e
      have a := cnt_mono (S := S) v fun u hu => h u (by omega)
      rw [if_pos h1, if_neg h2]
      omega
    · have a := cnt_lt n (fun u hu => h u (by omega)) ⟨v, by omega, h1, h2⟩
      split <;> split <;> omega
theorem cnt_one {p S : Nat → Int} : ∀ n, (∃ v, v < n ∧ ¬ p v < S v) → 1 ≤ cnt p S n
  | 0, ⟨v, hv, _⟩ => by omega
  | n + 1, ⟨v, hv, h⟩ => by
    show 1 ≤ cnt p S n + _
    by_cases e : v = n
    · subst e; rw [if_neg h]; omega
    · have := cnt_one n ⟨v, by omega, h⟩; omega
theorem lp_go {cs : List Con} {N : Nat} (hN : 0 < N) (hi : Ix cs N) {S : Nat → Int} (hS : Sl0 cs N S) (hm : ∀ S', Sl0 cs N S' → sm S N ≤ sm S' N) : ∀ (n : Nat) (p : List Int), p.length = N → (∀ v, v < N → 0 ≤ at0 p v) → (∀ v, v < N → at0 p v ≤ S v) → N + 1 ≤ cnt (at0 p) S N + n → ∃ m, lp cs n p = some m
  | 0, p, hl, h0, hp, hc => by
    have := cnt_le (at0 p) S N
    omega
  | n + 1, p, hl, h0, hp, hc => by
    have hi' : Ix cs p.length := by rw [hl]; exact hi
    have g := rz_ge cs p hi'
    have l := rz_le cs p hi' S hS.1 (by rw [hl]; exact hp)
    rw [hl] at l
    unfold lp
    by_cases q : rz cs p = p
    · exact ⟨p, if_pos q⟩
    · rw [if_neg q]
      have hz : ¬ 0 < (rz cs p).getD 0 0 := by
        have := l 0 hN
        rw [hS.2.1] at this
        unfold at0 at this
        omega
      rw [if_neg hz]
      by_cases hall : ∃ v, v < N ∧ at0 p v < S v
      · have hnew : ∃ v, v < N ∧ at0 p v < S v ∧ ¬ at0 (rz cs p) v < S v := by
          by_cases w : ∃ v, v < N ∧ at0 p v < S v ∧ ¬ at0 (rz cs p) v < S v
          · exact w
          · exfalso
            have w' : ∀ v, v < N → at0 p v < S v → at0 (rz cs p) v < S v := fun v hv h1 => by
              by_cases h2 : at0 (rz cs p) v < S v
              · exact h2
              · exact absurd ⟨v, hv, h1, h2⟩ w
            obtain ⟨S', hS'⟩ : ∃ S' : Nat → Int, ∀ v, S' v = if at0 p v < S v then S v - 1 else S v := ⟨fun v => if at0 p v < S v then S v - 1 else S v, fun _ => rfl⟩
            have hsol : Sl0 cs N S' := by
              refine ⟨fun c hcs => ?_, ?_, fun v hv => ?_⟩
              · have hcu := (hi c hcs).1
                have hcv := (hi c hcs).2
                have e1 := hS.1 c hcs
                have e2 := rz_con cs p hi' c hcs
                have e3 := hp c.1 hcu
                rw [hS' c.1, hS' c.2.1]
                by_cases y1 : at0 p c.2.1 < S c.2.1
                · rw [if_pos y1]
                  have e4 := w' c.2.1 hcv y1
                  by_cases y2 : at0 p c.1 < S c.1
                  · rw [if_pos y2]; omega
                  · rw [if_neg y2]; omega
                · rw [if_neg y1]
                  split <;> omega
              · have e0 := h0 0 hN
                rw [hS' 0, if_neg (by rw [hS.2.1]; omega)]
                exact hS.2.1
              · have e0 := h0 v hv
                have e1 := hS.2.2 v hv
                rw [hS' v]
                split <;> omega
            have hlt : sm S' N < sm S N := by
              refine sm_lt N (fun v hv => by rw [hS' v]; split <;> omega) ?_
              obtain ⟨v, hv, h1⟩ := hall
              exact ⟨v, hv, by rw [hS' v, if_pos h1]; omega⟩
            have := hm S' hsol
            omega
        have hc2 := cnt_lt N (fun v _ => g v) hnew
        exact lp_go hN hi hS hm n (rz cs p) (by rw [rz_len, hl]) (fun v hv => Int.le_trans (h0 v hv) (g v)) l (by omega)
      · exfalso
        refine q (list_ext0 (by rw [rz_len]) fun v hv => ?_)
        rw [rz_len, hl] at hv
        have a := g v
        have b := l v hv
        have c : ¬ at0 p v < S v := fun e => hall ⟨v, hv, e⟩
        omega
def zs (N : Nat) : List Int := List.replicate N 0
theorem zs_at (N v : Nat) : at0 (zs N) v = 0 := by
  unfold at0 zs
  rw [List.getD_eq_getElem?_getD, List.getElem?_replicate]
  split <;> rfl
/-- none: no solution -/
theorem lp_none {cs : List Con} {N : Nat} (hN : 0 < N) (hi : Ix cs N) (h : lp cs N (zs N) = none) : ¬ ∃ S, Sl0 cs N S := by
  rintro ⟨S0, h0⟩
  obtain ⟨S, hS, hm⟩ := min_sum (sm S0 N).toNat ⟨S0, h0, by have := sm_nn N h0.2.2; omega⟩
  obtain ⟨m, e⟩ := lp_go hN hi hS hm N (zs N) (by simp [zs]) (fun v _ => by rw [zs_at]; exact Int.le_refl _) (fun v hv => by rw [zs_at]; exact hS.2.2 v hv) (by
    have := cnt_one (p := at0 (zs N)) (S := S) N ⟨0, hN, by rw [zs_at, hS.2.1]; omega⟩
    omega)
  rw [e] at h
  cases h
theorem lp_some {cs : List Con} {N : Nat} (hN : 0 < N) (hi : Ix cs N) {m : List Int} (h : lp cs N (zs N) = some m) : m.length = N ∧ Sl0 cs N (at0 m) ∧ ∀ x, Sl0 cs N x → ∀ v, v < N → at0 m v ≤ x v := by
  obtain ⟨a1, a2, a3, a4, a5⟩ := lp_sol hN hi N (zs N) m (by simp [zs]) (zs_at N 0) (fun v _ => by rw [zs_at]; exact Int.le_refl _) h
  exact ⟨a1, ⟨a2, a3, a4⟩, fun x hx => a5 x hx.1 fun v hv => by rw [zs_at]; exact hx.2.2 v hv⟩
end Mir

namespace K12
open PySem PySem.Spec PyProof.Rows L2 Mir
def topS (i : Nat) : Stmt := PySem.Challenge.pw_boundbook_k12_row_lines_and_violations.main.body.getD i (.Pass ⟨0, 0, 0, 0⟩)
abbrev s_raised : Stmt := topS 1
abbrev N_raised : List Str := ["positions", "constraints", "higher", "first", "second", "distance"]
theorem sc_raised : FnScope N_raised ["positions", "constraints"] (defScope s_raised) := ⟨rfl, rfl, rfl, by decide +kernel, rfl, by decide +kernel, by decide +kernel⟩
abbrev s_least_positions : Stmt := topS 2
abbrev N_least_positions : List Str := ["count", "constraints", "positions", "_", "higher"]
theorem sc_least_positions : FnScope N_least_positions ["count", "constraints"] (defScope s_least_positions) := ⟨rfl, rfl, rfl, by decide +kernel, rfl, by decide +kernel, by decide +kernel⟩
abbrev s_inner_size : Stmt := topS 4
abbrev N_inner_size : List Str := ["lines", "first", "span"]
theorem sc_inner_size : FnScope N_inner_size ["lines", "first", "span"] (defScope s_inner_size) := ⟨rfl, rfl, rfl, by decide +kernel, rfl, by decide +kernel, by decide +kernel⟩
abbrev s_longest : Stmt := topS 6
abbrev N_longest : List Str := ["words", "word"]
theorem sc_longest : FnScope N_longest ["words"] (defScope s_longest) := ⟨rfl, rfl, rfl, by decide +kernel, rfl, by decide +kernel, by decide +kernel⟩
abbrev s_length_of : Stmt := topS 7
abbrev N_length_of : List Str := ["words"]
theorem sc_length_of : FnScope N_length_of ["words"] (defScope s_length_of) := ⟨rfl, rfl, rfl, by decide +kernel, rfl, by decide +kernel, by decide +kernel⟩
abbrev s_wrap : Stmt := topS 8
abbrev N_wrap : List Str := ["words", "width", "lines", "line", "word"]
theorem sc_wrap : FnScope N_wrap ["words", "width"] (defScope s_wrap) := ⟨rfl, rfl, rfl, by decide +kernel, rfl, by decide +kernel, by decide +kernel⟩
abbrev s_line_count : Stmt := topS 9
abbrev N_line_count : List Str := ["words", "width", "lines"]
theorem sc_line_count : FnScope N_line_count ["words", "width"] (defScope s_line_count) := ⟨rfl, rfl, rfl, by decide +kernel, rfl, by decide +kernel, by decide +kernel⟩
abbrev s_row_lines_for : Stmt := topS 11
abbrev N_row_lines_for : List Str := ["table", "column_lines", "_", "rows", "cells", "constraints", "row", "column", "row_span", "column_span", "words", "count", "number"]
theorem sc_row_lines_for : FnScope N_row_lines_for ["table", "column_lines"] (defScope s_row_lines_for) := ⟨rfl, rfl, rfl, by decide +kernel, rfl, by decide +kernel, by decide +kernel⟩
abbrev s_is_cell_met : Stmt := topS 12
abbrev N_is_cell_met : List Str := ["cell", "layout", "column_lines", "row_lines", "row", "column", "row_span", "column_span", "words", "count"]
theorem sc_is_cell_met : FnScope N_is_cell_met ["cell", "layout"] (defScope s_is_cell_met) := ⟨rfl, rfl, rfl, by decide +kernel, rfl, by decide +kernel, by decide +kernel⟩
abbrev s_column_violations : Stmt := topS 13
abbrev N_column_violations : List Str := ["number", "column", "column_lines", "least", "most", "percent", "width", "found"]
theorem sc_column_violations : FnScope N_column_violations ["number", "column", "column_lines"] (defScope s_column_violations) := ⟨rfl, rfl, rfl, by decide +kernel, rfl, by decide +kernel, by decide +kernel⟩
abbrev s_violations : Stmt := topS 14
abbrev N_violations : List Str := ["table", "layout", "columns", "rows", "cells", "column_lines", "row_lines", "found", "number", "column", "row", "cell"]
theorem sc_violations : FnScope N_violations ["table", "layout"] (defScope s_violations) := ⟨rfl, rfl, rfl, by decide +kernel, rfl, by decide +kernel, by decide +kernel⟩
abbrev s_Lcell : Stmt := topS 16
abbrev N_Lcell : List Str := ["script", "k"]
theorem sc_Lcell : FnScope N_Lcell ["script", "k"] (defScope s_Lcell) := ⟨rfl, rfl, rfl, by decide +kernel, rfl, by decide +kernel, by decide +kernel⟩
abbrev s_Ldraws : Stmt := topS 17
abbrev N_Ldraws : List Str := ["cell", "count", "found", "is_wide", "k", "mixed"]
theorem sc_Ldraws : FnScope N_Ldraws ["cell", "count"] (defScope s_Ldraws) := ⟨rfl, rfl, rfl, by decide +kernel, rfl, by decide +kernel, by decide +kernel⟩
abbrev s_Lwords : Stmt := topS 18
abbrev N_Lwords : List Str := ["number", "k"]
theorem sc_Lwords : FnScope N_Lwords ["number"] (defScope s_Lwords) := ⟨rfl, rfl, rfl, by decide +kernel, rfl, by decide +kernel, by decide +kernel⟩
abbrev s_Lspan : Stmt := topS 19
abbrev N_Lspan : List Str := ["covered", "row", "column", "extent", "number", "rows", "columns", "heads", "down", "across"]
theorem sc_Lspan : FnScope N_Lspan ["covered", "row", "column", "extent", "number"] (defScope s_Lspan) := ⟨rfl, rfl, rfl, by decide +kernel, rfl, by decide +kernel, by decide +kernel⟩
abbrev s_Lcells : Stmt := topS 20
abbrev N_Lcells : List Str := ["extent", "draws", "covered", "cells", "row", "column", "at", "down", "across", "k"]
theorem sc_Lcells : FnScope N_Lcells ["extent", "draws"] (defScope s_Lcells) := ⟨rfl, rfl, rfl, by decide +kernel, rfl, by decide +kernel, by decide +kernel⟩
abbrev s_Ltable : Stmt := topS 21
abbrev N_Ltable : List Str := ["script", "at", "most_columns", "most_rows", "draws", "extent", "columns", "k", "least", "most", "percent", "rows"]
theorem sc_Ltable : FnScope N_Ltable ["script", "at", "most_columns", "most_rows"] (defScope s_Ltable) := ⟨rfl, rfl, rfl, by decide +kernel, rfl, by decide +kernel, by decide +kernel⟩
abbrev s_Lline_count : Stmt := topS 22
abbrev N_Lline_count : List Str := ["words", "width", "count", "used", "word"]
theorem sc_Lline_count : FnScope N_Lline_count ["words", "width"] (defScope s_Lline_count) := ⟨rfl, rfl, rfl, by decide +kernel, rfl, by decide +kernel, by decide +kernel⟩
abbrev s_Linner : Stmt := topS 23
abbrev N_Linner : List Str := ["lines", "first", "count"]
theorem sc_Linner : FnScope N_Linner ["lines", "first", "count"] (defScope s_Linner) := ⟨rfl, rfl, rfl, by decide +kernel, rfl, by decide +kernel, by decide +kernel⟩
abbrev s_Lcells_right : Stmt := topS 24
abbrev N_Lcells_right : List Str := ["table", "xs", "ys", "row", "column", "down", "across", "words", "count"]
theorem sc_Lcells_right : FnScope N_Lcells_right ["table", "xs", "ys"] (defScope s_Lcells_right) := ⟨rfl, rfl, rfl, by decide +kernel, rfl, by decide +kernel, by decide +kernel⟩
abbrev s_Lrows_right : Stmt := topS 25
abbrev N_Lrows_right : List Str := ["table", "ys", "k"]
theorem sc_Lrows_right : FnScope N_Lrows_right ["table", "ys"] (defScope s_Lrows_right) := ⟨rfl, rfl, rfl, by decide +kernel, rfl, by decide +kernel, by decide +kernel⟩
abbrev s_Lrising : Stmt := topS 26
abbrev N_Lrising : List Str := ["count", "most", "found", "k", "longer", "lines", "line"]
theorem sc_Lrising : FnScope N_Lrising ["count", "most"] (defScope s_Lrising) := ⟨rfl, rfl, rfl, by decide +kernel, rfl, by decide +kernel, by decide +kernel⟩
abbrev s_Llines_of : Stmt := topS 27
abbrev N_Llines_of : List Str := ["heights", "lines", "height"]
theorem sc_Llines_of : FnScope N_Llines_of ["heights"] (defScope s_Llines_of) := ⟨rfl, rfl, rfl, by decide +kernel, rfl, by decide +kernel, by decide +kernel⟩
abbrev s_Lleast : Stmt := topS 28
abbrev N_Lleast : List Str := ["lists", "best", "lines", "k"]
theorem sc_Lleast : FnScope N_Lleast ["lists"] (defScope s_Lleast) := ⟨rfl, rfl, rfl, by decide +kernel, rfl, by decide +kernel, by decide +kernel⟩
abbrev s_Lviolated : Stmt := topS 29
abbrev N_Lviolated : List Str := ["table", "xs", "ys", "found", "k", "row", "column", "down", "across", "words", "count", "least", "most", "percent", "align", "width"]
theorem sc_Lviolated : FnScope N_Lviolated ["table", "xs", "ys"] (defScope s_Lviolated) := ⟨rfl, rfl, rfl, by decide +kernel, rfl, by decide +kernel, by decide +kernel⟩
abbrev s_Llong_table : Stmt := topS 30
abbrev N_Llong_table : List Str := ["many", "down", "plain", "cells", "k"]
theorem sc_Llong_table : FnScope N_Llong_table ["many", "down"] (defScope s_Llong_table) := ⟨rfl, rfl, rfl, by decide +kernel, rfl, by decide +kernel, by decide +kernel⟩
abbrev s_law : Stmt := topS 31
abbrev N_law : List Str := ["script", "table", "draws", "xs", "ys", "told", "rows", "right", "k", "lines"]
theorem sc_law : FnScope N_law ["script"] (defScope s_law) := ⟨rfl, rfl, rfl, by decide +kernel, rfl, by decide +kernel, by decide +kernel⟩
/-! ### what each def does to data -/
def b_raised_1 : En → Out := (sIf (t1 (e2 ltD (eIxO 2 (eVar 4)) (e2 addD (eIxO 2 (eVar 3)) (eVar 5)))) (sPut 2 (eVar 4) (e2 addD (eIxO 2 (eVar 3)) (eVar 5))) sNil)
def f_raised : En → Out := (sSeq (sOwn 2 (fList (eVar 0))) (sSeq (sFor (iSeq (eVar 1)) (gT [3, 4, 5]) b_raised_1) (fun env => (sRet (eVar 2)) (frz 2 env))))
def g_raised : List PyData → Option PyData := gDef 2 6 f_raised
def b_least_positions_1 : En → Out := (sSeq (sSet 4 (eCall g_raised (aCons (eVar 2) (aCons (eVar 1) aNil)))) (sSeq (sIf (t1 (e2 eqD (eVar 4) (eVar 2))) (sRet (eVar 2)) sNil) (sSeq (sIf (t1 (e2 gtD (e2 ixG (eVar 4) (eC (.int 0))) (eC (.int 0)))) (sRet (eC .none)) sNil) (sSet 2 (eVar 4)))))
def f_least_positions : En → Out := (sSeq (sSet 2 (eL (fRep (fLst (aCons (eC (.int 0)) aNil)) (eVar 0)))) (sSeq (sFor (iR1 (aCons (eVar 0) aNil)) (gVal 3) b_least_positions_1) (sRet (eC .none))))
def g_least_positions : List PyData → Option PyData := gDef 2 5 f_least_positions
def f_inner_size : En → Out := (sRet (e2 subD (e2 subD (e2 ixG (eVar 0) (e2 addD (eVar 1) (eVar 2))) (e2 ixG (eVar 0) (eVar 1))) (eC (.int 1))))
def g_inner_size : List PyData → Option PyData := gDef 3 3 f_inner_size
def c_longest_1 : En → Option PyData := (eCall lenA (aCons (eVar 1) aNil))
def f_longest : En → Out := (sRet (eMxD mxI (eL (fCmp [1] (iSeq (eVar 0)) (gVal 1) tYes' c_longest_1)) (eC (.int 0))))
def g_longest : List PyData → Option PyData := gDef 1 2 f_longest
def f_length_of : En → Out := (sRet (eCall lenA (aCons (eJoin (eC (.str " ")) (eVar 0)) aNil)))
def g_length_of : List PyData → Option PyData := gDef 1 1 f_length_of
def b_wrap_1 : En → Out := (sSeq (sIf (tAnd' (tTr (eVar 3)) (t1 (e2 gtD (e2 addD (e2 addD (eCall g_length_of (aCons (eVar 3) aNil)) (eC (.int 1))) (eCall lenA (aCons (eVar 4) aNil))) (eVar 1)))) (sSeq (sApp 2 (eVar 3)) (sSet 3 (eTup aNil))) sNil) (sSet 3 (e2 addD (eVar 3) (eTup (aCons (eVar 4) aNil)))))
def f_wrap : En → Out := (sSeq (sIf (t1 (e2 gtD (eCall g_longest (aCons (eVar 0) aNil)) (eVar 1))) (sRet (eC .none)) sNil) (sSeq (sOwn 2 (fLst aNil)) (sSeq (sSet 3 (eTup aNil)) (sSeq (sFor (iSeq (eVar 0)) (gVal 4) b_wrap_1) (sSeq (sIf (tTr (eVar 3)) (sApp 2 (eVar 3)) sNil) (fun env => (sRet (eVar 2)) (frz 2 env)))))))
def g_wrap : List PyData → Option PyData := gDef 2 5 f_wrap
def f_line_count : En → Out := (sSeq (sSet 2 (eCall g_wrap (aCons (eVar 0) (aCons (eVar 1) aNil)))) (sSeq (sIf (t1 (e2 isD (eVar 2) (eC .none))) (sRet (eC .none)) sNil) (sRet (eCall lenA (aCons (eVar 2) aNil)))))
def g_line_count : List PyData → Option PyData := gDef 2 3 f_line_count
def c_row_lines_for_1 : En → Option PyData := (eTup (aCons (eVar 12) (aCons (e2 addD (eVar 12) (eC (.int 1))) (aCons (e2 addD (e2 ixG (eVar 6) (eC (.int 0))) (eC (.int 1))) aNil))))
def b_row_lines_for_1 : En → Out := (sSeq (sSet 11 (eCall g_line_count (aCons (eVar 10) (aCons (eCall g_inner_size (aCons (eVar 1) (aCons (eVar 7) (aCons (eVar 9) aNil)))) aNil)))) (sSeq (sIf (t1 (e2 isD (eVar 11) (eC .none))) (sRet (eC .none)) sNil) (sApp 5 (eTup (aCons (eVar 6) (aCons (e2 addD (eVar 6) (eVar 8)) (aCons (e2 addD (eVar 11) (eC (.int 1))) aNil)))))))
def f_row_lines_for : En → Out := (sSeq (sUnp (eVar 0) (gT [2, 3, 4])) (sSeq (sOwn 5 (fCmp [12, 6] (iEnm (aCons (eVar 3) aNil)) (gT [12, 6]) tYes' c_row_lines_for_1)) (sSeq (sFor (iSeq (eVar 4)) (gT [6, 7, 8, 9, 10]) b_row_lines_for_1) (fun env => (sRet (eCall tupA (aCons (eCall g_least_positions (aCons (e2 addD (eCall lenA (aCons (eVar 3) aNil)) (eC (.int 1))) (aCons (eVar 5) aNil))) aNil))) (frz 5 env)))))
def g_row_lines_for : List PyData → Option PyData := gDef 2 13 f_row_lines_for
def f_is_cell_met : En → Out := (sSeq (sUnp (eVar 1) (gT [2, 3])) (sSeq (sUnp (eVar 0) (gT [4, 5, 6, 7, 8])) (sSeq (sSet 9 (eCall g_line_count (aCons (eVar 8) (aCons (eCall g_inner_size (aCons (eVar 2) (aCons (eVar 5) (aCons (eVar 7) aNil)))) aNil)))) (sRet (eAnd (e2 isntD (eVar 9) (eC .none)) (e2 leD (eVar 9) (eCall g_inner_size (aCons (eVar 3) (aCons (eVar 4) (aCons (eVar 6) aNil))))))))))
def g_is_cell_met : List PyData → Option PyData := gDef 2 10 f_is_cell_met
def f_column_violations : En → Out := (sSeq (sUnp (eSl (eVar 1) oNone (oSome (eC (.int 3)))) (gT [3, 4, 5])) (sSeq (sSet 6 (eCall g_inner_size (aCons (eVar 2) (aCons (eVar 0) (aCons (eC (.int 1)) aNil))))) (sSeq (sOwn 7 (fLst aNil)) (sSeq (sIf (t1 (e2 ltD (eVar 6) (eVar 3))) (sApp 7 (eTup (aCons (eC (.str "least")) (aCons (eVar 0) aNil)))) sNil) (sSeq (sIf (tAnd' (t1 (e2 isntD (eVar 4) (eC .none))) (t1 (e2 gtD (eVar 6) (eVar 4)))) (sApp 7 (eTup (aCons (eC (.str "most")) (aCons (eVar 0) aNil)))) sNil) (sSeq (sIf (tAnd' (t1 (e2 isntD (eVar 5) (eC .none))) (t1 (e2 ltD (e2 mulD (eC (.int 100)) (e2 addD (eVar 6) (eC (.int 1)))) (e2 mulD (eVar 5) (e2 ixG (eVar 2) (e1 negD (eC (.int 1)))))))) (sApp 7 (eTup (aCons (eC (.str "percent")) (aCons (eVar 0) aNil)))) sNil) (fun env => (sRet (eVar 7)) (frz 7 env))))))))
def g_column_violations : List PyData → Option PyData := gDef 3 8 f_column_violations
def c_violations_1 : En → Option PyData := (eTup (aCons (eC (.str "cell")) (aCons (eVar 8) aNil)))
def t_violations_1 : En → Option Bool := (tNot' (tTr (eCall g_is_cell_met (aCons (eVar 11) (aCons (eVar 1) aNil)))))
def b_violations_1 : En → Out := (sExt 7 (eCall g_column_violations (aCons (eVar 8) (aCons (eVar 9) (aCons (eVar 5) aNil)))))
def b_violations_2 : En → Out := (sIf (t1 (e2 ltD (eCall g_inner_size (aCons (eVar 6) (aCons (eVar 8) (aCons (eC (.int 1)) aNil)))) (e2 ixG (eVar 10) (eC (.int 0))))) (sApp 7 (eTup (aCons (eC (.str "row")) (aCons (eVar 8) aNil)))) sNil)
def f_violations : En → Out := (sSeq (sUnp (eVar 0) (gT [2, 3, 4])) (sSeq (sUnp (eVar 1) (gT [5, 6])) (sSeq (sOwn 7 (fCmp [8, 11] (iEnm (aCons (eVar 4) aNil)) (gT [8, 11]) t_violations_1 c_violations_1)) (sSeq (sFor (iEnm (aCons (eVar 2) aNil)) (gT [8, 9]) b_violations_1) (sSeq (sFor (iEnm (aCons (eVar 3) aNil)) (gT [8, 10]) b_violations_2) (fun env => (sRet (eVar 7)) (frz 7 env)))))))
def g_violations : List PyData → Option PyData := gDef 2 12 f_violations
def f_Lcell : En → Out := (sSeq (sIf (t1 (e2 ltD (eVar 1) (eCall lenA (aCons (eVar 0) aNil)))) (sRet (e2 ixG (eVar 0) (eVar 1))) sNil) (sRet (eC (.int 0))))
def g_Lcell : List PyData → Option PyData := gDef 2 2 f_Lcell
def b_Ldraws_1 : En → Out := (sIf (tTr (eVar 3)) (sSeq (sApp 2 (e2 modD (eVar 0) (eC (.int 1009)))) (sSet 0 (e2 divD (eVar 0) (eC (.int 1009))))) (sSeq (sSet 5 (e2 modD (e2 addD (e2 mulD (eVar 0) (eC (.int 48271))) (e2 mulD (eVar 4) (eC (.int 69621)))) (eC (.int 2147483647)))) (sApp 2 (e2 modD (e2 addD (e2 addD (e2 mulD (eVar 5) (eVar 5)) (e2 mulD (eVar 0) (eC (.int 31)))) (eVar 4)) (eC (.int 1000003))))))
def f_Ldraws : En → Out := (sSeq (sOwn 2 (fLst aNil)) (sSeq (sSet 3 (e2 geD (eVar 0) (e2 powD (eC (.int 10)) (eC (.int 18))))) (sSeq (sFor (iR1 (aCons (eVar 1) aNil)) (gVal 4) b_Ldraws_1) (fun env => (sRet (eVar 2)) (frz 2 env)))))
def g_Ldraws : List PyData → Option PyData := gDef 2 6 f_Ldraws
def c_Lwords_1 : En → Option PyData := (e2 ixG (eL (fLst (aCons (eC (.str "a")) (aCons (eC (.str "bb")) (aCons (eC (.str "c")) (aCons (eC (.str "dd")) aNil)))))) (e2 modD (e2 divD (eVar 0) (e2 mulD (eC (.int 7)) (e2 addD (eVar 1) (eC (.int 1))))) (eC (.int 4))))
def f_Lwords : En → Out := (sRet (eCall tupA (aCons (eL (fCmp [1] (iR1 (aCons (e2 modD (eVar 0) (eC (.int 3))) aNil)) (gVal 1) tYes' c_Lwords_1)) aNil)))
def g_Lwords : List PyData → Option PyData := gDef 1 2 f_Lwords
def f_Lspan : En → Out := (sSeq (sUnp (eVar 3) (gT [5, 6, 7])) (sSeq (sSet 8 (e2 addD (eC (.int 1)) (e2 modD (eVar 4) (eC (.int 2))))) (sSeq (sSet 9 (e2 addD (eC (.int 1)) (e2 modD (e2 divD (eVar 4) (eC (.int 2))) (eC (.int 2))))) (sSeq (sIf (t1 (e2 gtD (e2 addD (eVar 1) (eVar 8)) (eIf (t1 (e2 ltD (eVar 1) (eVar 7))) (eVar 7) (eVar 5)))) (sSet 8 (eC (.int 1))) sNil) (sSeq (sIf (tOr' (t1 (e2 gtD (e2 addD (eVar 2) (eVar 9)) (eVar 6))) (t1 (e2 inT (eTup (aCons (eVar 1) (aCons (e2 subD (e2 addD (eVar 2) (eVar 9)) (eC (.int 1))) aNil))) (eVar 0)))) (sSet 9 (eC (.int 1))) sNil) (sRet (eTup (aCons (eVar 8) (aCons (eVar 9) aNil)))))))))
def g_Lspan : List PyData → Option PyData := gDef 5 10 f_Lspan
def b_Lcells_1 : En → Out := (sApp 2 (eTup (aCons (e2 addD (eVar 4) (e2 divD (eVar 9) (eVar 8))) (aCons (e2 addD (eVar 5) (e2 modD (eVar 9) (eVar 8))) aNil))))
def b_Lcells_2 : En → Out := (sIf (t1 (e2 notInT (eTup (aCons (eVar 4) (aCons (eVar 5) aNil))) (eBor 2))) (sSeq (sSet 6 (e2 addD (e2 mulD (eC (.int 3)) (eVar 4)) (eVar 5))) (sSeq (sUnp (eN (eCall g_Lspan (aCons (eBor 2) (aCons (eVar 4) (aCons (eVar 5) (aCons (eVar 0) (aCons (e2 divD (e2 ixG (eVar 1) (e2 modD (e2 addD (e2 mulD (eVar 6) (eC (.int 5))) (eC (.int 1))) (eC (.int 40)))) (eC (.int 3))) aNil))))))) (gT [7, 8])) (sSeq (sFor (iR1 (aCons (e2 mulD (eVar 7) (eVar 8)) aNil)) (gVal 9) b_Lcells_1) (sApp 3 (eTup (aCons (eVar 4) (aCons (eVar 5) (aCons (eVar 7) (aCons (eVar 8) (aCons (eCall g_Lwords (aCons (e2 ixG (eVar 1) (e2 modD (e2 addD (e2 mulD (eVar 6) (eC (.int 7))) (eC (.int 3))) (eC (.int 40)))) aNil)) aNil)))))))))) sNil)
def b_Lcells_3 : En → Out := (sFor (iR1 (aCons (e2 ixG (eVar 0) (eC (.int 1))) aNil)) (gVal 5) b_Lcells_2)
def f_Lcells : En → Out := (sSeq (sOwn 2 (fLst aNil)) (sSeq (sOwn 3 (fLst aNil)) (sSeq (sFor (iR1 (aCons (e2 ixG (eVar 0) (eC (.int 0))) aNil)) (gVal 4) b_Lcells_3) (sRet (eTupO 3)))))
def g_Lcells : List PyData → Option PyData := gDef 2 10 f_Lcells
def b_Ltable_1 : En → Out := (sSeq (sSet 8 (e2 addD (eC (.int 1)) (e2 modD (e2 ixG (eVar 4) (e2 addD (eC (.int 4)) (eVar 7))) (eC (.int 3))))) (sSeq (sSet 9 (e2 ixG (eL (fLst (aCons (eC .none) (aCons (eC .none) (aCons (e2 addD (eVar 8) (e2 modD (e2 ixG (eVar 4) (e2 addD (eC (.int 7)) (eVar 7))) (eC (.int 4)))) aNil))))) (e2 modD (e2 ixG (eVar 4) (e2 addD (eC (.int 10)) (eVar 7))) (eC (.int 3))))) (sSeq (sSet 10 (e2 ixG (eL (fLst (aCons (eC .none) (aCons (eC .none) (aCons (eC .none) (aCons (eC (.int 20)) (aCons (eC (.int 35)) (aCons (eC (.int 50)) aNil)))))))) (e2 modD (e2 ixG (eVar 4) (e2 addD (eC (.int 13)) (eVar 7))) (eC (.int 6))))) (sApp 6 (eTup (aCons (eVar 8) (aCons (eVar 9) (aCons (eVar 10) (aCons (e2 ixG (eL (fLst (aCons (eC (.str "left")) (aCons (eC (.str "right")) (aCons (eC (.str "center")) aNil))))) (e2 modD (e2 ixG (eVar 4) (e2 addD (eC (.int 16)) (eVar 7))) (eC (.int 3)))) aNil)))))))))
def c_Ltable_1 : En → Option PyData := (eTup (aCons (e2 addD (eC (.int 1)) (e2 modD (e2 ixG (eVar 4) (e2 addD (eC (.int 19)) (eVar 7))) (eC (.int 2)))) (aCons (e2 ltD (eVar 7) (e2 ixG (eVar 5) (eC (.int 2)))) (aCons (e2 eqD (e2 modD (e2 ixG (eVar 4) (e2 addD (eC (.int 22)) (eVar 7))) (eC (.int 4))) (eC (.int 1))) aNil))))
def f_Ltable : En → Out := (sSeq (sSet 4 (eCall g_Ldraws (aCons (eCall g_Lcell (aCons (eVar 0) (aCons (eVar 1) aNil))) (aCons (eC (.int 40)) aNil)))) (sSeq (sSet 5 (eTup (aCons (e2 addD (eC (.int 1)) (e2 modD (e2 ixG (eVar 4) (eC (.int 1))) (eVar 3))) (aCons (e2 addD (eC (.int 1)) (e2 modD (e2 ixG (eVar 4) (eC (.int 0))) (eVar 2))) (aCons (eIf (t1 (e2 eqD (e2 modD (e2 ixG (eVar 4) (eC (.int 3))) (eC (.int 3))) (eC (.int 0)))) (e2 modD (e2 ixG (eVar 4) (eC (.int 2))) (eC (.int 2))) (eC (.int 0))) aNil))))) (sSeq (sOwn 6 (fLst aNil)) (sSeq (sFor (iR1 (aCons (e2 ixG (eVar 5) (eC (.int 1))) aNil)) (gVal 7) b_Ltable_1) (sSeq (sSet 11 (eL (fCmp [7] (iR1 (aCons (e2 ixG (eVar 5) (eC (.int 0))) aNil)) (gVal 7) tYes' c_Ltable_1))) (sRet (eTup (aCons (eTupO 6) (aCons (eCall tupA (aCons (eVar 11) aNil)) (aCons (eCall g_Lcells (aCons (eVar 5) (aCons (eVar 4) aNil))) aNil))))))))))
def g_Ltable : List PyData → Option PyData := gDef 4 12 f_Ltable
def b_Lline_count_1 : En → Out := (sSeq (sIf (t1 (e2 gtD (eCall lenA (aCons (eVar 4) aNil)) (eVar 1))) (sRet (eC .none)) sNil) (sIf (tAnd' (t1 (e2 gtD (eVar 2) (eC (.int 0)))) (t1 (e2 leD (e2 addD (e2 addD (eVar 3) (eC (.int 1))) (eCall lenA (aCons (eVar 4) aNil))) (eVar 1)))) (sSet 3 (e2 addD (e2 addD (eVar 3) (eC (.int 1))) (eCall lenA (aCons (eVar 4) aNil)))) (sSeq (sSet 2 (e2 addD (eVar 2) (eC (.int 1)))) (sSet 3 (eCall lenA (aCons (eVar 4) aNil))))))
def f_Lline_count : En → Out := (sSeq (sSet 2 (eC (.int 0))) (sSeq (sSet 3 (eC (.int 0))) (sSeq (sFor (iSeq (eVar 0)) (gVal 4) b_Lline_count_1) (sRet (eVar 2)))))
def g_Lline_count : List PyData → Option PyData := gDef 2 5 f_Lline_count
def f_Linner : En → Out := (sRet (e2 subD (e2 subD (e2 ixG (eVar 0) (e2 addD (eVar 1) (eVar 2))) (e2 ixG (eVar 0) (eVar 1))) (eC (.int 1))))
def g_Linner : List PyData → Option PyData := gDef 3 3 f_Linner
def b_Lcells_right_1 : En → Out := (sSeq (sSet 8 (eCall g_Lline_count (aCons (eVar 7) (aCons (eCall g_Linner (aCons (eVar 1) (aCons (eVar 4) (aCons (eVar 6) aNil)))) aNil)))) (sIf (tOr' (t1 (e2 isD (eVar 8) (eC .none))) (t1 (e2 gtD (eVar 8) (eCall g_Linner (aCons (eVar 2) (aCons (eVar 3) (aCons (eVar 5) aNil))))))) (sRet (eC (.bool false))) sNil))
def f_Lcells_right : En → Out := (sSeq (sFor (iSeq (e2 ixG (eVar 0) (eC (.int 2)))) (gT [3, 4, 5, 6, 7]) b_Lcells_right_1) (sRet (eC (.bool true))))
def g_Lcells_right : List PyData → Option PyData := gDef 3 9 f_Lcells_right
def b_Lrows_right_1 : En → Out := (sIf (t1 (e2 ltD (eCall g_Linner (aCons (eVar 1) (aCons (eVar 2) (aCons (eC (.int 1)) aNil)))) (e2 ixG (e2 ixG (e2 ixG (eVar 0) (eC (.int 1))) (eVar 2)) (eC (.int 0))))) (sRet (eC (.bool false))) sNil)
def f_Lrows_right : En → Out := (sSeq (sFor (iR1 (aCons (eCall lenA (aCons (e2 ixG (eVar 0) (eC (.int 1))) aNil)) aNil)) (gVal 2) b_Lrows_right_1) (sRet (eC (.bool true))))
def g_Lrows_right : List PyData → Option PyData := gDef 2 3 f_Lrows_right
def b_Lrising_1 : En → Out := (sApp 4 (e2 addD (eVar 5) (eTup (aCons (eVar 6) aNil))))
def b_Lrising_2 : En → Out := (sFor (iR2 (aCons (e2 addD (e2 ixG (eVar 5) (e1 negD (eC (.int 1)))) (eC (.int 2))) (aCons (e2 addD (eVar 1) (eC (.int 1))) aNil))) (gVal 6) b_Lrising_1)
def b_Lrising_3 : En → Out := (sSeq (sOwn 4 (fLst aNil)) (sSeq (sFor (iSeq (eVar 2)) (gVal 5) b_Lrising_2) (fun env => (sSet 2 (eVar 4)) (frz 4 env))))
def f_Lrising : En → Out := (sSeq (sSet 2 (eL (fLst (aCons (eTup (aCons (eC (.int 0)) aNil)) aNil)))) (sSeq (sFor (iR1 (aCons (eVar 0) aNil)) (gVal 3) b_Lrising_3) (sRet (eVar 2))))
def g_Lrising : List PyData → Option PyData := gDef 2 7 f_Lrising
def b_Llines_of_1 : En → Out := (sApp 1 (e2 addD (e2 addD (eIxO 1 (e1 negD (eC (.int 1)))) (eVar 2)) (eC (.int 1))))
def f_Llines_of : En → Out := (sSeq (sOwn 1 (fLst (aCons (eC (.int 0)) aNil))) (sSeq (sFor (iSeq (eVar 0)) (gVal 2) b_Llines_of_1) (sRet (eTupO 1))))
def g_Llines_of : List PyData → Option PyData := gDef 1 3 f_Llines_of
def b_Lleast_1 : En → Out := (sPut 1 (eVar 3) (eCall mn2 (aCons (eIxO 1 (eVar 3)) (aCons (e2 ixG (eVar 2) (eVar 3)) aNil))))
def b_Lleast_2 : En → Out := (sFor (iR1 (aCons (eCall lenA (aCons (eBor 1) aNil)) aNil)) (gVal 3) b_Lleast_1)
def f_Lleast : En → Out := (sSeq (sOwn 1 (fList (e2 ixG (eVar 0) (eC (.int 0))))) (sSeq (sFor (iSeq (eVar 0)) (gVal 2) b_Lleast_2) (sRet (eTupO 1))))
def g_Lleast : List PyData → Option PyData := gDef 1 4 f_Lleast
def b_Lviolated_1 : En → Out := (sSeq (sUnp (e2 ixG (e2 ixG (eVar 0) (eC (.int 2))) (eVar 4)) (gT [5, 6, 7, 8, 9])) (sSeq (sSet 10 (eCall g_Lline_count (aCons (eVar 9) (aCons (eCall g_Linner (aCons (eVar 1) (aCons (eVar 6) (aCons (eVar 8) aNil)))) aNil)))) (sIf (tOr' (t1 (e2 isD (eVar 10) (eC .none))) (t1 (e2 gtD (eVar 10) (eCall g_Linner (aCons (eVar 2) (aCons (eVar 5) (aCons (eVar 7) aNil))))))) (sApp 3 (eTup (aCons (eC (.str "cell")) (aCons (eVar 4) aNil)))) sNil)))
def b_Lviolated_2 : En → Out := (sSeq (sUnp (e2 ixG (e2 ixG (eVar 0) (eC (.int 0))) (eVar 4)) (gT [11, 12, 13, 14])) (sSeq (sSet 15 (eCall g_Linner (aCons (eVar 1) (aCons (eVar 4) (aCons (eC (.int 1)) aNil))))) (sSeq (sIf (t1 (e2 ltD (eVar 15) (eVar 11))) (sApp 3 (eTup (aCons (eC (.str "least")) (aCons (eVar 4) aNil)))) sNil) (sSeq (sIf (tAnd' (t1 (e2 isntD (eVar 12) (eC .none))) (t1 (e2 gtD (eVar 15) (eVar 12)))) (sApp 3 (eTup (aCons (eC (.str "most")) (aCons (eVar 4) aNil)))) sNil) (sIf (tAnd' (t1 (e2 isntD (eVar 13) (eC .none))) (t1 (e2 ltD (e2 mulD (eC (.int 100)) (e2 addD (eVar 15) (eC (.int 1)))) (e2 mulD (eVar 13) (e2 ixG (eVar 1) (e1 negD (eC (.int 1)))))))) (sApp 3 (eTup (aCons (eC (.str "percent")) (aCons (eVar 4) aNil)))) sNil)))))
def c_Lviolated_1 : En → Option PyData := (eTup (aCons (eC (.str "row")) (aCons (eVar 4) aNil)))
def t_Lviolated_1 : En → Option Bool := (t1 (e2 ltD (eCall g_Linner (aCons (eVar 2) (aCons (eVar 4) (aCons (eC (.int 1)) aNil)))) (e2 ixG (e2 ixG (e2 ixG (eVar 0) (eC (.int 1))) (eVar 4)) (eC (.int 0)))))
def f_Lviolated : En → Out := (sSeq (sOwn 3 (fLst aNil)) (sSeq (sFor (iR1 (aCons (eCall lenA (aCons (e2 ixG (eVar 0) (eC (.int 2))) aNil)) aNil)) (gVal 4) b_Lviolated_1) (sSeq (sFor (iR1 (aCons (eCall lenA (aCons (e2 ixG (eVar 0) (eC (.int 0))) aNil)) aNil)) (gVal 4) b_Lviolated_2) (fun env => (sRet (eL (fCat (eVar 3) (eL (fCmp [4] (iR1 (aCons (eCall lenA (aCons (e2 ixG (eVar 0) (eC (.int 1))) aNil)) aNil)) (gVal 4) t_Lviolated_1 c_Lviolated_1))))) (frz 3 env)))))
def g_Lviolated : List PyData → Option PyData := gDef 3 16 f_Lviolated
def c_Llong_table_1 : En → Option PyData := (eTup (aCons (eVar 4) (aCons (eC (.int 1)) (aCons (eC (.int 1)) (aCons (eC (.int 1)) (aCons (eTup aNil) aNil))))))
def f_Llong_table : En → Out := (sSeq (sSet 2 (eTup (aCons (eC (.int 1)) (aCons (eC .none) (aCons (eC .none) (aCons (eC (.str "left")) aNil)))))) (sSeq (sSet 3 (eL (fCat (eL (fLst (aCons (eTup (aCons (eC (.int 0)) (aCons (eC (.int 0)) (aCons (eVar 1) (aCons (eC (.int 1)) (aCons (e2 tmulD (eTup (aCons (eC (.str "a")) aNil)) (eVar 0)) aNil)))))) aNil))) (eL (fCmp [4] (iR1 (aCons (eVar 1) aNil)) (gVal 4) tYes' c_Llong_table_1))))) (sRet (eTup (aCons (eTup (aCons (eVar 2) (aCons (eVar 2) aNil))) (aCons (e2 tmulD (eTup (aCons (eTup (aCons (eC (.int 1)) (aCons (eC (.bool false)) (aCons (eC (.bool false)) aNil)))) aNil)) (eVar 1)) (aCons (eCall tupA (aCons (eVar 3) aNil)) aNil)))))))
def g_Llong_table : List PyData → Option PyData := gDef 2 5 f_Llong_table
def c_law_1 : En → Option PyData := (e2 addD (eC (.int 1)) (e2 modD (e2 ixG (eVar 2) (eVar 8)) (eC (.int 6))))
def c_law_2 : En → Option PyData := (e2 addD (eC (.int 1)) (e2 modD (e2 ixG (eVar 2) (e2 addD (eC (.int 4)) (eVar 8))) (eC (.int 4))))
def c_law_3 : En → Option PyData := (eVar 9)
def t_law_3 : En → Option Bool := (tTr (eCall g_Lrows_right (aCons (eVar 1) (aCons (eVar 9) aNil))))
def c_law_4 : En → Option PyData := (eVar 9)
def t_law_4 : En → Option Bool := (tTr (eCall g_Lcells_right (aCons (eVar 1) (aCons (eVar 3) (aCons (eVar 9) aNil)))))
def f_law : En → Out := (sSeq (sSet 1 (eCall g_Ltable (aCons (eVar 0) (aCons (eC (.int 1)) (aCons (eC (.int 3)) (aCons (eC (.int 3)) aNil)))))) (sSeq (sIf (t1 (e2 eqD (e2 modD (eCall g_Lcell (aCons (eVar 0) (aCons (eC (.int 2)) aNil))) (eC (.int 4))) (eC (.int 1)))) (sSet 1 (eCall g_Llong_table (aCons (e2 addD (eC (.int 1)) (e2 modD (e2 divD (eCall g_Lcell (aCons (eVar 0) (aCons (eC (.int 2)) aNil))) (eC (.int 4))) (eC (.int 4)))) (aCons (e2 addD (eC (.int 2)) (e2 modD (e2 divD (eCall g_Lcell (aCons (eVar 0) (aCons (eC (.int 2)) aNil))) (eC (.int 16))) (eC (.int 2)))) aNil)))) sNil) (sSeq (sSet 2 (eCall g_Ldraws (aCons (eCall g_Lcell (aCons (eVar 0) (aCons (eC (.int 0)) aNil))) (aCons (eC (.int 8)) aNil)))) (sSeq (sSet 3 (eCall g_Llines_of (aCons (eL (fCmp [8] (iR1 (aCons (eCall lenA (aCons (e2 ixG (eVar 1) (eC (.int 0))) aNil)) aNil)) (gVal 8) tYes' c_law_1)) aNil))) (sSeq (sSet 4 (eCall g_Llines_of (aCons (eL (fCmp [8] (iR1 (aCons (eCall lenA (aCons (e2 ixG (eVar 1) (eC (.int 1))) aNil)) aNil)) (gVal 8) tYes' c_law_2)) aNil))) (sSeq (sSet 5 (eCall g_violations (aCons (eVar 1) (aCons (eTup (aCons (eVar 3) (aCons (eVar 4) aNil))) aNil)))) (sSeq (sIf (tOr' (tNot' (t1 (eIsi "list" (eVar 5)))) (t1 (e2 neD (eVar 5) (eCall g_Lviolated (aCons (eVar 1) (aCons (eVar 3) (aCons (eVar 4) aNil))))))) (sRet (eC (.bool false))) sNil) (sSeq (sSet 6 (eL (fCmp [9] (iSeq (eCall g_Lrising (aCons (eCall lenA (aCons (e2 ixG (eVar 1) (eC (.int 1))) aNil)) (aCons (eC (.int 11)) aNil)))) (gVal 9) t_law_3 c_law_3))) (sSeq (sSet 7 (eL (fCmp [9] (iSeq (eVar 6)) (gVal 9) t_law_4 c_law_4))) (sSeq (sSet 5 (eCall g_row_lines_for (aCons (eVar 1) (aCons (eVar 3) aNil)))) (sSeq (sIf (t1 (e2 eqD (eCall lenA (aCons (eVar 7) aNil)) (eC (.int 0)))) (sRet (e2 isD (eVar 5) (eC .none))) sNil) (sRet (eAnd (eIsi "tuple" (eVar 5)) (eAnd (e2 eqD (eVar 5) (eCall g_Lleast (aCons (eVar 7) aNil))) (e2 inT (eVar 5) (eVar 7))))))))))))))))
def g_law : List PyData → Option PyData := gDef 1 10 f_law
/-! ### the text does so -/
section
variable {P : Program} {w : World} {K : PySem.W.Frag} {mg : Str → Option Value} {base : Heap}
theorem ok_raised {f : Addr} {fd : FuncData} (F : Fun K "raised" "raised" s_raised f fd) (m_list : mg "list" = none) : FnOk P w K mg base CX0 1 f fd ["positions", "constraints"] (spF K g_raised) := by
  refine fn_ok (k := 0) (fB := f_raised) (np := 2) (nN := 6) F sc_raised rfl rfl rfl fun cdv A outer s H E hr => ?_
  have nd : N_raised.Nodup := sc_raised.nd
  exact ((cs_cons (cs_own (ps_set (i := 2) nd rfl (by first | exact Or.inl rfl | exact Or.inr rfl) (cf_list (c := true) (pe_callTy call_list_of (by rfl) m_list (by decide +kernel) (pa_cons (ce_var (i := 0) (pv 0)) pa_nil)))))
    (cs_cons (cs_for PassesOwn.never (by rfl) (ci_seq (ce_var (i := 1) (pv 1))) (cg_tup (is := [3, 4, 5]) (pg_tup rfl (pgs_cons (pg_name (i := 3) nd rfl (by first | exact Or.inl rfl | exact Or.inr rfl)) (pgs_cons (pg_name (i := 4) nd rfl (by first | exact Or.inl rfl | exact Or.inr rfl)) (pgs_cons (pg_name (i := 5) nd rfl (by first | exact Or.inl rfl | exact Or.inr rfl)) pgs_nil)))))
    (cs_one (cs_if (ct_cmp op_lt r2_B0 (ce_ixO (i := 2) (pv 2) (ce_var (i := 4) (pv 4)) (fun _ _ => rfl)) (ce_add (ce_ixO (i := 2) (pv 2) (ce_var (i := 3) (pv 3)) (fun _ _ => rfl)) (ce_var (i := 5) (pv 5))) (nomark _))
    (cs_one (cs_put (ps_asg (ce_add (ce_ixO (i := 2) (pv 2) (ce_var (i := 3) (pv 3)) (fun _ _ => rfl)) (ce_var (i := 5) (pv 5))) (pg_sub (pv 2) (ce_var (i := 4) (pv 4)) set_list))))
    cs_nil)))
    (cs_one (cs_frz (i := 2) (cs_ret (ce_var (i := 2) (pv 2))))))))
theorem ok_least_positions {f : Addr} {fd : FuncData} (F : Fun K "least_positions" "least_positions" s_least_positions f fd) {a_raised : Addr} {d_raised : FuncData} (G_raised : FnOk P w K mg base CX0 1 a_raised d_raised ["positions", "constraints"] (spF K g_raised)) (M_raised : mg "raised" = some (.ref a_raised)) (k_raised : PySem.W.keepIn K (.ref a_raised) = true) (b_raised : Binds K d_raised ["positions", "constraints"] []) (m_range : mg "range" = none) : FnOk P w K mg base CX0 2 f fd ["count", "constraints"] (spF K g_least_positions) := by
  refine fn_ok (k := 1) (fB := f_least_positions) (np := 2) (nN := 5) F sc_least_positions rfl rfl rfl fun cdv A outer s H E hr => ?_
  have nd : N_least_positions.Nodup := sc_least_positions.nd
  exact ((cs_cons (cs_set (ps_set (i := 2) nd rfl (by first | exact Or.inl rfl | exact Or.inr rfl) (ce_l (c := true) (cf_rep (c := true) (cf_lst (c := true) (ca_cons ce_int ca_nil)) (ce_var (i := 0) (pv 0))))))
    (cs_cons (cs_for PassesOwn.never (by rfl) (ci_r1 (pi_range1 (by rfl) m_range (ca_cons (ce_var (i := 0) (pv 0)) ca_nil))) (cg_name (pg_name (i := 3) nd rfl (by first | exact Or.inl rfl | exact Or.inr rfl)))
    (cs_cons (cs_set (ps_set (i := 4) nd rfl (by first | exact Or.inl rfl | exact Or.inr rfl) (ce_call (c := true) (pe_call G_raised (hr.mono (by decide)) (by rfl) M_raised k_raised b_raised .nil pass0 (ca_cons (ce_var (i := 2) (pv 2)) (ca_cons (ce_var (i := 1) (pv 1)) ca_nil))))))
    (cs_cons (cs_if (ct_cmp (op_eqD hr.units) r2_eq (ce_var (i := 4) (pv 4)) (ce_var (i := 2) (pv 2)) (nomark _))
    (cs_one (cs_ret (ce_var (i := 2) (pv 2))))
    cs_nil)
    (cs_cons (cs_if (ct_cmp op_gt r2_B0 (ce_ix (ce_var (i := 4) (pv 4)) ce_int (fun _ _ => rfl)) ce_int (nomark _))
    (cs_one (cs_ret ce_non))
    cs_nil)
    (cs_one (cs_set (ps_set (i := 2) nd rfl (by first | exact Or.inl rfl | exact Or.inr rfl) (ce_var (i := 4) (pv 4)))))))))
    (cs_one (cs_ret ce_non)))))
theorem ok_inner_size {f : Addr} {fd : FuncData} (F : Fun K "inner_size" "inner_size" s_inner_size f fd)  : FnOk P w K mg base CX0 1 f fd ["lines", "first", "span"] (spF K g_inner_size) := by
  refine fn_ok (k := 0) (fB := f_inner_size) (np := 3) (nN := 3) F sc_inner_size rfl rfl rfl fun cdv A outer s H E hr => ?_
  have nd : N_inner_size.Nodup := sc_inner_size.nd
  exact ((cs_one (cs_ret (ce_sub (ce_sub (ce_ix (ce_var (i := 0) (pv 0)) (ce_add (ce_var (i := 1) (pv 1)) (ce_var (i := 2) (pv 2))) (fun _ _ => rfl)) (ce_ix (ce_var (i := 0) (pv 0)) (ce_var (i := 1) (pv 1)) (fun _ _ => rfl))) ce_int))))
theorem ok_longest {f : Addr} {fd : FuncData} (F : Fun K "longest" "longest" s_longest f fd) (m_len : mg "len" = none) (m_max : mg "max" = none) : FnOk P w K mg base CX0 1 f fd ["words"] (spF K g_longest) := by
  refine fn_ok (k := 0) (fB := f_longest) (np := 1) (nN := 2) F sc_longest rfl rfl rfl fun cdv A outer s H E hr => ?_
  have nd : N_longest.Nodup := sc_longest.nd
  exact ((cs_one (cs_ret (ce_mxD (c := true) (pe_callBK (call_mxD rfl hr.units) (by rfl) m_max (by decide +kernel) (pa_cons (ce_l (c := true) (cf_lc1 (c2 := true) (pe_lc (own := [("word", 1)]) (by rfl) nd (ci_seq (ce_var (i := 0) (pv 0))) (blkOk_by (own := [("word", 1)]) (N := N_longest) (sc := defScope s_longest) (by decide +kernel)) (fun _ _ _ _ _ => (cg_name (pg_name (i := 1) nd rfl (by first | exact Or.inl rfl | exact Or.inr rfl)))) (fun _ _ _ _ _ => pts_nil) (fun _ _ _ _ _ => (ce_cb (c2 := true) cr_len (pe_callB call_len (by rfl) m_len boot_len (ca_cons (ce_var (i := 1) (pv 1)) ca_nil))))))) pa_nil) (pk_cons ce_int pk_nil))))))
theorem ok_length_of {f : Addr} {fd : FuncData} (F : Fun K "length_of" "length_of" s_length_of f fd) (m_len : mg "len" = none) : FnOk P w K mg base CX0 1 f fd ["words"] (spF K g_length_of) := by
  refine fn_ok (k := 0) (fB := f_length_of) (np := 1) (nN := 1) F sc_length_of rfl rfl rfl fun cdv A outer s H E hr => ?_
  have nd : N_length_of.Nodup := sc_length_of.nd
  exact ((cs_one (cs_ret (ce_cb (c2 := true) cr_len (pe_callB call_len (by rfl) m_len boot_len (ca_cons (ce_join (t := tNilE) (pe_join ce_str (ce_var (i := 0) (pv 0)))) ca_nil))))))
theorem ok_wrap {f : Addr} {fd : FuncData} (F : Fun K "wrap" "wrap" s_wrap f fd) {a_longest : Addr} {d_longest : FuncData} (G_longest : FnOk P w K mg base CX0 1 a_longest d_longest ["words"] (spF K g_longest)) (M_longest : mg "longest" = some (.ref a_longest)) (k_longest : PySem.W.keepIn K (.ref a_longest) = true) (b_longest : Binds K d_longest ["words"] []) {a_length_of : Addr} {d_length_of : FuncData} (G_length_of : FnOk P w K mg base CX0 1 a_length_of d_length_of ["words"] (spF K g_length_of)) (M_length_of : mg "length_of" = some (.ref a_length_of)) (k_length_of : PySem.W.keepIn K (.ref a_length_of) = true) (b_length_of : Binds K d_length_of ["words"] []) (m_len : mg "len" = none) : FnOk P w K mg base CX0 2 f fd ["words", "width"] (spF K g_wrap) := by
  refine fn_ok (k := 1) (fB := f_wrap) (np := 2) (nN := 5) F sc_wrap rfl rfl rfl fun cdv A outer s H E hr => ?_
  have nd : N_wrap.Nodup := sc_wrap.nd
  exact ((cs_cons (cs_if (ct_cmp op_gt r2_B0 (ce_call (c := true) (pe_call G_longest (hr.mono (by decide)) (by rfl) M_longest k_longest b_longest .nil pass0 (ca_cons (ce_var (i := 0) (pv 0)) ca_nil))) (ce_var (i := 1) (pv 1)) (nomark _))
    (cs_one (cs_ret ce_non))
    cs_nil)
    (cs_cons (cs_own (ps_set (i := 2) nd rfl (by first | exact Or.inl rfl | exact Or.inr rfl) (cf_lst (c := true) ca_nil)))
    (cs_cons (cs_set (ps_set (i := 3) nd rfl (by first | exact Or.inl rfl | exact Or.inr rfl) (ce_tup ca_nil)))
    (cs_cons (cs_for PassesOwn.never (by rfl) (ci_seq (ce_var (i := 0) (pv 0))) (cg_name (pg_name (i := 4) nd rfl (by first | exact Or.inl rfl | exact Or.inr rfl)))
    (cs_cons (cs_if (PW.pt (cw_and (ct_tru (ce_var (i := 3) (pv 3)) (by intro _; rfl)) (cw_and1 (ct_cmp op_gt r2_B0 (ce_add (ce_add (ce_call (c := true) (pe_call G_length_of (hr.mono (by decide)) (by rfl) M_length_of k_length_of b_length_of .nil pass0 (ca_cons (ce_var (i := 3) (pv 3)) ca_nil))) ce_int) (ce_cb (c2 := true) cr_len (pe_callB call_len (by rfl) m_len boot_len (ca_cons (ce_var (i := 4) (pv 4)) ca_nil)))) (ce_var (i := 1) (pv 1)) (nomark _)))))
    (cs_cons (cs_app (ps_expr (pe_bm PySem.F.plainAttrs_list PySem.F.slot_list_append PySem.F.type_list_append mt_append (pv 2) (pa_cons (ce_var (i := 3) (pv 3)) pa_nil))))
    (cs_one (cs_set (ps_set (i := 3) nd rfl (by first | exact Or.inl rfl | exact Or.inr rfl) (ce_tup ca_nil)))))
    cs_nil)
    (cs_one (cs_set (ps_set (i := 3) nd rfl (by first | exact Or.inl rfl | exact Or.inr rfl) (ce_add (ce_var (i := 3) (pv 3)) (ce_tup (ca_cons (ce_var (i := 4) (pv 4)) ca_nil))))))))
    (cs_cons (cs_if (ct_tru (ce_var (i := 3) (pv 3)) (by intro _; rfl))
    (cs_one (cs_app (ps_expr (pe_bm PySem.F.plainAttrs_list PySem.F.slot_list_append PySem.F.type_list_append mt_append (pv 2) (pa_cons (ce_var (i := 3) (pv 3)) pa_nil)))))
    cs_nil)
    (cs_one (cs_frz (i := 2) (cs_ret (ce_var (i := 2) (pv 2)))))))))))
theorem ok_line_count {f : Addr} {fd : FuncData} (F : Fun K "line_count" "line_count" s_line_count f fd) {a_wrap : Addr} {d_wrap : FuncData} (G_wrap : FnOk P w K mg base CX0 2 a_wrap d_wrap ["words", "width"] (spF K g_wrap)) (M_wrap : mg "wrap" = some (.ref a_wrap)) (k_wrap : PySem.W.keepIn K (.ref a_wrap) = true) (b_wrap : Binds K d_wrap ["words", "width"] []) (m_len : mg "len" = none) : FnOk P w K mg base CX0 3 f fd ["words", "width"] (spF K g_line_count) := by
  refine fn_ok (k := 2) (fB := f_line_count) (np := 2) (nN := 3) F sc_line_count rfl rfl rfl fun cdv A outer s H E hr => ?_
  have nd : N_line_count.Nodup := sc_line_count.nd
  exact ((cs_cons (cs_set (ps_set (i := 2) nd rfl (by first | exact Or.inl rfl | exact Or.inr rfl) (ce_call (c := true) (pe_call G_wrap (hr.mono (by decide)) (by rfl) M_wrap k_wrap b_wrap .nil pass0 (ca_cons (ce_var (i := 0) (pv 0)) (ca_cons (ce_var (i := 1) (pv 1)) ca_nil))))))
    (cs_cons (cs_if (ct_cmp op_isN r2_is (ce_var (i := 2) (pv 2)) ce_non (nomark _))
    (cs_one (cs_ret ce_non))
    cs_nil)
    (cs_one (cs_ret (ce_cb (c2 := true) cr_len (pe_callB call_len (by rfl) m_len boot_len (ca_cons (ce_var (i := 2) (pv 2)) ca_nil))))))))
theorem ok_row_lines_for {f : Addr} {fd : FuncData} (F : Fun K "row_lines_for" "row_lines_for" s_row_lines_for f fd) {a_line_count : Addr} {d_line_count : FuncData} (G_line_count : FnOk P w K mg base CX0 3 a_line_count d_line_count ["words", "width"] (spF K g_line_count)) (M_line_count : mg "line_count" = some (.ref a_line_count)) (k_line_count : PySem.W.keepIn K (.ref a_line_count) = true) (b_line_count : Binds K d_line_count ["words", "width"] []) {a_inner_size : Addr} {d_inner_size : FuncData} (G_inner_size : FnOk P w K mg base CX0 1 a_inner_size d_inner_size ["lines", "first", "span"] (spF K g_inner_size)) (M_inner_size : mg "inner_size" = some (.ref a_inner_size)) (k_inner_size : PySem.W.keepIn K (.ref a_inner_size) = true) (b_inner_size : Binds K d_inner_size ["lines", "first", "span"] []) {a_least_positions : Addr} {d_least_positions : FuncData} (G_least_positions : FnOk P w K mg base CX0 2 a_least_positions d_least_positions ["count", "constraints"] (spF K g_least_positions)) (M_least_positions : mg "least_positions" = some (.ref a_least_positions)) (k_least_positions : PySem.W.keepIn K (.ref a_least_positions) = true) (b_least_positions : Binds K d_least_positions ["count", "constraints"] []) (m_enumerate : mg "enumerate" = none) (m_len : mg "len" = none) (m_tuple : mg "tuple" = none) : FnOk P w K mg base CX0 4 f fd ["table", "column_lines"] (spF K g_row_lines_for) := by
  refine fn_ok (k := 3) (fB := f_row_lines_for) (np := 2) (nN := 13) F sc_row_lines_for rfl rfl rfl fun cdv A outer s H E hr => ?_
  have nd : N_row_lines_for.Nodup := sc_row_lines_for.nd
  exact ((cs_cons (cs_unp (ps_asg (ce_var (i := 0) (pv 0)) (cg_tup (is := [2, 3, 4]) (pg_tup rfl (pgs_cons (pg_name (i := 2) nd rfl (by first | exact Or.inl rfl | exact Or.inr rfl)) (pgs_cons (pg_name (i := 3) nd rfl (by first | exact Or.inl rfl | exact Or.inr rfl)) (pgs_cons (pg_name (i := 4) nd rfl (by first | exact Or.inl rfl | exact Or.inr rfl)) pgs_nil)))))))
    (cs_cons (cs_lcO1 (ps_setLc (i := 5) (own := [("number", 12), ("row", 6)]) rfl nd rfl rfl (sw_true rfl rfl rfl (by decide +kernel)) (ci_enum (pi_enumA (by rfl) m_enumerate (ca_cons (ce_var (i := 3) (pv 3)) ca_nil))) (blkOk_by (own := [("number", 12), ("row", 6)]) (N := N_row_lines_for) (sc := defScope s_row_lines_for) (by decide +kernel)) (fun _ _ _ _ _ => (cg_tup (is := [12, 6]) (pg_tup rfl (pgs_cons (pg_name (i := 12) nd rfl (by first | exact Or.inl rfl | exact Or.inr rfl)) (pgs_cons (pg_name (i := 6) nd rfl (by first | exact Or.inl rfl | exact Or.inr rfl)) pgs_nil))))) (fun _ _ _ _ _ => pts_nil) (fun _ _ _ _ _ => (ce_tup (ca_cons (ce_var (i := 12) (pv 12)) (ca_cons (ce_add (ce_var (i := 12) (pv 12)) ce_int) (ca_cons (ce_add (ce_ix (ce_var (i := 6) (pv 6)) ce_int (fun _ _ => rfl)) ce_int) ca_nil)))))))
    (cs_cons (cs_for PassesOwn.never (by rfl) (ci_seq (ce_var (i := 4) (pv 4))) (cg_tup (is := [6, 7, 8, 9, 10]) (pg_tup rfl (pgs_cons (pg_name (i := 6) nd rfl (by first | exact Or.inl rfl | exact Or.inr rfl)) (pgs_cons (pg_name (i := 7) nd rfl (by first | exact Or.inl rfl | exact Or.inr rfl)) (pgs_cons (pg_name (i := 8) nd rfl (by first | exact Or.inl rfl | exact Or.inr rfl)) (pgs_cons (pg_name (i := 9) nd rfl (by first | exact Or.inl rfl | exact Or.inr rfl)) (pgs_cons (pg_name (i := 10) nd rfl (by first | exact Or.inl rfl | exact Or.inr rfl)) pgs_nil)))))))
    (cs_cons (cs_set (ps_set (i := 11) nd rfl (by first | exact Or.inl rfl | exact Or.inr rfl) (ce_call (c := true) (pe_call G_line_count (hr.mono (by decide)) (by rfl) M_line_count k_line_count b_line_count .nil pass0 (ca_cons (ce_var (i := 10) (pv 10)) (ca_cons (ce_call (c := true) (pe_call G_inner_size (hr.mono (by decide)) (by rfl) M_inner_size k_inner_size b_inner_size .nil pass0 (ca_cons (ce_var (i := 1) (pv 1)) (ca_cons (ce_var (i := 7) (pv 7)) (ca_cons (ce_var (i := 9) (pv 9)) ca_nil))))) ca_nil))))))
    (cs_cons (cs_if (ct_cmp op_isN r2_is (ce_var (i := 11) (pv 11)) ce_non (nomark _))
    (cs_one (cs_ret ce_non))
    cs_nil)
    (cs_one (cs_app (ps_expr (pe_bm PySem.F.plainAttrs_list PySem.F.slot_list_append PySem.F.type_list_append mt_append (pv 5) (pa_cons (ce_tup (ca_cons (ce_var (i := 6) (pv 6)) (ca_cons (ce_add (ce_var (i := 6) (pv 6)) (ce_var (i := 8) (pv 8))) (ca_cons (ce_add (ce_var (i := 11) (pv 11)) ce_int) ca_nil)))) pa_nil))))))))
    (cs_one (cs_frz (i := 5) (cs_ret (ce_cb (c2 := true) cr_tup (pe_callTy call_tuple_of (by rfl) m_tuple (by decide +kernel) (ca_cons (ce_call (c := true) (pe_call G_least_positions (hr.mono (by decide)) (by rfl) M_least_positions k_least_positions b_least_positions .nil pass0 (ca_cons (ce_add (ce_cb (c2 := true) cr_len (pe_callB call_len (by rfl) m_len boot_len (ca_cons (ce_var (i := 3) (pv 3)) ca_nil))) ce_int) (ca_cons (ce_var (i := 5) (pv 5)) ca_nil)))) ca_nil))))))))))
theorem ok_is_cell_met {f : Addr} {fd : FuncData} (F : Fun K "is_cell_met" "is_cell_met" s_is_cell_met f fd) {a_line_count : Addr} {d_line_count : FuncData} (G_line_count : FnOk P w K mg base CX0 3 a_line_count d_line_count ["words", "width"] (spF K g_line_count)) (M_line_count : mg "line_count" = some (.ref a_line_count)) (k_line_count : PySem.W.keepIn K (.ref a_line_count) = true) (b_line_count : Binds K d_line_count ["words", "width"] []) {a_inner_size : Addr} {d_inner_size : FuncData} (G_inner_size : FnOk P w K mg base CX0 1 a_inner_size d_inner_size ["lines", "first", "span"] (spF K g_inner_size)) (M_inner_size : mg "inner_size" = some (.ref a_inner_size)) (k_inner_size : PySem.W.keepIn K (.ref a_inner_size) = true) (b_inner_size : Binds K d_inner_size ["lines", "first", "span"] []) : FnOk P w K mg base CX0 4 f fd ["cell", "layout"] (spF K g_is_cell_met) := by
  refine fn_ok (k := 3) (fB := f_is_cell_met) (np := 2) (nN := 10) F sc_is_cell_met rfl rfl rfl fun cdv A outer s H E hr => ?_
  have nd : N_is_cell_met.Nodup := sc_is_cell_met.nd
  exact ((cs_cons (cs_unp (ps_asg (ce_var (i := 1) (pv 1)) (cg_tup (is := [2, 3]) (pg_tup rfl (pgs_cons (pg_name (i := 2) nd rfl (by first | exact Or.inl rfl | exact Or.inr rfl)) (pgs_cons (pg_name (i := 3) nd rfl (by first | exact Or.inl rfl | exact Or.inr rfl)) pgs_nil))))))
    (cs_cons (cs_unp (ps_asg (ce_var (i := 0) (pv 0)) (cg_tup (is := [4, 5, 6, 7, 8]) (pg_tup rfl (pgs_cons (pg_name (i := 4) nd rfl (by first | exact Or.inl rfl | exact Or.inr rfl)) (pgs_cons (pg_name (i := 5) nd rfl (by first | exact Or.inl rfl | exact Or.inr rfl)) (pgs_cons (pg_name (i := 6) nd rfl (by first | exact Or.inl rfl | exact Or.inr rfl)) (pgs_cons (pg_name (i := 7) nd rfl (by first | exact Or.inl rfl | exact Or.inr rfl)) (pgs_cons (pg_name (i := 8) nd rfl (by first | exact Or.inl rfl | exact Or.inr rfl)) pgs_nil)))))))))
    (cs_cons (cs_set (ps_set (i := 9) nd rfl (by first | exact Or.inl rfl | exact Or.inr rfl) (ce_call (c := true) (pe_call G_line_count (hr.mono (by decide)) (by rfl) M_line_count k_line_count b_line_count .nil pass0 (ca_cons (ce_var (i := 8) (pv 8)) (ca_cons (ce_call (c := true) (pe_call G_inner_size (hr.mono (by decide)) (by rfl) M_inner_size k_inner_size b_inner_size .nil pass0 (ca_cons (ce_var (i := 2) (pv 2)) (ca_cons (ce_var (i := 5) (pv 5)) (ca_cons (ce_var (i := 7) (pv 7)) ca_nil))))) ca_nil))))))
    (cs_one (cs_ret (ce_and (ce_cmp op_notN r2_isnt (ce_var (i := 9) (pv 9)) ce_non (nomark _)) (ce_one (ce_cmp op_le r2_B0 (ce_var (i := 9) (pv 9)) (ce_call (c := true) (pe_call G_inner_size (hr.mono (by decide)) (by rfl) M_inner_size k_inner_size b_inner_size .nil pass0 (ca_cons (ce_var (i := 3) (pv 3)) (ca_cons (ce_var (i := 4) (pv 4)) (ca_cons (ce_var (i := 6) (pv 6)) ca_nil))))) (nomark _))))))))))
theorem ok_column_violations {f : Addr} {fd : FuncData} (F : Fun K "column_violations" "column_violations" s_column_violations f fd) {a_inner_size : Addr} {d_inner_size : FuncData} (G_inner_size : FnOk P w K mg base CX0 1 a_inner_size d_inner_size ["lines", "first", "span"] (spF K g_inner_size)) (M_inner_size : mg "inner_size" = some (.ref a_inner_size)) (k_inner_size : PySem.W.keepIn K (.ref a_inner_size) = true) (b_inner_size : Binds K d_inner_size ["lines", "first", "span"] []) : FnOk P w K mg base CX0 2 f fd ["number", "column", "column_lines"] (spF K g_column_violations) := by
  refine fn_ok (k := 1) (fB := f_column_violations) (np := 3) (nN := 8) F sc_column_violations rfl rfl rfl fun cdv A outer s H E hr => ?_
  have nd : N_column_violations.Nodup := sc_column_violations.nd
  exact ((cs_cons (cs_unp (ps_asg (ce_sl (ce_var (i := 1) (pv 1)) co_none (co_some ce_int)) (cg_tup (is := [3, 4, 5]) (pg_tup rfl (pgs_cons (pg_name (i := 3) nd rfl (by first | exact Or.inl rfl | exact Or.inr rfl)) (pgs_cons (pg_name (i := 4) nd rfl (by first | exact Or.inl rfl | exact Or.inr rfl)) (pgs_cons (pg_name (i := 5) nd rfl (by first | exact Or.inl rfl | exact Or.inr rfl)) pgs_nil)))))))
    (cs_cons (cs_set (ps_set (i := 6) nd rfl (by first | exact Or.inl rfl | exact Or.inr rfl) (ce_call (c := true) (pe_call G_inner_size (hr.mono (by decide)) (by rfl) M_inner_size k_inner_size b_inner_size .nil pass0 (ca_cons (ce_var (i := 2) (pv 2)) (ca_cons (ce_var (i := 0) (pv 0)) (ca_cons ce_int ca_nil)))))))
    (cs_cons (cs_own (ps_set (i := 7) nd rfl (by first | exact Or.inl rfl | exact Or.inr rfl) (cf_lst (c := true) ca_nil)))
    (cs_cons (cs_if (ct_cmp op_lt r2_B0 (ce_var (i := 6) (pv 6)) (ce_var (i := 3) (pv 3)) (nomark _))
    (cs_one (cs_app (ps_expr (pe_bm PySem.F.plainAttrs_list PySem.F.slot_list_append PySem.F.type_list_append mt_append (pv 7) (pa_cons (ce_tup (ca_cons ce_str (ca_cons (ce_var (i := 0) (pv 0)) ca_nil))) pa_nil)))))
    cs_nil)
    (cs_cons (cs_if (PW.pt (cw_and (ct_cmp op_notN r2_isnt (ce_var (i := 4) (pv 4)) ce_non (nomark _)) (cw_and1 (ct_cmp op_gt r2_B0 (ce_var (i := 6) (pv 6)) (ce_var (i := 4) (pv 4)) (nomark _)))))
    (cs_one (cs_app (ps_expr (pe_bm PySem.F.plainAttrs_list PySem.F.slot_list_append PySem.F.type_list_append mt_append (pv 7) (pa_cons (ce_tup (ca_cons ce_str (ca_cons (ce_var (i := 0) (pv 0)) ca_nil))) pa_nil)))))
    cs_nil)
    (cs_cons (cs_if (PW.pt (cw_and (ct_cmp op_notN r2_isnt (ce_var (i := 5) (pv 5)) ce_non (nomark _)) (cw_and1 (ct_cmp op_lt r2_B0 (ce_mul ce_int (ce_add (ce_var (i := 6) (pv 6)) ce_int)) (ce_mul (ce_var (i := 5) (pv 5)) (ce_ix (ce_var (i := 2) (pv 2)) (ce_neg ce_int) (fun _ _ => rfl))) (nomark _)))))
    (cs_one (cs_app (ps_expr (pe_bm PySem.F.plainAttrs_list PySem.F.slot_list_append PySem.F.type_list_append mt_append (pv 7) (pa_cons (ce_tup (ca_cons ce_str (ca_cons (ce_var (i := 0) (pv 0)) ca_nil))) pa_nil)))))
    cs_nil)
    (cs_one (cs_frz (i := 7) (cs_ret (ce_var (i := 7) (pv 7))))))))))))
theorem ok_violations {f : Addr} {fd : FuncData} (F : Fun K "violations" "violations" s_violations f fd) {a_is_cell_met : Addr} {d_is_cell_met : FuncData} (G_is_cell_met : FnOk P w K mg base CX0 4 a_is_cell_met d_is_cell_met ["cell", "layout"] (spF K g_is_cell_met)) (M_is_cell_met : mg "is_cell_met" = some (.ref a_is_cell_met)) (k_is_cell_met : PySem.W.keepIn K (.ref a_is_cell_met) = true) (b_is_cell_met : Binds K d_is_cell_met ["cell", "layout"] []) {a_column_violations : Addr} {d_column_violations : FuncData} (G_column_violations : FnOk P w K mg base CX0 2 a_column_violations d_column_violations ["number", "column", "column_lines"] (spF K g_column_violations)) (M_column_violations : mg "column_violations" = some (.ref a_column_violations)) (k_column_violations : PySem.W.keepIn K (.ref a_column_violations) = true) (b_column_violations : Binds K d_column_violations ["number", "column", "column_lines"] []) {a_inner_size : Addr} {d_inner_size : FuncData} (G_inner_size : FnOk P w K mg base CX0 1 a_inner_size d_inner_size ["lines", "first", "span"] (spF K g_inner_size)) (M_inner_size : mg "inner_size" = some (.ref a_inner_size)) (k_inner_size : PySem.W.keepIn K (.ref a_inner_size) = true) (b_inner_size : Binds K d_inner_size ["lines", "first", "span"] []) (m_enumerate : mg "enumerate" = none) : FnOk P w K mg base CX0 5 f fd ["table", "layout"] (spF K g_violations) := by
  refine fn_ok (k := 4) (fB := f_violations) (np := 2) (nN := 12) F sc_violations rfl rfl rfl fun cdv A outer s H E hr => ?_
  have nd : N_violations.Nodup := sc_violations.nd
  exact ((cs_cons (cs_unp (ps_asg (ce_var (i := 0) (pv 0)) (cg_tup (is := [2, 3, 4]) (pg_tup rfl (pgs_cons (pg_name (i := 2) nd rfl (by first | exact Or.inl rfl | exact Or.inr rfl)) (pgs_cons (pg_name (i := 3) nd rfl (by first | exact Or.inl rfl | exact Or.inr rfl)) (pgs_cons (pg_name (i := 4) nd rfl (by first | exact Or.inl rfl | exact Or.inr rfl)) pgs_nil)))))))
    (cs_cons (cs_unp (ps_asg (ce_var (i := 1) (pv 1)) (cg_tup (is := [5, 6]) (pg_tup rfl (pgs_cons (pg_name (i := 5) nd rfl (by first | exact Or.inl rfl | exact Or.inr rfl)) (pgs_cons (pg_name (i := 6) nd rfl (by first | exact Or.inl rfl | exact Or.inr rfl)) pgs_nil))))))
    (cs_cons (cs_lcO (ps_setLc (i := 7) (own := [("number", 8), ("cell", 11)]) rfl nd rfl rfl (sw_true rfl rfl rfl (by decide +kernel)) (ci_enum (pi_enumA (by rfl) m_enumerate (ca_cons (ce_var (i := 4) (pv 4)) ca_nil))) (blkOk_by (own := [("number", 8), ("cell", 11)]) (N := N_violations) (sc := defScope s_violations) (by decide +kernel)) (fun _ _ _ _ _ => (cg_tup (is := [8, 11]) (pg_tup rfl (pgs_cons (pg_name (i := 8) nd rfl (by first | exact Or.inl rfl | exact Or.inr rfl)) (pgs_cons (pg_name (i := 11) nd rfl (by first | exact Or.inl rfl | exact Or.inr rfl)) pgs_nil))))) (fun _ _ _ _ _ => (pts_one (ct_not (ct_tru (ce_call (c := true) (pe_call G_is_cell_met (hr.mono (by decide)) (by rfl) M_is_cell_met k_is_cell_met b_is_cell_met .nil pass0 (ca_cons (ce_var (i := 11) (pv 11)) (ca_cons (ce_var (i := 1) (pv 1)) ca_nil)))) (by intro _; rfl))))) (fun _ _ _ _ _ => (ce_tup (ca_cons ce_str (ca_cons (ce_var (i := 8) (pv 8)) ca_nil))))))
    (cs_cons (cs_for PassesOwn.never (by rfl) (ci_enum (pi_enumA (by rfl) m_enumerate (ca_cons (ce_var (i := 2) (pv 2)) ca_nil))) (cg_tup (is := [8, 9]) (pg_tup rfl (pgs_cons (pg_name (i := 8) nd rfl (by first | exact Or.inl rfl | exact Or.inr rfl)) (pgs_cons (pg_name (i := 9) nd rfl (by first | exact Or.inl rfl | exact Or.inr rfl)) pgs_nil))))
    (cs_one (cs_ext (ps_expr (pe_bm PySem.F.plainAttrs_list PySem.F.slot_list_extend PySem.F.type_list_extend mt_extA (pv 7) (pa_cons (ce_call (c := true) (pe_call G_column_violations (hr.mono (by decide)) (by rfl) M_column_violations k_column_violations b_column_violations .nil pass0 (ca_cons (ce_var (i := 8) (pv 8)) (ca_cons (ce_var (i := 9) (pv 9)) (ca_cons (ce_var (i := 5) (pv 5)) ca_nil))))) pa_nil))))))
    (cs_cons (cs_for PassesOwn.never (by rfl) (ci_enum (pi_enumA (by rfl) m_enumerate (ca_cons (ce_var (i := 3) (pv 3)) ca_nil))) (cg_tup (is := [8, 10]) (pg_tup rfl (pgs_cons (pg_name (i := 8) nd rfl (by first | exact Or.inl rfl | exact Or.inr rfl)) (pgs_cons (pg_name (i := 10) nd rfl (by first | exact Or.inl rfl | exact Or.inr rfl)) pgs_nil))))
    (cs_one (cs_if (ct_cmp op_lt r2_B0 (ce_call (c := true) (pe_call G_inner_size (hr.mono (by decide)) (by rfl) M_inner_size k_inner_size b_inner_size .nil pass0 (ca_cons (ce_var (i := 6) (pv 6)) (ca_cons (ce_var (i := 8) (pv 8)) (ca_cons ce_int ca_nil))))) (ce_ix (ce_var (i := 10) (pv 10)) ce_int (fun _ _ => rfl)) (nomark _))
    (cs_one (cs_app (ps_expr (pe_bm PySem.F.plainAttrs_list PySem.F.slot_list_append PySem.F.type_list_append mt_append (pv 7) (pa_cons (ce_tup (ca_cons ce_str (ca_cons (ce_var (i := 8) (pv 8)) ca_nil))) pa_nil)))))
    cs_nil)))
    (cs_one (cs_frz (i := 7) (cs_ret (ce_var (i := 7) (pv 7)))))))))))
theorem ok_Lcell {f : Addr} {fd : FuncData} (F : Fun K "_law_cell" "_law_cell" s_Lcell f fd) (m_len : mg "len" = none) : FnOk P w K mg base CX0 1 f fd ["script", "k"] (spF K g_Lcell) := by
  refine fn_ok (k := 0) (fB := f_Lcell) (np := 2) (nN := 2) F sc_Lcell rfl rfl rfl fun cdv A outer s H E hr => ?_
  have nd : N_Lcell.Nodup := sc_Lcell.nd
  exact ((cs_cons (cs_if (ct_cmp op_lt r2_B0 (ce_var (i := 1) (pv 1)) (ce_cb (c2 := true) cr_len (pe_callB call_len (by rfl) m_len boot_len (ca_cons (ce_var (i := 0) (pv 0)) ca_nil))) (nomark _))
    (cs_one (cs_ret (ce_ix (ce_var (i := 0) (pv 0)) (ce_var (i := 1) (pv 1)) (fun _ _ => rfl))))
    cs_nil)
    (cs_one (cs_ret ce_int))))
theorem ok_Ldraws {f : Addr} {fd : FuncData} (F : Fun K "_law_draws" "_law_draws" s_Ldraws f fd) (m_range : mg "range" = none) : FnOk P w K mg base CX0 1 f fd ["cell", "count"] (spF K g_Ldraws) := by
  refine fn_ok (k := 0) (fB := f_Ldraws) (np := 2) (nN := 6) F sc_Ldraws rfl rfl rfl fun cdv A outer s H E hr => ?_
  have nd : N_Ldraws.Nodup := sc_Ldraws.nd
  exact ((cs_cons (cs_own (ps_set (i := 2) nd rfl (by first | exact Or.inl rfl | exact Or.inr rfl) (cf_lst (c := true) ca_nil)))
    (cs_cons (cs_set (ps_set (i := 3) nd rfl (by first | exact Or.inl rfl | exact Or.inr rfl) (ce_cmp op_ge r2_B0 (ce_var (i := 0) (pv 0)) (ce_pow ce_int ce_int) (nomark _))))
    (cs_cons (cs_for PassesOwn.never (by rfl) (ci_r1 (pi_range1 (by rfl) m_range (ca_cons (ce_var (i := 1) (pv 1)) ca_nil))) (cg_name (pg_name (i := 4) nd rfl (by first | exact Or.inl rfl | exact Or.inr rfl)))
    (cs_one (cs_if (ct_tru (ce_var (i := 3) (pv 3)) (by intro _; rfl))
    (cs_cons (cs_app (ps_expr (pe_bm PySem.F.plainAttrs_list PySem.F.slot_list_append PySem.F.type_list_append mt_append (pv 2) (pa_cons (ce_mod (ce_var (i := 0) (pv 0)) ce_int) pa_nil))))
    (cs_one (cs_set (ps_set (i := 0) nd rfl (by first | exact Or.inl rfl | exact Or.inr rfl) (ce_div (ce_var (i := 0) (pv 0)) ce_int)))))
    (cs_cons (cs_set (ps_set (i := 5) nd rfl (by first | exact Or.inl rfl | exact Or.inr rfl) (ce_mod (ce_add (ce_mul (ce_var (i := 0) (pv 0)) ce_int) (ce_mul (ce_var (i := 4) (pv 4)) ce_int)) ce_int)))
    (cs_one (cs_app (ps_expr (pe_bm PySem.F.plainAttrs_list PySem.F.slot_list_append PySem.F.type_list_append mt_append (pv 2) (pa_cons (ce_mod (ce_add (ce_add (ce_mul (ce_var (i := 5) (pv 5)) (ce_var (i := 5) (pv 5))) (ce_mul (ce_var (i := 0) (pv 0)) ce_int)) (ce_var (i := 4) (pv 4))) ce_int) pa_nil)))))))))
    (cs_one (cs_frz (i := 2) (cs_ret (ce_var (i := 2) (pv 2)))))))))
theorem ok_Lwords {f : Addr} {fd : FuncData} (F : Fun K "_law_words" "_law_words" s_Lwords f fd) (m_range : mg "range" = none) (m_tuple : mg "tuple" = none) : FnOk P w K mg base CX0 1 f fd ["number"] (spF K g_Lwords) := by
  refine fn_ok (k := 0) (fB := f_Lwords) (np := 1) (nN := 2) F sc_Lwords rfl rfl rfl fun cdv A outer s H E hr => ?_
  have nd : N_Lwords.Nodup := sc_Lwords.nd
  exact ((cs_one (cs_ret (ce_cb (c2 := true) cr_tup (pe_callTy call_tuple_of (by rfl) m_tuple (by decide +kernel) (ca_cons (ce_l (c := true) (cf_lc1 (c2 := true) (pe_lc (own := [("k", 1)]) (by rfl) nd (ci_r1 (pi_range1 (by rfl) m_range (ca_cons (ce_mod (ce_var (i := 0) (pv 0)) ce_int) ca_nil))) (blkOk_by (own := [("k", 1)]) (N := N_Lwords) (sc := defScope s_Lwords) (by decide +kernel)) (fun _ _ _ _ _ => (cg_name (pg_name (i := 1) nd rfl (by first | exact Or.inl rfl | exact Or.inr rfl)))) (fun _ _ _ _ _ => pts_nil) (fun _ _ _ _ _ => (ce_ix (ce_l (c := true) (cf_lst (c := true) (ca_cons ce_str (ca_cons ce_str (ca_cons ce_str (ca_cons ce_str ca_nil)))))) (ce_mod (ce_div (ce_var (i := 0) (pv 0)) (ce_mul ce_int (ce_add (ce_var (i := 1) (pv 1)) ce_int))) ce_int) (fun _ _ => rfl)))))) ca_nil))))))
theorem ok_Lspan {f : Addr} {fd : FuncData} (F : Fun K "_law_span" "_law_span" s_Lspan f fd)  : FnOk P w K mg base CX0 1 f fd ["covered", "row", "column", "extent", "number"] (spF K g_Lspan) := by
  refine fn_ok (k := 0) (fB := f_Lspan) (np := 5) (nN := 10) F sc_Lspan rfl rfl rfl fun cdv A outer s H E hr => ?_
  have nd : N_Lspan.Nodup := sc_Lspan.nd
  exact ((cs_cons (cs_unp (ps_asg (ce_var (i := 3) (pv 3)) (cg_tup (is := [5, 6, 7]) (pg_tup rfl (pgs_cons (pg_name (i := 5) nd rfl (by first | exact Or.inl rfl | exact Or.inr rfl)) (pgs_cons (pg_name (i := 6) nd rfl (by first | exact Or.inl rfl | exact Or.inr rfl)) (pgs_cons (pg_name (i := 7) nd rfl (by first | exact Or.inl rfl | exact Or.inr rfl)) pgs_nil)))))))
    (cs_cons (cs_set (ps_set (i := 8) nd rfl (by first | exact Or.inl rfl | exact Or.inr rfl) (ce_add ce_int (ce_mod (ce_var (i := 4) (pv 4)) ce_int))))
    (cs_cons (cs_set (ps_set (i := 9) nd rfl (by first | exact Or.inl rfl | exact Or.inr rfl) (ce_add ce_int (ce_mod (ce_div (ce_var (i := 4) (pv 4)) ce_int) ce_int))))
    (cs_cons (cs_if (ct_cmp op_gt r2_B0 (ce_add (ce_var (i := 1) (pv 1)) (ce_var (i := 8) (pv 8))) (ce_if (ct_cmp op_lt r2_B0 (ce_var (i := 1) (pv 1)) (ce_var (i := 7) (pv 7)) (nomark _)) (ce_var (i := 7) (pv 7)) (ce_var (i := 5) (pv 5))) (nomark _))
    (cs_one (cs_set (ps_set (i := 8) nd rfl (by first | exact Or.inl rfl | exact Or.inr rfl) ce_int)))
    cs_nil)
    (cs_cons (cs_if (PW.pt (cw_or (ct_cmp op_gt r2_B0 (ce_add (ce_var (i := 2) (pv 2)) (ce_var (i := 9) (pv 9))) (ce_var (i := 6) (pv 6)) (nomark _)) (cw_or1 (ct_cmp (op_inT (hu65 hr)) r2_inT (ce_tup (ca_cons (ce_var (i := 1) (pv 1)) (ca_cons (ce_sub (ce_add (ce_var (i := 2) (pv 2)) (ce_var (i := 9) (pv 9))) ce_int) ca_nil))) (ce_var (i := 0) (pv 0)) (by rfl)))))
    (cs_one (cs_set (ps_set (i := 9) nd rfl (by first | exact Or.inl rfl | exact Or.inr rfl) ce_int)))
    cs_nil)
    (cs_one (cs_ret (ce_tup (ca_cons (ce_var (i := 8) (pv 8)) (ca_cons (ce_var (i := 9) (pv 9)) ca_nil)))))))))))
theorem ok_Lcells {f : Addr} {fd : FuncData} (F : Fun K "_law_cells" "_law_cells" s_Lcells f fd) {a_Lspan : Addr} {d_Lspan : FuncData} (G_Lspan : FnOk P w K mg base CX0 1 a_Lspan d_Lspan ["covered", "row", "column", "extent", "number"] (spF K g_Lspan)) (M_Lspan : mg "_law_span" = some (.ref a_Lspan)) (k_Lspan : PySem.W.keepIn K (.ref a_Lspan) = true) (b_Lspan : Binds K d_Lspan ["covered", "row", "column", "extent", "number"] []) {a_Lwords : Addr} {d_Lwords : FuncData} (G_Lwords : FnOk P w K mg base CX0 1 a_Lwords d_Lwords ["number"] (spF K g_Lwords)) (M_Lwords : mg "_law_words" = some (.ref a_Lwords)) (k_Lwords : PySem.W.keepIn K (.ref a_Lwords) = true) (b_Lwords : Binds K d_Lwords ["number"] []) (m_range : mg "range" = none) (m_tuple : mg "tuple" = none) : FnOk P w K mg base CX0 2 f fd ["extent", "draws"] (spF K g_Lcells) := by
  refine fn_ok (k := 1) (fB := f_Lcells) (np := 2) (nN := 10) F sc_Lcells rfl rfl rfl fun cdv A outer s H E hr => ?_
  have nd : N_Lcells.Nodup := sc_Lcells.nd
  exact ((cs_cons (cs_own (ps_set (i := 2) nd rfl (by first | exact Or.inl rfl | exact Or.inr rfl) (cf_lst (c := true) ca_nil)))
    (cs_cons (cs_own (ps_set (i := 3) nd rfl (by first | exact Or.inl rfl | exact Or.inr rfl) (cf_lst (c := true) ca_nil)))
    (cs_cons (cs_for PassesOwn.never (by rfl) (ci_r1 (pi_range1 (by rfl) m_range (ca_cons (ce_ix (ce_var (i := 0) (pv 0)) ce_int (fun _ _ => rfl)) ca_nil))) (cg_name (pg_name (i := 4) nd rfl (by first | exact Or.inl rfl | exact Or.inr rfl)))
    (cs_one (cs_for PassesOwn.never (by rfl) (ci_r1 (pi_range1 (by rfl) m_range (ca_cons (ce_ix (ce_var (i := 0) (pv 0)) ce_int (fun _ _ => rfl)) ca_nil))) (cg_name (pg_name (i := 5) nd rfl (by first | exact Or.inl rfl | exact Or.inr rfl)))
    (cs_one (cs_if (ct_cmp (op_notInT (hu65 hr)) r2_notInT (ce_b (ce_tup (ca_cons (ce_var (i := 4) (pv 4)) (ca_cons (ce_var (i := 5) (pv 5)) ca_nil)))) (ce_bor (i := 2) (pv 2)) (by rfl))
    (cs_cons (cs_set (ps_set (i := 6) nd rfl (by first | exact Or.inl rfl | exact Or.inr rfl) (ce_add (ce_mul ce_int (ce_var (i := 4) (pv 4))) (ce_var (i := 5) (pv 5)))))
    (cs_cons (cs_unp (ps_asg (ce_callB (c := true) (pe_call G_Lspan (hr.mono (by decide)) (by rfl) M_Lspan k_Lspan b_Lspan .nil pass0 (ca_cons (ce_bor (i := 2) (pv 2)) (ca_cons (ce_b (ce_var (i := 4) (pv 4))) (ca_cons (ce_b (ce_var (i := 5) (pv 5))) (ca_cons (ce_b (ce_var (i := 0) (pv 0))) (ca_cons (ce_b (ce_div (ce_ix (ce_var (i := 1) (pv 1)) (ce_mod (ce_add (ce_mul (ce_var (i := 6) (pv 6)) ce_int) ce_int) ce_int) (fun _ _ => rfl)) ce_int)) ca_nil))))))) (cg_tup (is := [7, 8]) (pg_tup rfl (pgs_cons (pg_name (i := 7) nd rfl (by first | exact Or.inl rfl | exact Or.inr rfl)) (pgs_cons (pg_name (i := 8) nd rfl (by first | exact Or.inl rfl | exact Or.inr rfl)) pgs_nil))))))
    (cs_cons (cs_for PassesOwn.never (by rfl) (ci_r1 (pi_range1 (by rfl) m_range (ca_cons (ce_mul (ce_var (i := 7) (pv 7)) (ce_var (i := 8) (pv 8))) ca_nil))) (cg_name (pg_name (i := 9) nd rfl (by first | exact Or.inl rfl | exact Or.inr rfl)))
    (cs_one (cs_app (ps_expr (pe_bm PySem.F.plainAttrs_list PySem.F.slot_list_append PySem.F.type_list_append mt_append (pv 2) (pa_cons (ce_tup (ca_cons (ce_add (ce_var (i := 4) (pv 4)) (ce_div (ce_var (i := 9) (pv 9)) (ce_var (i := 8) (pv 8)))) (ca_cons (ce_add (ce_var (i := 5) (pv 5)) (ce_mod (ce_var (i := 9) (pv 9)) (ce_var (i := 8) (pv 8)))) ca_nil))) pa_nil))))))
    (cs_one (cs_app (ps_expr (pe_bm PySem.F.plainAttrs_list PySem.F.slot_list_append PySem.F.type_list_append mt_append (pv 3) (pa_cons (ce_tup (ca_cons (ce_var (i := 4) (pv 4)) (ca_cons (ce_var (i := 5) (pv 5)) (ca_cons (ce_var (i := 7) (pv 7)) (ca_cons (ce_var (i := 8) (pv 8)) (ca_cons (ce_call (c := true) (pe_call G_Lwords (hr.mono (by decide)) (by rfl) M_Lwords k_Lwords b_Lwords .nil pass0 (ca_cons (ce_ix (ce_var (i := 1) (pv 1)) (ce_mod (ce_add (ce_mul (ce_var (i := 6) (pv 6)) ce_int) ce_int) ce_int) (fun _ _ => rfl)) ca_nil))) ca_nil)))))) pa_nil))))))))
    cs_nil)))))
    (cs_one (cs_ret (ce_tupO (i := 3) (pe_callTy call_tuple_of (by rfl) m_tuple (by decide +kernel) (pa_cons (pv 3) pa_nil)))))))))
theorem ok_Ltable {f : Addr} {fd : FuncData} (F : Fun K "_law_table" "_law_table" s_Ltable f fd) {a_Ldraws : Addr} {d_Ldraws : FuncData} (G_Ldraws : FnOk P w K mg base CX0 1 a_Ldraws d_Ldraws ["cell", "count"] (spF K g_Ldraws)) (M_Ldraws : mg "_law_draws" = some (.ref a_Ldraws)) (k_Ldraws : PySem.W.keepIn K (.ref a_Ldraws) = true) (b_Ldraws : Binds K d_Ldraws ["cell", "count"] []) {a_Lcell : Addr} {d_Lcell : FuncData} (G_Lcell : FnOk P w K mg base CX0 1 a_Lcell d_Lcell ["script", "k"] (spF K g_Lcell)) (M_Lcell : mg "_law_cell" = some (.ref a_Lcell)) (k_Lcell : PySem.W.keepIn K (.ref a_Lcell) = true) (b_Lcell : Binds K d_Lcell ["script", "k"] []) {a_Lcells : Addr} {d_Lcells : FuncData} (G_Lcells : FnOk P w K mg base CX0 2 a_Lcells d_Lcells ["extent", "draws"] (spF K g_Lcells)) (M_Lcells : mg "_law_cells" = some (.ref a_Lcells)) (k_Lcells : PySem.W.keepIn K (.ref a_Lcells) = true) (b_Lcells : Binds K d_Lcells ["extent", "draws"] []) (m_range : mg "range" = none) (m_tuple : mg "tuple" = none) : FnOk P w K mg base CX0 3 f fd ["script", "at", "most_columns", "most_rows"] (spF K g_Ltable) := by
  refine fn_ok (k := 2) (fB := f_Ltable) (np := 4) (nN := 12) F sc_Ltable rfl rfl rfl fun cdv A outer s H E hr => ?_
  have nd : N_Ltable.Nodup := sc_Ltable.nd
  exact ((cs_cons (cs_set (ps_set (i := 4) nd rfl (by first | exact Or.inl rfl | exact Or.inr rfl) (ce_call (c := true) (pe_call G_Ldraws (hr.mono (by decide)) (by rfl) M_Ldraws k_Ldraws b_Ldraws .nil pass0 (ca_cons (ce_call (c := true) (pe_call G_Lcell (hr.mono (by decide)) (by rfl) M_Lcell k_Lcell b_Lcell .nil pass0 (ca_cons (ce_var (i := 0) (pv 0)) (ca_cons (ce_var (i := 1) (pv 1)) ca_nil)))) (ca_cons ce_int ca_nil))))))
    (cs_cons (cs_set (ps_set (i := 5) nd rfl (by first | exact Or.inl rfl | exact Or.inr rfl) (ce_tup (ca_cons (ce_add ce_int (ce_mod (ce_ix (ce_var (i := 4) (pv 4)) ce_int (fun _ _ => rfl)) (ce_var (i := 3) (pv 3)))) (ca_cons (ce_add ce_int (ce_mod (ce_ix (ce_var (i := 4) (pv 4)) ce_int (fun _ _ => rfl)) (ce_var (i := 2) (pv 2)))) (ca_cons (ce_if (ct_cmp (op_eqD hr.units) r2_eq (ce_mod (ce_ix (ce_var (i := 4) (pv 4)) ce_int (fun _ _ => rfl)) ce_int) ce_int (nomark _)) (ce_mod (ce_ix (ce_var (i := 4) (pv 4)) ce_int (fun _ _ => rfl)) ce_int) ce_int) ca_nil))))))
    (cs_cons (cs_own (ps_set (i := 6) nd rfl (by first | exact Or.inl rfl | exact Or.inr rfl) (cf_lst (c := true) ca_nil)))
    (cs_cons (cs_for PassesOwn.never (by rfl) (ci_r1 (pi_range1 (by rfl) m_range (ca_cons (ce_ix (ce_var (i := 5) (pv 5)) ce_int (fun _ _ => rfl)) ca_nil))) (cg_name (pg_name (i := 7) nd rfl (by first | exact Or.inl rfl | exact Or.inr rfl)))
    (cs_cons (cs_set (ps_set (i := 8) nd rfl (by first | exact Or.inl rfl | exact Or.inr rfl) (ce_add ce_int (ce_mod (ce_ix (ce_var (i := 4) (pv 4)) (ce_add ce_int (ce_var (i := 7) (pv 7))) (fun _ _ => rfl)) ce_int))))
    (cs_cons (cs_set (ps_set (i := 9) nd rfl (by first | exact Or.inl rfl | exact Or.inr rfl) (ce_ix (ce_l (c := true) (cf_lst (c := true) (ca_cons ce_non (ca_cons ce_non (ca_cons (ce_add (ce_var (i := 8) (pv 8)) (ce_mod (ce_ix (ce_var (i := 4) (pv 4)) (ce_add ce_int (ce_var (i := 7) (pv 7))) (fun _ _ => rfl)) ce_int)) ca_nil))))) (ce_mod (ce_ix (ce_var (i := 4) (pv 4)) (ce_add ce_int (ce_var (i := 7) (pv 7))) (fun _ _ => rfl)) ce_int) (fun _ _ => rfl))))
    (cs_cons (cs_set (ps_set (i := 10) nd rfl (by first | exact Or.inl rfl | exact Or.inr rfl) (ce_ix (ce_l (c := true) (cf_lst (c := true) (ca_cons ce_non (ca_cons ce_non (ca_cons ce_non (ca_cons ce_int (ca_cons ce_int (ca_cons ce_int ca_nil)))))))) (ce_mod (ce_ix (ce_var (i := 4) (pv 4)) (ce_add ce_int (ce_var (i := 7) (pv 7))) (fun _ _ => rfl)) ce_int) (fun _ _ => rfl))))
    (cs_one (cs_app (ps_expr (pe_bm PySem.F.plainAttrs_list PySem.F.slot_list_append PySem.F.type_list_append mt_append (pv 6) (pa_cons (ce_tup (ca_cons (ce_var (i := 8) (pv 8)) (ca_cons (ce_var (i := 9) (pv 9)) (ca_cons (ce_var (i := 10) (pv 10)) (ca_cons (ce_ix (ce_l (c := true) (cf_lst (c := true) (ca_cons ce_str (ca_cons ce_str (ca_cons ce_str ca_nil))))) (ce_mod (ce_ix (ce_var (i := 4) (pv 4)) (ce_add ce_int (ce_var (i := 7) (pv 7))) (fun _ _ => rfl)) ce_int) (fun _ _ => rfl)) ca_nil))))) pa_nil)))))))))
    (cs_cons (cs_lcV1 (ps_setLc (i := 11) (own := [("k", 7)]) rfl nd rfl rfl (sw_true rfl rfl rfl (by decide +kernel)) (ci_r1 (pi_range1 (by rfl) m_range (ca_cons (ce_ix (ce_var (i := 5) (pv 5)) ce_int (fun _ _ => rfl)) ca_nil))) (blkOk_by (own := [("k", 7)]) (N := N_Ltable) (sc := defScope s_Ltable) (by decide +kernel)) (fun _ _ _ _ _ => (cg_name (pg_name (i := 7) nd rfl (by first | exact Or.inl rfl | exact Or.inr rfl)))) (fun _ _ _ _ _ => pts_nil) (fun _ _ _ _ _ => (ce_tup (ca_cons (ce_add ce_int (ce_mod (ce_ix (ce_var (i := 4) (pv 4)) (ce_add ce_int (ce_var (i := 7) (pv 7))) (fun _ _ => rfl)) ce_int)) (ca_cons (ce_cmp op_lt r2_B0 (ce_var (i := 7) (pv 7)) (ce_ix (ce_var (i := 5) (pv 5)) ce_int (fun _ _ => rfl)) (nomark _)) (ca_cons (ce_cmp (op_eqD hr.units) r2_eq (ce_mod (ce_ix (ce_var (i := 4) (pv 4)) (ce_add ce_int (ce_var (i := 7) (pv 7))) (fun _ _ => rfl)) ce_int) ce_int (nomark _)) ca_nil)))))))
    (cs_one (cs_ret (ce_tup (ca_cons (ce_tupO (i := 6) (pe_callTy call_tuple_of (by rfl) m_tuple (by decide +kernel) (pa_cons (pv 6) pa_nil))) (ca_cons (ce_cb (c2 := true) cr_tup (pe_callTy call_tuple_of (by rfl) m_tuple (by decide +kernel) (ca_cons (ce_var (i := 11) (pv 11)) ca_nil))) (ca_cons (ce_call (c := true) (pe_call G_Lcells (hr.mono (by decide)) (by rfl) M_Lcells k_Lcells b_Lcells .nil pass0 (ca_cons (ce_var (i := 5) (pv 5)) (ca_cons (ce_var (i := 4) (pv 4)) ca_nil)))) ca_nil))))))))))))
theorem ok_Lline_count {f : Addr} {fd : FuncData} (F : Fun K "_law_line_count" "_law_line_count" s_Lline_count f fd) (m_len : mg "len" = none) : FnOk P w K mg base CX0 1 f fd ["words", "width"] (spF K g_Lline_count) := by
  refine fn_ok (k := 0) (fB := f_Lline_count) (np := 2) (nN := 5) F sc_Lline_count rfl rfl rfl fun cdv A outer s H E hr => ?_
  have nd : N_Lline_count.Nodup := sc_Lline_count.nd
  exact ((cs_cons (cs_set (ps_set (i := 2) nd rfl (by first | exact Or.inl rfl | exact Or.inr rfl) ce_int))
    (cs_cons (cs_set (ps_set (i := 3) nd rfl (by first | exact Or.inl rfl | exact Or.inr rfl) ce_int))
    (cs_cons (cs_for PassesOwn.never (by rfl) (ci_seq (ce_var (i := 0) (pv 0))) (cg_name (pg_name (i := 4) nd rfl (by first | exact Or.inl rfl | exact Or.inr rfl)))
    (cs_cons (cs_if (ct_cmp op_gt r2_B0 (ce_cb (c2 := true) cr_len (pe_callB call_len (by rfl) m_len boot_len (ca_cons (ce_var (i := 4) (pv 4)) ca_nil))) (ce_var (i := 1) (pv 1)) (nomark _))
    (cs_one (cs_ret ce_non))
    cs_nil)
    (cs_one (cs_if (PW.pt (cw_and (ct_cmp op_gt r2_B0 (ce_var (i := 2) (pv 2)) ce_int (nomark _)) (cw_and1 (ct_cmp op_le r2_B0 (ce_add (ce_add (ce_var (i := 3) (pv 3)) ce_int) (ce_cb (c2 := true) cr_len (pe_callB call_len (by rfl) m_len boot_len (ca_cons (ce_var (i := 4) (pv 4)) ca_nil)))) (ce_var (i := 1) (pv 1)) (nomark _)))))
    (cs_one (cs_set (ps_set (i := 3) nd rfl (by first | exact Or.inl rfl | exact Or.inr rfl) (ce_add (ce_add (ce_var (i := 3) (pv 3)) ce_int) (ce_cb (c2 := true) cr_len (pe_callB call_len (by rfl) m_len boot_len (ca_cons (ce_var (i := 4) (pv 4)) ca_nil)))))))
    (cs_cons (cs_set (ps_set (i := 2) nd rfl (by first | exact Or.inl rfl | exact Or.inr rfl) (ce_add (ce_var (i := 2) (pv 2)) ce_int)))
    (cs_one (cs_set (ps_set (i := 3) nd rfl (by first | exact Or.inl rfl | exact Or.inr rfl) (ce_cb (c2 := true) cr_len (pe_callB call_len (by rfl) m_len boot_len (ca_cons (ce_var (i := 4) (pv 4)) ca_nil)))))))))))
    (cs_one (cs_ret (ce_var (i := 2) (pv 2))))))))
theorem ok_Linner {f : Addr} {fd : FuncData} (F : Fun K "_law_inner" "_law_inner" s_Linner f fd)  : FnOk P w K mg base CX0 1 f fd ["lines", "first", "count"] (spF K g_Linner) := by
  refine fn_ok (k := 0) (fB := f_Linner) (np := 3) (nN := 3) F sc_Linner rfl rfl rfl fun cdv A outer s H E hr => ?_
  have nd : N_Linner.Nodup := sc_Linner.nd
  exact ((cs_one (cs_ret (ce_sub (ce_sub (ce_ix (ce_var (i := 0) (pv 0)) (ce_add (ce_var (i := 1) (pv 1)) (ce_var (i := 2) (pv 2))) (fun _ _ => rfl)) (ce_ix (ce_var (i := 0) (pv 0)) (ce_var (i := 1) (pv 1)) (fun _ _ => rfl))) ce_int))))
theorem ok_Lcells_right {f : Addr} {fd : FuncData} (F : Fun K "_law_cells_right" "_law_cells_right" s_Lcells_right f fd) {a_Lline_count : Addr} {d_Lline_count : FuncData} (G_Lline_count : FnOk P w K mg base CX0 1 a_Lline_count d_Lline_count ["words", "width"] (spF K g_Lline_count)) (M_Lline_count : mg "_law_line_count" = some (.ref a_Lline_count)) (k_Lline_count : PySem.W.keepIn K (.ref a_Lline_count) = true) (b_Lline_count : Binds K d_Lline_count ["words", "width"] []) {a_Linner : Addr} {d_Linner : FuncData} (G_Linner : FnOk P w K mg base CX0 1 a_Linner d_Linner ["lines", "first", "count"] (spF K g_Linner)) (M_Linner : mg "_law_inner" = some (.ref a_Linner)) (k_Linner : PySem.W.keepIn K (.ref a_Linner) = true) (b_Linner : Binds K d_Linner ["lines", "first", "count"] []) : FnOk P w K mg base CX0 2 f fd ["table", "xs", "ys"] (spF K g_Lcells_right) := by
  refine fn_ok (k := 1) (fB := f_Lcells_right) (np := 3) (nN := 9) F sc_Lcells_right rfl rfl rfl fun cdv A outer s H E hr => ?_
  have nd : N_Lcells_right.Nodup := sc_Lcells_right.nd
  exact ((cs_cons (cs_for PassesOwn.never (by rfl) (ci_seq (ce_ix (ce_var (i := 0) (pv 0)) ce_int (fun _ _ => rfl))) (cg_tup (is := [3, 4, 5, 6, 7]) (pg_tup rfl (pgs_cons (pg_name (i := 3) nd rfl (by first | exact Or.inl rfl | exact Or.inr rfl)) (pgs_cons (pg_name (i := 4) nd rfl (by first | exact Or.inl rfl | exact Or.inr rfl)) (pgs_cons (pg_name (i := 5) nd rfl (by first | exact Or.inl rfl | exact Or.inr rfl)) (pgs_cons (pg_name (i := 6) nd rfl (by first | exact Or.inl rfl | exact Or.inr rfl)) (pgs_cons (pg_name (i := 7) nd rfl (by first | exact Or.inl rfl | exact Or.inr rfl)) pgs_nil)))))))
    (cs_cons (cs_set (ps_set (i := 8) nd rfl (by first | exact Or.inl rfl | exact Or.inr rfl) (ce_call (c := true) (pe_call G_Lline_count (hr.mono (by decide)) (by rfl) M_Lline_count k_Lline_count b_Lline_count .nil pass0 (ca_cons (ce_var (i := 7) (pv 7)) (ca_cons (ce_call (c := true) (pe_call G_Linner (hr.mono (by decide)) (by rfl) M_Linner k_Linner b_Linner .nil pass0 (ca_cons (ce_var (i := 1) (pv 1)) (ca_cons (ce_var (i := 4) (pv 4)) (ca_cons (ce_var (i := 6) (pv 6)) ca_nil))))) ca_nil))))))
    (cs_one (cs_if (PW.pt (cw_or (ct_cmp op_isN r2_is (ce_var (i := 8) (pv 8)) ce_non (nomark _)) (cw_or1 (ct_cmp op_gt r2_B0 (ce_var (i := 8) (pv 8)) (ce_call (c := true) (pe_call G_Linner (hr.mono (by decide)) (by rfl) M_Linner k_Linner b_Linner .nil pass0 (ca_cons (ce_var (i := 2) (pv 2)) (ca_cons (ce_var (i := 3) (pv 3)) (ca_cons (ce_var (i := 5) (pv 5)) ca_nil))))) (nomark _)))))
    (cs_one (cs_ret ce_bl))
    cs_nil))))
    (cs_one (cs_ret ce_bl))))
theorem ok_Lrows_right {f : Addr} {fd : FuncData} (F : Fun K "_law_rows_right" "_law_rows_right" s_Lrows_right f fd) {a_Linner : Addr} {d_Linner : FuncData} (G_Linner : FnOk P w K mg base CX0 1 a_Linner d_Linner ["lines", "first", "count"] (spF K g_Linner)) (M_Linner : mg "_law_inner" = some (.ref a_Linner)) (k_Linner : PySem.W.keepIn K (.ref a_Linner) = true) (b_Linner : Binds K d_Linner ["lines", "first", "count"] []) (m_len : mg "len" = none) (m_range : mg "range" = none) : FnOk P w K mg base CX0 2 f fd ["table", "ys"] (spF K g_Lrows_right) := by
  refine fn_ok (k := 1) (fB := f_Lrows_right) (np := 2) (nN := 3) F sc_Lrows_right rfl rfl rfl fun cdv A outer s H E hr => ?_
  have nd : N_Lrows_right.Nodup := sc_Lrows_right.nd
  exact ((cs_cons (cs_for PassesOwn.never (by rfl) (ci_r1 (pi_range1 (by rfl) m_range (ca_cons (ce_cb (c2 := true) cr_len (pe_callB call_len (by rfl) m_len boot_len (ca_cons (ce_ix (ce_var (i := 0) (pv 0)) ce_int (fun _ _ => rfl)) ca_nil))) ca_nil))) (cg_name (pg_name (i := 2) nd rfl (by first | exact Or.inl rfl | exact Or.inr rfl)))
    (cs_one (cs_if (ct_cmp op_lt r2_B0 (ce_call (c := true) (pe_call G_Linner (hr.mono (by decide)) (by rfl) M_Linner k_Linner b_Linner .nil pass0 (ca_cons (ce_var (i := 1) (pv 1)) (ca_cons (ce_var (i := 2) (pv 2)) (ca_cons ce_int ca_nil))))) (ce_ix (ce_ix (ce_ix (ce_var (i := 0) (pv 0)) ce_int (fun _ _ => rfl)) (ce_var (i := 2) (pv 2)) (fun _ _ => rfl)) ce_int (fun _ _ => rfl)) (nomark _))
    (cs_one (cs_ret ce_bl))
    cs_nil)))
    (cs_one (cs_ret ce_bl))))
theorem ok_Lrising {f : Addr} {fd : FuncData} (F : Fun K "_law_rising" "_law_rising" s_Lrising f fd) (m_range : mg "range" = none) : FnOk P w K mg base CX0 1 f fd ["count", "most"] (spF K g_Lrising) := by
  refine fn_ok (k := 0) (fB := f_Lrising) (np := 2) (nN := 7) F sc_Lrising rfl rfl rfl fun cdv A outer s H E hr => ?_
  have nd : N_Lrising.Nodup := sc_Lrising.nd
  exact ((cs_cons (cs_set (ps_set (i := 2) nd rfl (by first | exact Or.inl rfl | exact Or.inr rfl) (ce_l (c := true) (cf_lst (c := true) (ca_cons (ce_tup (ca_cons ce_int ca_nil)) ca_nil)))))
    (cs_cons (cs_for PassesOwn.never (by rfl) (ci_r1 (pi_range1 (by rfl) m_range (ca_cons (ce_var (i := 0) (pv 0)) ca_nil))) (cg_name (pg_name (i := 3) nd rfl (by first | exact Or.inl rfl | exact Or.inr rfl)))
    (cs_cons (cs_own (ps_set (i := 4) nd rfl (by first | exact Or.inl rfl | exact Or.inr rfl) (cf_lst (c := true) ca_nil)))
    (cs_cons (cs_for PassesOwn.never (by rfl) (ci_seq (ce_var (i := 2) (pv 2))) (cg_name (pg_name (i := 5) nd rfl (by first | exact Or.inl rfl | exact Or.inr rfl)))
    (cs_one (cs_for PassesOwn.never (by rfl) (ci_r2 (pi_range2 (by rfl) m_range (ca_cons (ce_add (ce_ix (ce_var (i := 5) (pv 5)) (ce_neg ce_int) (fun _ _ => rfl)) ce_int) (ca_cons (ce_add (ce_var (i := 1) (pv 1)) ce_int) ca_nil)))) (cg_name (pg_name (i := 6) nd rfl (by first | exact Or.inl rfl | exact Or.inr rfl)))
    (cs_one (cs_app (ps_expr (pe_bm PySem.F.plainAttrs_list PySem.F.slot_list_append PySem.F.type_list_append mt_append (pv 4) (pa_cons (ce_add (ce_var (i := 5) (pv 5)) (ce_tup (ca_cons (ce_var (i := 6) (pv 6)) ca_nil))) pa_nil))))))))
    (cs_one (cs_frz (i := 4) (cs_set (ps_set (i := 2) nd rfl (by first | exact Or.inl rfl | exact Or.inr rfl) (ce_var (i := 4) (pv 4)))))))))
    (cs_one (cs_ret (ce_var (i := 2) (pv 2)))))))
theorem ok_Llines_of {f : Addr} {fd : FuncData} (F : Fun K "_law_lines_of" "_law_lines_of" s_Llines_of f fd) (m_tuple : mg "tuple" = none) : FnOk P w K mg base CX0 1 f fd ["heights"] (spF K g_Llines_of) := by
  refine fn_ok (k := 0) (fB := f_Llines_of) (np := 1) (nN := 3) F sc_Llines_of rfl rfl rfl fun cdv A outer s H E hr => ?_
  have nd : N_Llines_of.Nodup := sc_Llines_of.nd
  exact ((cs_cons (cs_own (ps_set (i := 1) nd rfl (by first | exact Or.inl rfl | exact Or.inr rfl) (cf_lst (c := true) (ca_cons ce_int ca_nil))))
    (cs_cons (cs_for PassesOwn.never (by rfl) (ci_seq (ce_var (i := 0) (pv 0))) (cg_name (pg_name (i := 2) nd rfl (by first | exact Or.inl rfl | exact Or.inr rfl)))
    (cs_one (cs_app (ps_expr (pe_bm PySem.F.plainAttrs_list PySem.F.slot_list_append PySem.F.type_list_append mt_append (pv 1) (pa_cons (ce_add (ce_add (ce_ixO (i := 1) (pv 1) (ce_neg ce_int) (fun _ _ => rfl)) (ce_var (i := 2) (pv 2))) ce_int) pa_nil))))))
    (cs_one (cs_ret (ce_tupO (i := 1) (pe_callTy call_tuple_of (by rfl) m_tuple (by decide +kernel) (pa_cons (pv 1) pa_nil))))))))
theorem ok_Lleast {f : Addr} {fd : FuncData} (F : Fun K "_law_least" "_law_least" s_Lleast f fd) (m_list : mg "list" = none) (m_len : mg "len" = none) (m_range : mg "range" = none) (m_min : mg "min" = none) (m_tuple : mg "tuple" = none) : FnOk P w K mg base CX0 1 f fd ["lists"] (spF K g_Lleast) := by
  refine fn_ok (k := 0) (fB := f_Lleast) (np := 1) (nN := 4) F sc_Lleast rfl rfl rfl fun cdv A outer s H E hr => ?_
  have nd : N_Lleast.Nodup := sc_Lleast.nd
  exact ((cs_cons (cs_own (ps_set (i := 1) nd rfl (by first | exact Or.inl rfl | exact Or.inr rfl) (cf_list (c := true) (pe_callTy call_list_of (by rfl) m_list (by decide +kernel) (pa_cons (ce_ix (ce_var (i := 0) (pv 0)) ce_int (fun _ _ => rfl)) pa_nil)))))
    (cs_cons (cs_for PassesOwn.never (by rfl) (ci_seq (ce_var (i := 0) (pv 0))) (cg_name (pg_name (i := 2) nd rfl (by first | exact Or.inl rfl | exact Or.inr rfl)))
    (cs_one (cs_for PassesOwn.never (by rfl) (ci_r1 (pi_range1 (by rfl) m_range (ca_cons (ce_cb (c2 := true) cr_len (pe_callB call_len (by rfl) m_len boot_len (ca_cons (ce_bor (i := 1) (pv 1)) ca_nil))) ca_nil))) (cg_name (pg_name (i := 3) nd rfl (by first | exact Or.inl rfl | exact Or.inr rfl)))
    (cs_one (cs_put (ps_asg (ce_cb (c2 := true) cr_mn2 (pe_callB (call_min2 rfl) (by rfl) m_min (by decide +kernel) (ca_cons (ce_ixO (i := 1) (pv 1) (ce_var (i := 3) (pv 3)) (fun _ _ => rfl)) (ca_cons (ce_ix (ce_var (i := 2) (pv 2)) (ce_var (i := 3) (pv 3)) (fun _ _ => rfl)) ca_nil)))) (pg_sub (pv 1) (ce_var (i := 3) (pv 3)) set_list)))))))
    (cs_one (cs_ret (ce_tupO (i := 1) (pe_callTy call_tuple_of (by rfl) m_tuple (by decide +kernel) (pa_cons (pv 1) pa_nil))))))))
theorem ok_Lviolated {f : Addr} {fd : FuncData} (F : Fun K "_law_violated" "_law_violated" s_Lviolated f fd) {a_Lline_count : Addr} {d_Lline_count : FuncData} (G_Lline_count : FnOk P w K mg base CX0 1 a_Lline_count d_Lline_count ["words", "width"] (spF K g_Lline_count)) (M_Lline_count : mg "_law_line_count" = some (.ref a_Lline_count)) (k_Lline_count : PySem.W.keepIn K (.ref a_Lline_count) = true) (b_Lline_count : Binds K d_Lline_count ["words", "width"] []) {a_Linner : Addr} {d_Linner : FuncData} (G_Linner : FnOk P w K mg base CX0 1 a_Linner d_Linner ["lines", "first", "count"] (spF K g_Linner)) (M_Linner : mg "_law_inner" = some (.ref a_Linner)) (k_Linner : PySem.W.keepIn K (.ref a_Linner) = true) (b_Linner : Binds K d_Linner ["lines", "first", "count"] []) (m_len : mg "len" = none) (m_range : mg "range" = none) : FnOk P w K mg base CX0 2 f fd ["table", "xs", "ys"] (spF K g_Lviolated) := by
  refine fn_ok (k := 1) (fB := f_Lviolated) (np := 3) (nN := 16) F sc_Lviolated rfl rfl rfl fun cdv A outer s H E hr => ?_
  have nd : N_Lviolated.Nodup := sc_Lviolated.nd
  exact ((cs_cons (cs_own (ps_set (i := 3) nd rfl (by first | exact Or.inl rfl | exact Or.inr rfl) (cf_lst (c := true) ca_nil)))
    (cs_cons (cs_for PassesOwn.never (by rfl) (ci_r1 (pi_range1 (by rfl) m_range (ca_cons (ce_cb (c2 := true) cr_len (pe_callB call_len (by rfl) m_len boot_len (ca_cons (ce_ix (ce_var (i := 0) (pv 0)) ce_int (fun _ _ => rfl)) ca_nil))) ca_nil))) (cg_name (pg_name (i := 4) nd rfl (by first | exact Or.inl rfl | exact Or.inr rfl)))
    (cs_cons (cs_unp (ps_asg (ce_ix (ce_ix (ce_var (i := 0) (pv 0)) ce_int (fun _ _ => rfl)) (ce_var (i := 4) (pv 4)) (fun _ _ => rfl)) (cg_tup (is := [5, 6, 7, 8, 9]) (pg_tup rfl (pgs_cons (pg_name (i := 5) nd rfl (by first | exact Or.inl rfl | exact Or.inr rfl)) (pgs_cons (pg_name (i := 6) nd rfl (by first | exact Or.inl rfl | exact Or.inr rfl)) (pgs_cons (pg_name (i := 7) nd rfl (by first | exact Or.inl rfl | exact Or.inr rfl)) (pgs_cons (pg_name (i := 8) nd rfl (by first | exact Or.inl rfl | exact Or.inr rfl)) (pgs_cons (pg_name (i := 9) nd rfl (by first | exact Or.inl rfl | exact Or.inr rfl)) pgs_nil)))))))))
    (cs_cons (cs_set (ps_set (i := 10) nd rfl (by first | exact Or.inl rfl | exact Or.inr rfl) (ce_call (c := true) (pe_call G_Lline_count (hr.mono (by decide)) (by rfl) M_Lline_count k_Lline_count b_Lline_count .nil pass0 (ca_cons (ce_var (i := 9) (pv 9)) (ca_cons (ce_call (c := true) (pe_call G_Linner (hr.mono (by decide)) (by rfl) M_Linner k_Linner b_Linner .nil pass0 (ca_cons (ce_var (i := 1) (pv 1)) (ca_cons (ce_var (i := 6) (pv 6)) (ca_cons (ce_var (i := 8) (pv 8)) ca_nil))))) ca_nil))))))
    (cs_one (cs_if (PW.pt (cw_or (ct_cmp op_isN r2_is (ce_var (i := 10) (pv 10)) ce_non (nomark _)) (cw_or1 (ct_cmp op_gt r2_B0 (ce_var (i := 10) (pv 10)) (ce_call (c := true) (pe_call G_Linner (hr.mono (by decide)) (by rfl) M_Linner k_Linner b_Linner .nil pass0 (ca_cons (ce_var (i := 2) (pv 2)) (ca_cons (ce_var (i := 5) (pv 5)) (ca_cons (ce_var (i := 7) (pv 7)) ca_nil))))) (nomark _)))))
    (cs_one (cs_app (ps_expr (pe_bm PySem.F.plainAttrs_list PySem.F.slot_list_append PySem.F.type_list_append mt_append (pv 3) (pa_cons (ce_tup (ca_cons ce_str (ca_cons (ce_var (i := 4) (pv 4)) ca_nil))) pa_nil)))))
    cs_nil)))))
    (cs_cons (cs_for PassesOwn.never (by rfl) (ci_r1 (pi_range1 (by rfl) m_range (ca_cons (ce_cb (c2 := true) cr_len (pe_callB call_len (by rfl) m_len boot_len (ca_cons (ce_ix (ce_var (i := 0) (pv 0)) ce_int (fun _ _ => rfl)) ca_nil))) ca_nil))) (cg_name (pg_name (i := 4) nd rfl (by first | exact Or.inl rfl | exact Or.inr rfl)))
    (cs_cons (cs_unp (ps_asg (ce_ix (ce_ix (ce_var (i := 0) (pv 0)) ce_int (fun _ _ => rfl)) (ce_var (i := 4) (pv 4)) (fun _ _ => rfl)) (cg_tup (is := [11, 12, 13, 14]) (pg_tup rfl (pgs_cons (pg_name (i := 11) nd rfl (by first | exact Or.inl rfl | exact Or.inr rfl)) (pgs_cons (pg_name (i := 12) nd rfl (by first | exact Or.inl rfl | exact Or.inr rfl)) (pgs_cons (pg_name (i := 13) nd rfl (by first | exact Or.inl rfl | exact Or.inr rfl)) (pgs_cons (pg_name (i := 14) nd rfl (by first | exact Or.inl rfl | exact Or.inr rfl)) pgs_nil))))))))
    (cs_cons (cs_set (ps_set (i := 15) nd rfl (by first | exact Or.inl rfl | exact Or.inr rfl) (ce_call (c := true) (pe_call G_Linner (hr.mono (by decide)) (by rfl) M_Linner k_Linner b_Linner .nil pass0 (ca_cons (ce_var (i := 1) (pv 1)) (ca_cons (ce_var (i := 4) (pv 4)) (ca_cons ce_int ca_nil)))))))
    (cs_cons (cs_if (ct_cmp op_lt r2_B0 (ce_var (i := 15) (pv 15)) (ce_var (i := 11) (pv 11)) (nomark _))
    (cs_one (cs_app (ps_expr (pe_bm PySem.F.plainAttrs_list PySem.F.slot_list_append PySem.F.type_list_append mt_append (pv 3) (pa_cons (ce_tup (ca_cons ce_str (ca_cons (ce_var (i := 4) (pv 4)) ca_nil))) pa_nil)))))
    cs_nil)
    (cs_cons (cs_if (PW.pt (cw_and (ct_cmp op_notN r2_isnt (ce_var (i := 12) (pv 12)) ce_non (nomark _)) (cw_and1 (ct_cmp op_gt r2_B0 (ce_var (i := 15) (pv 15)) (ce_var (i := 12) (pv 12)) (nomark _)))))
    (cs_one (cs_app (ps_expr (pe_bm PySem.F.plainAttrs_list PySem.F.slot_list_append PySem.F.type_list_append mt_append (pv 3) (pa_cons (ce_tup (ca_cons ce_str (ca_cons (ce_var (i := 4) (pv 4)) ca_nil))) pa_nil)))))
    cs_nil)
    (cs_one (cs_if (PW.pt (cw_and (ct_cmp op_notN r2_isnt (ce_var (i := 13) (pv 13)) ce_non (nomark _)) (cw_and1 (ct_cmp op_lt r2_B0 (ce_mul ce_int (ce_add (ce_var (i := 15) (pv 15)) ce_int)) (ce_mul (ce_var (i := 13) (pv 13)) (ce_ix (ce_var (i := 1) (pv 1)) (ce_neg ce_int) (fun _ _ => rfl))) (nomark _)))))
    (cs_one (cs_app (ps_expr (pe_bm PySem.F.plainAttrs_list PySem.F.slot_list_append PySem.F.type_list_append mt_append (pv 3) (pa_cons (ce_tup (ca_cons ce_str (ca_cons (ce_var (i := 4) (pv 4)) ca_nil))) pa_nil)))))
    cs_nil)))))))
    (cs_one (cs_frz (i := 3) (cs_ret (ce_l (c := true) (cf_cat (c := true) (ce_var (i := 3) (pv 3)) (ce_l (c := true) (cf_lc (c2 := true) (pe_lc (own := [("k", 4)]) (by rfl) nd (ci_r1 (pi_range1 (by rfl) m_range (ca_cons (ce_cb (c2 := true) cr_len (pe_callB call_len (by rfl) m_len boot_len (ca_cons (ce_ix (ce_var (i := 0) (pv 0)) ce_int (fun _ _ => rfl)) ca_nil))) ca_nil))) (blkOk_by (own := [("k", 4)]) (N := N_Lviolated) (sc := defScope s_Lviolated) (by decide +kernel)) (fun _ _ _ _ _ => (cg_name (pg_name (i := 4) nd rfl (by first | exact Or.inl rfl | exact Or.inr rfl)))) (fun _ _ _ _ _ => (pts_one (ct_cmp op_lt r2_B0 (ce_call (c := true) (pe_call G_Linner (hr.mono (by decide)) (by rfl) M_Linner k_Linner b_Linner .nil pass0 (ca_cons (ce_var (i := 2) (pv 2)) (ca_cons (ce_var (i := 4) (pv 4)) (ca_cons ce_int ca_nil))))) (ce_ix (ce_ix (ce_ix (ce_var (i := 0) (pv 0)) ce_int (fun _ _ => rfl)) (ce_var (i := 4) (pv 4)) (fun _ _ => rfl)) ce_int (fun _ _ => rfl)) (nomark _)))) (fun _ _ _ _ _ => (ce_tup (ca_cons ce_str (ca_cons (ce_var (i := 4) (pv 4)) ca_nil))))))))))))))))
theorem ok_Llong_table {f : Addr} {fd : FuncData} (F : Fun K "_law_long_table" "_law_long_table" s_Llong_table f fd) (m_range : mg "range" = none) (m_tuple : mg "tuple" = none) : FnOk P w K mg base CX0 1 f fd ["many", "down"] (spF K g_Llong_table) := by
  refine fn_ok (k := 0) (fB := f_Llong_table) (np := 2) (nN := 5) F sc_Llong_table rfl rfl rfl fun cdv A outer s H E hr => ?_
  have nd : N_Llong_table.Nodup := sc_Llong_table.nd
  exact ((cs_cons (cs_set (ps_set (i := 2) nd rfl (by first | exact Or.inl rfl | exact Or.inr rfl) (ce_tup (ca_cons ce_int (ca_cons ce_non (ca_cons ce_non (ca_cons ce_str ca_nil)))))))
    (cs_cons (cs_set (ps_set (i := 3) nd rfl (by first | exact Or.inl rfl | exact Or.inr rfl) (ce_l (c := true) (cf_cat (c := true) (ce_l (c := true) (cf_lst (c := true) (ca_cons (ce_tup (ca_cons ce_int (ca_cons ce_int (ca_cons (ce_var (i := 1) (pv 1)) (ca_cons ce_int (ca_cons (ce_tmul (ce_tup (ca_cons ce_str ca_nil)) (ce_var (i := 0) (pv 0))) ca_nil)))))) ca_nil))) (ce_l (c := true) (cf_lc1 (c2 := true) (pe_lc (own := [("k", 4)]) (by rfl) nd (ci_r1 (pi_range1 (by rfl) m_range (ca_cons (ce_var (i := 1) (pv 1)) ca_nil))) (blkOk_by (own := [("k", 4)]) (N := N_Llong_table) (sc := defScope s_Llong_table) (by decide +kernel)) (fun _ _ _ _ _ => (cg_name (pg_name (i := 4) nd rfl (by first | exact Or.inl rfl | exact Or.inr rfl)))) (fun _ _ _ _ _ => pts_nil) (fun _ _ _ _ _ => (ce_tup (ca_cons (ce_var (i := 4) (pv 4)) (ca_cons ce_int (ca_cons ce_int (ca_cons ce_int (ca_cons (ce_tup ca_nil) ca_nil))))))))))))))
    (cs_one (cs_ret (ce_tup (ca_cons (ce_tup (ca_cons (ce_var (i := 2) (pv 2)) (ca_cons (ce_var (i := 2) (pv 2)) ca_nil))) (ca_cons (ce_tmul (ce_tup (ca_cons (ce_tup (ca_cons ce_int (ca_cons ce_bl (ca_cons ce_bl ca_nil)))) ca_nil)) (ce_var (i := 1) (pv 1))) (ca_cons (ce_cb (c2 := true) cr_tup (pe_callTy call_tuple_of (by rfl) m_tuple (by decide +kernel) (ca_cons (ce_var (i := 3) (pv 3)) ca_nil))) ca_nil)))))))))
theorem ok_law {f : Addr} {fd : FuncData} (F : Fun K "law" "law" s_law f fd) {a_Ltable : Addr} {d_Ltable : FuncData} (G_Ltable : FnOk P w K mg base CX0 3 a_Ltable d_Ltable ["script", "at", "most_columns", "most_rows"] (spF K g_Ltable)) (M_Ltable : mg "_law_table" = some (.ref a_Ltable)) (k_Ltable : PySem.W.keepIn K (.ref a_Ltable) = true) (b_Ltable : Binds K d_Ltable ["script", "at", "most_columns", "most_rows"] []) {a_Lcell : Addr} {d_Lcell : FuncData} (G_Lcell : FnOk P w K mg base CX0 1 a_Lcell d_Lcell ["script", "k"] (spF K g_Lcell)) (M_Lcell : mg "_law_cell" = some (.ref a_Lcell)) (k_Lcell : PySem.W.keepIn K (.ref a_Lcell) = true) (b_Lcell : Binds K d_Lcell ["script", "k"] []) {a_Llong_table : Addr} {d_Llong_table : FuncData} (G_Llong_table : FnOk P w K mg base CX0 1 a_Llong_table d_Llong_table ["many", "down"] (spF K g_Llong_table)) (M_Llong_table : mg "_law_long_table" = some (.ref a_Llong_table)) (k_Llong_table : PySem.W.keepIn K (.ref a_Llong_table) = true) (b_Llong_table : Binds K d_Llong_table ["many", "down"] []) {a_Ldraws : Addr} {d_Ldraws : FuncData} (G_Ldraws : FnOk P w K mg base CX0 1 a_Ldraws d_Ldraws ["cell", "count"] (spF K g_Ldraws)) (M_Ldraws : mg "_law_draws" = some (.ref a_Ldraws)) (k_Ldraws : PySem.W.keepIn K (.ref a_Ldraws) = true) (b_Ldraws : Binds K d_Ldraws ["cell", "count"] []) {a_Llines_of : Addr} {d_Llines_of : FuncData} (G_Llines_of : FnOk P w K mg base CX0 1 a_Llines_of d_Llines_of ["heights"] (spF K g_Llines_of)) (M_Llines_of : mg "_law_lines_of" = some (.ref a_Llines_of)) (k_Llines_of : PySem.W.keepIn K (.ref a_Llines_of) = true) (b_Llines_of : Binds K d_Llines_of ["heights"] []) {a_violations : Addr} {d_violations : FuncData} (G_violations : FnOk P w K mg base CX0 5 a_violations d_violations ["table", "layout"] (spF K g_violations)) (M_violations : mg "violations" = some (.ref a_violations)) (k_violations : PySem.W.keepIn K (.ref a_violations) = true) (b_violations : Binds K d_violations ["table", "layout"] []) {a_Lviolated : Addr} {d_Lviolated : FuncData} (G_Lviolated : FnOk P w K mg base CX0 2 a_Lviolated d_Lviolated ["table", "xs", "ys"] (spF K g_Lviolated)) (M_Lviolated : mg "_law_violated" = some (.ref a_Lviolated)) (k_Lviolated : PySem.W.keepIn K (.ref a_Lviolated) = true) (b_Lviolated : Binds K d_Lviolated ["table", "xs", "ys"] []) {a_Lrising : Addr} {d_Lrising : FuncData} (G_Lrising : FnOk P w K mg base CX0 1 a_Lrising d_Lrising ["count", "most"] (spF K g_Lrising)) (M_Lrising : mg "_law_rising" = some (.ref a_Lrising)) (k_Lrising : PySem.W.keepIn K (.ref a_Lrising) = true) (b_Lrising : Binds K d_Lrising ["count", "most"] []) {a_Lrows_right : Addr} {d_Lrows_right : FuncData} (G_Lrows_right : FnOk P w K mg base CX0 2 a_Lrows_right d_Lrows_right ["table", "ys"] (spF K g_Lrows_right)) (M_Lrows_right : mg "_law_rows_right" = some (.ref a_Lrows_right)) (k_Lrows_right : PySem.W.keepIn K (.ref a_Lrows_right) = true) (b_Lrows_right : Binds K d_Lrows_right ["table", "ys"] []) {a_Lcells_right : Addr} {d_Lcells_right : FuncData} (G_Lcells_right : FnOk P w K mg base CX0 2 a_Lcells_right d_Lcells_right ["table", "xs", "ys"] (spF K g_Lcells_right)) (M_Lcells_right : mg "_law_cells_right" = some (.ref a_Lcells_right)) (k_Lcells_right : PySem.W.keepIn K (.ref a_Lcells_right) = true) (b_Lcells_right : Binds K d_Lcells_right ["table", "xs", "ys"] []) {a_row_lines_for : Addr} {d_row_lines_for : FuncData} (G_row_lines_for : FnOk P w K mg base CX0 4 a_row_lines_for d_row_lines_for ["table", "column_lines"] (spF K g_row_lines_for)) (M_row_lines_for : mg "row_lines_for" = some (.ref a_row_lines_for)) (k_row_lines_for : PySem.W.keepIn K (.ref a_row_lines_for) = true) (b_row_lines_for : Binds K d_row_lines_for ["table", "column_lines"] []) {a_Lleast : Addr} {d_Lleast : FuncData} (G_Lleast : FnOk P w K mg base CX0 1 a_Lleast d_Lleast ["lists"] (spF K g_Lleast)) (M_Lleast : mg "_law_least" = some (.ref a_Lleast)) (k_Lleast : PySem.W.keepIn K (.ref a_Lleast) = true) (b_Lleast : Binds K d_Lleast ["lists"] []) (m_len : mg "len" = none) (m_range : mg "range" = none) (m_isinstance : mg "isinstance" = none) (m_list : mg "list" = none) (m_tuple : mg "tuple" = none) : FnOk P w K mg base CX0 6 f fd ["script"] (spF K g_law) := by
  refine fn_ok (k := 5) (fB := f_law) (np := 1) (nN := 10) F sc_law rfl rfl rfl fun cdv A outer s H E hr => ?_
  have nd : N_law.Nodup := sc_law.nd
  exact ((cs_cons (cs_set (ps_set (i := 1) nd rfl (by first | exact Or.inl rfl | exact Or.inr rfl) (ce_call (c := true) (pe_call G_Ltable (hr.mono (by decide)) (by rfl) M_Ltable k_Ltable b_Ltable .nil pass0 (ca_cons (ce_var (i := 0) (pv 0)) (ca_cons ce_int (ca_cons ce_int (ca_cons ce_int ca_nil))))))))
    (cs_cons (cs_if (ct_cmp (op_eqD hr.units) r2_eq (ce_mod (ce_call (c := true) (pe_call G_Lcell (hr.mono (by decide)) (by rfl) M_Lcell k_Lcell b_Lcell .nil pass0 (ca_cons (ce_var (i := 0) (pv 0)) (ca_cons ce_int ca_nil)))) ce_int) ce_int (nomark _))
    (cs_one (cs_set (ps_set (i := 1) nd rfl (by first | exact Or.inl rfl | exact Or.inr rfl) (ce_call (c := true) (pe_call G_Llong_table (hr.mono (by decide)) (by rfl) M_Llong_table k_Llong_table b_Llong_table .nil pass0 (ca_cons (ce_add ce_int (ce_mod (ce_div (ce_call (c := true) (pe_call G_Lcell (hr.mono (by decide)) (by rfl) M_Lcell k_Lcell b_Lcell .nil pass0 (ca_cons (ce_var (i := 0) (pv 0)) (ca_cons ce_int ca_nil)))) ce_int) ce_int)) (ca_cons (ce_add ce_int (ce_mod (ce_div (ce_call (c := true) (pe_call G_Lcell (hr.mono (by decide)) (by rfl) M_Lcell k_Lcell b_Lcell .nil pass0 (ca_cons (ce_var (i := 0) (pv 0)) (ca_cons ce_int ca_nil)))) ce_int) ce_int)) ca_nil)))))))
    cs_nil)
    (cs_cons (cs_set (ps_set (i := 2) nd rfl (by first | exact Or.inl rfl | exact Or.inr rfl) (ce_call (c := true) (pe_call G_Ldraws (hr.mono (by decide)) (by rfl) M_Ldraws k_Ldraws b_Ldraws .nil pass0 (ca_cons (ce_call (c := true) (pe_call G_Lcell (hr.mono (by decide)) (by rfl) M_Lcell k_Lcell b_Lcell .nil pass0 (ca_cons (ce_var (i := 0) (pv 0)) (ca_cons ce_int ca_nil)))) (ca_cons ce_int ca_nil))))))
    (cs_cons (cs_set (ps_set (i := 3) nd rfl (by first | exact Or.inl rfl | exact Or.inr rfl) (ce_call (c := true) (pe_call G_Llines_of (hr.mono (by decide)) (by rfl) M_Llines_of k_Llines_of b_Llines_of .nil pass0 (ca_cons (ce_l (c := true) (cf_lc1 (c2 := true) (pe_lc (own := [("k", 8)]) (by rfl) nd (ci_r1 (pi_range1 (by rfl) m_range (ca_cons (ce_cb (c2 := true) cr_len (pe_callB call_len (by rfl) m_len boot_len (ca_cons (ce_ix (ce_var (i := 1) (pv 1)) ce_int (fun _ _ => rfl)) ca_nil))) ca_nil))) (blkOk_by (own := [("k", 8)]) (N := N_law) (sc := defScope s_law) (by decide +kernel)) (fun _ _ _ _ _ => (cg_name (pg_name (i := 8) nd rfl (by first | exact Or.inl rfl | exact Or.inr rfl)))) (fun _ _ _ _ _ => pts_nil) (fun _ _ _ _ _ => (ce_add ce_int (ce_mod (ce_ix (ce_var (i := 2) (pv 2)) (ce_var (i := 8) (pv 8)) (fun _ _ => rfl)) ce_int)))))) ca_nil)))))
    (cs_cons (cs_set (ps_set (i := 4) nd rfl (by first | exact Or.inl rfl | exact Or.inr rfl) (ce_call (c := true) (pe_call G_Llines_of (hr.mono (by decide)) (by rfl) M_Llines_of k_Llines_of b_Llines_of .nil pass0 (ca_cons (ce_l (c := true) (cf_lc1 (c2 := true) (pe_lc (own := [("k", 8)]) (by rfl) nd (ci_r1 (pi_range1 (by rfl) m_range (ca_cons (ce_cb (c2 := true) cr_len (pe_callB call_len (by rfl) m_len boot_len (ca_cons (ce_ix (ce_var (i := 1) (pv 1)) ce_int (fun _ _ => rfl)) ca_nil))) ca_nil))) (blkOk_by (own := [("k", 8)]) (N := N_law) (sc := defScope s_law) (by decide +kernel)) (fun _ _ _ _ _ => (cg_name (pg_name (i := 8) nd rfl (by first | exact Or.inl rfl | exact Or.inr rfl)))) (fun _ _ _ _ _ => pts_nil) (fun _ _ _ _ _ => (ce_add ce_int (ce_mod (ce_ix (ce_var (i := 2) (pv 2)) (ce_add ce_int (ce_var (i := 8) (pv 8))) (fun _ _ => rfl)) ce_int)))))) ca_nil)))))
    (cs_cons (cs_set (ps_set (i := 5) nd rfl (by first | exact Or.inl rfl | exact Or.inr rfl) (ce_call (c := true) (pe_call G_violations (hr.mono (by decide)) (by rfl) M_violations k_violations b_violations .nil pass0 (ca_cons (ce_var (i := 1) (pv 1)) (ca_cons (ce_tup (ca_cons (ce_var (i := 3) (pv 3)) (ca_cons (ce_var (i := 4) (pv 4)) ca_nil))) ca_nil))))))
    (cs_cons (cs_if (PW.pt (cw_or (ct_not (ct_val (ce_isi (T := "list") (pe_callB call_isi (by rfl) m_isinstance (by decide +kernel) (pa_cons (ce_var (i := 5) (pv 5)) (pa_cons (pe_bltn (v := .ty "list") (by rfl) m_list (by decide +kernel) rfl) pa_nil)))))) (cw_or1 (ct_cmp (op_neD hr.units) r2_ne (ce_var (i := 5) (pv 5)) (ce_call (c := true) (pe_call G_Lviolated (hr.mono (by decide)) (by rfl) M_Lviolated k_Lviolated b_Lviolated .nil pass0 (ca_cons (ce_var (i := 1) (pv 1)) (ca_cons (ce_var (i := 3) (pv 3)) (ca_cons (ce_var (i := 4) (pv 4)) ca_nil))))) (nomark _)))))
    (cs_one (cs_ret ce_bl))
    cs_nil)
    (cs_cons (cs_lcV (ps_setLc (i := 6) (own := [("lines", 9)]) rfl nd rfl rfl (sw_true rfl rfl rfl (by decide +kernel)) (ci_seq (ce_call (c := true) (pe_call G_Lrising (hr.mono (by decide)) (by rfl) M_Lrising k_Lrising b_Lrising .nil pass0 (ca_cons (ce_cb (c2 := true) cr_len (pe_callB call_len (by rfl) m_len boot_len (ca_cons (ce_ix (ce_var (i := 1) (pv 1)) ce_int (fun _ _ => rfl)) ca_nil))) (ca_cons ce_int ca_nil))))) (blkOk_by (own := [("lines", 9)]) (N := N_law) (sc := defScope s_law) (by decide +kernel)) (fun _ _ _ _ _ => (cg_name (pg_name (i := 9) nd rfl (by first | exact Or.inl rfl | exact Or.inr rfl)))) (fun _ _ _ _ _ => (pts_one (ct_tru (ce_call (c := true) (pe_call G_Lrows_right (hr.mono (by decide)) (by rfl) M_Lrows_right k_Lrows_right b_Lrows_right .nil pass0 (ca_cons (ce_var (i := 1) (pv 1)) (ca_cons (ce_var (i := 9) (pv 9)) ca_nil)))) (by intro _; rfl)))) (fun _ _ _ _ _ => (ce_var (i := 9) (pv 9)))))
    (cs_cons (cs_lcV (ps_setLc (i := 7) (own := [("lines", 9)]) rfl nd rfl rfl (sw_true rfl rfl rfl (by decide +kernel)) (ci_seq (ce_var (i := 6) (pv 6))) (blkOk_by (own := [("lines", 9)]) (N := N_law) (sc := defScope s_law) (by decide +kernel)) (fun _ _ _ _ _ => (cg_name (pg_name (i := 9) nd rfl (by first | exact Or.inl rfl | exact Or.inr rfl)))) (fun _ _ _ _ _ => (pts_one (ct_tru (ce_call (c := true) (pe_call G_Lcells_right (hr.mono (by decide)) (by rfl) M_Lcells_right k_Lcells_right b_Lcells_right .nil pass0 (ca_cons (ce_var (i := 1) (pv 1)) (ca_cons (ce_var (i := 3) (pv 3)) (ca_cons (ce_var (i := 9) (pv 9)) ca_nil))))) (by intro _; rfl)))) (fun _ _ _ _ _ => (ce_var (i := 9) (pv 9)))))
    (cs_cons (cs_set (ps_set (i := 5) nd rfl (by first | exact Or.inl rfl | exact Or.inr rfl) (ce_call (c := true) (pe_call G_row_lines_for (hr.mono (by decide)) (by rfl) M_row_lines_for k_row_lines_for b_row_lines_for .nil pass0 (ca_cons (ce_var (i := 1) (pv 1)) (ca_cons (ce_var (i := 3) (pv 3)) ca_nil))))))
    (cs_cons (cs_if (ct_cmp (op_eqD hr.units) r2_eq (ce_cb (c2 := true) cr_len (pe_callB call_len (by rfl) m_len boot_len (ca_cons (ce_var (i := 7) (pv 7)) ca_nil))) ce_int (nomark _))
    (cs_one (cs_ret (ce_cmp op_isN r2_is (ce_var (i := 5) (pv 5)) ce_non (nomark _))))
    cs_nil)
    (cs_one (cs_ret (ce_and (ce_isi (T := "tuple") (pe_callB call_isi (by rfl) m_isinstance (by decide +kernel) (pa_cons (ce_var (i := 5) (pv 5)) (pa_cons (pe_bltn (v := .ty "tuple") (by rfl) m_tuple (by decide +kernel) rfl) pa_nil)))) (ce_and (ce_cmp (op_eqD hr.units) r2_eq (ce_var (i := 5) (pv 5)) (ce_call (c := true) (pe_call G_Lleast (hr.mono (by decide)) (by rfl) M_Lleast k_Lleast b_Lleast .nil pass0 (ca_cons (ce_var (i := 7) (pv 7)) ca_nil))) (nomark _)) (ce_one (ce_cmp (op_inT (hu65 hr)) r2_inT (ce_var (i := 5) (pv 5)) (ce_var (i := 7) (pv 7)) (by rfl)))))))))))))))))))
end
/-! ### the end -/
theorem all_mk {l : PySem.W.OpenLaw} {w : World} {K : PySem.W.Frag} {h : Heap} {mg : Str → Option Value} {fa : Addr} (X : K.In h) (G : h.Ns mainGlobals mg) (hfa : mg "law" = some (.ref fa))
    {f_raised : Addr} {od_raised an_raised : Option Addr} {sl_raised : Array (Option Value)} {oc_raised kV_raised dc_raised pm_raised cd_raised ct_raised : Value}
    (a_raised : PySem.W.nsIn K mainGlobals "raised" = some (some (.ref f_raised))) (l_raised : K.lookup f_raised = some ⟨oc_raised, od_raised, .func (PySem.W.fnOf "raised" "raised" (defArgs s_raised) (defBody s_raised) (defScope s_raised) .none kV_raised dc_raised pm_raised an_raised cd_raised ct_raised), sl_raised⟩) (c_raised : PySem.W.codeIn K cd_raised "raised" = true) (k_raised : PySem.W.keepIn K (.ref f_raised) = true)
    {f_least_positions : Addr} {od_least_positions an_least_positions : Option Addr} {sl_least_positions : Array (Option Value)} {oc_least_positions kV_least_positions dc_least_positions pm_least_positions cd_least_positions ct_least_positions : Value}
    (a_least_positions : PySem.W.nsIn K mainGlobals "least_positions" = some (some (.ref f_least_positions))) (l_least_positions : K.lookup f_least_positions = some ⟨oc_least_positions, od_least_positions, .func (PySem.W.fnOf "least_positions" "least_positions" (defArgs s_least_positions) (defBody s_least_positions) (defScope s_least_positions) .none kV_least_positions dc_least_positions pm_least_positions an_least_positions cd_least_positions ct_least_positions), sl_least_positions⟩) (c_least_positions : PySem.W.codeIn K cd_least_positions "least_positions" = true) (k_least_positions : PySem.W.keepIn K (.ref f_least_positions) = true)
    {f_inner_size : Addr} {od_inner_size an_inner_size : Option Addr} {sl_inner_size : Array (Option Value)} {oc_inner_size kV_inner_size dc_inner_size pm_inner_size cd_inner_size ct_inner_size : Value}
    (a_inner_size : PySem.W.nsIn K mainGlobals "inner_size" = some (some (.ref f_inner_size))) (l_inner_size : K.lookup f_inner_size = some ⟨oc_inner_size, od_inner_size, .func (PySem.W.fnOf "inner_size" "inner_size" (defArgs s_inner_size) (defBody s_inner_size) (defScope s_inner_size) .none kV_inner_size dc_inner_size pm_inner_size an_inner_size cd_inner_size ct_inner_size), sl_inner_size⟩) (c_inner_size : PySem.W.codeIn K cd_inner_size "inner_size" = true) (k_inner_size : PySem.W.keepIn K (.ref f_inner_size) = true)
    {f_longest : Addr} {od_longest an_longest : Option Addr} {sl_longest : Array (Option Value)} {oc_longest kV_longest dc_longest pm_longest cd_longest ct_longest : Value}
    (a_longest : PySem.W.nsIn K mainGlobals "longest" = some (some (.ref f_longest))) (l_longest : K.lookup f_longest = some ⟨oc_longest, od_longest, .func (PySem.W.fnOf "longest" "longest" (defArgs s_longest) (defBody s_longest) (defScope s_longest) .none kV_longest dc_longest pm_longest an_longest cd_longest ct_longest), sl_longest⟩) (c_longest : PySem.W.codeIn K cd_longest "longest" = true) (k_longest : PySem.W.keepIn K (.ref f_longest) = true)
    {f_length_of : Addr} {od_length_of an_length_of : Option Addr} {sl_length_of : Array (Option Value)} {oc_length_of kV_length_of dc_length_of pm_length_of cd_length_of ct_length_of : Value}
    (a_length_of : PySem.W.nsIn K mainGlobals "length_of" = some (some (.ref f_length_of))) (l_length_of : K.lookup f_length_of = some ⟨oc_length_of, od_length_of, .func (PySem.W.fnOf "length_of" "length_of" (defArgs s_length_of) (defBody s_length_of) (defScope s_length_of) .none kV_length_of dc_length_of pm_length_of an_length_of cd_length_of ct_length_of), sl_length_of⟩) (c_length_of : PySem.W.codeIn K cd_length_of "length_of" = true) (k_length_of : PySem.W.keepIn K (.ref f_length_of) = true)
    {f_wrap : Addr} {od_wrap an_wrap : Option Addr} {sl_wrap : Array (Option Value)} {oc_wrap kV_wrap dc_wrap pm_wrap cd_wrap ct_wrap : Value}
    (a_wrap : PySem.W.nsIn K mainGlobals "wrap" = some (some (.ref f_wrap))) (l_wrap : K.lookup f_wrap = some ⟨oc_wrap, od_wrap, .func (PySem.W.fnOf "wrap" "wrap" (defArgs s_wrap) (defBody s_wrap) (defScope s_wrap) .none kV_wrap dc_wrap pm_wrap an_wrap cd_wrap ct_wrap), sl_wrap⟩) (c_wrap : PySem.W.codeIn K cd_wrap "wrap" = true) (k_wrap : PySem.W.keepIn K (.ref f_wrap) = true)
    {f_line_count : Addr} {od_line_count an_line_count : Option Addr} {sl_line_count : Array (Option Value)} {oc_line_count kV_line_count dc_line_count pm_line_count cd_line_count ct_line_count : Value}
    (a_line_count : PySem.W.nsIn K mainGlobals "line_count" = some (some (.ref f_line_count))) (l_line_count : K.lookup f_line_count = some ⟨oc_line_count, od_line_count, .func (PySem.W.fnOf "line_count" "line_count" (defArgs s_line_count) (defBody s_line_count) (defScope s_line_count) .none kV_line_count dc_line_count pm_line_count an_line_count cd_line_count ct_line_count), sl_line_count⟩) (c_line_count : PySem.W.codeIn K cd_line_count "line_count" = true) (k_line_count : PySem.W.keepIn K (.ref f_line_count) = true)
    {f_row_lines_for : Addr} {od_row_lines_for an_row_lines_for : Option Addr} {sl_row_lines_for : Array (Option Value)} {oc_row_lines_for kV_row_lines_for dc_row_lines_for pm_row_lines_for cd_row_lines_for ct_row_lines_for : Value}
    (a_row_lines_for : PySem.W.nsIn K mainGlobals "row_lines_for" = some (some (.ref f_row_lines_for))) (l_row_lines_for : K.lookup f_row_lines_for = some ⟨oc_row_lines_for, od_row_lines_for, .func (PySem.W.fnOf "row_lines_for" "row_lines_for" (defArgs s_row_lines_for) (defBody s_row_lines_for) (defScope s_row_lines_for) .none kV_row_lines_for dc_row_lines_for pm_row_lines_for an_row_lines_for cd_row_lines_for ct_row_lines_for), sl_row_lines_for⟩) (c_row_lines_for : PySem.W.codeIn K cd_row_lines_for "row_lines_for" = true) (k_row_lines_for : PySem.W.keepIn K (.ref f_row_lines_for) = true)
    {f_is_cell_met : Addr} {od_is_cell_met an_is_cell_met : Option Addr} {sl_is_cell_met : Array (Option Value)} {oc_is_cell_met kV_is_cell_met dc_is_cell_met pm_is_cell_met cd_is_cell_met ct_is_cell_met : Value}
    (a_is_cell_met : PySem.W.nsIn K mainGlobals "is_cell_met" = some (some (.ref f_is_cell_met))) (l_is_cell_met : K.lookup f_is_cell_met = some ⟨oc_is_cell_met, od_is_cell_met, .func (PySem.W.fnOf "is_cell_met" "is_cell_met" (defArgs s_is_cell_met) (defBody s_is_cell_met) (defScope s_is_cell_met) .none kV_is_cell_met dc_is_cell_met pm_is_cell_met an_is_cell_met cd_is_cell_met ct_is_cell_met), sl_is_cell_met⟩) (c_is_cell_met : PySem.W.codeIn K cd_is_cell_met "is_cell_met" = true) (k_is_cell_met : PySem.W.keepIn K (.ref f_is_cell_met) = true)
    {f_column_violations : Addr} {od_column_violations an_column_violations : Option Addr} {sl_column_violations : Array (Option Value)} {oc_column_violations kV_column_violations dc_column_violations pm_column_violations cd_column_violations ct_column_violations : Value}
    (a_column_violations : PySem.W.nsIn K mainGlobals "column_violations" = some (some (.ref f_column_violations))) (l_column_violations : K.lookup f_column_violations = some ⟨oc_column_violations, od_column_violations, .func (PySem.W.fnOf "column_violations" "column_violations" (defArgs s_column_violations) (defBody s_column_violations) (defScope s_column_violations) .none kV_column_violations dc_column_violations pm_column_violations an_column_violations cd_column_violations ct_column_violations), sl_column_violations⟩) (c_column_violations : PySem.W.codeIn K cd_column_violations "column_violations" = true) (k_column_violations : PySem.W.keepIn K (.ref f_column_violations) = true)
    {f_violations : Addr} {od_violations an_violations : Option Addr} {sl_violations : Array (Option Value)} {oc_violations kV_violations dc_violations pm_violations cd_violations ct_violations : Value}
    (a_violations : PySem.W.nsIn K mainGlobals "violations" = some (some (.ref f_violations))) (l_violations : K.lookup f_violations = some ⟨oc_violations, od_violations, .func (PySem.W.fnOf "violations" "violations" (defArgs s_violations) (defBody s_violations) (defScope s_violations) .none kV_violations dc_violations pm_violations an_violations cd_violations ct_violations), sl_violations⟩) (c_violations : PySem.W.codeIn K cd_violations "violations" = true) (k_violations : PySem.W.keepIn K (.ref f_violations) = true)
    {f_Lcell : Addr} {od_Lcell an_Lcell : Option Addr} {sl_Lcell : Array (Option Value)} {oc_Lcell kV_Lcell dc_Lcell pm_Lcell cd_Lcell ct_Lcell : Value}
    (a_Lcell : PySem.W.nsIn K mainGlobals "_law_cell" = some (some (.ref f_Lcell))) (l_Lcell : K.lookup f_Lcell = some ⟨oc_Lcell, od_Lcell, .func (PySem.W.fnOf "_law_cell" "_law_cell" (defArgs s_Lcell) (defBody s_Lcell) (defScope s_Lcell) .none kV_Lcell dc_Lcell pm_Lcell an_Lcell cd_Lcell ct_Lcell), sl_Lcell⟩) (c_Lcell : PySem.W.codeIn K cd_Lcell "_law_cell" = true) (k_Lcell : PySem.W.keepIn K (.ref f_Lcell) = true)
    {f_Ldraws : Addr} {od_Ldraws an_Ldraws : Option Addr} {sl_Ldraws : Array (Option Value)} {oc_Ldraws kV_Ldraws dc_Ldraws pm_Ldraws cd_Ldraws ct_Ldraws : Value}
    (a_Ldraws : PySem.W.nsIn K mainGlobals "_law_draws" = some (some (.ref f_Ldraws))) (l_Ldraws : K.lookup f_Ldraws = some ⟨oc_Ldraws, od_Ldraws, .func (PySem.W.fnOf "_law_draws" "_law_draws" (defArgs s_Ldraws) (defBody s_Ldraws) (defScope s_Ldraws) .none kV_Ldraws dc_Ldraws pm_Ldraws an_Ldraws cd_Ldraws ct_Ldraws), sl_Ldraws⟩) (c_Ldraws : PySem.W.codeIn K cd_Ldraws "_law_draws" = true) (k_Ldraws : PySem.W.keepIn K (.ref f_Ldraws) = true)
    {f_Lwords : Addr} {od_Lwords an_Lwords : Option Addr} {sl_Lwords : Array (Option Value)} {oc_Lwords kV_Lwords dc_Lwords pm_Lwords cd_Lwords ct_Lwords : Value}
    (a_Lwords : PySem.W.nsIn K mainGlobals "_law_words" = some (some (.ref f_Lwords))) (l_Lwords : K.lookup f_Lwords = some ⟨oc_Lwords, od_Lwords, .func (PySem.W.fnOf "_law_words" "_law_words" (defArgs s_Lwords) (defBody s_Lwords) (defScope s_Lwords) .none kV_Lwords dc_Lwords pm_Lwords an_Lwords cd_Lwords ct_Lwords), sl_Lwords⟩) (c_Lwords : PySem.W.codeIn K cd_Lwords "_law_words" = true) (k_Lwords : PySem.W.keepIn K (.ref f_Lwords) = true)
    {f_Lspan : Addr} {od_Lspan an_Lspan : Option Addr} {sl_Lspan : Array (Option Value)} {oc_Lspan kV_Lspan dc_Lspan pm_Lspan cd_Lspan ct_Lspan : Value}
    (a_Lspan : PySem.W.nsIn K mainGlobals "_law_span" = some (some (.ref f_Lspan))) (l_Lspan : K.lookup f_Lspan = some ⟨oc_Lspan, od_Lspan, .func (PySem.W.fnOf "_law_span" "_law_span" (defArgs s_Lspan) (defBody s_Lspan) (defScope s_Lspan) .none kV_Lspan dc_Lspan pm_Lspan an_Lspan cd_Lspan ct_Lspan), sl_Lspan⟩) (c_Lspan : PySem.W.codeIn K cd_Lspan "_law_span" = true) (k_Lspan : PySem.W.keepIn K (.ref f_Lspan) = true)
    {f_Lcells : Addr} {od_Lcells an_Lcells : Option Addr} {sl_Lcells : Array (Option Value)} {oc_Lcells kV_Lcells dc_Lcells pm_Lcells cd_Lcells ct_Lcells : Value}
    (a_Lcells : PySem.W.nsIn K mainGlobals "_law_cells" = some (some (.ref f_Lcells))) (l_Lcells : K.lookup f_Lcells = some ⟨oc_Lcells, od_Lcells, .func (PySem.W.fnOf "_law_cells" "_law_cells" (defArgs s_Lcells) (defBody s_Lcells) (defScope s_Lcells) .none kV_Lcells dc_Lcells pm_Lcells an_Lcells cd_Lcells ct_Lcells), sl_Lcells⟩) (c_Lcells : PySem.W.codeIn K cd_Lcells "_law_cells" = true) (k_Lcells : PySem.W.keepIn K (.ref f_Lcells) = true)
    {f_Ltable : Addr} {od_Ltable an_Ltable : Option Addr} {sl_Ltable : Array (Option Value)} {oc_Ltable kV_Ltable dc_Ltable pm_Ltable cd_Ltable ct_Ltable : Value}
    (a_Ltable : PySem.W.nsIn K mainGlobals "_law_table" = some (some (.ref f_Ltable))) (l_Ltable : K.lookup f_Ltable = some ⟨oc_Ltable, od_Ltable, .func (PySem.W.fnOf "_law_table" "_law_table" (defArgs s_Ltable) (defBody s_Ltable) (defScope s_Ltable) .none kV_Ltable dc_Ltable pm_Ltable an_Ltable cd_Ltable ct_Ltable), sl_Ltable⟩) (c_Ltable : PySem.W.codeIn K cd_Ltable "_law_table" = true) (k_Ltable : PySem.W.keepIn K (.ref f_Ltable) = true)
    {f_Lline_count : Addr} {od_Lline_count an_Lline_count : Option Addr} {sl_Lline_count : Array (Option Value)} {oc_Lline_count kV_Lline_count dc_Lline_count pm_Lline_count cd_Lline_count ct_Lline_count : Value}
    (a_Lline_count : PySem.W.nsIn K mainGlobals "_law_line_count" = some (some (.ref f_Lline_count))) (l_Lline_count : K.lookup f_Lline_count = some ⟨oc_Lline_count, od_Lline_count, .func (PySem.W.fnOf "_law_line_count" "_law_line_count" (defArgs s_Lline_count) (defBody s_Lline_count) (defScope s_Lline_count) .none kV_Lline_count dc_Lline_count pm_Lline_count an_Lline_count cd_Lline_count ct_Lline_count), sl_Lline_count⟩) (c_Lline_count : PySem.W.codeIn K cd_Lline_count "_law_line_count" = true) (k_Lline_count : PySem.W.keepIn K (.ref f_Lline_count) = true)
    {f_Linner : Addr} {od_Linner an_Linner : Option Addr} {sl_Linner : Array (Option Value)} {oc_Linner kV_Linner dc_Linner pm_Linner cd_Linner ct_Linner : Value}
    (a_Linner : PySem.W.nsIn K mainGlobals "_law_inner" = some (some (.ref f_Linner))) (l_Linner : K.lookup f_Linner = some ⟨oc_Linner, od_Linner, .func (PySem.W.fnOf "_law_inner" "_law_inner" (defArgs s_Linner) (defBody s_Linner) (defScope s_Linner) .none kV_Linner dc_Linner pm_Linner an_Linner cd_Linner ct_Linner), sl_Linner⟩) (c_Linner : PySem.W.codeIn K cd_Linner "_law_inner" = true) (k_Linner : PySem.W.keepIn K (.ref f_Linner) = true)
    {f_Lcells_right : Addr} {od_Lcells_right an_Lcells_right : Option Addr} {sl_Lcells_right : Array (Option Value)} {oc_Lcells_right kV_Lcells_right dc_Lcells_right pm_Lcells_right cd_Lcells_right ct_Lcells_right : Value}
    (a_Lcells_right : PySem.W.nsIn K mainGlobals "_law_cells_right" = some (some (.ref f_Lcells_right))) (l_Lcells_right : K.lookup f_Lcells_right = some ⟨oc_Lcells_right, od_Lcells_right, .func (PySem.W.fnOf "_law_cells_right" "_law_cells_right" (defArgs s_Lcells_right) (defBody s_Lcells_right) (defScope s_Lcells_right) .none kV_Lcells_right dc_Lcells_right pm_Lcells_right an_Lcells_right cd_Lcells_right ct_Lcells_right), sl_Lcells_right⟩) (c_Lcells_right : PySem.W.codeIn K cd_Lcells_right "_law_cells_right" = true) (k_Lcells_right : PySem.W.keepIn K (.ref f_Lcells_right) = true)
    {f_Lrows_right : Addr} {od_Lrows_right an_Lrows_right : Option Addr} {sl_Lrows_right : Array (Option Value)} {oc_Lrows_right kV_Lrows_right dc_Lrows_right pm_Lrows_right cd_Lrows_right ct_Lrows_right : Value}
    (a_Lrows_right : PySem.W.nsIn K mainGlobals "_law_rows_right" = some (some (.ref f_Lrows_right))) (l_Lrows_right : K.lookup f_Lrows_right = some ⟨oc_Lrows_right, od_Lrows_right, .func (PySem.W.fnOf "_law_rows_right" "_law_rows_right" (defArgs s_Lrows_right) (defBody s_Lrows_right) (defScope s_Lrows_right) .none kV_Lrows_right dc_Lrows_right pm_Lrows_right an_Lrows_right cd_Lrows_right ct_Lrows_right), sl_Lrows_right⟩) (c_Lrows_right : PySem.W.codeIn K cd_Lrows_right "_law_rows_right" = true) (k_Lrows_right : PySem.W.keepIn K (.ref f_Lrows_right) = true)
    {f_Lrising : Addr} {od_Lrising an_Lrising : Option Addr} {sl_Lrising : Array (Option Value)} {oc_Lrising kV_Lrising dc_Lrising pm_Lrising cd_Lrising ct_Lrising : Value}
    (a_Lrising : PySem.W.nsIn K mainGlobals "_law_rising" = some (some (.ref f_Lrising))) (l_Lrising : K.lookup f_Lrising = some ⟨oc_Lrising, od_Lrising, .func (PySem.W.fnOf "_law_rising" "_law_rising" (defArgs s_Lrising) (defBody s_Lrising) (defScope s_Lrising) .none kV_Lrising dc_Lrising pm_Lrising an_Lrising cd_Lrising ct_Lrising), sl_Lrising⟩) (c_Lrising : PySem.W.codeIn K cd_Lrising "_law_rising" = true) (k_Lrising : PySem.W.keepIn K (.ref f_Lrising) = true)
    {f_Llines_of : Addr} {od_Llines_of an_Llines_of : Option Addr} {sl_Llines_of : Array (Option Value)} {oc_Llines_of kV_Llines_of dc_Llines_of pm_Llines_of cd_Llines_of ct_Llines_of : Value}
    (a_Llines_of : PySem.W.nsIn K mainGlobals "_law_lines_of" = some (some (.ref f_Llines_of))) (l_Llines_of : K.lookup f_Llines_of = some ⟨oc_Llines_of, od_Llines_of, .func (PySem.W.fnOf "_law_lines_of" "_law_lines_of" (defArgs s_Llines_of) (defBody s_Llines_of) (defScope s_Llines_of) .none kV_Llines_of dc_Llines_of pm_Llines_of an_Llines_of cd_Llines_of ct_Llines_of), sl_Llines_of⟩) (c_Llines_of : PySem.W.codeIn K cd_Llines_of "_law_lines_of" = true) (k_Llines_of : PySem.W.keepIn K (.ref f_Llines_of) = true)
    {f_Lleast : Addr} {od_Lleast an_Lleast : Option Addr} {sl_Lleast : Array (Option Value)} {oc_Lleast kV_Lleast dc_Lleast pm_Lleast cd_Lleast ct_Lleast : Value}
    (a_Lleast : PySem.W.nsIn K mainGlobals "_law_least" = some (some (.ref f_Lleast))) (l_Lleast : K.lookup f_Lleast = some ⟨oc_Lleast, od_Lleast, .func (PySem.W.fnOf "_law_least" "_law_least" (defArgs s_Lleast) (defBody s_Lleast) (defScope s_Lleast) .none kV_Lleast dc_Lleast pm_Lleast an_Lleast cd_Lleast ct_Lleast), sl_Lleast⟩) (c_Lleast : PySem.W.codeIn K cd_Lleast "_law_least" = true) (k_Lleast : PySem.W.keepIn K (.ref f_Lleast) = true)
    {f_Lviolated : Addr} {od_Lviolated an_Lviolated : Option Addr} {sl_Lviolated : Array (Option Value)} {oc_Lviolated kV_Lviolated dc_Lviolated pm_Lviolated cd_Lviolated ct_Lviolated : Value}
    (a_Lviolated : PySem.W.nsIn K mainGlobals "_law_violated" = some (some (.ref f_Lviolated))) (l_Lviolated : K.lookup f_Lviolated = some ⟨oc_Lviolated, od_Lviolated, .func (PySem.W.fnOf "_law_violated" "_law_violated" (defArgs s_Lviolated) (defBody s_Lviolated) (defScope s_Lviolated) .none kV_Lviolated dc_Lviolated pm_Lviolated an_Lviolated cd_Lviolated ct_Lviolated), sl_Lviolated⟩) (c_Lviolated : PySem.W.codeIn K cd_Lviolated "_law_violated" = true) (k_Lviolated : PySem.W.keepIn K (.ref f_Lviolated) = true)
    {f_Llong_table : Addr} {od_Llong_table an_Llong_table : Option Addr} {sl_Llong_table : Array (Option Value)} {oc_Llong_table kV_Llong_table dc_Llong_table pm_Llong_table cd_Llong_table ct_Llong_table : Value}
    (a_Llong_table : PySem.W.nsIn K mainGlobals "_law_long_table" = some (some (.ref f_Llong_table))) (l_Llong_table : K.lookup f_Llong_table = some ⟨oc_Llong_table, od_Llong_table, .func (PySem.W.fnOf "_law_long_table" "_law_long_table" (defArgs s_Llong_table) (defBody s_Llong_table) (defScope s_Llong_table) .none kV_Llong_table dc_Llong_table pm_Llong_table an_Llong_table cd_Llong_table ct_Llong_table), sl_Llong_table⟩) (c_Llong_table : PySem.W.codeIn K cd_Llong_table "_law_long_table" = true) (k_Llong_table : PySem.W.keepIn K (.ref f_Llong_table) = true)
    {f_law : Addr} {od_law an_law : Option Addr} {sl_law : Array (Option Value)} {oc_law kV_law dc_law pm_law cd_law ct_law : Value}
    (a_law : PySem.W.nsIn K mainGlobals "law" = some (some (.ref f_law))) (l_law : K.lookup f_law = some ⟨oc_law, od_law, .func (PySem.W.fnOf "law" "law" (defArgs s_law) (defBody s_law) (defScope s_law) .none kV_law dc_law pm_law an_law cd_law ct_law), sl_law⟩) (c_law : PySem.W.codeIn K cd_law "law" = true) (k_law : PySem.W.keepIn K (.ref f_law) = true)
    (z_list : PySem.W.nsIn K mainGlobals "list" = some none)
    (z_range : PySem.W.nsIn K mainGlobals "range" = some none)
    (z_len : PySem.W.nsIn K mainGlobals "len" = some none)
    (z_max : PySem.W.nsIn K mainGlobals "max" = some none)
    (z_enumerate : PySem.W.nsIn K mainGlobals "enumerate" = some none)
    (z_tuple : PySem.W.nsIn K mainGlobals "tuple" = some none)
    (z_min : PySem.W.nsIn K mainGlobals "min" = some none)
    (z_isinstance : PySem.W.nsIn K mainGlobals "isinstance" = some none)
    : ∃ fd : FuncData, (∀ (s : Shared) (v : Value), BindsTo s fd ⟨[v], []⟩ [("script", v)]) ∧ ∀ base : Heap, K.In base → base.Ns mainGlobals mg → FnOk l.prog w K mg base CX0 6 fa fd ["script"] (spF K g_law) := by
  have e := hfa.symm.trans (PySem.W.mg_of X G a_law)
  cases e
  have F_raised := fun_mk (st := s_raised) l_raised c_raised k_raised
  have b_raised := F_raised.binds (ps := ["positions", "constraints"]) fun _ _ _ _ _ _ us hl => match us, hl with | [_, _], _ => rfl
  have F_least_positions := fun_mk (st := s_least_positions) l_least_positions c_least_positions k_least_positions
  have b_least_positions := F_least_positions.binds (ps := ["count", "constraints"]) fun _ _ _ _ _ _ us hl => match us, hl with | [_, _], _ => rfl
  have F_inner_size := fun_mk (st := s_inner_size) l_inner_size c_inner_size k_inner_size
  have b_inner_size := F_inner_size.binds (ps := ["lines", "first", "span"]) fun _ _ _ _ _ _ us hl => match us, hl with | [_, _, _], _ => rfl
  have F_longest := fun_mk (st := s_longest) l_longest c_longest k_longest
  have b_longest := F_longest.binds (ps := ["words"]) fun _ _ _ _ _ _ us hl => match us, hl with | [_], _ => rfl
  have F_length_of := fun_mk (st := s_length_of) l_length_of c_length_of k_length_of
  have b_length_of := F_length_of.binds (ps := ["words"]) fun _ _ _ _ _ _ us hl => match us, hl with | [_], _ => rfl
  have F_wrap := fun_mk (st := s_wrap) l_wrap c_wrap k_wrap
  have b_wrap := F_wrap.binds (ps := ["words", "width"]) fun _ _ _ _ _ _ us hl => match us, hl with | [_, _], _ => rfl
  have F_line_count := fun_mk (st := s_line_count) l_line_count c_line_count k_line_count
  have b_line_count := F_line_count.binds (ps := ["words", "width"]) fun _ _ _ _ _ _ us hl => match us, hl with | [_, _], _ => rfl
  have F_row_lines_for := fun_mk (st := s_row_lines_for) l_row_lines_for c_row_lines_for k_row_lines_for
  have b_row_lines_for := F_row_lines_for.binds (ps := ["table", "column_lines"]) fun _ _ _ _ _ _ us hl => match us, hl with | [_, _], _ => rfl
  have F_is_cell_met := fun_mk (st := s_is_cell_met) l_is_cell_met c_is_cell_met k_is_cell_met
  have b_is_cell_met := F_is_cell_met.binds (ps := ["cell", "layout"]) fun _ _ _ _ _ _ us hl => match us, hl with | [_, _], _ => rfl
  have F_column_violations := fun_mk (st := s_column_violations) l_column_violations c_column_violations k_column_violations
  have b_column_violations := F_column_violations.binds (ps := ["number", "column", "column_lines"]) fun _ _ _ _ _ _ us hl => match us, hl with | [_, _, _], _ => rfl
  have F_violations := fun_mk (st := s_violations) l_violations c_violations k_violations
  have b_violations := F_violations.binds (ps := ["table", "layout"]) fun _ _ _ _ _ _ us hl => match us, hl with | [_, _], _ => rfl
  have F_Lcell := fun_mk (st := s_Lcell) l_Lcell c_Lcell k_Lcell
  have b_Lcell := F_Lcell.binds (ps := ["script", "k"]) fun _ _ _ _ _ _ us hl => match us, hl with | [_, _], _ => rfl
  have F_Ldraws := fun_mk (st := s_Ldraws) l_Ldraws c_Ldraws k_Ldraws
  have b_Ldraws := F_Ldraws.binds (ps := ["cell", "count"]) fun _ _ _ _ _ _ us hl => match us, hl with | [_, _], _ => rfl
  have F_Lwords := fun_mk (st := s_Lwords) l_Lwords c_Lwords k_Lwords
  have b_Lwords := F_Lwords.binds (ps := ["number"]) fun _ _ _ _ _ _ us hl => match us, hl with | [_], _ => rfl
  have F_Lspan := fun_mk (st := s_Lspan) l_Lspan c_Lspan k_Lspan
  have b_Lspan := F_Lspan.binds (ps := ["covered", "row", "column", "extent", "number"]) fun _ _ _ _ _ _ us hl => match us, hl with | [_, _, _, _, _], _ => rfl
  have F_Lcells := fun_mk (st := s_Lcells) l_Lcells c_Lcells k_Lcells
  have b_Lcells := F_Lcells.binds (ps := ["extent", "draws"]) fun _ _ _ _ _ _ us hl => match us, hl with | [_, _], _ => rfl
  have F_Ltable := fun_mk (st := s_Ltable) l_Ltable c_Ltable k_Ltable
  have b_Ltable := F_Ltable.binds (ps := ["script", "at", "most_columns", "most_rows"]) fun _ _ _ _ _ _ us hl => match us, hl with | [_, _, _, _], _ => rfl
  have F_Lline_count := fun_mk (st := s_Lline_count) l_Lline_count c_Lline_count k_Lline_count
  have b_Lline_count := F_Lline_count.binds (ps := ["words", "width"]) fun _ _ _ _ _ _ us hl => match us, hl with | [_, _], _ => rfl
  have F_Linner := fun_mk (st := s_Linner) l_Linner c_Linner k_Linner
  have b_Linner := F_Linner.binds (ps := ["lines", "first", "count"]) fun _ _ _ _ _ _ us hl => match us, hl with | [_, _, _], _ => rfl
  have F_Lcells_right := fun_mk (st := s_Lcells_right) l_Lcells_right c_Lcells_right k_Lcells_right
  have b_Lcells_right := F_Lcells_right.binds (ps := ["table", "xs", "ys"]) fun _ _ _ _ _ _ us hl => match us, hl with | [_, _, _], _ => rfl
  have F_Lrows_right := fun_mk (st := s_Lrows_right) l_Lrows_right c_Lrows_right k_Lrows_right
  have b_Lrows_right := F_Lrows_right.binds (ps := ["table", "ys"]) fun _ _ _ _ _ _ us hl => match us, hl with | [_, _], _ => rfl
  have F_Lrising := fun_mk (st := s_Lrising) l_Lrising c_Lrising k_Lrising
  have b_Lrising := F_Lrising.binds (ps := ["count", "most"]) fun _ _ _ _ _ _ us hl => match us, hl with | [_, _], _ => rfl
  have F_Llines_of := fun_mk (st := s_Llines_of) l_Llines_of c_Llines_of k_Llines_of
  have b_Llines_of := F_Llines_of.binds (ps := ["heights"]) fun _ _ _ _ _ _ us hl => match us, hl with | [_], _ => rfl
  have F_Lleast := fun_mk (st := s_Lleast) l_Lleast c_Lleast k_Lleast
  have b_Lleast := F_Lleast.binds (ps := ["lists"]) fun _ _ _ _ _ _ us hl => match us, hl with | [_], _ => rfl
  have F_Lviolated := fun_mk (st := s_Lviolated) l_Lviolated c_Lviolated k_Lviolated
  have b_Lviolated := F_Lviolated.binds (ps := ["table", "xs", "ys"]) fun _ _ _ _ _ _ us hl => match us, hl with | [_, _, _], _ => rfl
  have F_Llong_table := fun_mk (st := s_Llong_table) l_Llong_table c_Llong_table k_Llong_table
  have b_Llong_table := F_Llong_table.binds (ps := ["many", "down"]) fun _ _ _ _ _ _ us hl => match us, hl with | [_, _], _ => rfl
  have F_law := fun_mk (st := s_law) l_law c_law k_law
  have b_law := F_law.binds (ps := ["script"]) fun _ _ _ _ _ _ us hl => match us, hl with | [_], _ => rfl
  refine ⟨PySem.W.fnOf "law" "law" (defArgs s_law) (defBody s_law) (defScope s_law) .none kV_law dc_law pm_law an_law cd_law ct_law, fun s v => .of_eq rfl, fun base _ _ => ?_⟩
  have H_raised := ok_raised (P := l.prog) (w := w) (mg := mg) (base := base) F_raised (PySem.W.mg_none_of X G z_list)
  have H_least_positions := ok_least_positions (P := l.prog) (w := w) (mg := mg) (base := base) F_least_positions H_raised (PySem.W.mg_of X G a_raised) k_raised b_raised (PySem.W.mg_none_of X G z_range)
  have H_inner_size := ok_inner_size (P := l.prog) (w := w) (mg := mg) (base := base) F_inner_size
  have H_longest := ok_longest (P := l.prog) (w := w) (mg := mg) (base := base) F_longest (PySem.W.mg_none_of X G z_len) (PySem.W.mg_none_of X G z_max)
  have H_length_of := ok_length_of (P := l.prog) (w := w) (mg := mg) (base := base) F_length_of (PySem.W.mg_none_of X G z_len)
  have H_wrap := ok_wrap (P := l.prog) (w := w) (mg := mg) (base := base) F_wrap H_longest (PySem.W.mg_of X G a_longest) k_longest b_longest H_length_of (PySem.W.mg_of X G a_length_of) k_length_of b_length_of (PySem.W.mg_none_of X G z_len)
  have H_line_count := ok_line_count (P := l.prog) (w := w) (mg := mg) (base := base) F_line_count H_wrap (PySem.W.mg_of X G a_wrap) k_wrap b_wrap (PySem.W.mg_none_of X G z_len)
  have H_row_lines_for := ok_row_lines_for (P := l.prog) (w := w) (mg := mg) (base := base) F_row_lines_for H_line_count (PySem.W.mg_of X G a_line_count) k_line_count b_line_count H_inner_size (PySem.W.mg_of X G a_inner_size) k_inner_size b_inner_size H_least_positions (PySem.W.mg_of X G a_least_positions) k_least_positions b_least_positions (PySem.W.mg_none_of X G z_enumerate) (PySem.W.mg_none_of X G z_len) (PySem.W.mg_none_of X G z_tuple)
  have H_is_cell_met := ok_is_cell_met (P := l.prog) (w := w) (mg := mg) (base := base) F_is_cell_met H_line_count (PySem.W.mg_of X G a_line_count) k_line_count b_line_count H_inner_size (PySem.W.mg_of X G a_inner_size) k_inner_size b_inner_size
  have H_column_violations := ok_column_violations (P := l.prog) (w := w) (mg := mg) (base := base) F_column_violations H_inner_size (PySem.W.mg_of X G a_inner_size) k_inner_size b_inner_size
  have H_violations := ok_violations (P := l.prog) (w := w) (mg := mg) (base := base) F_violations H_is_cell_met (PySem.W.mg_of X G a_is_cell_met) k_is_cell_met b_is_cell_met H_column_violations (PySem.W.mg_of X G a_column_violations) k_column_violations b_column_violations H_inner_size (PySem.W.mg_of X G a_inner_size) k_inner_size b_inner_size (PySem.W.mg_none_of X G z_enumerate)
  have H_Lcell := ok_Lcell (P := l.prog) (w := w) (mg := mg) (base := base) F_Lcell (PySem.W.mg_none_of X G z_len)
  have H_Ldraws := ok_Ldraws (P := l.prog) (w := w) (mg := mg) (base := base) F_Ldraws (PySem.W.mg_none_of X G z_range)
  have H_Lwords := ok_Lwords (P := l.prog) (w := w) (mg := mg) (base := base) F_Lwords (PySem.W.mg_none_of X G z_range) (PySem.W.mg_none_of X G z_tuple)
  have H_Lspan := ok_Lspan (P := l.prog) (w := w) (mg := mg) (base := base) F_Lspan
  have H_Lcells := ok_Lcells (P := l.prog) (w := w) (mg := mg) (base := base) F_Lcells H_Lspan (PySem.W.mg_of X G a_Lspan) k_Lspan b_Lspan H_Lwords (PySem.W.mg_of X G a_Lwords) k_Lwords b_Lwords (PySem.W.mg_none_of X G z_range) (PySem.W.mg_none_of X G z_tuple)
  have H_Ltable := ok_Ltable (P := l.prog) (w := w) (mg := mg) (base := base) F_Ltable H_Ldraws (PySem.W.mg_of X G a_Ldraws) k_Ldraws b_Ldraws H_Lcell (PySem.W.mg_of X G a_Lcell) k_Lcell b_Lcell H_Lcells (PySem.W.mg_of X G a_Lcells) k_Lcells b_Lcells (PySem.W.mg_none_of X G z_range) (PySem.W.mg_none_of X G z_tuple)
  have H_Lline_count := ok_Lline_count (P := l.prog) (w := w) (mg := mg) (base := base) F_Lline_count (PySem.W.mg_none_of X G z_len)
  have H_Linner := ok_Linner (P := l.prog) (w := w) (mg := mg) (base := base) F_Linner
  have H_Lcells_right := ok_Lcells_right (P := l.prog) (w := w) (mg := mg) (base := base) F_Lcells_right H_Lline_count (PySem.W.mg_of X G a_Lline_count) k_Lline_count b_Lline_count H_Linner (PySem.W.mg_of X G a_Linner) k_Linner b_Linner
  have H_Lrows_right := ok_Lrows_right (P := l.prog) (w := w) (mg := mg) (base := base) F_Lrows_right H_Linner (PySem.W.mg_of X G a_Linner) k_Linner b_Linner (PySem.W.mg_none_of X G z_len) (PySem.W.mg_none_of X G z_range)
  have H_Lrising := ok_Lrising (P := l.prog) (w := w) (mg := mg) (base := base) F_Lrising (PySem.W.mg_none_of X G z_range)
  have H_Llines_of := ok_Llines_of (P := l.prog) (w := w) (mg := mg) (base := base) F_Llines_of (PySem.W.mg_none_of X G z_tuple)
  have H_Lleast := ok_Lleast (P := l.prog) (w := w) (mg := mg) (base := base) F_Lleast (PySem.W.mg_none_of X G z_list) (PySem.W.mg_none_of X G z_len) (PySem.W.mg_none_of X G z_range) (PySem.W.mg_none_of X G z_min) (PySem.W.mg_none_of X G z_tuple)
  have H_Lviolated := ok_Lviolated (P := l.prog) (w := w) (mg := mg) (base := base) F_Lviolated H_Lline_count (PySem.W.mg_of X G a_Lline_count) k_Lline_count b_Lline_count H_Linner (PySem.W.mg_of X G a_Linner) k_Linner b_Linner (PySem.W.mg_none_of X G z_len) (PySem.W.mg_none_of X G z_range)
  have H_Llong_table := ok_Llong_table (P := l.prog) (w := w) (mg := mg) (base := base) F_Llong_table (PySem.W.mg_none_of X G z_range) (PySem.W.mg_none_of X G z_tuple)
  have H_law := ok_law (P := l.prog) (w := w) (mg := mg) (base := base) F_law H_Ltable (PySem.W.mg_of X G a_Ltable) k_Ltable b_Ltable H_Lcell (PySem.W.mg_of X G a_Lcell) k_Lcell b_Lcell H_Llong_table (PySem.W.mg_of X G a_Llong_table) k_Llong_table b_Llong_table H_Ldraws (PySem.W.mg_of X G a_Ldraws) k_Ldraws b_Ldraws H_Llines_of (PySem.W.mg_of X G a_Llines_of) k_Llines_of b_Llines_of H_violations (PySem.W.mg_of X G a_violations) k_violations b_violations H_Lviolated (PySem.W.mg_of X G a_Lviolated) k_Lviolated b_Lviolated H_Lrising (PySem.W.mg_of X G a_Lrising) k_Lrising b_Lrising H_Lrows_right (PySem.W.mg_of X G a_Lrows_right) k_Lrows_right b_Lrows_right H_Lcells_right (PySem.W.mg_of X G a_Lcells_right) k_Lcells_right b_Lcells_right H_row_lines_for (PySem.W.mg_of X G a_row_lines_for) k_row_lines_for b_row_lines_for H_Lleast (PySem.W.mg_of X G a_Lleast) k_Lleast b_Lleast (PySem.W.mg_none_of X G z_len) (PySem.W.mg_none_of X G z_range) (PySem.W.mg_none_of X G z_isinstance) (PySem.W.mg_none_of X G z_list) (PySem.W.mg_none_of X G z_tuple)
  exact H_law
end K12

namespace K12
open PySem PySem.Spec PyProof.Rows L2 Mir
theorem inT_pr (p : Int × Int) (ps : List (Int × Int)) : inT (pr p) (.list (ps.map pr)) = some (.bool (decide (p ∈ ps))) := inD_pr p ps
theorem notInT_pr (p : Int × Int) (ps : List (Int × Int)) : notInT (pr p) (.list (ps.map pr)) = some (.bool (!decide (p ∈ ps))) := by
  unfold notInT
  rw [inT_pr]
/-! the law's draws -/
theorem cell_ev (ns : List Int) (k : Nat) : g_Lcell [.list (ns.map .int), .int k] = some (.int (ns.getD k 0)) := by
  show outD (f_Lcell [.val (.list (ns.map .int)), .val (.int k)]) = _
  by_cases h : k < ns.length
  · have e1 : atI (ns.map PyData.int) (k : Int) = some (.int (ns.getD k 0)) := atI_map _ _ _ _ (by simp [List.getD, h])
    simp [f_Lcell, sSeq, sIf, t1, e2, eVar, eCall, aCons, aNil, lenA, ltD, i2, h, sRet, ixG, e1, outD]
  · have e1 : ns.getD k 0 = 0 := by simp [List.getD, List.getElem?_eq_none (Nat.le_of_not_lt h)]
    simp [f_Lcell, sSeq, sIf, t1, e2, eVar, eCall, aCons, aNil, lenA, ltD, i2, h, sRet, ixG, e1, outD, sNil, eC]
theorem pow18 : ∃ z : Int, powD (.int 10) (.int 18) = some (.int z) := by
  refine ⟨10 ^ (18 : Int).toNat, ?_⟩
  show (if CPow 10 18 then some (PyData.int (10 ^ (18 : Int).toNat)) else none) = _
  rw [if_pos ⟨by decide, by decide, by decide⟩]
theorem z1 (c z : Int) (n : Nat) (hp : powD (.int 10) (.int 18) = some (.int z)) : sSet 3 (e2 geD (eVar 0) (e2 powD (eC (.int 10)) (eC (.int 18)))) [.val (.int c), .val (.int n), .own [], .un, .un, .un] = .nx [.val (.int c), .val (.int n), .own [], .val (.bool (decide (z ≤ c))), .un, .un] := sSet_ev (e2_ev rfl (e2_ev rfl rfl hp) (geD_int c z))
theorem z2 (c z : Int) (n : Nat) (hn : n ≤ 1000) : iR1 (aCons (eVar 1) aNil) [.val (.int c), .val (.int n), .own [], .val (.bool (decide (z ≤ c))), .un, .un] = some (rngD 0 n) := by
    have := iR1_ev (fa := aCons (eVar 1) aNil) (env := [.val (.int c), .val (.int n), .own [], .val (.bool (decide (z ≤ c))), .un, .un]) (N := n) rfl (by omega) (by omega)
    rw [Int.toNat_natCast] at this
    exact this
theorem z3 (c z c' : Int) (n : Nat) (hn : n ≤ 1000) (ds : List Int) (x y : Sl) (h1 : loopF (gVal 4) b_Ldraws_1 (rngD 0 n) [.val (.int c), .val (.int n), .own [], .val (.bool (decide (z ≤ c))), .un, .un] = .nx [.val (.int c'), .val (.int n), .own (ds.map PyData.int), .val (.bool (decide (z ≤ c))), x, y])
 (hp : powD (.int 10) (.int 18) = some (.int z)) : f_Ldraws [.val (.int c), .val (.int n), .un, .un, .un, .un] = .rt (.list (ds.map PyData.int)) := by
    have k1 : sOwn 2 (fLst aNil) [.val (.int c), .val (.int n), .un, .un, .un, .un] = .nx [.val (.int c), .val (.int n), .own [], .un, .un, .un] := rfl
    unfold f_Ldraws
    rw [sSeq_nx k1, sSeq_nx (z1 c z n hp), sSeq_nx (sFor_ev (z2 c z n hn) h1)]
    rfl
theorem z4 (c : Int) (n : Nat) (ds : List Int) (this : f_Ldraws [.val (.int c), .val (.int n), .un, .un, .un, .un] = .rt (.list (ds.map PyData.int))) : g_Ldraws [.int c, .int n] = some (.list (ds.map PyData.int)) := gDef_ev (fB := f_Ldraws) rfl this
theorem draws_key (c : Int) (n : Nat) (hn : n ≤ 1000) (wide : Bool) : ∃ (c' : Int) (ds : List Int) (x y : Sl), loopF (gVal 4) b_Ldraws_1 (rngD 0 n) [.val (.int c), .val (.int n), .own [], .val (.bool wide), .un, .un] = .nx [.val (.int c'), .val (.int n), .own (ds.map .int), .val (.bool wide), x, y] ∧ ds.length = n ∧ ∀ d ∈ ds, 0 ≤ d ∧ d < 1000003 := by
  have key : ∃ e', loopF (gVal 4) b_Ldraws_1 (rngD 0 n) [.val (.int c), .val (.int n), .own [], .val (.bool wide), .un, .un] = .nx e' ∧
      (∃ (c' : Int) (ds : List Int) (x y : Sl), e' = [.val (.int c'), .val (.int n), .own (ds.map .int), .val (.bool wide), x, y] ∧ ds.length = n ∧ ∀ d ∈ ds, 0 ≤ d ∧ d < 1000003) := by
    refine loop_rng (fun j e => ∃ (c' : Int) (ds : List Int) (x y : Sl), e = [.val (.int c'), .val (.int n), .own (ds.map .int), .val (.bool wide), x, y] ∧ ds.length = j ∧ ∀ d ∈ ds, 0 ≤ d ∧ d < 1000003) ?_ ⟨c, [], .un, .un, rfl, rfl, fun d h => by cases h⟩
    rintro j e hj ⟨c', ds, x, y, rfl, hd, hb⟩
    obtain ⟨k, hk⟩ : ∃ k : Int, k = 0 + (j : Nat) := ⟨_, rfl⟩
    have hk1 : 0 ≤ k ∧ k < 1000 := by omega
    rw [← hk]
    refine ⟨[.val (.int c'), .val (.int n), .own (ds.map .int), .val (.bool wide), .val (.int k), y], rfl, ?_⟩
    have hl : ds.length < 1000000 := by omega
    cases wide with
    | true =>
      refine ⟨_, .inl (show b_Ldraws_1 _ = .nx [.val (.int (c' / 1009)), .val (.int n), .own ((ds ++ [c' % 1009]).map .int), .val (.bool true), .val (.int k), y] from ?_), c' / 1009, ds ++ [c' % 1009], .val (.int k), y, rfl, by simp [hd], ?_⟩
      · unfold b_Ldraws_1
        rw [sIf_t (by rfl)]
        exact draw_t' 1009 c' n ds _ _ y hl (by decide) (by decide)
      · intro d h
        rcases List.mem_append.mp h with h | h
        · exact hb d h
        · rw [List.mem_singleton.mp h]
          have h1 := Int.emod_nonneg c' (show (1009 : Int) ≠ 0 by decide)
          have h2 := Int.emod_lt_of_pos c' (show (0 : Int) < 1009 by decide)
          omega
    | false =>
      obtain ⟨m, hm⟩ : ∃ m : Int, (c' * 48271 + k * 69621) % 2147483647 = m := ⟨_, rfl⟩
      have hm1 : 0 ≤ m := by rw [← hm]; exact Int.emod_nonneg _ (by decide)
      have hm2 : m < 2147483647 := by rw [← hm]; exact Int.emod_lt_of_pos _ (by decide)
      obtain ⟨v, hv⟩ : ∃ v : Int, (m * m + c' * 31 + k) % 1000003 = v := ⟨_, rfl⟩
      have hv1 : 0 ≤ v := by rw [← hv]; exact Int.emod_nonneg _ (by decide)
      have hv2 : v < 1000003 := by rw [← hv]; exact Int.emod_lt_of_pos _ (by decide)
      refine ⟨_, .inl (show b_Ldraws_1 _ = .nx [.val (.int c'), .val (.int n), .own ((ds ++ [v]).map .int), .val (.bool false), .val (.int k), .val (.int m)] from ?_), c', ds ++ [v], .val (.int k), .val (.int m), rfl, by simp [hd], ?_⟩
      · unfold b_Ldraws_1
        rw [sIf_f (by rfl)]
        rw [sSeq_nx (draw_s1' 48271 69621 2147483647 c' m k n ds _ y (.inr (by omega)) (.inr (by omega)) (by decide) hm)]
        rw [← hv]
        exact draw_s2' 31 1000003 0 c' m k n ds _ hl (.inr (by omega)) (.inl (by omega)) (by decide)
      · intro d h
        rcases List.mem_append.mp h with h | h
        · exact hb d h
        · rw [List.mem_singleton.mp h]
          exact ⟨hv1, hv2⟩
  obtain ⟨e', h1, c', ds, x, y, rfl, h2, h3⟩ := key
  exact ⟨c', ds, x, y, h1, h2, h3⟩
theorem draws_ev (c : Int) (n : Nat) (hn : n ≤ 1000) : ∃ ds : List Int, g_Ldraws [.int c, .int n] = some (.list (ds.map .int)) ∧ ds.length = n ∧ ∀ d ∈ ds, 0 ≤ d ∧ d < 1000003 := by
  obtain ⟨z, hp⟩ := pow18
  obtain ⟨c', ds, x, y, h1, h2, h3⟩ := draws_key c n hn (decide (z ≤ c))
  exact ⟨ds, z4 c n ds (z3 c z c' n hn ds x y h1 hp), h2, h3⟩

/-! the table of three columns and rows by the digits of a cell -/
def pool4 : List Str := ["a", "bb", "c", "dd"]
theorem pool4_ok : ∀ w ∈ pool4, 1 ≤ w.length ∧ w.length ≤ 2 ∧ PyData.strOk w = true := by decide +kernel
theorem pick_ev {α : Type} (c : α → PyData) (xs : List α) (i : Int) (h : 0 ≤ i ∧ i < xs.length) : ∃ x ∈ xs, atI (xs.map c) i = some (c x) := by
  have h3 : i.toNat < xs.length := by omega
  refine ⟨xs[i.toNat], List.getElem_mem h3, ?_⟩
  have := atI_map c xs i.toNat _ (List.getElem?_eq_getElem h3)
  rw [Int.toNat_of_nonneg h.1] at this
  exact this
theorem compF_pick4 {g : PyData → En → Option En} {fe : En → Option PyData} {env : En} {lo : Int} {n : Nat} {Q : Str → Prop} (h : ∀ j : Nat, j < n → ∃ e1 w, g (.int (lo + (j : Nat))) env = some e1 ∧ fe e1 = some (.str w) ∧ Q w) :
    ∃ ws : List Str, compF g tYes' fe env (rngD lo n) = some (ws.map .str) ∧ ws.length = n ∧ ∀ w ∈ ws, Q w := by
  have aux : ∀ (ks : List Nat), (∀ j ∈ ks, j < n) → ∃ ws : List Str, compF g tYes' fe env (ks.map fun k => .int (lo + (k : Nat))) = some (ws.map .str) ∧ ws.length = ks.length ∧ ∀ w ∈ ws, Q w := by
    intro ks
    induction ks with
    | nil => exact fun _ => ⟨[], rfl, rfl, fun w h => by cases h⟩
    | cons k ks ih =>
      intro hk
      obtain ⟨ws, h1, h2, h3⟩ := ih fun j hj => hk j (List.mem_cons_of_mem _ hj)
      obtain ⟨e1, w, q1, q2, q3⟩ := h k (hk k List.mem_cons_self)
      refine ⟨w :: ws, ?_, by simp [h2], fun v hv => ?_⟩
      · simp only [List.map_cons, compF, q1, tYes', q2]
        rw [h1]
      · rcases List.mem_cons.mp hv with e | hv
        · rw [e]; exact q3
        · exact h3 v hv
  obtain ⟨ws, h1, h2, h3⟩ := aux (List.range n) fun j hj => List.mem_range.mp hj
  exact ⟨ws, h1, by rw [h2, List.length_range], h3⟩
theorem kwords_ev (c : Int) : ∃ ws : List Str, g_Lwords [.int c] = some (.tuple (ws.map .str)) ∧ ws.length ≤ 2 ∧ ∀ w ∈ ws, w ∈ pool4 := by
  have m0 := mod_lt c 3 (by decide)
  obtain ⟨N, hN⟩ : ∃ N : Int, N = c % 3 := ⟨_, rfl⟩
  rw [← hN] at m0
  obtain ⟨ws, h1, h2, h3⟩ := compF_pick4 (g := gVal 1) (fe := c_Lwords_1) (env := [.val (.int c), .un]) (lo := 0) (n := N.toNat) (Q := fun w => w ∈ pool4) fun j hj => by
    obtain ⟨k, hk⟩ : ∃ k : Int, k = 0 + (j : Nat) := ⟨_, rfl⟩
    rw [← hk]
    have m1 := mod_lt (c / (7 * (k + 1))) 4 (by decide)
    obtain ⟨w, hw, ha⟩ := pick_ev PyData.str pool4 (c / (7 * (k + 1)) % 4) ⟨m1.1, m1.2⟩
    refine ⟨[.val (.int c), .val (.int k)], w, rfl, ?_, hw⟩
    exact e2_ev (x := .list (pool4.map .str)) rfl (e2_ev (e2_ev rfl (e2_ev rfl (e2_ev rfl rfl (addD_int _ _)) (mulD_int (.inl (by decide)))) (divD_int ⟨by omega, by omega⟩)) rfl (modD_int (by decide))) ha
  refine ⟨ws, ?_, by omega, h3⟩
  refine gDef_ev' (fB := f_Lwords) [.val (.int c), .un] rfl rfl ?_
  unfold f_Lwords
  exact sRet_ev (eCall_ev (aCons_ev (eL_ev (fCmp_ev (iR1_ev (N := N) (aCons_ev (by rw [hN]; exact e2_ev rfl rfl (modD_int (by decide))) aNil_ev) (by omega) (by omega)) h1 (by rw [List.length_map]; omega))) aNil_ev) rfl)
theorem kspan_ev (ps : List (Int × Int)) (r c R C H n : Int) (hr : 0 ≤ r ∧ r < R) (hc : 0 ≤ c ∧ c < C) (hH : H ≤ R) : ∃ d a : Int, g_Lspan [.list (ps.map pr), .int r, .int c, .tuple [.int R, .int C, .int H], .int n] = some (.tuple [.int d, .int a]) ∧ (1 ≤ d ∧ d ≤ 2) ∧ (1 ≤ a ∧ a ≤ 2) ∧ r + d ≤ R ∧ c + a ≤ C := by
  have m0 := mod_lt n 2 (by decide)
  have m1 := mod_lt (n / 2) 2 (by decide)
  obtain ⟨d0, hd0⟩ : ∃ d0 : Int, d0 = 1 + n % 2 := ⟨_, rfl⟩
  obtain ⟨a0, ha0⟩ : ∃ a0 : Int, a0 = 1 + n / 2 % 2 := ⟨_, rfl⟩
  obtain ⟨Z, hZ⟩ : ∃ Z : Int, Z = if r < H then H else R := ⟨_, rfl⟩
  have hZR : Z ≤ R := by rw [hZ]; split <;> omega
  obtain ⟨X, hX⟩ : ∃ X : PyData, X = .tuple [.int R, .int C, .int H] := ⟨_, rfl⟩
  obtain ⟨Y, hY⟩ : ∃ Y : PyData, Y = .list (ps.map pr) := ⟨_, rfl⟩
  obtain ⟨d, hd1, hd2, hd3⟩ : ∃ d : Int, sIf (t1 (e2 gtD (e2 addD (eVar 1) (eVar 8)) (eIf (t1 (e2 ltD (eVar 1) (eVar 7))) (eVar 7) (eVar 5)))) (sSet 8 (eC (.int 1))) sNil [.val Y, .val (.int r), .val (.int c), .val X, .val (.int n), .val (.int R), .val (.int C), .val (.int H), .val (.int d0), .val (.int a0)] = .nx [.val Y, .val (.int r), .val (.int c), .val X, .val (.int n), .val (.int R), .val (.int C), .val (.int H), .val (.int d), .val (.int a0)] ∧ (1 ≤ d ∧ d ≤ 2) ∧ r + d ≤ R := by
    have hif : eIf (t1 (e2 ltD (eVar 1) (eVar 7))) (eVar 7) (eVar 5) [.val Y, .val (.int r), .val (.int c), .val X, .val (.int n), .val (.int R), .val (.int C), .val (.int H), .val (.int d0), .val (.int a0)] = some (.int Z) := by
      rw [hZ]
      by_cases z : r < H
      · rw [if_pos z]; exact eIf_t (t1_ev (e2_ev rfl rfl ((ltD_int _ _).trans (by rw [decide_eq_true z])))) rfl
      · rw [if_neg z]; exact eIf_f (t1_ev (e2_ev rfl rfl ((ltD_int _ _).trans (by rw [decide_eq_false z])))) rfl
    have hc := t1_ev (e2_ev (e2_ev (f := eVar 1) (g := eVar 8) rfl rfl (addD_int r d0)) hif (gtD_int _ _))
    by_cases z : Z < r + d0
    · rw [decide_eq_true z] at hc
      exact ⟨1, (sIf_t hc).trans rfl, by omega, by omega⟩
    · rw [decide_eq_false z] at hc
      exact ⟨d0, (sIf_f hc).trans rfl, by omega, by omega⟩
  obtain ⟨a, ha1, ha2, ha3⟩ : ∃ a : Int, sIf (tOr' (t1 (e2 gtD (e2 addD (eVar 2) (eVar 9)) (eVar 6))) (t1 (e2 inT (eTup (aCons (eVar 1) (aCons (e2 subD (e2 addD (eVar 2) (eVar 9)) (eC (.int 1))) aNil))) (eVar 0)))) (sSet 9 (eC (.int 1))) sNil [.val Y, .val (.int r), .val (.int c), .val X, .val (.int n), .val (.int R), .val (.int C), .val (.int H), .val (.int d), .val (.int a0)] = .nx [.val Y, .val (.int r), .val (.int c), .val X, .val (.int n), .val (.int R), .val (.int C), .val (.int H), .val (.int d), .val (.int a)] ∧ (1 ≤ a ∧ a ≤ 2) ∧ c + a ≤ C := by
    have h1 : t1 (e2 gtD (e2 addD (eVar 2) (eVar 9)) (eVar 6)) [.val Y, .val (.int r), .val (.int c), .val X, .val (.int n), .val (.int R), .val (.int C), .val (.int H), .val (.int d), .val (.int a0)] = some (decide (C < c + a0)) := t1_ev (e2_ev (e2_ev rfl rfl (addD_int c a0)) rfl (gtD_int _ _))
    have h2 : t1 (e2 inT (eTup (aCons (eVar 1) (aCons (e2 subD (e2 addD (eVar 2) (eVar 9)) (eC (.int 1))) aNil))) (eVar 0)) [.val Y, .val (.int r), .val (.int c), .val X, .val (.int n), .val (.int R), .val (.int C), .val (.int H), .val (.int d), .val (.int a0)] = some (decide ((r, c + a0 - 1) ∈ ps)) := by
      rw [hY]
      exact t1_ev (e2_ev (eTup_ev (aCons_ev rfl (aCons_ev (e2_ev (e2_ev rfl rfl (addD_int _ _)) rfl (subD_int _ _)) aNil_ev)) (by simp)) rfl (inT_pr (r, c + a0 - 1) ps))
    by_cases z : C < c + a0
    · rw [decide_eq_true z] at h1
      exact ⟨1, (sIf_t (or_t h1)).trans rfl, by omega, by omega⟩
    · rw [decide_eq_false z] at h1
      have h3 := or_f h1 h2
      by_cases y : (r, c + a0 - 1) ∈ ps
      · rw [decide_eq_true y] at h3
        exact ⟨1, (sIf_t h3).trans rfl, by omega, by omega⟩
      · rw [decide_eq_false y] at h3
        exact ⟨a0, (sIf_f h3).trans rfl, by omega, by omega⟩
  refine ⟨d, a, ?_, hd2, ha2, hd3, ha3⟩
  rw [← hX, ← hY]
  refine gDef_ev' (fB := f_Lspan) [.val Y, .val (.int r), .val (.int c), .val X, .val (.int n), .un, .un, .un, .un, .un] rfl rfl ?_
  unfold f_Lspan
  refine (sSeq_nx (e := [.val Y, .val (.int r), .val (.int c), .val X, .val (.int n), .val (.int R), .val (.int C), .val (.int H), .un, .un]) (by rw [hX]; rfl)).trans ?_
  refine (sSeq_nx (e := [.val Y, .val (.int r), .val (.int c), .val X, .val (.int n), .val (.int R), .val (.int C), .val (.int H), .val (.int d0), .un]) (by rw [hd0]; exact sSet_ev (e2_ev rfl (e2_ev rfl rfl (modD_int (by decide))) (addD_int _ _)))).trans ?_
  refine (sSeq_nx (e := [.val Y, .val (.int r), .val (.int c), .val X, .val (.int n), .val (.int R), .val (.int C), .val (.int H), .val (.int d0), .val (.int a0)]) (by rw [ha0]; exact sSet_ev (e2_ev rfl (e2_ev (e2_ev rfl rfl (divD_int ⟨by decide, by decide⟩)) rfl (modD_int (by decide))) (addD_int _ _)))).trans ?_
  rw [sSeq_nx hd1, sSeq_nx ha1]
  exact sRet_ev (by rfl)
structure LCell where
  r : Int
  c : Int
  h : Int
  w : Int
  ws : List Str
abbrev cellD (x : LCell) : PyData := .tuple [.int x.r, .int x.c, .int x.h, .int x.w, .tuple (x.ws.map .str)]
structure CellOk (R C : Int) (x : LCell) : Prop where
  r : 0 ≤ x.r
  c : 0 ≤ x.c
  h : 1 ≤ x.h
  w : 1 ≤ x.w
  rh : x.r + x.h ≤ R
  cw : x.c + x.w ≤ C
  l : x.ws.length ≤ 4
  p : ∀ w ∈ x.ws, w ∈ pool4
  /-- no more words than three rows of text and two lines between give room for -/
  f : (x.ws.length : Int) ≤ 3 * x.h - 1
theorem dr_ix {ds : List Int} {i : Int} (h : 0 ≤ i ∧ i < ds.length) : atI (ds.map PyData.int) i = some (.int (ds.getD i.toNat 0)) := by
  have h3 : i.toNat < ds.length := by omega
  have := atI_map PyData.int ds i.toNat (ds.getD i.toNat 0) (by simp [List.getD, h3])
  rw [Int.toNat_of_nonneg h.1] at this
  exact this
theorem kcells_ev (ds : List Int) (hl : ds.length = 40) (R C H : Int) (hR : 1 ≤ R ∧ R ≤ 3) (hC : 1 ≤ C ∧ C ≤ 3) (hH : H ≤ R) :
    ∃ cs : List LCell, g_Lcells [.tuple [.int R, .int C, .int H], .list (ds.map .int)] = some (.tuple (cs.map cellD)) ∧ cs.length ≤ 9 ∧ ∀ x ∈ cs, CellOk R C x := by
  obtain ⟨X, hX⟩ : ∃ X : PyData, X = .tuple [.int R, .int C, .int H] := ⟨_, rfl⟩
  obtain ⟨Y, hY⟩ : ∃ Y : PyData, Y = .list (ds.map .int) := ⟨_, rfl⟩
  rw [← hX, ← hY]
  have inner : ∀ (r : Int) (ps : List (Int × Int)) (cs : List LCell) (y5 y6 y7 y8 y9 : Sl), 0 ≤ r ∧ r < R → ps.length ≤ 1000 → cs.length ≤ 9 → (∀ x ∈ cs, CellOk R C x) →
      ∃ (ps' : List (Int × Int)) (cs' : List LCell) (z5 z6 z7 z8 z9 : Sl), b_Lcells_3 [.val X, .val Y, .own (ps.map pr), .own (cs.map cellD), .val (.int r), y5, y6, y7, y8, y9] = .nx [.val X, .val Y, .own (ps'.map pr), .own (cs'.map cellD), .val (.int r), z5, z6, z7, z8, z9] ∧ ps'.length ≤ ps.length + 12 ∧ cs'.length ≤ cs.length + 3 ∧ (∀ x ∈ cs', CellOk R C x) := by
    intro r ps cs y5 y6 y7 y8 y9 hr hps hcs hok
    have hrg := iR1_ev (fa := aCons (e2 ixG (eVar 0) (eC (.int 1))) aNil) (env := [.val X, .val Y, .own (ps.map pr), .own (cs.map cellD), .val (.int r), y5, y6, y7, y8, y9]) (N := C) (by rw [hX]; rfl) (by omega) (by omega)
    have hlp := loop_rng (g := gVal 5) (b := b_Lcells_2) (lo := 0) (n := C.toNat) (e := [.val X, .val Y, .own (ps.map pr), .own (cs.map cellD), .val (.int r), y5, y6, y7, y8, y9])
      (fun j e => ∃ (ps' : List (Int × Int)) (cs' : List LCell) (z5 z6 z7 z8 z9 : Sl), ps'.length ≤ ps.length + 4 * j ∧ cs'.length ≤ cs.length + j ∧ (∀ x ∈ cs', CellOk R C x) ∧ e = [.val X, .val Y, .own (ps'.map pr), .own (cs'.map cellD), .val (.int r), z5, z6, z7, z8, z9]) (fun j e hj he => by
        obtain ⟨ps', cs', z5, z6, z7, z8, z9, q1, q2, q3, rfl⟩ := he
        obtain ⟨c, hc⟩ : ∃ c : Int, c = 0 + (j : Nat) := ⟨_, rfl⟩
        rw [← hc]
        have hj3 : j < 3 := by omega
        refine ⟨[.val X, .val Y, .own (ps'.map pr), .own (cs'.map cellD), .val (.int r), .val (.int c), z6, z7, z8, z9], rfl, ?_⟩
        have ht : t1 (e2 notInT (eTup (aCons (eVar 4) (aCons (eVar 5) aNil))) (eBor 2)) [.val X, .val Y, .own (ps'.map pr), .own (cs'.map cellD), .val (.int r), .val (.int c), z6, z7, z8, z9] = some (!decide ((r, c) ∈ ps')) :=
          t1_ev (e2_ev rfl rfl (notInT_pr (r, c) ps'))
        by_cases y : (r, c) ∈ ps'
        · rw [decide_eq_true y] at ht
          exact ⟨_, .inl ((sIf_f ht).trans rfl), ps', cs', _, _, _, _, _, by omega, by omega, q3, rfl⟩
        · rw [decide_eq_false y] at ht
          obtain ⟨at_, hat⟩ : ∃ at_ : Int, at_ = 3 * r + c := ⟨_, rfl⟩
          have n1 := mod_lt (at_ * 5 + 1) 40 (by decide)
          have n2 := mod_lt (at_ * 7 + 3) 40 (by decide)
          obtain ⟨v1, hv1⟩ : ∃ v1 : Int, atI (ds.map PyData.int) ((at_ * 5 + 1) % 40) = some (.int v1) := ⟨_, dr_ix ⟨n1.1, by omega⟩⟩
          obtain ⟨v2, hv2⟩ : ∃ v2 : Int, atI (ds.map PyData.int) ((at_ * 7 + 3) % 40) = some (.int v2) := ⟨_, dr_ix ⟨n2.1, by omega⟩⟩
          obtain ⟨d, a, s1, s2, s3, s4, s5⟩ := kspan_ev ps' r c R C H (v1 / 3) hr (by omega) hH
          obtain ⟨ws, w1, w2, w3⟩ := kwords_ev v2
          have hm : 1 ≤ d * a ∧ d * a ≤ 4 := by
            rcases (by omega : d = 1 ∨ d = 2) with e | e <;> (subst e; omega)
          obtain ⟨N, hN⟩ : ∃ N : Int, N = d * a := ⟨_, rfl⟩
          rw [← hN] at hm
          have g6 : sSet 6 (e2 addD (e2 mulD (eC (.int 3)) (eVar 4)) (eVar 5)) [.val X, .val Y, .own (ps'.map pr), .own (cs'.map cellD), .val (.int r), .val (.int c), z6, z7, z8, z9] = .nx [.val X, .val Y, .own (ps'.map pr), .own (cs'.map cellD), .val (.int r), .val (.int c), .val (.int at_), z7, z8, z9] := by
            rw [hat]; exact sSet_ev (e2_ev (e2_ev rfl rfl (mulD_int (.inl (by decide)))) rfl (addD_int _ _))
          have g7 : sUnp (eN (eCall g_Lspan (aCons (eBor 2) (aCons (eVar 4) (aCons (eVar 5) (aCons (eVar 0) (aCons (e2 divD (e2 ixG (eVar 1) (e2 modD (e2 addD (e2 mulD (eVar 6) (eC (.int 5))) (eC (.int 1))) (eC (.int 40)))) (eC (.int 3))) aNil))))))) (gT [7, 8]) [.val X, .val Y, .own (ps'.map pr), .own (cs'.map cellD), .val (.int r), .val (.int c), .val (.int at_), z7, z8, z9] = .nx [.val X, .val Y, .own (ps'.map pr), .own (cs'.map cellD), .val (.int r), .val (.int c), .val (.int at_), .val (.int d), .val (.int a), z9] := by
            unfold sUnp
            rw [eN_ev (d := .tuple [.int d, .int a]) (eCall_ev (aCons_ev rfl (aCons_ev rfl (aCons_ev rfl (aCons_ev rfl (aCons_ev (e2_ev (e2_ev (x := .list (ds.map .int)) (by rw [hY]; rfl) (e2_ev (e2_ev (e2_ev rfl rfl (mulD_int (.inr (by decide)))) rfl (addD_int _ _)) rfl (modD_int (by decide))) hv1) rfl (divD_int ⟨by decide, by decide⟩)) aNil_ev))))) (by rw [hX]; exact s1)) rfl]
            rfl
          have hr2 := iR1_ev (fa := aCons (e2 mulD (eVar 7) (eVar 8)) aNil) (env := [.val X, .val Y, .own (ps'.map pr), .own (cs'.map cellD), .val (.int r), .val (.int c), .val (.int at_), .val (.int d), .val (.int a), z9]) (N := N) (aCons_ev (by rw [hN]; exact e2_ev rfl rfl (mulD_int (.inl (by omega)))) aNil_ev) (by omega) (by omega)
          have hl2 := loop_rng (g := gVal 9) (b := b_Lcells_1) (lo := 0) (n := N.toNat) (e := [.val X, .val Y, .own (ps'.map pr), .own (cs'.map cellD), .val (.int r), .val (.int c), .val (.int at_), .val (.int d), .val (.int a), z9])
            (fun j e => ∃ (qs : List (Int × Int)) (y : Sl), qs.length = ps'.length + j ∧ e = [.val X, .val Y, .own (qs.map pr), .own (cs'.map cellD), .val (.int r), .val (.int c), .val (.int at_), .val (.int d), .val (.int a), y]) (fun j e hj he => by
              obtain ⟨qs, y, hq, rfl⟩ := he
              obtain ⟨k, hk⟩ : ∃ k : Int, k = 0 + (j : Nat) := ⟨_, rfl⟩
              rw [← hk]
              refine ⟨[.val X, .val Y, .own (qs.map pr), .own (cs'.map cellD), .val (.int r), .val (.int c), .val (.int at_), .val (.int d), .val (.int a), .val (.int k)], rfl, [.val X, .val Y, .own ((qs ++ [(r + k / a, c + k % a)]).map pr), .own (cs'.map cellD), .val (.int r), .val (.int c), .val (.int at_), .val (.int d), .val (.int a), .val (.int k)], .inl ?_, qs ++ [(r + k / a, c + k % a)], _, by simp [hq]; omega, rfl⟩
              unfold b_Lcells_1
              rw [List.map_append]
              exact sApp_ev (i := 2) (eTup_ev (aCons_ev (e2_ev rfl (e2_ev rfl rfl (divD_int ⟨by omega, by omega⟩)) (addD_int _ _)) (aCons_ev (e2_ev rfl (e2_ev rfl rfl (modD_int (by omega))) (addD_int _ _)) aNil_ev)) (by simp)) rfl (by rw [List.length_map]; omega)) ⟨ps', z9, rfl, rfl⟩
          obtain ⟨e', k1, qs, y9', k2, rfl⟩ := hl2
          refine ⟨[.val X, .val Y, .own (qs.map pr), .own ((cs' ++ [(⟨r, c, d, a, ws⟩ : LCell)]).map cellD), .val (.int r), .val (.int c), .val (.int at_), .val (.int d), .val (.int a), y9'], .inl ?_, qs, cs' ++ [⟨r, c, d, a, ws⟩], _, _, _, _, _, by omega, by simp; omega, ?_, rfl⟩
          · unfold b_Lcells_2
            refine (sIf_t ht).trans ?_
            rw [sSeq_nx g6, sSeq_nx g7, sSeq_nx (sFor_ev hr2 k1), List.map_append]
            exact sApp_ev (i := 3) (eTup_ev (aCons_ev rfl (aCons_ev rfl (aCons_ev rfl (aCons_ev rfl (aCons_ev (eCall_ev (aCons_ev (e2_ev (x := .list (ds.map .int)) (by rw [hY]; rfl) (e2_ev (e2_ev (e2_ev rfl rfl (mulD_int (.inr (by decide)))) rfl (addD_int _ _)) rfl (modD_int (by decide))) hv2) aNil_ev) w1) aNil_ev))))) (by simp)) rfl (by rw [List.length_map]; omega)
          · intro x hx
            rcases List.mem_append.mp hx with hx | hx
            · exact q3 x hx
            · rw [List.mem_singleton.mp hx]
              exact ⟨hr.1, by show 0 ≤ c; omega, s2.1, s3.1, s4, s5, by show ws.length ≤ 4; omega, w3, by show (ws.length : Int) ≤ 3 * d - 1; omega⟩) ⟨ps, cs, _, _, _, _, _, by omega, by omega, hok, rfl⟩
    obtain ⟨e', h1, ps', cs', z5, z6, z7, z8, z9, q1, q2, q3, rfl⟩ := hlp
    exact ⟨ps', cs', z5, z6, z7, z8, z9, sFor_ev hrg h1, by omega, by omega, q3⟩
  have hrg := iR1_ev (fa := aCons (e2 ixG (eVar 0) (eC (.int 0))) aNil) (env := [.val X, .val Y, .own [], .own [], .un, .un, .un, .un, .un, .un]) (N := R) (by rw [hX]; rfl) (by omega) (by omega)
  have hlp := loop_rng (g := gVal 4) (b := b_Lcells_3) (lo := 0) (n := R.toNat) (e := [.val X, .val Y, .own [], .own [], .un, .un, .un, .un, .un, .un])
    (fun j e => ∃ (ps : List (Int × Int)) (cs : List LCell) (y4 y5 y6 y7 y8 y9 : Sl), ps.length ≤ 12 * j ∧ cs.length ≤ 3 * j ∧ (∀ x ∈ cs, CellOk R C x) ∧ e = [.val X, .val Y, .own (ps.map pr), .own (cs.map cellD), y4, y5, y6, y7, y8, y9]) (fun j e hj he => by
      obtain ⟨ps, cs, y4, y5, y6, y7, y8, y9, q1, q2, q3, rfl⟩ := he
      obtain ⟨r, hr⟩ : ∃ r : Int, r = 0 + (j : Nat) := ⟨_, rfl⟩
      rw [← hr]
      obtain ⟨ps', cs', z5, z6, z7, z8, z9, k0, k1, k2, k3⟩ := inner r ps cs y5 y6 y7 y8 y9 (by omega) (by omega) (by omega) q3
      exact ⟨[.val X, .val Y, .own (ps.map pr), .own (cs.map cellD), .val (.int r), y5, y6, y7, y8, y9], rfl, _, .inl k0, ps', cs', _, _, _, _, _, _, by omega, by omega, k3, rfl⟩) ⟨[], [], .un, .un, .un, .un, .un, .un, by simp, by simp, (fun x hx => by cases hx), rfl⟩
  obtain ⟨e', h1, ps, cs, y4, y5, y6, y7, y8, y9, q1, q2, q3, rfl⟩ := hlp
  refine ⟨cs, ?_, by omega, q3⟩
  refine gDef_ev' (fB := f_Lcells) [.val X, .val Y, .un, .un, .un, .un, .un, .un, .un, .un] rfl rfl ?_
  unfold f_Lcells
  refine (sSeq_nx (e := [.val X, .val Y, .own [], .un, .un, .un, .un, .un, .un, .un]) (by rfl)).trans ?_
  refine (sSeq_nx (e := [.val X, .val Y, .own [], .own [], .un, .un, .un, .un, .un, .un]) (by rfl)).trans ?_
  refine (sSeq_nx (sFor_ev hrg h1)).trans ?_
  exact sRet_ev (eTupO_ev rfl)

/-- a column: least, most, percent, align -/
structure LCol where
  least : Int
  most : Option Int
  pc : Option Int
  al : Str
def oD : Option Int → PyData
  | none => .none
  | some i => .int i
abbrev colD (x : LCol) : PyData := .tuple [.int x.least, oD x.most, oD x.pc, .str x.al]
structure ColOk (x : LCol) : Prop where
  least : 1 ≤ x.least ∧ x.least ≤ 3
  most : ∀ m, x.most = some m → x.least ≤ m ∧ m ≤ 6
  pc : ∀ p, x.pc = some p → 20 ≤ p ∧ p ≤ 50
  al : x.al ∈ (["left", "right", "center"] : List Str)
/-- a row: least, is_head, keeps -/
abbrev LRow := Int × Bool × Bool
abbrev rowD (x : LRow) : PyData := .tuple [.int x.1, .bool x.2.1, .bool x.2.2]
structure LTab where
  cols : List LCol
  rows : List LRow
  cells : List LCell
abbrev tabD (t : LTab) : PyData := .tuple [.tuple (t.cols.map colD), .tuple (t.rows.map rowD), .tuple (t.cells.map cellD)]
structure TabOk (t : LTab) : Prop where
  nc : 1 ≤ t.cols.length ∧ t.cols.length ≤ 3
  nr : 1 ≤ t.rows.length ∧ t.rows.length ≤ 3
  col : ∀ x ∈ t.cols, ColOk x
  row : ∀ x ∈ t.rows, 1 ≤ x.1 ∧ x.1 ≤ 2
  cl : ∀ x ∈ t.cells, CellOk t.rows.length t.cols.length x
  cn : t.cells.length ≤ 9
theorem opt_pick (env : En) (i : Nat) (fs : List (Option Int)) (k : Int) {f g : En → Option PyData} (hf : f env = some (.list (fs.map oD))) (hg : g env = some (.int k)) (h : 0 ≤ k ∧ k < fs.length) : ∃ o ∈ fs, e2 ixG f g env = some (oD o) := by
  obtain ⟨o, ho, ha⟩ := pick_ev oD fs k h
  exact ⟨o, ho, e2_ev hf hg ha⟩
theorem ktable_ev (ns : List Int) (st : Nat) : ∃ t : LTab, g_Ltable [.list (ns.map .int), .int (st : Nat), .int 3, .int 3] = some (tabD t) ∧ TabOk t := by
  obtain ⟨S, hS⟩ : ∃ S : PyData, S = .list (ns.map .int) := ⟨_, rfl⟩
  have hcell : ∀ k : Nat, g_Lcell [S, .int (k : Nat)] = some (.int (ns.getD k 0)) := fun k => by rw [hS]; exact cell_ev ns k
  rw [← hS]
  obtain ⟨ds, hd, hl, hb⟩ := draws_ev (ns.getD st 0) 40 (by decide)
  have m0 := mod_lt (ds.getD 0 0) 3 (by decide)
  have m1 := mod_lt (ds.getD 1 0) 3 (by decide)
  have m2 := mod_lt (ds.getD 2 0) 2 (by decide)
  obtain ⟨C, hC⟩ : ∃ C : Int, C = 1 + ds.getD 0 0 % 3 := ⟨_, rfl⟩
  obtain ⟨R, hR⟩ : ∃ R : Int, R = 1 + ds.getD 1 0 % 3 := ⟨_, rfl⟩
  obtain ⟨t, ht⟩ : ∃ t : Int, t = (st : Nat) := ⟨_, rfl⟩
  have hc1 := hcell st
  rw [← ht] at hc1 ⊢
  obtain ⟨Y, hY⟩ : ∃ Y : PyData, Y = .list (ds.map .int) := ⟨_, rfl⟩
  obtain ⟨H, hH1, hH2⟩ : ∃ H : Int, eIf (t1 (e2 eqD (e2 modD (e2 ixG (eVar 4) (eC (.int 3))) (eC (.int 3))) (eC (.int 0)))) (e2 modD (e2 ixG (eVar 4) (eC (.int 2))) (eC (.int 2))) (eC (.int 0)) [.val S, .val (.int t), .val (.int 3), .val (.int 3), .val Y, .un, .un, .un, .un, .un, .un, .un] = some (.int H) ∧ 0 ≤ H ∧ H ≤ 1 := by
    have hv : eVar 4 [.val S, .val (.int t), .val (.int 3), .val (.int 3), .val Y, .un, .un, .un, .un, .un, .un, .un] = some (.list (ds.map .int)) := by rw [hY]; rfl
    by_cases q : ds.getD 3 0 % 3 = 0
    · exact ⟨_, eIf_t (t1_ev (e2_ev (dr_mod' (ds := ds) hv (j := 3) (by omega) rfl (by decide)) rfl ((eqD_int _ _).trans (by rw [decide_eq_true q])))) (dr_mod' (ds := ds) hv (j := 2) (by omega) rfl (by decide)), by omega, by omega⟩
    · exact ⟨0, eIf_f (t1_ev (e2_ev (dr_mod' (ds := ds) hv (j := 3) (by omega) rfl (by decide)) rfl ((eqD_int _ _).trans (by rw [decide_eq_false q])))) rfl, by omega, by omega⟩
  obtain ⟨cs, k1, k2, k3⟩ := kcells_ev ds hl R C H (by omega) (by omega) (by omega)
  obtain ⟨X, hX⟩ : ∃ X : PyData, X = .tuple [.int R, .int C, .int H] := ⟨_, rfl⟩
  rw [← hX, ← hY] at k1
  have hrg := iR1_ev (fa := aCons (e2 ixG (eVar 5) (eC (.int 1))) aNil) (env := [.val S, .val (.int t), .val (.int 3), .val (.int 3), .val Y, .val X, .own [], .un, .un, .un, .un, .un]) (N := C) (by rw [hX]; rfl) (by omega) (by omega)
  have hlp := loop_rng (g := gVal 7) (b := b_Ltable_1) (lo := 0) (n := C.toNat) (e := [.val S, .val (.int t), .val (.int 3), .val (.int 3), .val Y, .val X, .own [], .un, .un, .un, .un, .un])
    (fun j e => ∃ (cl : List LCol) (y7 y8 y9 y10 : Sl), cl.length = j ∧ (∀ x ∈ cl, ColOk x) ∧ e = [.val S, .val (.int t), .val (.int 3), .val (.int 3), .val Y, .val X, .own (cl.map colD), y7, y8, y9, y10, .un]) (fun j e hj he => by
      obtain ⟨cl, y7, y8, y9, y10, q1, q2, rfl⟩ := he
      obtain ⟨k, hk⟩ : ∃ k : Int, k = 0 + (j : Nat) := ⟨_, rfl⟩
      rw [← hk]
      have hk2 : 0 ≤ k ∧ k < 3 := by omega
      refine ⟨[.val S, .val (.int t), .val (.int 3), .val (.int 3), .val Y, .val X, .own (cl.map colD), .val (.int k), y8, y9, y10, .un], rfl, ?_⟩
      have hdr : ∀ (o : Int) (m : Int) (z8 z9 z10 : Sl), 0 ≤ o ∧ o ≤ 37 → 0 < m → e2 modD (e2 ixG (eVar 4) (e2 addD (eC (.int o)) (eVar 7))) (eC (.int m)) [.val S, .val (.int t), .val (.int 3), .val (.int 3), .val Y, .val X, .own (cl.map colD), .val (.int k), z8, z9, z10, .un] = some (.int (ds.getD (o + k).toNat 0 % m)) := fun o m z8 z9 z10 ho hm => by
        rw [hY]
        exact e2_ev (e2_ev (x := .list (ds.map .int)) rfl (e2_ev rfl rfl (addD_int _ _)) (dr_ix ⟨by omega, by omega⟩)) rfl (modD_int hm)
      have n4 := mod_lt (ds.getD (4 + k).toNat 0) 3 (by decide)
      have n7 := mod_lt (ds.getD (7 + k).toNat 0) 4 (by decide)
      have n10 := mod_lt (ds.getD (10 + k).toNat 0) 3 (by decide)
      have n13 := mod_lt (ds.getD (13 + k).toNat 0) 6 (by decide)
      have n16 := mod_lt (ds.getD (16 + k).toNat 0) 3 (by decide)
      obtain ⟨l, hl8⟩ : ∃ l : Int, l = 1 + ds.getD (4 + k).toNat 0 % 3 := ⟨_, rfl⟩
      obtain ⟨mo, hmo, hmo2⟩ := opt_pick [.val S, .val (.int t), .val (.int 3), .val (.int 3), .val Y, .val X, .own (cl.map colD), .val (.int k), .val (.int l), y9, y10, .un] 0 [none, none, some (l + ds.getD (7 + k).toNat 0 % 4)] _
        (f := eL (fLst (aCons (eC .none) (aCons (eC .none) (aCons (e2 addD (eVar 8) (e2 modD (e2 ixG (eVar 4) (e2 addD (eC (.int 7)) (eVar 7))) (eC (.int 4)))) aNil)))))
        (eL_ev (fLst_ev (aCons_ev rfl (aCons_ev rfl (aCons_ev (e2_ev rfl (hdr 7 4 _ _ _ (by decide) (by decide)) (addD_int _ _)) aNil_ev))) (by simp))) (hdr 10 3 _ _ _ (by decide) (by decide)) ⟨n10.1, n10.2⟩
      obtain ⟨pc, hpc, hpc2⟩ := opt_pick [.val S, .val (.int t), .val (.int 3), .val (.int 3), .val Y, .val X, .own (cl.map colD), .val (.int k), .val (.int l), .val (oD mo), y10, .un] 0 [none, none, none, some 20, some 35, some 50] _
        (f := eL (fLst (aCons (eC .none) (aCons (eC .none) (aCons (eC .none) (aCons (eC (.int 20)) (aCons (eC (.int 35)) (aCons (eC (.int 50)) aNil))))))))
        rfl (hdr 13 6 _ _ _ (by decide) (by decide)) ⟨n13.1, n13.2⟩
      obtain ⟨al, hal, hal2⟩ := pick_ev PyData.str (["left", "right", "center"] : List Str) _ ⟨n16.1, n16.2⟩
      refine ⟨[.val S, .val (.int t), .val (.int 3), .val (.int 3), .val Y, .val X, .own ((cl ++ [(⟨l, mo, pc, al⟩ : LCol)]).map colD), .val (.int k), .val (.int l), .val (oD mo), .val (oD pc), .un], .inl ?_, cl ++ [⟨l, mo, pc, al⟩], _, _, _, _, by simp [q1], ?_, rfl⟩
      · unfold b_Ltable_1
        refine (sSeq_nx (e := [.val S, .val (.int t), .val (.int 3), .val (.int 3), .val Y, .val X, .own (cl.map colD), .val (.int k), .val (.int l), y9, y10, .un]) (by rw [hl8]; exact sSet_ev (e2_ev rfl (hdr 4 3 _ _ _ (by decide) (by decide)) (addD_int _ _)))).trans ?_
        refine (sSeq_nx (e := [.val S, .val (.int t), .val (.int 3), .val (.int 3), .val Y, .val X, .own (cl.map colD), .val (.int k), .val (.int l), .val (oD mo), y10, .un]) (sSet_ev hmo2)).trans ?_
        refine (sSeq_nx (e := [.val S, .val (.int t), .val (.int 3), .val (.int 3), .val Y, .val X, .own (cl.map colD), .val (.int k), .val (.int l), .val (oD mo), .val (oD pc), .un]) (sSet_ev hpc2)).trans ?_
        rw [List.map_append]
        exact sApp_ev (i := 6) (eTup_ev (aCons_ev rfl (aCons_ev rfl (aCons_ev rfl (aCons_ev (e2_ev (x := .list ((["left", "right", "center"] : List Str).map .str)) rfl (hdr 16 3 _ _ _ (by decide) (by decide)) hal2) aNil_ev)))) (by simp)) rfl (by rw [List.length_map]; omega)
      · intro x hx
        rcases List.mem_append.mp hx with hx | hx
        · exact q2 x hx
        · rw [List.mem_singleton.mp hx]
          refine ⟨⟨by show 1 ≤ l; omega, by show l ≤ 3; omega⟩, fun m hm => ?_, fun p hp => ?_, hal⟩
          · have hm : mo = some m := hm
            rw [hm] at hmo
            simp at hmo
            exact ⟨by show l ≤ m; omega, by omega⟩
          · have hp : pc = some p := hp
            rw [hp] at hpc
            simp at hpc
            omega) ⟨[], .un, .un, .un, .un, rfl, (fun x hx => by cases hx), rfl⟩
  obtain ⟨e', h1, cl, y7, y8, y9, y10, q1, q2, rfl⟩ := hlp
  have hrows : ∃ rs : List LRow, rs.length = R.toNat ∧ (∀ x ∈ rs, 1 ≤ x.1 ∧ x.1 ≤ 2) ∧ compF (gVal 7) tYes' c_Ltable_1 [.val S, .val (.int t), .val (.int 3), .val (.int 3), .val Y, .val X, .own (cl.map colD), .un, y8, y9, y10, .un] (rngD 0 R.toNat) = some (rs.map rowD) := by
    have aux : ∀ ks : List Nat, (∀ k ∈ ks, k < 3) → ∃ rs : List LRow, rs.length = ks.length ∧ (∀ x ∈ rs, 1 ≤ x.1 ∧ x.1 ≤ 2) ∧ compF (gVal 7) tYes' c_Ltable_1 [.val S, .val (.int t), .val (.int 3), .val (.int 3), .val Y, .val X, .own (cl.map colD), .un, y8, y9, y10, .un] (ks.map fun k => .int (0 + (k : Nat))) = some (rs.map rowD) := by
      intro ks
      induction ks with
      | nil => exact fun _ => ⟨[], rfl, (fun x hx => by cases hx), rfl⟩
      | cons j ks ih =>
        intro hks
        obtain ⟨rs, z0, z1, z2⟩ := ih fun k hk => hks k (List.mem_cons_of_mem _ hk)
        have hj := hks j List.mem_cons_self
        obtain ⟨k, hk⟩ : ∃ k : Int, k = 0 + (j : Nat) := ⟨_, rfl⟩
        have hdr : ∀ (o : Int) (m : Int), 0 ≤ o ∧ o ≤ 37 → 0 < m → e2 modD (e2 ixG (eVar 4) (e2 addD (eC (.int o)) (eVar 7))) (eC (.int m)) [.val S, .val (.int t), .val (.int 3), .val (.int 3), .val Y, .val X, .own (cl.map colD), .val (.int k), y8, y9, y10, .un] = some (.int (ds.getD (o + k).toNat 0 % m)) := fun o m ho hm => by
          rw [hY]
          exact e2_ev (e2_ev (x := .list (ds.map .int)) rfl (e2_ev rfl rfl (addD_int _ _)) (dr_ix ⟨by omega, by omega⟩)) rfl (modD_int hm)
        have n19 := mod_lt (ds.getD (19 + k).toNat 0) 2 (by decide)
        refine ⟨(1 + ds.getD (19 + k).toNat 0 % 2, decide (k < H), decide (ds.getD (22 + k).toNat 0 % 4 = 1)) :: rs, by simp [z0], fun x hx => ?_, ?_⟩
        · rcases List.mem_cons.mp hx with e | hx
          · rw [e]
            exact ⟨by show 1 ≤ 1 + ds.getD (19 + k).toNat 0 % 2; omega, by show 1 + ds.getD (19 + k).toNat 0 % 2 ≤ 2; omega⟩
          · exact z1 x hx
        · rw [List.map_cons, ← hk]
          have hce : c_Ltable_1 [.val S, .val (.int t), .val (.int 3), .val (.int 3), .val Y, .val X, .own (cl.map colD), .val (.int k), y8, y9, y10, .un] = some (rowD (1 + ds.getD (19 + k).toNat 0 % 2, decide (k < H), decide (ds.getD (22 + k).toNat 0 % 4 = 1))) :=
            eTup_ev (aCons_ev (e2_ev rfl (hdr 19 2 (by decide) (by decide)) (addD_int _ _)) (aCons_ev (e2_ev rfl (e2_ev (x := X) (y := .int 2) (d := .int H) rfl rfl (by rw [hX]; rfl)) (ltD_int _ _)) (aCons_ev (e2_ev (hdr 22 4 (by decide) (by decide)) rfl (eqD_int _ _)) aNil_ev))) (by simp)
          simp only [compF, gVal, List.set_cons_succ, List.set_cons_zero, tYes', hce]
          rw [z2]
          rfl
    obtain ⟨rs, z0, z1, z2⟩ := aux (List.range R.toNat) fun k hk => by have := List.mem_range.mp hk; omega
    exact ⟨rs, by rw [z0, List.length_range], z1, z2⟩
  obtain ⟨rs, r1, r2, r3⟩ := hrows
  have hRc : ((rs.length : Nat) : Int) = R := by omega
  have hCc : ((cl.length : Nat) : Int) = C := by omega
  refine ⟨⟨cl, rs, cs⟩, ?_, ⟨by show 1 ≤ cl.length ∧ cl.length ≤ 3; omega, by show 1 ≤ rs.length ∧ rs.length ≤ 3; omega, q2, r2, by show ∀ x ∈ cs, CellOk (rs.length : Nat) (cl.length : Nat) x; rw [hRc, hCc]; exact k3, k2⟩⟩
  refine gDef_ev' (fB := f_Ltable) [.val S, .val (.int t), .val (.int 3), .val (.int 3), .un, .un, .un, .un, .un, .un, .un, .un] rfl rfl ?_
  unfold f_Ltable
  refine (sSeq_nx (e := [.val S, .val (.int t), .val (.int 3), .val (.int 3), .val Y, .un, .un, .un, .un, .un, .un, .un]) (by rw [hY]; exact sSet_ev (eCall_ev (aCons_ev (eCall_ev (aCons_ev rfl (aCons_ev rfl aNil_ev)) hc1) (aCons_ev rfl aNil_ev)) hd))).trans ?_
  refine (sSeq_nx (e := [.val S, .val (.int t), .val (.int 3), .val (.int 3), .val Y, .val X, .un, .un, .un, .un, .un, .un]) ?_).trans ?_
  · have hv : eVar 4 [.val S, .val (.int t), .val (.int 3), .val (.int 3), .val Y, .un, .un, .un, .un, .un, .un, .un] = some (.list (ds.map .int)) := by rw [hY]; rfl
    rw [hX, hR, hC]
    exact sSet_ev (eTup_ev (aCons_ev (e2_ev rfl (e2_ev (dr_at (ds := ds) hv (j := 1) (by omega) rfl) rfl (modD_int (by decide))) (addD_int _ _)) (aCons_ev (e2_ev rfl (e2_ev (dr_at (ds := ds) hv (j := 0) (by omega) rfl) rfl (modD_int (by decide))) (addD_int _ _)) (aCons_ev hH1 aNil_ev))) (by simp))
  refine (sSeq_nx (e := [.val S, .val (.int t), .val (.int 3), .val (.int 3), .val Y, .val X, .own [], .un, .un, .un, .un, .un]) (by rfl)).trans ?_
  refine (sSeq_nx (sFor_ev hrg h1)).trans ?_
  refine (sSeq_nx (e := [.val S, .val (.int t), .val (.int 3), .val (.int 3), .val Y, .val X, .own (cl.map colD), y7, y8, y9, y10, .val (.list (rs.map rowD))]) (sSet_ev (eL_ev (fCmp_ev (iR1_ev (N := R) (aCons_ev (by rw [hX]; rfl) aNil_ev) (by omega) (by omega)) r3 (by rw [List.length_map]; omega))))).trans ?_
  exact sRet_ev (eTup_ev (aCons_ev (eTupO_ev rfl) (aCons_ev (eCall_ev (aCons_ev rfl aNil_ev) rfl) (aCons_ev (eCall_ev (aCons_ev rfl (aCons_ev rfl aNil_ev)) k1) aNil_ev))) (by simp))

/-! boundbook.constraints -/
abbrev conD (c : Con) : PyData := .tuple [.int (c.1 : Nat), .int (c.2.1 : Nat), .int c.2.2]
theorem eqv_ints : ∀ xs ys : List Int, PyData.eqvAll (xs.map PyData.int) (ys.map PyData.int) = decide (xs = ys)
  | [], [] => by simp [PyData.eqvAll]
  | [], y :: ys => by simp [PyData.eqvAll]
  | x :: xs, [] => by simp [PyData.eqvAll]
  | x :: xs, y :: ys => by
    simp only [List.map_cons, PyData.eqvAll, PyData.eqv, eqv_ints xs ys]
    by_cases h : x = y
    · subst h
      simp
    · simp [h]
theorem lay_ints : ∀ xs : List Int, PyData.canLayAll0 (xs.map PyData.int) = true ∧ PyData.depthAll (xs.map PyData.int) = 0
  | [] => by simp [PyData.canLayAll0, PyData.depthAll]
  | x :: xs => by
    obtain ⟨h1, h2⟩ := lay_ints xs
    simp [PyData.canLayAll0, PyData.canLay0, PyData.depthAll, PyData.depth, h1, h2]
theorem shaped_ints (xs : List Int) : SeqAt.shaped (.list (xs.map PyData.int)) = true ∧ SeqAt.shaped (.tuple (xs.map PyData.int)) = true := by
  obtain ⟨h1, h2⟩ := lay_ints xs
  unfold SeqAt.shaped
  simp [PyData.canLay0, h1, PyData.depth, h2]
theorem eqD_ints (xs ys : List Int) : eqD (.list (xs.map .int)) (.list (ys.map .int)) = some (.bool (decide (xs = ys))) := by
  unfold eqD
  simp only [(shaped_ints xs).1, (shaped_ints ys).1, Bool.and_self, if_true, PyData.eqv, eqv_ints]
theorem eqD_intT (xs ys : List Int) : eqD (.tuple (xs.map .int)) (.tuple (ys.map .int)) = some (.bool (decide (xs = ys))) := by
  unfold eqD
  simp only [(shaped_ints xs).2, (shaped_ints ys).2, Bool.and_self, if_true, PyData.eqv, eqv_ints]
theorem neD_intT (xs ys : List Int) : neD (.tuple (xs.map .int)) (.tuple (ys.map .int)) = some (.bool (!decide (xs = ys))) := by
  unfold neD
  simp only [(shaped_ints xs).2, (shaped_ints ys).2, Bool.and_self, if_true, PyData.eqv, eqv_ints]
theorem ixN_nat {n j : Nat} (h : j < n) : ixN n (j : Int) = some j := by
  unfold ixN
  rw [if_pos (by omega), if_pos (by omega)]
  congr 1
theorem raised_loop (a0 a1 : Sl) : ∀ (cs : List Con) (h : List Int) (y3 y4 y5 : Sl), Ix cs h.length → ∃ z3 z4 z5, loopF (gT [3, 4, 5]) b_raised_1 (cs.map conD) [a0, a1, .own (h.map .int), y3, y4, y5] = .nx [a0, a1, .own ((rz cs h).map .int), z3, z4, z5]
  | [], h, y3, y4, y5, _ => ⟨y3, y4, y5, rfl⟩
  | c :: cs, h, y3, y4, y5, hi => by
    obtain ⟨h1, h2⟩ := hi c List.mem_cons_self
    have hb : b_raised_1 [a0, a1, .own (h.map .int), .val (.int (c.1 : Nat)), .val (.int (c.2.1 : Nat)), .val (.int c.2.2)] = .nx [a0, a1, .own ((rz1 h c).map .int), .val (.int (c.1 : Nat)), .val (.int (c.2.1 : Nat)), .val (.int c.2.2)] := by
      have k1 := atI_map PyData.int h c.1 (h.getD c.1 0) (by simp [List.getD, h1])
      have k2 := atI_map PyData.int h c.2.1 (h.getD c.2.1 0) (by simp [List.getD, h2])
      have hs : e2 addD (eIxO 2 (eVar 3)) (eVar 5) [a0, a1, .own (h.map .int), .val (.int (c.1 : Nat)), .val (.int (c.2.1 : Nat)), .val (.int c.2.2)] = some (.int (h.getD c.1 0 + c.2.2)) := e2_ev (eIxO_ev rfl rfl k1) rfl (addD_int _ _)
      have ht := t1_ev (e2_ev (eIxO_ev (i := 2) (g := eVar 4) (env := [a0, a1, .own (h.map .int), .val (.int (c.1 : Nat)), .val (.int (c.2.1 : Nat)), .val (.int c.2.2)]) rfl rfl k2) hs (ltD_int _ _))
      unfold b_raised_1 rz1
      by_cases q : h.getD c.2.1 0 < h.getD c.1 0 + c.2.2
      · rw [decide_eq_true q] at ht
        rw [if_pos q]
        refine (sIf_t ht).trans ?_
        unfold sPut
        rw [hs]
        show (match ixD (h.map PyData.int).length (.int (c.2.1 : Nat)) with | some j => _ | none => _) = _
        rw [show ixD (h.map PyData.int).length (.int (c.2.1 : Nat)) = some c.2.1 from ixN_nat (by rw [List.length_map]; exact h2)]
        show Out.nx [a0, a1, .own ((h.map PyData.int).set c.2.1 _), _, _, _] = _
        rw [← List.map_set]
      · rw [decide_eq_false q] at ht
        rw [if_neg q]
        exact (sIf_f ht).trans rfl
    obtain ⟨z3, z4, z5, ih⟩ := raised_loop a0 a1 cs (rz1 h c) (.val (.int (c.1 : Nat))) (.val (.int (c.2.1 : Nat))) (.val (.int c.2.2)) (fun d hd => by rw [rz1_len]; exact hi d (List.mem_cons_of_mem _ hd))
    refine ⟨z3, z4, z5, ?_⟩
    rw [List.map_cons]
    show loopF (gT [3, 4, 5]) b_raised_1 (.tuple [.int (c.1 : Nat), .int (c.2.1 : Nat), .int c.2.2] :: cs.map conD) _ = _
    simp only [loopF, gT, gMany, gVal, List.set_cons_succ, List.set_cons_zero, hb]
    exact ih
theorem raised_ev (p : List Int) (cs : List Con) (hi : Ix cs p.length) (hl : p.length ≤ 1000) : g_raised [.list (p.map .int), .list (cs.map conD)] = some (.list ((rz cs p).map .int)) := by
  obtain ⟨z3, z4, z5, h⟩ := raised_loop (.val (.list (p.map .int))) (.val (.list (cs.map conD))) cs p .un .un .un hi
  refine gDef_ev' (fB := f_raised) [.val (.list (p.map .int)), .val (.list (cs.map conD)), .un, .un, .un, .un] rfl rfl ?_
  unfold f_raised
  refine (sSeq_nx (e := [.val (.list (p.map .int)), .val (.list (cs.map conD)), .own (p.map .int), .un, .un, .un]) (by rfl)).trans ?_
  exact (sSeq_nx (sFor_ev (ds := cs.map conD) (by rfl) h)).trans rfl
theorem lp_loop (cs : List Con) (N : Nat) (hN : 0 < N) (hN2 : N ≤ 1000) (hi : Ix cs N) (a0 : Sl) : ∀ (ds : List PyData) (p : List Int) (y3 y4 : Sl), p.length = N →
    (match lp cs ds.length p with
    | some m => loopF (gVal 3) b_least_positions_1 ds [a0, .val (.list (cs.map conD)), .val (.list (p.map .int)), y3, y4] = .rt (.list (m.map .int))
    | none => (∃ e, loopF (gVal 3) b_least_positions_1 ds [a0, .val (.list (cs.map conD)), .val (.list (p.map .int)), y3, y4] = .nx e) ∨ loopF (gVal 3) b_least_positions_1 ds [a0, .val (.list (cs.map conD)), .val (.list (p.map .int)), y3, y4] = .rt .none)
  | [], p, y3, y4, hl => .inl ⟨_, rfl⟩
  | d :: ds, p, y3, y4, hl => by
    have hi' : Ix cs p.length := by rw [hl]; exact hi
    have s1 : sSet 4 (eCall g_raised (aCons (eVar 2) (aCons (eVar 1) aNil))) [a0, .val (.list (cs.map conD)), .val (.list (p.map .int)), .val d, y4] = .nx [a0, .val (.list (cs.map conD)), .val (.list (p.map .int)), .val d, .val (.list ((rz cs p).map .int))] :=
      sSet_ev (eCall_ev (aCons_ev rfl (aCons_ev rfl aNil_ev)) (raised_ev p cs hi' (by omega)))
    have t1' : t1 (e2 eqD (eVar 4) (eVar 2)) [a0, .val (.list (cs.map conD)), .val (.list (p.map .int)), .val d, .val (.list ((rz cs p).map .int))] = some (decide (rz cs p = p)) := t1_ev (e2_ev rfl rfl (eqD_ints _ _))
    have t2' : t1 (e2 gtD (e2 ixG (eVar 4) (eC (.int 0))) (eC (.int 0))) [a0, .val (.list (cs.map conD)), .val (.list (p.map .int)), .val d, .val (.list ((rz cs p).map .int))] = some (decide (0 < (rz cs p).getD 0 0)) := by
      have e1 := atI_map PyData.int (rz cs p) 0 ((rz cs p).getD 0 0) (by
        have : 0 < (rz cs p).length := by rw [rz_len, hl]; exact hN
        simp [List.getD, this])
      exact t1_ev (e2_ev (e2_ev rfl rfl e1) rfl (gtD_int _ _))
    rw [List.length_cons]
    unfold lp
    by_cases q : rz cs p = p
    · rw [decide_eq_true q] at t1'
      rw [if_pos q]
      have hb : b_least_positions_1 [a0, .val (.list (cs.map conD)), .val (.list (p.map .int)), .val d, y4] = .rt (.list (p.map .int)) := by
        unfold b_least_positions_1
        exact (sSeq_nx s1).trans (sSeq_rt ((sIf_t t1').trans rfl))
      simp only [loopF, gVal, List.set_cons_succ, List.set_cons_zero, hb]
    · rw [decide_eq_false q] at t1'
      rw [if_neg q]
      by_cases z : 0 < (rz cs p).getD 0 0
      · rw [decide_eq_true z] at t2'
        rw [if_pos z]
        have hb : b_least_positions_1 [a0, .val (.list (cs.map conD)), .val (.list (p.map .int)), .val d, y4] = .rt .none := by
          unfold b_least_positions_1
          exact (sSeq_nx s1).trans ((sSeq_nx ((sIf_f t1').trans rfl)).trans (sSeq_rt ((sIf_t t2').trans rfl)))
        refine .inr ?_
        simp only [loopF, gVal, List.set_cons_succ, List.set_cons_zero, hb]
      · rw [decide_eq_false z] at t2'
        rw [if_neg z]
        have hb : b_least_positions_1 [a0, .val (.list (cs.map conD)), .val (.list (p.map .int)), .val d, y4] = .nx [a0, .val (.list (cs.map conD)), .val (.list ((rz cs p).map .int)), .val d, .val (.list ((rz cs p).map .int))] := by
          unfold b_least_positions_1
          exact (sSeq_nx s1).trans ((sSeq_nx ((sIf_f t1').trans rfl)).trans ((sSeq_nx ((sIf_f t2').trans rfl)).trans rfl))
        have ih := lp_loop cs N hN hN2 hi a0 ds (rz cs p) (.val d) (.val (.list ((rz cs p).map .int))) (by rw [rz_len, hl])
        have hstep : loopF (gVal 3) b_least_positions_1 (d :: ds) [a0, .val (.list (cs.map conD)), .val (.list (p.map .int)), y3, y4] = loopF (gVal 3) b_least_positions_1 ds [a0, .val (.list (cs.map conD)), .val (.list ((rz cs p).map .int)), .val d, .val (.list ((rz cs p).map .int))] := by
          simp only [loopF, gVal, List.set_cons_succ, List.set_cons_zero, hb]
        rw [hstep]
        exact ih
theorem lp_ev (cs : List Con) (N : Nat) (hN : 0 < N) (hN2 : N ≤ 1000) (hi : Ix cs N) : g_least_positions [.int (N : Nat), .list (cs.map conD)] = some (match lp cs N (zs N) with
    | some m => .list (m.map .int)
    | none => .none) := by
  have hl := lp_loop cs N hN hN2 hi (.val (.int (N : Nat))) (rngD 0 N) (zs N) .un .un (by simp [zs])
  rw [rng_len] at hl
  have hr := iR1_ev (fa := aCons (eVar 0) aNil) (env := [.val (.int (N : Nat)), .val (.list (cs.map conD)), .val (.list ((zs N).map .int)), .un, .un]) (N := (N : Nat)) rfl (by omega) (by omega)
  rw [Int.toNat_natCast] at hr
  refine gDef_ev' (fB := f_least_positions) [.val (.int (N : Nat)), .val (.list (cs.map conD)), .un, .un, .un] rfl rfl ?_
  unfold f_least_positions
  refine (sSeq_nx (e := [.val (.int (N : Nat)), .val (.list (cs.map conD)), .val (.list ((zs N).map .int)), .un, .un]) (sSet_ev (eL_ev ?_))).trans ?_
  · refine (fRep_ev (ds := [.int 0]) (k := (N : Nat)) (by rfl) (by rfl) (by omega) (by rw [Int.toNat_natCast]; show 1 * N ≤ _; omega)).trans ?_
    rw [Int.toNat_natCast, rep_flat]
    unfold zs
    rw [List.map_replicate]
  · cases hz : lp cs N (zs N) with
    | some m =>
      rw [hz] at hl
      exact sSeq_rt (sFor_ev hr hl)
    | none =>
      rw [hz] at hl
      rcases hl with ⟨e, hl⟩ | hl
      · exact (sSeq_nx (sFor_ev hr hl)).trans rfl
      · exact sSeq_rt (sFor_ev hr hl)

abbrev tws (ws : List Str) : List PyData := ws.map PyData.str
def lg (ws : List Str) : Int := match ws.map (fun w => (w.length : Int)) with
  | [] => 0
  | n :: ns => mxI n ns
theorem longest_ev (ws : List Str) (h : ∀ w ∈ ws, w.length ≤ 8) (hl : ws.length ≤ 1000) : g_longest [.tuple (tws ws)] = some (.int (lg ws)) := by
  have h1 : compF (gVal 1) tYes' c_longest_1 [.val (.tuple (tws ws)), .un] (ws.map PyData.str) = some (ws.map fun w => .int (w.length : Int)) := by
    refine compF_mapS fun w hw => ⟨[.val (.tuple (tws ws)), .val (.str w)], rfl, ?_⟩
    have h8 := h w hw
    simp [c_longest_1, eCall, aCons, aNil, eVar, lenA, show w.length ≤ 1000000 by omega]
  have h2 : fCmp [1] (iSeq (eVar 0)) (gVal 1) tYes' c_longest_1 [.val (.tuple (tws ws)), .un] = some (ws.map fun w => .int (w.length : Int)) := by
    simp only [fCmp, iSeq, eVar, List.getElem?_cons_zero, wipeE, List.set_cons_succ, List.set_cons_zero]
    rw [h1]
    simp [show ws.length ≤ 1000000 by omega]
  have h3 : intsD (ws.map fun w => PyData.int (w.length : Int)) = some (ws.map fun w => (w.length : Int)) := by
    have := intsD_map (ws.map fun w => (w.length : Int))
    rw [List.map_map] at this
    exact this
  show outD (f_longest [.val (.tuple (tws ws)), .un]) = _
  simp only [f_longest, sRet, eMxD, eL, h2, Option.map_some, h3, eC, outD, lg]
  cases ws with
  | nil => rfl
  | cons w ws => rfl
theorem length_of_ev (ws : List Str) (h : ∀ w ∈ ws, w.length ≤ 8) (hl : ws.length ≤ 1000) : g_length_of [.tuple (tws ws)] = some (.int (jl ws)) := by
  show outD (f_length_of [.val (.tuple (tws ws))]) = _
  have h1 : eJoin (eC (.str " ")) (eVar 0) [.val (.tuple (tws ws))] = some (.str (Txt.join " " ws)) := by
    have hb : (ws.map (·.length)).sum + ws.length * (" " : Str).length ≤ 1000000 := by
      rw [spc_len]
      have : ∀ l : List Str, (∀ w ∈ l, w.length ≤ 8) → (l.map (·.length)).sum ≤ 8 * l.length := by
        intro l
        induction l with
        | nil => intro _; simp
        | cons x l ih =>
          intro hh
          have h1 := hh x List.mem_cons_self
          have h2 := ih fun w hw => hh w (List.mem_cons_of_mem _ hw)
          simp only [List.map_cons, List.sum_cons, List.length_cons]
          omega
      have := this ws h
      omega
    simp only [eJoin, e2, eC, eVar, List.getElem?_cons_zero, strsD_map, hb, if_true]
  have h2 : jl ws ≤ 1000000 := by
    have := jl_le ws h
    omega
  simp only [f_length_of, sRet, eCall, aCons, aNil, h1, lenA, outD]
  rw [if_pos (show (Txt.join " " ws).length ≤ 1000000 from h2)]
  rfl

/-! wrap -/
def step (W : Int) (s : List (List Str) × List Str) (w : Str) : List (List Str) × List Str := if s.2 ≠ [] ∧ W < (jl s.2 : Int) + 1 + w.length then (s.1 ++ [s.2], [w]) else (s.1, s.2 ++ [w])
abbrev tls (ls : List (List Str)) : List PyData := ls.map fun l => .tuple (tws l)
theorem tws_app (l : List Str) (w : Str) : tws (l ++ [w]) = tws l ++ [.str w] := by simp [tws]
theorem tls_app (l : List (List Str)) (w : List Str) : tls (l ++ [w]) = tls l ++ [.tuple (tws w)] := by simp [tls]
theorem wrap_body (a : PyData) (W : Int) (s : List (List Str) × List Str) (w : Str) (h : ∀ w ∈ s.2, w.length ≤ 8) (hw : w.length ≤ 8) (h1 : s.1.length < 1000) (h2 : s.2.length < 1000) :
    b_wrap_1 [.val a, .val (.int W), .own (tls s.1), .val (.tuple (tws s.2)), .val (.str w)] = .nx [.val a, .val (.int W), .own (tls (step W s w).1), .val (.tuple (tws (step W s w).2)), .val (.str w)] := by
  obtain ⟨lines, line⟩ := s
  simp only at h h1 h2
  have hlen : w.length ≤ 1000000 := by omega
  have happ : addD (.tuple (tws line)) (.tuple [.str w]) = some (.tuple (tws (line ++ [w]))) := by
    rw [addD_tup (by simp [tws]; omega), tws_app]
  cases line with
  | nil =>
    have e : step W (lines, []) w = (lines, [w]) := by simp [step]
    rw [e]
    simp [b_wrap_1, sSeq, sIf, tAnd', tTr, eVar, truD, sNil, sSet, e2, eTup, aCons, aNil, addD]
  | cons x r =>
    have hlo := length_of_ev (x :: r) h (by omega)
    have hx : addD (.tuple (tws (x :: r))) (.tuple [.str w]) = some (.tuple (tws (x :: r ++ [w]))) := happ
    by_cases hc : W < (jl (x :: r) : Int) + 1 + w.length
    · have e : step W (lines, x :: r) w = (lines ++ [x :: r], [w]) := by simp [step, hc]
      rw [e]
      simp [b_wrap_1, sSeq, sIf, tAnd', tTr, eVar, truD, sNil, sSet, e2, eTup, aCons, aNil, t1, gtD, i2, eCall, eC, lenA, hlen, hc, sApp, addD]
      rw [show g_length_of [PyData.tuple (PyData.str x :: List.map PyData.str r)] = some (.int (jl (x :: r))) from hlo]
      simp [hc, show lines.length < 1000000 by omega]
    · have e : step W (lines, x :: r) w = (lines, x :: r ++ [w]) := by simp [step, hc]
      rw [e]
      simp [b_wrap_1, sSeq, sIf, tAnd', tTr, eVar, truD, sNil, sSet, e2, eTup, aCons, aNil, t1, gtD, i2, eCall, eC, lenA, hlen, hc, sApp]
      rw [show g_length_of [PyData.tuple (PyData.str x :: List.map PyData.str r)] = some (.int (jl (x :: r))) from hlo]
      simp [addD, hc, show r.length ≤ 999998 by simp at h2; omega]
theorem wrap_loop (a : PyData) (W : Int) : ∀ (ws : List Str) (s : List (List Str) × List Str) (x : Sl), (∀ w ∈ ws, w.length ≤ 8) → (∀ w ∈ s.2, w.length ≤ 8) → s.1.length + ws.length < 1000 → s.2.length + ws.length < 1000 →
    ∃ x', loopF (gVal 4) b_wrap_1 (tws ws) [.val a, .val (.int W), .own (tls s.1), .val (.tuple (tws s.2)), x] = .nx [.val a, .val (.int W), .own (tls (ws.foldl (step W) s).1), .val (.tuple (tws (ws.foldl (step W) s).2)), x']
  | [], s, x, _, _, _, _ => ⟨x, rfl⟩
  | w :: ws, s, x, h, h', h1, h2 => by
    have hw := h w List.mem_cons_self
    simp only [List.length_cons] at h1 h2
    have hb := wrap_body a W s w h' hw (by omega) (by omega)
    have hs : (∀ v ∈ (step W s w).2, v.length ≤ 8) ∧ (step W s w).1.length ≤ s.1.length + 1 ∧ (step W s w).2.length ≤ s.2.length + 1 := by
      unfold step
      split
      · refine ⟨fun v hv => ?_, ?_, ?_⟩
        · rw [List.mem_singleton.mp hv]; exact hw
        · simp
        · simp
      · refine ⟨fun v hv => ?_, ?_, ?_⟩
        · rcases List.mem_append.mp hv with hv | hv
          · exact h' v hv
          · rw [List.mem_singleton.mp hv]; exact hw
        · simp
        · simp
    obtain ⟨x', ih⟩ := wrap_loop a W ws (step W s w) (.val (.str w)) (fun v hv => h v (List.mem_cons_of_mem _ hv)) hs.1 (by omega) (by omega)
    refine ⟨x', ?_⟩
    show loopF (gVal 4) b_wrap_1 (.str w :: tws ws) _ = _
    simp only [loopF, gVal, List.set_cons_succ, List.set_cons_zero, hb]
    exact ih
def wrapM (W : Int) (ws : List Str) : List (List Str) := let s := ws.foldl (step W) ([], []); if s.2 = [] then s.1 else s.1 ++ [s.2]
theorem step_len (W : Int) : ∀ (ws : List Str) (s : List (List Str) × List Str), (ws.foldl (step W) s).1.length ≤ s.1.length + ws.length
  | [], s => Nat.le_refl _
  | w :: ws, s => by
    have ih := step_len W ws (step W s w)
    have : (step W s w).1.length ≤ s.1.length + 1 := by
      unfold step
      split <;> simp
    simp only [List.foldl_cons, List.length_cons]
    omega
theorem wrap_ev (ws : List Str) (W : Int) (h : ∀ w ∈ ws, w.length ≤ 8) (hl : ws.length ≤ 100) : g_wrap [.tuple (tws ws), .int W] = some (if W < lg ws then .none else .list (tls (wrapM W ws))) := by
  have hlg := longest_ev ws h (by omega)
  show outD (f_wrap [.val (.tuple (tws ws)), .val (.int W), .un, .un, .un]) = _
  by_cases hW : W < lg ws
  · simp [f_wrap, sSeq, sIf, t1, e2, eCall, aCons, aNil, eVar, hlg, gtD, i2, hW, sRet, eC, outD]
  · obtain ⟨x', hloop⟩ := wrap_loop (.tuple (tws ws)) W ws ([], []) .un h (fun w hw => by cases hw) (by simp; omega) (by simp; omega)
    have hsl := step_len W ws ([], [])
    simp only [List.length_nil, Nat.zero_add] at hsl
    simp only [f_wrap, sSeq, sIf, t1, e2, eCall, aCons, aNil, eVar, hlg, gtD, i2, hW, sRet, eC, outD, decide_false, sNil, sOwn, fLst, sSet, eTup, sFor, iSeq, List.getElem?_cons_zero, List.getElem?_cons_succ, List.set_cons_zero, List.set_cons_succ, List.length_nil, Nat.zero_le, if_true, if_false]
    rw [show (Sl.own ([] : List PyData)) = Sl.own (tls (([] : List (List Str)), ([] : List Str)).1) from rfl, show (Sl.val (PyData.tuple [])) = Sl.val (.tuple (tws (([] : List (List Str)), ([] : List Str)).2)) from rfl]
    rw [hloop]
    generalize hS : ws.foldl (step W) ([], []) = S at *
    obtain ⟨lines, line⟩ := S
    simp only [wrapM, hS]
    cases line with
    | nil => simp [tTr, eVar, truD, frz]
    | cons y r =>
      simp only at hsl
      simp [tTr, eVar, truD, frz, sApp, show lines.length < 1000000 by omega]

/-! the mathematics -/
def hdl : List Str → Int
  | [] => 0
  | w :: _ => w.length
def Good (W : Int) : List (List Str) → Prop
  | [] => True
  | [l] => l ≠ [] ∧ (jl l : Int) ≤ W
  | l :: m :: r => (l ≠ [] ∧ (jl l : Int) ≤ W) ∧ W < (jl l : Int) + 1 + hdl m ∧ Good W (m :: r)
theorem good_new {W : Int} {l : List Str} {w : Str} (h1 : W < (jl l : Int) + 1 + w.length) (h2 : (w.length : Int) ≤ W) : ∀ {L : List (List Str)}, Good W (L ++ [l]) → Good W (L ++ [l] ++ [[w]])
  | [], h => ⟨h, h1, by simp, by rw [jl_one]; exact h2⟩
  | [x], h => by
    obtain ⟨a, b, c⟩ := h
    exact ⟨a, b, c, h1, by simp, by rw [jl_one]; exact h2⟩
  | x :: y :: r, h => by
    obtain ⟨a, b, c⟩ := h
    exact ⟨a, b, good_new (L := y :: r) h1 h2 c⟩
theorem hdl_app {l : List Str} {w : Str} (h : l ≠ []) : hdl (l ++ [w]) = hdl l := by
  cases l with
  | nil => exact absurd rfl h
  | cons x r => rfl
theorem good_more {W : Int} {l : List Str} {w : Str} (h0 : l ≠ []) (h1 : (jl (l ++ [w]) : Int) ≤ W) : ∀ {L : List (List Str)}, Good W (L ++ [l]) → Good W (L ++ [l ++ [w]])
  | [], h => ⟨by simp, h1⟩
  | [x], h => by
    obtain ⟨a, b, c⟩ := h
    exact ⟨a, by rw [hdl_app h0]; exact b, by simp, h1⟩
  | x :: y :: r, h => by
    obtain ⟨a, b, c⟩ := h
    exact ⟨a, b, good_more (L := y :: r) h0 h1 c⟩
/-- the lines so far -/
def cur (s : List (List Str) × List Str) : List (List Str) := if s.2 = [] then s.1 else s.1 ++ [s.2]
theorem step_good {W : Int} {s : List (List Str) × List Str} {w : Str} (hw : (w.length : Int) ≤ W) (h0 : s.2 = [] → s.1 = []) (h : Good W (cur s)) : Good W (cur (step W s w)) ∧ (step W s w).2 ≠ [] ∧ (cur (step W s w)).flatten = (cur s).flatten ++ [w] := by
  obtain ⟨lines, line⟩ := s
  cases line with
  | nil =>
    have e := h0 rfl
    simp only at e
    subst e
    have e1 : step W ([], []) w = ([], [w]) := by simp [step]
    rw [e1]
    refine ⟨?_, by simp, by simp [cur]⟩
    show Good W (cur ([], [w]))
    simp only [cur]
    rw [if_neg (by simp)]
    exact ⟨by simp, by rw [jl_one]; exact hw⟩
  | cons x r =>
    have hc : cur (lines, x :: r) = lines ++ [x :: r] := by simp [cur]
    rw [hc] at h ⊢
    by_cases hq : W < (jl (x :: r) : Int) + 1 + w.length
    · have e1 : step W (lines, x :: r) w = (lines ++ [x :: r], [w]) := by simp [step, hq]
      rw [e1]
      have hc2 : cur (lines ++ [x :: r], [w]) = lines ++ [x :: r] ++ [[w]] := by simp [cur]
      rw [hc2]
      exact ⟨good_new hq hw h, by simp, by simp⟩
    · have e1 : step W (lines, x :: r) w = (lines, x :: r ++ [w]) := by simp [step, hq]
      rw [e1]
      have hc2 : cur (lines, x :: r ++ [w]) = lines ++ [x :: r ++ [w]] := by simp [cur]
      rw [hc2]
      refine ⟨good_more (by simp) ?_ h, by simp, by simp⟩
      rw [jl_snoc _ _ (by simp)]
      omega
theorem fold_good {W : Int} : ∀ (ws : List Str) (s : List (List Str) × List Str), (∀ w ∈ ws, (w.length : Int) ≤ W) → (s.2 = [] → s.1 = []) → Good W (cur s) → Good W (cur (ws.foldl (step W) s)) ∧ (cur (ws.foldl (step W) s)).flatten = (cur s).flatten ++ ws
  | [], s, _, _, h => ⟨h, by simp⟩
  | w :: ws, s, hw, h0, h => by
    obtain ⟨h1, h2, h3⟩ := step_good (hw w List.mem_cons_self) h0 h
    obtain ⟨h4, h5⟩ := fold_good ws (step W s w) (fun v hv => hw v (List.mem_cons_of_mem _ hv)) (fun e => absurd e h2) h1
    exact ⟨h4, by rw [List.foldl_cons, h5, h3]; simp⟩
theorem wrapM_good {W : Int} {ws : List Str} (hw : ∀ w ∈ ws, (w.length : Int) ≤ W) : Good W (wrapM W ws) ∧ (wrapM W ws).flatten = ws := by
  have h := fold_good ws ([], []) hw (fun _ => rfl) trivial
  have e : wrapM W ws = cur (ws.foldl (step W) ([], [])) := rfl
  rw [e]
  exact ⟨h.1, by rw [h.2]; simp [cur]⟩
theorem good_at {W : Int} : ∀ {L : List (List Str)} {k : Nat} {l : List Str}, Good W L → L[k]? = some l → (l ≠ [] ∧ (jl l : Int) ≤ W) ∧ ∀ m, L[k + 1]? = some m → W < (jl l : Int) + 1 + hdl m
  | [], _, _, _, e => by simp at e
  | [x], 0, l, h, e => by
    simp at e
    subst e
    exact ⟨h, fun m hm => by simp at hm⟩
  | [x], k + 1, l, h, e => by simp at e
  | x :: y :: r, 0, l, h, e => by
    simp at e
    subst e
    obtain ⟨a, b, c⟩ := h
    refine ⟨a, fun m hm => ?_⟩
    simp at hm
    subst hm
    exact b
  | x :: y :: r, k + 1, l, h, e => by
    obtain ⟨a, b, c⟩ := h
    exact good_at (L := y :: r) c (by simpa using e)
theorem mem_line {L : List (List Str)} {ws : List Str} (h : L.flatten = ws) {l : List Str} (hl : l ∈ L) : ∀ w ∈ l, w ∈ ws := fun w hw => by
  rw [← h]
  exact List.mem_flatten.mpr ⟨l, hl, hw⟩
theorem sub_len : ∀ {L : List (List Str)} {l : List Str}, l ∈ L → l.length ≤ L.flatten.length
  | [], _, h => by cases h
  | x :: r, l, h => by
    rw [List.flatten_cons, List.length_append]
    rcases List.mem_cons.mp h with h | h
    · rw [h]; omega
    · have := sub_len h
      omega
theorem lg_spec (ws : List Str) : (∀ w ∈ ws, (w.length : Int) ≤ lg ws) ∧ 0 ≤ lg ws := by
  cases ws with
  | nil => exact ⟨fun w h => (by cases h), Int.le_refl _⟩
  | cons x r =>
    obtain ⟨h1, h2⟩ := mxI_spec (r.map fun w => (w.length : Int)) x.length
    have e : lg (x :: r) = mxI x.length (r.map fun w => (w.length : Int)) := rfl
    rw [e]
    refine ⟨fun w hw => ?_, ?_⟩
    · refine h2 _ ?_
      rcases List.mem_cons.mp hw with h | h
      · rw [h]; exact List.mem_cons_self
      · exact List.mem_cons_of_mem _ (List.mem_map.mpr ⟨w, h, rfl⟩)
    · have := h2 x.length List.mem_cons_self
      omega
theorem count_ev (ws : List Str) (W : Int) (h : ∀ w ∈ ws, w.length ≤ 8) (hl : ws.length ≤ 100) : g_line_count [.tuple (tws ws), .int W] = some (if W < lg ws then .none else .int (wrapM W ws).length) := by
  have hw := wrap_ev ws W h hl
  have hc : ∀ d, g_wrap [.tuple (tws ws), .int W] = some d → sSet 2 (eCall g_wrap (aCons (eVar 0) (aCons (eVar 1) aNil))) [.val (.tuple (tws ws)), .val (.int W), .un] = .nx [.val (.tuple (tws ws)), .val (.int W), .val d] := fun d h => sSet_ev (eCall_ev (aCons_ev rfl (aCons_ev rfl aNil_ev)) h)
  by_cases c : W < lg ws
  · rw [if_pos c] at hw ⊢
    refine gDef_ev (fB := f_line_count) rfl (show f_line_count [.val (.tuple (tws ws)), .val (.int W), .un] = _ from ?_)
    unfold f_line_count
    rw [sSeq_nx (hc _ hw)]
    rfl
  · rw [if_neg c] at hw ⊢
    refine gDef_ev (fB := f_line_count) rfl (show f_line_count [.val (.tuple (tws ws)), .val (.int W), .un] = _ from ?_)
    unfold f_line_count
    rw [sSeq_nx (hc _ hw)]
    refine (sSeq_nx (e := [.val (.tuple (tws ws)), .val (.int W), .val (.list (tls (wrapM W ws)))]) (by rfl)).trans ?_
    refine sRet_ev (eCall_ev (aCons_ev rfl aNil_ev) ?_)
    show some (PyData.int (tls (wrapM W ws)).length) = _
    rw [List.length_map]

/-! divisions of words into lines; the greedy one is the best (pieces of k01) -/
abbrev Row := List (List Str)
def ext (w : Str) (r : Row) : List Row := match r.getLast? with
  | none => [[[w]]]
  | some l => [r.dropLast ++ [l ++ [w]], r ++ [[w]]]
def dvs (ws : List Str) : List Row := ws.foldl (fun rs w => rs.flatMap (ext w)) [[]]
theorem ext_nil (w : Str) : ext w [] = [[[w]]] := rfl
theorem ext_snoc (w : Str) (r : Row) (l : List Str) : ext w (r ++ [l]) = [r ++ [l ++ [w]], r ++ [l] ++ [[w]]] := by
  unfold ext
  rw [List.getLast?_append, List.dropLast_concat]
  rfl
theorem dvs_nil : dvs [] = [[]] := rfl
theorem dvs_snoc (ws : List Str) (w : Str) : dvs (ws ++ [w]) = (dvs ws).flatMap (ext w) := by
  unfold dvs
  rw [List.foldl_append]
  rfl
theorem row_cases (r : Row) : r = [] ∨ ∃ r' l, r = r' ++ [l] := by
  rcases List.eq_nil_or_concat r with h | ⟨r', l, h⟩
  · exact .inl h
  · exact .inr ⟨r', l, by rw [h, List.concat_eq_append]⟩
theorem ext_mem {w : Str} {r q : Row} (h : q ∈ ext w r) : (r = [] ∧ q = [[w]]) ∨ ∃ r' l, r = r' ++ [l] ∧ (q = r' ++ [l ++ [w]] ∨ q = r' ++ [l] ++ [[w]]) := by
  rcases row_cases r with rfl | ⟨r', l, rfl⟩
  · rw [ext_nil] at h
    exact .inl ⟨rfl, List.mem_singleton.mp h⟩
  · rw [ext_snoc] at h
    simp only [List.mem_cons, List.not_mem_nil, or_false] at h
    exact .inr ⟨r', l, rfl, h⟩
def lastJ (r : Row) : Nat := match r.getLast? with
  | none => 0
  | some l => jl l
theorem lastJ_snoc (r : Row) (l : List Str) : lastJ (r ++ [l]) = jl l := by
  unfold lastJ
  rw [List.getLast?_append]
  rfl
def Fits (W : Int) (r : Row) : Prop := ∀ l ∈ r, (jl l : Int) ≤ W
def Les (c r : Row) : Prop := c.length < r.length ∨ (c.length = r.length ∧ lastJ c ≤ lastJ r)
theorem cur_step (W : Int) (s : List (List Str) × List Str) (w : Str) (h0 : s.2 = [] → s.1 = []) : cur (step W s w) ∈ ext w (cur s) ∧ (step W s w).2 ≠ [] ∧
    ((cur s = [] ∧ cur (step W s w) = [[w]]) ∨ ∃ r' l, cur s = r' ++ [l] ∧ ((W < (jl l : Int) + 1 + w.length ∧ cur (step W s w) = r' ++ [l] ++ [[w]]) ∨ (¬ W < (jl l : Int) + 1 + w.length ∧ cur (step W s w) = r' ++ [l ++ [w]]))) := by
  obtain ⟨lines, line⟩ := s
  cases line with
  | nil =>
    have e := h0 rfl
    simp only at e
    subst e
    have e1 : step W ([], []) w = ([], [w]) := by simp [step]
    rw [e1]
    have c1 : cur (([] : List (List Str)), ([] : List Str)) = [] := by simp [cur]
    have c2 : cur (([] : List (List Str)), [w]) = [[w]] := by simp [cur]
    rw [c1, c2]
    exact ⟨by rw [ext_nil]; simp, by simp, .inl ⟨rfl, rfl⟩⟩
  | cons x r =>
    have hc : cur (lines, x :: r) = lines ++ [x :: r] := by simp [cur]
    rw [hc]
    by_cases hq : W < (jl (x :: r) : Int) + 1 + w.length
    · have e1 : step W (lines, x :: r) w = (lines ++ [x :: r], [w]) := by simp [step, hq]
      rw [e1]
      have hc2 : cur (lines ++ [x :: r], [w]) = lines ++ [x :: r] ++ [[w]] := by simp [cur]
      rw [hc2]
      exact ⟨by rw [ext_snoc]; simp, by simp, .inr ⟨lines, x :: r, rfl, .inl ⟨hq, rfl⟩⟩⟩
    · have e1 : step W (lines, x :: r) w = (lines, x :: r ++ [w]) := by simp [step, hq]
      rw [e1]
      have hc2 : cur (lines, x :: r ++ [w]) = lines ++ [x :: r ++ [w]] := by simp [cur]
      rw [hc2]
      exact ⟨by rw [ext_snoc]; simp, by simp, .inr ⟨lines, x :: r, rfl, .inr ⟨hq, rfl⟩⟩⟩
def st (W : Int) (ws : List Str) := ws.foldl (step W) (([] : List (List Str)), ([] : List Str))
theorem st_snoc (W : Int) (ws : List Str) (w : Str) : st W (ws ++ [w]) = step W (st W ws) w := by
  unfold st
  rw [List.foldl_append]
  rfl
theorem dvs_ne : ∀ (ws : List Str) (r : Row), r ∈ dvs ws → ∀ l ∈ r, l ≠ [] := by
  have aux : ∀ (n : Nat) (ws : List Str), ws.length = n → ∀ r ∈ dvs ws, ∀ l ∈ r, l ≠ [] := by
    intro n
    induction n with
    | zero =>
      intro ws h r hr l hl
      have e : ws = [] := List.eq_nil_of_length_eq_zero h
      subst e
      rw [dvs_nil, List.mem_singleton] at hr
      subst hr
      cases hl
    | succ n ih =>
      intro ws h q hq m hm
      rcases List.eq_nil_or_concat ws with e | ⟨us, w, e⟩
      · subst e; cases h
      · rw [List.concat_eq_append] at e
        subst e
        rw [dvs_snoc] at hq
        obtain ⟨r, hr, hqr⟩ := List.mem_flatMap.mp hq
        have f2 := ih us (by simp at h; exact h) r hr
        rcases ext_mem hqr with ⟨rfl, rfl⟩ | ⟨r', l, rfl, rfl | rfl⟩
        · rw [List.mem_singleton.mp hm]; simp
        · rcases List.mem_append.mp hm with hm | hm
          · exact f2 m (List.mem_append_left _ hm)
          · rw [List.mem_singleton.mp hm]; simp
        · rcases List.mem_append.mp hm with hm | hm
          · exact f2 m hm
          · rw [List.mem_singleton.mp hm]; simp
  exact fun ws r hr => aux ws.length ws rfl r hr
theorem greedy : ∀ (n : Nat) (ws : List Str) (W : Int), ws.length = n → ((st W ws).2 = [] → (st W ws).1 = []) ∧ cur (st W ws) ∈ dvs ws ∧ ∀ r ∈ dvs ws, Fits W r → Les (cur (st W ws)) r
  | 0, ws, W, h => by
    have e : ws = [] := List.eq_nil_of_length_eq_zero h
    subst e
    refine ⟨fun _ => rfl, by rw [dvs_nil]; exact List.mem_singleton.mpr rfl, fun r hr _ => ?_⟩
    rw [dvs_nil, List.mem_singleton] at hr
    subst hr
    exact .inr ⟨rfl, Nat.le_refl _⟩
  | n + 1, ws, W, h => by
    rcases List.eq_nil_or_concat ws with e | ⟨us, w, e⟩
    · subst e; cases h
    · rw [List.concat_eq_append] at e
      subst e
      have hu : us.length = n := by simp at h; exact h
      obtain ⟨i0, i1, i2⟩ := greedy n us W hu
      obtain ⟨c1, c2, c3⟩ := cur_step W (st W us) w i0
      rw [st_snoc, dvs_snoc]
      refine ⟨fun e => absurd e c2, List.mem_flatMap.mpr ⟨_, i1, c1⟩, fun q hq hfit => ?_⟩
      obtain ⟨r, hr, hqr⟩ := List.mem_flatMap.mp hq
      rcases ext_mem hqr with ⟨rfl, rfl⟩ | ⟨r', l, rfl, rfl | rfl⟩
      · -- the first word
        have hles := i2 [] hr (fun l hl => by cases hl)
        have hcu : cur (st W us) = [] := by
          rcases hles with z | ⟨z, _⟩
          · cases z
          · exact List.eq_nil_of_length_eq_zero z
        rcases c3 with ⟨_, z⟩ | ⟨r', l, z, _⟩
        · rw [z]
          exact .inr ⟨rfl, Nat.le_refl _⟩
        · rw [hcu] at z
          exact absurd z.symm (by simp)
      · have hl' : l ≠ [] := (dvs_ne us (r' ++ [l]) hr) l (by simp)
        have hjl : (jl (l ++ [w]) : Int) ≤ W := hfit _ (by simp)
        have hsn := jl_snoc l w hl'
        have hles := i2 (r' ++ [l]) hr fun m hm => by
          rcases List.mem_append.mp hm with hm | hm
          · exact hfit m (List.mem_append_left _ hm)
          · rw [List.mem_singleton.mp hm]; omega
        unfold Les at hles ⊢
        rw [lastJ_snoc] at hles ⊢
        rcases c3 with ⟨z1, z2⟩ | ⟨s', k, z1, z3⟩
        · rw [z2]
          have : lastJ [[w]] = jl [w] := lastJ_snoc [] [w]
          rw [this, jl_one]
          simp only [List.length_append, List.length_cons, List.length_nil] at hles ⊢
          omega
        · rw [z1, lastJ_snoc] at hles
          rcases z3 with ⟨z4, z5⟩ | ⟨z4, z5⟩
          · rw [z5, lastJ_snoc, jl_one]
            simp only [List.length_append, List.length_cons, List.length_nil] at hles ⊢
            omega
          · rw [z5, lastJ_snoc]
            simp only [List.length_append, List.length_cons, List.length_nil] at hles ⊢
            have hk : k ≠ [] := (dvs_ne us (cur (st W us)) i1) k (by rw [z1]; simp)
            rw [jl_snoc k w hk]
            omega
      · have hles := i2 (r' ++ [l]) hr fun m hm => hfit m (List.mem_append_left _ hm)
        unfold Les at hles ⊢
        rw [lastJ_snoc, jl_one]
        rw [lastJ_snoc] at hles
        rcases c3 with ⟨z1, z2⟩ | ⟨s', k, z1, z3⟩
        · rw [z2]
          simp only [List.length_append, List.length_cons, List.length_nil]
          omega
        · rw [z1, lastJ_snoc] at hles
          rcases z3 with ⟨z4, z5⟩ | ⟨z4, z5⟩
          · rw [z5, lastJ_snoc, jl_one]
            simp only [List.length_append, List.length_cons, List.length_nil] at hles ⊢
            omega
          · rw [z5]
            simp only [List.length_append, List.length_cons, List.length_nil] at hles ⊢
            omega
theorem whole_mem : ∀ (n : Nat) (ws : List Str), ws.length = n → ws ≠ [] → [ws] ∈ dvs ws
  | 0, ws, h, h0 => absurd (List.eq_nil_of_length_eq_zero h) h0
  | n + 1, ws, h, h0 => by
    rcases List.eq_nil_or_concat ws with e | ⟨us, w, e⟩
    · exact absurd e h0
    · rw [List.concat_eq_append] at e
      subst e
      rw [dvs_snoc]
      have hu : us.length = n := by simp at h; exact h
      by_cases hz : us = []
      · subst hz
        exact List.mem_flatMap.mpr ⟨[], by rw [dvs_nil]; simp, by rw [ext_nil]; simp⟩
      · exact List.mem_flatMap.mpr ⟨[us], whole_mem n us hu hz, by
          have := ext_snoc w [] us
          rw [List.nil_append] at this
          rw [this]
          simp⟩
abbrev cnt (W : Int) (ws : List Str) : Nat := (wrapM W ws).length
theorem wrap_st (W : Int) (ws : List Str) : wrapM W ws = cur (st W ws) := rfl
theorem cnt_best {W : Int} {ws : List Str} {r : Row} (h : r ∈ dvs ws) (hf : Fits W r) : cnt W ws ≤ r.length := by
  have := (greedy ws.length ws W rfl).2.2 r h hf
  unfold Les at this
  rw [← wrap_st] at this
  show (wrapM W ws).length ≤ r.length
  omega
theorem wrap_mem (W : Int) (ws : List Str) : wrapM W ws ∈ dvs ws := (greedy ws.length ws W rfl).2.1
theorem fits_of_good {W : Int} : ∀ {L : Row}, Good W L → Fits W L
  | [], _ => fun l hl => by cases hl
  | [x], h => fun l hl => by rw [List.mem_singleton.mp hl]; exact h.2
  | x :: y :: r, h => by
    obtain ⟨a, b, c⟩ := h
    intro l hl
    rcases List.mem_cons.mp hl with e | hl
    · rw [e]; exact a.2
    · exact fits_of_good (L := y :: r) c l hl
theorem wrap_fits {W : Int} {ws : List Str} (h : lg ws ≤ W) : Fits W (wrapM W ws) := fits_of_good (wrapM_good fun w hw => by
  have := (lg_spec ws).1 w hw
  omega).1
theorem lg_mem (ws : List Str) : lg ws = 0 ∨ ∃ w ∈ ws, lg ws = (w.length : Int) := by
  cases ws with
  | nil => exact .inl rfl
  | cons x r =>
    obtain ⟨h1, _⟩ := mxI_spec (r.map fun w => (w.length : Int)) x.length
    have e : lg (x :: r) = mxI x.length (r.map fun w => (w.length : Int)) := rfl
    rw [e]
    rcases List.mem_cons.mp h1 with h | h
    · exact .inr ⟨x, List.mem_cons_self, h⟩
    · obtain ⟨w, hw, e2⟩ := List.mem_map.mp h
      exact .inr ⟨w, List.mem_cons_of_mem _ hw, e2.symm⟩
theorem lg_fits {W : Int} {ws : List Str} {r : Row} (hr : r.flatten = ws) (hf : Fits W r) (h0 : 0 ≤ W) : lg ws ≤ W := by
  rcases lg_mem ws with h | ⟨w, hw, h⟩
  · omega
  · rw [← hr] at hw
    obtain ⟨l, hl, hwl⟩ := List.mem_flatten.mp hw
    have h1 := word_le_jl l w hwl
    have h2 := hf l hl
    omega
/-! narrowest and line_count -/
theorem cnt_mono {ws : List Str} {W X : Int} (h : lg ws ≤ W) (hx : W ≤ X) : cnt X ws ≤ cnt W ws :=
  cnt_best (wrap_mem W ws) fun l hl => by have := wrap_fits h l hl; omega
theorem jl_pos {l : List Str} (h : l ≠ []) (h1 : ∀ w ∈ l, 1 ≤ w.length) : 1 ≤ jl l := by
  cases l with
  | nil => exact absurd rfl h
  | cons x r =>
    have a := word_le_jl (x :: r) x List.mem_cons_self
    have b := h1 x List.mem_cons_self
    omega
def used (s : List (List Str) × List Str) : Nat := jl s.2
def lines (s : List (List Str) × List Str) : Nat := s.1.length + (if s.2 = [] then 0 else 1)
/-- the law's own count of lines -/
theorem lcount_loop (S : PyData) (W : Int) : ∀ (ws : List Str) (s : List (List Str) × List Str) (x : Sl), (∀ w ∈ ws, w.length ≤ 8) → (s.2 = [] → s.1 = []) → s.1.length + ws.length < 1000 → jl s.2 + 9 * ws.length < 100000 →
    (if (∃ w ∈ ws, W < (w.length : Int)) then loopF (gVal 4) b_Lline_count_1 (tws ws) [.val S, .val (.int W), .val (.int (lines s : Nat)), .val (.int (used s : Nat)), x] = .rt .none
     else ∃ y, loopF (gVal 4) b_Lline_count_1 (tws ws) [.val S, .val (.int W), .val (.int (lines s : Nat)), .val (.int (used s : Nat)), x] = .nx [.val S, .val (.int W), .val (.int (lines (ws.foldl (step W) s) : Nat)), .val (.int (used (ws.foldl (step W) s) : Nat)), y])
  | [], s, x, _, _, _, _ => by
    rw [if_neg (by rintro ⟨w, hw, _⟩; cases hw)]
    exact ⟨x, rfl⟩
  | w :: ws, s, x, h8, h0, hl, hj => by
    have hw := h8 w List.mem_cons_self
    have hlen : eCall lenA (aCons (eVar 4) aNil) [.val S, .val (.int W), .val (.int (lines s : Nat)), .val (.int (used s : Nat)), .val (.str w)] = some (.int (w.length : Nat)) := by
      show (if w.length ≤ 1000000 then some (PyData.int (w.length : Nat)) else none) = _
      rw [if_pos (by omega)]
    have ht := t1_ev (e2_ev hlen (g := eVar 1) rfl (gtD_int _ W))
    by_cases q : W < (w.length : Int)
    · rw [if_pos ⟨w, List.mem_cons_self, q⟩]
      rw [decide_eq_true q] at ht
      have hb : b_Lline_count_1 [.val S, .val (.int W), .val (.int (lines s : Nat)), .val (.int (used s : Nat)), .val (.str w)] = .rt .none := by
        unfold b_Lline_count_1
        exact sSeq_rt ((sIf_t ht).trans rfl)
      show loopF (gVal 4) b_Lline_count_1 (.str w :: tws ws) _ = _
      simp only [loopF, gVal, List.set_cons_succ, List.set_cons_zero, hb]
    · rw [decide_eq_false q] at ht
      have hb : b_Lline_count_1 [.val S, .val (.int W), .val (.int (lines s : Nat)), .val (.int (used s : Nat)), .val (.str w)] = .nx [.val S, .val (.int W), .val (.int (lines (step W s w) : Nat)), .val (.int (used (step W s w) : Nat)), .val (.str w)] := by
        unfold b_Lline_count_1
        refine (sSeq_nx ((sIf_f ht).trans rfl)).trans ?_
        have g1 : t1 (e2 gtD (eVar 2) (eC (.int 0))) [.val S, .val (.int W), .val (.int (lines s : Nat)), .val (.int (used s : Nat)), .val (.str w)] = some (decide (s.2 ≠ [])) := by
          refine t1_ev (e2_ev rfl rfl ((gtD_int _ _).trans ?_))
          congr 2
          refine decide_eq_decide.mpr ?_
          unfold lines
          by_cases z : s.2 = []
          · rw [if_pos z, h0 z]; simp [z]
          · rw [if_neg z]
            exact ⟨fun _ => z, fun _ => by omega⟩
        have hsum : e2 addD (e2 addD (eVar 3) (eC (.int 1))) (eCall lenA (aCons (eVar 4) aNil)) [.val S, .val (.int W), .val (.int (lines s : Nat)), .val (.int (used s : Nat)), .val (.str w)] = some (.int ((used s : Nat) + 1 + (w.length : Nat))) := e2_ev (e2_ev rfl rfl (addD_int _ _)) hlen (addD_int _ _)
        have g2 : t1 (e2 leD (e2 addD (e2 addD (eVar 3) (eC (.int 1))) (eCall lenA (aCons (eVar 4) aNil))) (eVar 1)) [.val S, .val (.int W), .val (.int (lines s : Nat)), .val (.int (used s : Nat)), .val (.str w)] = some (decide ((used s : Int) + 1 + w.length ≤ W)) := t1_ev (e2_ev hsum rfl (leD_int _ _))
        obtain ⟨s1, s2⟩ := s
        by_cases z : s2 = []
        · have e0 : s1 = [] := h0 z
          subst z
          subst e0
          have est : step W (([] : List (List Str)), ([] : List Str)) w = ([], [w]) := by simp [step]
          rw [show decide ((([] : List (List Str)), ([] : List Str)).2 ≠ []) = false from rfl] at g1
          rw [est]
          refine (sIf_f (and_f g1)).trans ?_
          refine (sSeq_nx (e := [.val S, .val (.int W), .val (.int 1), .val (.int (used (([] : List (List Str)), ([] : List Str)) : Nat)), .val (.str w)]) (by rfl)).trans ?_
          refine (sSet_ev (i := 3) (env := [.val S, .val (.int W), .val (.int 1), .val (.int (used (([] : List (List Str)), ([] : List Str)) : Nat)), .val (.str w)]) (d := .int (w.length : Nat)) ?_).trans ?_
          · show (if w.length ≤ 1000000 then some (PyData.int (w.length : Nat)) else none) = _
            rw [if_pos (by omega)]
          · show Out.nx [.val S, .val (.int W), .val (.int 1), .val (.int (w.length : Nat)), .val (.str w)] = Out.nx [.val S, .val (.int W), .val (.int ((lines (([] : List (List Str)), [w]) : Nat) : Int)), .val (.int ((used (([] : List (List Str)), [w]) : Nat) : Int)), .val (.str w)]
            rw [show used (([] : List (List Str)), [w]) = w.length from jl_one w]
            rfl
        · rw [decide_eq_true (show (s1, s2).2 ≠ [] from z)] at g1
          by_cases y : (used (s1, s2) : Int) + 1 + w.length ≤ W
          · rw [decide_eq_true y] at g2
            have est : step W (s1, s2) w = (s1, s2 ++ [w]) := by
              unfold step
              rw [if_neg]
              rintro ⟨_, a⟩
              unfold used at y
              dsimp only at a y
              omega
            rw [est]
            refine (sIf_t (and_t g1 g2)).trans ((sSet_ev hsum).trans ?_)
            have ll : lines (s1, s2 ++ [w]) = lines (s1, s2) := by
              unfold lines
              rw [if_neg (show ¬ (s1, s2).2 = [] from z), if_neg (by simp)]
            have uu : ((used (s1, s2 ++ [w]) : Nat) : Int) = (used (s1, s2) : Nat) + 1 + (w.length : Nat) := by
              unfold used
              dsimp only
              rw [jl_snoc s2 w z]
              omega
            rw [ll, uu]
            rfl
          · rw [decide_eq_false y] at g2
            have est : step W (s1, s2) w = (s1 ++ [s2], [w]) := by
              unfold step
              rw [if_pos]
              refine ⟨z, ?_⟩
              unfold used at y
              dsimp only at y ⊢
              omega
            rw [est]
            refine (sIf_f ((and_t g1 g2))).trans ?_
            have ll : ((lines (s1 ++ [s2], [w]) : Nat) : Int) = (lines (s1, s2) : Nat) + 1 := by
              unfold lines
              rw [if_neg (show ¬ (s1, s2).2 = [] from z), if_neg (by simp)]
              simp
            have uu : used (s1 ++ [s2], [w]) = w.length := jl_one w
            rw [ll, uu]
            refine (sSeq_nx (e := [.val S, .val (.int W), .val (.int ((lines (s1, s2) : Nat) + 1)), .val (.int (used (s1, s2) : Nat)), .val (.str w)]) (by rfl)).trans ?_
            refine (sSet_ev (i := 3) (env := [.val S, .val (.int W), .val (.int ((lines (s1, s2) : Nat) + 1)), .val (.int (used (s1, s2) : Nat)), .val (.str w)]) (d := .int (w.length : Nat)) ?_).trans rfl
            show (if w.length ≤ 1000000 then some (PyData.int (w.length : Nat)) else none) = _
            rw [if_pos (by omega)]
      have hst : ((step W s w).2 = [] → (step W s w).1 = []) ∧ (step W s w).1.length ≤ s.1.length + 1 ∧ jl (step W s w).2 ≤ jl s.2 + 9 := by
        unfold step
        split
        · refine ⟨(fun e => nomatch e), by simp, ?_⟩
          dsimp only
          rw [jl_one]
          omega
        · refine ⟨(fun e => by simp at e), by simp, ?_⟩
          dsimp only
          by_cases z : s.2 = []
          · rw [z, List.nil_append, jl_one]; omega
          · rw [jl_snoc _ _ z]; omega
      have ih := lcount_loop S W ws (step W s w) (.val (.str w)) (fun v hv => h8 v (List.mem_cons_of_mem _ hv)) hst.1 (by rw [List.length_cons] at hl; omega) (by rw [List.length_cons] at hj; omega)
      have hex : (∃ v ∈ w :: ws, W < (v.length : Int)) ↔ ∃ v ∈ ws, W < (v.length : Int) := by
        constructor
        · rintro ⟨v, hv, z⟩
          rcases List.mem_cons.mp hv with e | hv
          · subst e; exact absurd z q
          · exact ⟨v, hv, z⟩
        · rintro ⟨v, hv, z⟩
          exact ⟨v, List.mem_cons_of_mem _ hv, z⟩
      have hstep : loopF (gVal 4) b_Lline_count_1 (tws (w :: ws)) [.val S, .val (.int W), .val (.int (lines s : Nat)), .val (.int (used s : Nat)), x] = loopF (gVal 4) b_Lline_count_1 (tws ws) [.val S, .val (.int W), .val (.int (lines (step W s w) : Nat)), .val (.int (used (step W s w) : Nat)), .val (.str w)] := by
        show loopF (gVal 4) b_Lline_count_1 (.str w :: tws ws) _ = _
        simp only [loopF, gVal, List.set_cons_succ, List.set_cons_zero, hb]
      rw [hstep]
      by_cases z : ∃ v ∈ ws, W < (v.length : Int)
      · rw [if_pos z] at ih
        rw [if_pos (hex.mpr z)]
        exact ih
      · rw [if_neg z] at ih
        rw [if_neg (fun e => z (hex.mp e))]
        exact ih
theorem lcount_ev (ws : List Str) (W : Int) (h8 : ∀ w ∈ ws, w.length ≤ 8) (hl : ws.length ≤ 4) : g_Lline_count [.tuple (tws ws), .int W] = some (if W < lg ws ∧ ws ≠ [] then .none else .int (cnt W ws : Nat)) := by
  have hlp := lcount_loop (.tuple (tws ws)) W ws ([], []) .un h8 (fun _ => rfl) (by simp; omega) (by show jl [] + _ < _; rw [jl_nil]; omega)
  have hcn : lines (ws.foldl (step W) ([], [])) = cnt W ws := by
    unfold lines cnt wrapM
    dsimp only
    split <;> simp
  have hex : (∃ w ∈ ws, W < (w.length : Int)) ↔ (W < lg ws ∧ ws ≠ []) := by
    constructor
    · rintro ⟨w, hw, z⟩
      have := (lg_spec ws).1 w hw
      exact ⟨by omega, fun e => by rw [e] at hw; cases hw⟩
    · rintro ⟨z, e⟩
      rcases lg_mem ws with h | ⟨w, hw, h⟩
      · cases ws with
        | nil => exact absurd rfl e
        | cons x r =>
          have := (lg_spec (x :: r)).1 x List.mem_cons_self
          exact ⟨x, List.mem_cons_self, by omega⟩
      · exact ⟨w, hw, by omega⟩
  refine gDef_ev' (fB := f_Lline_count) [.val (.tuple (tws ws)), .val (.int W), .un, .un, .un] rfl rfl ?_
  unfold f_Lline_count
  refine (sSeq_nx (e := [.val (.tuple (tws ws)), .val (.int W), .val (.int 0), .un, .un]) (by rfl)).trans ?_
  refine (sSeq_nx (e := [.val (.tuple (tws ws)), .val (.int W), .val (.int 0), .val (.int 0), .un]) (by rfl)).trans ?_
  have e0 : ((used (([] : List (List Str)), ([] : List Str)) : Nat) : Int) = 0 := by
    show ((jl [] : Nat) : Int) = 0
    rw [jl_nil]
    rfl
  by_cases z : ∃ w ∈ ws, W < (w.length : Int)
  · rw [if_pos z, e0] at hlp
    rw [if_pos (hex.mp z)]
    exact sSeq_rt (sFor_ev (ds := tws ws) (by rfl) hlp)
  · rw [if_neg z, e0] at hlp
    rw [if_neg (fun e => z (hex.mpr e))]
    obtain ⟨y, hlp⟩ := hlp
    rw [hcn] at hlp
    exact (sSeq_nx (sFor_ev (ds := tws ws) (by rfl) hlp)).trans rfl

/-! lines, inner sizes -/
theorem atI_last {α : Type} (f : α → PyData) (xs : List α) (x : α) (h : xs.getLast? = some x) : atI (xs.map f) (-1) = some (f x) := by
  have hl : xs ≠ [] := by intro e; subst e; cases h
  have hn : 0 < xs.length := List.length_pos_iff.mpr hl
  unfold atI ixN
  rw [List.getLast?_eq_getElem?] at h
  simp only [List.length_map]
  rw [if_neg (by omega), if_pos (by omega)]
  show (xs.map f)[((-1 : Int) + (xs.length : Int)).toNat]? = _
  rw [List.getElem?_map, show ((-1 : Int) + (xs.length : Int)).toNat = xs.length - 1 by omega, h]
  rfl
theorem last_ix (L : List Int) (h : 0 < L.length) : atI (L.map PyData.int) (-1) = some (.int (L.getD (L.length - 1) 0)) := atI_last _ _ _ (by
  rw [List.getLast?_eq_getElem?, List.getD_eq_getElem?_getD, List.getElem?_eq_getElem (by omega)]
  rfl)
theorem getD_app1 (L : List Int) (x : Int) (j : Nat) (h : j < L.length) : (L ++ [x]).getD j 0 = L.getD j 0 := by
  rw [List.getD_eq_getElem?_getD, List.getD_eq_getElem?_getD, List.getElem?_append_left h]
theorem getD_app2 (L : List Int) (x : Int) : (L ++ [x]).getD L.length 0 = x := by
  rw [List.getD_eq_getElem?_getD, List.getElem?_append_right (Nat.le_refl _)]
  simp
def inn (xs : List Int) (a s : Int) : Int := xs.getD (a + s).toNat 0 - xs.getD a.toNat 0 - 1
theorem inner_ev (xs : List Int) (a s : Int) (h : 0 ≤ a ∧ 0 ≤ s ∧ a + s < xs.length) : g_inner_size [.tuple (xs.map .int), .int a, .int s] = some (.int (inn xs a s)) ∧ g_Linner [.tuple (xs.map .int), .int a, .int s] = some (.int (inn xs a s)) := by
  constructor
  · refine gDef_ev' (fB := f_inner_size) [.val (.tuple (xs.map .int)), .val (.int a), .val (.int s)] rfl rfl ?_
    unfold f_inner_size
    exact sRet_ev (e2_ev (e2_ev (e2_ev (x := .tuple (xs.map .int)) rfl (e2_ev rfl rfl (addD_int _ _)) (dr_ix ⟨by omega, by omega⟩)) (e2_ev (x := .tuple (xs.map .int)) rfl rfl (dr_ix ⟨by omega, by omega⟩)) (subD_int _ _)) rfl (subD_int _ _))
  · refine gDef_ev' (fB := f_Linner) [.val (.tuple (xs.map .int)), .val (.int a), .val (.int s)] rfl rfl ?_
    unfold f_Linner
    exact sRet_ev (e2_ev (e2_ev (e2_ev (x := .tuple (xs.map .int)) rfl (e2_ev rfl rfl (addD_int _ _)) (dr_ix ⟨by omega, by omega⟩)) (e2_ev (x := .tuple (xs.map .int)) rfl rfl (dr_ix ⟨by omega, by omega⟩)) (subD_int _ _)) rfl (subD_int _ _))
def laS (l : List Int) (h : Int) : List Int := l ++ [l.getD (l.length - 1) 0 + h + 1]
def laF (hs : List Int) : List Int := hs.foldl laS [0]
theorem laS_len (l : List Int) (h : Int) : (laS l h).length = l.length + 1 := by simp [laS]
theorem lo_loop (a0 : Sl) : ∀ (hs l : List Int) (y : Sl), 0 < l.length → l.length + hs.length < 1000 → ∃ z, loopF (gVal 2) b_Llines_of_1 (hs.map .int) [a0, .own (l.map .int), y] = .nx [a0, .own ((hs.foldl laS l).map .int), z]
  | [], l, y, _, _ => ⟨y, rfl⟩
  | h :: hs, l, y, h0, hl => by
    rw [List.length_cons] at hl
    have hb : b_Llines_of_1 [a0, .own (l.map .int), .val (.int h)] = .nx [a0, .own ((laS l h).map .int), .val (.int h)] := by
      unfold b_Llines_of_1 laS
      rw [List.map_append]
      exact sApp_ev (i := 1) (e2_ev (e2_ev (eIxO_ev rfl rfl (last_ix l h0)) rfl (addD_int _ _)) rfl (addD_int _ _)) rfl (by rw [List.length_map]; omega)
    obtain ⟨z, ih⟩ := lo_loop a0 hs (laS l h) (.val (.int h)) (by rw [laS_len]; omega) (by rw [laS_len]; omega)
    refine ⟨z, ?_⟩
    rw [List.map_cons]
    simp only [loopF, gVal, List.set_cons_succ, List.set_cons_zero, hb]
    exact ih
theorem lo_ev (hs : List Int) (h : hs.length < 900) : g_Llines_of [.tuple (hs.map .int)] = some (.tuple ((laF hs).map .int)) := by
  obtain ⟨z, hl⟩ := lo_loop (.val (.tuple (hs.map .int))) hs [0] .un (by simp) (by simp; omega)
  refine gDef_ev' (fB := f_Llines_of) [.val (.tuple (hs.map .int)), .un, .un] rfl rfl ?_
  unfold f_Llines_of
  refine (sSeq_nx (e := [.val (.tuple (hs.map .int)), .own ([0].map .int), .un]) (by rfl)).trans ?_
  refine (sSeq_nx (sFor_ev (ds := hs.map .int) (by rfl) hl)).trans ?_
  exact sRet_ev (eTupO_ev rfl)
theorem la_fold : ∀ (hs l : List Int), 0 < l.length → (hs.foldl laS l).length = l.length + hs.length ∧ (∀ j, j < l.length → (hs.foldl laS l).getD j 0 = l.getD j 0) ∧ ∀ (j : Nat) (h : Int), hs[j]? = some h → (hs.foldl laS l).getD (l.length + j) 0 = (hs.foldl laS l).getD (l.length - 1 + j) 0 + h + 1
  | [], l, h0 => ⟨rfl, fun _ _ => rfl, fun j h hj => by simp at hj⟩
  | x :: hs, l, h0 => by
    obtain ⟨a1, a2, a3⟩ := la_fold hs (laS l x) (by rw [laS_len]; omega)
    rw [laS_len] at a1 a2 a3
    refine ⟨by rw [List.foldl_cons, a1, List.length_cons]; omega, fun j hj => ?_, fun j h hj => ?_⟩
    · rw [List.foldl_cons, a2 j (by omega)]
      exact getD_app1 _ _ _ hj
    · rw [List.foldl_cons]
      cases j with
      | zero =>
        cases hj
        rw [Nat.add_zero, Nat.add_zero, a2 l.length (by omega), a2 (l.length - 1) (by omega)]
        unfold laS
        rw [getD_app2, getD_app1 _ _ _ (by omega)]
      | succ j =>
        have := a3 j h (by simpa using hj)
        rw [show l.length + (j + 1) = l.length + 1 + j by omega, show l.length - 1 + (j + 1) = l.length + 1 - 1 + j by omega]
        exact this
theorem laF_spec (hs : List Int) : (laF hs).length = hs.length + 1 ∧ (laF hs).getD 0 0 = 0 ∧ ∀ (j : Nat) (h : Int), hs[j]? = some h → (laF hs).getD (j + 1) 0 = (laF hs).getD j 0 + h + 1 := by
  obtain ⟨a1, a2, a3⟩ := la_fold hs [0] (by simp)
  refine ⟨by show (hs.foldl laS [0]).length = _; rw [a1]; simp; omega, a2 0 (by simp), fun j h hj => ?_⟩
  have := a3 j h hj
  rw [show ([0] : List Int).length + j = j + 1 by simp; omega, show ([0] : List Int).length - 1 + j = j by simp] at this
  exact this
/-! loops that say False -/
theorem loop_all {g : PyData → En → Option En} {b : En → Out} (P : Nat → Prop) (I : En → Prop) : ∀ (ds : List PyData) (k : Nat) (e : En), (∀ (j : Nat) d e, ds[j]? = some d → I e → ∃ e1, g d e = some e1 ∧ ((P (k + j) ∧ ∃ e2, (b e1 = .nx e2 ∨ b e1 = .ct e2) ∧ I e2) ∨ (¬ P (k + j) ∧ b e1 = .rt (.bool false)))) → I e →
    ((∃ e', loopF g b ds e = .nx e' ∧ I e') ∧ ∀ j, j < ds.length → P (k + j)) ∨ (loopF g b ds e = .rt (.bool false) ∧ ¬ ∀ j, j < ds.length → P (k + j))
  | [], k, e, _, h => .inl ⟨⟨e, rfl, h⟩, fun j hj => by cases hj⟩
  | d :: ds, k, e, st, h => by
    obtain ⟨e1, h1, h2⟩ := st 0 d e rfl h
    rcases h2 with ⟨hp, e2, h3, h4⟩ | ⟨hp, h3⟩
    · have ih := loop_all P I ds (k + 1) e2 (fun j d' e' hj hi => by
        have := st (j + 1) d' e' (by simpa using hj) hi
        rw [show k + (j + 1) = k + 1 + j by omega] at this
        exact this) h4
      have hstep : loopF g b (d :: ds) e = loopF g b ds e2 := by
        rcases h3 with h3 | h3 <;> simp only [loopF, h1, h3]
      rw [hstep]
      have hall : (∀ j, j < (d :: ds).length → P (k + j)) ↔ ∀ j, j < ds.length → P (k + 1 + j) := by
        constructor
        · intro z j hj
          have := z (j + 1) (by rw [List.length_cons]; omega)
          rw [show k + (j + 1) = k + 1 + j by omega] at this
          exact this
        · intro z j hj
          cases j with
          | zero => exact hp
          | succ j =>
            have := z j (by rw [List.length_cons] at hj; omega)
            rw [show k + (j + 1) = k + 1 + j by omega]
            exact this
      rcases ih with ⟨a, c⟩ | ⟨a, c⟩
      · exact .inl ⟨a, hall.mpr c⟩
      · exact .inr ⟨a, fun z => c (hall.mp z)⟩
    · refine .inr ⟨by simp only [loopF, h1, h3], fun z => hp (z 0 (by rw [List.length_cons]; omega))⟩
theorem loop_allR {g : PyData → En → Option En} {b : En → Out} (P : Nat → Prop) (I : En → Prop) {n : Nat} {e : En} (st : ∀ (j : Nat) e, j < n → I e → ∃ e1, g (.int (0 + (j : Nat))) e = some e1 ∧ ((P j ∧ ∃ e2, (b e1 = .nx e2 ∨ b e1 = .ct e2) ∧ I e2) ∨ (¬ P j ∧ b e1 = .rt (.bool false)))) (h : I e) :
    ((∃ e', loopF g b (rngD 0 n) e = .nx e' ∧ I e') ∧ ∀ j, j < n → P j) ∨ (loopF g b (rngD 0 n) e = .rt (.bool false) ∧ ¬ ∀ j, j < n → P j) := by
  have := loop_all P I (rngD 0 n) 0 e (fun j d e hj hi => by
    have hd := rng_get hj
    obtain ⟨l, _⟩ := List.getElem?_eq_some_iff.mp hj
    rw [rng_len] at l
    subst hd
    rw [Nat.zero_add]
    exact st j e l hi) h
  rw [rng_len] at this
  simpa only [Nat.zero_add] using this
/-! the law's tests of a layout -/
theorem tab_cols (t : LTab) (a : List Sl) : e2 ixG (eVar 0) (eC (.int 0)) (.val (tabD t) :: a) = some (.tuple (t.cols.map colD)) := rfl
theorem tab_rows (t : LTab) (a : List Sl) : e2 ixG (eVar 0) (eC (.int 1)) (.val (tabD t) :: a) = some (.tuple (t.rows.map rowD)) := rfl
theorem tab_cells (t : LTab) (a : List Sl) : e2 ixG (eVar 0) (eC (.int 2)) (.val (tabD t) :: a) = some (.tuple (t.cells.map cellD)) := rfl
def RowsR (t : LTab) (ys : List Int) : Prop := ∀ (j : Nat) (x : LRow), t.rows[j]? = some x → x.1 ≤ inn ys (j : Nat) 1
theorem rowsR_ev (t : LTab) (ht : TabOk t) (ys : List Int) (hy : ys.length = t.rows.length + 1) : ∃ b : Bool, g_Lrows_right [tabD t, .tuple (ys.map .int)] = some (.bool b) ∧ (b = true ↔ RowsR t ys) := by
  have hr := ht.nr
  obtain ⟨T, hT⟩ : ∃ T : PyData, T = tabD t := ⟨_, rfl⟩
  have hlp := loop_allR (g := gVal 2) (b := b_Lrows_right_1) (n := t.rows.length) (e := [.val T, .val (.tuple (ys.map .int)), .un]) (fun j => ∀ x : LRow, t.rows[j]? = some x → x.1 ≤ inn ys (j : Nat) 1) (fun e => ∃ y, e = [.val T, .val (.tuple (ys.map .int)), y]) (fun j e hj hi => by
    obtain ⟨y, rfl⟩ := hi
    obtain ⟨k, hk⟩ : ∃ k : Int, k = 0 + (j : Nat) := ⟨_, rfl⟩
    have hkj : k = (j : Nat) := by omega
    rw [← hk, ← hkj]
    refine ⟨[.val T, .val (.tuple (ys.map .int)), .val (.int k)], rfl, ?_⟩
    have hx := List.getElem?_eq_getElem (l := t.rows) hj
    have hat := atI_map rowD t.rows j _ hx
    rw [← hkj] at hat
    have htst := t1_ev (e2_ev (f := eCall g_Linner (aCons (eVar 1) (aCons (eVar 2) (aCons (eC (.int 1)) aNil)))) (env := [.val T, .val (.tuple (ys.map .int)), .val (.int k)]) (eCall_ev (aCons_ev rfl (aCons_ev rfl (aCons_ev rfl aNil_ev))) (inner_ev ys k 1 ⟨by omega, by omega, by omega⟩).2) (g := e2 ixG (e2 ixG (e2 ixG (eVar 0) (eC (.int 1))) (eVar 2)) (eC (.int 0))) (e2_ev (d := .int (t.rows[j]).1) (e2_ev (x := .tuple (t.rows.map rowD)) (by rw [hT]; exact tab_rows t _) rfl hat) rfl rfl) (ltD_int _ _))
    unfold b_Lrows_right_1
    by_cases q : inn ys k 1 < (t.rows[j]).1
    · rw [decide_eq_true q] at htst
      refine .inr ⟨fun z => ?_, (sIf_t htst).trans rfl⟩
      have := z _ hx
      omega
    · rw [decide_eq_false q] at htst
      refine .inl ⟨fun x hx' => ?_, _, .inl ((sIf_f htst).trans rfl), _, rfl⟩
      rw [hx] at hx'
      cases hx'
      omega) ⟨_, rfl⟩
  have hrg := iR1_ev (fa := aCons (eCall lenA (aCons (e2 ixG (eVar 0) (eC (.int 1))) aNil)) aNil) (env := [.val T, .val (.tuple (ys.map .int)), .un]) (N := (t.rows.length : Nat)) (aCons_ev (eCall_ev (aCons_ev (by rw [hT]; exact tab_rows t _) aNil_ev) (by show some (PyData.int (List.length _ : Nat)) = _; rw [List.length_map])) aNil_ev) (by omega) (by omega)
  rw [Int.toNat_natCast] at hrg
  have hiff : (∀ j, j < t.rows.length → ∀ x : LRow, t.rows[j]? = some x → x.1 ≤ inn ys (j : Nat) 1) ↔ RowsR t ys := ⟨fun z j x hx => z j (List.getElem?_eq_some_iff.mp hx).1 x hx, fun z j _ x hx => z j x hx⟩
  rw [← hT]
  rcases hlp with ⟨⟨e', h1, y, rfl⟩, h2⟩ | ⟨h1, h2⟩
  · refine ⟨true, gDef_ev' (fB := f_Lrows_right) [.val T, .val (.tuple (ys.map .int)), .un] rfl rfl ?_, ⟨fun _ => hiff.mp h2, fun _ => rfl⟩⟩
    unfold f_Lrows_right
    exact (sSeq_nx (sFor_ev hrg h1)).trans rfl
  · refine ⟨false, gDef_ev' (fB := f_Lrows_right) [.val T, .val (.tuple (ys.map .int)), .un] rfl rfl ?_, ⟨fun e => (by cases e), fun z => absurd (hiff.mpr z) h2⟩⟩
    unfold f_Lrows_right
    exact sSeq_rt (sFor_ev hrg h1)

def ColsR (t : LTab) (xs : List Int) : Prop := ∀ (j : Nat) (x : LCol), t.cols[j]? = some x → x.least ≤ inn xs (j : Nat) 1 ∧ (∀ m, x.most = some m → inn xs (j : Nat) 1 ≤ m) ∧ ∀ p, x.pc = some p → p * xs.getD (xs.length - 1) 0 ≤ 100 * (inn xs (j : Nat) 1 + 1)
theorem isnt_oD (o : Option Int) : isntD (oD o) .none = some (.bool (o ≠ none)) := by
  cases o <;> rfl
/-- the words of a cell have room -/
def CellR (x : LCell) (xs ys : List Int) : Prop := lg x.ws ≤ inn xs x.c x.w ∧ (cnt (inn xs x.c x.w) x.ws : Int) ≤ inn ys x.r x.h
def CellsR (t : LTab) (xs ys : List Int) : Prop := ∀ x ∈ t.cells, CellR x xs ys

theorem cellsR_ev (t : LTab) (ht : TabOk t) (xs ys : List Int) (hx : xs.length = t.cols.length + 1) (hy : ys.length = t.rows.length + 1) (hpos : ∀ x ∈ t.cells, 0 ≤ inn xs x.c x.w) : ∃ b : Bool, g_Lcells_right [tabD t, .tuple (xs.map .int), .tuple (ys.map .int)] = some (.bool b) ∧ (b = true ↔ CellsR t xs ys) := by
  obtain ⟨T, hT⟩ : ∃ T : PyData, T = tabD t := ⟨_, rfl⟩
  obtain ⟨X, hX⟩ : ∃ X : PyData, X = .tuple (xs.map .int) := ⟨_, rfl⟩
  obtain ⟨Y, hY⟩ : ∃ Y : PyData, Y = .tuple (ys.map .int) := ⟨_, rfl⟩
  have hlp := loop_all (g := gT [3, 4, 5, 6, 7]) (b := b_Lcells_right_1)
    (fun j => ∀ x : LCell, t.cells[j]? = some x → CellR x xs ys) (fun e => ∃ y3 y4 y5 y6 y7 y8, e = [.val T, .val X, .val Y, y3, y4, y5, y6, y7, y8]) (t.cells.map cellD) 0 [.val T, .val X, .val Y, .un, .un, .un, .un, .un, .un] (fun j d e hj hi => by
    obtain ⟨y3, y4, y5, y6, y7, y8, rfl⟩ := hi
    rw [List.getElem?_map] at hj
    cases hxx : t.cells[j]? with
    | none => rw [hxx] at hj; cases hj
    | some x =>
      rw [hxx] at hj
      cases hj
      have hmem := List.mem_of_getElem? hxx
      have hok := ht.cl x hmem
      have hp := hpos x hmem
      rw [Nat.zero_add]
      have b1 := hok.r
      have b2 := hok.c
      have b3 := hok.h
      have b4 := hok.w
      have b5 := hok.rh
      have b6 := hok.cw
      have h8 : ∀ w ∈ x.ws, w.length ≤ 8 := fun w hw => by have := (pool4_ok w (hok.p w hw)).2.1; omega
      refine ⟨[.val T, .val X, .val Y, .val (.int x.r), .val (.int x.c), .val (.int x.h), .val (.int x.w), .val (.tuple (tws x.ws)), y8], rfl, ?_⟩
      obtain ⟨W, hW⟩ : ∃ W : Int, W = inn xs x.c x.w := ⟨_, rfl⟩
      obtain ⟨M, hM⟩ : ∃ M : Int, M = inn ys x.r x.h := ⟨_, rfl⟩
      have hiff : (∀ x' : LCell, t.cells[j]? = some x' → CellR x' xs ys) ↔ (lg x.ws ≤ W ∧ (cnt W x.ws : Int) ≤ M) := by
        rw [hW, hM]
        exact ⟨fun z => z x hxx, fun z x' hx' => by rw [hxx] at hx'; cases hx'; exact z⟩
      rw [hiff]
      rw [← hW] at hp
      have hin : eCall g_Linner (aCons (eVar 1) (aCons (eVar 4) (aCons (eVar 6) aNil))) [.val T, .val X, .val Y, .val (.int x.r), .val (.int x.c), .val (.int x.h), .val (.int x.w), .val (.tuple (tws x.ws)), y8] = some (.int W) := by
        rw [hX, hW]
        exact eCall_ev (aCons_ev rfl (aCons_ev rfl (aCons_ev rfl aNil_ev))) (inner_ev xs x.c x.w ⟨by omega, by omega, by omega⟩).2
      have hlc := lcount_ev x.ws W h8 hok.l
      by_cases q : W < lg x.ws ∧ x.ws ≠ []
      · rw [if_pos q] at hlc
        refine .inr ⟨fun z => by omega, ?_⟩
        unfold b_Lcells_right_1
        refine (sSeq_nx (e := [.val T, .val X, .val Y, .val (.int x.r), .val (.int x.c), .val (.int x.h), .val (.int x.w), .val (.tuple (tws x.ws)), .val .none]) (sSet_ev (eCall_ev (aCons_ev rfl (aCons_ev hin aNil_ev)) hlc))).trans ?_
        exact (sIf_t (or_t (t1_ev (e2_ev rfl rfl rfl)))).trans rfl
      · rw [if_neg q] at hlc
        have hlg : lg x.ws ≤ W := by
          by_cases z : x.ws = []
          · rw [z]; exact hp
          · have : ¬ W < lg x.ws := fun y => q ⟨y, z⟩
            omega
        have htst : tOr' (t1 (e2 isD (eVar 8) (eC .none))) (t1 (e2 gtD (eVar 8) (eCall g_Linner (aCons (eVar 2) (aCons (eVar 3) (aCons (eVar 5) aNil)))))) [.val T, .val X, .val Y, .val (.int x.r), .val (.int x.c), .val (.int x.h), .val (.int x.w), .val (.tuple (tws x.ws)), .val (.int (cnt W x.ws : Nat))] = some (decide (M < (cnt W x.ws : Int))) := by
          refine or_f (t1_ev (e2_ev rfl rfl rfl)) (t1_ev (e2_ev rfl ?_ (gtD_int _ _)))
          rw [hY, hM]
          exact eCall_ev (aCons_ev rfl (aCons_ev rfl (aCons_ev rfl aNil_ev))) (inner_ev ys x.r x.h ⟨by omega, by omega, by omega⟩).2
        have hset : sSet 8 (eCall g_Lline_count (aCons (eVar 7) (aCons (eCall g_Linner (aCons (eVar 1) (aCons (eVar 4) (aCons (eVar 6) aNil)))) aNil))) [.val T, .val X, .val Y, .val (.int x.r), .val (.int x.c), .val (.int x.h), .val (.int x.w), .val (.tuple (tws x.ws)), y8] = .nx [.val T, .val X, .val Y, .val (.int x.r), .val (.int x.c), .val (.int x.h), .val (.int x.w), .val (.tuple (tws x.ws)), .val (.int (cnt W x.ws : Nat))] := sSet_ev (eCall_ev (aCons_ev rfl (aCons_ev hin aNil_ev)) hlc)
        by_cases z : M < (cnt W x.ws : Int)
        · rw [decide_eq_true z] at htst
          refine .inr ⟨fun y => by omega, ?_⟩
          unfold b_Lcells_right_1
          exact (sSeq_nx hset).trans ((sIf_t htst).trans rfl)
        · rw [decide_eq_false z] at htst
          refine .inl ⟨⟨hlg, by omega⟩, [.val T, .val X, .val Y, .val (.int x.r), .val (.int x.c), .val (.int x.h), .val (.int x.w), .val (.tuple (tws x.ws)), .val (.int (cnt W x.ws : Nat))], .inl ?_, _, _, _, _, _, _, rfl⟩
          unfold b_Lcells_right_1
          exact (sSeq_nx hset).trans ((sIf_f htst).trans rfl)) ⟨_, _, _, _, _, _, rfl⟩
  rw [List.length_map] at hlp
  have hiff : (∀ j, j < t.cells.length → ∀ x : LCell, t.cells[0 + j]? = some x → CellR x xs ys) ↔ CellsR t xs ys := by
    constructor
    · intro z x hx
      obtain ⟨j, hj, e⟩ := List.getElem_of_mem hx
      exact z j hj x (by rw [Nat.zero_add, List.getElem?_eq_getElem hj, e])
    · intro z j hj x hx
      exact z x (List.mem_of_getElem? hx)
  have hit : iSeq (e2 ixG (eVar 0) (eC (.int 2))) [.val T, .val X, .val Y, .un, .un, .un, .un, .un, .un] = some (t.cells.map cellD) := by
    unfold iSeq
    rw [hT, tab_cells]
  rw [← hT, ← hX, ← hY]
  rcases hlp with ⟨⟨e', h1, y3, y4, y5, y6, y7, y8, rfl⟩, h2⟩ | ⟨h1, h2⟩
  · refine ⟨true, gDef_ev' (fB := f_Lcells_right) [.val T, .val X, .val Y, .un, .un, .un, .un, .un, .un] rfl rfl ?_, ⟨fun _ => hiff.mp h2, fun _ => rfl⟩⟩
    unfold f_Lcells_right
    exact (sSeq_nx (sFor_ev hit h1)).trans rfl
  · refine ⟨false, gDef_ev' (fB := f_Lcells_right) [.val T, .val X, .val Y, .un, .un, .un, .un, .un, .un] rfl rfl ?_, ⟨fun e => (by cases e), fun z => absurd (hiff.mpr z) h2⟩⟩
    unfold f_Lcells_right
    exact sSeq_rt (sFor_ev hit h1)
/-! all rising lines -/
abbrev tiD (x : List Int) : PyData := .tuple (x.map .int)
structure Ris (M : Int) (n : Nat) (x : List Int) : Prop where
  len : x.length = n + 1
  z : x.getD 0 0 = 0
  up : ∀ j, j < n → x.getD j 0 + 2 ≤ x.getD (j + 1) 0
  mx : ∀ j, j < n → x.getD (j + 1) 0 ≤ M
theorem Ris.last {M : Int} {n : Nat} {x : List Int} (h : Ris M n x) : 0 ≤ x.getD n 0 := by
  have : ∀ j, j ≤ n → 0 ≤ x.getD j 0 := by
    intro j
    induction j with
    | zero => intro _; rw [h.z]; exact Int.le_refl _
    | succ j ih => intro hj; have := ih (by omega); have := h.up j (by omega); omega
  exact this n (Nat.le_refl _)
theorem ris_zero (M : Int) (x : List Int) : Ris M 0 x ↔ x = [0] := by
  constructor
  · rintro ⟨h1, h2, _, _⟩
    cases x with
    | nil => cases h1
    | cons a r =>
      have hr : r = [] := List.eq_nil_of_length_eq_zero (by simpa using h1)
      subst hr
      have h2 : a = 0 := h2
      rw [h2]
  · intro e
    subst e
    exact ⟨rfl, rfl, fun j hj => by omega, fun j hj => by omega⟩
theorem ris_succ (M : Int) (n : Nat) (x : List Int) : Ris M (n + 1) x ↔ ∃ y v, x = y ++ [v] ∧ Ris M n y ∧ y.getD n 0 + 2 ≤ v ∧ v ≤ M := by
  constructor
  · rintro ⟨h1, h2, h3, h4⟩
    rcases List.eq_nil_or_concat x with e | ⟨y, v, e⟩
    · subst e; cases h1
    · rw [List.concat_eq_append] at e
      subst e
      have hl : y.length = n + 1 := by simpa using h1
      have hv : (y ++ [v]).getD (n + 1) 0 = v := by rw [← hl]; exact getD_app2 y v
      have hj : ∀ j, j < n + 1 → (y ++ [v]).getD j 0 = y.getD j 0 := fun j hj => getD_app1 y v j (by omega)
      refine ⟨y, v, rfl, ⟨hl, by rw [← hj 0 (by omega)]; exact h2, fun j hj' => ?_, fun j hj' => ?_⟩, ?_, ?_⟩
      · have := h3 j (by omega)
        rw [hj j (by omega), hj (j + 1) (by omega)] at this
        exact this
      · have := h4 j (by omega)
        rw [hj (j + 1) (by omega)] at this
        exact this
      · have := h3 n (by omega)
        rw [hj n (by omega), hv] at this
        exact this
      · have := h4 n (by omega)
        rw [hv] at this
        exact this
  · rintro ⟨y, v, rfl, ⟨h1, h2, h3, h4⟩, h5, h6⟩
    have hv : (y ++ [v]).getD (n + 1) 0 = v := by rw [← h1]; exact getD_app2 y v
    have hj : ∀ j, j < n + 1 → (y ++ [v]).getD j 0 = y.getD j 0 := fun j hj => getD_app1 y v j (by omega)
    refine ⟨by simp [h1], by rw [hj 0 (by omega)]; exact h2, fun j hj' => ?_, fun j hj' => ?_⟩
    · by_cases q : j < n
      · rw [hj j (by omega), hj (j + 1) (by omega)]; exact h3 j q
      · have e : j = n := by omega
        subst e
        rw [hj j (by omega), hv]; exact h5
    · by_cases q : j < n
      · rw [hj (j + 1) (by omega)]; exact h4 j q
      · have e : j = n := by omega
        subst e
        rw [hv]; exact h6
theorem ris_in (a0 a2 a3 : Sl) (M : Int) (hM : 0 ≤ M ∧ M ≤ 30) (n : Nat) (hn : n ≤ 5) (L : List Int) (hL : Ris M n L) (acc : List (List Int)) (hacc : acc.length ≤ 100000) (y6 : Sl) :
    ∃ (N : List (List Int)) (z6 : Sl), N.length ≤ 31 ∧ (∀ x, x ∈ N ↔ ∃ v, x = L ++ [v] ∧ L.getD n 0 + 2 ≤ v ∧ v ≤ M) ∧ b_Lrising_2 [a0, .val (.int M), a2, a3, .own (acc.map tiD), .val (tiD L), y6] = .nx [a0, .val (.int M), a2, a3, .own ((acc ++ N).map tiD), .val (tiD L), z6] := by
  have hl := hL.last
  have hl2 := hL.len
  obtain ⟨lo, hlo⟩ : ∃ lo : Int, lo = L.getD n 0 + 2 := ⟨_, rfl⟩
  have hlx : atI (L.map PyData.int) (-1) = some (.int (L.getD n 0)) := by
    have := last_ix L (by omega)
    rw [show L.length - 1 = n by omega] at this
    exact this
  have hln : L.getD n 0 ≤ 30 := by
    by_cases q : n = 0
    · subst q; rw [hL.z]; omega
    · have := hL.mx (n - 1) (by omega)
      rw [show n - 1 + 1 = n by omega] at this
      omega
  have hr := iR2_ev (fa := aCons (e2 addD (e2 ixG (eVar 5) (e1 negD (eC (.int 1)))) (eC (.int 2))) (aCons (e2 addD (eVar 1) (eC (.int 1))) aNil)) (env := [a0, .val (.int M), a2, a3, .own (acc.map tiD), .val (tiD L), y6]) (M := lo) (N := M + 1)
    (aCons_ev (by rw [hlo]; exact e2_ev (e2_ev (x := tiD L) rfl rfl hlx) rfl (addD_int _ _)) (aCons_ev (e2_ev rfl rfl (addD_int _ _)) aNil_ev)) (by omega) (by omega) (by omega) (by omega)
  obtain ⟨c, hc⟩ : ∃ c : Nat, c = (M + 1 - lo).toNat := ⟨_, rfl⟩
  rw [← hc] at hr
  have hlp := loop_rng (g := gVal 6) (b := b_Lrising_1) (lo := lo) (n := c) (e := [a0, .val (.int M), a2, a3, .own (acc.map tiD), .val (tiD L), y6])
    (fun j e => ∃ (N : List (List Int)) (z6 : Sl), N.length = j ∧ (∀ x, x ∈ N ↔ ∃ v, x = L ++ [v] ∧ lo ≤ v ∧ v < lo + j) ∧ e = [a0, .val (.int M), a2, a3, .own ((acc ++ N).map tiD), .val (tiD L), z6]) (fun j e hj he => by
      obtain ⟨N, z6, h1, h2, rfl⟩ := he
      obtain ⟨v, hv⟩ : ∃ v : Int, v = lo + (j : Nat) := ⟨_, rfl⟩
      rw [← hv]
      refine ⟨[a0, .val (.int M), a2, a3, .own ((acc ++ N).map tiD), .val (tiD L), .val (.int v)], rfl, [a0, .val (.int M), a2, a3, .own ((acc ++ (N ++ [L ++ [v]])).map tiD), .val (tiD L), .val (.int v)], .inl ?_, N ++ [L ++ [v]], _, by simp [h1], fun x => ?_, rfl⟩
      · unfold b_Lrising_1
        rw [← List.append_assoc, List.map_append (l₁ := acc ++ N)]
        refine sApp_ev (i := 4) (e2_ev rfl (eTup_ev (aCons_ev rfl aNil_ev) (by simp)) ?_) rfl (by rw [List.length_map, List.length_append]; omega)
        show addD (.tuple (L.map .int)) (.tuple [.int v]) = some (.tuple ((L ++ [v]).map .int))
        rw [addD_tup (by rw [List.length_map]; simp; omega), List.map_append]
        rfl
      · rw [List.mem_append, List.mem_singleton, h2 x]
        constructor
        · rintro (⟨u, e, h3, h4⟩ | e)
          · exact ⟨u, e, h3, by omega⟩
          · exact ⟨v, e, by omega, by omega⟩
        · rintro ⟨u, e, h3, h4⟩
          by_cases q : u = v
          · rw [q] at e; exact .inr e
          · exact .inl ⟨u, e, h3, by omega⟩) ⟨[], y6, rfl, (fun x => ⟨fun h => (by cases h), fun ⟨v, _, h3, h4⟩ => by omega⟩), by simp⟩
  obtain ⟨e', k1, N, z6, k2, k3, rfl⟩ := hlp
  refine ⟨N, z6, by omega, fun x => ?_, ?_⟩
  · rw [k3 x, ← hlo]
    constructor
    · rintro ⟨v, e, h3, h4⟩; exact ⟨v, e, h3, by omega⟩
    · rintro ⟨v, e, h3, h4⟩; exact ⟨v, e, h3, by omega⟩
  · unfold b_Lrising_2
    exact sFor_ev hr k1
theorem ris_mid (a0 a2 a3 : Sl) (M : Int) (hM : 0 ≤ M ∧ M ≤ 30) (n : Nat) (hn : n ≤ 5) : ∀ (Ls acc : List (List Int)) (y5 y6 : Sl), (∀ L ∈ Ls, Ris M n L) → acc.length + 31 * Ls.length ≤ 100000 →
    ∃ (N : List (List Int)) (z5 z6 : Sl), N.length ≤ 31 * Ls.length ∧ (∀ x, x ∈ N ↔ ∃ L ∈ Ls, ∃ v, x = L ++ [v] ∧ L.getD n 0 + 2 ≤ v ∧ v ≤ M) ∧ loopF (gVal 5) b_Lrising_2 (Ls.map tiD) [a0, .val (.int M), a2, a3, .own (acc.map tiD), y5, y6] = .nx [a0, .val (.int M), a2, a3, .own ((acc ++ N).map tiD), z5, z6]
  | [], acc, y5, y6, _, _ => ⟨[], y5, y6, by simp, (fun x => by simp), by simp [loopF]⟩
  | L :: Ls, acc, y5, y6, hL, hl => by
    rw [List.length_cons] at hl
    obtain ⟨N1, z6, n1, n2, n3⟩ := ris_in a0 a2 a3 M hM n hn L (hL L List.mem_cons_self) acc (by omega) y6
    obtain ⟨N2, w5, w6, m1, m2, m3⟩ := ris_mid a0 a2 a3 M hM n hn Ls (acc ++ N1) (.val (tiD L)) z6 (fun K hK => hL K (List.mem_cons_of_mem _ hK)) (by rw [List.length_append]; omega)
    refine ⟨N1 ++ N2, w5, w6, by rw [List.length_append, List.length_cons]; omega, fun x => ?_, ?_⟩
    · rw [List.mem_append, n2 x, m2 x]
      constructor
      · rintro (h | ⟨K, hK, h⟩)
        · exact ⟨L, List.mem_cons_self, h⟩
        · exact ⟨K, List.mem_cons_of_mem _ hK, h⟩
      · rintro ⟨K, hK, h⟩
        rcases List.mem_cons.mp hK with e | hK
        · subst e; exact .inl h
        · exact .inr ⟨K, hK, h⟩
    · rw [List.map_cons]
      simp only [loopF, gVal, List.set_cons_succ, List.set_cons_zero, n3]
      rw [m3, List.append_assoc]
theorem ris_ev (M : Int) (hM : 0 ≤ M ∧ M ≤ 30) (C : Nat) (hC : C ≤ 3) : ∃ Rs : List (List Int), g_Lrising [.int (C : Nat), .int M] = some (.list (Rs.map tiD)) ∧ Rs.length ≤ 31 ^ 3 ∧ ∀ x, x ∈ Rs ↔ Ris M C x := by
  have hrg := iR1_ev (fa := aCons (eVar 0) aNil) (env := [.val (.int (C : Nat)), .val (.int M), .val (.list [tiD [0]]), .un, .un, .un, .un]) (N := (C : Nat)) rfl (by omega) (by omega)
  rw [Int.toNat_natCast] at hrg
  have hpw : ∀ j, j < 3 → 31 ^ j ≤ 961 := fun j hj => by
    have : (31 : Nat) ^ j ≤ 31 ^ 2 := Nat.pow_le_pow_right (by decide) (by omega)
    omega
  have hlp := loop_rng (g := gVal 3) (b := b_Lrising_3) (lo := 0) (n := C) (e := [.val (.int (C : Nat)), .val (.int M), .val (.list [tiD [0]]), .un, .un, .un, .un])
    (fun j e => ∃ (Fs : List (List Int)) (y3 y4 y5 y6 : Sl), Fs.length ≤ 31 ^ j ∧ (∀ x, x ∈ Fs ↔ Ris M j x) ∧ e = [.val (.int (C : Nat)), .val (.int M), .val (.list (Fs.map tiD)), y3, y4, y5, y6]) (fun j e hj he => by
      obtain ⟨Fs, y3, y4, y5, y6, h1, h2, rfl⟩ := he
      obtain ⟨k, hk⟩ : ∃ k : Int, k = 0 + (j : Nat) := ⟨_, rfl⟩
      rw [← hk]
      have hp := hpw j (by omega)
      obtain ⟨N, z5, z6, n1, n2, n3⟩ := ris_mid (.val (.int (C : Nat))) (.val (.list (Fs.map tiD))) (.val (.int k)) M hM j (by omega) Fs [] y5 y6 (fun L hL => (h2 L).mp hL) (by simp; omega)
      refine ⟨[.val (.int (C : Nat)), .val (.int M), .val (.list (Fs.map tiD)), .val (.int k), y4, y5, y6], rfl, [.val (.int (C : Nat)), .val (.int M), .val (.list (N.map tiD)), .val (.int k), .val (.list (N.map tiD)), z5, z6], .inl ?_, N, _, _, _, _, by rw [Nat.pow_succ]; omega, fun x => ?_, rfl⟩
      · unfold b_Lrising_3
        refine (sSeq_nx (e := [.val (.int (C : Nat)), .val (.int M), .val (.list (Fs.map tiD)), .val (.int k), .own [], y5, y6]) (by rfl)).trans ?_
        refine (sSeq_nx (sFor_ev (ds := Fs.map tiD) (by rfl) n3)).trans ?_
        rw [List.nil_append]
        rfl
      · rw [n2 x, ris_succ]
        constructor
        · rintro ⟨L, hL, v, e, h3, h4⟩; exact ⟨L, v, e, (h2 L).mp hL, h3, h4⟩
        · rintro ⟨L, v, e, hL, h3, h4⟩; exact ⟨L, (h2 L).mpr hL, v, e, h3, h4⟩) ⟨[[0]], .un, .un, .un, .un, by simp, (fun x => by rw [ris_zero, List.mem_singleton]), rfl⟩
  obtain ⟨e', l1, Fs, y3, y4, y5, y6, k1, k2, rfl⟩ := hlp
  refine ⟨Fs, ?_, Nat.le_trans k1 (Nat.pow_le_pow_right (by decide) hC), k2⟩
  refine gDef_ev' (fB := f_Lrising) [.val (.int (C : Nat)), .val (.int M), .un, .un, .un, .un, .un] rfl rfl ?_
  unfold f_Lrising
  refine (sSeq_nx (e := [.val (.int (C : Nat)), .val (.int M), .val (.list [tiD [0]]), .un, .un, .un, .un]) (by rfl)).trans ?_
  exact (sSeq_nx (sFor_ev hrg l1)).trans rfl

/-! the constraints of the columns -/
theorem sol_app {cs ds : List Con} {X : Nat → Int} : Sol (cs ++ ds) X ↔ Sol cs X ∧ Sol ds X := by
  unfold Sol
  constructor
  · intro h
    exact ⟨fun c hc => h c (List.mem_append_left _ hc), fun c hc => h c (List.mem_append_right _ hc)⟩
  · rintro ⟨h1, h2⟩ c hc
    rcases List.mem_append.mp hc with hc | hc
    · exact h1 c hc
    · exact h2 c hc
theorem ix_app {cs ds : List Con} {N : Nat} (h1 : Ix cs N) (h2 : Ix ds N) : Ix (cs ++ ds) N := fun c hc => by
  rcases List.mem_append.mp hc with hc | hc
  · exact h1 c hc
  · exact h2 c hc
def gap (X : Nat → Int) (j : Nat) : Int := X (j + 1) - X j - 1
def colC (k : Nat) (x : LCol) : List Con := (k, k + 1, x.least + 1) :: (match x.most with
  | none => []
  | some m => [(k + 1, k, -m - 1)])
theorem colC_sol (k : Nat) (x : LCol) (X : Nat → Int) : Sol (colC k x) X ↔ x.least ≤ gap X k ∧ ∀ m, x.most = some m → gap X k ≤ m := by
  unfold colC Sol gap
  cases hm : x.most with
  | none =>
    simp
    omega
  | some m =>
    simp
    omega
theorem colC_len (k : Nat) (x : LCol) : (colC k x).length ≤ 2 := by
  unfold colC
  cases x.most <;> simp
theorem colC_ix (k : Nat) (x : LCol) (N : Nat) (h : k + 1 < N) : Ix (colC k x) N := by
  unfold colC Ix
  cases x.most <;> simp <;> omega
def gp (X : Nat → Int) (x : LCell) : Int := X (x.c + x.w).toNat - X x.c.toNat - 1
def shC (k : Nat) (L : Int) (x : LCol) : List Con := match x.pc with
  | none => []
  | some p => [(k, k + 1, (p * L + 99) / 100)]
theorem shC_sol (k : Nat) (L : Int) (x : LCol) (X : Nat → Int) : Sol (shC k L x) X ↔ ∀ p, x.pc = some p → p * L ≤ 100 * (gap X k + 1) := by
  unfold shC Sol gap
  cases hm : x.pc with
  | none => simp
  | some p =>
    simp
    obtain ⟨q, hq⟩ : ∃ q : Int, q = p * L := ⟨_, rfl⟩
    rw [← hq]
    omega
theorem gap_sum (X : Nat → Int) (C : Nat) (h : ∀ j, j < C → 1 ≤ gap X j) : ∀ (s a : Nat), a + s + 1 ≤ C → 1 ≤ X (a + s + 1) - X a - 1
  | 0, a, ha => h a (by omega)
  | s + 1, a, ha => by
    have h1 := gap_sum X C h s a (by omega)
    have h2 := h (a + s + 1) (by omega)
    unfold gap at h2
    rw [show a + (s + 1) + 1 = a + s + 1 + 1 by omega]
    omega
theorem gp_pos (X : Nat → Int) (R C : Nat) (h : ∀ j, j < C → 1 ≤ gap X j) (x : LCell) (hx : CellOk R C x) : 1 ≤ gp X x := by
  have b2 := hx.c
  have b4 := hx.w
  have b6 := hx.cw
  have := gap_sum X C h (x.w.toNat - 1) x.c.toNat (by omega)
  unfold gp
  rw [show (x.c + x.w).toNat = x.c.toNat + (x.w.toNat - 1) + 1 by omega]
  exact this
/-- what the constraints say that don't hang on the last line -/
def KnownR (t : LTab) (ys : List Int) (X : Nat → Int) : Prop :=
  (∀ (j : Nat) (x : LCol), t.cols[j]? = some x → x.least ≤ gap X j ∧ ∀ m, x.most = some m → gap X j ≤ m) ∧ ∀ x ∈ t.cells, lg x.ws ≤ gp X x ∧ (cnt (gp X x) x.ws : Int) ≤ inn ys x.r x.h
theorem known_gap {t : LTab} (ht : TabOk t) {X : Nat → Int} (h : ∀ (j : Nat) (x : LCol), t.cols[j]? = some x → x.least ≤ gap X j ∧ ∀ m, x.most = some m → gap X j ≤ m) : ∀ j, j < t.cols.length → 1 ≤ gap X j := fun j hj => by
  have hx := List.getElem?_eq_getElem (l := t.cols) hj
  have h1 := (h j _ hx).1
  have h2 := (ht.col _ (List.mem_of_getElem? hx)).least
  omega
def ShareR (t : LTab) (L : Int) (X : Nat → Int) : Prop := ∀ (j : Nat) (x : LCol), t.cols[j]? = some x → ∀ p, x.pc = some p → p * L ≤ 100 * (gap X j + 1)
/-- a layout's column lines -/
def Lay (t : LTab) (ys : List Int) (X : Nat → Int) : Prop := X 0 = 0 ∧ KnownR t ys X ∧ ShareR t (X t.cols.length) X
theorem known_nn {t : LTab} (ht : TabOk t) {ys : List Int} {X : Nat → Int} (h0 : X 0 = 0) (h : KnownR t ys X) : ∀ v, v < t.cols.length + 1 → 0 ≤ X v := by
  intro v
  induction v with
  | zero => intro _; rw [h0]; exact Int.le_refl _
  | succ v ih =>
    intro hv
    have h1 := known_gap ht h.1 v (by omega)
    have h2 := ih (by omega)
    unfold gap at h1
    omega
theorem share_mono {t : LTab} (ht : TabOk t) {l l' : Int} (h : l ≤ l') {X : Nat → Int} (hs : ShareR t l' X) : ShareR t l X := fun j x hx p hp => by
  have h1 := hs j x hx p hp
  have h2 := (ht.col x (List.mem_of_getElem? hx)).pc p hp
  have h3 : p * l ≤ p * l' := Int.mul_le_mul_of_nonneg_left h (by omega)
  omega
def RoomR (t : LTab) (hs : List Int) : Prop := ∀ (j : Nat) (x : LRow) (h : Int), t.rows[j]? = some x → hs[j]? = some h → x.1 ≤ h
/-- shares of the whole, all together -/
theorem share_sum {L : Int} {X : Nat → Int} (hL : 0 ≤ L) : ∀ (cols : List LCol) (k : Nat), (∀ (j : Nat) (x : LCol), cols[j]? = some x → 0 ≤ gap X (k + j) + 1 ∧ ∀ p, x.pc = some p → p * L ≤ 100 * (gap X (k + j) + 1)) → (cols.filterMap (·.pc)).sum * L ≤ 100 * (X (k + cols.length) - X k)
  | [], k, _ => by simp
  | x :: cols, k, h => by
    have ih := share_sum hL cols (k + 1) fun j y hy => by
      have := h (j + 1) y (by simpa using hy)
      rw [show k + (j + 1) = k + 1 + j by omega] at this
      exact this
    obtain ⟨h1, h2⟩ := h 0 x rfl
    rw [Nat.add_zero] at h1 h2
    unfold gap at h1 h2
    rw [List.length_cons, show k + (cols.length + 1) = k + 1 + cols.length by omega, List.filterMap_cons]
    cases hm : x.pc with
    | none =>
      dsimp only
      omega
    | some p =>
      have h3 := h2 p hm
      dsimp only
      rw [List.sum_cons, Int.add_mul]
      omega
/-! ### the rest of k10 -/
theorem loop_cons {g : PyData → En → Option En} {b : En → Out} {d : PyData} {ds : List PyData} {e e1 e2 : En} (h1 : g d e = some e1) (h2 : b e1 = .nx e2) : loopF g b (d :: ds) e = loopF g b ds e2 := by
  rw [loopF, h1]
  simp only [h2]
theorem compF_filterS {α : Type} {g : PyData → En → Option En} {ga : En → Option Bool} {fe : En → Option PyData} {env : En} {c k : α → PyData} {p : α → Bool} : ∀ {xs : List α},
    (∀ x ∈ xs, ∃ e1, g (c x) env = some e1 ∧ ga e1 = some (p x) ∧ (p x = true → fe e1 = some (k x))) → compF g ga fe env (xs.map c) = some ((xs.filter p).map k)
  | [], _ => rfl
  | d :: ds, h => by
    obtain ⟨e1, h1, h2, h3⟩ := h d List.mem_cons_self
    have ih := compF_filterS (xs := ds) fun x hx => h x (List.mem_cons_of_mem _ hx)
    rw [List.map_cons]
    simp only [compF, h1, h2]
    cases hp : p d with
    | true =>
      rw [hp] at h3
      simp only [h3 rfl, ih, List.filter_cons, hp, if_true, List.map_cons]
    | false =>
      simp only [ih, List.filter_cons, hp, Bool.false_eq_true, if_false]
theorem inn_gap (xs : List Int) (j : Nat) : inn xs (j : Nat) 1 = gap (at0 xs) j := by
  unfold inn gap at0
  rw [show ((j : Nat) + (1 : Int)).toNat = j + 1 from by omega, Int.toNat_natCast]
theorem ris_gap {M : Int} {n : Nat} {x : List Int} (h : Ris M n x) : ∀ j, j < n → 1 ≤ gap (at0 x) j := fun j hj => by
  have := h.up j hj
  show 1 ≤ x.getD (j + 1) 0 - x.getD j 0 - 1
  omega
/-- right lines are layouts -/
theorem lay_iff (t : LTab) (ht : TabOk t) (xs ys : List Int) : (Ris 18 t.cols.length xs ∧ ColsR t xs ∧ CellsR t xs ys) ↔ (xs.length = t.cols.length + 1 ∧ Lay t ys (at0 xs) ∧ at0 xs t.cols.length ≤ 18) := by
  constructor
  · rintro ⟨h1, h2, h3⟩
    have hl := h1.len
    refine ⟨hl, ⟨h1.z, ⟨fun j x hx => ?_, h3⟩, fun j x hx p hp => ?_⟩, ?_⟩
    · have := h2 j x hx
      rw [inn_gap] at this
      exact ⟨this.1, this.2.1⟩
    · have := (h2 j x hx).2.2 p hp
      rw [inn_gap, hl, Nat.add_sub_cancel] at this
      exact this
    · have h0 := ht.nc.1
      have := h1.mx (t.cols.length - 1) (by omega)
      rw [show t.cols.length - 1 + 1 = t.cols.length from by omega] at this
      exact this
  · rintro ⟨hl, ⟨h0, ⟨h1, h3⟩, h2⟩, h4⟩
    have hg := known_gap ht h1
    refine ⟨⟨hl, h0, fun j hj => ?_, fun j hj => ?_⟩, fun j x hx => ?_, h3⟩
    · have := hg j hj
      unfold gap at this
      show at0 xs j + 2 ≤ at0 xs (j + 1)
      omega
    · have up : ∀ d : Nat, j + 1 + d ≤ t.cols.length → at0 xs (j + 1) ≤ at0 xs (j + 1 + d) := by
        intro d
        induction d with
        | zero => intro _; exact Int.le_refl _
        | succ d ih =>
          intro hd
          have e1 := ih (by omega)
          have e2 := hg (j + 1 + d) (by omega)
          unfold gap at e2
          rw [show j + 1 + (d + 1) = j + 1 + d + 1 from by omega]
          omega
      have := up (t.cols.length - (j + 1)) (by omega)
      rw [show j + 1 + (t.cols.length - (j + 1)) = t.cols.length from by omega] at this
      show at0 xs (j + 1) ≤ 18
      omega
    · rw [inn_gap, hl, Nat.add_sub_cancel]
      exact ⟨(h1 j x hx).1, (h1 j x hx).2, h2 j x hx⟩
theorem la_inn (hs : List Int) (j : Nat) (h : Int) (hj : hs[j]? = some h) : inn (laF hs) (j : Nat) 1 = h := by
  have := (laF_spec hs).2.2 j h hj
  unfold inn
  rw [show ((j : Nat) + (1 : Int)).toNat = j + 1 from by omega, Int.toNat_natCast, this]
  omega
theorem room_iff (t : LTab) (hs : List Int) (hl : hs.length = t.rows.length) : RowsR t (laF hs) ↔ RoomR t hs := by
  constructor
  · intro h j x v hx hv
    have := h j x hx
    rw [la_inn hs j v hv] at this
    exact this
  · intro h j x hx
    obtain ⟨hj, _⟩ := List.getElem?_eq_some_iff.mp hx
    have hv := List.getElem?_eq_getElem (l := hs) (show j < hs.length by omega)
    rw [la_inn hs j _ hv]
    exact h j x _ hx hv
/-! the least of lists -/
theorem mn2_ev {f g : En → Option PyData} {env : En} {a b : Int} (h1 : f env = some (.int a)) (h2 : g env = some (.int b)) : eCall mn2 (aCons f (aCons g aNil)) env = some (.int (if b < a then b else a)) := (eCall_ev (aCons_ev h1 (aCons_ev h2 aNil_ev)) rfl)
theorem sPut_ev {i : Nat} {fk f : En → Option PyData} {env : En} {d : PyData} {ds : List PyData} {k : Int} {j : Nat} (h1 : f env = some d) (h2 : env[i]? = some (.own ds)) (h3 : fk env = some (.int k)) (h4 : ixD ds.length (.int k) = some j) : sPut i fk f env = .nx (env.set i (.own (ds.set j d))) := by
  unfold sPut
  rw [h1, h2, h3]
  simp only [h4]
theorem least_in (A : PyData) (x : List Int) (n : Nat) (hx : x.length = n) (hn : n ≤ 100) (b : List Int) (hb : b.length = n) (z3 : Sl) : ∃ (b' : List Int) (w3 : Sl), b_Lleast_2 [.val A, .own (b.map .int), .val (tiD x), z3] = .nx [.val A, .own (b'.map .int), .val (tiD x), w3] ∧ b'.length = n ∧ ∀ v, v < n → b'.getD v 0 = if x.getD v 0 < b.getD v 0 then x.getD v 0 else b.getD v 0 := by
  have lp : ∃ e', loopF (gVal 3) b_Lleast_1 (rngD 0 n) [.val A, .own (b.map .int), .val (tiD x), z3] = .nx e' ∧ ∃ (b' : List Int) (w3 : Sl), e' = [.val A, .own (b'.map .int), .val (tiD x), w3] ∧ b'.length = n ∧ ∀ v, b'.getD v 0 = if v < n ∧ x.getD v 0 < b.getD v 0 then x.getD v 0 else b.getD v 0 := by
    refine loop_rng (fun j e => ∃ (b' : List Int) (w3 : Sl), e = [.val A, .own (b'.map .int), .val (tiD x), w3] ∧ b'.length = n ∧ ∀ v, b'.getD v 0 = if v < j ∧ x.getD v 0 < b.getD v 0 then x.getD v 0 else b.getD v 0) ?_ ⟨b, z3, rfl, hb, fun v => by rw [if_neg (fun z => by omega)]⟩
    rintro j e hj ⟨b', w3, rfl, hl, hv⟩
    obtain ⟨jv, hjv⟩ : ∃ z : Int, z = 0 + (j : Nat) := ⟨_, rfl⟩
    have hjv' : jv = (j : Nat) := by omega
    rw [← hjv]
    obtain ⟨m, hm⟩ : ∃ m : Int, m = if x.getD j 0 < b'.getD j 0 then x.getD j 0 else b'.getD j 0 := ⟨_, rfl⟩
    have a1 : atI (b'.map PyData.int) jv = some (.int (b'.getD j 0)) := by rw [hjv']; exact atI_map _ _ _ _ (by simp [List.getD, show j < b'.length by omega])
    have a2 : atI (x.map PyData.int) jv = some (.int (x.getD j 0)) := by rw [hjv']; exact atI_map _ _ _ _ (by simp [List.getD, show j < x.length by omega])
    refine ⟨[.val A, .own (b'.map .int), .val (tiD x), .val (.int jv)], rfl, [.val A, .own ((b'.set j m).map .int), .val (tiD x), .val (.int jv)], .inl ?_, b'.set j m, .val (.int jv), rfl, by rw [List.length_set]; exact hl, fun v => ?_⟩
    · refine (sPut_ev (j := j) (mn2_ev (eIxO_ev (i := 1) rfl rfl a1) (e2_ev (x := tiD x) (y := .int jv) rfl rfl a2)) rfl rfl (by rw [hjv']; exact ixN_nat (by rw [List.length_map]; omega))).trans ?_
      rw [← hm, List.map_set]
      rfl
    · rw [getD_set b' j v m (by omega)]
      by_cases hvj : v = j
      · have hbj : b'.getD j 0 = b.getD j 0 := by rw [hv j, if_neg (fun z => Nat.lt_irrefl _ z.1)]
        rw [if_pos hvj, hvj, hm, hbj]
        by_cases h : x.getD j 0 < b.getD j 0
        · rw [if_pos h, if_pos ⟨by omega, h⟩]
        · rw [if_neg h, if_neg (fun z => h z.2)]
      · rw [if_neg hvj, hv v]
        by_cases h : v < j ∧ x.getD v 0 < b.getD v 0
        · rw [if_pos h, if_pos ⟨by omega, h.2⟩]
        · rw [if_neg h, if_neg (fun z => h ⟨by omega, z.2⟩)]
  obtain ⟨e', hl, b', w3, rfl, h1, h2⟩ := lp
  refine ⟨b', w3, ?_, h1, fun v hv => ?_⟩
  · unfold b_Lleast_2
    refine sFor_ev (ds := rngD 0 n) ?_ hl
    have := iR1_ev (fa := aCons (eCall lenA (aCons (eBor 1) aNil)) aNil) (env := [.val A, .own (b.map .int), .val (tiD x), z3]) (N := (n : Nat)) (aCons_ev (eCall_ev (aCons_ev rfl aNil_ev) (by show some (PyData.int (List.length _ : Nat)) = _; rw [List.length_map, hb])) aNil_ev) (by omega) (by omega)
    rw [Int.toNat_natCast] at this
    exact this
  · rw [h2 v]
    by_cases h : x.getD v 0 < b.getD v 0
    · rw [if_pos h, if_pos ⟨hv, h⟩]
    · rw [if_neg h, if_neg (fun z => h z.2)]
theorem least_loop (A : PyData) (n : Nat) (hn : n ≤ 100) (m : List Int) (hm : m.length = n) : ∀ (rest : List (List Int)) (b : List Int) (z2 z3 : Sl), b.length = n → (∀ v, v < n → m.getD v 0 ≤ b.getD v 0) → (∀ x ∈ rest, x.length = n ∧ ∀ v, v < n → m.getD v 0 ≤ x.getD v 0) → (m ∈ rest ∨ b = m) →
    ∃ w2 w3, loopF (gVal 2) b_Lleast_2 (rest.map tiD) [.val A, .own (b.map .int), z2, z3] = .nx [.val A, .own (m.map .int), w2, w3] := by
  intro rest
  induction rest with
  | nil =>
    intro b z2 z3 hb _ _ h
    rcases h with h | h
    · cases h
    · exact ⟨z2, z3, by rw [h]; rfl⟩
  | cons x rest ih =>
    intro b z2 z3 hb h1 h2 h3
    obtain ⟨k1, k2⟩ := h2 x List.mem_cons_self
    obtain ⟨b', w3, q1, q2, q3⟩ := least_in A x n k1 hn b hb z3
    obtain ⟨v2, v3, hi⟩ := ih b' (.val (tiD x)) w3 q2 (fun v hv => by
      rw [q3 v hv]
      split
      · exact k2 v hv
      · exact h1 v hv) (fun y hy => h2 y (List.mem_cons_of_mem _ hy)) (by
      rcases h3 with h3 | h3
      · rcases List.mem_cons.mp h3 with e | h3
        · right
          subst e
          refine list_ext0 (by rw [q2, hm]) fun v hv => ?_
          rw [q2] at hv
          show b'.getD v 0 = m.getD v 0
          rw [q3 v hv]
          have := h1 v hv
          split <;> omega
        · exact .inl h3
      · right
        subst h3
        refine list_ext0 (by rw [q2, hb]) fun v hv => ?_
        rw [q2] at hv
        show b'.getD v 0 = b.getD v 0
        rw [q3 v hv]
        have := k2 v hv
        rw [if_neg (by omega)])
    refine ⟨v2, v3, ?_⟩
    rw [← hi]
    exact loop_cons rfl q1
theorem least_ev (L : List (List Int)) (n : Nat) (hn : n ≤ 100) (m : List Int) (hm : m ∈ L) (h : ∀ x ∈ L, x.length = n ∧ ∀ v, v < n → m.getD v 0 ≤ x.getD v 0) : g_Lleast [.list (L.map tiD)] = some (tiD m) := by
  obtain ⟨A, hA⟩ : ∃ A : PyData, A = .list (L.map tiD) := ⟨_, rfl⟩
  rw [← hA]
  cases L with
  | nil => cases hm
  | cons b L =>
    obtain ⟨w2, w3, hl⟩ := least_loop A n hn m (h m hm).1 (b :: L) b .un .un (h b List.mem_cons_self).1 (h b List.mem_cons_self).2 h (.inl hm)
    refine gDef_ev' (fB := f_Lleast) [.val A, .un, .un, .un] rfl rfl ?_
    unfold f_Lleast
    refine (sSeq_nx (e := [.val A, .own (b.map .int), .un, .un]) (sOwn_ev (by
      unfold fList
      rw [e2_ev (x := A) (y := .int 0) (d := tiD b) rfl rfl (by rw [hA]; exact atI_map tiD (b :: L) 0 b rfl)]))).trans ?_
    refine (sSeq_nx (sFor_ev (ds := (b :: L).map tiD) (iSeq_l (by rw [hA]; rfl)) hl)).trans ?_
    exact sRet_ev (eTupO_ev rfl)

/-! the greatest heights -/
theorem chI_covE (x : LCell) (k : Int) {f g h : En → Option PyData} {env : En} (h1 : f env = some (.int x.r)) (h2 : g env = some (.int k)) (h3 : h env = some (.int (x.r + x.h))) : chI (fun i j => decide (i ≤ j)) (fun i j => decide (i < j)) f g h env = some (.bool (decide (x.r ≤ k ∧ k < x.r + x.h))) := by
  unfold chI
  rw [h1, h2]
  simp only []
  by_cases hr : x.r ≤ k
  · rw [if_pos (decide_eq_true hr), h3]
    show some (PyData.bool (decide (k < x.r + x.h))) = _
    by_cases hk : k < x.r + x.h
    · rw [decide_eq_true hk, decide_eq_true (show x.r ≤ k ∧ k < x.r + x.h from ⟨hr, hk⟩)]
    · rw [decide_eq_false hk, decide_eq_false (fun z : x.r ≤ k ∧ k < x.r + x.h => hk z.2)]
  · rw [if_neg (by rw [decide_eq_true_eq]; exact hr), decide_eq_false (fun z : x.r ≤ k ∧ k < x.r + x.h => hr z.1)]
/-- a row's greatest height -/
def GH (t : LTab) (j : Nat) (row : LRow) (g : Int) : Prop := row.1 ≤ g ∧ (∀ x ∈ t.cells, x.r ≤ (j : Nat) → ((j : Nat) : Int) < x.r + x.h → (x.ws.length : Int) ≤ g) ∧ g ≤ 4
/-! heights that give all texts their room -/
theorem la_sum (hs : List Int) : ∀ (n a : Nat), a + n < hs.length → (∀ j, a ≤ j → j ≤ a + n → 1 ≤ hs.getD j 0) → hs.getD a 0 ≤ inn (laF hs) (a : Nat) ((n + 1 : Nat) : Int) ∧ (n : Int) ≤ inn (laF hs) (a : Nat) ((n + 1 : Nat) : Int) - hs.getD a 0 := by
  intro n
  induction n with
  | zero =>
    intro a ha h
    have := la_inn hs a (hs.getD a 0) (by simp [List.getD, show a < hs.length by omega])
    have e : inn (laF hs) (a : Nat) ((0 + 1 : Nat) : Int) = hs.getD a 0 := this
    rw [e]
    omega
  | succ n ih =>
    intro a ha h
    have h1 := ih a (by omega) fun j q1 q2 => h j q1 (by omega)
    have h2 := la_inn hs (a + n + 1) (hs.getD (a + n + 1) 0) (by simp [List.getD, show a + n + 1 < hs.length by omega])
    have h3 := h (a + n + 1) (by omega) (by omega)
    unfold inn at *
    rw [show ((a : Nat) + ((n + 1 : Nat) : Int)).toNat = a + n + 1 from by omega] at h1
    rw [show (((a + n + 1 : Nat) : Int) + 1).toNat = a + n + 1 + 1 from by omega, Int.toNat_natCast] at h2
    rw [show ((a : Nat) + ((n + 1 + 1 : Nat) : Int)).toNat = a + n + 1 + 1 from by omega]
    rw [Int.toNat_natCast] at h1 ⊢
    omega
theorem lines_le (W : Int) : ∀ (ws : List Str) (s : List (List Str) × List Str), lines (ws.foldl (step W) s) ≤ lines s + ws.length
  | [], s => Nat.le_refl _
  | w :: ws, s => by
    have ih := lines_le W ws (step W s w)
    have h1 : lines (step W s w) ≤ lines s + 1 := by
      unfold step lines
      split
      · rename_i h
        rw [if_neg h.1]
        simp
      · simp
    rw [List.foldl_cons, List.length_cons]
    omega
theorem cnt_len (W : Int) (ws : List Str) : cnt W ws ≤ ws.length := by
  have h := lines_le W ws ([], [])
  have e : lines (([], []) : List (List Str) × List Str) = 0 := rfl
  rw [e, Nat.zero_add] at h
  refine Nat.le_trans (Nat.le_of_eq ?_) h
  unfold cnt wrapM lines
  simp only []
  split <;> simp

theorem la_bound (hs : List Int) (m : Int) (hm : 0 ≤ m) (h : ∀ j, j < hs.length → hs.getD j 0 ≤ m) : ∀ j, j ≤ hs.length → (laF hs).getD j 0 ≤ (m + 1) * (j : Nat) := by
  intro j
  induction j with
  | zero => intro _; rw [(laF_spec hs).2.1]; simp
  | succ j ih =>
    intro hj
    have h1 := ih (by omega)
    have h2 := (laF_spec hs).2.2 j (hs.getD j 0) (by simp [List.getD, show j < hs.length by omega])
    have h3 := h j (by omega)
    rw [h2]
    have e : (m + 1) * ((j + 1 : Nat) : Int) = (m + 1) * (j : Nat) + (m + 1) := by rw [show ((j + 1 : Nat) : Int) = (j : Nat) + 1 from rfl, Int.mul_add, Int.mul_one]
    omega
/-- the rows of a cell -/
theorem cell_inn (t : LTab) (ht : TabOk t) (hs : List Int) (hl : hs.length = t.rows.length) (h1 : ∀ j, j < hs.length → 1 ≤ hs.getD j 0) (x : LCell) (hx : x ∈ t.cells) : hs.getD x.r.toNat 0 ≤ inn (laF hs) x.r x.h ∧ 1 ≤ inn (laF hs) x.r x.h := by
  have c := ht.cl x hx
  have b1 := c.r
  have b2 := c.h
  have b3 := c.rh
  have := la_sum hs (x.h.toNat - 1) x.r.toNat (by omega) fun j q1 q2 => h1 j (by omega)
  rw [show ((x.h.toNat - 1 + 1 : Nat) : Int) = x.h from by omega, Int.toNat_of_nonneg b1] at this
  have h2 := h1 x.r.toNat (by omega)
  omega
/-- room for every word on a line of its own: what is left of a layout -/
def Free (t : LTab) (hs : List Int) : Prop := ∀ x ∈ t.cells, (x.ws.length : Int) ≤ inn (laF hs) x.r x.h
theorem free_lay {t : LTab} {hs hs' : List Int} (h : Free t hs) (h' : Free t hs') (X : Nat → Int) : Lay t (laF hs) X → Lay t (laF hs') X := fun ⟨a, ⟨b, c⟩, d⟩ =>
  ⟨a, ⟨b, fun x hx => ⟨(c x hx).1, by have := cnt_len (gp X x) x.ws; have := h' x hx; omega⟩⟩, d⟩
theorem gD_of {α : Type} {l : List α} {j : Nat} {d : α} (h : j < l.length) : l[j]? = some (l.getD j d) := by simp [List.getD, h]
/-! members -/
theorem lay_tis : ∀ L : List (List Int), PyData.canLayAll0 (L.map tiD) = true ∧ PyData.depthAll (L.map tiD) ≤ 1
  | [] => ⟨rfl, Nat.zero_le _⟩
  | x :: L => by
    obtain ⟨h1, h2⟩ := lay_tis L
    obtain ⟨k1, k2⟩ := lay_ints x
    rw [List.map_cons]
    refine ⟨?_, ?_⟩
    · simp [tiD, PyData.canLayAll0, PyData.canLay0, h1, k1]
    · simp [tiD, PyData.depthAll, PyData.depth]
      omega
theorem notIn_ti (x : List Int) (L : List (List Int)) (h : x ∈ L) : notInT (tiD x) (.list (L.map tiD)) = some (.bool false) := by
  have s1 := (shaped_ints x).2
  have s2 : SeqAt.shaped (.list (L.map tiD)) = true := by
    obtain ⟨h1, h2⟩ := lay_tis L
    unfold SeqAt.shaped
    simp [PyData.canLay0, h1, PyData.depth]
    omega
  have ha : ((L.map tiD).any fun z => PyData.eqv z (tiD x)) = true := by
    rw [List.any_eq_true]
    refine ⟨tiD x, List.mem_map.mpr ⟨x, h, rfl⟩, ?_⟩
    show PyData.eqvAll _ _ = true
    rw [eqv_ints]
    exact decide_eq_true rfl
  have hi : inT (tiD x) (.list (L.map tiD)) = some (.bool true) := by
    show (if (SeqAt.shaped (tiD x) && SeqAt.shaped (.list (L.map tiD))) = true then some (PyData.bool ((L.map tiD).any fun z => PyData.eqv z (tiD x))) else none) = _
    rw [if_pos (by rw [show SeqAt.shaped (tiD x) = true from s1, s2]; rfl), ha]
  unfold notInT
  rw [hi]
  rfl
/-- the long table -/
def longT (m d : Nat) : LTab := ⟨[⟨1, none, none, "left"⟩, ⟨1, none, none, "left"⟩], List.replicate d (1, false, false), ⟨0, 0, (d : Nat), 1, List.replicate m ("a" : Str)⟩ :: (List.range d).map fun k : Nat => ⟨(k : Nat), 1, 1, 1, []⟩⟩
theorem long_ev (m d : Int) (hm : 1 ≤ m ∧ m ≤ 4) (hd : 2 ≤ d ∧ d ≤ 3) : ∃ t, g_Llong_table [.int m, .int d] = some (tabD t) ∧ TabOk t := by
  have ok : ∀ m d : Nat, 1 ≤ m → m ≤ 4 → 2 ≤ d → d ≤ 3 → TabOk (longT m d) := fun m d h1 h2 h3 h4 => by
    refine ⟨⟨(by decide : 1 ≤ 2), (by decide : 2 ≤ 3)⟩, ?_, fun x hx => ?_, fun x hx => ?_, fun x hx => ?_, ?_⟩
    · show 1 ≤ (List.replicate d _).length ∧ (List.replicate d _).length ≤ 3
      rw [List.length_replicate]
      omega
    · have hx' : x = ⟨1, none, none, "left"⟩ := by
        have : x ∈ ([⟨1, none, none, "left"⟩, ⟨1, none, none, "left"⟩] : List LCol) := hx
        simpa using this
      rw [hx']
      exact ⟨⟨by decide, by decide⟩, fun m h => (by cases h), fun m h => (by cases h), List.mem_cons_self⟩
    · have := List.eq_of_mem_replicate hx
      rw [this]
      exact ⟨by decide, by decide⟩
    · have hx' : x ∈ (⟨0, 0, (d : Nat), 1, List.replicate m ("a" : Str)⟩ :: (List.range d).map fun k : Nat => (⟨(k : Nat), 1, 1, 1, []⟩ : LCell)) := hx
      show CellOk ((List.replicate d _).length : Nat) ((2 : Nat) : Int) x
      rw [List.length_replicate]
      rcases List.mem_cons.mp hx' with rfl | hx'
      · exact ⟨by simp, by simp, by simp; omega, by simp, by simp, by simp, by simp; omega, fun w hw => by rw [List.eq_of_mem_replicate hw]; exact List.mem_cons_self, by simp; omega⟩
      · obtain ⟨k, hk, rfl⟩ := List.mem_map.mp hx'
        have := List.mem_range.mp hk
        exact ⟨by simp, by simp, by simp, by simp, by simp; omega, by simp, by simp, fun w hw => (by cases hw), by simp⟩
    · show ((_ :: (List.range d).map _) : List LCell).length ≤ 9
      rw [List.length_cons, List.length_map, List.length_range]
      omega
  rcases (show m = 1 ∨ m = 2 ∨ m = 3 ∨ m = 4 from by omega) with rfl | rfl | rfl | rfl <;> rcases (show d = 2 ∨ d = 3 from by omega) with rfl | rfl
  · exact ⟨longT 1 2, by kernel_rfl, ok 1 2 (by decide) (by decide) (by decide) (by decide)⟩
  · exact ⟨longT 1 3, by kernel_rfl, ok 1 3 (by decide) (by decide) (by decide) (by decide)⟩
  · exact ⟨longT 2 2, by kernel_rfl, ok 2 2 (by decide) (by decide) (by decide) (by decide)⟩
  · exact ⟨longT 2 3, by kernel_rfl, ok 2 3 (by decide) (by decide) (by decide) (by decide)⟩
  · exact ⟨longT 3 2, by kernel_rfl, ok 3 2 (by decide) (by decide) (by decide) (by decide)⟩
  · exact ⟨longT 3 3, by kernel_rfl, ok 3 3 (by decide) (by decide) (by decide) (by decide)⟩
  · exact ⟨longT 4 2, by kernel_rfl, ok 4 2 (by decide) (by decide) (by decide) (by decide)⟩
  · exact ⟨longT 4 3, by kernel_rfl, ok 4 3 (by decide) (by decide) (by decide) (by decide)⟩

/-! ### violations -/
theorem plc_ev (ws : List Str) (W : Int) (h : ∀ w ∈ ws, w.length ≤ 8) (hl : ws.length ≤ 100) : g_line_count [.tuple (tws ws), .int W] = some (if W < lg ws then .none else .int (cnt W ws : Nat)) := by
  have hw := wrap_ev ws W h hl
  by_cases hW : W < lg ws
  · rw [if_pos hW] at hw ⊢
    refine gDef_ev' (fB := f_line_count) [.val (.tuple (tws ws)), .val (.int W), .un] rfl rfl ?_
    unfold f_line_count
    refine (sSeq_nx (sSet_ev (eCall_ev (aCons_ev rfl (aCons_ev rfl aNil_ev)) hw))).trans ?_
    exact sSeq_rt ((sIf_t (by rfl)).trans rfl)
  · rw [if_neg hW] at hw ⊢
    refine gDef_ev' (fB := f_line_count) [.val (.tuple (tws ws)), .val (.int W), .un] rfl rfl ?_
    unfold f_line_count
    refine (sSeq_nx (e := [.val (.tuple (tws ws)), .val (.int W), .val (.list (tls (wrapM W ws)))]) (sSet_ev (eCall_ev (aCons_ev rfl (aCons_ev rfl aNil_ev)) hw))).trans ?_
    refine (sSeq_nx (e := [.val (.tuple (tws ws)), .val (.int W), .val (.list (tls (wrapM W ws)))]) ((sIf_f (by rfl)).trans rfl)).trans ?_
    refine sRet_ev ((eCall_ev (aCons_ev rfl aNil_ev) rfl).trans ?_)
    show some (PyData.int (List.length _ : Nat)) = _
    rw [List.length_map]
theorem w8 {R C : Int} {x : LCell} (c : CellOk R C x) : ∀ w ∈ x.ws, w.length ≤ 8 := fun w hw => by
  have := (pool4_ok w (c.p w hw)).2.1
  omega
theorem lcc_ev {R C : Int} {x : LCell} (c : CellOk R C x) (W : Int) (hW : 1 ≤ W) : g_Lline_count [.tuple (tws x.ws), .int W] = some (if W < lg x.ws then .none else .int (cnt W x.ws : Nat)) := by
  have h := lcount_ev x.ws W (w8 c) c.l
  by_cases hw : W < lg x.ws
  · have hne : x.ws ≠ [] := fun z => by
      rw [z] at hw
      have e : lg [] = 0 := rfl
      omega
    rw [if_pos ⟨hw, hne⟩] at h
    rw [if_pos hw]
    exact h
  · rw [if_neg fun z => hw z.1] at h
    rw [if_neg hw]
    exact h
def vio (s : Str) (k : Nat) : PyData := .tuple [.str s, .int (k : Nat)]
open Classical in
noncomputable def vCell (xs ys : List Int) (k : Nat) (x : LCell) : List PyData := if CellR x xs ys then [] else [vio "cell" k]
open Classical in
noncomputable def vCol (xs : List Int) (L : Int) (k : Nat) (x : LCol) : List PyData :=
  (if inn xs (k : Nat) 1 < x.least then [vio "least" k] else []) ++ (if ∃ m, x.most = some m ∧ m < inn xs (k : Nat) 1 then [vio "most" k] else []) ++ (if ∃ p, x.pc = some p ∧ 100 * (inn xs (k : Nat) 1 + 1) < p * L then [vio "percent" k] else [])
noncomputable def vRow (ys : List Int) (k : Nat) (x : LRow) : List PyData := if inn ys (k : Nat) 1 < x.1 then [vio "row" k] else []
/-- over a list, counted from k -/
noncomputable def vAll {α : Type} (f : Nat → α → List PyData) : Nat → List α → List PyData
  | _, [] => []
  | k, x :: r => f k x ++ vAll f (k + 1) r
theorem vAll_len {α : Type} (f : Nat → α → List PyData) (m : Nat) (h : ∀ k x, (f k x).length ≤ m) : ∀ (k : Nat) (l : List α), (vAll f k l).length ≤ m * l.length
  | _, [] => by simp [vAll]
  | k, x :: r => by
    have := vAll_len f m h (k + 1) r
    have := h k x
    rw [vAll, List.length_append, List.length_cons, Nat.mul_succ]
    omega
theorem vAll_snoc {α : Type} (f : Nat → α → List PyData) : ∀ (k : Nat) (l : List α) (x : α), vAll f k (l ++ [x]) = vAll f k l ++ f (k + l.length) x
  | k, [], x => by simp [vAll]
  | k, y :: l, x => by
    rw [List.cons_append, vAll, vAll_snoc f (k + 1) l x, vAll, List.append_assoc, List.length_cons, show k + 1 + l.length = k + (l.length + 1) from by omega]
theorem take_succ' {α : Type} (l : List α) (n : Nat) (x : α) (h : l[n]? = some x) : l.take (n + 1) = l.take n ++ [x] := by
  rw [List.take_add_one, h]
  rfl
theorem enum_get : ∀ (k : Nat) (ds : List PyData) (j : Nat) (d : PyData), (enumD k ds)[j]? = some d → ∃ x, ds[j]? = some x ∧ d = .tuple [.int ((k + j : Nat) : Int), x]
  | k, [], j, d, h => by simp [enumD] at h
  | k, y :: ds, 0, d, h => by
    simp only [enumD, List.getElem?_cons_zero, Option.some.injEq] at h
    exact ⟨y, rfl, h.symm⟩
  | k, y :: ds, j + 1, d, h => by
    simp only [enumD, List.getElem?_cons_succ] at h
    obtain ⟨x, h1, h2⟩ := enum_get (k + 1) ds j d h
    exact ⟨x, by rw [List.getElem?_cons_succ]; exact h1, by rw [h2, show k + 1 + j = k + (j + 1) from by omega]⟩
theorem colInn (t : LTab) (ht : TabOk t) (hs : List Int) (hl : hs.length = t.cols.length) (h1 : ∀ j, j < hs.length → 1 ≤ hs.getD j 0) (x : LCell) (hx : x ∈ t.cells) : 1 ≤ inn (laF hs) x.c x.w := by
  have c := ht.cl x hx
  have b1 := c.c
  have b2 := c.w
  have b3 := c.cw
  have := la_sum hs (x.w.toNat - 1) x.c.toNat (by omega) fun j q1 q2 => h1 j (by omega)
  rw [show ((x.w.toNat - 1 + 1 : Nat) : Int) = x.w from by omega, Int.toNat_of_nonneg b1] at this
  have h2 := h1 x.c.toNat (by omega)
  omega
theorem in_ev (xs : List Int) (a s : Int) (f g h : En → Option PyData) (env : En) (h1 : f env = some (.tuple (xs.map .int))) (h2 : g env = some (.int a)) (h3 : h env = some (.int s)) (hb : 0 ≤ a ∧ 0 ≤ s ∧ a + s < xs.length) : eCall g_inner_size (aCons f (aCons g (aCons h aNil))) env = some (.int (inn xs a s)) ∧ eCall g_Linner (aCons f (aCons g (aCons h aNil))) env = some (.int (inn xs a s)) :=
  ⟨eCall_ev (aCons_ev h1 (aCons_ev h2 (aCons_ev h3 aNil_ev))) (inner_ev xs a s hb).1, eCall_ev (aCons_ev h1 (aCons_ev h2 (aCons_ev h3 aNil_ev))) (inner_ev xs a s hb).2⟩
open Classical in
theorem met_ev (t : LTab) (ht : TabOk t) (xs ys : List Int) (hx : xs.length = t.cols.length + 1) (hy : ys.length = t.rows.length + 1) (x : LCell) (hm : x ∈ t.cells) (hW : 1 ≤ inn xs x.c x.w) : g_is_cell_met [cellD x, .tuple [tiD xs, tiD ys]] = some (.bool (decide (CellR x xs ys))) := by
  have c := ht.cl x hm
  have b := c.r; have b1 := c.c; have b2 := c.h; have b3 := c.w; have b4 := c.rh; have b5 := c.cw
  have hl := plc_ev x.ws (inn xs x.c x.w) (w8 c) (by have := c.l; omega)
  obtain ⟨r, hr⟩ : ∃ r, r = (if inn xs x.c x.w < lg x.ws then PyData.none else .int (cnt (inn xs x.c x.w) x.ws : Nat)) := ⟨_, rfl⟩
  rw [← hr] at hl
  refine gDef_ev' (fB := f_is_cell_met) [.val (cellD x), .val (.tuple [tiD xs, tiD ys]), .un, .un, .un, .un, .un, .un, .un, .un] rfl rfl ?_
  unfold f_is_cell_met
  refine (sSeq_nx (e := [.val (cellD x), .val (.tuple [tiD xs, tiD ys]), .val (tiD xs), .val (tiD ys), .un, .un, .un, .un, .un, .un]) (sUnp_ev rfl rfl)).trans ?_
  refine (sSeq_nx (e := [.val (cellD x), .val (.tuple [tiD xs, tiD ys]), .val (tiD xs), .val (tiD ys), .val (.int x.r), .val (.int x.c), .val (.int x.h), .val (.int x.w), .val (.tuple (tws x.ws)), .un]) (sUnp_ev rfl rfl)).trans ?_
  refine (sSeq_nx (e := [.val (cellD x), .val (.tuple [tiD xs, tiD ys]), .val (tiD xs), .val (tiD ys), .val (.int x.r), .val (.int x.c), .val (.int x.h), .val (.int x.w), .val (.tuple (tws x.ws)), .val r]) (sSet_ev (eCall_ev (aCons_ev rfl (aCons_ev (in_ev xs x.c x.w _ _ _ _ rfl rfl rfl ⟨b1, by omega, by omega⟩).1 aNil_ev)) hl))).trans ?_
  refine sRet_ev ?_
  by_cases hw : inn xs x.c x.w < lg x.ws
  · rw [if_pos hw] at hr
    rw [hr, decide_eq_false (fun z : CellR x xs ys => by have := z.1; omega)]
    exact eAnd_f (by rfl)
  · rw [if_neg hw] at hr
    rw [hr]
    refine eAnd_t (by rfl) (e2_ev rfl (in_ev ys x.r x.h _ _ _ _ rfl rfl rfl ⟨b, by omega, by omega⟩).1 ((leD_int _ _).trans ?_))
    congr 2
    rw [decide_eq_decide]
    exact ⟨fun z => ⟨by omega, z⟩, fun z => z.2⟩
open Classical in
theorem pcells_comp (t : LTab) (ht : TabOk t) (xs ys : List Int) (hx : xs.length = t.cols.length + 1) (hy : ys.length = t.rows.length + 1) (hW : ∀ x ∈ t.cells, 1 ≤ inn xs x.c x.w) (a0 a2 a3 a4 a5 a6 a7 a9 a10 : Sl) : ∀ (cells : List LCell) (k : Nat), (∀ x ∈ cells, x ∈ t.cells) → compF (gT [8, 11]) t_violations_1 c_violations_1 [a0, .val (.tuple [tiD xs, tiD ys]), a2, a3, a4, a5, a6, a7, .un, a9, a10, .un] (enumD k (cells.map cellD)) = some (vAll (vCell xs ys) k cells)
  | [], k, _ => rfl
  | x :: cells, k, hm => by
    have ih := pcells_comp t ht xs ys hx hy hW a0 a2 a3 a4 a5 a6 a7 a9 a10 cells (k + 1) fun y hy' => hm y (List.mem_cons_of_mem _ hy')
    have hxm := hm x List.mem_cons_self
    have me := met_ev t ht xs ys hx hy x hxm (hW x hxm)
    have ht' : t_violations_1 [a0, .val (.tuple [tiD xs, tiD ys]), a2, a3, a4, a5, a6, a7, .val (.int (k : Nat)), a9, a10, .val (cellD x)] = some (!decide (CellR x xs ys)) := not_ev (tTr_ev (eCall_ev (aCons_ev rfl (aCons_ev rfl aNil_ev)) me) rfl)
    rw [List.map_cons, enumD, vAll]
    have hg : gT [8, 11] (.tuple [.int (k : Nat), cellD x]) [a0, .val (.tuple [tiD xs, tiD ys]), a2, a3, a4, a5, a6, a7, .un, a9, a10, .un] = some [a0, .val (.tuple [tiD xs, tiD ys]), a2, a3, a4, a5, a6, a7, .val (.int (k : Nat)), a9, a10, .val (cellD x)] := rfl
    simp only [compF, hg, ht', ih]
    unfold vCell
    by_cases h : CellR x xs ys
    · rw [if_pos h, decide_eq_true h]
      rfl
    · rw [if_neg h, decide_eq_false h]
      rfl
theorem isnt_oD' (o : Option Int) : isntD (oD o) .none = some (.bool (decide (o ≠ none))) := by cases o <;> rfl
open Classical in
/-- the three tests of a column, on data -/
theorem app3 (xs : List Int) (L : Int) (hL : 0 ≤ L ∧ L ≤ 100000) (k : Nat) (kv : Int) (hk : kv = (k : Nat)) (x : LCol) (cx : ColOk x) (Wv : Int) (hW : Wv = inn xs (k : Nat) 1) (hWb : -100000 ≤ Wv ∧ Wv ≤ 100000) (i iw il im ip : Nat) (kk lst : En → Option PyData) (env : En) (acc : List PyData) (hacc : acc.length ≤ 1000) (h0 : env[i]? = some (.own acc))
    (hkk : ∀ ac, kk (env.set i (.own ac)) = some (.int kv)) (hw : ∀ ac, eVar iw (env.set i (.own ac)) = some (.int Wv)) (h1 : ∀ ac, eVar il (env.set i (.own ac)) = some (.int x.least)) (h2 : ∀ ac, eVar im (env.set i (.own ac)) = some (oD x.most)) (h3 : ∀ ac, eVar ip (env.set i (.own ac)) = some (oD x.pc)) (h4 : ∀ ac, lst (env.set i (.own ac)) = some (.int L)) (tail : En → Out) :
    sSeq (sIf (t1 (e2 ltD (eVar iw) (eVar il))) (sApp i (eTup (aCons (eC (.str "least")) (aCons kk aNil)))) sNil) (sSeq (sIf (tAnd' (t1 (e2 isntD (eVar im) (eC .none))) (t1 (e2 gtD (eVar iw) (eVar im)))) (sApp i (eTup (aCons (eC (.str "most")) (aCons kk aNil)))) sNil) (sSeq (sIf (tAnd' (t1 (e2 isntD (eVar ip) (eC .none))) (t1 (e2 ltD (e2 mulD (eC (.int 100)) (e2 addD (eVar iw) (eC (.int 1)))) (e2 mulD (eVar ip) lst)))) (sApp i (eTup (aCons (eC (.str "percent")) (aCons kk aNil)))) sNil) tail)) env = tail (env.set i (.own (acc ++ vCol xs L k x))) := by
  have e0 : env = env.set i (.own acc) := by
    obtain ⟨hi, he⟩ := List.getElem?_eq_some_iff.mp h0
    rw [← he, List.set_getElem_self]
  have hi := (List.getElem?_eq_some_iff.mp h0).1
  have ap : ∀ (s : Str) (ac : List PyData), ac.length ≤ 1010 → sApp i (eTup (aCons (eC (.str s)) (aCons kk aNil))) (env.set i (.own ac)) = .nx (env.set i (.own (ac ++ [vio s k]))) := fun s ac hac => by
    rw [sApp_ev (d := vio s k) ((eTup_ev (aCons_ev rfl (aCons_ev (hkk ac) aNil_ev)) (by simp)).trans (by rw [hk]; rfl)) (by rw [List.getElem?_set_self hi]) (by omega), List.set_set]
  obtain ⟨v1, hv1⟩ : ∃ v, v = (if inn xs (k : Nat) 1 < x.least then [vio "least" k] else []) := ⟨_, rfl⟩
  obtain ⟨v2, hv2⟩ : ∃ v, v = (if ∃ m, x.most = some m ∧ m < inn xs (k : Nat) 1 then [vio "most" k] else []) := ⟨_, rfl⟩
  obtain ⟨v3, hv3⟩ : ∃ v, v = (if ∃ p, x.pc = some p ∧ 100 * (inn xs (k : Nat) 1 + 1) < p * L then [vio "percent" k] else []) := ⟨_, rfl⟩
  have l1 : v1.length ≤ 1 := by rw [hv1]; split <;> simp
  have l2 : v2.length ≤ 1 := by rw [hv2]; split <;> simp
  have s1 : sIf (t1 (e2 ltD (eVar iw) (eVar il))) (sApp i (eTup (aCons (eC (.str "least")) (aCons kk aNil)))) sNil (env.set i (.own acc)) = .nx (env.set i (.own (acc ++ v1))) := by
    have hc : t1 (e2 ltD (eVar iw) (eVar il)) (env.set i (.own acc)) = some (decide (Wv < x.least)) := t1_ev (e2_ev (hw _) (h1 _) (ltD_int _ _))
    rw [hv1, ← hW]
    by_cases h : Wv < x.least
    · rw [if_pos h]
      exact (sIf_t (hc.trans (by rw [decide_eq_true h]))).trans (ap _ _ (by omega))
    · rw [if_neg h, List.append_nil]
      exact (sIf_f (hc.trans (by rw [decide_eq_false h]))).trans rfl
  have s2 : sIf (tAnd' (t1 (e2 isntD (eVar im) (eC .none))) (t1 (e2 gtD (eVar iw) (eVar im)))) (sApp i (eTup (aCons (eC (.str "most")) (aCons kk aNil)))) sNil (env.set i (.own (acc ++ v1))) = .nx (env.set i (.own (acc ++ v1 ++ v2))) := by
    rw [hv2, ← hW]
    cases hm : x.most with
    | none =>
      rw [if_neg (fun ⟨m, z, _⟩ => nomatch z), List.append_nil]
      exact (sIf_f (and_f (t1_ev (e2_ev ((h2 _).trans (by rw [hm])) rfl rfl)))).trans rfl
    | some m =>
      have hc : tAnd' (t1 (e2 isntD (eVar im) (eC .none))) (t1 (e2 gtD (eVar iw) (eVar im))) (env.set i (.own (acc ++ v1))) = some (decide (m < Wv)) := and_t (t1_ev (e2_ev ((h2 _).trans (by rw [hm])) rfl rfl)) (t1_ev (e2_ev (hw _) ((h2 _).trans (by rw [hm]; rfl)) (gtD_int _ _)))
      by_cases h : m < Wv
      · rw [if_pos ⟨m, rfl, h⟩]
        exact (sIf_t (hc.trans (by rw [decide_eq_true h]))).trans (ap _ _ (by rw [List.length_append]; omega))
      · rw [if_neg (fun ⟨m', z, z2⟩ => h (by cases z; exact z2)), List.append_nil]
        exact (sIf_f (hc.trans (by rw [decide_eq_false h]))).trans rfl
  have s3 : sIf (tAnd' (t1 (e2 isntD (eVar ip) (eC .none))) (t1 (e2 ltD (e2 mulD (eC (.int 100)) (e2 addD (eVar iw) (eC (.int 1)))) (e2 mulD (eVar ip) lst)))) (sApp i (eTup (aCons (eC (.str "percent")) (aCons kk aNil)))) sNil (env.set i (.own (acc ++ v1 ++ v2))) = .nx (env.set i (.own (acc ++ v1 ++ v2 ++ v3))) := by
    rw [hv3, ← hW]
    cases hp : x.pc with
    | none =>
      rw [if_neg (fun ⟨m, z, _⟩ => nomatch z), List.append_nil]
      exact (sIf_f (and_f (t1_ev (e2_ev ((h3 _).trans (by rw [hp])) rfl rfl)))).trans rfl
    | some p =>
      have pb := cx.pc p hp
      have hc : tAnd' (t1 (e2 isntD (eVar ip) (eC .none))) (t1 (e2 ltD (e2 mulD (eC (.int 100)) (e2 addD (eVar iw) (eC (.int 1)))) (e2 mulD (eVar ip) lst))) (env.set i (.own (acc ++ v1 ++ v2))) = some (decide (100 * (Wv + 1) < p * L)) := and_t (t1_ev (e2_ev ((h3 _).trans (by rw [hp])) rfl rfl)) (t1_ev (e2_ev (e2_ev rfl (e2_ev (hw _) rfl (addD_int _ _)) (mulD_int (by unfold CMul; omega))) (e2_ev ((h3 _).trans (by rw [hp]; rfl)) (h4 _) (mulD_int (by unfold CMul; omega))) (ltD_int _ _)))
      by_cases h : 100 * (Wv + 1) < p * L
      · rw [if_pos ⟨p, rfl, h⟩]
        exact (sIf_t (hc.trans (by rw [decide_eq_true h]))).trans (ap _ _ (by rw [List.length_append, List.length_append]; omega))
      · rw [if_neg (fun ⟨m', z, z2⟩ => h (by cases z; exact z2)), List.append_nil]
        exact (sIf_f (hc.trans (by rw [decide_eq_false h]))).trans rfl
  rw [e0, sSeq_nx s1, sSeq_nx s2, sSeq_nx s3, List.set_set]
  unfold vCol
  rw [← hv1, ← hv2, ← hv3, List.append_assoc, List.append_assoc, List.append_assoc]
theorem vCol_len (xs : List Int) (L : Int) (k : Nat) (x : LCol) : (vCol xs L k x).length ≤ 3 := by
  unfold vCol
  rw [List.length_append, List.length_append]
  split <;> split <;> split <;> simp
theorem pcol_ev (xs : List Int) (N : Nat) (hx : xs.length = N + 1) (k : Nat) (kv : Int) (hk : kv = (k : Nat)) (hkN : k < N) (x : LCol) (cx : ColOk x) (hL : 0 ≤ xs.getD N 0 ∧ xs.getD N 0 ≤ 100000) (hWb : -100000 ≤ inn xs (k : Nat) 1 ∧ inn xs (k : Nat) 1 ≤ 100000) : g_column_violations [.int kv, colD x, tiD xs] = some (.list (vCol xs (xs.getD N 0) k x)) := by
  refine gDef_ev' (fB := f_column_violations) [.val (.int kv), .val (colD x), .val (tiD xs), .un, .un, .un, .un, .un] rfl rfl ?_
  unfold f_column_violations
  refine (sSeq_nx (e := [.val (.int kv), .val (colD x), .val (tiD xs), .val (.int x.least), .val (oD x.most), .val (oD x.pc), .un, .un]) (sUnp_ev (d := .tuple [.int x.least, oD x.most, oD x.pc]) (by rfl) rfl)).trans ?_
  refine (sSeq_nx (e := [.val (.int kv), .val (colD x), .val (tiD xs), .val (.int x.least), .val (oD x.most), .val (oD x.pc), .val (.int (inn xs (k : Nat) 1)), .un]) (sSet_ev ((in_ev xs kv 1 _ _ _ _ rfl rfl rfl ⟨by omega, by omega, by omega⟩).1.trans (by rw [hk])))).trans ?_
  refine (sSeq_nx (e := [.val (.int kv), .val (colD x), .val (tiD xs), .val (.int x.least), .val (oD x.most), .val (oD x.pc), .val (.int (inn xs (k : Nat) 1)), .own []]) rfl).trans ?_
  have hlast := last_ix xs (by omega)
  rw [hx, Nat.add_sub_cancel] at hlast
  refine (app3 xs (xs.getD N 0) hL k kv hk x cx (inn xs (k : Nat) 1) rfl hWb 7 6 3 4 5 (eVar 0) (e2 ixG (eVar 2) (e1 negD (eC (.int 1)))) [.val (.int kv), .val (colD x), .val (tiD xs), .val (.int x.least), .val (oD x.most), .val (oD x.pc), .val (.int (inn xs (k : Nat) 1)), .own []] [] (by simp) rfl (fun _ => rfl) (fun _ => rfl) (fun _ => rfl) (fun _ => rfl) (fun _ => rfl) (fun _ => e2_ev (x := tiD xs) (y := .int (-1)) rfl rfl hlast) _).trans ?_
  rw [List.nil_append]
  rfl
theorem vCell_len (xs ys : List Int) (k : Nat) (x : LCell) : (vCell xs ys k x).length ≤ 1 := by unfold vCell; split <;> simp
theorem vRow_len (ys : List Int) (k : Nat) (x : LRow) : (vRow ys k x).length ≤ 1 := by unfold vRow; split <;> simp
theorem pcols_loop (xs : List Int) (N : Nat) (hx : xs.length = N + 1) (hL : 0 ≤ xs.getD N 0 ∧ xs.getD N 0 ≤ 100000) (hWb : ∀ k : Nat, k < N → -100000 ≤ inn xs (k : Nat) 1 ∧ inn xs (k : Nat) 1 ≤ 100000) (a0 a1 a2 a3 a4 a6 a10 a11 : Sl) : ∀ (cols : List LCol) (k : Nat) (acc : List PyData) (z8 z9 : Sl), (∀ x ∈ cols, ColOk x) → k + cols.length ≤ N → acc.length + 3 * cols.length ≤ 1000 →
    ∃ w8 w9, loopF (gT [8, 9]) b_violations_1 (enumD k (cols.map colD)) [a0, a1, a2, a3, a4, .val (tiD xs), a6, .own acc, z8, z9, a10, a11] = .nx [a0, a1, a2, a3, a4, .val (tiD xs), a6, .own (acc ++ vAll (vCol xs (xs.getD N 0)) k cols), w8, w9, a10, a11]
  | [], k, acc, z8, z9, _, _, _ => ⟨z8, z9, by rw [vAll, List.append_nil]; rfl⟩
  | x :: cols, k, acc, z8, z9, hc, hk, hl => by
    rw [List.length_cons] at hk hl
    obtain ⟨kv, hkv⟩ : ∃ z : Int, z = (k : Nat) := ⟨_, rfl⟩
    have hp := pcol_ev xs N hx k kv hkv (by omega) x (hc x List.mem_cons_self) hL (hWb k (by omega))
    have hv := vCol_len xs (xs.getD N 0) k x
    obtain ⟨w8, w9, hi⟩ := pcols_loop xs N hx hL hWb a0 a1 a2 a3 a4 a6 a10 a11 cols (k + 1) (acc ++ vCol xs (xs.getD N 0) k x) (.val (.int kv)) (.val (colD x)) (fun y hy => hc y (List.mem_cons_of_mem _ hy)) (by omega) (by rw [List.length_append]; omega)
    refine ⟨w8, w9, ?_⟩
    rw [vAll, ← List.append_assoc, ← hi]
    have hg : gT [8, 9] (.tuple [.int (k : Nat), colD x]) [a0, a1, a2, a3, a4, .val (tiD xs), a6, .own acc, z8, z9, a10, a11] = some [a0, a1, a2, a3, a4, .val (tiD xs), a6, .own acc, .val (.int kv), .val (colD x), a10, a11] := by rw [hkv]; rfl
    have hb : b_violations_1 [a0, a1, a2, a3, a4, .val (tiD xs), a6, .own acc, .val (.int kv), .val (colD x), a10, a11] = .nx [a0, a1, a2, a3, a4, .val (tiD xs), a6, .own (acc ++ vCol xs (xs.getD N 0) k x), .val (.int kv), .val (colD x), a10, a11] := by
      unfold b_violations_1 sExt
      rw [eCall_ev (aCons_ev rfl (aCons_ev rfl (aCons_ev rfl aNil_ev))) hp]
      show (if acc.length + (vCol xs (xs.getD N 0) k x).length < 1000000 then _ else _) = _
      rw [if_pos (by omega)]
      rfl
    exact loop_cons hg hb
theorem prows_loop (ys : List Int) (N : Nat) (hy : ys.length = N + 1) (a0 a1 a2 a3 a4 a5 a9 a11 : Sl) : ∀ (rows : List LRow) (k : Nat) (acc : List PyData) (z8 z10 : Sl), k + rows.length ≤ N → acc.length + rows.length ≤ 1000 →
    ∃ w8 w10, loopF (gT [8, 10]) b_violations_2 (enumD k (rows.map rowD)) [a0, a1, a2, a3, a4, a5, .val (tiD ys), .own acc, z8, a9, z10, a11] = .nx [a0, a1, a2, a3, a4, a5, .val (tiD ys), .own (acc ++ vAll (vRow ys) k rows), w8, a9, w10, a11]
  | [], k, acc, z8, z10, _, _ => ⟨z8, z10, by rw [vAll, List.append_nil]; rfl⟩
  | x :: rows, k, acc, z8, z10, hk, hl => by
    rw [List.length_cons] at hk hl
    obtain ⟨kv, hkv⟩ : ∃ z : Int, z = (k : Nat) := ⟨_, rfl⟩
    have hv := vRow_len ys k x
    obtain ⟨w8, w10, hi⟩ := prows_loop ys N hy a0 a1 a2 a3 a4 a5 a9 a11 rows (k + 1) (acc ++ vRow ys k x) (.val (.int kv)) (.val (rowD x)) (by omega) (by rw [List.length_append]; omega)
    refine ⟨w8, w10, ?_⟩
    rw [vAll, ← List.append_assoc, ← hi]
    have hg : gT [8, 10] (.tuple [.int (k : Nat), rowD x]) [a0, a1, a2, a3, a4, a5, .val (tiD ys), .own acc, z8, a9, z10, a11] = some [a0, a1, a2, a3, a4, a5, .val (tiD ys), .own acc, .val (.int kv), a9, .val (rowD x), a11] := by rw [hkv]; rfl
    have hc : t1 (e2 ltD (eCall g_inner_size (aCons (eVar 6) (aCons (eVar 8) (aCons (eC (.int 1)) aNil)))) (e2 ixG (eVar 10) (eC (.int 0)))) [a0, a1, a2, a3, a4, a5, .val (tiD ys), .own acc, .val (.int kv), a9, .val (rowD x), a11] = some (decide (inn ys (k : Nat) 1 < x.1)) := t1_ev (e2_ev ((in_ev ys kv 1 _ _ _ _ rfl rfl rfl ⟨by omega, by omega, by omega⟩).1.trans (by rw [hkv])) (e2_ev (x := rowD x) (y := .int 0) rfl rfl rfl) (ltD_int _ _))
    have hb : b_violations_2 [a0, a1, a2, a3, a4, a5, .val (tiD ys), .own acc, .val (.int kv), a9, .val (rowD x), a11] = .nx [a0, a1, a2, a3, a4, a5, .val (tiD ys), .own (acc ++ vRow ys k x), .val (.int kv), a9, .val (rowD x), a11] := by
      unfold b_violations_2 vRow
      by_cases h : inn ys (k : Nat) 1 < x.1
      · rw [if_pos h]
        refine (sIf_t (hc.trans (by rw [decide_eq_true h]))).trans ?_
        exact sApp_ev (ds := acc) (d := vio "row" k) ((eTup_ev (aCons_ev rfl (aCons_ev rfl aNil_ev)) (by simp)).trans (by rw [hkv]; rfl)) rfl (by omega)
      · rw [if_neg h, List.append_nil]
        exact (sIf_f (hc.trans (by rw [decide_eq_false h]))).trans rfl
    exact loop_cons hg hb
noncomputable def vTab (t : LTab) (xs ys : List Int) : List PyData := vAll (vCell xs ys) 0 t.cells ++ vAll (vCol xs (xs.getD t.cols.length 0)) 0 t.cols ++ vAll (vRow ys) 0 t.rows
theorem viol_ev (t : LTab) (ht : TabOk t) (xs ys : List Int) (hx : xs.length = t.cols.length + 1) (hy : ys.length = t.rows.length + 1) (hW : ∀ x ∈ t.cells, 1 ≤ inn xs x.c x.w) (hL : 0 ≤ xs.getD t.cols.length 0 ∧ xs.getD t.cols.length 0 ≤ 100000) (hWb : ∀ k : Nat, k < t.cols.length → -100000 ≤ inn xs (k : Nat) 1 ∧ inn xs (k : Nat) 1 ≤ 100000) : g_violations [tabD t, .tuple [tiD xs, tiD ys]] = some (.list (vTab t xs ys)) := by
  have hc := ht.cn
  have hnc := ht.nc
  have hnr := ht.nr
  have l1 := vAll_len (vCell xs ys) 1 (vCell_len xs ys) 0 t.cells
  have l2 := vAll_len (vCol xs (xs.getD t.cols.length 0)) 3 (vCol_len xs _) 0 t.cols
  obtain ⟨w8, w9, p1⟩ := pcols_loop xs t.cols.length hx hL hWb (.val (tabD t)) (.val (.tuple [tiD xs, tiD ys])) (.val (.tuple (t.cols.map colD))) (.val (.tuple (t.rows.map rowD))) (.val (.tuple (t.cells.map cellD))) (.val (tiD ys)) .un .un t.cols 0 (vAll (vCell xs ys) 0 t.cells) .un .un ht.col (by omega) (by omega)
  obtain ⟨v8, v10, p2⟩ := prows_loop ys t.rows.length hy (.val (tabD t)) (.val (.tuple [tiD xs, tiD ys])) (.val (.tuple (t.cols.map colD))) (.val (.tuple (t.rows.map rowD))) (.val (.tuple (t.cells.map cellD))) (.val (tiD xs)) w9 .un t.rows 0 (vAll (vCell xs ys) 0 t.cells ++ vAll (vCol xs (xs.getD t.cols.length 0)) 0 t.cols) w8 .un (by omega) (by rw [List.length_append]; omega)
  refine gDef_ev' (fB := f_violations) [.val (tabD t), .val (.tuple [tiD xs, tiD ys]), .un, .un, .un, .un, .un, .un, .un, .un, .un, .un] rfl rfl ?_
  unfold f_violations
  refine (sSeq_nx (e := [.val (tabD t), .val (.tuple [tiD xs, tiD ys]), .val (.tuple (t.cols.map colD)), .val (.tuple (t.rows.map rowD)), .val (.tuple (t.cells.map cellD)), .un, .un, .un, .un, .un, .un, .un]) (sUnp_ev rfl rfl)).trans ?_
  refine (sSeq_nx (e := [.val (tabD t), .val (.tuple [tiD xs, tiD ys]), .val (.tuple (t.cols.map colD)), .val (.tuple (t.rows.map rowD)), .val (.tuple (t.cells.map cellD)), .val (tiD xs), .val (tiD ys), .un, .un, .un, .un, .un]) (sUnp_ev rfl rfl)).trans ?_
  refine (sSeq_nx (e := [.val (tabD t), .val (.tuple [tiD xs, tiD ys]), .val (.tuple (t.cols.map colD)), .val (.tuple (t.rows.map rowD)), .val (.tuple (t.cells.map cellD)), .val (tiD xs), .val (tiD ys), .own (vAll (vCell xs ys) 0 t.cells), .un, .un, .un, .un]) (sOwn_ev (fCmp_ev (ds := enumD 0 (t.cells.map cellD)) rfl (pcells_comp t ht xs ys hx hy hW _ _ _ _ _ _ _ _ _ t.cells 0 fun _ h => h) (by omega)))).trans ?_
  refine (sSeq_nx (sFor_ev (ds := enumD 0 (t.cols.map colD)) rfl p1)).trans ?_
  refine (sSeq_nx (sFor_ev (ds := enumD 0 (t.rows.map rowD)) rfl p2)).trans ?_
  rfl
theorem fCat_ev {f g : En → Option PyData} {env : En} {xs ys : List PyData} (h1 : f env = some (.list xs)) (h2 : g env = some (.list ys)) (h : xs.length + ys.length ≤ 1000000) : fCat f g env = some (xs ++ ys) := by
  unfold fCat
  rw [h1, h2]
  exact if_pos h
/-! the law's violations -/
theorem lviol_ev (t : LTab) (ht : TabOk t) (xs ys : List Int) (hx : xs.length = t.cols.length + 1) (hy : ys.length = t.rows.length + 1) (hW : ∀ x ∈ t.cells, 1 ≤ inn xs x.c x.w) (hL : 0 ≤ xs.getD t.cols.length 0 ∧ xs.getD t.cols.length 0 ≤ 100000) (hWb : ∀ k : Nat, k < t.cols.length → -100000 ≤ inn xs (k : Nat) 1 ∧ inn xs (k : Nat) 1 ≤ 100000) : g_Lviolated [tabD t, tiD xs, tiD ys] = some (.list (vTab t xs ys)) := by
  have hcn := ht.cn
  have hnc := ht.nc
  have hnr := ht.nr
  have l1 := vAll_len (vCell xs ys) 1 (vCell_len xs ys) 0 t.cells
  have l2 := vAll_len (vCol xs (xs.getD t.cols.length 0)) 3 (vCol_len xs _) 0 t.cols
  have l3 := vAll_len (vRow ys) 1 (vRow_len ys) 0 t.rows
  have rng : ∀ (env : En) (f : En → Option PyData) (ds : List PyData), f env = some (.tuple ds) → ds.length ≤ 100 → iR1 (aCons (eCall lenA (aCons f aNil)) aNil) env = some (rngD 0 ds.length) := fun env f ds hf hd => by
    have := iR1_ev (fa := aCons (eCall lenA (aCons f aNil)) aNil) (env := env) (N := (ds.length : Nat)) (aCons_ev (eCall_ev (aCons_ev hf aNil_ev) rfl) aNil_ev) (by omega) (by omega)
    rw [Int.toNat_natCast] at this
    exact this
  have p1 : ∃ e', loopF (gVal 4) b_Lviolated_1 (rngD 0 (t.cells.map cellD).length) [.val (tabD t), .val (tiD xs), .val (tiD ys), .own [], .un, .un, .un, .un, .un, .un, .un, .un, .un, .un, .un, .un] = .nx e' ∧ ∃ z4 z5 z6 z7 z8 z9 z10, e' = [.val (tabD t), .val (tiD xs), .val (tiD ys), .own (vAll (vCell xs ys) 0 (t.cells.take (t.cells.map cellD).length)), z4, z5, z6, z7, z8, z9, z10, .un, .un, .un, .un, .un] := by
    refine loop_rng (fun n e => ∃ z4 z5 z6 z7 z8 z9 z10, e = [.val (tabD t), .val (tiD xs), .val (tiD ys), .own (vAll (vCell xs ys) 0 (t.cells.take n)), z4, z5, z6, z7, z8, z9, z10, .un, .un, .un, .un, .un]) ?_ ⟨.un, .un, .un, .un, .un, .un, .un, rfl⟩
    rintro n e hn ⟨z4, z5, z6, z7, z8, z9, z10, rfl⟩
    rw [List.length_map] at hn
    obtain ⟨nv, hnv⟩ : ∃ z : Int, z = 0 + (n : Nat) := ⟨_, rfl⟩
    have hnv' : nv = (n : Nat) := by omega
    obtain ⟨x, hxn⟩ : ∃ x, t.cells[n]? = some x := ⟨_, List.getElem?_eq_getElem hn⟩
    have hm := List.mem_of_getElem? hxn
    have c := ht.cl x hm
    have b := c.r; have b1 := c.c; have b2 := c.h; have b3 := c.w; have b4 := c.rh; have b5 := c.cw
    have hl := lcc_ev c (inn xs x.c x.w) (hW x hm)
    obtain ⟨r, hr⟩ : ∃ r, r = (if inn xs x.c x.w < lg x.ws then PyData.none else .int (cnt (inn xs x.c x.w) x.ws : Nat)) := ⟨_, rfl⟩
    rw [← hr] at hl
    have hlen := vAll_len (vCell xs ys) 1 (vCell_len xs ys) 0 (t.cells.take n)
    rw [List.length_take] at hlen
    rw [← hnv]
    refine ⟨[.val (tabD t), .val (tiD xs), .val (tiD ys), .own (vAll (vCell xs ys) 0 (t.cells.take n)), .val (.int nv), z5, z6, z7, z8, z9, z10, .un, .un, .un, .un, .un], rfl, [.val (tabD t), .val (tiD xs), .val (tiD ys), .own (vAll (vCell xs ys) 0 (t.cells.take (n + 1))), .val (.int nv), .val (.int x.r), .val (.int x.c), .val (.int x.h), .val (.int x.w), .val (.tuple (tws x.ws)), .val r, .un, .un, .un, .un, .un], .inl ?_, _, _, _, _, _, _, _, rfl⟩
    rw [take_succ' _ _ _ hxn, vAll_snoc, List.length_take, show 0 + min n t.cells.length = n from by omega]
    unfold b_Lviolated_1
    refine (sSeq_nx (e := [.val (tabD t), .val (tiD xs), .val (tiD ys), .own (vAll (vCell xs ys) 0 (t.cells.take n)), .val (.int nv), .val (.int x.r), .val (.int x.c), .val (.int x.h), .val (.int x.w), .val (.tuple (tws x.ws)), z10, .un, .un, .un, .un, .un]) (sUnp_ev (e2_ev (x := .tuple (t.cells.map cellD)) (y := .int nv) (d := cellD x) (tab_cells t _) rfl (by rw [hnv']; exact atI_map cellD t.cells n x hxn)) rfl)).trans ?_
    refine (sSeq_nx (e := [.val (tabD t), .val (tiD xs), .val (tiD ys), .own (vAll (vCell xs ys) 0 (t.cells.take n)), .val (.int nv), .val (.int x.r), .val (.int x.c), .val (.int x.h), .val (.int x.w), .val (.tuple (tws x.ws)), .val r, .un, .un, .un, .un, .un]) (sSet_ev (eCall_ev (aCons_ev rfl (aCons_ev (in_ev xs x.c x.w _ _ _ _ rfl rfl rfl ⟨b1, by omega, by omega⟩).2 aNil_ev)) hl))).trans ?_
    have ap : sApp 3 (eTup (aCons (eC (.str "cell")) (aCons (eVar 4) aNil))) [.val (tabD t), .val (tiD xs), .val (tiD ys), .own (vAll (vCell xs ys) 0 (t.cells.take n)), .val (.int nv), .val (.int x.r), .val (.int x.c), .val (.int x.h), .val (.int x.w), .val (.tuple (tws x.ws)), .val r, .un, .un, .un, .un, .un] = .nx [.val (tabD t), .val (tiD xs), .val (tiD ys), .own (vAll (vCell xs ys) 0 (t.cells.take n) ++ [vio "cell" n]), .val (.int nv), .val (.int x.r), .val (.int x.c), .val (.int x.h), .val (.int x.w), .val (.tuple (tws x.ws)), .val r, .un, .un, .un, .un, .un] := sApp_ev (d := vio "cell" n) ((eTup_ev (aCons_ev rfl (aCons_ev rfl aNil_ev)) (by simp)).trans (by rw [hnv']; rfl)) rfl (by omega)
    unfold vCell
    by_cases hw : inn xs x.c x.w < lg x.ws
    · rw [if_pos hw] at hr
      rw [if_neg (fun z : CellR x xs ys => by have := z.1; omega)]
      exact (sIf_t (or_t (t1_ev (e2_ev (x := r) (y := .none) rfl rfl (by rw [hr]; rfl))))).trans ap
    · rw [if_neg hw] at hr
      have o1 : t1 (e2 isD (eVar 10) (eC .none)) [.val (tabD t), .val (tiD xs), .val (tiD ys), .own (vAll (vCell xs ys) 0 (t.cells.take n)), .val (.int nv), .val (.int x.r), .val (.int x.c), .val (.int x.h), .val (.int x.w), .val (.tuple (tws x.ws)), .val r, .un, .un, .un, .un, .un] = some false := t1_ev (e2_ev (x := r) (y := .none) rfl rfl (by rw [hr]; rfl))
      have o2 : t1 (e2 gtD (eVar 10) (eCall g_Linner (aCons (eVar 2) (aCons (eVar 5) (aCons (eVar 7) aNil))))) [.val (tabD t), .val (tiD xs), .val (tiD ys), .own (vAll (vCell xs ys) 0 (t.cells.take n)), .val (.int nv), .val (.int x.r), .val (.int x.c), .val (.int x.h), .val (.int x.w), .val (.tuple (tws x.ws)), .val r, .un, .un, .un, .un, .un] = some (decide (inn ys x.r x.h < (cnt (inn xs x.c x.w) x.ws : Nat))) := t1_ev (e2_ev (x := r) rfl (in_ev ys x.r x.h _ _ _ _ rfl rfl rfl ⟨b, by omega, by omega⟩).2 (by rw [hr]; exact gtD_int _ _))
      by_cases h : inn ys x.r x.h < (cnt (inn xs x.c x.w) x.ws : Nat)
      · rw [if_neg (fun z : CellR x xs ys => by have := z.2; omega)]
        exact (sIf_t (or_f o1 (o2.trans (by rw [decide_eq_true h])))).trans ap
      · rw [if_pos (show CellR x xs ys from ⟨by omega, by omega⟩), List.append_nil]
        exact (sIf_f (or_f o1 (o2.trans (by rw [decide_eq_false h])))).trans rfl
  obtain ⟨e1, hp1, z4, z5, z6, z7, z8, z9, z10, rfl⟩ := p1
  rw [show t.cells.take (t.cells.map cellD).length = t.cells from by rw [List.length_map, List.take_length]] at hp1
  have hlast := last_ix xs (by omega)
  rw [hx, Nat.add_sub_cancel] at hlast
  have p2 : ∃ e', loopF (gVal 4) b_Lviolated_2 (rngD 0 (t.cols.map colD).length) [.val (tabD t), .val (tiD xs), .val (tiD ys), .own (vAll (vCell xs ys) 0 t.cells), z4, z5, z6, z7, z8, z9, z10, .un, .un, .un, .un, .un] = .nx e' ∧ ∃ y4 y11 y12 y13 y14 y15, e' = [.val (tabD t), .val (tiD xs), .val (tiD ys), .own (vAll (vCell xs ys) 0 t.cells ++ vAll (vCol xs (xs.getD t.cols.length 0)) 0 (t.cols.take (t.cols.map colD).length)), y4, z5, z6, z7, z8, z9, z10, y11, y12, y13, y14, y15] := by
    refine loop_rng (fun n e => ∃ y4 y11 y12 y13 y14 y15, e = [.val (tabD t), .val (tiD xs), .val (tiD ys), .own (vAll (vCell xs ys) 0 t.cells ++ vAll (vCol xs (xs.getD t.cols.length 0)) 0 (t.cols.take n)), y4, z5, z6, z7, z8, z9, z10, y11, y12, y13, y14, y15]) ?_ ⟨z4, .un, .un, .un, .un, .un, by rw [List.take_zero, vAll, List.append_nil]⟩
    rintro n e hn ⟨y4, y11, y12, y13, y14, y15, rfl⟩
    rw [List.length_map] at hn
    obtain ⟨nv, hnv⟩ : ∃ z : Int, z = 0 + (n : Nat) := ⟨_, rfl⟩
    have hnv' : nv = (n : Nat) := by omega
    obtain ⟨x, hxn⟩ : ∃ x, t.cols[n]? = some x := ⟨_, List.getElem?_eq_getElem hn⟩
    have cx := ht.col x (List.mem_of_getElem? hxn)
    obtain ⟨acc, hacc⟩ : ∃ acc, acc = vAll (vCell xs ys) 0 t.cells ++ vAll (vCol xs (xs.getD t.cols.length 0)) 0 (t.cols.take n) := ⟨_, rfl⟩
    have hlen := vAll_len (vCol xs (xs.getD t.cols.length 0)) 3 (vCol_len xs _) 0 (t.cols.take n)
    rw [List.length_take] at hlen
    have hal : acc.length ≤ 100 := by rw [hacc, List.length_append]; omega
    rw [← hnv, ← hacc]
    refine ⟨[.val (tabD t), .val (tiD xs), .val (tiD ys), .own acc, .val (.int nv), z5, z6, z7, z8, z9, z10, y11, y12, y13, y14, y15], rfl, [.val (tabD t), .val (tiD xs), .val (tiD ys), .own (acc ++ vCol xs (xs.getD t.cols.length 0) n x), .val (.int nv), z5, z6, z7, z8, z9, z10, .val (.int x.least), .val (oD x.most), .val (oD x.pc), .val (.str x.al), .val (.int (inn xs (n : Nat) 1))], .inl ?_, .val (.int nv), .val (.int x.least), .val (oD x.most), .val (oD x.pc), .val (.str x.al), .val (.int (inn xs (n : Nat) 1)), ?_⟩
    · unfold b_Lviolated_2
      refine (sSeq_nx (e := [.val (tabD t), .val (tiD xs), .val (tiD ys), .own acc, .val (.int nv), z5, z6, z7, z8, z9, z10, .val (.int x.least), .val (oD x.most), .val (oD x.pc), .val (.str x.al), y15]) (sUnp_ev (e2_ev (x := .tuple (t.cols.map colD)) (y := .int nv) (d := colD x) (tab_cols t _) rfl (by rw [hnv']; exact atI_map colD t.cols n x hxn)) rfl)).trans ?_
      refine (sSeq_nx (e := [.val (tabD t), .val (tiD xs), .val (tiD ys), .own acc, .val (.int nv), z5, z6, z7, z8, z9, z10, .val (.int x.least), .val (oD x.most), .val (oD x.pc), .val (.str x.al), .val (.int (inn xs (n : Nat) 1))]) (sSet_ev ((in_ev xs nv 1 _ _ _ _ rfl rfl rfl ⟨by omega, by omega, by omega⟩).2.trans (by rw [hnv'])))).trans ?_
      have h3 := app3 xs (xs.getD t.cols.length 0) hL n nv hnv' x cx (inn xs (n : Nat) 1) rfl (hWb n hn) 3 15 11 12 13 (eVar 4) (e2 ixG (eVar 1) (e1 negD (eC (.int 1)))) [.val (tabD t), .val (tiD xs), .val (tiD ys), .own acc, .val (.int nv), z5, z6, z7, z8, z9, z10, .val (.int x.least), .val (oD x.most), .val (oD x.pc), .val (.str x.al), .val (.int (inn xs (n : Nat) 1))] acc (by omega) rfl (fun _ => rfl) (fun _ => rfl) (fun _ => rfl) (fun _ => rfl) (fun _ => rfl) (fun _ => e2_ev (x := tiD xs) (y := .int (-1)) rfl rfl hlast)
      have tl : ∀ (a b c : En → Out) (env e : En), sSeq a (sSeq b (sSeq c fun e => .nx e)) env = .nx e → sSeq a (sSeq b c) env = .nx e := fun a b c env e h => by
        unfold sSeq at h ⊢
        cases ha : a env with
        | nx e1 =>
          rw [ha] at h
          simp only [] at h ⊢
          cases hb : b e1 with
          | nx e2 =>
            rw [hb] at h
            simp only [] at h ⊢
            cases hc : c e2 with
            | nx e3 => rw [hc] at h; exact h
            | bk e3 => rw [hc] at h; cases h
            | ct e3 => rw [hc] at h; cases h
            | rt d => rw [hc] at h; cases h
            | bad => rw [hc] at h; cases h
          | bk e3 => rw [hb] at h; cases h
          | ct e3 => rw [hb] at h; cases h
          | rt d => rw [hb] at h; cases h
          | bad => rw [hb] at h; cases h
        | bk e3 => rw [ha] at h; cases h
        | ct e3 => rw [ha] at h; cases h
        | rt d => rw [ha] at h; cases h
        | bad => rw [ha] at h; cases h
      exact tl _ _ _ _ _ (h3 fun e => .nx e)
    · rw [take_succ' _ _ _ hxn, vAll_snoc, List.length_take, show 0 + min n t.cols.length = n from by omega, hacc, List.append_assoc]
  obtain ⟨e2', hp2, y4, y11, y12, y13, y14, y15, rfl⟩ := p2
  rw [show t.cols.take (t.cols.map colD).length = t.cols from by rw [List.length_map, List.take_length]] at hp2
  obtain ⟨acc, hacc⟩ : ∃ acc, acc = vAll (vCell xs ys) 0 t.cells ++ vAll (vCol xs (xs.getD t.cols.length 0)) 0 t.cols := ⟨_, rfl⟩
  have hal : acc.length ≤ 100 := by rw [hacc, List.length_append]; omega
  rw [← hacc] at hp2
  -- the rows
  have p3 : compF (gVal 4) t_Lviolated_1 c_Lviolated_1 [.val (tabD t), .val (tiD xs), .val (tiD ys), .val (.list acc), .un, z5, z6, z7, z8, z9, z10, y11, y12, y13, y14, y15] (rngD 0 (t.rows.map rowD).length) = some (vAll (vRow ys) 0 t.rows) := by
    have key : ∀ n, n ≤ t.rows.length → compF (gVal 4) t_Lviolated_1 c_Lviolated_1 [.val (tabD t), .val (tiD xs), .val (tiD ys), .val (.list acc), .un, z5, z6, z7, z8, z9, z10, y11, y12, y13, y14, y15] (rngD 0 n) = some (vAll (vRow ys) 0 (t.rows.take n)) := by
      intro n hn
      have hc := compF_filterS (g := gVal 4) (ga := t_Lviolated_1) (fe := c_Lviolated_1) (env := [.val (tabD t), .val (tiD xs), .val (tiD ys), .val (.list acc), .un, z5, z6, z7, z8, z9, z10, y11, y12, y13, y14, y15]) (c := fun k : Nat => PyData.int (0 + (k : Nat))) (k := fun k : Nat => vio "row" k) (p := fun k => decide (inn ys (k : Nat) 1 < (t.rows.getD k (0, false, false)).1)) (xs := List.range n) (fun j hj => by
        have hj' := List.mem_range.mp hj
        obtain ⟨nv, hnv⟩ : ∃ z : Int, z = 0 + (j : Nat) := ⟨_, rfl⟩
        have hnv' : nv = (j : Nat) := by omega
        rw [← hnv]
        refine ⟨_, rfl, t1_ev (e2_ev ((in_ev ys nv 1 _ _ _ _ rfl rfl rfl ⟨by omega, by omega, by omega⟩).2.trans (by rw [hnv'])) (e2_ev (x := rowD (t.rows.getD j (0, false, false))) (y := .int 0) (e2_ev (x := .tuple (t.rows.map rowD)) (y := .int nv) (tab_rows t _) rfl (by rw [hnv']; exact atI_map rowD t.rows j _ (gD_of (by omega)))) rfl rfl) (ltD_int _ _)), fun _ => ?_⟩
        exact (eTup_ev (aCons_ev rfl (aCons_ev rfl aNil_ev)) (by simp)).trans (by rw [hnv']; rfl))
      have e : ∀ m, m ≤ t.rows.length → ((List.range m).filter fun k => decide (inn ys (k : Nat) 1 < (t.rows.getD k (0, false, false)).1)).map (fun k : Nat => vio "row" k) = vAll (vRow ys) 0 (t.rows.take m) := by
        intro m
        induction m with
        | zero => intro _; rfl
        | succ m ih =>
          intro hm
          rw [List.range_succ, List.filter_append, List.map_append, ih (by omega), take_succ' t.rows m _ (gD_of (d := (0, false, false)) (by omega)), vAll_snoc, List.length_take, show 0 + min m t.rows.length = m from by omega]
          congr 1
          unfold vRow
          by_cases h : inn ys (m : Nat) 1 < (t.rows.getD m (0, false, false)).1
          · rw [if_pos h, List.filter_cons, if_pos (by rw [decide_eq_true_eq]; exact h)]
            rfl
          · rw [if_neg h, List.filter_cons, if_neg (by rw [decide_eq_true_eq]; exact h)]
            rfl
      rw [← e n hn]
      exact hc
    have := key t.rows.length (Nat.le_refl _)
    rw [List.take_length] at this
    rw [List.length_map]
    exact this
  refine gDef_ev' (fB := f_Lviolated) [.val (tabD t), .val (tiD xs), .val (tiD ys), .un, .un, .un, .un, .un, .un, .un, .un, .un, .un, .un, .un, .un] rfl rfl ?_
  unfold f_Lviolated
  refine (sSeq_nx (e := [.val (tabD t), .val (tiD xs), .val (tiD ys), .own [], .un, .un, .un, .un, .un, .un, .un, .un, .un, .un, .un, .un]) rfl).trans ?_
  refine (sSeq_nx (sFor_ev (rng _ _ _ (tab_cells t _) (by rw [List.length_map]; omega)) hp1)).trans ?_
  refine (sSeq_nx (sFor_ev (rng _ _ _ (tab_cols t _) (by rw [List.length_map]; omega)) hp2)).trans ?_
  refine (sRet_ev (eL_ev (fCat_ev (xs := acc) (ys := vAll (vRow ys) 0 t.rows) rfl (eL_ev (fCmp_ev (rng _ _ _ (tab_rows t _) (by rw [List.length_map]; omega)) p3 (by omega))) (by omega)))).trans ?_
  rw [hacc]
  rfl
/-! ### row_lines_for -/
def rowCs : Nat → List LRow → List Con
  | _, [] => []
  | k, x :: r => (k, k + 1, x.1 + 1) :: rowCs (k + 1) r
theorem rowCs_len : ∀ (k : Nat) (l : List LRow), (rowCs k l).length = l.length
  | _, [] => rfl
  | k, x :: r => by rw [rowCs, List.length_cons, List.length_cons, rowCs_len]
theorem rowCs_ix (N : Nat) : ∀ (k : Nat) (l : List LRow), k + l.length < N → Ix (rowCs k l) N
  | _, [], _ => fun c h => by cases h
  | k, x :: r, h => fun c hc => by
    rw [List.length_cons] at h
    rw [rowCs] at hc
    rcases List.mem_cons.mp hc with rfl | hc
    · exact ⟨by show k < N; omega, by show k + 1 < N; omega⟩
    · exact rowCs_ix N (k + 1) r (by omega) c hc
theorem rowCs_sol (X : Nat → Int) : ∀ (k : Nat) (l : List LRow), Sol (rowCs k l) X ↔ ∀ (j : Nat) (x : LRow), l[j]? = some x → X (k + j) + (x.1 + 1) ≤ X (k + j + 1)
  | k, [] => ⟨fun _ j x h => by simp at h, fun _ c h => by cases h⟩
  | k, y :: r => by
    have ih := rowCs_sol X (k + 1) r
    constructor
    · intro h j x hx
      cases j with
      | zero =>
        cases hx
        exact h _ List.mem_cons_self
      | succ j =>
        have := ih.mp (fun c hc => h c (List.mem_cons_of_mem _ hc)) j x hx
        rw [show k + 1 + j = k + (j + 1) from by omega] at this
        exact this
    · intro h c hc
      rw [rowCs] at hc
      rcases List.mem_cons.mp hc with rfl | hc
      · exact h 0 y rfl
      · exact ih.mpr (fun j x hx => by
          have := h (j + 1) x hx
          rw [show k + (j + 1) = k + 1 + j from by omega] at this
          exact this) c hc
theorem rowCs_comp (a0 a1 a2 a3 a4 a5 a7 a8 a9 a10 a11 : Sl) : ∀ (rows : List LRow) (k : Nat), compF (gT [12, 6]) tYes' c_row_lines_for_1 [a0, a1, a2, a3, a4, a5, .un, a7, a8, a9, a10, a11, .un] (enumD k (rows.map rowD)) = some ((rowCs k rows).map conD)
  | [], k => rfl
  | x :: rows, k => by
    have ih := rowCs_comp a0 a1 a2 a3 a4 a5 a7 a8 a9 a10 a11 rows (k + 1)
    rw [List.map_cons, enumD, rowCs]
    obtain ⟨kv, hkv⟩ : ∃ z : Int, z = (k : Nat) := ⟨_, rfl⟩
    have hg : gT [12, 6] (.tuple [.int (k : Nat), rowD x]) [a0, a1, a2, a3, a4, a5, .un, a7, a8, a9, a10, a11, .un] = some [a0, a1, a2, a3, a4, a5, .val (rowD x), a7, a8, a9, a10, a11, .val (.int kv)] := by rw [hkv]; rfl
    have he : c_row_lines_for_1 [a0, a1, a2, a3, a4, a5, .val (rowD x), a7, a8, a9, a10, a11, .val (.int kv)] = some (conD (k, k + 1, x.1 + 1)) := by
      refine (eTup_ev (aCons_ev rfl (aCons_ev (e2_ev rfl rfl (addD_int _ _)) (aCons_ev (e2_ev (e2_ev (x := rowD x) (y := .int 0) rfl rfl rfl) rfl (addD_int _ _)) aNil_ev))) (by simp)).trans ?_
      rw [hkv]
      rfl
    simp only [compF, hg, he, ih, tYes']
    rfl
def celC (xs : List Int) (x : LCell) : Con := (x.r.toNat, (x.r + x.h).toNat, (cnt (inn xs x.c x.w) x.ws : Nat) + 1)
theorem celCs_loop (t : LTab) (ht : TabOk t) (xs : List Int) (hx : xs.length = t.cols.length + 1) (a0 a2 a3 a4 a12 : Sl) : ∀ (cells : List LCell) (acc : List Con) (z6 z7 z8 z9 z10 z11 : Sl), (∀ x ∈ cells, x ∈ t.cells) → acc.length + cells.length ≤ 1000 →
    ((∀ x ∈ cells, lg x.ws ≤ inn xs x.c x.w) ∧ ∃ w6 w7 w8 w9 w10 w11, loopF (gT [6, 7, 8, 9, 10]) b_row_lines_for_1 (cells.map cellD) [a0, .val (tiD xs), a2, a3, a4, .own (acc.map conD), z6, z7, z8, z9, z10, z11, a12] = .nx [a0, .val (tiD xs), a2, a3, a4, .own ((acc ++ cells.map (celC xs)).map conD), w6, w7, w8, w9, w10, w11, a12]) ∨
    ((¬ ∀ x ∈ cells, lg x.ws ≤ inn xs x.c x.w) ∧ loopF (gT [6, 7, 8, 9, 10]) b_row_lines_for_1 (cells.map cellD) [a0, .val (tiD xs), a2, a3, a4, .own (acc.map conD), z6, z7, z8, z9, z10, z11, a12] = .rt .none) := by
  intro cells
  induction cells with
  | nil => intro acc z6 z7 z8 z9 z10 z11 _ _; exact .inl ⟨fun x h => (by cases h), z6, z7, z8, z9, z10, z11, by rw [List.map_nil, List.map_nil, List.append_nil]; rfl⟩
  | cons x cells ih =>
    intro acc z6 z7 z8 z9 z10 z11 hm hl
    rw [List.length_cons] at hl
    have hxm := hm x List.mem_cons_self
    have c := ht.cl x hxm
    have b := c.r; have b1 := c.c; have b2 := c.h; have b3 := c.w; have b4 := c.rh; have b5 := c.cw
    have hpl := plc_ev x.ws (inn xs x.c x.w) (w8 c) (by have := c.l; omega)
    obtain ⟨r, hr⟩ : ∃ r, r = (if inn xs x.c x.w < lg x.ws then PyData.none else .int (cnt (inn xs x.c x.w) x.ws : Nat)) := ⟨_, rfl⟩
    rw [← hr] at hpl
    have hg : gT [6, 7, 8, 9, 10] (cellD x) [a0, .val (tiD xs), a2, a3, a4, .own (acc.map conD), z6, z7, z8, z9, z10, z11, a12] = some [a0, .val (tiD xs), a2, a3, a4, .own (acc.map conD), .val (.int x.r), .val (.int x.c), .val (.int x.h), .val (.int x.w), .val (.tuple (tws x.ws)), z11, a12] := rfl
    have s1 : sSet 11 (eCall g_line_count (aCons (eVar 10) (aCons (eCall g_inner_size (aCons (eVar 1) (aCons (eVar 7) (aCons (eVar 9) aNil)))) aNil))) [a0, .val (tiD xs), a2, a3, a4, .own (acc.map conD), .val (.int x.r), .val (.int x.c), .val (.int x.h), .val (.int x.w), .val (.tuple (tws x.ws)), z11, a12] = .nx [a0, .val (tiD xs), a2, a3, a4, .own (acc.map conD), .val (.int x.r), .val (.int x.c), .val (.int x.h), .val (.int x.w), .val (.tuple (tws x.ws)), .val r, a12] := sSet_ev (eCall_ev (aCons_ev rfl (aCons_ev (in_ev xs x.c x.w _ _ _ _ rfl rfl rfl ⟨b1, by omega, by omega⟩).1 aNil_ev)) hpl)
    by_cases hw : inn xs x.c x.w < lg x.ws
    · right
      rw [if_pos hw] at hr
      refine ⟨fun z => by have := z x List.mem_cons_self; omega, ?_⟩
      have hb : b_row_lines_for_1 [a0, .val (tiD xs), a2, a3, a4, .own (acc.map conD), .val (.int x.r), .val (.int x.c), .val (.int x.h), .val (.int x.w), .val (.tuple (tws x.ws)), z11, a12] = .rt .none := by
        unfold b_row_lines_for_1
        refine (sSeq_nx s1).trans (sSeq_rt ((sIf_t (t1_ev (e2_ev (x := r) (y := .none) rfl rfl (by rw [hr]; rfl)))).trans rfl))
      rw [List.map_cons, loopF, hg]
      simp only [hb]
    · rw [if_neg hw] at hr
      have hb : b_row_lines_for_1 [a0, .val (tiD xs), a2, a3, a4, .own (acc.map conD), .val (.int x.r), .val (.int x.c), .val (.int x.h), .val (.int x.w), .val (.tuple (tws x.ws)), z11, a12] = .nx [a0, .val (tiD xs), a2, a3, a4, .own ((acc ++ [celC xs x]).map conD), .val (.int x.r), .val (.int x.c), .val (.int x.h), .val (.int x.w), .val (.tuple (tws x.ws)), .val r, a12] := by
        unfold b_row_lines_for_1
        refine (sSeq_nx s1).trans ?_
        refine (sSeq_nx (Eq.trans (sIf_f (t1_ev (e2_ev (x := r) (y := .none) rfl rfl (by rw [hr]; rfl)))) rfl)).trans ?_
        rw [List.map_append]
        refine sApp_ev (d := conD (celC xs x)) ((eTup_ev (aCons_ev rfl (aCons_ev (e2_ev rfl rfl (addD_int _ _)) (aCons_ev (e2_ev (x := r) rfl rfl (by rw [hr]; exact addD_int _ _)) aNil_ev))) (by simp)).trans ?_) rfl (by rw [List.length_map]; omega)
        unfold celC conD
        simp only []
        rw [Int.toNat_of_nonneg b, Int.toNat_of_nonneg (show 0 ≤ x.r + x.h by omega)]
      rcases ih (acc ++ [celC xs x]) (.val (.int x.r)) (.val (.int x.c)) (.val (.int x.h)) (.val (.int x.w)) (.val (.tuple (tws x.ws))) (.val r) (fun y hy => hm y (List.mem_cons_of_mem _ hy)) (by rw [List.length_append]; simp; omega) with ⟨h1, w6, w7, w8', w9, w10, w11, h2⟩ | ⟨h1, h2⟩
      · refine .inl ⟨fun y hy => ?_, w6, w7, w8', w9, w10, w11, ?_⟩
        · rcases List.mem_cons.mp hy with rfl | hy
          · omega
          · exact h1 y hy
        · rw [List.map_cons, List.map_cons, show acc ++ celC xs x :: cells.map (celC xs) = acc ++ [celC xs x] ++ cells.map (celC xs) from by rw [List.append_assoc]; rfl, ← h2]
          exact loop_cons hg hb
      · refine .inr ⟨fun z => h1 fun y hy => z y (List.mem_cons_of_mem _ hy), ?_⟩
        rw [← h2, List.map_cons]
        exact loop_cons hg hb
/-- rows and cells have their room -/
def RLay (t : LTab) (xs : List Int) (X : Nat → Int) : Prop := X 0 = 0 ∧ (∀ (j : Nat) (x : LRow), t.rows[j]? = some x → x.1 ≤ gap X j) ∧ ∀ x ∈ t.cells, lg x.ws ≤ inn xs x.c x.w ∧ (cnt (inn xs x.c x.w) x.ws : Int) ≤ X (x.r + x.h).toNat - X x.r.toNat - 1
theorem rlf_ev (t : LTab) (ht : TabOk t) (xs : List Int) (hx : xs.length = t.cols.length + 1) :
    ((¬ ∀ x ∈ t.cells, lg x.ws ≤ inn xs x.c x.w) ∧ g_row_lines_for [tabD t, tiD xs] = some .none) ∨
    (∃ m : List Int, g_row_lines_for [tabD t, tiD xs] = some (tiD m) ∧ m.length = t.rows.length + 1 ∧ RLay t xs (at0 m) ∧ at0 m t.rows.length ≤ 11 ∧ ∀ X, RLay t xs X → ∀ v, v < t.rows.length + 1 → at0 m v ≤ X v) := by
  have hcn := ht.cn
  have hnr := ht.nr
  have hcomp := rowCs_comp (.val (tabD t)) (.val (tiD xs)) (.val (.tuple (t.cols.map colD))) (.val (.tuple (t.rows.map rowD))) (.val (.tuple (t.cells.map cellD))) .un .un .un .un .un .un t.rows 0
  have e1 : sUnp (eVar 0) (gT [2, 3, 4]) [.val (tabD t), .val (tiD xs), .un, .un, .un, .un, .un, .un, .un, .un, .un, .un, .un] = .nx [.val (tabD t), .val (tiD xs), .val (.tuple (t.cols.map colD)), .val (.tuple (t.rows.map rowD)), .val (.tuple (t.cells.map cellD)), .un, .un, .un, .un, .un, .un, .un, .un] := sUnp_ev rfl rfl
  have e2' : sOwn 5 (fCmp [12, 6] (iEnm (aCons (eVar 3) aNil)) (gT [12, 6]) tYes' c_row_lines_for_1) [.val (tabD t), .val (tiD xs), .val (.tuple (t.cols.map colD)), .val (.tuple (t.rows.map rowD)), .val (.tuple (t.cells.map cellD)), .un, .un, .un, .un, .un, .un, .un, .un] = .nx [.val (tabD t), .val (tiD xs), .val (.tuple (t.cols.map colD)), .val (.tuple (t.rows.map rowD)), .val (.tuple (t.cells.map cellD)), .own ((rowCs 0 t.rows).map conD), .un, .un, .un, .un, .un, .un, .un] := sOwn_ev (fCmp_ev (ds := enumD 0 (t.rows.map rowD)) rfl hcomp (by rw [List.length_map, rowCs_len]; omega))
  rcases celCs_loop t ht xs hx (.val (tabD t)) (.val (.tuple (t.cols.map colD))) (.val (.tuple (t.rows.map rowD))) (.val (.tuple (t.cells.map cellD))) .un t.cells (rowCs 0 t.rows) .un .un .un .un .un .un (fun _ h => h) (by rw [rowCs_len]; omega) with ⟨h1, w6, w7, w8', w9, w10, w11, h2⟩ | ⟨h1, h2⟩
  · right
    obtain ⟨cs, hcs⟩ : ∃ cs, cs = rowCs 0 t.rows ++ t.cells.map (celC xs) := ⟨_, rfl⟩
    have hix : Ix cs (t.rows.length + 1) := by
      rw [hcs]
      refine ix_app (rowCs_ix _ 0 t.rows (by omega)) fun c hc => ?_
      obtain ⟨x, hxm, rfl⟩ := List.mem_map.mp hc
      have c := ht.cl x hxm
      have b := c.r; have b2 := c.h; have b4 := c.rh
      exact ⟨by show x.r.toNat < _; omega, by show (x.r + x.h).toNat < _; omega⟩
    have hsol : ∀ X, X 0 = 0 → (Sol cs X ↔ RLay t xs X) := fun X h0 => by
      rw [hcs, sol_app, rowCs_sol]
      constructor
      · rintro ⟨q1, q2⟩
        refine ⟨h0, fun j x hj => ?_, fun x hxm => ⟨h1 x hxm, ?_⟩⟩
        · have := q1 j x hj
          rw [Nat.zero_add] at this
          unfold gap
          omega
        · have := q2 _ (List.mem_map.mpr ⟨x, hxm, rfl⟩)
          have this' : X x.r.toNat + ((cnt (inn xs x.c x.w) x.ws : Nat) + 1) ≤ X (x.r + x.h).toNat := this
          omega
      · rintro ⟨_, q1, q2⟩
        refine ⟨fun j x hj => ?_, fun c hc => ?_⟩
        · have := q1 j x hj
          rw [Nat.zero_add]
          unfold gap at this
          omega
        · obtain ⟨x, hxm, rfl⟩ := List.mem_map.mp hc
          have := (q2 x hxm).2
          show X x.r.toNat + ((cnt (inn xs x.c x.w) x.ws : Nat) + 1) ≤ X (x.r + x.h).toNat
          omega
    have three : RLay t xs fun v => 3 * (v : Nat) := by
      refine ⟨by simp, fun j x hj => ?_, fun x hxm => ⟨h1 x hxm, ?_⟩⟩
      · have := (ht.row x (List.mem_of_getElem? hj)).2
        show x.1 ≤ 3 * ((j + 1 : Nat) : Int) - 3 * ((j : Nat) : Int) - 1
        omega
      · have c := ht.cl x hxm
        have b := c.r; have b2 := c.h
        have q1 := cnt_len (inn xs x.c x.w) x.ws
        have q2 := c.f
        show ((cnt (inn xs x.c x.w) x.ws : Nat) : Int) ≤ 3 * ((x.r + x.h).toNat : Nat) - 3 * (x.r.toNat : Nat) - 1
        omega
    have hS0 : Sl0 cs (t.rows.length + 1) fun v => 3 * (v : Nat) := ⟨(hsol _ (by simp)).mpr three, by simp, fun v _ => by show (0 : Int) ≤ 3 * (v : Nat); omega⟩
    have hlp := lp_ev cs (t.rows.length + 1) (by omega) (by omega) hix
    cases hm : lp cs (t.rows.length + 1) (zs (t.rows.length + 1)) with
    | none => exact absurd ⟨_, hS0⟩ (lp_none (by omega) hix hm)
    | some m =>
      rw [hm] at hlp
      obtain ⟨m1, m2, m3⟩ := lp_some (by omega) hix hm
      have nn : ∀ X, RLay t xs X → ∀ v, v < t.rows.length + 1 → 0 ≤ X v := fun X hX v => by
        induction v with
        | zero => intro _; rw [hX.1]; exact Int.le_refl _
        | succ v ih =>
          intro hv
          have q1 := ih (by omega)
          have q2 := hX.2.1 v _ (List.getElem?_eq_getElem (show v < t.rows.length by omega))
          have q3 := (ht.row _ (List.getElem_mem (show v < t.rows.length by omega))).1
          unfold gap at q2
          omega
      refine ⟨m, ?_, m1, (hsol _ m2.2.1).mp m2.1, ?_, fun X hX v hv => m3 X ⟨(hsol X hX.1).mpr hX, hX.1, nn X hX⟩ v hv⟩
      · refine gDef_ev' (fB := f_row_lines_for) [.val (tabD t), .val (tiD xs), .un, .un, .un, .un, .un, .un, .un, .un, .un, .un, .un] rfl rfl ?_
        unfold f_row_lines_for
        refine (sSeq_nx e1).trans ((sSeq_nx e2').trans ?_)
        refine (sSeq_nx (sFor_ev (ds := t.cells.map cellD) (iSeq_t rfl) h2)).trans ?_
        rw [← hcs]
        show sRet _ [.val (tabD t), .val (tiD xs), .val (.tuple (t.cols.map colD)), .val (.tuple (t.rows.map rowD)), .val (.tuple (t.cells.map cellD)), .val (.list (cs.map conD)), w6, w7, w8', w9, w10, w11, .un] = _
        have hlen : eCall lenA (aCons (eVar 3) aNil) [.val (tabD t), .val (tiD xs), .val (.tuple (t.cols.map colD)), .val (.tuple (t.rows.map rowD)), .val (.tuple (t.cells.map cellD)), .val (.list (cs.map conD)), w6, w7, w8', w9, w10, w11, .un] = some (.int (t.rows.length : Nat)) := by
          refine (eCall_ev (aCons_ev rfl aNil_ev) rfl).trans ?_
          show some (PyData.int (List.length _ : Nat)) = _
          rw [List.length_map]
        exact sRet_ev (eCall_ev (aCons_ev (eCall_ev (aCons_ev (e2_ev hlen rfl (addD_int _ _)) (aCons_ev rfl aNil_ev)) hlp) aNil_ev) rfl)
      · have := m3 _ hS0 t.rows.length (by omega)
        have this' : at0 m t.rows.length ≤ 3 * (t.rows.length : Nat) := this
        omega
  · left
    refine ⟨h1, ?_⟩
    refine gDef_ev' (fB := f_row_lines_for) [.val (tabD t), .val (tiD xs), .un, .un, .un, .un, .un, .un, .un, .un, .un, .un, .un] rfl rfl ?_
    unfold f_row_lines_for
    refine (sSeq_nx e1).trans ((sSeq_nx e2').trans ?_)
    exact sSeq_rt (sFor_ev (ds := t.cells.map cellD) (iSeq_t rfl) h2)
/-! ### the law -/
theorem lo_evL (hs : List Int) (h : hs.length < 900) : g_Llines_of [.list (hs.map .int)] = some (.tuple ((laF hs).map .int)) := by
  obtain ⟨z, hz⟩ := lo_loop (.val (.list (hs.map .int))) hs [0] .un (by simp) (by simp; omega)
  refine gDef_ev' (fB := f_Llines_of) [.val (.list (hs.map .int)), .un, .un] rfl rfl ?_
  unfold f_Llines_of
  refine (sSeq_nx (e := [.val (.list (hs.map .int)), .own ([0].map .int), .un]) rfl).trans ?_
  refine (sSeq_nx (sFor_ev (iSeq_l rfl) hz)).trans ?_
  exact sRet_ev (eTupO_ev rfl)
theorem rlay_iff (t : LTab) (ht : TabOk t) (xs x : List Int) : (Ris 11 t.rows.length x ∧ RowsR t x ∧ CellsR t xs x) ↔ (x.length = t.rows.length + 1 ∧ RLay t xs (at0 x) ∧ at0 x t.rows.length ≤ 11) := by
  constructor
  · rintro ⟨h1, h2, h3⟩
    refine ⟨h1.len, ⟨h1.z, fun j r hr => ?_, h3⟩, ?_⟩
    · have := h2 j r hr
      rw [inn_gap] at this
      exact this
    · have h0 := ht.nr.1
      have := h1.mx (t.rows.length - 1) (by omega)
      rw [show t.rows.length - 1 + 1 = t.rows.length from by omega] at this
      exact this
  · rintro ⟨hl, ⟨h0, h1, h3⟩, h4⟩
    have hg : ∀ j, j < t.rows.length → 1 ≤ gap (at0 x) j := fun j hj => by
      have q2 := h1 j _ (List.getElem?_eq_getElem hj)
      have q3 := (ht.row _ (List.getElem_mem hj)).1
      omega
    refine ⟨⟨hl, h0, fun j hj => ?_, fun j hj => ?_⟩, fun j r hr => ?_, h3⟩
    · have := hg j hj
      unfold gap at this
      show at0 x j + 2 ≤ at0 x (j + 1)
      omega
    · have up : ∀ d : Nat, j + 1 + d ≤ t.rows.length → at0 x (j + 1) ≤ at0 x (j + 1 + d) := by
        intro d
        induction d with
        | zero => intro _; exact Int.le_refl _
        | succ d ih =>
          intro hd
          have e1 := ih (by omega)
          have e2 := hg (j + 1 + d) (by omega)
          unfold gap at e2
          rw [show j + 1 + (d + 1) = j + 1 + d + 1 from by omega]
          omega
      have := up (t.rows.length - (j + 1)) (by omega)
      rw [show j + 1 + (t.rows.length - (j + 1)) = t.rows.length from by omega] at this
      show at0 x (j + 1) ≤ 11
      omega
    · rw [inn_gap]
      exact h1 j r hr
theorem inT_ti (x : List Int) (L : List (List Int)) (h : x ∈ L) : inT (tiD x) (.list (L.map tiD)) = some (.bool true) := by
  have s1 := (shaped_ints x).2
  have s2 : SeqAt.shaped (.list (L.map tiD)) = true := by
    obtain ⟨h1, h2⟩ := lay_tis L
    unfold SeqAt.shaped
    simp [PyData.canLay0, h1, PyData.depth]
    omega
  have ha : ((L.map tiD).any fun z => PyData.eqv z (tiD x)) = true := by
    rw [List.any_eq_true]
    refine ⟨tiD x, List.mem_map.mpr ⟨x, h, rfl⟩, ?_⟩
    show PyData.eqvAll _ _ = true
    rw [eqv_ints]
    exact decide_eq_true rfl
  show (if (SeqAt.shaped (tiD x) && SeqAt.shaped (.list (L.map tiD))) = true then some (PyData.bool ((L.map tiD).any fun z => PyData.eqv z (tiD x))) else none) = _
  rw [if_pos (by rw [show SeqAt.shaped (tiD x) = true from s1, s2]; rfl), ha]
theorem la_nn (hs : List Int) (h : ∀ j, j < hs.length → 1 ≤ hs.getD j 0) : ∀ j, j ≤ hs.length → 0 ≤ (laF hs).getD j 0 := by
  intro j
  induction j with
  | zero => intro _; rw [(laF_spec hs).2.1]; exact Int.le_refl _
  | succ j ih =>
    intro hj
    have h1 := ih (by omega)
    have h2 := (laF_spec hs).2.2 j (hs.getD j 0) (gD_of (by omega))
    have h3 := h j (by omega)
    rw [h2]
    omega
theorem vio_lay (s : Str) (hs : PyData.strOk s = true) (k : Nat) : PyData.canLay0 (vio s k) = true ∧ PyData.depth (vio s k) ≤ 1 := by
  refine ⟨?_, ?_⟩
  · simp [vio, PyData.canLay0, PyData.canLayAll0, hs]
  · simp [vio, PyData.depth, PyData.depthAll]
theorem vs_lay : ∀ (l : List PyData), (∀ d ∈ l, PyData.canLay0 d = true ∧ PyData.depth d ≤ 1) → PyData.canLayAll0 l = true ∧ PyData.depthAll l ≤ 1
  | [], _ => ⟨rfl, Nat.zero_le _⟩
  | d :: l, h => by
    obtain ⟨h1, h2⟩ := vs_lay l fun x hx => h x (List.mem_cons_of_mem _ hx)
    obtain ⟨k1, k2⟩ := h d List.mem_cons_self
    refine ⟨?_, ?_⟩
    · simp [PyData.canLayAll0, h1, k1]
    · simp [PyData.depthAll]
      omega
theorem vAll_mem {α : Type} (f : Nat → α → List PyData) (P : PyData → Prop) (h : ∀ k x, ∀ d ∈ f k x, P d) : ∀ (k : Nat) (l : List α), ∀ d ∈ vAll f k l, P d
  | _, [], d, hd => by cases hd
  | k, x :: r, d, hd => by
    rw [vAll] at hd
    rcases List.mem_append.mp hd with z | z
    · exact h k x d z
    · exact vAll_mem f P h (k + 1) r d z
theorem shaped_vTab (t : LTab) (xs ys : List Int) : SeqAt.shaped (.list (vTab t xs ys)) = true := by
  have one : ∀ (s : Str) (hs : PyData.strOk s = true) (k : Nat) (d : PyData), d ∈ [vio s k] → PyData.canLay0 d = true ∧ PyData.depth d ≤ 1 := fun s hs k d h => by
    rw [List.mem_singleton.mp h]
    exact vio_lay s hs k
  have h : ∀ d ∈ vTab t xs ys, PyData.canLay0 d = true ∧ PyData.depth d ≤ 1 := fun d hd => by
    unfold vTab at hd
    rcases List.mem_append.mp hd with hd | hd
    · rcases List.mem_append.mp hd with hd | hd
      · refine vAll_mem (vCell xs ys) (fun d => PyData.canLay0 d = true ∧ PyData.depth d ≤ 1) (fun k x d hd => ?_) 0 t.cells d hd
        unfold vCell at hd
        split at hd
        · cases hd
        · exact one "cell" (by decide +kernel) k d hd
      · refine vAll_mem (vCol xs (xs.getD t.cols.length 0)) (fun d => PyData.canLay0 d = true ∧ PyData.depth d ≤ 1) (fun k x d hd => ?_) 0 t.cols d hd
        unfold vCol at hd
        rcases List.mem_append.mp hd with hd | hd
        · rcases List.mem_append.mp hd with hd | hd
          · split at hd
            · exact one "least" (by decide +kernel) k d hd
            · cases hd
          · split at hd
            · exact one "most" (by decide +kernel) k d hd
            · cases hd
        · split at hd
          · exact one "percent" (by decide +kernel) k d hd
          · cases hd
    · refine vAll_mem (vRow ys) (fun d => PyData.canLay0 d = true ∧ PyData.depth d ≤ 1) (fun k x d hd => ?_) 0 t.rows d hd
      unfold vRow at hd
      split at hd
      · exact one "row" (by decide +kernel) k d hd
      · cases hd
  obtain ⟨h1, h2⟩ := vs_lay _ h
  unfold SeqAt.shaped
  simp [PyData.canLay0, h1, PyData.depth]
  omega
theorem law_true (ns : List Int) (hn : ns.length ≤ 63) : g_law [.list (ns.map .int)] = some (.bool true) := by
  obtain ⟨S, hS⟩ : ∃ S : PyData, S = .list (ns.map .int) := ⟨_, rfl⟩
  obtain ⟨t0, ht0, ok0⟩ := ktable_ev ns 1
  have hc2 := cell_ev ns 2
  have hc0 := cell_ev ns 0
  obtain ⟨ds, hd, hdl, hdb⟩ := draws_ev (ns.getD 0 0) 8 (by omega)
  rw [← hS] at ht0 hc2 hc0 ⊢
  obtain ⟨c, hc⟩ : ∃ c : Int, c = ns.getD 2 0 := ⟨_, rfl⟩
  rw [← hc] at hc2
  obtain ⟨t, ht, hset⟩ : ∃ t, TabOk t ∧ sIf (t1 (e2 eqD (e2 modD (eCall g_Lcell (aCons (eVar 0) (aCons (eC (.int 2)) aNil))) (eC (.int 4))) (eC (.int 1)))) (sSet 1 (eCall g_Llong_table (aCons (e2 addD (eC (.int 1)) (e2 modD (e2 divD (eCall g_Lcell (aCons (eVar 0) (aCons (eC (.int 2)) aNil))) (eC (.int 4))) (eC (.int 4)))) (aCons (e2 addD (eC (.int 2)) (e2 modD (e2 divD (eCall g_Lcell (aCons (eVar 0) (aCons (eC (.int 2)) aNil))) (eC (.int 16))) (eC (.int 2)))) aNil)))) sNil [.val S, .val (tabD t0), .un, .un, .un, .un, .un, .un, .un, .un] = .nx [.val S, .val (tabD t), .un, .un, .un, .un, .un, .un, .un, .un] := by
    have hcell : eCall g_Lcell (aCons (eVar 0) (aCons (eC (.int 2)) aNil)) [.val S, .val (tabD t0), .un, .un, .un, .un, .un, .un, .un, .un] = some (.int c) := eCall_ev (aCons_ev rfl (aCons_ev rfl aNil_ev)) hc2
    by_cases h : c % 4 = 1
    · have q1 := Int.emod_nonneg (c / 4) (b := 4) (by omega)
      have q2 := Int.emod_lt_of_pos (c / 4) (b := 4) (by omega)
      have q3 := Int.emod_nonneg (c / 16) (b := 2) (by omega)
      have q4 := Int.emod_lt_of_pos (c / 16) (b := 2) (by omega)
      obtain ⟨t, h1, h2⟩ := long_ev (1 + c / 4 % 4) (2 + c / 16 % 2) ⟨by omega, by omega⟩ ⟨by omega, by omega⟩
      refine ⟨t, h2, (sIf_t (t1_ev (e2_ev (e2_ev hcell rfl (modD_int (by omega))) rfl ((eqD_int _ _).trans (by rw [decide_eq_true h]))))).trans (sSet_ev (eCall_ev (aCons_ev (e2_ev rfl (e2_ev (e2_ev hcell rfl (divD_int ⟨by decide, by decide⟩)) rfl (modD_int (by omega))) (addD_int _ _)) (aCons_ev (e2_ev rfl (e2_ev (e2_ev hcell rfl (divD_int ⟨by decide, by decide⟩)) rfl (modD_int (by omega))) (addD_int _ _)) aNil_ev)) h1))⟩
    · exact ⟨t0, ok0, (sIf_f (t1_ev (e2_ev (e2_ev hcell rfl (modD_int (by omega))) rfl ((eqD_int _ _).trans (by rw [decide_eq_false h]))))).trans rfl⟩
  have hnr := ht.nr
  have hnc := ht.nc
  obtain ⟨hs, hhs⟩ : ∃ hs : List Int, hs = (List.range t.cols.length).map fun k : Nat => 1 + ds.getD k 0 % 6 := ⟨_, rfl⟩
  obtain ⟨gs, hgs⟩ : ∃ hs : List Int, hs = (List.range t.rows.length).map fun k : Nat => 1 + ds.getD (4 + k) 0 % 4 := ⟨_, rfl⟩
  have hl : hs.length = t.cols.length := by rw [hhs, List.length_map, List.length_range]
  have gl : gs.length = t.rows.length := by rw [hgs, List.length_map, List.length_range]
  have hv : ∀ j, j < hs.length → 1 ≤ hs.getD j 0 ∧ hs.getD j 0 ≤ 6 := fun j hj => by
    have e : hs.getD j 0 = 1 + ds.getD j 0 % 6 := by
      rw [hhs]
      simp [List.getD, show j < t.cols.length by omega]
    rw [e]
    have := mod_lt (ds.getD j 0) 6 (by decide)
    omega
  obtain ⟨xs, hxs⟩ : ∃ xs, xs = laF hs := ⟨_, rfl⟩
  obtain ⟨ys, hys⟩ : ∃ xs, xs = laF gs := ⟨_, rfl⟩
  have hx : xs.length = t.cols.length + 1 := by rw [hxs, (laF_spec hs).1, hl]
  have hy : ys.length = t.rows.length + 1 := by rw [hys, (laF_spec gs).1, gl]
  have hxl := hx
  have hW : ∀ x ∈ t.cells, 1 ≤ inn xs x.c x.w := fun x hxm => by rw [hxs]; exact colInn t ht hs hl (fun j hj => (hv j hj).1) x hxm
  have hb := la_bound hs 6 (by omega) (fun j hj => (hv j hj).2) t.cols.length (by omega)
  have hnn := la_nn hs (fun j hj => (hv j hj).1) t.cols.length (by omega)
  rw [← hxs] at hb hnn
  have hWb : ∀ k : Nat, k < t.cols.length → -100000 ≤ inn xs (k : Nat) 1 ∧ inn xs (k : Nat) 1 ≤ 100000 := fun k hk => by
    rw [hxs, la_inn hs k _ (gD_of (d := 0) (by omega))]
    have := hv k (by omega)
    omega
  have v1 := viol_ev t ht xs ys hx hy hW ⟨hnn, by omega⟩ hWb
  have v2 := lviol_ev t ht xs ys hx hy hW ⟨hnn, by omega⟩ hWb
  have hrl := rlf_ev t ht xs hx
  have hlo1 := lo_evL hs (by omega)
  have hlo2 := lo_evL gs (by omega)
  rw [← hxs] at hlo1
  rw [← hys] at hlo2
  obtain ⟨Rs, r1, r2, r3⟩ := ris_ev 11 ⟨by decide, by decide⟩ t.rows.length hnr.2
  obtain ⟨V, hV⟩ : ∃ V : PyData, V = .list (vTab t xs ys) := ⟨_, rfl⟩
  have hVs : SeqAt.shaped V = true := by rw [hV]; exact shaped_vTab t xs ys
  rw [← hV] at v1 v2
  obtain ⟨D, hD⟩ : ∃ D : PyData, D = .list (ds.map .int) := ⟨_, rfl⟩
  rw [← hD] at hd
  have dat : ∀ (k : Nat) (kv : Int), kv = (k : Nat) → k < 8 → ixG D (.int kv) = some (.int (ds.getD k 0)) := fun k kv hk h8 => by
    rw [hD, hk]
    exact atI_map _ _ _ _ (by simp [List.getD, show k < ds.length by omega])
  refine gDef_ev' (fB := f_law) [.val S, .un, .un, .un, .un, .un, .un, .un, .un, .un] rfl rfl ?_
  unfold f_law
  refine (sSeq_nx (e := [.val S, .val (tabD t0), .un, .un, .un, .un, .un, .un, .un, .un]) (sSet_ev (eCall_ev (aCons_ev rfl (aCons_ev rfl (aCons_ev rfl (aCons_ev rfl aNil_ev)))) ht0))).trans ?_
  refine (sSeq_nx hset).trans ?_
  obtain ⟨T, hT⟩ : ∃ T : PyData, T = tabD t := ⟨_, rfl⟩
  have rows : ∀ (a : List Sl), e2 ixG (eVar 1) (eC (.int 1)) (.val S :: .val T :: a) = some (.tuple (t.rows.map rowD)) := fun a => by rw [hT]; rfl
  have colsE : ∀ (a : List Sl), e2 ixG (eVar 1) (eC (.int 0)) (.val S :: .val T :: a) = some (.tuple (t.cols.map colD)) := fun a => by rw [hT]; rfl
  rw [← hT] at v1 v2 hrl ⊢
  have rng : ∀ (env : En) (f : En → Option PyData) (xs : List PyData), f env = some (.tuple xs) → xs.length ≤ 100 → iR1 (aCons (eCall lenA (aCons f aNil)) aNil) env = some (rngD 0 xs.length) := fun env f xs hf hd => by
    have := iR1_ev (fa := aCons (eCall lenA (aCons f aNil)) aNil) (env := env) (N := (xs.length : Nat)) (aCons_ev (eCall_ev (aCons_ev hf aNil_ev) rfl) aNil_ev) (by omega) (by omega)
    rw [Int.toNat_natCast] at this
    exact this
  refine (sSeq_nx (e := [.val S, .val T, .val D, .un, .un, .un, .un, .un, .un, .un]) (sSet_ev (eCall_ev (aCons_ev (eCall_ev (aCons_ev rfl (aCons_ev rfl aNil_ev)) hc0) (aCons_ev rfl aNil_ev)) hd))).trans ?_
  refine (sSeq_nx (e := [.val S, .val T, .val D, .val (tiD xs), .un, .un, .un, .un, .un, .un]) (sSet_ev (eCall_ev (aCons_ev ((eL_ev (fCmp_ev (ds := rngD 0 (t.cols.map colD).length) (vs := (List.range (t.cols.map colD).length).map fun k : Nat => PyData.int (1 + ds.getD k 0 % 6)) (rng _ _ _ (colsE _) (by rw [List.length_map]; omega)) (compF_mapS fun k hk => ⟨_, rfl, ?_⟩) (by simp; omega))).trans (by rw [List.length_map, show ((List.range t.cols.length).map fun k : Nat => PyData.int (1 + ds.getD k 0 % 6)) = hs.map .int from by rw [hhs, List.map_map]; rfl])) aNil_ev) hlo1))).trans ?_
  · have hk' := List.mem_range.mp hk
    rw [List.length_map] at hk'
    obtain ⟨kv, hkv⟩ : ∃ z : Int, z = 0 + (k : Nat) := ⟨_, rfl⟩
    rw [← hkv]
    exact e2_ev rfl (e2_ev (e2_ev (x := D) (y := .int kv) rfl rfl (dat k kv (by omega) (by omega))) rfl (modD_int (by omega))) (addD_int _ _)
  refine (sSeq_nx (e := [.val S, .val T, .val D, .val (tiD xs), .val (tiD ys), .un, .un, .un, .un, .un]) (sSet_ev (eCall_ev (aCons_ev ((eL_ev (fCmp_ev (ds := rngD 0 (t.rows.map rowD).length) (vs := (List.range (t.rows.map rowD).length).map fun k : Nat => PyData.int (1 + ds.getD (4 + k) 0 % 4)) (rng _ _ _ (rows _) (by rw [List.length_map]; omega)) (compF_mapS fun k hk => ⟨_, rfl, ?_⟩) (by simp; omega))).trans (by rw [List.length_map, show ((List.range t.rows.length).map fun k : Nat => PyData.int (1 + ds.getD (4 + k) 0 % 4)) = gs.map .int from by rw [hgs, List.map_map]; rfl])) aNil_ev) hlo2))).trans ?_
  · have hk' := List.mem_range.mp hk
    rw [List.length_map] at hk'
    obtain ⟨kv, hkv⟩ : ∃ z : Int, z = 0 + (k : Nat) := ⟨_, rfl⟩
    rw [← hkv]
    exact e2_ev rfl (e2_ev (e2_ev (x := D) (y := .int (4 + kv)) rfl (e2_ev rfl rfl (addD_int _ _)) (dat (4 + k) (4 + kv) (by omega) (by omega))) rfl (modD_int (by omega))) (addD_int _ _)
  refine (sSeq_nx (e := [.val S, .val T, .val D, .val (tiD xs), .val (tiD ys), .val V, .un, .un, .un, .un]) (sSet_ev (eCall_ev (aCons_ev rfl (aCons_ev (eTup_ev (aCons_ev rfl (aCons_ev rfl aNil_ev)) (by simp)) aNil_ev)) v1))).trans ?_
  refine (sSeq_nx (e := [.val S, .val T, .val D, .val (tiD xs), .val (tiD ys), .val V, .un, .un, .un, .un]) ((sIf_f (or_f (not_ev (b := true) (t1_ev (eIsi_ev (d := V) rfl (by rw [hV]; rfl)))) (t1_ev (e2_ev rfl (eCall_ev (aCons_ev rfl (aCons_ev rfl (aCons_ev rfl aNil_ev))) v2) (neD_same hVs))))).trans rfl)).trans ?_
  -- the lists of right lines
  obtain ⟨L, hL1, hL2, hL3⟩ : ∃ L : List (List Int), (∃ K : List (List Int), sSet 6 (eL (fCmp [9] (iSeq (eCall g_Lrising (aCons (eCall lenA (aCons (e2 ixG (eVar 1) (eC (.int 1))) aNil)) (aCons (eC (.int 11)) aNil)))) (gVal 9) t_law_3 c_law_3)) [.val S, .val T, .val D, .val (tiD xs), .val (tiD ys), .val V, .un, .un, .un, .un] = .nx [.val S, .val T, .val D, .val (tiD xs), .val (tiD ys), .val V, .val (.list (K.map tiD)), .un, .un, .un] ∧ sSet 7 (eL (fCmp [9] (iSeq (eVar 6)) (gVal 9) t_law_4 c_law_4)) [.val S, .val T, .val D, .val (tiD xs), .val (tiD ys), .val V, .val (.list (K.map tiD)), .un, .un, .un] = .nx [.val S, .val T, .val D, .val (tiD xs), .val (tiD ys), .val V, .val (.list (K.map tiD)), .val (.list (L.map tiD)), .un, .un]) ∧ L.length ≤ 31 ^ 3 ∧ ∀ x, x ∈ L ↔ x.length = t.rows.length + 1 ∧ RLay t xs (at0 x) ∧ at0 x t.rows.length ≤ 11 := by
    classical
    refine ⟨(Rs.filter fun x => decide (RowsR t x)).filter fun x => decide (CellsR t xs x), ⟨Rs.filter fun x => decide (RowsR t x), ?_, ?_⟩, Nat.le_trans (List.length_filter_le _ _) (Nat.le_trans (List.length_filter_le _ _) r2), fun x => ?_⟩
    · have hlen : eCall lenA (aCons (e2 ixG (eVar 1) (eC (.int 1))) aNil) [.val S, .val T, .val D, .val (tiD xs), .val (tiD ys), .val V, .un, .un, .un, .un] = some (.int (t.rows.length : Nat)) := by
        refine (eCall_ev (aCons_ev (rows _) aNil_ev) rfl).trans ?_
        show some (PyData.int (List.length _ : Nat)) = _
        rw [List.length_map]
      refine sSet_ev (eL_ev (fCmp_ev (ds := Rs.map tiD) (vs := (Rs.filter fun x => decide (RowsR t x)).map tiD) (iSeq_l (eCall_ev (aCons_ev hlen (aCons_ev rfl aNil_ev)) r1)) (compF_filterS fun x hx => ⟨_, rfl, ?_, fun _ => rfl⟩) (by rw [List.length_map]; exact Nat.le_trans (List.length_filter_le _ _) (Nat.le_trans r2 (by decide)))))
      obtain ⟨b, k1, k2⟩ := rowsR_ev t ht x ((r3 x).mp hx).len
      have hb : decide (RowsR t x) = b := by
        cases b with
        | true => exact decide_eq_true (k2.mp rfl)
        | false => exact decide_eq_false fun z => absurd (k2.mpr z) (by decide)
      rw [hb]
      rw [← hT] at k1
      exact tTr_ev (eCall_ev (aCons_ev rfl (aCons_ev rfl aNil_ev)) k1) rfl
    · refine sSet_ev (eL_ev (fCmp_ev (ds := (Rs.filter fun x => decide (RowsR t x)).map tiD) (iSeq_l rfl) (compF_filterS fun x hx => ⟨_, rfl, ?_, fun _ => rfl⟩) (by rw [List.length_map]; exact Nat.le_trans (List.length_filter_le _ _) (Nat.le_trans (List.length_filter_le _ _) (Nat.le_trans r2 (by decide))))))
      have hr := (r3 x).mp (List.mem_filter.mp hx).1
      obtain ⟨b, k1, k2⟩ := cellsR_ev t ht xs x hxl hr.len (fun c hcm => by have := hW c hcm; omega)
      have hb : decide (CellsR t xs x) = b := by
        cases b with
        | true => exact decide_eq_true (k2.mp rfl)
        | false => exact decide_eq_false fun z => absurd (k2.mpr z) (by decide)
      rw [hb]
      rw [← hT] at k1
      exact tTr_ev (eCall_ev (aCons_ev rfl (aCons_ev rfl (aCons_ev rfl aNil_ev))) k1) rfl
    · rw [List.mem_filter, List.mem_filter, r3, decide_eq_true_eq, decide_eq_true_eq, ← rlay_iff t ht]
      constructor
      · rintro ⟨⟨a, b⟩, c⟩
        exact ⟨a, b, c⟩
      · rintro ⟨a, b, c⟩
        exact ⟨⟨a, b⟩, c⟩
  obtain ⟨K, hK1, hK2⟩ := hL1
  refine (sSeq_nx hK1).trans ((sSeq_nx hK2).trans ?_)
  have hlenL : ∀ (d : Sl), e2 eqD (eCall lenA (aCons (eVar 7) aNil)) (eC (.int 0)) [.val S, .val T, .val D, .val (tiD xs), .val (tiD ys), d, .val (.list (K.map tiD)), .val (.list (L.map tiD)), .un, .un] = some (.bool (decide (L.length = 0))) := fun d => by
    refine e2_ev (x := .int (L.length : Nat)) ((eCall_ev (aCons_ev rfl aNil_ev) rfl).trans (by show some (PyData.int (List.length _ : Nat)) = _; rw [List.length_map])) rfl ((eqD_int _ _).trans ?_)
    rw [show decide (((L.length : Nat) : Int) = 0) = decide (L.length = 0) from decide_eq_decide.mpr (by omega)]
  rcases hrl with ⟨q1, q2⟩ | ⟨m, q2, q3, q4, q5, q6⟩
  · refine (sSeq_nx (e := [.val S, .val T, .val D, .val (tiD xs), .val (tiD ys), .val .none, .val (.list (K.map tiD)), .val (.list (L.map tiD)), .un, .un]) (sSet_ev (eCall_ev (aCons_ev rfl (aCons_ev rfl aNil_ev)) q2))).trans ?_
    have h0 : L.length = 0 := by
      cases L with
      | nil => rfl
      | cons x r =>
        have := (hL3 x).mp List.mem_cons_self
        exact absurd (fun c hc => (this.2.1.2.2 c hc).1) q1
    exact sSeq_rt ((sIf_t (t1_ev ((hlenL _).trans (by rw [decide_eq_true h0])))).trans (sRet_ev rfl))
  · refine (sSeq_nx (e := [.val S, .val T, .val D, .val (tiD xs), .val (tiD ys), .val (tiD m), .val (.list (K.map tiD)), .val (.list (L.map tiD)), .un, .un]) (sSet_ev (eCall_ev (aCons_ev rfl (aCons_ev rfl aNil_ev)) q2))).trans ?_
    have hm : m ∈ L := (hL3 m).mpr ⟨q3, q4, q5⟩
    have h0 : ¬ L.length = 0 := fun z => by have := List.length_pos_of_mem hm; omega
    have hle := least_ev L (t.rows.length + 1) (by omega) m hm fun y hy => by
      obtain ⟨s2, s3, _⟩ := (hL3 y).mp hy
      exact ⟨s2, fun v hv => q6 _ s3 v hv⟩
    refine (sSeq_nx (Eq.trans (sIf_f (t1_ev ((hlenL _).trans (by rw [decide_eq_false h0])))) rfl)).trans ?_
    exact sRet_ev (eAnd_t (eIsi_ev (d := tiD m) rfl rfl) (eAnd_t (e2_ev rfl (eCall_ev (aCons_ev rfl aNil_ev) hle) (eqD_same (shaped_ints m).2)) (e2_ev rfl rfl (inT_ti m L hm))))
end K12

open PySem PySem.W PyProof.Rows
set_option maxHeartbeats 0 in
theorem PySem.Challenge.cw_boundbook_k12_row_lines_and_violations_holds : PySem.Challenge.rw_boundbook_k12_row_lines_and_violations.Holds := by
  w_on; o_law; k_head; (case hw => w_witness2)
  k_fill
  refine L2.walk_of (l := PySem.Challenge.rw_boundbook_k12_row_lines_and_violations) (n := 63) (k := 6) (x := "script") (CX := fun _ => L2.CX0) (sp := fun w => Mir.spF _ K12.g_law) rfl (by decide) rfl ⟨rfl, by decide, by decide⟩ (fun w h Y => PySem.W.kIn_of Y) ?F (fun w H a ns hl hO hS => Mir.law_end hS (K12.law_true ns hl)) (fun _ _ _ _ _ h => h)
  case F =>
    intro w mg fa h KX G hmg
    refine' K12.all_mk KX G hmg ?a_raised ?l_raised ?c_raised ?k_raised ?a_least_positions ?l_least_positions ?c_least_positions ?k_least_positions ?a_inner_size ?l_inner_size ?c_inner_size ?k_inner_size ?a_longest ?l_longest ?c_longest ?k_longest ?a_length_of ?l_length_of ?c_length_of ?k_length_of ?a_wrap ?l_wrap ?c_wrap ?k_wrap ?a_line_count ?l_line_count ?c_line_count ?k_line_count ?a_row_lines_for ?l_row_lines_for ?c_row_lines_for ?k_row_lines_for ?a_is_cell_met ?l_is_cell_met ?c_is_cell_met ?k_is_cell_met ?a_column_violations ?l_column_violations ?c_column_violations ?k_column_violations ?a_violations ?l_violations ?c_violations ?k_violations ?a_Lcell ?l_Lcell ?c_Lcell ?k_Lcell ?a_Ldraws ?l_Ldraws ?c_Ldraws ?k_Ldraws ?a_Lwords ?l_Lwords ?c_Lwords ?k_Lwords ?a_Lspan ?l_Lspan ?c_Lspan ?k_Lspan ?a_Lcells ?l_Lcells ?c_Lcells ?k_Lcells ?a_Ltable ?l_Ltable ?c_Ltable ?k_Ltable ?a_Lline_count ?l_Lline_count ?c_Lline_count ?k_Lline_count ?a_Linner ?l_Linner ?c_Linner ?k_Linner ?a_Lcells_right ?l_Lcells_right ?c_Lcells_right ?k_Lcells_right ?a_Lrows_right ?l_Lrows_right ?c_Lrows_right ?k_Lrows_right ?a_Lrising ?l_Lrising ?c_Lrising ?k_Lrising ?a_Llines_of ?l_Llines_of ?c_Llines_of ?k_Llines_of ?a_Lleast ?l_Lleast ?c_Lleast ?k_Lleast ?a_Lviolated ?l_Lviolated ?c_Lviolated ?k_Lviolated ?a_Llong_table ?l_Llong_table ?c_Llong_table ?k_Llong_table ?a_law ?l_law ?c_law ?k_law ?z_list ?z_range ?z_len ?z_max ?z_enumerate ?z_tuple ?z_min ?z_isinstance
    (case a_raised => k_is)
    (case l_raised => k_is)
    (case c_raised => k_is)
    (case k_raised => k_is)
    (case a_least_positions => k_is)
    (case l_least_positions => k_is)
    (case c_least_positions => k_is)
    (case k_least_positions => k_is)
    (case a_inner_size => k_is)
    (case l_inner_size => k_is)
    (case c_inner_size => k_is)
    (case k_inner_size => k_is)
    (case a_longest => k_is)
    (case l_longest => k_is)
    (case c_longest => k_is)
    (case k_longest => k_is)
    (case a_length_of => k_is)
    (case l_length_of => k_is)
    (case c_length_of => k_is)
    (case k_length_of => k_is)
    (case a_wrap => k_is)
    (case l_wrap => k_is)
    (case c_wrap => k_is)
    (case k_wrap => k_is)
    (case a_line_count => k_is)
    (case l_line_count => k_is)
    (case c_line_count => k_is)
    (case k_line_count => k_is)
    (case a_row_lines_for => k_is)
    (case l_row_lines_for => k_is)
    (case c_row_lines_for => k_is)
    (case k_row_lines_for => k_is)
    (case a_is_cell_met => k_is)
    (case l_is_cell_met => k_is)
    (case c_is_cell_met => k_is)
    (case k_is_cell_met => k_is)
    (case a_column_violations => k_is)
    (case l_column_violations => k_is)
    (case c_column_violations => k_is)
    (case k_column_violations => k_is)
    (case a_violations => k_is)
    (case l_violations => k_is)
    (case c_violations => k_is)
    (case k_violations => k_is)
    (case a_Lcell => k_is)
    (case l_Lcell => k_is)
    (case c_Lcell => k_is)
    (case k_Lcell => k_is)
    (case a_Ldraws => k_is)
    (case l_Ldraws => k_is)
    (case c_Ldraws => k_is)
    (case k_Ldraws => k_is)
    (case a_Lwords => k_is)
    (case l_Lwords => k_is)
    (case c_Lwords => k_is)
    (case k_Lwords => k_is)
    (case a_Lspan => k_is)
    (case l_Lspan => k_is)
    (case c_Lspan => k_is)
    (case k_Lspan => k_is)
    (case a_Lcells => k_is)
    (case l_Lcells => k_is)
    (case c_Lcells => k_is)
    (case k_Lcells => k_is)
    (case a_Ltable => k_is)
    (case l_Ltable => k_is)
    (case c_Ltable => k_is)
    (case k_Ltable => k_is)
    (case a_Lline_count => k_is)
    (case l_Lline_count => k_is)
    (case c_Lline_count => k_is)
    (case k_Lline_count => k_is)
    (case a_Linner => k_is)
    (case l_Linner => k_is)
    (case c_Linner => k_is)
    (case k_Linner => k_is)
    (case a_Lcells_right => k_is)
    (case l_Lcells_right => k_is)
    (case c_Lcells_right => k_is)
    (case k_Lcells_right => k_is)
    (case a_Lrows_right => k_is)
    (case l_Lrows_right => k_is)
    (case c_Lrows_right => k_is)
    (case k_Lrows_right => k_is)
    (case a_Lrising => k_is)
    (case l_Lrising => k_is)
    (case c_Lrising => k_is)
    (case k_Lrising => k_is)
    (case a_Llines_of => k_is)
    (case l_Llines_of => k_is)
    (case c_Llines_of => k_is)
    (case k_Llines_of => k_is)
    (case a_Lleast => k_is)
    (case l_Lleast => k_is)
    (case c_Lleast => k_is)
    (case k_Lleast => k_is)
    (case a_Lviolated => k_is)
    (case l_Lviolated => k_is)
    (case c_Lviolated => k_is)
    (case k_Lviolated => k_is)
    (case a_Llong_table => k_is)
    (case l_Llong_table => k_is)
    (case c_Llong_table => k_is)
    (case k_Llong_table => k_is)
    (case a_law => k_is)
    (case l_law => k_is)
    (case c_law => k_is)
    (case k_law => k_is)
    (case z_list => k_is)
    (case z_range => k_is)
    (case z_len => k_is)
    (case z_max => k_is)
    (case z_enumerate => k_is)
    (case z_tuple => k_is)
    (case z_min => k_is)
    (case z_isinstance => k_is)


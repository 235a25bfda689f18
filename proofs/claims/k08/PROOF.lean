import PyProof.Rows.All
import Wide.All
import OpenK.AllK
import Wide.FinOn
import HandS.ForMost
import HandS.Deep
import HandS.TupAny
import KE.DatumOrd
import HandS.SortKw
import HandS.IsInst
import KE.GoesEnum
import HandS.Zip
import HandS.TupMul
import HandS.Style
import KE.KRevSl
import HandS.Dict
import HandS.ForExc
import KE.KExcSuper
import HandS.TryOnly
import HandS.WideBits
import HandS.More
import HandS.CallLocal
import KE.DataMinKey
import HandS.FStr
import HandS.Strs
import KE.KExcIs
import HandS.Conv
import KE.SortData
import KE.DataMinMax
import PyProof.Claim2Refuses
import PySem.Challenge.RW_boundbook_k08_least_positions
set_option Elab.async false
set_option linter.all false
set_option maxRecDepth 100000
set_option maxHeartbeats 8000000
/-! Mir: pure data (PyData) for what a def handles, an environment by slots with lists that are owned, and what a piece of code does to it. -/
namespace Mir
open PySem PySem.Spec PyProof.Rows L2

/-! ### data in the heap; S: where its lists may stand -/
/-- a list of the written part -/
def KL (K : PySem.W.Frag) (a : Addr) (xs : List V) : Prop := ∃ (o : Obj) (its : Array Value) (n : Nat), K.lookup a = some o ∧ o.cls = .type "list" ∧ o.dict = none ∧ o.data = .seq its n ∧ its.size ≤ sizeLine ∧ Vals xs its.toList
def LsAt (K : PySem.W.Frag) (S : Addr → Prop) (H : Hp) (a : Addr) (xs : List V) : Prop := (S a ∧ Rd H a (.lst xs)) ∨ KL K a xs
theorem LsAt.sq {K : PySem.W.Frag} {S : Addr → Prop} {H : Hp} {a : Addr} {xs : List V} (h : LsAt K S H a xs) : SqL K H a xs := h.imp (fun z => z.2) id
theorem LsAt.of {K : PySem.W.Frag} {S : Addr → Prop} {H : Hp} {a : Addr} {xs : List V} (s : S a) (h : SqL K H a xs) : LsAt K S H a xs := h.imp (fun z => ⟨s, z⟩) id
/-- what never changes, and is no tuple -/
def fz : HO → Bool
  | .frz _ _ => true
  | .xd _ => true
  | _ => false
/-- keys as data -/
def kdD : Key → PyData
  | .inl i => .int i
  | .inr x => .str x
def kdT (k : List Key) : PyData := .tuple (k.map kdD)
mutual
def Rp (K : PySem.W.Frag) (S : Addr → Prop) (H : Hp) : PyData → V → Prop
  | .none, v => v = .non
  | .bool b, v => v = .bl b
  | .int i, v => v = .int i
  | .str x, v => v = .str x
  | .list ds, v => ∃ a xs, v = .ref a ∧ LsAt K S H a xs ∧ RpA K S H ds xs
  | .tuple ds, v => ∃ a xs, v = .ref a ∧ H a = some (.tup xs) ∧ RpA K S H ds xs
  | .dict kvs, v => ∃ a od, v = .ref a ∧ ((∃ ws, H a = some (.frz od (.dT ws)) ∧ RpD K S H (List Key) kdT kvs ws) ∨ ∃ ws, H a = some (.frz od (.dK ws)) ∧ RpD K S H Key kdD kvs ws)
def RpA (K : PySem.W.Frag) (S : Addr → Prop) (H : Hp) : List PyData → List V → Prop
  | [], vs => vs = []
  | d :: ds, vs => ∃ v r, vs = v :: r ∧ Rp K S H d v ∧ RpA K S H ds r
def RpD (K : PySem.W.Frag) (S : Addr → Prop) (H : Hp) (κ : Type) (kd : κ → PyData) : List (PyData × PyData) → List (κ × V) → Prop
  | [], vs => vs = []
  | (k, d) :: ds, vs => ∃ q v r, vs = (q, v) :: r ∧ k = kd q ∧ Rp K S H d v ∧ RpD K S H κ kd ds r
end
section
variable {K : PySem.W.Frag} {S S' : Addr → Prop} {H H' : Hp}
mutual
theorem Rp.mono (hL : ∀ a xs, S a → Rd H a (.lst xs) → S' a ∧ Rd H' a (.lst xs)) (hT : ∀ a xs, H a = some (.tup xs) → H' a = some (.tup xs)) (hD : ∀ a u, fz u = true → H a = some u → H' a = some u) : ∀ (d : PyData) (v : V), Rp K S H d v → Rp K S' H' d v
  | .none, _, h => by rw [Rp] at h ⊢; exact h
  | .bool _, _, h => by rw [Rp] at h ⊢; exact h
  | .int _, _, h => by rw [Rp] at h ⊢; exact h
  | .str _, _, h => by rw [Rp] at h ⊢; exact h
  | .list ds, _, h => by
    rw [Rp] at h ⊢
    obtain ⟨a, xs, e, q, r⟩ := h
    exact ⟨a, xs, e, q.imp (fun z => hL a xs z.1 z.2) id, RpA.mono hL hT hD ds xs r⟩
  | .tuple ds, _, h => by
    rw [Rp] at h ⊢
    obtain ⟨a, xs, e, q, r⟩ := h
    exact ⟨a, xs, e, hT a xs q, RpA.mono hL hT hD ds xs r⟩
  | .dict kvs, _, h => by
    rw [Rp] at h ⊢
    obtain ⟨a, od, e, q⟩ := h
    refine ⟨a, od, e, ?_⟩
    rcases q with ⟨ws, q, r⟩ | ⟨ws, q, r⟩
    · exact .inl ⟨ws, hD _ _ rfl q, RpD.mono hL hT hD _ _ kvs ws r⟩
    · exact .inr ⟨ws, hD _ _ rfl q, RpD.mono hL hT hD _ _ kvs ws r⟩
theorem RpA.mono (hL : ∀ a xs, S a → Rd H a (.lst xs) → S' a ∧ Rd H' a (.lst xs)) (hT : ∀ a xs, H a = some (.tup xs) → H' a = some (.tup xs)) (hD : ∀ a u, fz u = true → H a = some u → H' a = some u) : ∀ (ds : List PyData) (vs : List V), RpA K S H ds vs → RpA K S' H' ds vs
  | [], _, h => by rw [RpA] at h ⊢; exact h
  | d :: ds, _, h => by
    rw [RpA] at h ⊢
    obtain ⟨v, r, e, h1, h2⟩ := h
    exact ⟨v, r, e, Rp.mono hL hT hD d v h1, RpA.mono hL hT hD ds r h2⟩
theorem RpD.mono (hL : ∀ a xs, S a → Rd H a (.lst xs) → S' a ∧ Rd H' a (.lst xs)) (hT : ∀ a xs, H a = some (.tup xs) → H' a = some (.tup xs)) (hD : ∀ a u, fz u = true → H a = some u → H' a = some u) (κ : Type) (kd : κ → PyData) : ∀ (ds : List (PyData × PyData)) (vs : List (κ × V)), RpD K S H κ kd ds vs → RpD K S' H' κ kd ds vs
  | [], _, h => by rw [RpD] at h ⊢; exact h
  | (k, d) :: ds, _, h => by
    rw [RpD] at h ⊢
    obtain ⟨q, v, r, e, ek, h1, h2⟩ := h
    exact ⟨q, v, r, e, ek, Rp.mono hL hT hD d v h1, RpD.mono hL hT hD κ kd ds r h2⟩
end
theorem same_d (e : Same H H') : ∀ a u, fz u = true → H a = some u → H' a = some u := fun a u _ h => e _ _ h
theorem same_rd {a : Addr} {u : HO} (e : Same H H') (h : Rd H a u) : Rd H' a u := by
  rcases h with h | ⟨o, h⟩
  · exact .inl (e _ _ h)
  · exact .inr ⟨o, e _ _ h⟩
theorem same_t {a : Addr} {xs : List V} (e : Same H H') (h : H a = some (.tup xs)) : H' a = some (.tup xs) := e _ _ h
theorem live_t {a : Addr} {xs : List V} (h : H a = some (.tup xs)) : SqT K H a xs := .inl (.inl h)
theorem Rp.grow (e : Same H H') {d : PyData} {v : V} (h : Rp K S H d v) : Rp K S H' d v := Rp.mono (fun _ _ s q => ⟨s, same_rd e q⟩) (fun _ _ q => same_t e q) (same_d e) d v h
theorem RpA.grow (e : Same H H') {ds : List PyData} {vs : List V} (h : RpA K S H ds vs) : RpA K S H' ds vs := RpA.mono (fun _ _ s q => ⟨s, same_rd e q⟩) (fun _ _ q => same_t e q) (same_d e) ds vs h
theorem RpD.grow (e : Same H H') {κ : Type} {kd : κ → PyData} {ds : List (PyData × PyData)} {vs : List (κ × V)} (h : RpD K S H κ kd ds vs) : RpD K S H' κ kd ds vs := RpD.mono (fun _ _ s q => ⟨s, same_rd e q⟩) (fun _ _ q => same_t e q) (same_d e) κ kd ds vs h
theorem Rp.wide (w : ∀ a, S a → S' a) {d : PyData} {v : V} (h : Rp K S H d v) : Rp K S' H d v := Rp.mono (fun _ _ s q => ⟨w _ s, q⟩) (fun _ _ q => q) (fun _ _ _ q => q) d v h
theorem RpA.wide (w : ∀ a, S a → S' a) {ds : List PyData} {vs : List V} (h : RpA K S H ds vs) : RpA K S' H ds vs := RpA.mono (fun _ _ s q => ⟨w _ s, q⟩) (fun _ _ q => q) (fun _ _ _ q => q) ds vs h
theorem RpD.wide (w : ∀ a, S a → S' a) {κ : Type} {kd : κ → PyData} {ds : List (PyData × PyData)} {vs : List (κ × V)} (h : RpD K S H κ kd ds vs) : RpD K S' H κ kd ds vs := RpD.mono (fun _ _ s q => ⟨w _ s, q⟩) (fun _ _ q => q) (fun _ _ _ q => q) κ kd ds vs h
theorem RpA.length : ∀ {ds : List PyData} {vs : List V}, RpA K S H ds vs → vs.length = ds.length
  | [], _, h => by rw [RpA] at h; rw [h]; rfl
  | d :: ds, _, h => by
    rw [RpA] at h
    obtain ⟨v, r, e, _, h2⟩ := h
    rw [e, List.length_cons, List.length_cons, RpA.length h2]
theorem RpA.get : ∀ {ds : List PyData} {vs : List V} {i : Nat} {d : PyData}, RpA K S H ds vs → ds[i]? = some d → ∃ v, vs[i]? = some v ∧ Rp K S H d v
  | [], _, _, _, _, e => by simp at e
  | d :: ds, _, 0, d', h, e => by
    rw [RpA] at h
    obtain ⟨v, r, rfl, h1, _⟩ := h
    simp at e
    subst e
    exact ⟨v, rfl, h1⟩
  | d :: ds, _, i + 1, d', h, e => by
    rw [RpA] at h
    obtain ⟨v, r, rfl, _, h2⟩ := h
    obtain ⟨u, e1, e2⟩ := RpA.get (i := i) (d := d') h2 (by simpa using e)
    exact ⟨u, by simpa using e1, e2⟩
theorem RpA.append : ∀ {ds es : List PyData} {vs us : List V}, RpA K S H ds vs → RpA K S H es us → RpA K S H (ds ++ es) (vs ++ us)
  | [], _, _, _, h, g => by rw [RpA] at h; subst h; exact g
  | d :: ds, _, _, _, h, g => by
    rw [RpA] at h
    obtain ⟨v, r, rfl, h1, h2⟩ := h
    show RpA K S H (d :: (ds ++ _)) (v :: (r ++ _))
    rw [RpA]
    exact ⟨v, _, rfl, h1, RpA.append h2 g⟩
theorem RpA.nil : RpA K S H [] [] := by rw [RpA]
theorem RpA.cons {d : PyData} {v : V} {ds : List PyData} {vs : List V} (h : Rp K S H d v) (g : RpA K S H ds vs) : RpA K S H (d :: ds) (v :: vs) := by
  rw [RpA]
  exact ⟨v, vs, rfl, h, g⟩
theorem RpA.set : ∀ {ds : List PyData} {vs : List V} {i : Nat} {d : PyData} {v : V}, RpA K S H ds vs → Rp K S H d v → RpA K S H (ds.set i d) (vs.set i v)
  | [], _, _, _, _, h, _ => by rw [RpA] at h; subst h; exact RpA.nil
  | e :: ds, _, 0, d', v', h, g => by
    rw [RpA] at h
    obtain ⟨v, r, rfl, h1, h2⟩ := h
    exact RpA.cons g h2
  | e :: ds, _, i + 1, d', v', h, g => by
    rw [RpA] at h
    obtain ⟨v, r, rfl, h1, h2⟩ := h
    exact RpA.cons h1 (RpA.set h2 g)
theorem RpA.take : ∀ {ds : List PyData} {vs : List V} (n : Nat), RpA K S H ds vs → RpA K S H (ds.take n) (vs.take n)
  | _, _, 0, _ => by simpa using RpA.nil
  | [], _, n + 1, h => by rw [RpA] at h; subst h; exact RpA.nil
  | e :: ds, _, n + 1, h => by
    rw [RpA] at h
    obtain ⟨v, r, rfl, h1, h2⟩ := h
    exact RpA.cons h1 (RpA.take n h2)
theorem RpA.drop : ∀ {ds : List PyData} {vs : List V} (n : Nat), RpA K S H ds vs → RpA K S H (ds.drop n) (vs.drop n)
  | _, _, 0, h => by simpa using h
  | [], _, n + 1, h => by rw [RpA] at h; subst h; exact RpA.nil
  | e :: ds, _, n + 1, h => by
    rw [RpA] at h
    obtain ⟨v, r, rfl, h1, h2⟩ := h
    exact RpA.drop n h2
mutual
/-- no dict in it -/
def noD : PyData → Bool
  | .list ds => noDA ds
  | .tuple ds => noDA ds
  | .dict _ => false
  | .none => true
  | .bool _ => true
  | .int _ => true
  | .str _ => true
def noDA : List PyData → Bool
  | [] => true
  | d :: ds => noD d && noDA ds
end
mutual
theorem Rp.dp0 : ∀ (d : PyData) (v : V), noD d = true → Rp K S H d v → Dp K H v d
  | .none, _, _, h => by rw [Rp] at h; subst h; exact .non
  | .bool b, _, _, h => by rw [Rp] at h; subst h; exact .bl b
  | .int i, _, _, h => by rw [Rp] at h; subst h; exact .int i
  | .str x, _, _, h => by rw [Rp] at h; subst h; exact .str x
  | .list ds, _, n, h => by
    rw [Rp] at h
    rw [noD] at n
    obtain ⟨a, xs, rfl, q, r⟩ := h
    exact .lst q.sq (RpA.dp0 ds xs n r)
  | .tuple ds, _, n, h => by
    rw [Rp] at h
    rw [noD] at n
    obtain ⟨a, xs, rfl, q, r⟩ := h
    exact .tup (live_t q) (RpA.dp0 ds xs n r)
  | .dict _, _, n, _ => by rw [noD] at n; cases n
theorem RpA.dp0 : ∀ (ds : List PyData) (vs : List V), noDA ds = true → RpA K S H ds vs → DpAll K H vs ds
  | [], _, _, h => by rw [RpA] at h; subst h; exact .nil
  | d :: ds, _, n, h => by
    rw [RpA] at h
    rw [noDA, Bool.and_eq_true] at n
    obtain ⟨v, r, rfl, h1, h2⟩ := h
    exact .cons (Rp.dp0 d v n.1 h1) (RpA.dp0 ds r n.2 h2)
end
mutual
theorem noD_lay : ∀ d : PyData, d.canLay0 = true → noD d = true
  | .none, _ => by rw [noD]
  | .bool _, _ => by rw [noD]
  | .int _, _ => by rw [noD]
  | .str _, _ => by rw [noD]
  | .list ds, h => by rw [noD]; exact noDA_lay ds (by simpa [PyData.canLay0] using h)
  | .tuple ds, h => by rw [noD]; exact noDA_lay ds (by simpa [PyData.canLay0] using h)
  | .dict _, h => by simp [PyData.canLay0] at h
theorem noDA_lay : ∀ ds : List PyData, PyData.canLayAll0 ds = true → noDA ds = true
  | [], _ => by rw [noDA]
  | d :: ds, h => by
    simp only [PyData.canLayAll0, Bool.and_eq_true] at h
    rw [noDA, noD_lay d h.1, noDA_lay ds h.2]; rfl
end
theorem Rp.dp {d : PyData} {v : V} (h : Rp K S H d v) (s : SeqAt.shaped d = true) : Dp K H v d := Rp.dp0 d v (noD_lay d (by
  unfold SeqAt.shaped at s
  rw [Bool.and_eq_true] at s
  exact s.1)) h
/-! data without lists -/
mutual
def noL : PyData → Bool
  | .list _ => false
  | .tuple ds => noLA ds
  | .dict _ => false
  | .none => true
  | .bool _ => true
  | .int _ => true
  | .str _ => true
def noLA : List PyData → Bool
  | [] => true
  | d :: ds => noL d && noLA ds
end
mutual
theorem Rp.noL : ∀ (d : PyData) (v : V), noL d = true → Rp K S H d v → Rp K S' H d v
  | .none, _, _, h => by rw [Rp] at h ⊢; exact h
  | .bool _, _, _, h => by rw [Rp] at h ⊢; exact h
  | .int _, _, _, h => by rw [Rp] at h ⊢; exact h
  | .str _, _, _, h => by rw [Rp] at h ⊢; exact h
  | .list ds, _, n, _ => by rw [Mir.noL] at n; cases n
  | .tuple ds, _, n, h => by
    rw [Rp] at h ⊢
    rw [Mir.noL] at n
    obtain ⟨a, xs, e, q, r⟩ := h
    exact ⟨a, xs, e, q, RpA.noL ds xs n r⟩
  | .dict _, _, n, _ => by rw [Mir.noL] at n; cases n
theorem RpA.noL : ∀ (ds : List PyData) (vs : List V), noLA ds = true → RpA K S H ds vs → RpA K S' H ds vs
  | [], _, _, h => by rw [RpA] at h ⊢; exact h
  | d :: ds, _, n, h => by
    rw [RpA] at h ⊢
    rw [noLA, Bool.and_eq_true] at n
    obtain ⟨v, r, e, h1, h2⟩ := h
    exact ⟨v, r, e, Rp.noL d v n.1 h1, RpA.noL ds r n.2 h2⟩
end
end

/-! ### the environment -/
inductive Sl where
  | un
  | val (d : PyData)
  | own (ds : List PyData)
  | ownT (kvs : List (PyData × PyData))
  | ownK (kvs : List (PyData × PyData))
  | exc (a dd : Addr) (d : PyData)
  | fn (a : Addr)
  | mat (rows : List (List PyData))
def ow : Sl → Bool
  | .own _ => true
  | .ownT _ => true
  | .ownK _ => true
  | .mat _ => true
  | _ => false
def isMut : HO → Bool
  | .lst _ => true
  | .dT _ => true
  | .dK _ => true
  | _ => false
abbrev En := List Sl
def Bd (S0 : Addr → Prop) (H0 : Hp) : Addr → Prop := fun a => S0 a ∨ H0 a = none
def Cl (S0 : Addr → Prop) (H0 : Hp) (A : Addr → Prop) : Addr → Prop := fun a => Bd S0 H0 a ∧ ¬ A a
def SC (c : Bool) (S0 : Addr → Prop) (H0 : Hp) (A : Addr → Prop) : Addr → Prop := fun a => c = true → Cl S0 H0 A a
/-- at a: a list of lists at bs, each of them owned -/
structure MatAt (K : PySem.W.Frag) (S A : Addr → Prop) (H : Hp) (a : Addr) (bs : List Addr) (rows : List (List PyData)) : Prop where
  top : A a
  at_ : H a = some (.lst (bs.map .ref))
  nd : bs.Nodup
  na : a ∉ bs
  len : bs.length = rows.length
  own : ∀ b ∈ bs, A b
  row : ∀ (k : Nat) (r : List PyData), rows[k]? = some r → ∃ b ys, bs[k]? = some b ∧ H b = some (.lst ys) ∧ RpA K S H r ys
theorem MatAt.rowOf {K : PySem.W.Frag} {S A : Addr → Prop} {H : Hp} {a : Addr} {bs : List Addr} {rows : List (List PyData)} (m : MatAt K S A H a bs rows) {b : Addr} (h : b ∈ bs) : ∃ ys, H b = some (.lst ys) := by
  obtain ⟨k, hk⟩ := List.getElem?_of_mem h
  have hl : k < rows.length := by rw [← m.len]; exact (List.getElem?_eq_some_iff.mp hk).1
  obtain ⟨b', ys, e, h2, _⟩ := m.row k _ (List.getElem?_eq_getElem hl)
  rw [hk] at e
  cases e
  exact ⟨ys, h2⟩
theorem ref_inj : ∀ {bs cs : List Addr}, bs.map V.ref = cs.map V.ref → bs = cs
  | [], [], _ => rfl
  | [], _ :: _, h => by cases h
  | _ :: _, [], h => by cases h
  | b :: bs, c :: cs, h => by
    simp only [List.map_cons, List.cons.injEq] at h
    obtain ⟨h1, h2⟩ := h
    cases h1
    rw [ref_inj h2]
theorem MatAt.mono {K : PySem.W.Frag} {S S' A A' : Addr → Prop} {H H' : Hp} {a : Addr} {bs : List Addr} {rows : List (List PyData)} (hL : ∀ a xs, S a → Rd H a (.lst xs) → S' a ∧ Rd H' a (.lst xs)) (hT : ∀ a xs, H a = some (.tup xs) → H' a = some (.tup xs)) (hD : ∀ a u, fz u = true → H a = some u → H' a = some u)
    (hA : ∀ x u, (x = a ∨ x ∈ bs) → A x → H x = some u → isMut u = true → A' x ∧ H' x = some u) (m : MatAt K S A H a bs rows) : MatAt K S' A' H' a bs rows where
  top := (hA a _ (.inl rfl) m.top m.at_ rfl).1
  at_ := (hA a _ (.inl rfl) m.top m.at_ rfl).2
  nd := m.nd
  na := m.na
  len := m.len
  own := fun b hb => by
    obtain ⟨ys, h⟩ := m.rowOf hb
    exact (hA b _ (.inr hb) (m.own b hb) h rfl).1
  row := fun k r hr => by
    obtain ⟨b, ys, e, h2, h3⟩ := m.row k r hr
    have hb := List.mem_of_getElem? e
    exact ⟨b, ys, e, (hA b _ (.inr hb) (m.own b hb) h2 rfl).2, RpA.mono hL hT hD _ _ h3⟩
def SlOk (K : PySem.W.Frag) (S A : Addr → Prop) (H : Hp) : Sl → V → Prop
  | .un, _ => True
  | .val d, v => Rp K S H d v
  | .own ds, v => ∃ a xs, v = .ref a ∧ A a ∧ H a = some (.lst xs) ∧ RpA K S H ds xs
  | .ownT kvs, v => ∃ a ws, v = .ref a ∧ A a ∧ H a = some (.dT ws) ∧ RpD K S H (List Key) kdT kvs ws
  | .ownK kvs, v => ∃ a ws, v = .ref a ∧ A a ∧ H a = some (.dK ws) ∧ RpD K S H Key kdD kvs ws
  | .exc a dd d, v => v = .ref a ∧ ∃ u, H dd = some (.xd [(("what" : Str), u)]) ∧ Rp K S H d u
  | .fn a, v => v = .ref a
  | .mat rows, v => ∃ a bs, v = .ref a ∧ MatAt K S A H a bs rows
structure EnvOk (K : PySem.W.Frag) (S0 : Addr → Prop) (H0 : Hp) (A : Addr → Prop) (H : Hp) (σ : L2.St) (env : En) : Prop where
  len : σ.length = env.length
  sl : ∀ (i : Nat) (s : Sl), env[i]? = some s → s = .un ∨ ∃ v, σ[i]? = some (some v) ∧ SlOk K (Cl S0 H0 A) A H s v
  dis : ∀ (i j : Nat) (s t : Sl) (a : Addr), env[i]? = some s → env[j]? = some t → ow s = true → ow t = true → σ[i]? = some (some (.ref a)) → σ[j]? = some (some (.ref a)) → i = j
  dm : ∀ (i j : Nat) (rows : List (List PyData)) (t : Sl) (a c : Addr) (bs : List Addr), i ≠ j → env[i]? = some (.mat rows) → env[j]? = some t → ow t = true → σ[i]? = some (some (.ref a)) → σ[j]? = some (some (.ref c)) → H a = some (.lst (bs.map .ref)) →
    c ∉ bs ∧ ∀ (rows' : List (List PyData)) (bs' : List Addr), t = .mat rows' → H c = some (.lst (bs'.map .ref)) → ∀ b ∈ bs, b ∉ bs'
  tr : ∀ a, A a → ∃ u, H a = some u ∧ isMut u = true
  nw : ∀ a, A a → H0 a = none
  same : Same H0 H
def Fr (A : Addr → Prop) (H H' : Hp) : Prop := ∀ a o, H a = some o → ¬ A a → H' a = some o
def Sb (A : Addr → Prop) (H : Hp) (A' : Addr → Prop) : Prop := ∀ a, A' a → A a ∨ H a = none
section
variable {K : PySem.W.Frag} {S0 S : Addr → Prop} {H0 H H' H'' : Hp} {A A' A'' : Addr → Prop} {σ : L2.St} {env : En}
theorem Fr.of_same (e : Same H H') : Fr A H H' := fun a o h _ => e a o h
theorem Fr.refl : Fr A H H := fun _ _ h _ => h
theorem Sb.refl : Sb A H A := fun _ h => .inl h
theorem Fr.trans (h1 : Fr A H H') (s1 : Sb A H A') (h2 : Fr A' H' H'') : Fr A H H'' := fun a o h n => h2 a o (h1 a o h n) fun z => by
  rcases s1 a z with q | q
  · exact n q
  · rw [h] at q; cases q
theorem Sb.trans (h1 : Fr A H H') (s1 : Sb A H A') (s2 : Sb A' H' A'') : Sb A H A'' := fun a z => by
  rcases s2 a z with q | q
  · exact s1 a q
  · cases e : H a with
    | none => exact .inr rfl
    | some o =>
      by_cases n : A a
      · exact .inl n
      · rw [h1 a o e n] at q; cases q
theorem fz_mut {u : HO} (h : fz u = true) (m : isMut u = true) : False := by
  cases u <;> first | (cases h; done) | (cases m; done)
theorem EnvOk.no_frz (E : EnvOk K S0 H0 A H σ env) {a : Addr} {u : HO} (z : fz u = true) (ha : A a) (h : H a = some u) : False := by
  obtain ⟨w, e, m⟩ := E.tr a ha
  rw [h] at e; cases e; exact fz_mut z m
theorem EnvOk.no_tup (E : EnvOk K S0 H0 A H σ env) {a : Addr} {xs : List V} (ha : A a) (h : H a = some (.tup xs)) : False := by
  obtain ⟨w, e, m⟩ := E.tr a ha
  rw [h] at e; cases e; cases m
theorem cl_new (E : EnvOk K S0 H0 A H σ env) {p : Addr} (h : H p = none) : Cl S0 H0 A p := by
  refine ⟨.inr (E.same.free h), fun z => ?_⟩
  obtain ⟨u, q, _⟩ := E.tr p z
  rw [h] at q; cases q
theorem sc_new (E : EnvOk K S0 H0 A H σ env) {c : Bool} {p : Addr} (h : H p = none) : SC c S0 H0 A p := fun _ => cl_new E h
theorem SlOk.mono {S' : Addr → Prop} (hL : ∀ a xs, S a → Rd H a (.lst xs) → S' a ∧ Rd H' a (.lst xs)) (hT : ∀ a xs, H a = some (.tup xs) → H' a = some (.tup xs)) (hD : ∀ a u, fz u = true → H a = some u → H' a = some u) (hA : ∀ a u, A a → H a = some u → isMut u = true → A' a ∧ H' a = some u) {s : Sl} {v : V} (h : SlOk K S A H s v) : SlOk K S' A' H' s v := by
  cases s with
  | un => trivial
  | val d => exact Rp.mono hL hT hD d v h
  | own ds =>
    obtain ⟨a, xs, e1, ha, hh, r⟩ := h
    obtain ⟨k1, k2⟩ := hA a _ ha hh rfl
    exact ⟨a, xs, e1, k1, k2, RpA.mono hL hT hD _ _ r⟩
  | ownT ds =>
    obtain ⟨a, xs, e1, ha, hh, r⟩ := h
    obtain ⟨k1, k2⟩ := hA a _ ha hh rfl
    exact ⟨a, xs, e1, k1, k2, RpD.mono hL hT hD _ _ _ _ r⟩
  | ownK ds =>
    obtain ⟨a, xs, e1, ha, hh, r⟩ := h
    obtain ⟨k1, k2⟩ := hA a _ ha hh rfl
    exact ⟨a, xs, e1, k1, k2, RpD.mono hL hT hD _ _ _ _ r⟩
  | exc a dd d =>
    obtain ⟨e1, u, hh, r⟩ := h
    exact ⟨e1, u, hD _ _ rfl hh, Rp.mono hL hT hD _ _ r⟩
  | fn a => exact h
  | mat rows =>
    obtain ⟨a, bs, e1, m⟩ := h
    exact ⟨a, bs, e1, m.mono hL hT hD fun x u _ hx hu hm => hA x u hx hu hm⟩
/-- but for one place, that this slot does not stand at -/
theorem SlOk.at {S' : Addr → Prop} {p : Addr} (hL : ∀ a xs, S a → Rd H a (.lst xs) → S' a ∧ Rd H' a (.lst xs)) (hT : ∀ a xs, H a = some (.tup xs) → H' a = some (.tup xs)) (hD : ∀ a u, fz u = true → H a = some u → H' a = some u) (hA : ∀ a u, A a → H a = some u → isMut u = true → a ≠ p → A' a ∧ H' a = some u) {s : Sl} {v : V} (hp : ow s = true → v ≠ .ref p) (hq : ∀ (rows : List (List PyData)) (a : Addr) (bs : List Addr), s = .mat rows → v = .ref a → H a = some (.lst (bs.map .ref)) → p ∉ bs) (h : SlOk K S A H s v) : SlOk K S' A' H' s v := by
  cases s with
  | un => trivial
  | val d => exact Rp.mono hL hT hD d v h
  | own ds =>
    obtain ⟨a, xs, rfl, ha, hh, r⟩ := h
    obtain ⟨k1, k2⟩ := hA a _ ha hh rfl fun e => hp rfl (by rw [e])
    exact ⟨a, xs, rfl, k1, k2, RpA.mono hL hT hD _ _ r⟩
  | ownT ds =>
    obtain ⟨a, xs, rfl, ha, hh, r⟩ := h
    obtain ⟨k1, k2⟩ := hA a _ ha hh rfl fun e => hp rfl (by rw [e])
    exact ⟨a, xs, rfl, k1, k2, RpD.mono hL hT hD _ _ _ _ r⟩
  | ownK ds =>
    obtain ⟨a, xs, rfl, ha, hh, r⟩ := h
    obtain ⟨k1, k2⟩ := hA a _ ha hh rfl fun e => hp rfl (by rw [e])
    exact ⟨a, xs, rfl, k1, k2, RpD.mono hL hT hD _ _ _ _ r⟩
  | exc a dd d =>
    obtain ⟨e1, u, hh, r⟩ := h
    exact ⟨e1, u, hD _ _ rfl hh, Rp.mono hL hT hD _ _ r⟩
  | fn a => exact h
  | mat rows =>
    obtain ⟨a, bs, rfl, m⟩ := h
    have n2 := hq rows a bs rfl rfl m.at_
    exact ⟨a, bs, rfl, m.mono hL hT hD fun x u hx hxa hu hm => hA x u hxa hu hm fun e => hx.elim (fun k => hp rfl (by rw [← k, e])) fun k => n2 (by rw [← e]; exact k)⟩
theorem SlOk.ref {s : Sl} {v : V} (o : ow s = true) (h : SlOk K S A H s v) : ∃ a u, v = .ref a ∧ A a ∧ H a = some u ∧ isMut u = true := by
  cases s with
  | un => cases o
  | val _ => cases o
  | own ds => obtain ⟨a, xs, e1, ha, hh, _⟩ := h; exact ⟨a, _, e1, ha, hh, rfl⟩
  | ownT ds => obtain ⟨a, xs, e1, ha, hh, _⟩ := h; exact ⟨a, _, e1, ha, hh, rfl⟩
  | ownK ds => obtain ⟨a, xs, e1, ha, hh, _⟩ := h; exact ⟨a, _, e1, ha, hh, rfl⟩
  | exc _ _ _ => cases o
  | fn _ => cases o
  | mat rows => obtain ⟨a, bs, e1, m⟩ := h; exact ⟨a, _, e1, m.top, m.at_, rfl⟩
theorem SlOk.grow (e : Same H H') {s : Sl} {v : V} (h : SlOk K S A H s v) : SlOk K S A H' s v := SlOk.mono (fun _ _ s q => ⟨s, same_rd e q⟩) (fun _ _ q => same_t e q) (same_d e) (fun a u ha hu _ => ⟨ha, e _ _ hu⟩) h
/-- what a matrix' slot holds -/
theorem EnvOk.matOf (E : EnvOk K S0 H0 A H σ env) {i : Nat} {rows : List (List PyData)} {a : Addr} (h : env[i]? = some (.mat rows)) (hv : σ[i]? = some (some (.ref a))) : ∃ bs, MatAt K (Cl S0 H0 A) A H a bs rows := by
  rcases E.sl i _ h with z | ⟨v, k1, b, bs, rfl, m⟩
  · cases z
  · rw [hv] at k1
    cases k1
    exact ⟨bs, m⟩
/-- the matrices' own disjointness at another heap, where what is owned stands -/
theorem EnvOk.dm2 (E : EnvOk K S0 H0 A H σ env) {H' : Hp} {i j : Nat} {rows : List (List PyData)} {t : Sl} {a c : Addr} {bs : List Addr} (n : i ≠ j) (h1 : env[i]? = some (.mat rows)) (h2 : env[j]? = some t) (o : ow t = true) (h3 : σ[i]? = some (some (.ref a))) (h4 : σ[j]? = some (some (.ref c))) (h5 : H' a = some (.lst (bs.map .ref)))
    (ki : ∀ u, H a = some u → H' a = some u) (kj : ∀ (rows' : List (List PyData)) u, t = .mat rows' → H c = some u → H' c = some u) :
    c ∉ bs ∧ ∀ (rows' : List (List PyData)) (bs' : List Addr), t = .mat rows' → H' c = some (.lst (bs'.map .ref)) → ∀ b ∈ bs, b ∉ bs' := by
  obtain ⟨bs0, m⟩ := E.matOf h1 h3
  have e1 := ki _ m.at_
  rw [h5] at e1
  have e2 : bs = bs0 := ref_inj (by injection e1 with e1; injection e1)
  subst e2
  obtain ⟨q1, q2⟩ := E.dm i j rows t a c bs n h1 h2 o h3 h4 m.at_
  refine ⟨q1, fun rows' bs' e hc b hb => ?_⟩
  have h2' := h2
  rw [e] at h2'
  obtain ⟨bs1, m1⟩ := E.matOf h2' h4
  have e3 := kj rows' _ e m1.at_
  rw [hc] at e3
  have e4 : bs' = bs1 := ref_inj (by injection e3 with e3; injection e3)
  subst e4
  exact q2 rows' bs' e m1.at_ b hb
theorem EnvOk.grow (E : EnvOk K S0 H0 A H σ env) (e : Same H H') : EnvOk K S0 H0 A H' σ env where
  dm := fun _ _ _ _ _ _ _ n h1 h2 o h3 h4 h5 => E.dm2 n h1 h2 o h3 h4 h5 (fun _ q => e _ _ q) fun _ _ _ q => e _ _ q
  len := E.len
  sl := fun i s h => (E.sl i s h).imp id fun ⟨v, h1, h2⟩ => ⟨v, h1, h2.grow e⟩
  dis := E.dis
  tr := fun a h => let ⟨u, q, m⟩ := E.tr a h; ⟨u, e _ _ q, m⟩
  nw := E.nw
  same := E.same.trans e
theorem set_get {α : Type} {l : List α} {i j : Nat} {x y : α} (h : (l.set i x)[j]? = some y) : (i = j ∧ j < l.length ∧ y = x) ∨ (i ≠ j ∧ l[j]? = some y) := by
  rw [List.getElem?_set] at h
  by_cases e : i = j
  · rw [if_pos e] at h
    by_cases q : i < l.length
    · rw [if_pos q] at h
      exact .inl ⟨e, e ▸ q, (Option.some.inj h).symm⟩
    · rw [if_neg q] at h; cases h
  · rw [if_neg e] at h
    exact .inr ⟨e, h⟩
theorem set_self {α : Type} {l : List α} {i : Nat} {x : α} (h : i < l.length) : (l.set i x)[i]? = some x := by simp [h]
theorem set_other {α : Type} {l : List α} {i j : Nat} {x : α} (h : i ≠ j) : (l.set i x)[j]? = l[j]? := by simp [List.getElem?_set, h]
theorem EnvOk.set_val (E : EnvOk K S0 H0 A H σ env) {i : Nat} {d : PyData} {v : V} (h : Rp K (Cl S0 H0 A) H d v) : EnvOk K S0 H0 A H (σ.set i (some v)) (env.set i (.val d)) where
  len := by simp [E.len]
  sl := fun j s q => by
    rcases set_get q with ⟨rfl, l, rfl⟩ | ⟨n, q⟩
    · exact .inr ⟨v, set_self (by rw [E.len]; exact l), h⟩
    · rw [set_other n]
      exact E.sl j s q
  dis := fun j k s t a q1 q2 o1 o2 q3 q4 => by
    rcases set_get q1 with ⟨_, _, z⟩ | ⟨n1, q1⟩
    · subst z; cases o1
    rcases set_get q2 with ⟨_, _, z⟩ | ⟨n2, q2⟩
    · subst z; cases o2
    rw [set_other n1] at q3
    rw [set_other n2] at q4
    exact E.dis j k s t a q1 q2 o1 o2 q3 q4
  dm := fun j k rows t a c bs n q1 q2 o q3 q4 q5 => by
    rcases set_get q1 with ⟨_, _, z⟩ | ⟨n1, q1⟩
    · cases z
    rcases set_get q2 with ⟨_, _, z⟩ | ⟨n2, q2⟩
    · subst z; cases o
    rw [set_other n1] at q3
    rw [set_other n2] at q4
    exact E.dm j k rows t a c bs n q1 q2 o q3 q4 q5
  tr := E.tr
  nw := E.nw
  same := E.same
/-- a fresh thing is kept by the slot i alone -/
theorem EnvOk.set_new (E : EnvOk K S0 H0 A H σ env) {i : Nat} {s0 : Sl} {u0 : HO} {p : Addr} (hs : Same H H') (hn : H p = none) (hp : H' p = some u0) (hm : isMut u0 = true) (ho : ow s0 = true) (hnm : ∀ rows, s0 ≠ .mat rows) (h : SlOk K (fun a => Cl S0 H0 A a ∧ a ≠ p) (fun a => A a ∨ a = p) H' s0 (.ref p)) :
    EnvOk K S0 H0 (fun a => A a ∨ a = p) H' (σ.set i (some (.ref p))) (env.set i s0) where
  len := by simp [E.len]
  sl := fun j s q => by
    have wd : ∀ a, (Cl S0 H0 A a ∧ a ≠ p) → Cl S0 H0 (fun a => A a ∨ a = p) a := fun a z => ⟨z.1.1, fun y => y.elim z.1.2 z.2⟩
    rcases set_get q with ⟨rfl, l, rfl⟩ | ⟨n, q⟩
    · exact .inr ⟨_, set_self (by rw [E.len]; exact l), SlOk.mono (fun a xs z r => ⟨wd a z, r⟩) (fun _ _ z => z) (fun _ _ _ z => z) (fun _ _ z y _ => ⟨z, y⟩) h⟩
    · rw [set_other n]
      refine (E.sl j s q).imp id fun ⟨v, h1, h2⟩ => ⟨v, h1, ?_⟩
      have hL : ∀ a ys, Cl S0 H0 A a → Rd H a (.lst ys) → Cl S0 H0 (fun a => A a ∨ a = p) a ∧ Rd H' a (.lst ys) := fun a ys z r => ⟨wd a ⟨z, fun e => by
        subst e
        rcases r with r | ⟨o, r⟩ <;> (rw [hn] at r; cases r)⟩, same_rd hs r⟩
      exact SlOk.mono hL (fun _ _ z => same_t hs z) (same_d hs) (fun a u ha hu _ => ⟨.inl ha, hs _ _ hu⟩) h2
  dis := fun j k s t a q1 q2 o1 o2 q3 q4 => by
    have no : ∀ (m : Nat) (g : Sl), env[m]? = some g → ow g = true → σ[m]? ≠ some (some (.ref p)) := fun m g g1 og g2 => by
      rcases E.sl m _ g1 with z | ⟨v, z1, z2⟩
      · subst z; cases og
      · rw [g2] at z1
        cases z1
        obtain ⟨a, u, e, ha, hu, _⟩ := z2.ref og
        cases e
        rw [hn] at hu; cases hu
    rcases set_get q1 with ⟨rfl, l1, z⟩ | ⟨n1, q1⟩
    · rcases set_get q2 with ⟨e2, l2, z2⟩ | ⟨n2, q2⟩
      · exact e2
      · rw [set_self (by rw [E.len]; exact l1)] at q3
        cases q3
        rw [set_other n2] at q4
        exact absurd q4 (no k _ q2 o2)
    · rw [set_other n1] at q3
      rcases set_get q2 with ⟨rfl, l2, z2⟩ | ⟨n2, q2⟩
      · rw [set_self (by rw [E.len]; exact l2)] at q4
        cases q4
        exact absurd q3 (no j _ q1 o1)
      · rw [set_other n2] at q4
        exact E.dis j k s t a q1 q2 o1 o2 q3 q4
  dm := fun j k rows t a c bs n q1 q2 o q3 q4 q5 => by
    rcases set_get q1 with ⟨_, _, z⟩ | ⟨n1, q1⟩
    · exact absurd z.symm (hnm rows)
    rw [set_other n1] at q3
    obtain ⟨bs0, m⟩ := E.matOf q1 q3
    have e1 := hs _ _ m.at_
    rw [q5] at e1
    have e2 : bs = bs0 := ref_inj (by injection e1 with e1; injection e1)
    subst e2
    rcases set_get q2 with ⟨rfl, l, z⟩ | ⟨n2, q2⟩
    · rw [set_self (by rw [E.len]; exact l)] at q4
      cases q4
      refine ⟨fun hb => ?_, fun rows' bs' e => absurd (z.symm.trans e) (hnm rows')⟩
      obtain ⟨ys, hy⟩ := m.rowOf hb
      rw [hn] at hy; cases hy
    · rw [set_other n2] at q4
      exact E.dm2 n q1 q2 o q3 q4 q5 (fun _ q => hs _ _ q) fun _ _ _ q => hs _ _ q
  tr := fun a h => by
    rcases h with h | rfl
    · obtain ⟨u, q, m⟩ := E.tr a h
      exact ⟨u, hs _ _ q, m⟩
    · exact ⟨u0, hp, hm⟩
  nw := fun a h => by
    rcases h with h | rfl
    · exact E.nw a h
    · exact E.same.free hn
  same := E.same.trans hs
/-- a fresh list is kept by the slot i alone -/
theorem EnvOk.set_own (E : EnvOk K S0 H0 A H σ env) {i : Nat} {ds : List PyData} {xs : List V} {p : Addr} (hs : Same H H') (hn : H p = none) (hp : H' p = some (.lst xs)) (h : RpA K (fun a => Cl S0 H0 A a ∧ a ≠ p) H' ds xs) :
    EnvOk K S0 H0 (fun a => A a ∨ a = p) H' (σ.set i (some (.ref p))) (env.set i (.own ds)) := E.set_new hs hn hp rfl rfl (fun _ z => nomatch z) ⟨p, xs, rfl, .inr rfl, hp, h⟩
/-- an owned thing is changed -/
theorem EnvOk.mutG (E : EnvOk K S0 H0 A H σ env) {i : Nat} {s0 s1 : Sl} {u0 u1 : HO} {a : Addr} (hi : env[i]? = some s0) (o0 : ow s0 = true) (o1 : ow s1 = true) (hv : σ[i]? = some (some (.ref a))) (ha : A a) (hp : H a = some u0) (m0 : isMut u0 = true) (m1 : isMut u1 = true) (n0 : ∀ rows, s0 ≠ .mat rows) (n1 : ∀ rows, s1 ≠ .mat rows)
    (h : SlOk K (Cl S0 H0 A) A (upd H a u1) s1 (.ref a)) : EnvOk K S0 H0 A (upd H a u1) σ (env.set i s1) := by
  have hL : ∀ b ys, Cl S0 H0 A b → Rd H b (.lst ys) → Cl S0 H0 A b ∧ Rd (upd H a u1) b (.lst ys) := fun b ys z r => ⟨z, by
    have n : b ≠ a := fun e => z.2 (e ▸ ha)
    rcases r with r | ⟨o, r⟩
    · exact .inl (by rw [upd_ne n]; exact r)
    · exact .inr ⟨o, by rw [upd_ne n]; exact r⟩⟩
  have nf : ∀ b u, fz u = true → H b = some u → b ≠ a := fun b u z r e => E.no_frz z ha (e ▸ r)
  have hT : ∀ b ys, H b = some (.tup ys) → upd H a u1 b = some (.tup ys) := fun b ys r => by rw [upd_ne (fun e => E.no_tup ha (e ▸ r))]; exact r
  have hD : ∀ b u, fz u = true → H b = some u → upd H a u1 b = some u := fun b u z r => by rw [upd_ne (nf _ _ z r)]; exact r
  have hl : i < env.length := by
    obtain ⟨q, _⟩ := List.getElem?_eq_some_iff.mp hi
    exact q
  refine ⟨by simp [E.len], fun j s q => ?_, fun j k s t b q1 q2 p1 p2 q3 q4 => ?_, fun j k rows t x c bs n q1 q2 o q3 q4 q5 => ?_, fun b hb => ?_, E.nw, fun b o q => ?_⟩
  · rcases set_get q with ⟨rfl, l, rfl⟩ | ⟨n, q⟩
    · exact .inr ⟨_, hv, h⟩
    · refine (E.sl j s q).imp id fun ⟨v, h1, h2⟩ => ⟨v, h1, ?_⟩
      exact SlOk.at (p := a) hL hT hD (fun b u hb hu _ hn => ⟨hb, by rw [upd_ne hn]; exact hu⟩) (fun os e => n (E.dis i j s0 s a hi q o0 os hv (by rw [h1, e]))) (fun rows x bs e1 e2 e3 => by
        subst e1
        subst e2
        exact (E.dm j i rows s0 x a bs (fun z => n z.symm) q hi o0 h1 hv e3).1) h2
  · have back : ∀ (m : Nat) (g : Sl), (env.set i s1)[m]? = some g → ow g = true → ∃ g', env[m]? = some g' ∧ ow g' = true := fun m g q og => by
      rcases set_get q with ⟨rfl, _, _⟩ | ⟨_, q⟩
      · exact ⟨s0, hi, o0⟩
      · exact ⟨g, q, og⟩
    obtain ⟨s', r1, z1⟩ := back j s q1 p1
    obtain ⟨t', r2, z2⟩ := back k t q2 p2
    exact E.dis j k s' t' b r1 r2 z1 z2 q3 q4
  · rcases set_get q1 with ⟨_, _, z⟩ | ⟨n2, q1⟩
    · exact absurd z.symm (n1 rows)
    have keep : ∀ (i' : Nat) (rows' : List (List PyData)) (x' : Addr) (u : HO), env[i']? = some (.mat rows') → σ[i']? = some (some (.ref x')) → H x' = some u → upd H a u1 x' = some u := fun i' rows' x' u g1 g2 g3 => by
      have nx : x' ≠ a := fun e => by
        subst e
        have := E.dis i' i _ s0 x' g1 hi rfl o0 g2 hv
        subst this
        rw [hi] at g1
        cases g1
        exact n0 _ rfl
      rw [upd_ne nx]
      exact g3
    rcases set_get q2 with ⟨rfl, _, z⟩ | ⟨n3, q2⟩
    · rw [hv] at q4
      cases q4
      refine ⟨(E.dm2 n q1 hi o0 q3 hv q5 (fun u g => keep j rows x u q1 q3 g) fun rows' u e => absurd e (n0 rows')).1, fun rows' bs' e => absurd (z.symm.trans e) (n1 rows')⟩
    · exact E.dm2 n q1 q2 o q3 q4 q5 (fun u g => keep j rows x u q1 q3 g) fun rows' u e g => keep k rows' c u (by rw [q2, e]) q4 g
  · by_cases e : b = a
    · subst e
      exact ⟨u1, upd_same, m1⟩
    · obtain ⟨u, q, m⟩ := E.tr b hb
      exact ⟨u, by rw [upd_ne e]; exact q, m⟩
  · have n : b ≠ a := fun e => by
      subst e
      have z := E.nw b ha
      rw [q] at z; cases z
    rw [upd_ne n]
    exact E.same b o q
theorem EnvOk.upd_mono (E : EnvOk K S0 H0 A H σ env) {a : Addr} {u1 : HO} (ha : A a) : (∀ b ys, Cl S0 H0 A b → Rd H b (.lst ys) → Cl S0 H0 A b ∧ Rd (upd H a u1) b (.lst ys)) ∧ (∀ b ys, H b = some (.tup ys) → upd H a u1 b = some (.tup ys)) ∧ ∀ b u, fz u = true → H b = some u → upd H a u1 b = some u := by
  have nf : ∀ b u, fz u = true → H b = some u → b ≠ a := fun b u z r e => E.no_frz z ha (e ▸ r)
  refine ⟨fun b ys z r => ⟨z, ?_⟩, fun b ys r => by rw [upd_ne (fun e => E.no_tup ha (e ▸ r))]; exact r, fun b u z r => by rw [upd_ne (nf _ _ z r)]; exact r⟩
  have n : b ≠ a := fun e => z.2 (e ▸ ha)
  rcases r with r | ⟨o, r⟩
  · exact .inl (by rw [upd_ne n]; exact r)
  · exact .inr ⟨o, by rw [upd_ne n]; exact r⟩
/-- an owned list is changed -/
theorem EnvOk.mut (E : EnvOk K S0 H0 A H σ env) {i : Nat} {ds ds' : List PyData} {xs xs' : List V} {a : Addr} (hi : env[i]? = some (.own ds)) (hv : σ[i]? = some (some (.ref a))) (ha : A a) (hp : H a = some (.lst xs)) (h : RpA K (Cl S0 H0 A) H ds' xs') :
    EnvOk K S0 H0 A (upd H a (.lst xs')) σ (env.set i (.own ds')) := by
  obtain ⟨hL, hT, hD⟩ := E.upd_mono (u1 := .lst xs') ha
  exact E.mutG hi rfl rfl hv ha hp rfl rfl (fun _ z => nomatch z) (fun _ z => nomatch z) ⟨a, xs', rfl, ha, upd_same, RpA.mono hL hT hD _ _ h⟩
def frz (i : Nat) (env : En) : En := match env[i]? with
  | some (.own ds) => env.set i (.val (.list ds))
  | _ => env
theorem EnvOk.frz (E : EnvOk K S0 H0 A H σ env) (i : Nat) : ∃ A', EnvOk K S0 H0 A' H σ (Mir.frz i env) ∧ ∀ a, A' a → A a := by
  unfold Mir.frz
  split
  · rename_i ds hi
    rcases E.sl i _ hi with z | ⟨v, h1, a, xs, rfl, ha, hh, r⟩
    · cases z
    have wd : ∀ b, Cl S0 H0 A b → Cl S0 H0 (fun b => A b ∧ b ≠ a) b := fun b z => ⟨z.1, fun y => z.2 y.1⟩
    refine ⟨fun b => A b ∧ b ≠ a, ⟨by simp [E.len], fun j s q => ?_, fun j k s t b q1 q2 o1 o2 q3 q4 => ?_, fun j k rows t x c bs n q1 q2 o q3 q4 q5 => ?_, fun b hb => E.tr b hb.1, fun b hb => E.nw b hb.1, E.same⟩, fun _ z => z.1⟩
    · rcases set_get q with ⟨rfl, l, rfl⟩ | ⟨n, q⟩
      · refine .inr ⟨_, h1, ?_⟩
        show Rp K _ H (.list ds) _
        rw [Rp]
        exact ⟨a, xs, rfl, .inl ⟨⟨.inr (E.nw a ha), fun y => y.2 rfl⟩, .inl hh⟩, r.wide wd⟩
      · refine (E.sl j s q).imp id fun ⟨v, h2, h3⟩ => ⟨v, h2, ?_⟩
        exact SlOk.at (p := a) (fun b xs z r => ⟨wd b z, r⟩) (fun _ _ z => z) (fun _ _ _ z => z) (fun b u hb hu _ hn => ⟨⟨hb, hn⟩, hu⟩) (fun os e => n (E.dis i j _ s a hi q rfl os h1 (by rw [h2, e]))) (fun rows x bs e1 e2 e3 => by
          subst e1
          subst e2
          exact (E.dm j i rows _ x a bs (fun z => n z.symm) q hi rfl h2 h1 e3).1) h3
    · rcases set_get q1 with ⟨_, _, z⟩ | ⟨n1, q1⟩
      · subst z; cases o1
      rcases set_get q2 with ⟨_, _, z⟩ | ⟨n2, q2⟩
      · subst z; cases o2
      exact E.dis j k s t b q1 q2 o1 o2 q3 q4
    · rcases set_get q1 with ⟨_, _, z⟩ | ⟨n1, q1⟩
      · cases z
      rcases set_get q2 with ⟨_, _, z⟩ | ⟨n2, q2⟩
      · subst z; cases o
      exact E.dm j k rows t x c bs n q1 q2 o q3 q4 q5
  · exact ⟨A, E, fun _ z => z⟩
/-- a dict is let go: it is locked -/
theorem EnvOk.lockD (E : EnvOk K S0 H0 A H σ env) {i : Nat} {s0 : Sl} {d : PyData} {u0 : HO} {a : Addr} {od : Obj} (hi : env[i]? = some s0) (o0 : ow s0 = true) (hv : σ[i]? = some (some (.ref a))) (ha : A a) (hp : H a = some u0)
    (h : Rp K (Cl S0 H0 A) (upd H a (.frz od u0)) d (.ref a)) : EnvOk K S0 H0 (fun b => A b ∧ b ≠ a) (upd H a (.frz od u0)) σ (env.set i (.val d)) := by
  obtain ⟨hL, hT, hD⟩ := E.upd_mono (u1 := .frz od u0) ha
  have wd : ∀ b, Cl S0 H0 A b → Cl S0 H0 (fun b => A b ∧ b ≠ a) b := fun b z => ⟨z.1, fun y => z.2 y.1⟩
  refine ⟨by simp [E.len], fun j s q => ?_, fun j k s t b q1 q2 o1 o2 q3 q4 => ?_, fun j k rows t x c bs n q1 q2 o q3 q4 q5 => ?_, fun b hb => ?_, fun b hb => E.nw b hb.1, fun b o q => ?_⟩
  · rcases set_get q with ⟨rfl, l, rfl⟩ | ⟨n, q⟩
    · exact .inr ⟨_, hv, Rp.wide wd h⟩
    · refine (E.sl j s q).imp id fun ⟨v, h2, h3⟩ => ⟨v, h2, ?_⟩
      exact SlOk.at (p := a) (fun b xs z r => ⟨wd b z, (hL b xs z r).2⟩) hT hD (fun b u hb hu _ hn => ⟨⟨hb, hn⟩, by rw [upd_ne hn]; exact hu⟩) (fun os e => n (E.dis i j _ s a hi q o0 os hv (by rw [h2, e]))) (fun rows x bs e1 e2 e3 => by
        subst e1
        subst e2
        exact (E.dm j i rows s0 x a bs (fun z => n z.symm) q hi o0 h2 hv e3).1) h3
  · rcases set_get q1 with ⟨_, _, z⟩ | ⟨n1, q1⟩
    · subst z; cases o1
    rcases set_get q2 with ⟨_, _, z⟩ | ⟨n2, q2⟩
    · subst z; cases o2
    exact E.dis j k s t b q1 q2 o1 o2 q3 q4
  · rcases set_get q1 with ⟨_, _, z⟩ | ⟨n1, q1⟩
    · cases z
    rcases set_get q2 with ⟨_, _, z⟩ | ⟨n2, q2⟩
    · subst z; cases o
    have keep : ∀ (i' : Nat) (g : Sl) (x' : Addr) (u : HO), i ≠ i' → env[i']? = some g → ow g = true → σ[i']? = some (some (.ref x')) → H x' = some u → upd H a (.frz od u0) x' = some u := fun i' g x' u ne g1 og g2 g3 => by
      have nx : x' ≠ a := fun e => by
        subst e
        exact ne (E.dis i i' s0 g _ hi g1 o0 og hv g2)
      rw [upd_ne nx]
      exact g3
    exact E.dm2 n q1 q2 o q3 q4 q5 (fun u g => keep j _ x u n1 q1 rfl q3 g) fun rows' u _ g => keep k t c u n2 q2 o q4 g
  · obtain ⟨u, q, m⟩ := E.tr b hb.1
    exact ⟨u, by rw [upd_ne hb.2]; exact q, m⟩
  · have n : b ≠ a := fun e => by
      subst e
      have z := E.nw b ha
      rw [q] at z; cases z
    rw [upd_ne n]
    exact E.same b o q
end
end Mir

namespace Mir
open PySem PySem.Spec PyProof.Rows L2

/-! ### readings -/
def tE (K : PySem.W.Frag) (c : Bool) (f : En → Option PyData) : TE := fun σ H Q => ∃ S0 H0 A env d, EnvOk K S0 H0 A H σ env ∧ f env = some d ∧ ∀ v H', Same H H' → Rp K (SC c S0 H0 A) H' d v → Q v H'
/-- a fresh list -/
def tF (K : PySem.W.Frag) (c : Bool) (f : En → Option (List PyData)) : TE := fun σ H Q => ∃ S0 H0 A env ds, EnvOk K S0 H0 A H σ env ∧ f env = some ds ∧ ∀ p xs H', H p = none → Same H H' → H' p = some (.lst xs) → RpA K (fun a => SC c S0 H0 A a ∧ a ≠ p) H' ds xs → Q (.ref p) H'
def tT (K : PySem.W.Frag) (f : En → Option Bool) : TT := fun σ H Q => ∃ S0 H0 A env b, EnvOk K S0 H0 A H σ env ∧ f env = some b ∧ ∀ H', Same H H' → Q b H'
def tA (K : PySem.W.Frag) (c : Bool) (f : En → Option (List PyData)) : TA := fun σ H Q => ∃ S0 H0 A env ds, EnvOk K S0 H0 A H σ env ∧ f env = some ds ∧ ∀ vs H', Same H H' → RpA K (SC c S0 H0 A) H' ds vs → Q vs H'
/-- a target: touches the slots vs alone -/
def tG (K : PySem.W.Frag) (vs : List Nat) (g : PyData → En → Option En) : TG := fun v σ H Q => ∃ S0 H0 A env d env', EnvOk K S0 H0 A H σ env ∧ Rp K (Cl S0 H0 A) H d v ∧ g d env = some env' ∧ ∀ σ', EnvOk K S0 H0 A H σ' env' → wipe σ' vs = wipe σ vs → Q σ' H

inductive Out where
  | nx (e : En)
  | bk (e : En)
  | ct (e : En)
  | rt (d : PyData)
  | bad
def OutOk (K : PySem.W.Frag) (S0 : Addr → Prop) (H0 : Hp) (A : Addr → Prop) (H : Hp) (o : Out) (D : Ends) : Prop := match o with
  | .nx e => ∀ A' H' σ', EnvOk K S0 H0 A' H' σ' e → Fr A H H' → Sb A H A' → D.nx σ' H'
  | .bk e => ∀ A' H' σ', EnvOk K S0 H0 A' H' σ' e → Fr A H H' → Sb A H A' → D.bk σ' H'
  | .ct e => ∀ A' H' σ', EnvOk K S0 H0 A' H' σ' e → Fr A H H' → Sb A H A' → D.ct σ' H'
  | .rt d => ∀ v H', Same H0 H' → Rp K (Bd S0 H0) H' d v → D.rt v H'
  | .bad => False
def tS (K : PySem.W.Frag) (f : En → Out) : TS := fun D σ H => ∃ S0 H0 A env, EnvOk K S0 H0 A H σ env ∧ OutOk K S0 H0 A H (f env) D

section
variable {K : PySem.W.Frag} {S0 S : Addr → Prop} {H0 H H' H'' : Hp} {A A' A'' : Addr → Prop} {σ : L2.St} {env : En} {D : Ends}
theorem OutOk.step {o : Out} (h : OutOk K S0 H0 A H o D) (f : Fr A H H') (s : Sb A H A') : OutOk K S0 H0 A' H' o D := by
  cases o with
  | nx e => exact fun A2 H2 σ2 E f2 s2 => h A2 H2 σ2 E (f.trans s f2) (Sb.trans f s s2)
  | bk e => exact fun A2 H2 σ2 E f2 s2 => h A2 H2 σ2 E (f.trans s f2) (Sb.trans f s s2)
  | ct e => exact fun A2 H2 σ2 E f2 s2 => h A2 H2 σ2 E (f.trans s f2) (Sb.trans f s s2)
  | rt d => exact h
  | bad => exact h
theorem sc_cl {c : Bool} {a : Addr} (h : Cl S0 H0 A a) : SC c S0 H0 A a := fun _ => h
theorem cl_sc {a : Addr} (h : SC true S0 H0 A a) : Cl S0 H0 A a := h rfl
end

section
variable {X : Cx} {a b e : Expr} {es : List Expr} {pos : Pos} {c c1 c2 : Bool} {f g : En → Option PyData} {fa : En → Option (List PyData)} {fb : En → Option Bool}
theorem pe_w {t t' : TE} (h : PE X e t) (w : ∀ σ H Q, t' σ H Q → t σ H Q) : PE X e t' := ⟨fun pins s σ H Q I q => h.run pins s σ H Q I (w σ H Q q)⟩
theorem pt_w {t t' : TT} (h : PT X e t) (w : ∀ σ H Q, t' σ H Q → t σ H Q) : PT X e t' := ⟨fun pins s σ H Q I q => h.run pins s σ H Q I (w σ H Q q)⟩
theorem pw_w {t t' : TT} (h : PW X e t) (w : ∀ σ H Q, t' σ H Q → t σ H Q) : PW X e t' := ⟨fun wh pins s σ H Q I q => h.run wh pins s σ H Q I (w σ H Q q)⟩
theorem pa_w {t t' : TA} (h : PA X es t) (w : ∀ σ H Q, t' σ H Q → t σ H Q) : PA X es t' := ⟨fun pos pins s σ H Q I q => h.run pos pins s σ H Q I (w σ H Q q)⟩
theorem ps_w {st : Stmt} {t t' : TS} (h : PS X st t) (w : ∀ D σ H, t' D σ H → t D σ H) : PS X st t' := ⟨fun pins s σ H D I q => h.run pins s σ H D I (w D σ H q)⟩
theorem pss_w {st : List Stmt} {t t' : TS} (h : PSs X st t) (w : ∀ D σ H, t' D σ H → t D σ H) : PSs X st t' := ⟨fun pins s σ H D I q => h.run pins s σ H D I (w D σ H q)⟩
theorem pg_w {tg : Expr} {t t' : TG} (h : PG X tg t) (w : ∀ v σ H Q, t' v σ H Q → t v σ H Q) : PG X tg t' := ⟨fun pins s σ H v u Q I r q => h.run pins s σ H v u Q I r (w v σ H Q q)⟩

/-- what is clean may be borrowed -/
theorem ce_b (h : PE X e (tE X.K true f)) : PE X e (tE X.K false f) := pe_w h fun σ H Q ⟨S0, H0, A, env, d, E, hf, q⟩ =>
  ⟨S0, H0, A, env, d, E, hf, fun v H' s r => q v H' s (r.wide fun _ _ z => nomatch z)⟩
theorem ca_b (h : PA X es (tA X.K true fa)) : PA X es (tA X.K false fa) := pa_w h fun σ H Q ⟨S0, H0, A, env, d, E, hf, q⟩ =>
  ⟨S0, H0, A, env, d, E, hf, fun v H' s r => q v H' s (r.wide fun _ _ z => nomatch z)⟩
/-- a fresh list as a value -/
def eL (f : En → Option (List PyData)) : En → Option PyData := fun env => (f env).map .list
theorem ce_l (h : PE X e (tF X.K c fa)) : PE X e (tE X.K c (eL fa)) := pe_w h fun σ H Q ⟨S0, H0, A, env, d, E, hf, q⟩ => by
  unfold eL at hf
  cases hd : fa env with
  | none => rw [hd] at hf; cases hf
  | some ds =>
    rw [hd] at hf
    cases hf
    refine ⟨S0, H0, A, env, ds, E, hd, fun p xs H' hn s hp r => q _ H' s ?_⟩
    rw [Rp]
    exact ⟨p, xs, rfl, .inl ⟨sc_new E hn, .inl hp⟩, r.wide fun _ z => z.1⟩
/-- a value without lists is clean -/
def eN (f : En → Option PyData) : En → Option PyData := fun env => (f env).bind fun d => if noL d = true then some d else none
theorem ce_n (h : PE X e (tE X.K false f)) : PE X e (tE X.K c (eN f)) := pe_w h fun σ H Q ⟨S0, H0, A, env, d, E, hf, q⟩ => by
  unfold eN at hf
  cases hd : f env with
  | none => rw [hd] at hf; cases hf
  | some d' =>
    rw [hd] at hf
    by_cases n : noL d' = true
    · have hf' : (if noL d' = true then some d' else none) = some d := hf
      rw [if_pos n] at hf'
      cases hf'
      exact ⟨S0, H0, A, env, d, E, hd, fun v H' s r => q v H' s (Rp.noL d v n r)⟩
    · have hf' : (if noL d' = true then some d' else none) = some d := hf
      rw [if_neg n] at hf'; cases hf'

/-! ### names, constants -/
def eVar (i : Nat) : En → Option PyData := fun env => match env[i]? with
  | some (.val d) => some d
  | _ => none
def eBor (i : Nat) : En → Option PyData := fun env => match env[i]? with
  | some (.own ds) => some (.list ds)
  | _ => none
theorem ce_var {i : Nat} (h : PE X e (tVar i)) : PE X e (tE X.K true (eVar i)) := pe_w h fun σ H Q ⟨S0, H0, A, env, d, E, hf, q⟩ => by
  unfold eVar at hf
  split at hf
  · rename_i d' hi
    cases hf
    rcases E.sl i _ hi with z | ⟨v, h1, h2⟩
    · cases z
    · exact ⟨v, h1, q v H (Same.refl H) (Rp.wide (fun _ z => sc_cl z) h2)⟩
  · cases hf
theorem ce_bor {i : Nat} (h : PE X e (tVar i)) : PE X e (tE X.K false (eBor i)) := pe_w h fun σ H Q ⟨S0, H0, A, env, d, E, hf, q⟩ => by
  unfold eBor at hf
  split at hf
  · rename_i ds hi
    cases hf
    rcases E.sl i _ hi with z | ⟨v, h1, a, xs, rfl, ha, hh, r⟩
    · cases z
    · refine ⟨_, h1, q _ H (Same.refl H) ?_⟩
      rw [Rp]
      exact ⟨a, xs, rfl, .inl ⟨(fun z => nomatch z), .inl hh⟩, r.wide fun _ _ z => nomatch z⟩
  · cases hf
def eC (d : PyData) : En → Option PyData := fun _ => some d
theorem ce_c {v : V} {d : PyData} (h : PE X e (tC v)) (r : ∀ S H, Rp X.K S H d v) : PE X e (tE X.K true (eC d)) := pe_w h fun σ H Q ⟨S0, H0, A, env, d', E, hf, q⟩ => by
  cases hf
  exact q v H (Same.refl H) (r _ _)
theorem ce_int {i : Int} {j : Nat} : PE X (.Constant (.int i) j pos) (tE X.K true (eC (.int i))) := ce_c pe_int fun _ _ => by rw [Rp]
theorem ce_bl {i : Bool} {j : Nat} : PE X (.Constant (.bool i) j pos) (tE X.K true (eC (.bool i))) := ce_c pe_bl fun _ _ => by rw [Rp]
theorem ce_non {j : Nat} : PE X (.Constant .none j pos) (tE X.K true (eC .none)) := ce_c pe_non fun _ _ => by rw [Rp]
theorem ce_str {i : Str} {j : Nat} : PE X (.Constant (.str i) j pos) (tE X.K true (eC (.str i))) := ce_c pe_str fun _ _ => by rw [Rp]

/-! ### operations on two values -/
/-- sc: the value has no lists -/
def R2Ok (K : PySem.W.Frag) (sc : Bool) (r : R2) (h : PyData → PyData → Option PyData) : Prop := ∀ (S S' : Addr → Prop) (H : Hp) (x y : V) (dx dy d : PyData) (Q : VK), (∀ p, H p = none → S p) → (sc = true ∨ S' = S) → Rp K S H dx x → Rp K S H dy y → h dx dy = some d →
  (∀ v H', Same H H' → Rp K S' H' d v → Q v H') → r x y H Q
def e2 (h : PyData → PyData → Option PyData) (f g : En → Option PyData) : En → Option PyData := fun env => match f env with
  | some x => match g env with
    | some y => h x y
    | none => none
  | none => none
theorem e2_some {h : PyData → PyData → Option PyData} {env : En} {d : PyData} (q : e2 h f g env = some d) : ∃ x y, f env = some x ∧ g env = some y ∧ h x y = some d := by
  unfold e2 at q
  split at q
  · split at q
    · exact ⟨_, _, by assumption, by assumption, q⟩
    · cases q
  · cases q
theorem e2_run {K : PySem.W.Frag} {sc : Bool} {r : R2} {h : PyData → PyData → Option PyData} (R : R2Ok K sc r h) (hc : sc = true ∨ c2 = c1) {σ : L2.St} {H : Hp} {Q : VK} (q : tE K c2 (e2 h f g) σ H Q) : tOp r (tE K c1 f) (tE K c1 g) σ H Q := by
  obtain ⟨S0, H0, A, env, d, E, hf, q⟩ := q
  obtain ⟨x, y, h1, h2, h3⟩ := e2_some hf
  refine ⟨S0, H0, A, env, x, E, h1, fun v H1 s1 r1 => ⟨S0, H0, A, env, y, E.grow s1, h2, fun u H2 s2 r2 => ?_⟩⟩
  refine R (SC c1 S0 H0 A) (SC c2 S0 H0 A) H2 v u x y d Q (fun p hp => sc_new (E.grow (s1.trans s2)) hp) (hc.imp id fun z => by rw [z]) (r1.grow s2) r2 h3 fun z H3 s3 r3 => q z H3 ((s1.trans s2).trans s3) r3
theorem ce_op {op : Operator} {r : R2} {h : PyData → PyData → Option PyData} {sc : Bool} (ho : OpR X (binaryOp op) r) (R : R2Ok X.K sc r h) (ha : PE X a (tE X.K c1 f)) (hb : PE X b (tE X.K c1 g)) (hc : sc = true ∨ c2 = c1 := by first | exact .inl rfl | exact .inr rfl) :
    PE X (.BinOp a op b pos) (tE X.K c2 (e2 h f g)) := pe_w (pe_op ho ha hb) fun _ _ _ q => e2_run R hc q
theorem ce_cmp {op : CmpOp} {r : R2} {h : PyData → PyData → Option PyData} (ho : OpR X (compareOp op) r) (R : R2Ok X.K true r h) (ha : PE X a (tE X.K c1 f)) (hb : PE X b (tE X.K c1 g)) (hm : behindInMarks op b = false) :
    PE X (.Compare a [op] [b] pos) (tE X.K true (e2 h f g)) := pe_w (pe_cmpR ho ha hb hm) fun _ _ _ q => e2_run R (.inl rfl) q
/-- a value as a test -/
def t1 (f : En → Option PyData) : En → Option Bool := fun env => match f env with
  | some (.bool b) => some b
  | _ => none
theorem t1_some {env : En} {b : Bool} (q : t1 f env = some b) : f env = some (.bool b) := by
  unfold t1 at q
  split at q
  · rename_i h
    cases q
    exact h
  · cases q
theorem t1_run {K : PySem.W.Frag} {t : TE} {σ : L2.St} {H : Hp} {Q : Bool → Hp → Prop} (ht : ∀ Q, tE K c f σ H Q → t σ H Q) (q : tT K (t1 f) σ H Q) : t σ H fun x H1 => ∃ c, x = .bl c ∧ Q c H1 := by
  obtain ⟨S0, H0, A, env, d, E, hf, q⟩ := q
  refine ht _ ⟨S0, H0, A, env, _, E, t1_some hf, fun v H' s r => ⟨d, ?_, q H' s⟩⟩
  rw [Rp] at r
  exact r
theorem ct_cmp {op : CmpOp} {r : R2} {h : PyData → PyData → Option PyData} (ho : OpR X (compareOp op) r) (R : R2Ok X.K true r h) (ha : PE X a (tE X.K c1 f)) (hb : PE X b (tE X.K c1 g)) (hm : behindInMarks op b = false) :
    PT X (.Compare a [op] [b] pos) (tT X.K (t1 (e2 h f g))) := pt_w (pt_cmpR ho ha hb hm) fun σ H Q q => t1_run (c := true) (fun Q q => e2_run R (.inl rfl) q) q
theorem ct_val (ha : PE X e (tE X.K c f)) (he : ∀ whole, isTrue e X.env whole = (do let v ← whole; standAt e.pos; holding [v] (truthy v)) := by intro _; rfl) : PT X e (tT X.K (t1 f)) := pt_w (pt_val ha he) fun σ H Q q => t1_run (fun Q q => q) q

/-! ### truth -/
def truD : PyData → Option Bool
  | .none => some false
  | .bool b => some b
  | .int i => some (i != 0)
  | .str y => if y.length ≤ 1000000 then some ((y.length : Int) != 0) else none
  | .list ds => some (!ds.isEmpty)
  | .tuple ds => some (!ds.isEmpty)
  | .dict _ => none
theorem sz6 {n : Nat} (h : n ≤ 1000000) : n ≤ sizeLine := Nat.le_trans h (by decide)
theorem rpA_empty {K : PySem.W.Frag} {S : Addr → Prop} {H : Hp} {ds : List PyData} {xs : List V} (r : RpA K S H ds xs) : (!ds.isEmpty) = !xs.isEmpty := by
  cases ds with
  | nil => rw [RpA] at r; subst r; rfl
  | cons d ds =>
    rw [RpA] at r
    obtain ⟨v, r', rfl, _⟩ := r
    rfl
theorem truD_ok {K : PySem.W.Frag} {S : Addr → Prop} {H : Hp} {d : PyData} {v : V} {b : Bool} (r : Rp K S H d v) (h : truD d = some b) : TruV K v H b := by
  cases d with
  | none => rw [Rp] at r; subst r; cases h; rfl
  | bool k => rw [Rp] at r; subst r; cases h; rfl
  | int k => rw [Rp] at r; subst r; cases h; rfl
  | str k =>
    rw [Rp] at r; subst r
    simp only [truD] at h
    by_cases q : k.length ≤ 1000000
    · rw [if_pos q] at h; cases h; exact ⟨sz6 q, rfl⟩
    · rw [if_neg q] at h; cases h
  | list ds =>
    rw [Rp] at r
    obtain ⟨a, xs, rfl, q, r⟩ := r
    cases h
    exact .inl ⟨xs, q.sq, rpA_empty r⟩
  | tuple ds =>
    rw [Rp] at r
    obtain ⟨a, xs, rfl, q, r⟩ := r
    cases h
    exact .inr (.inl ⟨xs, live_t q, rpA_empty r⟩)
  | dict k => cases h
def tTr (f : En → Option PyData) : En → Option Bool := fun env => (f env).bind truD
theorem ct_tru (ha : PE X e (tE X.K c f)) (he : ∀ whole, isTrue e X.env whole = (do let v ← whole; standAt e.pos; holding [v] (truthy v)) := by intro _; rfl) : PT X e (tT X.K (tTr f)) := pt_w (pt_truth ha he) fun σ H Q ⟨S0, H0, A, env, b, E, hf, q⟩ => by
  unfold tTr at hf
  cases hd : f env with
  | none => rw [hd] at hf; cases hf
  | some d =>
    rw [hd] at hf
    exact ⟨S0, H0, A, env, d, E, hd, fun v H' s r => ⟨b, truD_ok r hf, q H' s⟩⟩

/-! ### and, or, not -/
variable {ga gb : En → Option Bool} {rest : List Expr}
def tAnd' (ga gb : En → Option Bool) : En → Option Bool := fun env => match ga env with
  | some true => gb env
  | some false => some false
  | none => none
def tOr' (ga gb : En → Option Bool) : En → Option Bool := fun env => match ga env with
  | some true => some true
  | some false => gb env
  | none => none
def tNot' (ga : En → Option Bool) : En → Option Bool := fun env => (ga env).map (!·)
theorem and_run {K : PySem.W.Frag} {σ : L2.St} {H : Hp} {Q : Bool → Hp → Prop} (q : tT K (tAnd' ga gb) σ H Q) : tAnd (tT K ga) (tT K gb) σ H Q := by
  obtain ⟨S0, H0, A, env, b, E, hf, q⟩ := q
  unfold tAnd' at hf
  split at hf
  · rename_i h
    exact ⟨S0, H0, A, env, true, E, h, fun H' s => iteT <| ⟨S0, H0, A, env, b, E.grow s, hf, fun H2 s2 => q H2 (s.trans s2)⟩⟩
  · rename_i h
    cases hf
    exact ⟨S0, H0, A, env, false, E, h, fun H' s => iteF <| q H' s⟩
  · cases hf
theorem or_run {K : PySem.W.Frag} {σ : L2.St} {H : Hp} {Q : Bool → Hp → Prop} (q : tT K (tOr' ga gb) σ H Q) : tOr (tT K ga) (tT K gb) σ H Q := by
  obtain ⟨S0, H0, A, env, b, E, hf, q⟩ := q
  unfold tOr' at hf
  split at hf
  · rename_i h
    cases hf
    exact ⟨S0, H0, A, env, true, E, h, fun H' s => iteT <| q H' s⟩
  · rename_i h
    exact ⟨S0, H0, A, env, false, E, h, fun H' s => iteF <| ⟨S0, H0, A, env, b, E.grow s, hf, fun H2 s2 => q H2 (s.trans s2)⟩⟩
  · cases hf
theorem cw_and1 (ha : PT X a (tT X.K ga)) : PW X (.BoolOp .And [a] pos) (tT X.K ga) := pw_and1 ha
theorem cw_or1 (ha : PT X a (tT X.K ga)) : PW X (.BoolOp .Or [a] pos) (tT X.K ga) := pw_or1 ha
theorem cw_and (ha : PT X a (tT X.K ga)) (hb : PW X (.BoolOp .And (b :: rest) pos) (tT X.K gb)) : PW X (.BoolOp .And (a :: b :: rest) pos) (tT X.K (tAnd' ga gb)) := pw_w (pw_and ha hb) fun _ _ _ q => and_run q
theorem cw_or (ha : PT X a (tT X.K ga)) (hb : PW X (.BoolOp .Or (b :: rest) pos) (tT X.K gb)) : PW X (.BoolOp .Or (a :: b :: rest) pos) (tT X.K (tOr' ga gb)) := pw_w (pw_or ha hb) fun _ _ _ q => or_run q
theorem ct_not (ha : PT X a (tT X.K ga)) : PT X (.UnaryOp .Not a pos) (tT X.K (tNot' ga)) := pt_w (pt_not ha) fun σ H Q ⟨S0, H0, A, env, b, E, hf, q⟩ => by
  unfold tNot' at hf
  cases hd : ga env with
  | none => rw [hd] at hf; cases hf
  | some d =>
    rw [hd] at hf
    cases hf
    exact ⟨S0, H0, A, env, d, E, hd, q⟩
/-- and, or, not as values -/
def eB (ga : En → Option Bool) : En → Option PyData := fun env => (ga env).map .bool
theorem ce_one {op : BoolOp} (h : PE X a (tE X.K c f)) : PE X (.BoolOp op [a] pos) (tE X.K c f) := pe_one h
def eAnd (f g : En → Option PyData) : En → Option PyData := fun env => match f env with
  | some (.bool true) => g env
  | some (.bool false) => some (.bool false)
  | _ => none
def eOr (f g : En → Option PyData) : En → Option PyData := fun env => match f env with
  | some (.bool true) => some (.bool true)
  | some (.bool false) => g env
  | _ => none
theorem ce_and (ha : PE X a (tE X.K c1 f)) (hb : PE X (.BoolOp .And (b :: rest) pos) (tE X.K c g)) : PE X (.BoolOp .And (a :: b :: rest) pos) (tE X.K c (eAnd f g)) := pe_w (pe_and ha hb) fun σ H Q ⟨S0, H0, A, env, d, E, hf, q⟩ => by
  unfold eAnd at hf
  split at hf
  · rename_i h
    refine ⟨S0, H0, A, env, _, E, h, fun v H' s r => ?_⟩
    rw [Rp] at r
    exact ⟨true, r, iteT <| ⟨S0, H0, A, env, d, E.grow s, hf, fun v2 H2 s2 r2 => q v2 H2 (s.trans s2) r2⟩⟩
  · rename_i h
    cases hf
    refine ⟨S0, H0, A, env, _, E, h, fun v H' s r => ?_⟩
    rw [Rp] at r
    exact ⟨false, r, iteF <| q _ H' s (by rw [Rp])⟩
  · cases hf
theorem ce_or (ha : PE X a (tE X.K c1 f)) (hb : PE X (.BoolOp .Or (b :: rest) pos) (tE X.K c g)) : PE X (.BoolOp .Or (a :: b :: rest) pos) (tE X.K c (eOr f g)) := pe_w (pe_or ha hb) fun σ H Q ⟨S0, H0, A, env, d, E, hf, q⟩ => by
  unfold eOr at hf
  split at hf
  · rename_i h
    cases hf
    refine ⟨S0, H0, A, env, _, E, h, fun v H' s r => ?_⟩
    rw [Rp] at r
    exact ⟨true, r, iteT <| q _ H' s (by rw [Rp])⟩
  · rename_i h
    refine ⟨S0, H0, A, env, _, E, h, fun v H' s r => ?_⟩
    rw [Rp] at r
    exact ⟨false, r, iteF <| ⟨S0, H0, A, env, d, E.grow s, hf, fun v2 H2 s2 r2 => q v2 H2 (s.trans s2) r2⟩⟩
  · cases hf
def eNot (f : En → Option PyData) : En → Option PyData := fun env => match f env with
  | some (.bool b) => some (.bool (!b))
  | _ => none
theorem ce_not (ha : PE X a (tE X.K c1 f)) : PE X (.UnaryOp .Not a pos) (tE X.K true (eNot f)) := pe_w (pe_not ha) fun σ H Q ⟨S0, H0, A, env, d, E, hf, q⟩ => by
  unfold eNot at hf
  split at hf
  · rename_i k h
    cases hf
    refine ⟨S0, H0, A, env, _, E, h, fun v H' s r => ?_⟩
    rw [Rp] at r
    exact ⟨k, r, q _ H' s (by rw [Rp])⟩
  · cases hf
def eIf (ga : En → Option Bool) (f g : En → Option PyData) : En → Option PyData := fun env => match ga env with
  | some true => f env
  | some false => g env
  | none => none
theorem ce_if {t : Expr} (ht : PT X t (tT X.K ga)) (ha : PE X a (tE X.K c f)) (hb : PE X b (tE X.K c g)) : PE X (.IfExp t a b pos) (tE X.K c (eIf ga f g)) := pe_w (pe_ifExp ht ha hb) fun σ H Q ⟨S0, H0, A, env, d, E, hf, q⟩ => by
  unfold eIf at hf
  split at hf
  · rename_i h
    exact ⟨S0, H0, A, env, _, E, h, fun H' s => iteT <| ⟨S0, H0, A, env, d, E.grow s, hf, fun v2 H2 s2 r2 => q v2 H2 (s.trans s2) r2⟩⟩
  · rename_i h
    exact ⟨S0, H0, A, env, _, E, h, fun H' s => iteF <| ⟨S0, H0, A, env, d, E.grow s, hf, fun v2 H2 s2 r2 => q v2 H2 (s.trans s2) r2⟩⟩
  · cases hf

/-! ### argument lists, displays -/
def aNil : En → Option (List PyData) := fun _ => some []
def aCons (f : En → Option PyData) (g : En → Option (List PyData)) : En → Option (List PyData) := fun env => match f env with
  | some d => match g env with
    | some ds => some (d :: ds)
    | none => none
  | none => none
theorem aCons_some {env : En} {es : List PyData} (q : aCons f fa env = some es) : ∃ d ds, f env = some d ∧ fa env = some ds ∧ es = d :: ds := by
  unfold aCons at q
  split at q
  · split at q
    · cases q
      exact ⟨_, _, by assumption, by assumption, rfl⟩
    · cases q
  · cases q
theorem ca_nil : PA X [] (tA X.K c aNil) := pa_w pa_nil fun σ H Q ⟨S0, H0, A, env, d, E, hf, q⟩ => by
  cases hf
  exact q [] H (Same.refl H) RpA.nil
theorem ca_cons (ha : PE X e (tE X.K c f)) (hr : PA X es (tA X.K c fa)) (hs : starEach (e :: es) X.env = (false, eval e X.env) :: starEach es X.env := by rfl) : PA X (e :: es) (tA X.K c (aCons f fa)) := pa_w (pa_cons ha hr hs) fun σ H Q ⟨S0, H0, A, env, d, E, hf, q⟩ => by
  obtain ⟨d1, ds, h1, h2, rfl⟩ := aCons_some hf
  exact ⟨S0, H0, A, env, d1, E, h1, fun v H1 s1 r1 => ⟨S0, H0, A, env, ds, E.grow s1, h2, fun vs H2 s2 r2 => q _ H2 (s1.trans s2) (RpA.cons (r1.grow s2) r2)⟩⟩
def eTup (fa : En → Option (List PyData)) : En → Option PyData := fun env => match fa env with
  | some ds => if ds.length ≤ 1000000 then some (.tuple ds) else none
  | none => none
theorem eTup_some {env : En} {d : PyData} (q : eTup fa env = some d) : ∃ ds, fa env = some ds ∧ ds.length ≤ 1000000 ∧ d = .tuple ds := by
  unfold eTup at q
  split at q
  · split at q
    · cases q; exact ⟨_, by assumption, by assumption, rfl⟩
    · cases q
  · cases q
theorem ce_tup {x1 : Nat} (h : PA X es (tA X.K c fa)) : PE X (.Tuple es x1 pos) (tE X.K c (eTup fa)) := pe_w (pe_tup h) fun σ H Q ⟨S0, H0, A, env, d, E, hf, q⟩ => by
  obtain ⟨ds, h1, h2, rfl⟩ := eTup_some hf
  refine ⟨S0, H0, A, env, ds, E, h1, fun vs H1 s1 r1 => ⟨by rw [r1.length]; exact sz6 h2, fun p hp => q _ _ (s1.trans fun b o z => by rw [upd_ne (ne_of_none z hp)]; exact z) ?_⟩⟩
  rw [Rp]
  exact ⟨p, vs, rfl, upd_same, r1.grow fun b o z => by rw [upd_ne (ne_of_none z hp)]; exact z⟩
def fLst (fa : En → Option (List PyData)) : En → Option (List PyData) := fun env => match fa env with
  | some ds => if ds.length ≤ 1000000 then some ds else none
  | none => none
theorem fLst_some {env : En} {d : List PyData} (q : fLst fa env = some d) : fa env = some d ∧ d.length ≤ 1000000 := by
  unfold fLst at q
  split at q
  · split at q
    · cases q; exact ⟨by assumption, by assumption⟩
    · cases q
  · cases q
theorem same_new {H : Hp} {p : Addr} {o : HO} (h : H p = none) : Same H (upd H p o) := fun b u e => by
  rw [upd_ne (ne_of_none e h)]
  exact e
/-- items that stood ahead of the new list do not lean on it -/
theorem RpA.apart {K : PySem.W.Frag} {S : Addr → Prop} {H H' : Hp} {p : Addr} {ds : List PyData} {vs : List V} (h : RpA K S H ds vs) (hp : H p = none) (s : Same H H') : RpA K (fun a => S a ∧ a ≠ p) H' ds vs :=
  RpA.mono (fun a xs z r => ⟨⟨z, fun e => by
    subst e
    rcases r with r | ⟨o, r⟩ <;> (rw [hp] at r; cases r)⟩, same_rd s r⟩) (fun _ _ z => same_t s z) (same_d s) ds vs h
theorem Rp.apart {K : PySem.W.Frag} {S : Addr → Prop} {H H' : Hp} {p : Addr} {d : PyData} {v : V} (h : Rp K S H d v) (hp : H p = none) (s : Same H H') : Rp K (fun a => S a ∧ a ≠ p) H' d v :=
  Rp.mono (fun a xs z r => ⟨⟨z, fun e => by
    subst e
    rcases r with r | ⟨o, r⟩ <;> (rw [hp] at r; cases r)⟩, same_rd s r⟩) (fun _ _ z => same_t s z) (same_d s) d v h
theorem cf_lst (h : PA X es (tA X.K c fa)) : PE X (.List es pos) (tF X.K c (fLst fa)) := pe_w (pe_lst h) fun σ H Q ⟨S0, H0, A, env, ds, E, hf, q⟩ => by
  obtain ⟨h1, h2⟩ := fLst_some hf
  refine ⟨S0, H0, A, env, ds, E, h1, fun vs H1 s1 r1 => ⟨by rw [r1.length]; exact sz6 h2, fun p hp => ?_⟩⟩
  exact q p vs _ (s1.free hp) (s1.trans (same_new hp)) upd_same (r1.apart hp (same_new hp))
end

/-! ### statements -/
section
variable {X : Cx} {e : Expr} {pos pos' : Pos} {c : Bool} {f : En → Option PyData} {fa : En → Option (List PyData)} {ga : En → Option Bool} {s t : En → Out} {st : Stmt} {sts : List Stmt}
def sNil : En → Out := fun env => .nx env
def sSeq (s t : En → Out) : En → Out := fun env => match s env with
  | .nx e => t e
  | .bk e => .bk e
  | .ct e => .ct e
  | .rt d => .rt d
  | .bad => .bad
theorem cs_nil : PSs X [] (tS X.K sNil) := pss_w pss_nil fun D σ H ⟨S0, H0, A, env, E, o⟩ => o A H σ E Fr.refl Sb.refl
theorem cs_cons (h1 : PS X st (tS X.K s)) (h2 : PSs X sts (tS X.K t)) : PSs X (st :: sts) (tS X.K (sSeq s t)) := pss_w (pss_cons h1 h2) fun D σ H ⟨S0, H0, A, env, E, o⟩ => by
  refine ⟨S0, H0, A, env, E, ?_⟩
  unfold sSeq at o
  cases hs : s env with
  | nx e =>
    rw [hs] at o
    exact fun A' H' σ' E' f' b' => ⟨S0, H0, A', e, E', OutOk.step o f' b'⟩
  | bk e => rw [hs] at o; exact o
  | ct e => rw [hs] at o; exact o
  | rt d => rw [hs] at o; exact o
  | bad => rw [hs] at o; exact o
theorem cs_one (h1 : PS X st (tS X.K s)) : PSs X [st] (tS X.K s) := pss_one h1
/-- ahead of the statement the list of the slot i is let go -/
theorem cs_frz {i : Nat} (h : PS X st (tS X.K s)) : PS X st (tS X.K fun env => s (frz i env)) := ps_w h fun D σ H ⟨S0, H0, A, env, E, o⟩ => by
  obtain ⟨A', E', w⟩ := E.frz i
  exact ⟨S0, H0, A', _, E', OutOk.step o Fr.refl fun a z => .inl (w a z)⟩
theorem css_frz {i : Nat} (h : PSs X sts (tS X.K s)) : PSs X sts (tS X.K fun env => s (frz i env)) := pss_w h fun D σ H ⟨S0, H0, A, env, E, o⟩ => by
  obtain ⟨A', E', w⟩ := E.frz i
  exact ⟨S0, H0, A', _, E', OutOk.step o Fr.refl fun a z => .inl (w a z)⟩
def sSet (i : Nat) (f : En → Option PyData) : En → Out := fun env => match f env with
  | some d => .nx (env.set i (.val d))
  | none => .bad
def sOwn (i : Nat) (f : En → Option (List PyData)) : En → Out := fun env => match f env with
  | some d => .nx (env.set i (.own d))
  | none => .bad
theorem set_run {K : PySem.W.Frag} {i : Nat} {D : Ends} {σ : L2.St} {H : Hp} (h : tS K (sSet i f) D σ H) : tAsg (tE K true f) (gName i) D σ H := by
  obtain ⟨S0, H0, A, env, E, o⟩ := h
  unfold sSet at o
  cases hd : f env with
  | none => rw [hd] at o; exact o.elim
  | some d =>
    rw [hd] at o
    exact ⟨S0, H0, A, env, d, E, hd, fun v H' s r => o A H' _ ((E.grow s).set_val (r.wide fun _ z => cl_sc z)) (Fr.of_same s) Sb.refl⟩
theorem own_run {K : PySem.W.Frag} {i : Nat} {D : Ends} {σ : L2.St} {H : Hp} (h : tS K (sOwn i fa) D σ H) : tAsg (tF K true fa) (gName i) D σ H := by
  obtain ⟨S0, H0, A, env, E, o⟩ := h
  unfold sOwn at o
  cases hd : fa env with
  | none => rw [hd] at o; exact o.elim
  | some ds =>
    rw [hd] at o
    refine ⟨S0, H0, A, env, ds, E, hd, fun p xs H' hn s hp r => o _ H' _ (E.set_own s hn hp (r.wide fun _ z => ⟨cl_sc z.1, z.2⟩)) (Fr.of_same s) fun a z => z.imp id fun e => by rw [e]; exact hn⟩
theorem cs_set {i : Nat} (h : PS X st (tAsg (tE X.K true f) (gName i))) : PS X st (tS X.K (sSet i f)) := ps_w h fun _ _ _ q => set_run q
theorem cs_own {i : Nat} (h : PS X st (tAsg (tF X.K true fa) (gName i))) : PS X st (tS X.K (sOwn i fa)) := ps_w h fun _ _ _ q => own_run q
/-- x.append(e), x an owned list -/
def sApp (i : Nat) (f : En → Option PyData) : En → Out := fun env => match f env with
  | some d => match env[i]? with
    | some (.own ds) => if ds.length < 1000000 then .nx (env.set i (.own (ds ++ [d]))) else .bad
    | _ => .bad
  | none => .bad
theorem app_run {K : PySem.W.Frag} {i : Nat} {D : Ends} {σ : L2.St} {H : Hp} (h : tS K (sApp i f) D σ H) : tDrop (tBM K "list" rAppend (tVar i) (tCons (tE K true f) tNil)) D σ H := by
  obtain ⟨S0, H0, A, env, E, o⟩ := h
  unfold sApp at o
  cases hd : f env with
  | none => rw [hd] at o; exact o.elim
  | some d =>
    rw [hd] at o
    replace o : OutOk K S0 H0 A H (match env[i]? with
      | some (.own ds) => if ds.length < 1000000 then .nx (env.set i (.own (ds ++ [d]))) else .bad
      | _ => .bad) D := o
    split at o
    · rename_i ds hi
      split at o
      · rename_i hl
        rcases E.sl i _ hi with z | ⟨v, h1, a, xs, rfl, ha, hh, r⟩
        · cases z
        refine ⟨_, h1, .inl ⟨rfl, xs, .inl (.inl hh)⟩, S0, H0, A, env, d, E, hd, fun v H' s r' => ?_⟩
        have E' := E.grow s
        refine ⟨a, xs, v, rfl, rfl, s _ _ hh, ?_, ?_⟩
        · rw [r.length]
          exact Nat.lt_of_lt_of_le hl (by decide)
        · have q := RpA.append (r.grow s) (RpA.cons (r'.wide fun _ z => cl_sc z) RpA.nil)
          refine o A _ σ (E'.mut hi h1 ha (s _ _ hh) q) (fun b u e n => ?_) Sb.refl
          have nb : b ≠ a := fun z => n (z ▸ ha)
          rw [upd_ne nb]
          exact s _ _ e
      · exact o.elim
    · exact o.elim
theorem cs_app {i : Nat} (h : PS X st (tDrop (tBM X.K "list" rAppend (tVar i) (tCons (tE X.K true f) tNil)))) : PS X st (tS X.K (sApp i f)) := ps_w h fun _ _ _ q => app_run q
/-- x[k] = e, x an owned list -/
def ixD (n : Nat) (k : PyData) : Option Nat := match k with
  | .int i => ixN n i
  | _ => none
def sPut (i : Nat) (fk f : En → Option PyData) : En → Out := fun env => match f env with
  | some d => match env[i]? with
    | some (.own ds) => match fk env with
      | some k => match ixD ds.length k with
        | some j => .nx (env.set i (.own (ds.set j d)))
        | none => .bad
      | none => .bad
    | _ => .bad
  | none => .bad
theorem put_run {K : PySem.W.Frag} {i : Nat} {fk : En → Option PyData} {D : Ends} {σ : L2.St} {H : Hp} (h : tS K (sPut i fk f) D σ H) : tAsg (tE K true f) (gSub (tVar i) (tE K c fk) rSetL) D σ H := by
  obtain ⟨S0, H0, A, env, E, o⟩ := h
  unfold sPut at o
  cases hd : f env with
  | none => rw [hd] at o; exact o.elim
  | some d =>
    rw [hd] at o
    refine ⟨S0, H0, A, env, d, E, hd, fun v H1 s1 r1 => ?_⟩
    cases hi : env[i]? with
    | none => rw [hi] at o; exact o.elim
    | some sl =>
      rw [hi] at o
      cases sl with
      | un => exact o.elim
      | val _ => exact o.elim
      | ownT _ => exact o.elim
      | ownK _ => exact o.elim
      | exc _ _ _ => exact o.elim
      | fn _ => exact o.elim
      | mat _ => exact o.elim
      | own ds =>
        cases hk : fk env with
        | none => rw [hk] at o; exact o.elim
        | some k =>
          rw [hk] at o
          cases hj : ixD ds.length k with
          | none => simp only [hj] at o; exact o.elim
          | some j =>
            simp only [hj] at o
            rcases E.sl i _ hi with z | ⟨_, h1, a, xs, rfl, ha, hh, r⟩
            · cases z
            refine ⟨_, h1, S0, H0, A, env, k, E.grow s1, hk, fun u H2 s2 r2 => ?_⟩
            cases k with
            | int m =>
              rw [Rp] at r2
              have hh2 := s2 _ _ (s1 _ _ hh)
              refine ⟨a, xs, m, j, rfl, r2, hh2, by rw [r.length]; exact hj, ?_⟩
              have q := (r.grow (s1.trans s2)).set (i := j) ((r1.wide fun _ z => cl_sc z).grow s2)
              refine o A _ σ ((E.grow (s1.trans s2)).mut hi h1 ha hh2 q) (fun b u e n => ?_) Sb.refl
              have nb : b ≠ a := fun z => n (z ▸ ha)
              rw [upd_ne nb]
              exact (s1.trans s2) _ _ e
            | none => cases hj
            | bool _ => cases hj
            | str _ => cases hj
            | list _ => cases hj
            | tuple _ => cases hj
            | dict _ => cases hj
theorem cs_put {i : Nat} {fk : En → Option PyData} (h : PS X st (tAsg (tE X.K true f) (gSub (tVar i) (tE X.K c fk) rSetL))) : PS X st (tS X.K (sPut i fk f)) := ps_w h fun _ _ _ q => put_run q
def sIf (ga : En → Option Bool) (s t : En → Out) : En → Out := fun env => match ga env with
  | some true => s env
  | some false => t env
  | none => .bad
theorem cs_if {a b : List Stmt} (hc : PT X e (tT X.K ga)) (ha : PSs X a (tS X.K s)) (hb : PSs X b (tS X.K t)) : PS X (.If e a b pos) (tS X.K (sIf ga s t)) := ps_w (ps_if hc ha hb) fun D σ H ⟨S0, H0, A, env, E, o⟩ => by
  unfold sIf at o
  cases hd : ga env with
  | none => rw [hd] at o; exact o.elim
  | some k =>
    rw [hd] at o
    refine ⟨S0, H0, A, env, k, E, hd, fun H' sm => ?_⟩
    cases k with
    | true => exact iteT <| ⟨S0, H0, A, env, E.grow sm, OutOk.step o (Fr.of_same sm) Sb.refl⟩
    | false => exact iteF <| ⟨S0, H0, A, env, E.grow sm, OutOk.step o (Fr.of_same sm) Sb.refl⟩
def sRet (f : En → Option PyData) : En → Out := fun env => match f env with
  | some d => .rt d
  | none => .bad
theorem cs_ret (h : PE X e (tE X.K true f)) : PS X (.Return (some e) pos) (tS X.K (sRet f)) := ps_w (ps_ret h) fun D σ H ⟨S0, H0, A, env, E, o⟩ => by
  unfold sRet at o
  cases hd : f env with
  | none => rw [hd] at o; exact o.elim
  | some d =>
    rw [hd] at o
    exact ⟨S0, H0, A, env, d, E, hd, fun v H' sm r => o v H' (E.same.trans sm) (r.wide fun _ z => (cl_sc z).1)⟩
def sRetN : En → Out := fun _ => .rt .none
theorem cs_retN : PS X (.Return none pos) (tS X.K sRetN) := ps_w ps_retN fun D σ H ⟨S0, H0, A, env, E, o⟩ => o _ H E.same (by rw [Rp])
def sBrk : En → Out := fun env => .bk env
def sCnt : En → Out := fun env => .ct env
theorem cs_brk : PS X (.Break pos) (tS X.K sBrk) := ps_w ps_break fun D σ H ⟨S0, H0, A, env, E, o⟩ => o A H σ E Fr.refl Sb.refl
theorem cs_cnt : PS X (.Continue pos) (tS X.K sCnt) := ps_w ps_continue fun D σ H ⟨S0, H0, A, env, E, o⟩ => o A H σ E Fr.refl Sb.refl
theorem cs_pass : PS X (.Pass pos) (tS X.K sNil) := ps_w ps_pass fun D σ H ⟨S0, H0, A, env, E, o⟩ => o A H σ E Fr.refl Sb.refl
/-- an expression for nothing -/
def sDrop (f : En → Option PyData) : En → Out := fun env => match f env with
  | some _ => .nx env
  | none => .bad
theorem cs_drop (h : PS X st (tDrop (tE X.K c f))) : PS X st (tS X.K (sDrop f)) := ps_w h fun D σ H ⟨S0, H0, A, env, E, o⟩ => by
  unfold sDrop at o
  cases hd : f env with
  | none => rw [hd] at o; exact o.elim
  | some d =>
    rw [hd] at o
    exact ⟨S0, H0, A, env, d, E, hd, fun v H' sm r => o A H' σ (E.grow sm) (Fr.of_same sm) Sb.refl⟩
/-- x += e, ints -/
def sAug (i : Nat) (k : Int → Int → Int) (f : En → Option PyData) : En → Out := fun env => match env[i]? with
  | some (.val (.int x)) => match f env with
    | some (.int y) => .nx (env.set i (.val (.int (k x y))))
    | _ => .bad
  | _ => .bad
theorem cs_aug {i : Nat} {k : Int → Int → Int} (h : PS X st (tAug i (tE X.K c f) (ipI k))) : PS X st (tS X.K (sAug i k f)) := ps_w h fun D σ H ⟨S0, H0, A, env, E, o⟩ => by
  unfold sAug at o
  split at o
  · rename_i x hi
    rcases E.sl i _ hi with z | ⟨v, h1, h2⟩
    · cases z
    have h2' : Rp X.K (Cl S0 H0 A) H (.int x) v := h2
    rw [Rp] at h2'
    subst h2'
    split at o
    · rename_i y hd
      refine ⟨_, h1, S0, H0, A, env, _, E, hd, fun u H' sm r => ?_⟩
      rw [Rp] at r
      refine ⟨x, y, rfl, r, o A H' _ ((E.grow sm).set_val (by rw [Rp])) (Fr.of_same sm) Sb.refl⟩
    · exact o.elim
  · exact o.elim
end
end Mir

namespace Mir
open PySem PySem.Spec PyProof.Rows L2

/-! ### targets -/
def gVal (i : Nat) : PyData → En → Option En := fun d env => some (env.set i (.val d))
def gMany : List Nat → List PyData → En → Option En
  | [], [], env => some env
  | i :: is, d :: ds, env => gMany is ds (env.set i (.val d))
  | _, _, _ => none
def gT (is : List Nat) : PyData → En → Option En := fun d env => match d with
  | .tuple ds => gMany is ds env
  | _ => none
def gsOf : List Nat → TGs
  | [] => gNil
  | i :: is => gCons (gName i) (gsOf is)
section
variable {X : Cx} {tg e iter : Expr} {pos : Pos} {K : PySem.W.Frag} {S0 : Addr → Prop} {H0 H H1 : Hp} {A : Addr → Prop} {σ : L2.St} {env : En}
theorem wipe_set {i : Nat} {x : Option V} : ∀ {is : List Nat}, (wipe (σ.set i x) is).set i none = (wipe σ is).set i none
  | [] => by simp [wipe]
  | j :: is => by
    show ((wipe (σ.set i x) is).set j none).set i none = ((wipe σ is).set j none).set i none
    by_cases h : j = i
    · subst h
      rw [List.set_set, List.set_set]
      exact wipe_set
    · rw [List.set_comm _ _ h, List.set_comm _ _ h, wipe_set]
theorem wipe_get (i : Nat) : ∀ (vs : List Nat), (wipe σ vs)[i]? = if i ∈ vs then (σ[i]?).map (fun _ => none) else σ[i]?
  | [] => by simp [wipe]
  | j :: vs => by
    show ((wipe σ vs).set j none)[i]? = _
    rw [List.getElem?_set, wipe_length]
    by_cases h : j = i
    · subst h
      rw [if_pos rfl, if_pos List.mem_cons_self]
      by_cases l : j < σ.length
      · rw [if_pos l, List.getElem?_eq_getElem l]; rfl
      · rw [if_neg l, List.getElem?_eq_none (by omega)]; rfl
    · rw [if_neg h, wipe_get i vs]
      by_cases m : i ∈ vs
      · rw [if_pos m, if_pos (List.mem_cons_of_mem _ m)]
      · rw [if_neg m, if_neg (fun z => by
          rcases List.mem_cons.mp z with z | z
          · exact h z.symm
          · exact m z)]
theorem wipe_wipe (vs : List Nat) : wipe (wipe σ vs) vs = wipe σ vs := by
  apply List.ext_getElem?
  intro i
  rw [wipe_get, wipe_get]
  split
  · cases σ[i]? <;> rfl
  · rfl
theorem cg_name {i : Nat} (h : PG X tg (gName i)) : PG X tg (tG X.K [i] (gVal i)) := pg_w h fun v σ H Q ⟨S0, H0, A, env, d, env', E, r, hg, q⟩ => by
  cases hg
  refine q _ (E.set_val r) ?_
  show (σ.set i (some v)).set i none = σ.set i none
  rw [List.set_set]
theorem many_run : ∀ {is : List Nat} {ds : List PyData} {vs : List V} {σ : L2.St} {env env' : En} {Q : L2.St → Hp → Prop}, EnvOk K S0 H0 A H σ env → RpA K (Cl S0 H0 A) H ds vs → gMany is ds env = some env' →
    (∀ σ', EnvOk K S0 H0 A H σ' env' → wipe σ' is = wipe σ is → Q σ' H) → gsOf is vs σ H Q
  | [], [], _, σ, env, env', Q, E, r, g, q => by
    rw [RpA] at r
    subst r
    cases g
    exact ⟨rfl, q σ E rfl⟩
  | [], _ :: _, _, _, _, _, _, _, _, g, _ => by cases g
  | _ :: _, [], _, _, _, _, _, _, _, g, _ => by cases g
  | i :: is, d :: ds, _, σ, env, env', Q, E, r, g, q => by
    rw [RpA] at r
    obtain ⟨v, r', rfl, h1, h2⟩ := r
    refine ⟨v, r', rfl, ?_⟩
    show gsOf is r' (σ.set i (some v)) H Q
    refine many_run (E.set_val h1) h2 g fun σ' E' w => q σ' E' ?_
    show (wipe σ' is).set i none = (wipe σ is).set i none
    rw [w, wipe_set]
theorem gMany_len : ∀ {is : List Nat} {ds : List PyData} {env env' : En}, gMany is ds env = some env' → ds.length = is.length
  | [], [], _, _, _ => rfl
  | [], _ :: _, _, _, g => by cases g
  | _ :: _, [], _, _, g => by cases g
  | _ :: is, _ :: ds, env, env', g => by
    rw [List.length_cons, List.length_cons, gMany_len (is := is) (ds := ds) g]
theorem cg_tup {is : List Nat} {n : Nat} (h : PG X tg (gTup X.K n (gsOf is))) (hn : n = is.length := by rfl) : PG X tg (tG X.K is (gT is)) := pg_w h fun v σ H Q ⟨S0, H0, A, env, d, env', E, r, hg, q⟩ => by
  cases d with
  | tuple ds =>
    rw [Rp] at r
    obtain ⟨a, xs, rfl, hs, ra⟩ := r
    exact ⟨a, xs, rfl, live_t hs, by rw [ra.length, hn]; exact gMany_len hg, many_run E ra hg q⟩
  | _ => cases hg

/-! ### what is walked -/
structure Wk (K : PySem.W.Frag) (J : It) (G : Hp → Prop) (S : Addr → Prop) (ds : List PyData) : Prop where
  go : ∀ i H, G H → i < ds.length → J.go i H
  yld : ∀ (i : Nat) H d x H', G H → ds[i]? = some d → J.yld i H x H' → Same H H' ∧ Rp K S H' d x
  stop : ∀ i H, G H → ds.length ≤ i → J.stop i H
/-- c: it stands still while the code runs -/
def tI (K : PySem.W.Frag) (c : Bool) (f : En → Option (List PyData)) : TI := fun σ H R => ∃ S0 H0 A env ds, EnvOk K S0 H0 A H σ env ∧ f env = some ds ∧ ∀ J H' G, Same H H' → (∀ H2, Same H' H2 → G H2) → (c = true → ∀ H2, Fr A H' H2 → G H2) →
  Wk K J G (fun b => Cl S0 H0 A b ∧ H' b ≠ none) ds → R J H'
theorem pi_w {t t' : TI} (h : PI X tg iter t) (w : ∀ σ H R, t' σ H R → t σ H R) : PI X tg iter t' := ⟨fun pins s σ H R I q => h.run pins s σ H R I (w σ H R q)⟩
def iAny (K : PySem.W.Frag) (tl : TE) : TI := fun σ H R => tl σ H fun x H1 => ∃ a, x = .ref a ∧ (((∃ xs, SqL K H1 a xs) ∧ R (Itl K a) H1) ∨ ((∃ xs, SqT K H1 a xs) ∧ R (Itt K a) H1))
theorem pi_any {l : Expr} {tl : TE} (hl : PE X l tl) : PI X tg l (iAny X.K tl) := by
  constructor
  intro pins s σ H R I h
  refine thn (hl.run pins s σ H _ I h) ?_
  rintro v t ⟨x, H1, I1, r1, a, rfl, h1⟩
  cases r1
  have nx : ∀ (o : Obj) (b : Addr) (u : Obj), t.heap.get? b = some u → (t.heap.push o).get? b = some u := fun o b u e => Heap.get?_push_of_some _ e
  rcases h1 with ⟨⟨xs, hq⟩, q⟩ | ⟨⟨xs, hq⟩, q⟩
  · obtain ⟨its, rv, pl, hz⟩ := I1.list hq
    refine wpAny_pyIter_list pl.isList ⟨t.heap.objs.size, [t.heap.objs.size], _, _, H1, rfl, I1.kept (t' := t.toks) (nx _), turn_list a _, ⟨_, Heap.get?_push_size _ rfl, rfl, rfl⟩, ?_, q⟩
    intro b hb
    rw [List.mem_singleton.mp hb]
    exact I1.fpOk (Nat.le_refl _) (I1.hok.fresh (Nat.le_refl _))
  · obtain ⟨its, rv, pl, hz⟩ := I1.tuple hq
    refine wpAny_pyIter_tuple (show t.heap.IsTuple a its.toArray from pl) ⟨t.heap.objs.size, [t.heap.objs.size], _, _, H1, rfl, I1.kept (t' := t.toks) (nx _), turn_tuple a _, ⟨_, Heap.get?_push_size _ rfl, rfl, rfl⟩, ?_, q⟩
    intro b hb
    rw [List.mem_singleton.mp hb]
    exact I1.fpOk (Nat.le_refl _) (I1.hok.fresh (Nat.le_refl _))
theorem fr_rd {u : HO} {a : Addr} (f : Fr A H H1) (n : ¬ A a) (h : Rd H a u) : Rd H1 a u := by
  rcases h with h | ⟨o, h⟩
  · exact .inl (f a _ h n)
  · exact .inr ⟨o, f a _ h n⟩
theorem fr_t (E : EnvOk K S0 H0 A H σ env) (f : Fr A H H1) {a : Addr} {xs : List V} (h : H a = some (.tup xs)) : H1 a = some (.tup xs) := f a _ h fun z => E.no_tup z h
theorem fr_d (E : EnvOk K S0 H0 A H σ env) (f : Fr A H H1) : ∀ a u, fz u = true → H a = some u → H1 a = some u := fun a u y h => f a _ h fun z => E.no_frz y z h
/-- what is clean stands still -/
theorem RpA.fr (E : EnvOk K S0 H0 A H σ env) (f : Fr A H H1) {S : Addr → Prop} (w : ∀ a, S a → ¬ A a) {ds : List PyData} {vs : List V} (h : RpA K S H ds vs) : RpA K (fun b => S b ∧ H b ≠ none) H1 ds vs :=
  RpA.mono (fun a xs z r => ⟨⟨z, fun e => by rcases r with r | ⟨o, r⟩ <;> (rw [e] at r; cases r)⟩, fr_rd f (w a z) r⟩) (fun _ _ z => fr_t E f z) (fr_d E f) ds vs h
theorem RpA.sm (s : Same H H1) {S : Addr → Prop} {ds : List PyData} {vs : List V} (h : RpA K S H ds vs) : RpA K (fun b => S b ∧ H b ≠ none) H1 ds vs :=
  RpA.mono (fun a xs z r => ⟨⟨z, fun e => by rcases r with r | ⟨o, r⟩ <;> (rw [e] at r; cases r)⟩, same_rd s r⟩) (fun _ _ z => same_t s z) (same_d s) ds vs h
theorem RpA.at {S : Addr → Prop} {ds : List PyData} {vs : List V} {i : Nat} {d : PyData} {x : V} (h : RpA K S H ds vs) (e : ds[i]? = some d) (g : vs[i]? = some x) : Rp K S H d x := by
  obtain ⟨v, e1, e2⟩ := h.get e
  rw [e1] at g
  cases g
  exact e2
theorem wk_list {a : Addr} {xs : List V} {ds : List PyData} {S : Addr → Prop} : Wk K (Itl K a) (fun H => SqL K H a xs ∧ RpA K S H ds xs) S ds where
  go := fun i H g l => ⟨xs, xs[i]'(by rw [g.2.length]; exact l), g.1, by rw [List.getElem?_eq_getElem]⟩
  yld := fun i H d x H' g e y => by
    obtain ⟨rfl, y⟩ := y
    exact ⟨Same.refl _, g.2.at e (y xs g.1)⟩
  stop := fun i H g l => ⟨xs, g.1, by rw [g.2.length]; exact l⟩
theorem wk_tup {a : Addr} {xs : List V} {ds : List PyData} {S : Addr → Prop} : Wk K (Itt K a) (fun H => H a = some (.tup xs) ∧ RpA K S H ds xs) S ds where
  go := fun i H g l => ⟨xs, xs[i]'(by rw [g.2.length]; exact l), live_t g.1, by rw [List.getElem?_eq_getElem]⟩
  yld := fun i H d x H' g e y => by
    obtain ⟨rfl, y⟩ := y
    exact ⟨Same.refl _, g.2.at e (y xs (live_t g.1))⟩
  stop := fun i H g l => ⟨xs, live_t g.1, by rw [g.2.length]; exact l⟩
def iSeq (f : En → Option PyData) : En → Option (List PyData) := fun env => match f env with
  | some (.list ds) => some ds
  | some (.tuple ds) => some ds
  | _ => none
theorem ci_seq {f : En → Option PyData} (h : PE X iter (tE X.K true f)) : PI X tg iter (tI X.K true (iSeq f)) := pi_w (pi_any h) fun σ H R ⟨S0, H0, A, env, ds, E, hf, q⟩ => by
  unfold iSeq at hf
  split at hf
  · rename_i es hd
    cases hf
    refine ⟨S0, H0, A, env, _, E, hd, fun v H1 s r => ?_⟩
    rw [Rp] at r
    obtain ⟨a, xs, rfl, hs, ra⟩ := r
    have ra' : RpA X.K (Cl S0 H0 A) H1 ds xs := ra.wide fun _ z => cl_sc z
    exact ⟨a, rfl, .inl ⟨⟨xs, hs.sq⟩, q _ H1 _ s (fun H2 s2 => ⟨s2.seq hs.sq, ra'.sm s2⟩) (fun _ H2 f2 => ⟨hs.imp (fun z => fr_rd f2 (cl_sc z.1).2 z.2) id, ra'.fr (E.grow s) f2 fun _ z => z.2⟩) wk_list⟩⟩
  · rename_i es hd
    cases hf
    refine ⟨S0, H0, A, env, _, E, hd, fun v H1 s r => ?_⟩
    rw [Rp] at r
    obtain ⟨a, xs, rfl, hs, ra⟩ := r
    have ra' : RpA X.K (Cl S0 H0 A) H1 ds xs := ra.wide fun _ z => cl_sc z
    exact ⟨a, rfl, .inr ⟨⟨xs, live_t hs⟩, q _ H1 _ s (fun H2 s2 => ⟨same_t s2 hs, ra'.sm s2⟩) (fun _ H2 f2 => ⟨fr_t (E.grow s) f2 hs, ra'.fr (E.grow s) f2 fun _ z => z.2⟩) wk_tup⟩⟩
  · cases hf
/-- an owned list, walked by a comprehension -/
def iOwn (i : Nat) : En → Option (List PyData) := fun env => match env[i]? with
  | some (.own ds) => some ds
  | _ => none
theorem ci_own {i : Nat} (h : PE X iter (tVar i)) : PI X tg iter (tI X.K false (iOwn i)) := pi_w (pi_any h) fun σ H R ⟨S0, H0, A, env, ds, E, hf, q⟩ => by
  unfold iOwn at hf
  split at hf
  · rename_i es hi
    cases hf
    rcases E.sl i _ hi with z | ⟨v, h1, a, xs, rfl, ha, hh, r⟩
    · cases z
    exact ⟨_, h1, a, rfl, .inl ⟨⟨xs, .inl (.inl hh)⟩, q _ H _ (Same.refl H) (fun H2 s2 => ⟨.inl (.inl (s2 _ _ hh)), r.sm s2⟩) (fun z => nomatch z) wk_list⟩⟩
  · cases hf
/-! ranges -/
def rngD (lo : Int) (n : Nat) : List PyData := (List.range n).map fun k => .int (lo + (k : Nat))
theorem rng_len (lo : Int) (n : Nat) : (rngD lo n).length = n := by simp [rngD]
theorem rng_get {lo : Int} {n i : Nat} {d : PyData} (h : (rngD lo n)[i]? = some d) : d = .int (lo + (i : Nat)) := by
  unfold rngD at h
  rw [List.getElem?_map] at h
  cases q : (List.range n)[i]? with
  | none => rw [q] at h; cases h
  | some k =>
    rw [q] at h
    rw [List.getElem?_range (by
      obtain ⟨l, _⟩ := List.getElem?_eq_some_iff.mp q
      simpa using l)] at q
    cases q
    exact (Option.some.inj h).symm
theorem wk_rng {lo : Int} {n : Nat} {S : Addr → Prop} : Wk K (Itr lo n) (fun _ => True) S (rngD lo n) where
  go := fun i H _ l => by rw [rng_len] at l; exact l
  yld := fun i H d x H' _ e y => by
    obtain ⟨rfl, rfl⟩ := y
    rw [rng_get e]
    exact ⟨Same.refl _, by rw [Rp]⟩
  stop := fun i H _ l => by rw [rng_len] at l; exact l
def iR1 (fa : En → Option (List PyData)) : En → Option (List PyData) := fun env => match fa env with
  | some [.int j] => if j < 1000000 ∧ -1000000 < j then some (rngD 0 j.toNat) else none
  | _ => none
def iR2 (fa : En → Option (List PyData)) : En → Option (List PyData) := fun env => match fa env with
  | some [.int i, .int j] => if (j < 1000000000 ∧ -1000000000 < j) ∧ i < 1000000000 ∧ -1000000000 < i then some (rngD i (j - i).toNat) else none
  | _ => none
theorem RpA.one {S : Addr → Prop} {d : PyData} {vs : List V} (h : RpA K S H [d] vs) : ∃ v, vs = [v] ∧ Rp K S H d v := by
  rw [RpA] at h
  obtain ⟨v, r, rfl, h1, h2⟩ := h
  rw [RpA] at h2
  subst h2
  exact ⟨v, rfl, h1⟩
theorem RpA.two {S : Addr → Prop} {d e : PyData} {vs : List V} (h : RpA K S H [d, e] vs) : ∃ v u, vs = [v, u] ∧ Rp K S H d v ∧ Rp K S H e u := by
  rw [RpA] at h
  obtain ⟨v, r, rfl, h1, h2⟩ := h
  obtain ⟨u, rfl, h3⟩ := h2.one
  exact ⟨v, u, rfl, h1, h3⟩
theorem ci_r1 {c : Bool} {fa : En → Option (List PyData)} (h : PI X tg iter (iRng1 (tA X.K c fa))) : PI X tg iter (tI X.K true (iR1 fa)) := pi_w h fun σ H R ⟨S0, H0, A, env, ds, E, hf, q⟩ => by
  unfold iR1 at hf
  split at hf
  · rename_i j hd
    split at hf
    · rename_i hj
      cases hf
      refine ⟨S0, H0, A, env, _, E, hd, fun vs H1 s r => ?_⟩
      obtain ⟨v, rfl, r1⟩ := r.one
      rw [Rp] at r1
      subst r1
      exact ⟨j, rfl, by omega, by omega, q _ H1 _ s (fun _ _ => trivial) (fun _ _ _ => trivial) wk_rng⟩
    · cases hf
  · cases hf
theorem ci_r2 {c : Bool} {fa : En → Option (List PyData)} (h : PI X tg iter (iRng2 (tA X.K c fa))) : PI X tg iter (tI X.K true (iR2 fa)) := pi_w h fun σ H R ⟨S0, H0, A, env, ds, E, hf, q⟩ => by
  unfold iR2 at hf
  split at hf
  · rename_i i j hd
    split at hf
    · rename_i hj
      cases hf
      refine ⟨S0, H0, A, env, _, E, hd, fun vs H1 s r => ?_⟩
      obtain ⟨v, u, rfl, r1, r2⟩ := r.two
      rw [Rp] at r1 r2
      subst r1 r2
      exact ⟨i, j, rfl, ⟨by omega, by omega, by omega, by omega⟩, q _ H1 _ s (fun _ _ => trivial) (fun _ _ _ => trivial) wk_rng⟩
    · cases hf
  · cases hf

/-! ### for, while -/
def loopF (g : PyData → En → Option En) (b : En → Out) : List PyData → En → Out
  | [], e => .nx e
  | d :: ds, e => match g d e with
    | none => .bad
    | some e1 => match b e1 with
      | .nx e2 => loopF g b ds e2
      | .ct e2 => loopF g b ds e2
      | .bk e2 => .nx e2
      | .rt v => .rt v
      | .bad => .bad
def sFor (f : En → Option (List PyData)) (g : PyData → En → Option En) (b : En → Out) : En → Out := fun env => match f env with
  | some ds => loopF g b ds env
  | none => .bad
theorem for_run {f : En → Option (List PyData)} {g : PyData → En → Option En} {b : En → Out} {vs : List Nat} {D : Ends} (h : tS K (sFor f g b) D σ H) : tFor (tI K true f) (tG K vs g) (tS K b) D σ H := by
  obtain ⟨S0, H0, A, env, E, o⟩ := h
  unfold sFor at o
  cases hd : f env with
  | none => rw [hd] at o; exact o.elim
  | some ds =>
    rw [hd] at o
    refine ⟨S0, H0, A, env, ds, E, hd, fun J H1 G s _ gF wk => ?_⟩
    refine ⟨fun i m σ' H' => m = ds.length - i ∧ i ≤ ds.length ∧ ∃ A' env', EnvOk K S0 H0 A' H' σ' env' ∧ Fr A H1 H' ∧ Sb A H1 A' ∧ OutOk K S0 H0 A' H' (loopF g b (ds.drop i) env') D,
      ⟨_, rfl, Nat.zero_le _, A, env, E.grow s, Fr.refl, Sb.refl, OutOk.step o (Fr.of_same s) Sb.refl⟩, ?_⟩
    rintro i m σ' H' ⟨rfl, hi, A', env', E', f', b', o'⟩
    by_cases hlt : i < ds.length
    · have hdr : ds.drop i = ds[i] :: ds.drop (i + 1) := List.drop_eq_getElem_cons hlt
      rw [hdr] at o'
      refine .inr ⟨wk.go i H' (gF rfl H' f') hlt, fun σ2 H2 => ∃ A2 e2, EnvOk K S0 H0 A2 H2 σ2 e2 ∧ Fr A H1 H2 ∧ Sb A H1 A2 ∧ OutOk K S0 H0 A2 H2 (loopF g b (ds.drop (i + 1)) e2) D, ?_, fun x Hx y => ?_⟩
      · rintro σ2 H2 ⟨A2, e2, z⟩
        exact ⟨ds.length - (i + 1), by omega, rfl, hlt, A2, e2, z⟩
      · obtain ⟨sx, rx⟩ := wk.yld i H' _ x Hx (gF rfl H' f') (List.getElem?_eq_getElem hlt) y
        have rx' : Rp K (Cl S0 H0 A') Hx ds[i] x := rx.wide fun a z => ⟨z.1.1, fun y => by
          rcases b' a y with k | k
          · exact z.1.2 k
          · exact z.2 k⟩
        simp only [loopF] at o'
        cases hg : g ds[i] env' with
        | none => rw [hg] at o'; exact o'.elim
        | some e1 =>
          rw [hg] at o'
          refine ⟨S0, H0, A', env', _, e1, E'.grow sx, rx', hg, fun σ1 E1 _ => ⟨S0, H0, A', e1, E1, ?_⟩⟩
          have fs : Fr A' H' Hx := Fr.of_same sx
          cases hb : b e1 with
          | nx e2 =>
            simp only [hb] at o'
            exact fun A2 H2 σ2 E2 f2 b2 => ⟨A2, e2, E2, f'.trans b' (fs.trans Sb.refl f2), Sb.trans f' b' (Sb.trans fs Sb.refl b2), OutOk.step o' (fs.trans Sb.refl f2) (Sb.trans fs Sb.refl b2)⟩
          | ct e2 =>
            simp only [hb] at o'
            exact fun A2 H2 σ2 E2 f2 b2 => ⟨A2, e2, E2, f'.trans b' (fs.trans Sb.refl f2), Sb.trans f' b' (Sb.trans fs Sb.refl b2), OutOk.step o' (fs.trans Sb.refl f2) (Sb.trans fs Sb.refl b2)⟩
          | bk e2 =>
            simp only [hb] at o'
            exact fun A2 H2 σ2 E2 f2 b2 => o' A2 H2 σ2 E2 (fs.trans Sb.refl f2) (Sb.trans fs Sb.refl b2)
          | rt v => simp only [hb] at o'; exact o'
          | bad => simp only [hb] at o'; exact o'
    · have hdr : ds.drop i = [] := List.drop_eq_nil_of_le (by omega)
      rw [hdr] at o'
      exact .inl ⟨wk.stop i H' (gF rfl H' f') (by omega), o' A' H' σ' E' Fr.refl Sb.refl⟩
def whlF (c : En → Option Bool) (b : En → Out) : Nat → En → Out
  | 0, _ => .bad
  | n + 1, e => match c e with
    | none => .bad
    | some false => .nx e
    | some true => match b e with
      | .nx e2 => whlF c b n e2
      | .ct e2 => whlF c b n e2
      | .bk e2 => .nx e2
      | .rt v => .rt v
      | .bad => .bad
theorem while_run {c : En → Option Bool} {b : En → Out} {n : Nat} {D : Ends} (h : tS K (whlF c b n) D σ H) : tWhile (tT K c) (tS K b) D σ H := by
  obtain ⟨S0, H0, A, env, E, o⟩ := h
  refine ⟨fun m σ' H' => ∃ A' env', EnvOk K S0 H0 A' H' σ' env' ∧ Fr A H H' ∧ Sb A H A' ∧ OutOk K S0 H0 A' H' (whlF c b m env') D, ⟨n, A, env, E, Fr.refl, Sb.refl, o⟩, ?_⟩
  rintro m σ' H' ⟨A', env', E', f', b', o'⟩
  cases m with
  | zero => exact o'.elim
  | succ m =>
    simp only [whlF] at o'
    cases hc : c env' with
    | none => rw [hc] at o'; exact o'.elim
    | some k =>
      rw [hc] at o'
      refine ⟨S0, H0, A', env', k, E', hc, fun H2 s2 => ?_⟩
      have fs : Fr A' H' H2 := Fr.of_same s2
      cases k with
      | false => exact iteF (o' A' H2 σ' (E'.grow s2) fs Sb.refl)
      | true =>
        refine iteT ⟨fun σ3 H3 => ∃ A3 e3, EnvOk K S0 H0 A3 H3 σ3 e3 ∧ Fr A H H3 ∧ Sb A H A3 ∧ OutOk K S0 H0 A3 H3 (whlF c b m e3) D, ?_, S0, H0, A', env', E'.grow s2, ?_⟩
        · rintro σ3 H3 ⟨A3, e3, z⟩
          exact ⟨m, Nat.lt_succ_self m, A3, e3, z⟩
        · cases hb : b env' with
          | nx e2 =>
            simp only [hb] at o'
            exact fun A2 H3 σ2 E2 f2 b2 => ⟨A2, e2, E2, f'.trans b' (fs.trans Sb.refl f2), Sb.trans f' b' (Sb.trans fs Sb.refl b2), OutOk.step o' (fs.trans Sb.refl f2) (Sb.trans fs Sb.refl b2)⟩
          | ct e2 =>
            simp only [hb] at o'
            exact fun A2 H3 σ2 E2 f2 b2 => ⟨A2, e2, E2, f'.trans b' (fs.trans Sb.refl f2), Sb.trans f' b' (Sb.trans fs Sb.refl b2), OutOk.step o' (fs.trans Sb.refl f2) (Sb.trans fs Sb.refl b2)⟩
          | bk e2 =>
            simp only [hb] at o'
            exact fun A2 H3 σ2 E2 f2 b2 => o' A2 H3 σ2 E2 (fs.trans Sb.refl f2) (Sb.trans fs Sb.refl b2)
          | rt v => simp only [hb] at o'; exact o'
          | bad => simp only [hb] at o'; exact o'
variable {st : Stmt} {f : En → Option (List PyData)} {g : PyData → En → Option En} {b : En → Out} {vs : List Nat}
theorem cs_for {body : List Stmt} (hp : PassesOwn (model X.prog X.w) X.A X.env X.xe) (hc : X.calm = true) (hi : PI X tg iter (tI X.K true f)) (hg : PG X tg (tG X.K vs g)) (hb : PSs X body (tS X.K b)) (hs : ∀ x, foldedSetIterable iter X.env x = pure x := by intro _; rfl) :
    PS X (.For tg iter body [] pos) (tS X.K (sFor f g b)) := ps_w (ps_for hp hc hi hg hb hs) fun _ _ _ q => for_run q
theorem cs_while {body : List Stmt} {c : En → Option Bool} (n : Nat) (hp : PassesOwn (model X.prog X.w) X.A X.env X.xe) (hc : PT X e (tT X.K c)) (hb : PSs X body (tS X.K b)) : PS X (.While e body [] pos) (tS X.K (whlF c b n)) := ps_w (ps_while hp hc hb) fun _ _ _ q => while_run q
/-- a, b, .. = e -/
def sUnp (f : En → Option PyData) (g : PyData → En → Option En) : En → Out := fun env => match f env with
  | some d => match g d env with
    | some e => .nx e
    | none => .bad
  | none => .bad
theorem cs_unp {fe : En → Option PyData} (h : PS X st (tAsg (tE X.K true fe) (tG X.K vs g))) : PS X st (tS X.K (sUnp fe g)) := ps_w h fun D σ H ⟨S0, H0, A, env, E, o⟩ => by
  unfold sUnp at o
  cases hd : fe env with
  | none => rw [hd] at o; exact o.elim
  | some d =>
    simp only [hd] at o
    cases hg : g d env with
    | none => simp only [hg] at o; exact o.elim
    | some e =>
      simp only [hg] at o
      exact ⟨S0, H0, A, env, d, E, hd, fun v H1 s r => ⟨S0, H0, A, env, d, e, E.grow s, r.wide fun _ z => cl_sc z, hg, fun σ' E' _ => o A H1 σ' E' (Fr.of_same s) Sb.refl⟩⟩

/-! ### comprehensions -/
def wipeE : En → List Nat → En
  | env, [] => env
  | env, i :: is => (wipeE env is).set i .un
theorem EnvOk.un (E : EnvOk K S0 H0 A H σ env) (i : Nat) (o : Option V) : EnvOk K S0 H0 A H (σ.set i o) (env.set i .un) where
  len := by simp [E.len]
  sl := fun j s q => by
    rcases set_get q with ⟨rfl, l, rfl⟩ | ⟨n, q⟩
    · exact .inl rfl
    · rw [set_other n]
      exact E.sl j s q
  dis := fun j k s t a q1 q2 o1 o2 q3 q4 => by
    rcases set_get q1 with ⟨_, _, z⟩ | ⟨n1, q1⟩
    · subst z; cases o1
    rcases set_get q2 with ⟨_, _, z⟩ | ⟨n2, q2⟩
    · subst z; cases o2
    rw [set_other n1] at q3
    rw [set_other n2] at q4
    exact E.dis j k s t a q1 q2 o1 o2 q3 q4
  dm := fun j k rows t a c bs n q1 q2 o q3 q4 q5 => by
    rcases set_get q1 with ⟨_, _, z⟩ | ⟨n1, q1⟩
    · cases z
    rcases set_get q2 with ⟨_, _, z⟩ | ⟨n2, q2⟩
    · subst z; cases o
    rw [set_other n1] at q3
    rw [set_other n2] at q4
    exact E.dm j k rows t a c bs n q1 q2 o q3 q4 q5
  tr := E.tr
  nw := E.nw
  same := E.same
theorem EnvOk.wipe (E : EnvOk K S0 H0 A H σ env) : ∀ is : List Nat, EnvOk K S0 H0 A H (L2.wipe σ is) (wipeE env is)
  | [] => E
  | i :: is => EnvOk.un (EnvOk.wipe E is) i none
/-- a new thing that no slot keeps -/
theorem EnvOk.add (E : EnvOk K S0 H0 A H σ env) {u0 : HO} {p : Addr} (hs : Same H H1) (hn : H p = none) (hp : H1 p = some u0) (hm : isMut u0 = true := by rfl) : EnvOk K S0 H0 (fun a => A a ∨ a = p) H1 σ env where
  len := E.len
  sl := fun j s q => by
    refine (E.sl j s q).imp id fun ⟨v, h1, h2⟩ => ⟨v, h1, ?_⟩
    have hL : ∀ a ys, Cl S0 H0 A a → Rd H a (.lst ys) → Cl S0 H0 (fun a => A a ∨ a = p) a ∧ Rd H1 a (.lst ys) := fun a ys z r => ⟨⟨z.1, fun y => by
      rcases y with y | y
      · exact z.2 y
      · subst y
        rcases r with r | ⟨o, r⟩ <;> (rw [hn] at r; cases r)⟩, same_rd hs r⟩
    exact SlOk.mono hL (fun _ _ z => same_t hs z) (same_d hs) (fun a u ha hu _ => ⟨.inl ha, hs _ _ hu⟩) h2
  dis := E.dis
  dm := fun _ _ _ _ _ _ _ n h1 h2 o h3 h4 h5 => E.dm2 n h1 h2 o h3 h4 h5 (fun _ q => hs _ _ q) fun _ _ _ q => hs _ _ q
  tr := fun a h => by
    rcases h with h | rfl
    · obtain ⟨u, q, m⟩ := E.tr a h
      exact ⟨u, hs _ _ q, m⟩
    · exact ⟨u0, hp, hm⟩
  nw := fun a h => by
    rcases h with h | rfl
    · exact E.nw a h
    · exact E.same.free hn
  same := E.same.trans hs
def compF (g : PyData → En → Option En) (ga : En → Option Bool) (fe : En → Option PyData) (env : En) : List PyData → Option (List PyData)
  | [] => some []
  | d :: ds => match g d env with
    | none => none
    | some e1 => match ga e1 with
      | none => none
      | some false => compF g ga fe env ds
      | some true => match fe e1 with
        | none => none
        | some v => match compF g ga fe env ds with
          | none => none
          | some vs => some (v :: vs)
def fCmp (is : List Nat) (f : En → Option (List PyData)) (g : PyData → En → Option En) (ga : En → Option Bool) (fe : En → Option PyData) : En → Option (List PyData) := fun env => match f env with
  | none => none
  | some ds => match compF g ga fe (wipeE env is) ds with
    | none => none
    | some vs => if vs.length ≤ 1000000 then some vs else none
def tYes' : En → Option Bool := fun _ => some true
theorem yes_run {Q : Bool → Hp → Prop} (h : tT K tYes' σ H Q) : tYes σ H Q := by
  obtain ⟨S0, H0, A, env, b, E, hb, q⟩ := h
  cases hb
  exact q H (Same.refl H)
theorem upd_monoD {S : Addr → Prop} {p : Addr} {u0 u1 : HO} (hp : H p = some u0) (hm : isMut u0 = true) : (∀ a zs, (S a ∧ a ≠ p) → Rd H a (.lst zs) → (S a ∧ a ≠ p) ∧ Rd (upd H p u1) a (.lst zs)) ∧ (∀ a zs, H a = some (.tup zs) → upd H p u1 a = some (.tup zs)) ∧ ∀ a u, fz u = true → H a = some u → upd H p u1 a = some u := by
  have nf : ∀ a u, fz u = true → H a = some u → a ≠ p := fun a u z r e => by rw [e, hp] at r; cases r; exact fz_mut z hm
  refine ⟨fun a zs z r => ⟨z, ?_⟩, fun a zs r => by rw [upd_ne (fun e => by rw [e, hp] at r; cases r; cases hm)]; exact r, fun a u z r => by rw [upd_ne (nf _ _ z r)]; exact r⟩
  rcases r with r | ⟨o, r⟩
  · exact .inl (by rw [upd_ne z.2]; exact r)
  · exact .inr ⟨o, by rw [upd_ne z.2]; exact r⟩
theorem RpA.updD {S : Addr → Prop} {p : Addr} {xs ys : List V} {ds : List PyData} {vs : List V} (h : RpA K (fun a => S a ∧ a ≠ p) H ds vs) (hp : H p = some (.lst xs)) : RpA K (fun a => S a ∧ a ≠ p) (upd H p (.lst ys)) ds vs := by
  obtain ⟨h1, h2, h3⟩ := upd_monoD (S := S) (u1 := .lst ys) hp rfl
  exact RpA.mono h1 h2 h3 ds vs h
theorem lc_run {c c2 : Bool} {ga : En → Option Bool} {fe : En → Option PyData} {is : List Nat} {tt : TT} {Q : VK} (ht : ∀ σ H Q, tT K ga σ H Q → tt σ H Q) (h : tF K c2 (fCmp is f g ga fe) σ H Q) : tLc (tI K c f) (tG K is g) tt (tE K true fe) is σ H Q := by
  obtain ⟨S0, H0, A, env, res, E, hf, q⟩ := h
  unfold fCmp at hf
  cases hd : f env with
  | none => rw [hd] at hf; cases hf
  | some ds =>
    simp only [hd] at hf
    cases hc : compF g ga fe (wipeE env is) ds with
    | none => simp only [hc] at hf; cases hf
    | some vs =>
      simp only [hc] at hf
      split at hf
      · rename_i hlen
        cases hf
        refine ⟨S0, H0, A, env, ds, E, hd, fun J H1 G s gS _ wk D hD => ?_⟩
        have E1 := E.grow s
        refine ⟨fun i m H2 => m = ds.length - i ∧ i ≤ ds.length ∧ Same H1 H2 ∧ ∃ acc accD rest, H2 D = some (.lst acc) ∧ RpA K (fun a => Cl S0 H0 A a ∧ a ≠ D) H2 accD acc ∧ compF g ga fe (wipeE env is) (ds.drop i) = some rest ∧ accD ++ rest = res,
          ⟨_, rfl, Nat.zero_le _, same_new hD, [], [], res, upd_same, RpA.nil, hc, rfl⟩, ?_⟩
        rintro i m H2 ⟨rfl, hi, s2, acc, accD, rest, hacc, racc, hrest, hres⟩
        by_cases hlt : i < ds.length
        · have hdr : ds.drop i = ds[i] :: ds.drop (i + 1) := List.drop_eq_getElem_cons hlt
          rw [hdr] at hrest
          refine .inr ⟨wk.go i H2 (gS H2 s2) hlt, fun H3 => Same H1 H3 ∧ ∃ acc accD rest, H3 D = some (.lst acc) ∧ RpA K (fun a => Cl S0 H0 A a ∧ a ≠ D) H3 accD acc ∧ compF g ga fe (wipeE env is) (ds.drop (i + 1)) = some rest ∧ accD ++ rest = res, ?_, fun x Hx y => ?_⟩
          · rintro H3 ⟨s3, z⟩
            exact ⟨ds.length - (i + 1), by omega, rfl, hlt, s3, z⟩
          · obtain ⟨sx, rx⟩ := wk.yld i H2 _ x Hx (gS H2 s2) (List.getElem?_eq_getElem hlt) y
            have E2 : EnvOk K S0 H0 (fun a => A a ∨ a = D) Hx (L2.wipe σ is) (wipeE env is) := (E1.wipe is).add (s2.trans sx) hD (sx _ _ hacc)
            have rx' : Rp K (Cl S0 H0 (fun a => A a ∨ a = D)) Hx ds[i] x := rx.wide fun a z => ⟨z.1.1, fun y => by
              rcases y with k | k
              · exact z.1.2 k
              · exact z.2 (by rw [k]; exact hD)⟩
            simp only [compF] at hrest
            cases hg : g ds[i] (wipeE env is) with
            | none => rw [hg] at hrest; cases hrest
            | some e1 =>
              simp only [hg] at hrest
              refine ⟨S0, H0, _, _, _, e1, E2, rx', hg, fun σ2 E3 w3 => ⟨by rw [w3, wipe_wipe], ht _ _ _ ?_⟩⟩
              cases hga : ga e1 with
              | none => simp only [hga] at hrest; cases hrest
              | some k =>
                refine ⟨S0, H0, _, e1, k, E3, hga, fun H3 s3 => ?_⟩
                cases k with
                | false =>
                  simp only [hga] at hrest
                  exact iteF ⟨(s2.trans sx).trans s3, acc, accD, rest, s3 _ _ (sx _ _ hacc), (racc.grow sx).grow s3, hrest, hres⟩
                | true =>
                  simp only [hga] at hrest
                  cases hfe : fe e1 with
                  | none => simp only [hfe] at hrest; cases hrest
                  | some v =>
                    simp only [hfe] at hrest
                    cases hr2 : compF g ga fe (wipeE env is) (ds.drop (i + 1)) with
                    | none => simp only [hr2] at hrest; cases hrest
                    | some rest2 =>
                      simp only [hr2] at hrest
                      cases hrest
                      refine iteT ⟨S0, H0, _, e1, v, E3.grow s3, hfe, fun y H4 s4 r4 => ?_⟩
                      have h4 := s4 _ _ (s3 _ _ (sx _ _ hacc))
                      have r4' : Rp K (fun a => Cl S0 H0 A a ∧ a ≠ D) H4 v y := r4.wide fun a z => ⟨⟨(cl_sc z).1, fun k => (cl_sc z).2 (.inl k)⟩, fun k => (cl_sc z).2 (.inr k)⟩
                      have al : acc.length < sizeLine := by
                        rw [racc.length]
                        have : accD.length < res.length := by rw [← hres]; simp
                        exact Nat.lt_of_lt_of_le this (sz6 hlen)
                      refine ⟨acc, h4, al, fun b u e => ?_, acc ++ [y], accD ++ [v], rest2, upd_same, ?_, rfl, by rw [← hres]; simp⟩
                      · rw [upd_ne (ne_of_none e hD)]
                        exact s4 _ _ (s3 _ _ (sx _ _ (s2 _ _ e)))
                      · exact RpA.updD ((((racc.grow sx).grow s3).grow s4).append (RpA.cons r4' RpA.nil)) h4
        · have hdr : ds.drop i = [] := List.drop_eq_nil_of_le (by omega)
          rw [hdr] at hrest
          cases hrest
          rw [List.append_nil] at hres
          subst hres
          exact .inl ⟨wk.stop i H2 (gS H2 s2) (by omega), q D acc H2 (s.free hD) (s.trans s2) hacc (racc.wide fun a z => ⟨fun _ => z.1, z.2⟩)⟩
      · cases hf
theorem cf_lc {c c2 : Bool} {ga : En → Option Bool} {fe : En → Option PyData} {is : List Nat} (h : PE X e (tLc (tI X.K c f) (tG X.K is g) (tT X.K ga) (tE X.K true fe) is)) : PE X e (tF X.K c2 (fCmp is f g ga fe)) := pe_w h fun _ _ _ q => lc_run (fun _ _ _ z => z) q
theorem cf_lc1 {c c2 : Bool} {fe : En → Option PyData} {is : List Nat} (h : PE X e (tLc (tI X.K c f) (tG X.K is g) tYes (tE X.K true fe) is)) : PE X e (tF X.K c2 (fCmp is f g tYes' fe)) := pe_w h fun _ _ _ q => lc_run (fun _ _ _ z => yes_run z) q
theorem cs_lcO {i : Nat} {c : Bool} {ga : En → Option Bool} {fe : En → Option PyData} {is : List Nat} (h : PS X st (tAsg (tLc (tI X.K c f) (tG X.K is g) (tT X.K ga) (tE X.K true fe) is) (gName i))) : PS X st (tS X.K (sOwn i (fCmp is f g ga fe))) :=
  ps_w h fun D σ H q => lc_run (c2 := true) (fun _ _ _ z => z) (own_run q)
theorem cs_lcO1 {i : Nat} {c : Bool} {fe : En → Option PyData} {is : List Nat} (h : PS X st (tAsg (tLc (tI X.K c f) (tG X.K is g) tYes (tE X.K true fe) is) (gName i))) : PS X st (tS X.K (sOwn i (fCmp is f g tYes' fe))) :=
  ps_w h fun D σ H q => lc_run (c2 := true) (fun _ _ _ z => yes_run z) (own_run q)
end
end Mir

namespace Mir
open PySem PySem.Spec PyProof.Rows L2

/-! ### a def -/
def spF (K : PySem.W.Frag) (g : List PyData → Option PyData) : Sp := fun vs H Q _ => ∃ S ds d, RpA K S H ds vs ∧ g ds = some d ∧ ∀ v H', Same H H' → Rp K (Bd S H) H' d v → Q v H'
def env0 (nN : Nat) (ds : List PyData) : En := ds.map .val ++ List.replicate (nN - ds.length) .un
def outD : Out → Option PyData
  | .rt d => some d
  | .nx _ => some .none
  | _ => none
def gDef (np nN : Nat) (fB : En → Out) : List PyData → Option PyData := fun ds => if ds.length = np then outD (fB (env0 nN ds)) else none
section
variable {K : PySem.W.Frag}
theorem env0_nomat {nN : Nat} {ds : List PyData} {i : Nat} {rows : List (List PyData)} (h : (env0 nN ds)[i]? = some (.mat rows)) : False := by
  unfold env0 at h
  rcases List.mem_append.mp (List.mem_of_getElem? h) with h | h
  · obtain ⟨d, _, e⟩ := List.mem_map.mp h
    cases e
  · cases List.eq_of_mem_replicate h
theorem def_run {N : List Str} {np : Nat} {fB : En → Out} {vs : List V} {H : Hp} {Q : VK} {E : XK} (h : spF K (gDef np N.length fB) vs H Q E) : tS K fB { nx := fun _ H' => Q .non H', rt := Q } (L2.start N vs) H := by
  obtain ⟨S, ds, d, r, hg, q⟩ := h
  unfold gDef at hg
  split at hg
  · refine ⟨S, H, fun _ => False, env0 N.length ds, ⟨?_, fun i s e => ?_, fun i j es fs a e1 _ o1 => ?_, fun _ _ _ _ _ _ _ _ h1 _ _ _ _ _ => (env0_nomat h1).elim, fun _ z => z.elim, fun _ z => z.elim, Same.refl H⟩, ?_⟩
    · simp [L2.start, env0, r.length]
    · unfold env0 at e
      by_cases hi : i < ds.length
      · rw [List.getElem?_append_left (by simpa using hi), List.getElem?_map, List.getElem?_eq_getElem hi] at e
        cases e
        obtain ⟨v, e1, e2⟩ := r.get (List.getElem?_eq_getElem hi)
        refine .inr ⟨v, ?_, e2.wide fun a z => ⟨.inl z, fun y => y⟩⟩
        unfold L2.start
        rw [List.getElem?_append_left (by simpa [r.length] using hi), List.getElem?_map, e1]
        rfl
      · rw [List.getElem?_append_right (by simpa using Nat.le_of_not_lt hi)] at e
        exact .inl (List.eq_of_mem_replicate (List.mem_of_getElem? e))
    · exfalso
      unfold env0 at e1
      by_cases hi : i < ds.length
      · rw [List.getElem?_append_left (by simpa using hi), List.getElem?_map, List.getElem?_eq_getElem hi] at e1
        cases e1
        cases o1
      · rw [List.getElem?_append_right (by simpa using Nat.le_of_not_lt hi)] at e1
        cases (List.eq_of_mem_replicate (List.mem_of_getElem? e1))
        cases o1
    · cases ho : fB (env0 N.length ds) with
      | rt v =>
        rw [ho] at hg
        cases hg
        exact q
      | nx e =>
        rw [ho] at hg
        cases hg
        exact fun A' H' σ' E' _ _ => q _ H' E'.same (by rw [Rp])
      | bk e => rw [ho] at hg; cases hg
      | ct e => rw [ho] at hg; cases hg
      | bad => rw [ho] at hg; cases hg
  · cases hg
variable {P : Program} {w : World} {mg : Str → Option Value} {base : Heap}
theorem fn_ok {x qual : Str} {st : Stmt} {f : Addr} {fd : FuncData} {N ps : List Str} {k np nN : Nat} {fB : En → Out} {g : List PyData → Option PyData} (F : Fun K x qual st f fd) (S : FnScope N ps (defScope st)) (hp : np = ps.length) (hN : nN = N.length) (hg : g = gDef np nN fB)
    (hb : ∀ (cdv : Value) (A : Around) (outer : List Env) (s : Shared) (H : Hp) (E : XK), Room k (A.deeper (envOfC qual (defScope st) s.heap.objs.size f cdv)) → PSs (cxOf CX0 P w K mg base N qual (defScope st) f cdv A outer s H E).nox (defBody st) (tS K fB)) :
    FnOk P w K mg base CX0 (k + 1) f fd ps (spF K g) := by
  subst hp hN hg
  refine F.ok S (fun vs H Q E h => ?_) fun cdv A outer s H vs Q E hr h => ⟨_, hb cdv A outer s H E hr, def_run h⟩
  obtain ⟨S', ds, d, r, hg, _⟩ := h
  unfold gDef at hg
  split at hg
  · rw [r.length]; assumption
  · cases hg
theorem fn_imp {k : Nat} {f : Addr} {fd : FuncData} {ps : List Str} {g g' : List PyData → Option PyData} (F : FnOk P w K mg base CX0 k f fd ps (spF K g)) (h : ∀ ds d, g' ds = some d → g ds = some d) : FnOk P w K mg base CX0 k f fd ps (spF K g') :=
  F.imp fun vs H Q E ⟨S, ds, d, r, hg, q⟩ => ⟨S, ds, d, r, h ds d hg, q⟩
end

/-! ### calls -/
def eCall (g : List PyData → Option PyData) (fa : En → Option (List PyData)) : En → Option PyData := fun env => match fa env with
  | some ds => g ds
  | none => none
section
variable {X : Cx} {a b e : Expr} {es : List Expr} {pos p : Pos} {x : Str} {c c1 c2 : Bool} {f g : En → Option PyData} {fa : En → Option (List PyData)} {fb : En → Option Bool}
theorem bd_sc {K : PySem.W.Frag} {S0 A : Addr → Prop} {H0 H : Hp} {σ : L2.St} {env : En} (E : EnvOk K S0 H0 A H σ env) {c : Bool} {a : Addr} (h : Bd (Cl S0 H0 A) H a) : SC c S0 H0 A a := fun _ => by
  rcases h with h | h
  · exact h
  · exact cl_new E h
theorem call_run {K : PySem.W.Frag} {σ : L2.St} {H : Hp} {Q : VK} {E : XK} {gd : List PyData → Option PyData} (h : tE K c (eCall gd fa) σ H Q) : tCall (spF K gd) [] E (tA K true fa) σ H Q := by
  obtain ⟨S0, H0, A, env, d, En, hf, q⟩ := h
  unfold eCall at hf
  cases hd : fa env with
  | none => rw [hd] at hf; cases hf
  | some ds =>
    simp only [hd] at hf
    refine ⟨S0, H0, A, env, ds, En, hd, fun vs H1 s r => ?_⟩
    show spF K gd (vs ++ []) H1 Q E
    rw [List.append_nil]
    exact ⟨Cl S0 H0 A, ds, d, r.wide fun _ z => cl_sc z, hf, fun v H2 s2 r2 => q v H2 (s.trans s2) (r2.wide fun _ z => bd_sc (En.grow s) z)⟩
theorem callB_run {K : PySem.W.Frag} {σ : L2.St} {H : Hp} {Q : VK} {E : XK} {gd : List PyData → Option PyData} (h : tE K c (eN (eCall gd fa)) σ H Q) : tCall (spF K gd) [] E (tA K false fa) σ H Q := by
  obtain ⟨S0, H0, A, env, d, En, hf, q⟩ := h
  unfold eN at hf
  cases hc : eCall gd fa env with
  | none => rw [hc] at hf; cases hf
  | some d' =>
    rw [hc] at hf
    have hf' : (if noL d' = true then some d' else none) = some d := hf
    by_cases n : noL d' = true
    · rw [if_pos n] at hf'
      cases hf'
      unfold eCall at hc
      cases hd : fa env with
      | none => rw [hd] at hc; cases hc
      | some ds =>
        simp only [hd] at hc
        refine ⟨S0, H0, A, env, ds, En, hd, fun vs H1 s r => ?_⟩
        show spF K gd (vs ++ []) H1 Q E
        rw [List.append_nil]
        exact ⟨_, ds, d, r, hc, fun v H2 s2 r2 => q v H2 (s.trans s2) (Rp.noL d v n r2)⟩
    · rw [if_neg n] at hf'; cases hf'
variable {E : XK} {gd : List PyData → Option PyData}
theorem ce_call (h : PE X e (tCall (spF X.K gd) [] E (tA X.K true fa))) : PE X e (tE X.K c (eCall gd fa)) := pe_w h fun _ _ _ q => call_run q
theorem ce_callB (h : PE X e (tCall (spF X.K gd) [] E (tA X.K false fa))) : PE X e (tE X.K c (eN (eCall gd fa))) := pe_w h fun _ _ _ q => callB_run q
theorem ce_call0 (h : PE X e (tCall (spF X.K gd) [] E tNil)) : PE X e (tE X.K c (eCall gd aNil)) := pe_w h fun σ H Q q => by
  obtain ⟨S0, H0, A, env, ds, En, hd, q⟩ := call_run (E := E) q
  cases hd
  exact q [] H (Same.refl H) RpA.nil

/-! ### built-ins called -/
def CROk (K : PySem.W.Frag) (sc : Bool) (r : List V → Hp → VK → Prop) (h : List PyData → Option PyData) : Prop := ∀ (S S' : Addr → Prop) (H : Hp) (vs : List V) (ds : List PyData) (d : PyData) (Q : VK), (∀ p, H p = none → S p) → (sc = true ∨ S' = S) → RpA K S H ds vs → h ds = some d →
  (∀ v H', Same H H' → Rp K S' H' d v → Q v H') → r vs H Q
theorem cb_run {K : PySem.W.Frag} {sc : Bool} {r : List V → Hp → VK → Prop} {h : List PyData → Option PyData} (R : CROk K sc r h) (hc : sc = true ∨ c2 = c1) {σ : L2.St} {H : Hp} {Q : VK} (q : tE K c2 (eCall h fa) σ H Q) : tCB r (tA K c1 fa) σ H Q := by
  obtain ⟨S0, H0, A, env, d, E, hf, q⟩ := q
  unfold eCall at hf
  cases hd : fa env with
  | none => rw [hd] at hf; cases hf
  | some ds =>
    simp only [hd] at hf
    exact ⟨S0, H0, A, env, ds, E, hd, fun vs H1 s1 r1 => R (SC c1 S0 H0 A) (SC c2 S0 H0 A) H1 vs ds d Q (fun p hp => sc_new (E.grow s1) hp) (hc.imp id fun z => by rw [z]) r1 hf fun v H2 s2 r2 => q v H2 (s1.trans s2) r2⟩
theorem ce_cb {sc : Bool} {r : List V → Hp → VK → Prop} {h : List PyData → Option PyData} (R : CROk X.K sc r h) (he : PE X e (tCB r (tA X.K c1 fa))) (hc : sc = true ∨ c2 = c1 := by first | exact .inl rfl | exact .inr rfl) : PE X e (tE X.K c2 (eCall h fa)) := pe_w he fun _ _ _ q => cb_run R hc q
theorem rp1 {K : PySem.W.Frag} {S : Addr → Prop} {H : Hp} {i : Int} : Rp K S H (.int i) (.int i) := by rw [Rp]
theorem rpb {K : PySem.W.Frag} {S : Addr → Prop} {H : Hp} {i : Bool} : Rp K S H (.bool i) (.bl i) := by rw [Rp]
theorem rps {K : PySem.W.Frag} {S : Addr → Prop} {H : Hp} {i : Str} : Rp K S H (.str i) (.str i) := by rw [Rp]
def lenA : List PyData → Option PyData
  | [.list ds] => some (.int ds.length)
  | [.tuple ds] => some (.int ds.length)
  | [.str x] => if x.length ≤ 1000000 then some (.int x.length) else none
  | _ => none
theorem cr_len {K : PySem.W.Frag} : CROk K true (fun xs H Q => ∃ x n, xs = [x] ∧ LenV K x H n ∧ Q (.int n) H) lenA := by
  intro S S' H vs ds d Q _ _ r h q
  unfold lenA at h
  split at h
  · cases h
    replace r := r.one
    obtain ⟨v, rfl, r⟩ := r
    rw [Rp] at r
    obtain ⟨a, xs, rfl, hs, ra⟩ := r
    exact ⟨_, _, rfl, .inl ⟨xs, hs.sq, rfl⟩, q _ H (Same.refl H) (by rw [ra.length]; exact rp1)⟩
  · cases h
    replace r := r.one
    obtain ⟨v, rfl, r⟩ := r
    rw [Rp] at r
    obtain ⟨a, xs, rfl, hs, ra⟩ := r
    exact ⟨_, _, rfl, .inr ⟨xs, live_t hs, rfl⟩, q _ H (Same.refl H) (by rw [ra.length]; exact rp1)⟩
  · split at h
    · rename_i hl
      cases h
      replace r := r.one
      obtain ⟨v, rfl, r⟩ := r
      rw [Rp] at r
      subst r
      exact ⟨_, _, rfl, ⟨sz6 hl, rfl⟩, q _ H (Same.refl H) rp1⟩
    · cases h
  · cases h
def intA : List PyData → Option PyData
  | [.int i] => some (.int i)
  | [.bool k] => some (.int (if k then 1 else 0))
  | _ => none
theorem cr_int {K : PySem.W.Frag} : CROk K true (fun xs H Q => (∃ i, xs = [.int i] ∧ Q (.int i) H) ∨ ∃ k, xs = [.bl k] ∧ Q (.int (if k then 1 else 0)) H) intA := by
  intro S S' H vs ds d Q _ _ r h q
  unfold intA at h
  split at h
  · cases h
    replace r := r.one
    obtain ⟨v, rfl, r⟩ := r
    rw [Rp] at r
    subst r
    exact .inl ⟨_, rfl, q _ H (Same.refl H) rp1⟩
  · cases h
    replace r := r.one
    obtain ⟨v, rfl, r⟩ := r
    rw [Rp] at r
    subst r
    exact .inr ⟨_, rfl, q _ H (Same.refl H) rp1⟩
  · cases h
def tupA : List PyData → Option PyData
  | [.list ds] => some (.tuple ds)
  | [.tuple ds] => some (.tuple ds)
  | _ => none
theorem cr_tup {K : PySem.W.Frag} : CROk K false (fun xs H Q => ∃ p ys, xs = [.ref p] ∧ ((SqL K H p ys ∧ ∀ l, H l = none → Q (.ref l) (upd H l (.tup ys))) ∨ (SqT K H p ys ∧ Q (.ref p) H))) tupA := by
  intro S S' H vs ds d Q hn hS r h q
  have hS' : S' = S := hS.elim (fun z => nomatch z) id
  subst hS'
  unfold tupA at h
  split at h
  · cases h
    replace r := r.one
    obtain ⟨v, rfl, r⟩ := r
    rw [Rp] at r
    obtain ⟨a, xs, rfl, hs, ra⟩ := r
    refine ⟨a, xs, rfl, .inl ⟨hs.sq, fun l hl => q _ _ (same_new hl) ?_⟩⟩
    rw [Rp]
    exact ⟨l, xs, rfl, upd_same, ra.grow (same_new hl)⟩
  · cases h
    replace r := r.one
    obtain ⟨v, rfl, r⟩ := r
    have r' := r
    rw [Rp] at r
    obtain ⟨a, xs, rfl, hs, ra⟩ := r
    exact ⟨a, xs, rfl, .inr ⟨live_t hs, q _ H (Same.refl H) r'⟩⟩
  · cases h
/-- tuple(x), x owned: its items are clean -/
def eTupO (i : Nat) : En → Option PyData := fun env => match env[i]? with
  | some (.own ds) => some (.tuple ds)
  | _ => none
theorem ce_tupO {i : Nat} (h : PE X e (tCB (fun xs H Q => ∃ p ys, xs = [.ref p] ∧ ((SqL X.K H p ys ∧ ∀ l, H l = none → Q (.ref l) (upd H l (.tup ys))) ∨ (SqT X.K H p ys ∧ Q (.ref p) H))) (tCons (tVar i) tNil))) : PE X e (tE X.K true (eTupO i)) := pe_w h fun σ H Q ⟨S0, H0, A, env, d, E, hf, q⟩ => by
  unfold eTupO at hf
  split at hf
  · rename_i ds hi
    cases hf
    rcases E.sl i _ hi with z | ⟨v, h1, a, xs, rfl, ha, hh, r⟩
    · cases z
    refine ⟨_, h1, a, xs, rfl, .inl ⟨.inl (.inl hh), fun l hl => q _ _ (same_new hl) ?_⟩⟩
    rw [Rp]
    exact ⟨l, xs, rfl, upd_same, (r.wide fun _ z => sc_cl z).grow (same_new hl)⟩
  · cases hf
/-- list(x): a fresh one -/
def fList (f : En → Option PyData) : En → Option (List PyData) := fun env => match f env with
  | some (.list ds) => some ds
  | some (.tuple ds) => some ds
  | _ => none
theorem cf_list (h : PE X e (tCB (fun xs H Q => ∃ p ys, xs = [.ref p] ∧ (SqL X.K H p ys ∨ SqT X.K H p ys) ∧ ∀ l, H l = none → Q (.ref l) (upd H l (.lst ys))) (tCons (tE X.K true f) tNil))) : PE X e (tF X.K c (fList f)) := pe_w h fun σ H Q ⟨S0, H0, A, env, d, E, hf, q⟩ => by
  unfold fList at hf
  split at hf
  · rename_i ds hd
    cases hf
    refine ⟨S0, H0, A, env, _, E, hd, fun v H1 s r => ?_⟩
    rw [Rp] at r
    obtain ⟨a, xs, rfl, hs, ra⟩ := r
    exact ⟨a, xs, rfl, .inl hs.sq, fun l hl => q l xs _ (s.free hl) (s.trans (same_new hl)) upd_same ((ra.wide fun _ z => sc_cl (cl_sc z)).apart hl (same_new hl))⟩
  · rename_i ds hd
    cases hf
    refine ⟨S0, H0, A, env, _, E, hd, fun v H1 s r => ?_⟩
    rw [Rp] at r
    obtain ⟨a, xs, rfl, hs, ra⟩ := r
    exact ⟨a, xs, rfl, .inr (live_t hs), fun l hl => q l xs _ (s.free hl) (s.trans (same_new hl)) upd_same ((ra.wide fun _ z => sc_cl (cl_sc z)).apart hl (same_new hl))⟩
  · cases hf
/-! max, min -/
def intsD : List PyData → Option (List Int)
  | [] => some []
  | .int i :: ds => match intsD ds with
    | some ns => some (i :: ns)
    | none => none
  | _ :: _ => none
theorem intsD_rp {K : PySem.W.Frag} {S : Addr → Prop} {H : Hp} : ∀ {ds : List PyData} {ns : List Int} {xs : List V}, intsD ds = some ns → RpA K S H ds xs → xs = ns.map V.int ∧ ds = ns.map PyData.int
  | [], ns, xs, h, r => by
    rw [RpA] at r
    cases h
    exact ⟨r, rfl⟩
  | .int i :: ds, ns, xs, h, r => by
    rw [RpA] at r
    obtain ⟨v, r', rfl, h1, h2⟩ := r
    rw [Rp] at h1
    simp only [intsD] at h
    split at h
    · rename_i ms hm
      cases h
      obtain ⟨e1, e2⟩ := intsD_rp hm h2
      subst h1
      exact ⟨by rw [e1]; rfl, by rw [e2]; rfl⟩
    · cases h
  | .none :: _, _, _, h, _ => by cases h
  | .bool _ :: _, _, _, h, _ => by cases h
  | .str _ :: _, _, _, h, _ => by cases h
  | .list _ :: _, _, _, h, _ => by cases h
  | .tuple _ :: _, _, _, h, _ => by cases h
  | .dict _ :: _, _, _, h, _ => by cases h
def mxI : Int → List Int → Int
  | m, [] => m
  | m, x :: xs => mxI (if x > m then x else m) xs
def mnI : Int → List Int → Int
  | m, [] => m
  | m, x :: xs => mnI (if x < m then x else m) xs
theorem mxI_spec : ∀ (xs : List Int) (m : Int), mxI m xs ∈ m :: xs ∧ ∀ y ∈ m :: xs, y ≤ mxI m xs
  | [], m => ⟨List.mem_cons_self, fun y h => by simp at h; rw [h]; exact Int.le_refl _⟩
  | x :: xs, m => by
    obtain ⟨h1, h2⟩ := mxI_spec xs (if x > m then x else m)
    refine ⟨?_, fun y h => ?_⟩
    · show mxI (if x > m then x else m) xs ∈ _
      rcases List.mem_cons.mp h1 with h | h
      · rw [h]
        split <;> simp
      · exact List.mem_cons_of_mem _ (List.mem_cons_of_mem _ h)
    · show y ≤ mxI (if x > m then x else m) xs
      have h3 := h2 (if x > m then x else m) List.mem_cons_self
      rcases List.mem_cons.mp h with h | h
      · subst h
        split at h3 <;> (split <;> omega)
      · rcases List.mem_cons.mp h with h | h
        · subst h
          split at h3 <;> (split <;> omega)
        · exact h2 y (List.mem_cons_of_mem _ h)
theorem mnI_spec : ∀ (xs : List Int) (m : Int), mnI m xs ∈ m :: xs ∧ ∀ y ∈ m :: xs, mnI m xs ≤ y
  | [], m => ⟨List.mem_cons_self, fun y h => by simp at h; rw [h]; exact Int.le_refl _⟩
  | x :: xs, m => by
    obtain ⟨h1, h2⟩ := mnI_spec xs (if x < m then x else m)
    refine ⟨?_, fun y h => ?_⟩
    · show mnI (if x < m then x else m) xs ∈ _
      rcases List.mem_cons.mp h1 with h | h
      · rw [h]
        split <;> simp
      · exact List.mem_cons_of_mem _ (List.mem_cons_of_mem _ h)
    · show mnI (if x < m then x else m) xs ≤ y
      have h3 := h2 (if x < m then x else m) List.mem_cons_self
      rcases List.mem_cons.mp h with h | h
      · subst h
        split at h3 <;> (split <;> omega)
      · rcases List.mem_cons.mp h with h | h
        · subst h
          split at h3 <;> (split <;> omega)
        · exact h2 y (List.mem_cons_of_mem _ h)
def mx1 (k : Int → List Int → Int) : List PyData → Option PyData
  | [.list ds] => match intsD ds with
    | some (n :: ns) => some (.int (k n ns))
    | _ => none
  | _ => none
theorem cr_mx {K : PySem.W.Frag} : CROk K true (rMax K) (mx1 mxI) := by
  intro S S' H vs ds d Q _ _ r h q
  unfold mx1 at h
  split at h
  · replace r := r.one
    obtain ⟨v, rfl, r⟩ := r
    rw [Rp] at r
    obtain ⟨a, xs, rfl, hs, ra⟩ := r
    split at h
    · rename_i n ns hi
      cases h
      obtain ⟨e1, _⟩ := intsD_rp hi ra
      subst e1
      refine ⟨a, n :: ns, rfl, hs.sq, Nat.zero_lt_succ _, fun m hm hy => ?_⟩
      obtain ⟨k1, k2⟩ := mxI_spec ns n
      have e : m = mxI n ns := Int.le_antisymm (k2 m hm) (hy _ k1)
      rw [e]
      exact q _ H (Same.refl H) rp1
    · cases h
  · cases h
theorem cr_mn {K : PySem.W.Frag} : CROk K true (rMin K) (mx1 mnI) := by
  intro S S' H vs ds d Q _ _ r h q
  unfold mx1 at h
  split at h
  · replace r := r.one
    obtain ⟨v, rfl, r⟩ := r
    rw [Rp] at r
    obtain ⟨a, xs, rfl, hs, ra⟩ := r
    split at h
    · rename_i n ns hi
      cases h
      obtain ⟨e1, _⟩ := intsD_rp hi ra
      subst e1
      refine ⟨a, n :: ns, rfl, hs.sq, Nat.zero_lt_succ _, fun m hm hy => ?_⟩
      obtain ⟨k1, k2⟩ := mnI_spec ns n
      have e : m = mnI n ns := Int.le_antisymm (hy _ k1) (k2 m hm)
      rw [e]
      exact q _ H (Same.refl H) rp1
    · cases h
  · cases h
def mx2 : List PyData → Option PyData
  | [.int i, .int j] => some (.int (if j > i then j else i))
  | _ => none
def mn2 : List PyData → Option PyData
  | [.int i, .int j] => some (.int (if j < i then j else i))
  | _ => none
theorem cr_mx2 {K : PySem.W.Frag} : CROk K true (fun xs H Q => ∃ i j, xs = [.int i, .int j] ∧ Q (.int (if j > i then j else i)) H) mx2 := by
  intro S S' H vs ds d Q _ _ r h q
  unfold mx2 at h
  split at h
  · cases h
    obtain ⟨v, u, rfl, r1, r2⟩ := r.two
    rw [Rp] at r1 r2
    subst r1 r2
    exact ⟨_, _, rfl, q _ H (Same.refl H) rp1⟩
  · cases h
theorem cr_mn2 {K : PySem.W.Frag} : CROk K true (fun xs H Q => ∃ i j, xs = [.int i, .int j] ∧ Q (.int (if j < i then j else i)) H) mn2 := by
  intro S S' H vs ds d Q _ _ r h q
  unfold mn2 at h
  split at h
  · cases h
    obtain ⟨v, u, rfl, r1, r2⟩ := r.two
    rw [Rp] at r1 r2
    subst r1 r2
    exact ⟨_, _, rfl, q _ H (Same.refl H) rp1⟩
  · cases h
/-- max(xs, default=d), min likewise: ints -/
def rMxD (K : PySem.W.Frag) (k : Int → List Int → Int) : List V → List V → Hp → VK → Prop := fun vs zs H Q => ∃ a ns y, vs = [.ref a] ∧ zs = [y] ∧ SqL K H a (ns.map V.int) ∧ (match ns with
  | [] => Q y H
  | n :: ns => Q (.int (k n ns)) H)
theorem readsInts {h : Heap} : ∀ {ns : List Int} {us : List Value}, Vals (ns.map V.int) us → ∃ as, ReadsAll h us (ns.map PyData.int) as
  | [], _, r => by
    cases r
    exact ⟨_, ReadsAll.nil⟩
  | n :: ns, _, r => by
    cases r with
    | cons r1 r2 =>
      obtain ⟨t, rfl⟩ := r1
      obtain ⟨as, h2⟩ := readsInts r2
      exact ⟨_, ReadsAll.cons (Reads.int n t) h2⟩
theorem mxI_max : ∀ (ns : List Int) (n : Int), ns.foldl max n = mxI n ns
  | [], _ => rfl
  | x :: ns, n => by
    show ns.foldl max (max n x) = mxI (if x > n then x else n) ns
    rw [mxI_max ns]
    congr 1
    by_cases h : x > n
    · rw [if_pos h]; omega
    · rw [if_neg h]; omega
theorem mnI_min : ∀ (ns : List Int) (n : Int), ns.foldl min n = mnI n ns
  | [], _ => rfl
  | x :: ns, n => by
    show ns.foldl min (min n x) = mnI (if x < n then x else n) ns
    rw [mnI_min ns]
    congr 1
    by_cases h : x < n
    · rw [if_pos h]; omega
    · rw [if_neg h]; omega
theorem alike_ints (ns : List Int) : PySem.W.AlikeAll (ns.map PyData.int) := PySem.W.alikeAll_datum (α := Int) ns
theorem depth_ints : ∀ (ns : List Int), PyData.depthAll (ns.map PyData.int) = 0
  | [] => by simp [PyData.depthAll]
  | n :: ns => by simp [PyData.depthAll, PyData.depth, depth_ints ns]
theorem reads_int {h : Heap} {u : Value} {i : Int} {as : List Addr} (r : Reads h u (.int i) as) : ∃ t, u = .int i t := by
  cases r
  exact ⟨_, rfl⟩
theorem call_mxD (hc : X.calm = true) (hu : X.A.units + 64 < cLine) : CallRK X (.builtin "max") [Str.ofString "default"] (rMxD X.K mxI) := by
  intro pins s σ H vs zs us ws Q I r rz h
  obtain ⟨a, ns, y, rfl, rfl, hs, q⟩ := h
  obtain ⟨its, rv, hl, _⟩ := I.list hs
  rw [Vals.ref1 r]
  obtain ⟨u, rfl, ru⟩ := vals1 rz
  obtain ⟨as, ra⟩ := readsInts (h := s.heap) rv
  refine PySem.W.max_list_default (I.ok.hd hc) hl.isList (by rw [List.toList_toArray]; exact ra) (alike_ints ns) (by rw [depth_ints]; omega) (fun e h' tk k => ?_) fun z zs i v h' tk bs e hi rr k => ?_
  · cases ns with
    | nil => exact ⟨y, H, I.kept (t' := tk) k, ru, q⟩
    | cons _ _ => cases e
  · cases ns with
    | nil => cases e
    | cons n ns =>
      cases e
      rw [PySem.W.maxD_ints] at rr
      obtain ⟨t, rfl⟩ := reads_int rr
      exact ⟨.int _, H, I.kept (t' := tk) k, ⟨_, rfl⟩, by rw [mxI_max]; exact q⟩
theorem call_mnD (hc : X.calm = true) (hu : X.A.units + 64 < cLine) : CallRK X (.builtin "min") [Str.ofString "default"] (rMxD X.K mnI) := by
  intro pins s σ H vs zs us ws Q I r rz h
  obtain ⟨a, ns, y, rfl, rfl, hs, q⟩ := h
  obtain ⟨its, rv, hl, _⟩ := I.list hs
  rw [Vals.ref1 r]
  obtain ⟨u, rfl, ru⟩ := vals1 rz
  obtain ⟨as, ra⟩ := readsInts (h := s.heap) rv
  refine PySem.W.min_list_default (I.ok.hd hc) hl.isList (by rw [List.toList_toArray]; exact ra) (alike_ints ns) (by rw [depth_ints]; omega) (fun e h' tk k => ?_) fun z zs i v h' tk bs e hi rr k => ?_
  · cases ns with
    | nil => exact ⟨y, H, I.kept (t' := tk) k, ru, q⟩
    | cons _ _ => cases e
  · cases ns with
    | nil => cases e
    | cons n ns =>
      cases e
      rw [PySem.W.minD_ints] at rr
      obtain ⟨t, rfl⟩ := reads_int rr
      exact ⟨.int _, H, I.kept (t' := tk) k, ⟨_, rfl⟩, by rw [mnI_min]; exact q⟩
def eMxD (k : Int → List Int → Int) (f g : En → Option PyData) : En → Option PyData := fun env => match f env with
  | some (.list ds) => match g env with
    | some d => match intsD ds with
      | some [] => some d
      | some (n :: ns) => some (.int (k n ns))
      | none => none
    | none => none
  | _ => none
theorem ce_mxD {k : Int → List Int → Int} (h : PE X e (tCKw (rMxD X.K k) (tCons (tE X.K c1 f) tNil) (tCons (tE X.K c g) tNil))) : PE X e (tE X.K c (eMxD k f g)) := pe_w h fun σ H Q ⟨S0, H0, A, env, d, E, hf, q⟩ => by
  unfold eMxD at hf
  split at hf
  · rename_i ds hd
    split at hf
    · rename_i d2 hd2
      refine ⟨S0, H0, A, env, _, E, hd, fun v H1 s r => ⟨S0, H0, A, env, d2, E.grow s, hd2, fun u H2 s2 r2 => ?_⟩⟩
      rw [Rp] at r
      obtain ⟨a, xs, rfl, hs, ra⟩ := r
      split at hf
      · rename_i hi
        cases hf
        obtain ⟨e1, _⟩ := intsD_rp hi ra
        subst e1
        exact ⟨a, [], u, rfl, rfl, s2.seq hs.sq, q u H2 (s.trans s2) r2⟩
      · rename_i n ns hi
        cases hf
        obtain ⟨e1, _⟩ := intsD_rp hi ra
        subst e1
        exact ⟨a, n :: ns, u, rfl, rfl, s2.seq hs.sq, q _ H2 (s.trans s2) rp1⟩
      · cases hf
    · cases hf
  · cases hf
/-! isinstance(x, T), T a built-in class -/
def tyD : PyData → String
  | .none => "NoneType"
  | .bool _ => "bool"
  | .int _ => "int"
  | .str _ => "str"
  | .list _ => "list"
  | .tuple _ => "tuple"
  | .dict _ => "dict"
theorem tyX_of {K : PySem.W.Frag} {S : Addr → Prop} {H : Hp} {d : PyData} {v : V} (nd : tyD d ≠ "dict") (r : Rp K S H d v) : TyX K H v (.type (tyD d)) := by
  cases d with
  | none => rw [Rp] at r; subst r; exact .base .non
  | bool k => rw [Rp] at r; subst r; exact .base (.bl k)
  | int k => rw [Rp] at r; subst r; exact .base (.int k)
  | str k => rw [Rp] at r; subst r; exact .base (.str k)
  | list ds =>
    rw [Rp] at r
    obtain ⟨a, xs, rfl, hs, _⟩ := r
    rcases hs with ⟨_, hs | ⟨o, hs⟩⟩ | ⟨o, its, n, hk, hc, _⟩
    · exact .base (.lst hs)
    · exact .base (.frz hs)
    · exact .kList hk hc
  | tuple ds =>
    rw [Rp] at r
    obtain ⟨a, xs, rfl, hs, _⟩ := r
    exact .base (.tup hs)
  | dict k => exact absurd rfl nd
def isiB (T t : String) : Option Bool :=
  if T = "list" then (if t = "NoneType" ∨ t = "bool" ∨ t = "int" ∨ t = "str" ∨ t = "tuple" then some false else if t = "list" then some true else none)
  else if T = "tuple" then (if t = "NoneType" ∨ t = "bool" ∨ t = "int" ∨ t = "str" ∨ t = "list" then some false else if t = "tuple" then some true else none)
  else if T = "bool" then (if t = "NoneType" ∨ t = "tuple" ∨ t = "int" ∨ t = "str" ∨ t = "list" then some false else if t = "bool" then some true else none)
  else if T = "str" then (if t = "NoneType" ∨ t = "tuple" ∨ t = "int" ∨ t = "bool" ∨ t = "list" then some false else if t = "str" then some true else none)
  else if T = "int" then (if t = "NoneType" ∨ t = "tuple" ∨ t = "str" ∨ t = "list" then some false else if t = "int" ∨ t = "bool" then some true else none)
  else none
theorem isiB_kit {T t : String} {b : Bool} (h : isiB T t = some b) : kitB t T = some b := by
  unfold isiB at h
  repeat' (split at h)
  all_goals first
    | (cases h; done)
    | (rename_i z; cases h; rcases z with z | z | z | z | z <;> (subst_vars; decide +kernel))
    | (rename_i z; cases h; rcases z with z | z | z | z <;> (subst_vars; decide +kernel))
    | (rename_i z; cases h; rcases z with z | z <;> (subst_vars; decide +kernel))
    | (rename_i z; cases h; subst_vars; decide +kernel)
theorem isiB_dict (T : String) : isiB T "dict" = none := by
  unfold isiB
  repeat' split
  all_goals first | rfl | (rename_i z; exfalso; revert z; decide)
def eIsi (T : String) (f : En → Option PyData) : En → Option PyData := fun env => match f env with
  | some d => (isiB T (tyD d)).map .bool
  | none => none
theorem ce_isi {T : String} (h : PE X e (tCB (rIsi X.K) (tCons (tE X.K c f) (tCons (tC (.ty T)) tNil)))) : PE X e (tE X.K true (eIsi T f)) := pe_w h fun σ H Q ⟨S0, H0, A, env, d, E, hf, q⟩ => by
  unfold eIsi at hf
  split at hf
  · rename_i d' hd
    cases hb : isiB T (tyD d') with
    | none => rw [hb] at hf; cases hf
    | some b =>
      rw [hb] at hf
      cases hf
      refine ⟨S0, H0, A, env, d', E, hd, fun v H1 s r => ?_⟩
      exact ⟨v, .ty T, _, _, b, rfl, .ty T, tyX_of (fun e => by rw [e, isiB_dict] at hb; cases hb) r, kit_ty (isiB_kit hb), q _ H1 s rpb⟩
  · cases hf
/-! sep.join(xs) -/
def strsD : List PyData → Option (List Str)
  | [] => some []
  | .str i :: ds => match strsD ds with
    | some ns => some (i :: ns)
    | none => none
  | _ :: _ => none
theorem strsD_rp {K : PySem.W.Frag} {S : Addr → Prop} {H : Hp} : ∀ {ds : List PyData} {ns : List Str} {xs : List V}, strsD ds = some ns → RpA K S H ds xs → xs = ns.map V.str
  | [], ns, xs, h, r => by
    rw [RpA] at r
    cases h
    exact r
  | .str i :: ds, ns, xs, h, r => by
    rw [RpA] at r
    obtain ⟨v, r', rfl, h1, h2⟩ := r
    rw [Rp] at h1
    simp only [strsD] at h
    split at h
    · rename_i ms hm
      cases h
      have e1 := strsD_rp hm h2
      subst h1
      rw [e1]; rfl
    · cases h
  | .none :: _, _, _, h, _ => by cases h
  | .bool _ :: _, _, _, h, _ => by cases h
  | .int _ :: _, _, _, h, _ => by cases h
  | .list _ :: _, _, _, h, _ => by cases h
  | .tuple _ :: _, _, _, h, _ => by cases h
  | .dict _ :: _, _, _, h, _ => by cases h
def eJoin (f g : En → Option PyData) : En → Option PyData := e2 (fun s d => match s with
  | .str a => match (match d with | .list ds => strsD ds | .tuple ds => strsD ds | _ => none) with
    | some ys => if (ys.map (·.length)).sum + ys.length * a.length ≤ 1000000 then some (.str (Txt.join a ys)) else none
    | none => none
  | _ => none) f g
theorem ce_join {t : TE} (h : PE X e (tM1 (fun x xs H Q => ∃ a p, ∃ ys : List Str, x = .str a ∧ xs = [.ref p] ∧ (SqL X.K H p (ys.map V.str) ∨ SqT X.K H p (ys.map V.str)) ∧ (ys.map (·.length)).sum + ys.length * a.length ≤ 16777216 ∧ Q (.str (Txt.join a ys)) H) (tE X.K c1 f) (tE X.K c2 g))) :
    PE X e (tE X.K true (eJoin f g)) := pe_w h fun σ H Q ⟨S0, H0, A, env, d, E, hf, q⟩ => by
  obtain ⟨x, y, h1, h2, h3⟩ := e2_some hf
  refine ⟨S0, H0, A, env, x, E, h1, fun v H1 s1 r1 => ?_⟩
  cases x with
  | str a =>
    rw [Rp] at r1
    subst r1
    refine ⟨⟨a, rfl⟩, S0, H0, A, env, y, E.grow s1, h2, fun u H2 s2 r2 => ?_⟩
    dsimp only at h3
    split at h3
    · rename_i ys hy
      split at h3
      · rename_i hl
        cases h3
        cases y with
        | list ds =>
          rw [Rp] at r2
          obtain ⟨p, xs, rfl, hs, ra⟩ := r2
          have e1 := strsD_rp hy ra
          subst e1
          exact ⟨a, p, ys, rfl, rfl, .inl hs.sq, by omega, q _ H2 (s1.trans s2) rps⟩
        | tuple ds =>
          rw [Rp] at r2
          obtain ⟨p, xs, rfl, hs, ra⟩ := r2
          have e1 := strsD_rp hy ra
          subst e1
          exact ⟨a, p, ys, rfl, rfl, .inr (live_t hs), by omega, q _ H2 (s1.trans s2) rps⟩
        | _ => cases hy
      · cases h3
    · cases h3
  | _ => cases h3
end
end Mir

namespace Mir
open PySem PySem.Spec PyProof.Rows L2

section
variable {X : Cx} {a b e : Expr} {es : List Expr} {pos p : Pos} {c c1 c2 : Bool} {f g : En → Option PyData} {fa : En → Option (List PyData)} {fb : En → Option Bool} {K : PySem.W.Frag}
/-! ### + -/
theorem cat_lists {prog : Program} {w : World} {A : Around} {E : Value → Shared → Prop} {s : Shared} {l b : Addr} {us ws : Array Value} {Q : Value → Shared → Prop} (hl : s.heap.IsList l us) (hb : s.heap.IsList b ws)
    (h : Q (.ref s.heap.objs.size) { s with heap := s.heap.push { cls := .type "list", data := .seq (us ++ ws) } }) (hz : us.size + ws.size ≤ sizeLine) : wpAny (model prog w) A (binaryOp .Add (.ref l) (.ref b)) Q E s := by
  rcases hl with ⟨⟨k1, d1, x1, t1⟩, g1, rfl, n1, y1⟩
  rcases hb with ⟨⟨k2, d2, x2, t2⟩, g2, rfl, n2, y2⟩
  dsimp only at y1 y2
  subst y1 y2
  exact concat_meets ⟨_, g1, rfl⟩ ⟨_, g2, rfl⟩ noFill_list_add seq_list_add PySem.F.slot_list_add PySem.F.entry_list_add (PySem.F.args_list_add_2 _ _)
    (list_addW l b us ws n1 n2 d1 d2 t1 t2 hz) ⟨g1, g2, h⟩
def rCatR (K : PySem.W.Frag) : R2 := fun x y H Q => ∃ l b xs zs, x = .ref l ∧ y = .ref b ∧ SqL K H l xs ∧ SqL K H b zs ∧ xs.length + zs.length ≤ sizeLine ∧ ∀ p, H p = none → Q (.ref p) (upd H p (.lst (xs ++ zs)))
theorem op_catR : OpR X (binaryOp .Add) (rCatR X.K) := by
  intro pins s σ H x y v u Q I rx ry h
  obtain ⟨l, b, xs, zs, rfl, rfl, h1, h2, hz, q⟩ := h
  cases rx
  cases ry
  obtain ⟨i1, r1, p1, _⟩ := I.list h1
  obtain ⟨i2, r2, p2, _⟩ := I.list h2
  have l1 := r1.length
  have l2 := r2.length
  refine cat_lists p1.isList p2.isList ?_ (by rw [List.size_toArray, List.size_toArray]; omega)
  have ea : i1.toArray ++ i2.toArray = (i1 ++ i2).toArray := by simp
  rw [ea]
  exact ⟨.ref s.heap.objs.size, _, I.lnew (t' := s.toks) (r1.append r2) (by rw [List.length_append]; omega), rfl, q _ I.fresh⟩
def rAddX (K : PySem.W.Frag) : R2 := fun x y H Q => (∃ i j, x = .int i ∧ y = .int j ∧ Q (.int (i + j)) H) ∨ (∃ i j, x = .str i ∧ y = .str j ∧ i.length + j.length ≤ sizeLine ∧ Q (.str (i ++ j)) H) ∨ rCatA K x y H Q ∨ rCatR K x y H Q
theorem op_addX : OpR X (binaryOp .Add) (rAddX X.K) := by
  intro pins s σ H x y v u Q I rx ry h
  rcases h with h | h | h | h
  · exact op_add pins s σ H x y v u Q I rx ry h
  · exact op_add_str pins s σ H x y v u Q I rx ry h
  · exact op_catA pins s σ H x y v u Q I rx ry h
  · exact op_catR pins s σ H x y v u Q I rx ry h
def addD : PyData → PyData → Option PyData
  | .int i, .int j => some (.int (i + j))
  | .str x, .str y => if x.length + y.length ≤ 1000000 then some (.str (x ++ y)) else none
  | .tuple xs, .tuple ys => if xs.length + ys.length ≤ 1000000 then some (.tuple (xs ++ ys)) else none
  | .list xs, .list ys => if xs.length + ys.length ≤ 1000000 then some (.list (xs ++ ys)) else none
  | _, _ => none
theorem r2_add : R2Ok K false (rAddX K) addD := by
  intro S S' H x y dx dy d Q hn hS rx ry h q
  have hS' : S' = S := hS.elim (fun z => nomatch z) id
  subst hS'
  unfold addD at h
  split at h
  · cases h
    rw [Rp] at rx ry
    subst rx ry
    exact .inl ⟨_, _, rfl, rfl, q _ H (Same.refl H) rp1⟩
  · split at h
    · rename_i hl
      cases h
      rw [Rp] at rx ry
      subst rx ry
      exact .inr (.inl ⟨_, _, rfl, rfl, sz6 hl, q _ H (Same.refl H) rps⟩)
    · cases h
  · rename_i xs ys
    split at h
    · rename_i hl
      cases h
      have rx' := rx
      have ry' := ry
      rw [Rp] at rx ry
      obtain ⟨l, us, rfl, h1, r1⟩ := rx
      obtain ⟨m, vs, rfl, h2, r2⟩ := ry
      have l1 := r1.length
      have l2 := r2.length
      refine .inr (.inr (.inl ⟨l, m, us, vs, rfl, rfl, live_t h1, live_t h2, by rw [l1, l2]; exact sz6 hl, fun e => ?_, fun n e => ?_, fun n1 n2 p hp => ?_⟩))
      · have e1 : xs = [] := List.eq_nil_of_length_eq_zero (by rw [← l1, e]; rfl)
        subst e1
        exact q _ H (Same.refl H) ry'
      · have e1 : ys = [] := List.eq_nil_of_length_eq_zero (by rw [← l2, e]; rfl)
        subst e1
        rw [List.append_nil] at q
        exact q _ H (Same.refl H) rx'
      · refine q _ _ (same_new hp) ?_
        rw [Rp]
        exact ⟨p, _, rfl, upd_same, (r1.append r2).grow (same_new hp)⟩
    · cases h
  · split at h
    · rename_i hl
      cases h
      rw [Rp] at rx ry
      obtain ⟨l, us, rfl, h1, r1⟩ := rx
      obtain ⟨m, vs, rfl, h2, r2⟩ := ry
      refine .inr (.inr (.inr ⟨l, m, us, vs, rfl, rfl, h1.sq, h2.sq, by rw [r1.length, r2.length]; exact sz6 hl, fun p hp => q _ _ (same_new hp) ?_⟩))
      rw [Rp]
      exact ⟨p, _, rfl, .inl ⟨hn p hp, .inl upd_same⟩, (r1.append r2).grow (same_new hp)⟩
    · cases h
  · cases h
theorem ce_add (ha : PE X a (tE X.K c f)) (hb : PE X b (tE X.K c g)) : PE X (.BinOp a .Add b pos) (tE X.K c (e2 addD f g)) := ce_op op_addX r2_add ha hb
/-- list + list, fresh -/
def fCat (f g : En → Option PyData) : En → Option (List PyData) := fun env => match f env with
  | some (.list xs) => match g env with
    | some (.list ys) => if xs.length + ys.length ≤ 1000000 then some (xs ++ ys) else none
    | _ => none
  | _ => none
theorem cf_cat (ha : PE X a (tE X.K true f)) (hb : PE X b (tE X.K true g)) : PE X (.BinOp a .Add b pos) (tF X.K c (fCat f g)) := pe_w (pe_op op_catR ha hb) fun σ H Q ⟨S0, H0, A, env, d, E, hf, q⟩ => by
  unfold fCat at hf
  split at hf
  · rename_i xs h1
    split at hf
    · rename_i ys h2
      split at hf
      · rename_i hl
        cases hf
        refine ⟨S0, H0, A, env, _, E, h1, fun v H1 s1 r1 => ⟨S0, H0, A, env, _, E.grow s1, h2, fun u H2 s2 r2 => ?_⟩⟩
        rw [Rp] at r1 r2
        obtain ⟨l, us, rfl, k1, q1⟩ := r1
        obtain ⟨m, vs, rfl, k2, q2⟩ := r2
        refine ⟨l, m, us, vs, rfl, rfl, s2.seq k1.sq, k2.sq, by rw [q1.length, q2.length]; exact sz6 hl, fun p hp => q p _ _ ((s1.trans s2).free hp) ((s1.trans s2).trans (same_new hp)) upd_same ?_⟩
        exact (((q1.grow s2).append q2).wide fun _ z => sc_cl (cl_sc z)).apart hp (same_new hp)
      · cases hf
    · cases hf
  · cases hf

/-! ### ints -/
def i2 (h : Int → Int → Option PyData) : PyData → PyData → Option PyData
  | .int i, .int j => h i j
  | _, _ => none
theorem r2_I {C : Int → Int → Prop} [DecidableRel C] {k : Int → Int → Int} : R2Ok K true (rI C fun i j => .int (k i j)) (i2 fun i j => if C i j then some (.int (k i j)) else none) := by
  intro S S' H x y dx dy d Q hn hS rx ry h q
  unfold i2 at h
  split at h
  · dsimp only at h
    split at h
    · rename_i hc
      cases h
      rw [Rp] at rx ry
      subst rx ry
      exact ⟨_, _, rfl, rfl, hc, q _ H (Same.refl H) rp1⟩
    · cases h
  · cases h
theorem r2_I0 {k : Int → Int → Int} : R2Ok K true (rI0 fun i j => .int (k i j)) (i2 fun i j => some (.int (k i j))) := by
  intro S S' H x y dx dy d Q hn hS rx ry h q
  unfold i2 at h
  split at h
  · cases h
    rw [Rp] at rx ry
    subst rx ry
    exact ⟨_, _, rfl, rfl, q _ H (Same.refl H) rp1⟩
  · cases h
theorem r2_B0 {k : Int → Int → Bool} : R2Ok K true (rI0 fun i j => .bl (k i j)) (i2 fun i j => some (.bool (k i j))) := by
  intro S S' H x y dx dy d Q hn hS rx ry h q
  unfold i2 at h
  split at h
  · cases h
    rw [Rp] at rx ry
    subst rx ry
    exact ⟨_, _, rfl, rfl, q _ H (Same.refl H) rpb⟩
  · cases h
instance : DecidableRel CMul := fun i j => by unfold CMul; infer_instance
instance : DecidableRel CDiv := fun i j => by unfold CDiv; infer_instance
instance : DecidableRel CPow := fun i j => by unfold CPow; infer_instance
def subD : PyData → PyData → Option PyData := i2 fun i j => some (.int (i - j))
def mulD : PyData → PyData → Option PyData := i2 fun i j => if CMul i j then some (.int (i * j)) else none
def divD : PyData → PyData → Option PyData := i2 fun i j => if CDiv i j then some (.int (i / j)) else none
def modD : PyData → PyData → Option PyData := i2 fun i j => if 0 < j then some (.int (i % j)) else none
def powD : PyData → PyData → Option PyData := i2 fun i j => if CPow i j then some (.int (i ^ j.toNat)) else none
theorem ce_sub (ha : PE X a (tE X.K c f)) (hb : PE X b (tE X.K c g)) : PE X (.BinOp a .Sub b pos) (tE X.K true (e2 subD f g)) := ce_op op_sub r2_I0 ha hb
theorem ce_mul (ha : PE X a (tE X.K c f)) (hb : PE X b (tE X.K c g)) : PE X (.BinOp a .Mult b pos) (tE X.K true (e2 mulD f g)) := ce_op op_mul r2_I ha hb
theorem ce_div (ha : PE X a (tE X.K c f)) (hb : PE X b (tE X.K c g)) : PE X (.BinOp a .FloorDiv b pos) (tE X.K true (e2 divD f g)) := ce_op op_fdiv r2_I ha hb
theorem ce_mod (ha : PE X a (tE X.K c f)) (hb : PE X b (tE X.K c g)) : PE X (.BinOp a .Mod b pos) (tE X.K true (e2 modD f g)) := ce_op op_mod r2_I ha hb
theorem ce_pow (ha : PE X a (tE X.K c f)) (hb : PE X b (tE X.K c g)) : PE X (.BinOp a .Pow b pos) (tE X.K true (e2 powD f g)) := ce_op op_pow r2_I ha hb
def negD : PyData → Option PyData
  | .int i => some (.int (-i))
  | _ => none
def e1 (h : PyData → Option PyData) (f : En → Option PyData) : En → Option PyData := fun env => match f env with
  | some d => h d
  | none => none
theorem ce_neg (ha : PE X a (tE X.K c f)) : PE X (.UnaryOp .USub a pos) (tE X.K true (e1 negD f)) := pe_w (pe_un un_neg ha) fun σ H Q ⟨S0, H0, A, env, d, E, hf, q⟩ => by
  unfold e1 at hf
  split at hf
  · rename_i x hx
    cases x with
    | int i =>
      cases hf
      refine ⟨S0, H0, A, env, _, E, hx, fun v H1 s r => ?_⟩
      rw [Rp] at r
      subst r
      exact ⟨_, rfl, q _ H1 s rp1⟩
    | _ => cases hf
  · cases hf

/-! ### comparisons -/
def ltD : PyData → PyData → Option PyData := i2 fun i j => some (.bool (decide (i < j)))
def leD : PyData → PyData → Option PyData := i2 fun i j => some (.bool (decide (i ≤ j)))
def gtD : PyData → PyData → Option PyData := i2 fun i j => some (.bool (decide (j < i)))
def geD : PyData → PyData → Option PyData := i2 fun i j => some (.bool (decide (j ≤ i)))
theorem ce_lt (ha : PE X a (tE X.K c f)) (hb : PE X b (tE X.K c g)) : PE X (.Compare a [.Lt] [b] pos) (tE X.K true (e2 ltD f g)) := ce_cmp op_lt r2_B0 ha hb (nomark _)
theorem ce_le (ha : PE X a (tE X.K c f)) (hb : PE X b (tE X.K c g)) : PE X (.Compare a [.LtE] [b] pos) (tE X.K true (e2 leD f g)) := ce_cmp op_le r2_B0 ha hb (nomark _)
theorem ce_gt (ha : PE X a (tE X.K c f)) (hb : PE X b (tE X.K c g)) : PE X (.Compare a [.Gt] [b] pos) (tE X.K true (e2 gtD f g)) := ce_cmp op_gt r2_B0 ha hb (nomark _)
theorem ce_ge (ha : PE X a (tE X.K c f)) (hb : PE X b (tE X.K c g)) : PE X (.Compare a [.GtE] [b] pos) (tE X.K true (e2 geD f g)) := ce_cmp op_ge r2_B0 ha hb (nomark _)
def eqD : PyData → PyData → Option PyData := fun x y => if (SeqAt.shaped x && SeqAt.shaped y) = true then some (.bool (PyData.eqv x y)) else none
def neD : PyData → PyData → Option PyData := fun x y => if (SeqAt.shaped x && SeqAt.shaped y) = true then some (.bool (!PyData.eqv x y)) else none
theorem r2_eq : R2Ok K true (rEqD K) eqD := by
  intro S S' H x y dx dy d Q hn hS rx ry h q
  unfold eqD at h
  split at h
  · rename_i hs
    rw [Bool.and_eq_true] at hs
    cases h
    exact ⟨dx, dy, rx.dp hs.1, ry.dp hs.2, hs.1, hs.2, q _ H (Same.refl H) rpb⟩
  · cases h
theorem r2_ne : R2Ok K true (rNeD K) neD := by
  intro S S' H x y dx dy d Q hn hS rx ry h q
  unfold neD at h
  split at h
  · rename_i hs
    rw [Bool.and_eq_true] at hs
    cases h
    exact ⟨dx, dy, rx.dp hs.1, ry.dp hs.2, hs.1, hs.2, q _ H (Same.refl H) rpb⟩
  · cases h
theorem ce_eq (hu : X.A.units + 64 < cLine) (ha : PE X a (tE X.K c f)) (hb : PE X b (tE X.K c g)) : PE X (.Compare a [.Eq] [b] pos) (tE X.K true (e2 eqD f g)) := ce_cmp (op_eqD hu) r2_eq ha hb (nomark _)
theorem ce_ne (hu : X.A.units + 64 < cLine) (ha : PE X a (tE X.K c f)) (hb : PE X b (tE X.K c g)) : PE X (.Compare a [.NotEq] [b] pos) (tE X.K true (e2 neD f g)) := ce_cmp (op_neD hu) r2_ne ha hb (nomark _)
def noneB : PyData → Bool
  | .none => true
  | _ => false
def isD : PyData → PyData → Option PyData
  | x, .none => some (.bool (noneB x))
  | _, _ => none
def isntD : PyData → PyData → Option PyData
  | x, .none => some (.bool (!noneB x))
  | _, _ => none
theorem noneB_rp {S : Addr → Prop} {H : Hp} {d : PyData} {v : V} (r : Rp K S H d v) : decide (v = .non) = noneB d := by
  cases d with
  | none => rw [Rp] at r; subst r; rfl
  | bool k => rw [Rp] at r; subst r; rfl
  | int k => rw [Rp] at r; subst r; rfl
  | str k => rw [Rp] at r; subst r; rfl
  | list ds => rw [Rp] at r; obtain ⟨a, xs, rfl, _⟩ := r; rfl
  | tuple ds => rw [Rp] at r; obtain ⟨a, xs, rfl, _⟩ := r; rfl
  | dict k => rw [Rp] at r; obtain ⟨a, od, rfl, _⟩ := r; rfl
theorem r2_is : R2Ok K true (fun x y H Q => y = .non ∧ Q (.bl (decide (x = .non))) H) isD := by
  intro S S' H x y dx dy d Q hn hS rx ry h q
  unfold isD at h
  split at h
  · cases h
    rw [Rp] at ry
    exact ⟨ry, by rw [noneB_rp rx]; exact q _ H (Same.refl H) rpb⟩
  · cases h
theorem r2_isnt : R2Ok K true (fun x y H Q => y = .non ∧ Q (.bl (!decide (x = .non))) H) isntD := by
  intro S S' H x y dx dy d Q hn hS rx ry h q
  unfold isntD at h
  split at h
  · cases h
    rw [Rp] at ry
    exact ⟨ry, by rw [noneB_rp rx]; exact q _ H (Same.refl H) rpb⟩
  · cases h
theorem ce_is (ha : PE X a (tE X.K c f)) (hb : PE X b (tE X.K c g)) : PE X (.Compare a [.Is] [b] pos) (tE X.K true (e2 isD f g)) := ce_cmp op_isN r2_is ha hb (nomark _)
theorem ce_isnt (ha : PE X a (tE X.K c f)) (hb : PE X b (tE X.K c g)) : PE X (.Compare a [.IsNot] [b] pos) (tE X.K true (e2 isntD f g)) := ce_cmp op_notN r2_isnt ha hb (nomark _)
/-! in: a list of data of any depth -/
def inD : PyData → PyData → Option PyData
  | x, .list ds => if (SeqAt.shaped x && SeqAt.shaped (.list ds)) = true then some (.bool (ds.any fun z => PyData.eqv z x)) else none
  | _, _ => none
def notInD : PyData → PyData → Option PyData
  | x, .list ds => if (SeqAt.shaped x && SeqAt.shaped (.list ds)) = true then some (.bool (!ds.any fun z => PyData.eqv z x)) else none
  | _, _ => none
theorem r2_in : R2Ok K true (rInD K) inD := by
  intro S S' H x y dx dy d Q hn hS rx ry h q
  unfold inD at h
  split at h
  · split at h
    · rename_i hs
      rw [Bool.and_eq_true] at hs
      cases h
      exact ⟨_, _, rx.dp hs.1, ry.dp hs.2, hs.1, hs.2, q _ H (Same.refl H) rpb⟩
    · cases h
  · cases h
theorem r2_notIn : R2Ok K true (rNotInD K) notInD := by
  intro S S' H x y dx dy d Q hn hS rx ry h q
  unfold notInD at h
  split at h
  · split at h
    · rename_i hs
      rw [Bool.and_eq_true] at hs
      cases h
      exact ⟨_, _, rx.dp hs.1, ry.dp hs.2, hs.1, hs.2, q _ H (Same.refl H) rpb⟩
    · cases h
  · cases h
theorem ce_in (hu : X.A.units + 65 < cLine) (ha : PE X a (tE X.K c f)) (hb : PE X b (tE X.K c g)) (hm : behindInMarks .In b = false) : PE X (.Compare a [.In] [b] pos) (tE X.K true (e2 inD f g)) := ce_cmp (op_inD hu) r2_in ha hb hm
theorem ce_notIn (hu : X.A.units + 65 < cLine) (ha : PE X a (tE X.K c f)) (hb : PE X b (tE X.K c g)) (hm : behindInMarks .NotIn b = false) : PE X (.Compare a [.NotIn] [b] pos) (tE X.K true (e2 notInD f g)) := ce_cmp (op_notInD hu) r2_notIn ha hb hm
/-! chains of ints: a < b < c -/
def chI (k1 k2 : Int → Int → Bool) (f g h : En → Option PyData) : En → Option PyData := fun env => match f env with
  | some (.int i) => match g env with
    | some (.int j) => if k1 i j = true then (match h env with
      | some (.int m) => some (.bool (k2 j m))
      | _ => none) else some (.bool false)
    | _ => none
  | _ => none
theorem ce_chain {k1 k2 : Int → Int → Bool} {h : En → Option PyData} (he : PE X e (tChain (rI0 fun i j => .bl (k1 i j)) (rI0 fun i j => .bl (k2 i j)) (tE X.K c f) (tE X.K c1 g) (tE X.K c2 h))) : PE X e (tE X.K true (chI k1 k2 f g h)) := pe_w he fun σ H Q ⟨S0, H0, A, env, d, E, hf, q⟩ => by
  unfold chI at hf
  split at hf
  · rename_i i hi
    split at hf
    · rename_i j hj
      refine ⟨S0, H0, A, env, _, E, hi, fun v H1 s1 r1 => ⟨S0, H0, A, env, _, E.grow s1, hj, fun u H2 s2 r2 => ?_⟩⟩
      rw [Rp] at r1 r2
      subst r1 r2
      refine ⟨i, j, rfl, rfl, k1 i j, rfl, ?_⟩
      by_cases hk : k1 i j = true
      · rw [if_pos hk] at hf
        rw [hk, if_pos rfl]
        split at hf
        · rename_i m hm
          cases hf
          refine ⟨S0, H0, A, env, _, (E.grow s1).grow s2, hm, fun w H3 s3 r3 => ?_⟩
          rw [Rp] at r3
          subst r3
          exact ⟨j, m, rfl, rfl, q _ H3 ((s1.trans s2).trans s3) rpb⟩
        · cases hf
      · rw [if_neg hk] at hf
        cases hf
        rw [if_neg hk]
        have e : k1 i j = false := by cases z : k1 i j with
          | true => exact absurd z hk
          | false => rfl
        exact q _ H2 (s1.trans s2) rpb
    · cases hf
  · cases hf

/-! ### items, slices -/
def ixG (x k : PyData) : Option PyData := match k with
  | .int i => match x with
    | .list ds => atI ds i
    | .tuple ds => atI ds i
    | .str z => if z.length ≤ 1000000 then (atI z.cps.toList i).map fun c => .str ⟨#[c]⟩ else none
    | _ => none
  | _ => none
theorem atI_rp {S : Addr → Prop} {H : Hp} {ds : List PyData} {xs : List V} {i : Int} {d : PyData} (r : RpA K S H ds xs) (h : atI ds i = some d) : ∃ v, atI xs i = some v ∧ Rp K S H d v := by
  unfold atI at h ⊢
  rw [r.length]
  cases hj : ixN ds.length i with
  | none => rw [hj] at h; cases h
  | some j =>
    rw [hj] at h
    exact r.get h
theorem r2_ix : R2Ok K false (rIx K) ixG := by
  intro S S' H x y dx dy d Q hn hS rx ry h q
  have hS' : S' = S := hS.elim (fun z => nomatch z) id
  subst hS'
  unfold ixG at h
  split at h
  · rename_i i
    rw [Rp] at ry
    subst ry
    split at h
    · rw [Rp] at rx
      obtain ⟨l, us, rfl, h1, r1⟩ := rx
      obtain ⟨v, e1, e2⟩ := atI_rp r1 h
      exact .inl ⟨l, us, i, v, rfl, rfl, h1.sq, e1, q v H (Same.refl H) e2⟩
    · rw [Rp] at rx
      obtain ⟨l, us, rfl, h1, r1⟩ := rx
      obtain ⟨v, e1, e2⟩ := atI_rp r1 h
      exact .inr (.inl ⟨l, us, i, v, rfl, rfl, live_t h1, e1, q v H (Same.refl H) e2⟩)
    · rename_i z
      split at h
      · rename_i hl
        rw [Rp] at rx
        subst rx
        cases hc : atI z.cps.toList i with
        | none => rw [hc] at h; cases h
        | some k =>
          rw [hc] at h
          cases h
          exact .inr (.inr ⟨z, i, k, rfl, rfl, sz6 hl, hc, q _ H (Same.refl H) rps⟩)
      · cases h
    · cases h
  · cases h
theorem ce_ix (ha : PE X a (tE X.K c f)) (hb : PE X b (tE X.K c g)) (hs : PlainIx b) : PE X (.Subscript a b pos) (tE X.K c (e2 ixG f g)) := pe_w (pe_ix ix_seq ha hb hs) fun _ _ _ q => e2_run r2_ix (.inr rfl) q
/-- x[k], x owned: a clean item -/
def eIxO (i : Nat) (g : En → Option PyData) : En → Option PyData := fun env => match env[i]? with
  | some (.own ds) => match g env with
    | some (.int k) => atI ds k
    | _ => none
  | _ => none
theorem ce_ixO {i : Nat} (ha : PE X a (tVar i)) (hb : PE X b (tE X.K c g)) (hs : PlainIx b) : PE X (.Subscript a b pos) (tE X.K true (eIxO i g)) := pe_w (pe_ix ix_seq ha hb hs) fun σ H Q ⟨S0, H0, A, env, d, E, hf, q⟩ => by
  unfold eIxO at hf
  split at hf
  · rename_i ds hi
    split at hf
    · rename_i k hk
      rcases E.sl i _ hi with z | ⟨v, h1, l, us, rfl, ha, hh, r⟩
      · cases z
      refine ⟨_, h1, S0, H0, A, env, _, E, hk, fun u H1 s1 r1 => ?_⟩
      rw [Rp] at r1
      subst r1
      obtain ⟨v, e1, e2⟩ := atI_rp (r.grow s1) hf
      exact .inl ⟨l, us, k, v, rfl, rfl, .inl (.inl (s1 _ _ hh)), e1, q v H1 s1 (Rp.wide (fun _ z => sc_cl z) e2)⟩
    · cases hf
  · cases hf
def tOp' (K : PySem.W.Frag) (f : En → Option (Option Int)) : TO := fun σ H Q => ∃ S0 H0 A env o, EnvOk K S0 H0 A H σ env ∧ f env = some o ∧ ∀ H', Same H H' → Q o H'
def oNone : En → Option (Option Int) := fun _ => some none
def oSome (f : En → Option PyData) : En → Option (Option Int) := fun env => match f env with
  | some (.int i) => some (some i)
  | _ => none
theorem co_none : PO X none (tOp' X.K oNone) := ⟨fun pins s σ H Q I ⟨S0, H0, A, env, o, E, hf, q⟩ => (po_none).run pins s σ H Q I (by cases hf; exact q H (Same.refl H))⟩
theorem co_some (h : PE X e (tE X.K c f)) : PO X (some e) (tOp' X.K (oSome f)) := ⟨fun pins s σ H Q I ⟨S0, H0, A, env, o, E, hf, q⟩ => (po_some h).run pins s σ H Q I (by
  unfold oSome at hf
  split at hf
  · rename_i i hi
    cases hf
    refine ⟨S0, H0, A, env, _, E, hi, fun v H1 s r => ?_⟩
    rw [Rp] at r
    exact ⟨i, r, q H1 s⟩
  · cases hf)⟩
def cutL {α : Type} (xs : List α) (lo hi : Option Int) : List α := (xs.drop (HT.sIx xs.length 0 lo)).take (HT.sIx xs.length xs.length hi - HT.sIx xs.length 0 lo)
def rSlX (K : PySem.W.Frag) : V → Option Int → Option Int → Hp → VK → Prop := fun x lo hi H Q => (∃ a xs, x = .ref a ∧ SqL K H a xs ∧ ∀ p, H p = none → Q (.ref p) (upd H p (.lst (cutV xs lo hi)))) ∨ rSlA K x lo hi H Q ∨ rSlS x lo hi H Q
theorem sl_X : SlR X (rSlX X.K) := by
  intro pins s σ H x v vl vu lo hi sl Q I rx hs pl pu h
  rcases h with h | h | h
  · exact sl_list pins s σ H x v vl vu lo hi sl Q I rx hs pl pu h
  · exact sl_tupA pins s σ H x v vl vu lo hi sl Q I rx hs pl pu h
  · exact sl_str pins s σ H x v vl vu lo hi sl Q I rx hs pl pu h
def slG (x : PyData) (lo hi : Option Int) : Option PyData := match x with
  | .list ds => some (.list (cutL ds lo hi))
  | .tuple ds => some (.tuple (cutL ds lo hi))
  | .str z => if z.length ≤ 1000000 then some (.str (cutS z lo hi)) else none
  | _ => none
theorem cut_rp {S : Addr → Prop} {H : Hp} {ds : List PyData} {xs : List V} (r : RpA K S H ds xs) (lo hi : Option Int) : RpA K S H (cutL ds lo hi) (cutV xs lo hi) := by
  unfold cutL cutV
  rw [r.length]
  exact (r.drop _).take _
theorem cut_whole {ds : List PyData} {lo hi : Option Int} (h : HT.sIx ds.length 0 lo = 0 ∧ HT.sIx ds.length ds.length hi = ds.length) : cutL ds lo hi = ds := by
  unfold cutL
  rw [h.1, h.2]
  simp
def eSl (f : En → Option PyData) (l h : En → Option (Option Int)) : En → Option PyData := fun env => match f env with
  | some x => match l env with
    | some lo => match h env with
      | some hi => slG x lo hi
      | none => none
    | none => none
  | none => none
theorem ce_sl {lo hi : Option Expr} {p2 : Pos} {l h : En → Option (Option Int)} (ha : PE X a (tE X.K c f)) (hl : PO X lo (tOp' X.K l)) (hh : PO X hi (tOp' X.K h)) : PE X (.Subscript a (.Slice lo hi none p2) pos) (tE X.K c (eSl f l h)) := pe_w (pe_slice sl_X ha hl hh) fun σ H Q ⟨S0, H0, A, env, d, E, hf, q⟩ => by
  unfold eSl at hf
  split at hf
  · rename_i x hx
    split at hf
    · rename_i lo' hlo
      split at hf
      · rename_i hi' hhi
        refine ⟨S0, H0, A, env, x, E, hx, fun v H1 s1 r1 => ⟨S0, H0, A, env, lo', E.grow s1, hlo, fun H2 s2 => ⟨S0, H0, A, env, hi', (E.grow s1).grow s2, hhi, fun H3 s3 => ?_⟩⟩⟩
        have sm := (s1.trans s2).trans s3
        have r3 := (r1.grow s2).grow s3
        unfold slG at hf
        split at hf
        · cases hf
          rw [Rp] at r3
          obtain ⟨m, us, rfl, k, r⟩ := r3
          refine .inl ⟨m, us, rfl, k.sq, fun p hp => q _ _ (sm.trans (same_new hp)) ?_⟩
          rw [Rp]
          exact ⟨p, _, rfl, .inl ⟨sc_new (E.grow sm) hp, .inl upd_same⟩, (cut_rp r _ _).grow (same_new hp)⟩
        · cases hf
          have r3' := r3
          rw [Rp] at r3
          obtain ⟨m, us, rfl, k, r⟩ := r3
          refine .inr (.inl ⟨m, us, rfl, live_t k, fun w => ?_, fun _ p hp => q _ _ (sm.trans (same_new hp)) ?_⟩)
          · rw [r.length] at w
            rw [cut_whole w] at q
            exact q _ H3 sm r3'
          · rw [Rp]
            exact ⟨p, _, rfl, upd_same, (cut_rp r _ _).grow (same_new hp)⟩
        · split at hf
          · rename_i z hz
            cases hf
            rw [Rp] at r3
            subst r3
            exact .inr (.inr ⟨z, rfl, sz6 hz, q _ H3 sm rps⟩)
          · cases hf
        · cases hf
      · cases hf
    · cases hf
  · cases hf
end
end Mir

namespace Mir
open PySem PySem.Spec PyProof.Rows L2
theorem hu65 {k : Nat} {A : Around} (r : Room k A) : A.units + 65 < cLine := by
  have := r.un
  omega
abbrev tNilE : TE := tC .non
section
variable {X : Cx} {a b e : Expr} {es : List Expr} {pos p : Pos} {st : Stmt} {c c1 c2 : Bool} {f g : En → Option PyData} {fa : En → Option (List PyData)} {fb : En → Option Bool} {K : PySem.W.Frag}
theorem ct_chain {k1 k2 : Int → Int → Bool} {h : En → Option PyData} (he : PT X e (tTest (tChain (rI0 fun i j => .bl (k1 i j)) (rI0 fun i j => .bl (k2 i j)) (tE X.K c f) (tE X.K c1 g) (tE X.K c2 h)))) : PT X e (tT X.K (t1 (chI k1 k2 f g h))) := pt_w he fun σ H Q ⟨S0, H0, A, env, d, E, hf, q⟩ => by
  have hf := t1_some hf
  unfold chI at hf
  split at hf
  · rename_i i hi
    split at hf
    · rename_i j hj
      refine ⟨S0, H0, A, env, _, E, hi, fun v H1 s1 r1 => ⟨S0, H0, A, env, _, E.grow s1, hj, fun u H2 s2 r2 => ?_⟩⟩
      rw [Rp] at r1 r2
      subst r1 r2
      refine ⟨i, j, rfl, rfl, k1 i j, rfl, ?_⟩
      by_cases hk : k1 i j = true
      · rw [if_pos hk] at hf
        rw [hk, if_pos rfl]
        split at hf
        · rename_i m hm
          cases hf
          refine ⟨S0, H0, A, env, _, (E.grow s1).grow s2, hm, fun w H3 s3 r3 => ?_⟩
          rw [Rp] at r3
          subst r3
          exact ⟨j, m, rfl, rfl, _, rfl, q H3 ((s1.trans s2).trans s3)⟩
        · cases hf
      · rw [if_neg hk] at hf
        cases hf
        rw [if_neg hk]
        exact ⟨_, rfl, q H2 (s1.trans s2)⟩
    · cases hf
  · cases hf
theorem ce_l' {t : TE} (h : ∀ σ H Q, tF K c fa σ H Q → t σ H Q) {σ : L2.St} {H : Hp} {Q : VK} (q : tE K c (eL fa) σ H Q) : t σ H Q := by
  obtain ⟨S0, H0, A, env, d, E, hf, q⟩ := q
  unfold eL at hf
  cases hd : fa env with
  | none => rw [hd] at hf; cases hf
  | some ds =>
    rw [hd] at hf
    cases hf
    refine h _ _ _ ⟨S0, H0, A, env, ds, E, hd, fun p xs H' hn s hp r => q _ H' s ?_⟩
    rw [Rp]
    exact ⟨p, xs, rfl, .inl ⟨sc_new E hn, .inl hp⟩, r.wide fun _ z => z.1⟩
theorem cs_lcV {i : Nat} {c : Bool} {f : En → Option (List PyData)} {g : PyData → En → Option En} {ga : En → Option Bool} {fe : En → Option PyData} {is : List Nat} (h : PS X st (tAsg (tLc (tI X.K c f) (tG X.K is g) (tT X.K ga) (tE X.K true fe) is) (gName i))) : PS X st (tS X.K (sSet i (eL (fCmp is f g ga fe)))) :=
  ps_w h fun D σ H q => ce_l' (c := true) (fun _ _ _ z => lc_run (fun _ _ _ z => z) z) (set_run q)
theorem cs_lcV1 {i : Nat} {c : Bool} {f : En → Option (List PyData)} {g : PyData → En → Option En} {fe : En → Option PyData} {is : List Nat} (h : PS X st (tAsg (tLc (tI X.K c f) (tG X.K is g) tYes (tE X.K true fe) is) (gName i))) : PS X st (tS X.K (sSet i (eL (fCmp is f g tYes' fe)))) :=
  ps_w h fun D σ H q => ce_l' (c := true) (fun _ _ _ z => lc_run (fun _ _ _ z => yes_run z) z) (set_run q)
end
/-! any, all, sum -/
def boolsD : List PyData → Option (List Bool)
  | [] => some []
  | .bool i :: ds => match boolsD ds with
    | some ns => some (i :: ns)
    | none => none
  | _ :: _ => none
theorem boolsD_rp {K : PySem.W.Frag} {S : Addr → Prop} {H : Hp} : ∀ {ds : List PyData} {ns : List Bool} {xs : List V}, boolsD ds = some ns → RpA K S H ds xs → xs = ns.map V.bl
  | [], ns, xs, h, r => by
    rw [RpA] at r
    cases h
    exact r
  | .bool i :: ds, ns, xs, h, r => by
    rw [RpA] at r
    obtain ⟨v, r', rfl, h1, h2⟩ := r
    rw [Rp] at h1
    simp only [boolsD] at h
    split at h
    · rename_i ms hm
      cases h
      have e1 := boolsD_rp hm h2
      subst h1
      rw [e1]; rfl
    · cases h
  | .none :: _, _, _, h, _ => by cases h
  | .str _ :: _, _, _, h, _ => by cases h
  | .int _ :: _, _, _, h, _ => by cases h
  | .list _ :: _, _, _, h, _ => by cases h
  | .tuple _ :: _, _, _, h, _ => by cases h
  | .dict _ :: _, _, _, h, _ => by cases h
theorem boolsD_map : ∀ ns : List Bool, boolsD (ns.map PyData.bool) = some ns
  | [] => rfl
  | n :: ns => by
    show (match boolsD (ns.map PyData.bool) with | some ns => some (n :: ns) | none => none) = _
    rw [boolsD_map ns]
def anyA : List PyData → Option PyData
  | [.list ds] => (boolsD ds).map fun bs => .bool (bs.any id)
  | _ => none
def allA : List PyData → Option PyData
  | [.list ds] => (boolsD ds).map fun bs => .bool (bs.all id)
  | _ => none
def sumA : List PyData → Option PyData
  | [.list ds] => (intsD ds).map fun ns => .int ns.sum
  | _ => none
theorem cr_any' {K : PySem.W.Frag} : CROk K true (rAny K) anyA := by
  intro S S' H vs ds d Q _ _ r h q
  unfold anyA at h
  split at h
  · obtain ⟨v, rfl, r1⟩ := r.one
    rw [Rp] at r1
    obtain ⟨a, xs, rfl, hs, ra⟩ := r1
    rename_i es
    cases hb : boolsD es with
    | none => rw [hb] at h; cases h
    | some bs =>
      rw [hb] at h
      cases h
      have e1 := boolsD_rp hb ra
      subst e1
      exact ⟨a, bs, rfl, hs.sq, q _ H (Same.refl H) rpb⟩
  · cases h
theorem cr_all' {K : PySem.W.Frag} : CROk K true (rAll K) allA := by
  intro S S' H vs ds d Q _ _ r h q
  unfold allA at h
  split at h
  · obtain ⟨v, rfl, r1⟩ := r.one
    rw [Rp] at r1
    obtain ⟨a, xs, rfl, hs, ra⟩ := r1
    rename_i es
    cases hb : boolsD es with
    | none => rw [hb] at h; cases h
    | some bs =>
      rw [hb] at h
      cases h
      have e1 := boolsD_rp hb ra
      subst e1
      exact ⟨a, bs, rfl, hs.sq, q _ H (Same.refl H) rpb⟩
  · cases h
theorem cr_sum' {K : PySem.W.Frag} : CROk K true (rSum K) sumA := by
  intro S S' H vs ds d Q _ _ r h q
  unfold sumA at h
  split at h
  · obtain ⟨v, rfl, r1⟩ := r.one
    rw [Rp] at r1
    obtain ⟨a, xs, rfl, hs, ra⟩ := r1
    rename_i es
    cases hb : intsD es with
    | none => rw [hb] at h; cases h
    | some ns =>
      rw [hb] at h
      cases h
      obtain ⟨e1, _⟩ := intsD_rp hb ra
      subst e1
      exact ⟨a, ns, rfl, hs.sq, q _ H (Same.refl H) rp1⟩
  · cases h
/-- the law's own end -/
theorem ints_rp {K : PySem.W.Frag} {S : Addr → Prop} {H : Hp} : ∀ ns : List Int, RpA K S H (ns.map PyData.int) (ns.map V.int)
  | [] => RpA.nil
  | n :: ns => RpA.cons rp1 (ints_rp ns)
theorem law_end {K : PySem.W.Frag} {H : Hp} {a : Addr} {ns : List Int} {g : List PyData → Option PyData} {E : XK} (h : SqL K H a (ns.map V.int)) (e : g [.list (ns.map .int)] = some (.bool true)) : spF K g [.ref a] H (fun v _ => v = .bl true) E := by
  refine ⟨fun _ => True, _, _, RpA.cons ?_ RpA.nil, e, fun v H' _ r => by rw [Rp] at r; exact r⟩
  rw [Rp]
  exact ⟨a, _, rfl, LsAt.of trivial h, ints_rp ns⟩
end Mir

namespace Mir
open PySem PySem.Spec PyProof.Rows L2
/-! ### enumerate over a tuple -/
theorem called_any {c : Value} {M : Model} {A : Around} {E : Value → Shared → Prop} {s : Shared} {Q : Bool → Shared → Prop} (h : ∀ b, Q b s) : wpAny M A (Builtin.SmallTypes.calledThroughType c) Q E s :=
  wpAny_bind (wpAny_stack_any fun st => wpAny_pure (h _))
theorem meets_enumT {v : Value} {o : Obj} {HH : Heap → Prop} (B : Begins v o HH) :
    Meets (Builtin.«enumerate.__new__» { pos := [Value.type "enumerate", v] }) fun x R s =>
      HH s.heap ∧ R (Except.ok (Flow.ret (Value.ref (s.heap.push o).objs.size)))
        { heap := (s.heap.push o).push { cls := Value.type "enumerate", data := Data.fields #[Value.none, Value.bool false, Value.ref s.heap.objs.size, rawInt 0, Value.none, Value.none] },
          gens := s.gens, drawn := s.drawn, toks := s.toks, os := s.os } := by
  refine Meets.of_wp fun prog w A R s h => ?_
  obtain ⟨hp, g, d, tk, os⟩ := s
  obtain ⟨h1, h⟩ := h
  have hsub := sub_enumerate
  refine wpAny_bind (wpAny_bind (wpAny_pure (wpAny_ite_false (by decide) (wpAny_bind (wpAny_of_eq hsub (wpAny_ite_false (by decide) (wpAny_pure (wpAny_ite_true (by decide) (wpAny_bind (called_any fun sh => ?_))))))))))
  have key : wpAny (model prog w) A.in1 (do
      let x ← pyIter v
      let y ← Builtin.SmallTypes.newRecord (Value.type "enumerate") (Builtin.SmallTypes.ownedTupleFields ++ [x, rawInt 0, Value.none, Value.none])
      ret y) (fun fin s' => ∃ v, fin = Fin.done (Flow.ret v) ∧ R (Except.ok (Flow.ret v)) s') (fun e s' => R (Except.error e) s') { heap := hp, gens := g, drawn := d, toks := tk, os := os } := by
    refine wpAny_bind (B.iter prog w _ _ _ _ h1 (wpAny_bind ?_))
    exact wpAny_bind (wpAny_alloc (wpAny_pure (wpAny_pure ⟨_, rfl, h⟩)))
  cases sh
  · exact wpAny_ite_false (by decide) (wpAny_bind (wpAny_of_eq (show _ = pure (v, none) from rfl) key))
  · exact wpAny_ite_true (by decide) (wpAny_bind (wpAny_of_eq (show _ = pure (v, none) from rfl) key))
theorem call_enumT {prog : Program} {w : World} {A : Around} {E : Value → Shared → Prop} {s : Shared} {v : Value} {o : Obj} {HH : Heap → Prop} {Q : Value → Shared → Prop} (B : Begins v o HH) (h1 : HH s.heap)
    (h : ∀ h' : Heap, IsEnum h' (s.heap.objs.size + 1) s.heap.objs.size 0 Value.none → h'.get? s.heap.objs.size = some o → h'.objs.size = s.heap.objs.size + 2 → (∀ (b : Addr) (o : Obj), s.heap.get? b = some o → h'.get? b = some o) →
      Q (Value.ref (s.heap.objs.size + 1)) { heap := h', gens := s.gens, drawn := s.drawn, toks := s.toks, os := s.os }) :
    wpAny (model prog w) A (call (Value.type "enumerate") [v]) Q E s := by
  refine callType_new F.called_enumerate (by decide) (F.typeCall_enumerate_1 v) (F.newCall_enumerate_1 v) (fun obj => F.args_object_init_2 obj v) F.entry_enumerate_new (meets_enumT B) ⟨h1, ?_⟩
  have hz := Heap.size_push s.heap o
  have he := Heap.get?_push_size (s.heap.push o) (o := { cls := Value.type "enumerate", data := Data.fields #[Value.none, Value.bool false, Value.ref s.heap.objs.size, rawInt 0, Value.none, Value.none] }) rfl
  rw [hz] at he
  show _ ∧ _
  rw [hz]
  refine ⟨⟨_, he, rfl⟩, h _ he (Heap.get?_push_of_some _ (Heap.get?_push_size s.heap B.free)) ?_ fun b o' x => Heap.get?_push_of_some _ (Heap.get?_push_of_some _ x)⟩
  rw [Heap.size_push, hz]

def IteT (K : PySem.W.Frag) (a : Addr) (n : Nat) : It where
  go := fun i H => ∃ xs x, SqT K H a xs ∧ xs.length = n ∧ xs[i]? = some x
  yld := fun i H v H' => ∃ T x, v = .ref T ∧ H T = none ∧ H' = upd H T (.tup [.int (i : Nat), x]) ∧ ∀ xs : List V, SqT K H a xs → xs[i]? = some x
  stop := fun i H => ∃ xs, SqT K H a xs ∧ xs.length = n ∧ n ≤ i
theorem turn_enumT {P : Program} {w : World} {K : PySem.W.Frag} {elts : List Expr} {kk : Nat} {tpos : Pos} (a e it : Addr) (n : Nat) :
    Turn P w K (.Tuple elts kk tpos) (IteT K a n) [e, it] e fun i h => (∃ old, IsEnum h e it (i : Nat) old) ∧ h.IsTupleIter it a i ∧ e ≠ it ∧ i ≤ n where
  mem := by simp
  obj := by
    rintro i h ⟨⟨old, he⟩, ⟨o, ho, hc, hd⟩, hne, hn⟩ b hb
    have e' : b = e ∨ b = it := by simpa using hb
    rcases e' with z | z
    · rw [z]; exact ⟨_, he, fun v q => nomatch q⟩
    · rw [z]; exact ⟨o, ho, fun v q => by rw [hd] at q; cases q⟩
  keep := by
    rintro i h h' ⟨⟨old, he⟩, hi, hne, hn⟩ k
    exact ⟨⟨old, k e (by simp) _ he⟩, Heap.IsTupleIter.at hi fun o q => k it (by simp) o q, hne, hn⟩
  item := by
    intro X hP hw hK hc i pins s σ H E I hf st hg
    subst hP hw hK
    obtain ⟨⟨old, he⟩, hit, hne, hn⟩ := st
    obtain ⟨xs, x, hq, hln, hx⟩ := hg
    obtain ⟨its, rv, p, hz⟩ := I.tuple hq
    obtain ⟨u, hu, ru⟩ := rv.get hx
    have hel := Heap.lt_size he
    have hil : it < s.heap.objs.size := by obtain ⟨w, q, _⟩ := hit; exact Heap.lt_size q
    have pT : s.heap.IsTuple a its.toArray := p
    have hai : a ≠ it := by
      intro z
      subst z
      obtain ⟨o1, q1, q2, _⟩ := hit
      obtain ⟨o2, r1, r2, _⟩ := pT
      rw [q1] at r1
      cases r1
      exact absurd (Value.type.inj (q2.symm.trans r2)) (by decide)
    have hea : e ≠ a := by
      intro z
      subst z
      obtain ⟨o2, r1, r2, _⟩ := pT
      have he' : s.heap.get? e = some _ := he
      rw [he'] at r1
      cases r1
      exact absurd (Value.type.inj r2) (by decide)
    have hlt : i < xs.length := (List.getElem?_eq_some_iff.mp hx).1
    have hlv : its.length = xs.length := by have := rv.length; omega
    refine wpAny_pyNext_enum_itemD (fp := [it, a]) (n := its.toArray.size) (Draws.tuple (A := X.A.in1) (show X.A.in1.handled = none from I.ok.hd hc) it a hai its.toArray) he ⟨hit, pT⟩ (by simp; omega) hne (by simp; exact ⟨hne, hea⟩) fun u' h' tk hP' ho hS hT hsz hk => ?_
    obtain ⟨hit', pT'⟩ := hS
    have hu' : u' = u := by
      have h1 : its[i]? = some u' := by simpa using hP'
      rw [hu] at h1
      cases h1
      rfl
    subst hu'
    refine ⟨_, rfl, wpAny_letOwnedTupleGo_enum ho fun h'' he' sb => ?_⟩
    have hT2 := (sb.2 s.heap.objs.size (Nat.ne_of_gt hel)).trans hT
    have new : ObjOk X.prog X.w (upd H s.heap.objs.size (.tup [.int (i : Nat), x])) h'' s.heap.objs.size (.tup [.int (i : Nat), x]) :=
      ⟨by show (2 : Nat) ≤ sizeLine; decide, [Value.int (i : Nat) tk, u'], .cons ⟨tk, rfl⟩ (.cons ru .nil), ⟨_, hT2, rfl, 0, rfl⟩⟩
    have I1 := I.turnedNew (t' := tk + 1) (ch := [e, it]) (fun b ob hb q => (sb.2 b fun z => hb (by simp [z])).trans (hk b ob (fun z => hb (by simp [z])) (fun z => hb (by simp [z])) q)) hf (Nat.le_refl s.heap.objs.size) new
    refine ⟨.ref s.heap.objs.size, _, I1, rfl, ⟨_, x, rfl, I.hok.fresh (Nat.le_refl _), rfl, fun ys hy => by rw [I.tuple_inj hy hq]; exact hx⟩, ⟨⟨u', ?_⟩, Heap.IsTupleIter.at hit' fun o q => (sb.2 it (Ne.symm hne)).trans q, hne, by omega⟩, fun b hb => ?_⟩
    · show IsEnum h'' e it ((i + 1 : Nat) : Int) u'
      rw [show ((i + 1 : Nat) : Int) = (i : Nat) + 1 by omega]
      exact he'
    · have hb' : b < s.heap.objs.size := by
        have e' : b = e ∨ b = it := by simpa using hb
        rcases e' with z | z <;> (rw [z]; assumption)
      rw [upd_ne (Nat.ne_of_lt hb')]
      exact (hf b hb).1
  done := by
    intro X hP hw hK hc i pins s σ H E I hf st hg
    subst hP hw hK
    obtain ⟨⟨old, he⟩, hit, hne, hn⟩ := st
    obtain ⟨xs, hq, hln, hx⟩ := hg
    obtain ⟨its, rv, p, hz⟩ := I.tuple hq
    have pT : s.heap.IsTuple a its.toArray := p
    have hai : a ≠ it := by
      intro z
      subst z
      obtain ⟨o1, q1, q2, _⟩ := hit
      obtain ⟨o2, r1, r2, _⟩ := pT
      rw [q1] at r1
      cases r1
      exact absurd (Value.type.inj (q2.symm.trans r2)) (by decide)
    have hlv : its.length = xs.length := by have := rv.length; omega
    obtain ⟨f0, f1, f2, f3, f4, f5⟩ := hf it (by simp)
    have hin : its.toArray.size = i := by simp; omega
    refine wpAny_pyNext_enum_endD (fp := [it, a]) (n := its.toArray.size) (Draws.tuple (A := X.A.in1) (show X.A.in1.handled = none from I.ok.hd hc) it a hai its.toArray) he ⟨by rw [hin]; exact hit, pT⟩ fun h' eb => ⟨rfl, I.turned (fun b o hb q => eb b o hb q) f0 f1 f3 f4 f5⟩
  self := by
    rintro A i s Q E ⟨⟨old, he⟩, _⟩ h
    exact wpAny_pyIter_enum he h
def iEnumA (K : PySem.W.Frag) (ta : TA) : TI := fun σ H R => ta σ H fun vs H1 => ∃ a xs, vs = [.ref a] ∧ ((SqL K H1 a xs ∧ R (Ite K a) H1) ∨ (SqT K H1 a xs ∧ R (IteT K a xs.length) H1))
theorem pi_enumA {X : Cx} {e : Expr} {ta : TA} {p pos tpos : Pos} {elts : List Expr} {kk : Nat} (hg : Gl X "enumerate") (hm : X.mg "enumerate" = none) (ha : PA X [e] ta) (hs : starEach [e] X.env = [(false, eval e X.env)] := by rfl) :
    PI X (.Tuple elts kk tpos) (.Call (.Name "enumerate" p) [e] [] pos) (iEnumA X.K ta) := by
  constructor
  intro pins s σ H R I h
  refine Call_ (ld_blt I hg hm boot_enumerate (PyProof.Rows.callWith_type1 (thn (ha.run pos pins s σ H _ I h) ?_) (by rw [hs]; rfl)))
  rintro us s1 ⟨vs, H1, I1, r1, a, xs, rfl, q⟩
  cases r1 with
  | cons r rr =>
    cases rr
    cases r
    rcases q with ⟨hq, q⟩ | ⟨hq, q⟩
    · obtain ⟨its, rv, pl, hz⟩ := I1.list hq
      refine call_enumerate_list pl.isList fun h' he hi hsz hk => ?_
      refine wpAny_pyIter_enum he ⟨s1.heap.objs.size + 1, [s1.heap.objs.size + 1, s1.heap.objs.size], _, _, H1, rfl, I1.kept (t' := s1.toks) hk, turn_enum a _ _, ⟨⟨_, he⟩, hi, Nat.succ_ne_self _⟩, ?_, q⟩
      intro b hb
      have e' : b = s1.heap.objs.size + 1 ∨ b = s1.heap.objs.size := by simpa using hb
      have hb : s1.heap.objs.size ≤ b := by
        rcases e' with z | z
        · rw [z]; exact Nat.le_succ _
        · rw [z]; exact Nat.le_refl _
      exact I1.fpOk hb (I1.hok.fresh hb)
    · obtain ⟨its, rv, pl, hz⟩ := I1.tuple hq
      refine call_enumT (begins_tuple a its.toArray) (show s1.heap.IsTuple a its.toArray from pl) fun h' he hi hsz hk => ?_
      refine wpAny_pyIter_enum he ⟨s1.heap.objs.size + 1, [s1.heap.objs.size + 1, s1.heap.objs.size], _, _, H1, rfl, I1.kept (t' := s1.toks) hk, turn_enumT a _ _ xs.length, ⟨⟨_, he⟩, ⟨_, hi, rfl, rfl⟩, Nat.succ_ne_self _, Nat.zero_le _⟩, ?_, q⟩
      intro b hb
      have e' : b = s1.heap.objs.size + 1 ∨ b = s1.heap.objs.size := by simpa using hb
      have hb : s1.heap.objs.size ≤ b := by
        rcases e' with z | z
        · rw [z]; exact Nat.le_succ _
        · rw [z]; exact Nat.le_refl _
      exact I1.fpOk hb (I1.hok.fresh hb)

/-! ### enumerate, zip as readings -/
section
variable {K : PySem.W.Frag} {X : Cx} {tg iter : Expr}
def enumD : Nat → List PyData → List PyData
  | _, [] => []
  | k, d :: ds => .tuple [.int (k : Nat), d] :: enumD (k + 1) ds
theorem enumD_len : ∀ (ds : List PyData) (k : Nat), (enumD k ds).length = ds.length
  | [], _ => rfl
  | _ :: ds, k => by rw [enumD, List.length_cons, List.length_cons, enumD_len ds]
theorem enumD_get : ∀ (ds : List PyData) (k i : Nat) (d : PyData), (enumD k ds)[i]? = some d → ∃ x, ds[i]? = some x ∧ d = .tuple [.int ((k + i : Nat) : Int), x]
  | [], _, i, d, h => by simp [enumD] at h
  | x :: ds, k, 0, d, h => by
    simp [enumD] at h
    exact ⟨x, rfl, by rw [← h]; rfl⟩
  | x :: ds, k, i + 1, d, h => by
    rw [enumD, List.getElem?_cons_succ] at h
    obtain ⟨y, h1, h2⟩ := enumD_get ds (k + 1) i d h
    exact ⟨y, by simpa using h1, by rw [h2, show k + 1 + i = k + (i + 1) by omega]⟩
theorem pair_rp {S : Addr → Prop} {H : Hp} {T : Addr} {d e : PyData} {u v : V} (hT : H T = none) (h1 : Rp K S H d u) (h2 : Rp K S H e v) : Rp K S (upd H T (.tup [u, v])) (.tuple [d, e]) (.ref T) := by
  rw [Rp]
  exact ⟨T, [u, v], rfl, upd_same, RpA.cons (h1.grow (same_new hT)) (RpA.cons (h2.grow (same_new hT)) RpA.nil)⟩
theorem wk_enumL {a : Addr} {xs : List V} {ds : List PyData} {S : Addr → Prop} : Wk K (Ite K a) (fun H => SqL K H a xs ∧ RpA K S H ds xs) S (enumD 0 ds) where
  go := fun i H g l => by
    rw [enumD_len] at l
    exact ⟨xs, xs[i]'(by rw [g.2.length]; exact l), g.1, by rw [List.getElem?_eq_getElem]⟩
  yld := fun i H d x H' g e y => by
    obtain ⟨T, x', rfl, hT, rfl, hx⟩ := y
    obtain ⟨z, h1, rfl⟩ := enumD_get ds 0 i d e
    rw [Nat.zero_add]
    exact ⟨same_new hT, pair_rp hT (by rw [Rp]) (g.2.at h1 (hx xs g.1))⟩
  stop := fun i H g l => ⟨xs, g.1, by rw [g.2.length]; rw [enumD_len] at l; exact l⟩
theorem wk_enumT {a : Addr} {xs : List V} {ds : List PyData} {S : Addr → Prop} : Wk K (IteT K a xs.length) (fun H => H a = some (.tup xs) ∧ RpA K S H ds xs) S (enumD 0 ds) where
  go := fun i H g l => by
    rw [enumD_len] at l
    exact ⟨xs, xs[i]'(by rw [g.2.length]; exact l), live_t g.1, rfl, by rw [List.getElem?_eq_getElem]⟩
  yld := fun i H d x H' g e y => by
    obtain ⟨T, x', rfl, hT, rfl, hx⟩ := y
    obtain ⟨z, h1, rfl⟩ := enumD_get ds 0 i d e
    rw [Nat.zero_add]
    exact ⟨same_new hT, pair_rp hT (by rw [Rp]) (g.2.at h1 (hx xs (live_t g.1)))⟩
  stop := fun i H g l => ⟨xs, live_t g.1, rfl, by rw [g.2.length]; rw [enumD_len] at l; exact l⟩
def iEnm (fa : En → Option (List PyData)) : En → Option (List PyData) := fun env => match fa env with
  | some [.list ds] => some (enumD 0 ds)
  | some [.tuple ds] => some (enumD 0 ds)
  | _ => none
theorem ci_enum {fa : En → Option (List PyData)} (h : PI X tg iter (iEnumA X.K (tA X.K true fa))) : PI X tg iter (tI X.K true (iEnm fa)) := pi_w h fun σ H R ⟨S0, H0, A, env, ds, E, hf, q⟩ => by
  unfold iEnm at hf
  split at hf
  · rename_i es hd
    cases hf
    refine ⟨S0, H0, A, env, _, E, hd, fun vs H1 s r => ?_⟩
    obtain ⟨v, rfl, r1⟩ := r.one
    rw [Rp] at r1
    obtain ⟨a, xs, rfl, hs, ra⟩ := r1
    have ra' : RpA X.K (Cl S0 H0 A) H1 es xs := ra.wide fun _ z => cl_sc z
    exact ⟨a, xs, rfl, .inl ⟨hs.sq, q _ H1 _ s (fun H2 s2 => ⟨s2.seq hs.sq, ra'.sm s2⟩) (fun _ H2 f2 => ⟨hs.imp (fun z => fr_rd f2 (cl_sc z.1).2 z.2) id, ra'.fr (E.grow s) f2 fun _ z => z.2⟩) wk_enumL⟩⟩
  · rename_i es hd
    cases hf
    refine ⟨S0, H0, A, env, _, E, hd, fun vs H1 s r => ?_⟩
    obtain ⟨v, rfl, r1⟩ := r.one
    rw [Rp] at r1
    obtain ⟨a, xs, rfl, hs, ra⟩ := r1
    have ra' : RpA X.K (Cl S0 H0 A) H1 es xs := ra.wide fun _ z => cl_sc z
    exact ⟨a, xs, rfl, .inr ⟨live_t hs, q _ H1 _ s (fun H2 s2 => ⟨same_t s2 hs, ra'.sm s2⟩) (fun _ H2 f2 => ⟨fr_t (E.grow s) f2 hs, ra'.fr (E.grow s) f2 fun _ z => z.2⟩) wk_enumT⟩⟩
  · cases hf
def zipD : List PyData → List PyData → List PyData
  | d :: ds, e :: es => .tuple [d, e] :: zipD ds es
  | _, _ => []
theorem zipD_len : ∀ (ds es : List PyData), (zipD ds es).length = min ds.length es.length
  | [], [] => rfl
  | [], _ :: _ => by simp [zipD]
  | _ :: _, [] => by simp [zipD]
  | d :: ds, e :: es => by
    rw [zipD, List.length_cons, List.length_cons, List.length_cons, zipD_len ds es]
    omega
theorem zipD_get : ∀ (ds es : List PyData) (i : Nat) (d : PyData), (zipD ds es)[i]? = some d → ∃ x y, ds[i]? = some x ∧ es[i]? = some y ∧ d = .tuple [x, y]
  | [], [], i, d, h => by simp [zipD] at h
  | [], _ :: _, i, d, h => by simp [zipD] at h
  | _ :: _, [], i, d, h => by simp [zipD] at h
  | x :: ds, y :: es, 0, d, h => by
    simp [zipD] at h
    exact ⟨x, y, rfl, rfl, h.symm⟩
  | x :: ds, y :: es, i + 1, d, h => by
    rw [zipD, List.getElem?_cons_succ] at h
    obtain ⟨u, v, h1, h2, h3⟩ := zipD_get ds es i d h
    exact ⟨u, v, by simpa using h1, by simpa using h2, h3⟩
theorem wk_zipL {a b : Addr} {xs ys : List V} {ds es : List PyData} {S : Addr → Prop} : Wk K (Itz K a b) (fun H => (SqL K H a xs ∧ RpA K S H ds xs) ∧ SqL K H b ys ∧ RpA K S H es ys) S (zipD ds es) where
  go := fun i H g l => by
    rw [zipD_len] at l
    exact ⟨xs, ys, xs[i]'(by rw [g.1.2.length]; omega), ys[i]'(by rw [g.2.2.length]; omega), g.1.1, g.2.1, by rw [List.getElem?_eq_getElem], by rw [List.getElem?_eq_getElem]⟩
  yld := fun i H d x H' g e y => by
    obtain ⟨T, x', y', rfl, hT, rfl, hx, hy⟩ := y
    obtain ⟨u, v, h1, h2, rfl⟩ := zipD_get ds es i d e
    exact ⟨same_new hT, pair_rp hT (g.1.2.at h1 (hx xs g.1.1)) (g.2.2.at h2 (hy ys g.2.1))⟩
  stop := fun i H g l => ⟨xs, ys, g.1.1, g.2.1, by rw [g.1.2.length, g.2.2.length]; rw [zipD_len] at l; omega⟩
theorem wk_zipT {a b : Addr} {xs ys : List V} {ds es : List PyData} {S : Addr → Prop} : Wk K (RZ.ItzT K a b) (fun H => (H a = some (.tup xs) ∧ RpA K S H ds xs) ∧ H b = some (.tup ys) ∧ RpA K S H es ys) S (zipD ds es) where
  go := fun i H g l => by
    rw [zipD_len] at l
    exact ⟨xs, ys, xs[i]'(by rw [g.1.2.length]; omega), ys[i]'(by rw [g.2.2.length]; omega), live_t g.1.1, live_t g.2.1, by rw [List.getElem?_eq_getElem], by rw [List.getElem?_eq_getElem]⟩
  yld := fun i H d x H' g e y => by
    obtain ⟨T, x', y', rfl, hT, rfl, hx, hy⟩ := y
    obtain ⟨u, v, h1, h2, rfl⟩ := zipD_get ds es i d e
    exact ⟨same_new hT, pair_rp hT (g.1.2.at h1 (hx xs (live_t g.1.1))) (g.2.2.at h2 (hy ys (live_t g.2.1)))⟩
  stop := fun i H g l => ⟨xs, ys, live_t g.1.1, live_t g.2.1, by rw [g.1.2.length, g.2.2.length]; rw [zipD_len] at l; omega⟩
def iZp (fa : En → Option (List PyData)) : En → Option (List PyData) := fun env => match fa env with
  | some [.list ds, .list es] => some (zipD ds es)
  | some [.tuple ds, .tuple es] => some (zipD ds es)
  | _ => none
theorem ci_zip {fa : En → Option (List PyData)} (h : PI X tg iter (RZ.iZipA X.K (tA X.K true fa))) : PI X tg iter (tI X.K true (iZp fa)) := pi_w h fun σ H R ⟨S0, H0, A, env, ds, E, hf, q⟩ => by
  unfold iZp at hf
  split at hf
  · rename_i es fs hd
    cases hf
    refine ⟨S0, H0, A, env, _, E, hd, fun vs H1 s r => ?_⟩
    obtain ⟨v, u, rfl, r1, r2⟩ := r.two
    rw [Rp] at r1 r2
    obtain ⟨a, xs, rfl, hs, ra⟩ := r1
    obtain ⟨b, ys, rfl, ht, rb⟩ := r2
    have ra' : RpA X.K (Cl S0 H0 A) H1 es xs := ra.wide fun _ z => cl_sc z
    have rb' : RpA X.K (Cl S0 H0 A) H1 fs ys := rb.wide fun _ z => cl_sc z
    exact ⟨a, b, xs, ys, rfl, .inl ⟨hs.sq, ht.sq, q _ H1 _ s (fun H2 s2 => ⟨⟨s2.seq hs.sq, ra'.sm s2⟩, s2.seq ht.sq, rb'.sm s2⟩)
      (fun _ H2 f2 => ⟨⟨hs.imp (fun z => fr_rd f2 (cl_sc z.1).2 z.2) id, ra'.fr (E.grow s) f2 fun _ z => z.2⟩, ht.imp (fun z => fr_rd f2 (cl_sc z.1).2 z.2) id, rb'.fr (E.grow s) f2 fun _ z => z.2⟩) wk_zipL⟩⟩
  · rename_i es fs hd
    cases hf
    refine ⟨S0, H0, A, env, _, E, hd, fun vs H1 s r => ?_⟩
    obtain ⟨v, u, rfl, r1, r2⟩ := r.two
    rw [Rp] at r1 r2
    obtain ⟨a, xs, rfl, hs, ra⟩ := r1
    obtain ⟨b, ys, rfl, ht, rb⟩ := r2
    have ra' : RpA X.K (Cl S0 H0 A) H1 es xs := ra.wide fun _ z => cl_sc z
    have rb' : RpA X.K (Cl S0 H0 A) H1 fs ys := rb.wide fun _ z => cl_sc z
    exact ⟨a, b, xs, ys, rfl, .inr ⟨live_t hs, live_t ht, q _ H1 _ s (fun H2 s2 => ⟨⟨same_t s2 hs, ra'.sm s2⟩, same_t s2 ht, rb'.sm s2⟩)
      (fun _ H2 f2 => ⟨⟨fr_t (E.grow s) f2 hs, ra'.fr (E.grow s) f2 fun _ z => z.2⟩, fr_t (E.grow s) f2 ht, rb'.fr (E.grow s) f2 fun _ z => z.2⟩) wk_zipT⟩⟩
  · cases hf
end

/-! ### tuple * int, [x] * int, constants of the module -/
theorem mul_form (l : Addr) (u : Tok) : ∃ (X : Int → Sem PySem.Fin) (Z : Int → Array Value → Sem PySem.Fin), Builtin.«tuple.__mul__» { pos := [Value.ref l, Value.int 1 u] } =
    (asIndex (Value.int 1 u) >>= fun n => if (decide (n < -2 ^ 63) || decide (n ≥ 2 ^ 63)) = true then X n else
      (Builtin.Tuple.tupleItemsOf (Value.ref l) >>= fun xs => if (xs.isEmpty || n == 1) = true then (Builtin.Tuple.tupleIsExact (Value.ref l) >>= fun b => if b = true then (rule "tuple.repeat.same-object" >>= fun _ => ret (Value.ref l)) else Z n xs) else Z n xs)) := ⟨_, _, rfl⟩
theorem tuple_mul1 (l : Addr) (items : Array Value) (n : Nat) (dd : Option Addr) (sl : Array (Option Value)) (u : Tok) :
    Meets (Builtin.«tuple.__mul__» { pos := [Value.ref l, Value.int 1 u] }) fun x_1 R s =>
      s.heap.get? l = some { cls := Value.type "tuple", dict := dd, data := Data.seq items n, slots := sl } ∧ R (Except.ok (Flow.ret (Value.ref l))) s := by
  refine Meets.of_wp fun prog w A R s h => ?_
  obtain ⟨hp, g, d, tk, os⟩ := s
  obtain ⟨hl, h⟩ := h
  obtain ⟨X, Z, e⟩ := mul_form l u
  rw [e]
  refine wpAny_bind (wpAny_bind (wpAny_pure (wpAny_pure ?_)))
  refine wpAny_ite_false rfl ?_
  refine wpAny_bind (wpAny_bind (wpAny_bind (wpAny_load' hl (wpAny_pure (wpAny_pure ?_)))))
  refine wpAny_ite_true (by simp) ?_
  exact wpAny_bind (wpAny_bind (wpAny_bind (wpAny_loadPart' hl (wpAny_pure (wpAny_pure (wpAny_ite_true rfl (wpAny_bind (wpAny_rule (wpAny_pure ⟨_, rfl, h⟩)))))))))
def rRep1 (K : PySem.W.Frag) : R2 := fun x y H Q => ∃ l xs, x = .ref l ∧ y = .int 1 ∧ SqT K H l xs ∧ Q (.ref l) H
theorem op_rep1 {X : Cx} : OpR X (binaryOp .Mult) (rRep1 X.K) := by
  intro pins s σ H x y v u Q I rx ry h
  obtain ⟨l, xs, rfl, rfl, hT, q⟩ := h
  cases rx
  obtain ⟨t, rfl⟩ := ry
  obtain ⟨its, r, ⟨⟨c, dd, dt, sl⟩, ho, hc, n, hd⟩, hs⟩ := I.tuple hT
  dsimp only at hc hd
  subst hc
  subst hd
  exact wpAny_binaryOp_repeat_ref (by decide) ⟨_, ho, rfl⟩ (fun s' => typeIs_int s' 1 t) noFill_tuple_mul F.fills_int_mul F.slot_int_rmul repeat_tuple F.slot_int_index.lookup
    (call_meets F.slot_int_rmul (typeIs_int s 1 t) F.entry_int_rmul (F.args_int_rmul_2 (Value.int 1 t) (Value.ref l)) (int_rmul_tuple 1 t l its.toArray n dd sl)
      ⟨ho, rfl, ⟨_, ho, rfl⟩, call_meets F.slot_tuple_mul ⟨_, ho, rfl⟩ F.entry_tuple_mul (F.args_tuple_mul_2 (Value.ref l) (Value.int 1 t)) (tuple_mul1 l its.toArray n dd sl t) ⟨ho, ⟨.ref l, H, I, rfl, q⟩⟩⟩)

def rTm (K : PySem.W.Frag) : R2 := fun x y H Q => rRep1 K x y H Q ∨ rRepT K x y H Q
theorem op_tm {X : Cx} : OpR X (binaryOp .Mult) (rTm X.K) := by
  intro pins s σ H x y v u Q I rx ry h
  rcases h with h | h
  · exact op_rep1 pins s σ H x y v u Q I rx ry h
  · exact op_repT pins s σ H x y v u Q I rx ry h
def tmulD : PyData → PyData → Option PyData
  | .tuple ds, .int k => if k = 1 then some (.tuple ds) else if ds ≠ [] ∧ (2 ≤ k ∧ k ≤ 1000) ∧ ds.length ≤ 1000 then some (.tuple (List.replicate k.toNat ds).flatten) else none
  | _, _ => none
theorem RpA.rep {K : PySem.W.Frag} {S : Addr → Prop} {H : Hp} {ds : List PyData} {vs : List V} (h : RpA K S H ds vs) : ∀ n : Nat, RpA K S H (List.replicate n ds).flatten (List.replicate n vs).flatten
  | 0 => RpA.nil
  | n + 1 => by
    rw [List.replicate_succ, List.replicate_succ, List.flatten_cons, List.flatten_cons]
    exact h.append (RpA.rep h n)
theorem r2_tm {K : PySem.W.Frag} : R2Ok K false (rTm K) tmulD := by
  intro S S' H x y dx dy d Q hn hS rx ry h q
  have hS' : S' = S := hS.elim (fun z => nomatch z) id
  subst hS'
  cases dx with
  | tuple ds =>
   cases dy with
   | int k =>
    change (if k = 1 then some (.tuple ds) else if ds ≠ [] ∧ (2 ≤ k ∧ k ≤ 1000) ∧ ds.length ≤ 1000 then some (.tuple (List.replicate k.toNat ds).flatten) else none) = some d at h
    have rx0 := rx
    have ry1 : y = V.int k := by rw [Rp] at ry; exact ry
    have rx1 : ∃ a xs, x = .ref a ∧ H a = some (.tup xs) ∧ RpA K S' H ds xs := by rw [Rp] at rx; exact rx
    obtain ⟨a, xs, rfl, hs, ra⟩ := rx1
    subst ry1
    split at h
    · rename_i hk
      cases h
      subst hk
      exact .inl ⟨a, xs, rfl, rfl, live_t hs, q _ H (Same.refl H) rx0⟩
    · split at h
      · rename_i hc
        cases h
        refine .inr ⟨a, k, xs, rfl, rfl, live_t hs, fun e => hc.1 (List.eq_nil_of_length_eq_zero (by rw [← ra.length, e]; rfl)), hc.2.1.1, hc.2.1.2, by rw [ra.length]; exact hc.2.2, fun p hp => ?_⟩
        refine q _ _ (same_new hp) ?_
        rw [Rp]
        exact ⟨p, _, rfl, upd_same, (ra.rep _).grow (same_new hp)⟩
      · cases h
   | _ => cases h
  | _ => cases h
section
variable {X : Cx} {a b : Expr} {pos : Pos} {c : Bool} {f g : En → Option PyData}
theorem ce_tmul (ha : PE X a (tE X.K c f)) (hb : PE X b (tE X.K c g)) : PE X (.BinOp a .Mult b pos) (tE X.K c (e2 tmulD f g)) := ce_op op_tm r2_tm ha hb
def fRep (ff : En → Option (List PyData)) (g : En → Option PyData) : En → Option (List PyData) := fun env => match ff env with
  | some ds => match g env with
    | some (.int k) => if (-1000000 ≤ k ∧ k ≤ 1000000) ∧ ds.length * k.toNat ≤ 1000000 then some (List.replicate k.toNat ds).flatten else none
    | _ => none
  | none => none
theorem cf_rep {ff : En → Option (List PyData)} (ha : PE X a (tF X.K c ff)) (hb : PE X b (tE X.K true g)) : PE X (.BinOp a .Mult b pos) (tF X.K c (fRep ff g)) := pe_w (pe_op op_rep ha hb) fun σ H Q ⟨S0, H0, A, env, d, E, hf, q⟩ => by
  unfold fRep at hf
  split at hf
  · rename_i ds h1
    split at hf
    · rename_i k h2
      split at hf
      · rename_i hl
        cases hf
        refine ⟨S0, H0, A, env, _, E, h1, fun l us H1 hl1 s1 hl2 r1 => ⟨S0, H0, A, env, _, E.grow s1, h2, fun u H2 s2 r2 => ?_⟩⟩
        rw [Rp] at r2
        subst r2
        refine ⟨l, k, us, rfl, rfl, s2 _ _ hl2, by omega, by omega, by rw [r1.length]; exact sz6 hl.2, fun p hp => q p _ _ ((s1.trans s2).free hp) ((s1.trans s2).trans (same_new hp)) upd_same ?_⟩
        exact (((r1.rep _).grow s2).wide fun _ z => z.1).apart hp (same_new hp)
      · cases hf
    · cases hf
  · cases hf
end
end Mir

namespace Mir
open PySem PySem.Spec PyProof.Rows L2
/-! ### in over a tuple of plain values -/
def flatD : PyData → Bool
  | .none => true
  | .bool _ => true
  | .int _ => true
  | .str _ => true
  | _ => false
theorem flatD_rp {K : PySem.W.Frag} {S : Addr → Prop} {H : Hp} {d : PyData} {v : V} (h : flatD d = true) (r : Rp K S H d v) : flatV v = true := by
  cases d with
  | none => rw [Rp] at r; subst r; rfl
  | bool _ => rw [Rp] at r; subst r; rfl
  | int _ => rw [Rp] at r; subst r; rfl
  | str _ => rw [Rp] at r; subst r; rfl
  | list _ => cases h
  | tuple _ => cases h
  | dict _ => cases h
theorem eqD_V {K : PySem.W.Frag} {S : Addr → Prop} {H : Hp} {d e : PyData} {v u : V} (h : flatD d = true) (h' : flatD e = true) (r : Rp K S H d v) (r' : Rp K S H e u) : eqV v u = PyData.eqv d e := by
  cases d <;> cases e <;> first | (cases h; done) | (cases h'; done) | (rw [Rp] at r; rw [Rp] at r'; subst r; subst r'; simp [eqV, PyData.eqv])
theorem allflat_rp {K : PySem.W.Frag} {S : Addr → Prop} {H : Hp} : ∀ {ds : List PyData} {vs : List V}, ds.all flatD = true → RpA K S H ds vs → vs.all flatV = true
  | [], _, _, r => by rw [RpA] at r; subst r; rfl
  | d :: ds, _, h, r => by
    rw [RpA] at r
    obtain ⟨v, r', rfl, h1, h2⟩ := r
    rw [List.all_cons, Bool.and_eq_true] at h
    rw [List.all_cons, flatD_rp h.1 h1, allflat_rp h.2 h2]; rfl
theorem inV_rp {K : PySem.W.Frag} {S : Addr → Prop} {H : Hp} {x : PyData} {u : V} (hx : flatD x = true) (rx : Rp K S H x u) : ∀ {ds : List PyData} {vs : List V}, ds.all flatD = true → RpA K S H ds vs → inV u vs = ds.any fun z => PyData.eqv z x
  | [], _, _, r => by rw [RpA] at r; subst r; rfl
  | d :: ds, _, h, r => by
    rw [RpA] at r
    obtain ⟨v, r', rfl, h1, h2⟩ := r
    rw [List.all_cons, Bool.and_eq_true] at h
    have ih := inV_rp hx rx h.2 h2
    unfold inV at ih ⊢
    rw [List.any_cons, List.any_cons, ih, eqD_V h.1 hx h1 rx]
def inT (x : PyData) : PyData → Option PyData
  | .list ds => if (SeqAt.shaped x && SeqAt.shaped (.list ds)) = true then some (.bool (ds.any fun z => PyData.eqv z x)) else none
  | .tuple ds => if (flatD x && ds.all flatD) = true then some (.bool (ds.any fun z => PyData.eqv z x)) else none
  | _ => none
def notInT (x y : PyData) : Option PyData := match inT x y with
  | some (.bool b) => some (.bool (!b))
  | _ => none
theorem r2_inT {K : PySem.W.Frag} : R2Ok K true (fun x y H Q => rInD K x y H Q ∨ rIn K false x y H Q) inT := by
  intro S S' H x y dx dy d Q hn hS rx ry h q
  unfold inT at h
  split at h
  · split at h
    · rename_i hs
      rw [Bool.and_eq_true] at hs
      cases h
      exact .inl ⟨_, _, rx.dp hs.1, ry.dp hs.2, hs.1, hs.2, q _ H (Same.refl H) rpb⟩
    · cases h
  · split at h
    · rename_i hs
      rw [Bool.and_eq_true] at hs
      cases h
      rw [Rp] at ry
      obtain ⟨a, xs, rfl, ht, ra⟩ := ry
      refine .inr ⟨a, xs, rfl, .inr (live_t ht), flatD_rp hs.1 rx, allflat_rp hs.2 ra, ?_⟩
      show Q (.bl (inV x xs)) H
      rw [inV_rp hs.1 rx hs.2 ra]
      exact q _ H (Same.refl H) rpb
    · cases h
  · cases h
theorem r2_notInT {K : PySem.W.Frag} : R2Ok K true (fun x y H Q => rNotInD K x y H Q ∨ rIn K true x y H Q) notInT := by
  intro S S' H x y dx dy d Q hn hS rx ry h q
  unfold notInT inT at h
  split at h
  · rename_i b hb
    split at hb
    · split at hb
      · rename_i hs
        rw [Bool.and_eq_true] at hs
        cases hb
        cases h
        exact .inl ⟨_, _, rx.dp hs.1, ry.dp hs.2, hs.1, hs.2, q _ H (Same.refl H) rpb⟩
      · cases hb
    · split at hb
      · rename_i hs
        rw [Bool.and_eq_true] at hs
        cases hb
        cases h
        rw [Rp] at ry
        obtain ⟨a, xs, rfl, ht, ra⟩ := ry
        refine .inr ⟨a, xs, rfl, .inr (live_t ht), flatD_rp hs.1 rx, allflat_rp hs.2 ra, ?_⟩
        show Q (.bl (!inV x xs)) H
        rw [inV_rp hs.1 rx hs.2 ra]
        exact q _ H (Same.refl H) rpb
      · cases hb
    · cases hb
  · cases h
theorem op_inT {X : Cx} (hu : X.A.units + 65 < cLine) : OpR X (compareOp .In) (fun x y H Q => rInD X.K x y H Q ∨ rIn X.K false x y H Q) := OpR.or (op_inD hu) op_in_seq
theorem op_notInT {X : Cx} (hu : X.A.units + 65 < cLine) : OpR X (compareOp .NotIn) (fun x y H Q => rNotInD X.K x y H Q ∨ rIn X.K true x y H Q) := OpR.or (op_notInD hu) op_notIn_seq

/-! ### x[::k], k 1 or -1 -/
theorem places_back (n : Nat) : Builtin.Slice.slicePlaces ((n : Int) - 1) (-1) (-1) = n := by
  unfold Builtin.Slice.slicePlaces
  have h1 : ¬ ((-1 : Int) > 0) := by omega
  rw [if_neg h1, show (-(-1) : Int) = 1 from rfl]
  split <;> omega
theorem pick_back (xs : Array Value) : ((List.range xs.size).filterMap fun (m : Nat) => xs[((xs.size : Int) - 1 + (m : Int) * (-1)).toNat]?).toArray = xs.toList.reverse.toArray := by
  have e : ∀ m ∈ List.range xs.size, xs[((xs.size : Int) - 1 + (m : Int) * (-1)).toNat]? = xs.toList.reverse[m]? := fun m hm => by
    have hm' := List.mem_range.mp hm
    rw [show ((xs.size : Int) - 1 + (m : Int) * (-1)).toNat = xs.size - 1 - m by omega, List.getElem?_reverse (by rw [Array.length_toList]; exact hm'), Array.length_toList, Array.getElem?_toList]
  congr 1
  have fc : ∀ (l : List Nat), (∀ m ∈ l, xs[((xs.size : Int) - 1 + (m : Int) * (-1)).toNat]? = xs.toList.reverse[m]?) → (l.filterMap fun (m : Nat) => xs[((xs.size : Int) - 1 + (m : Int) * (-1)).toNat]?) = l.filterMap (xs.toList.reverse[·]?) := fun l => by
    induction l with
    | nil => intro _; rfl
    | cons a l ih =>
      intro h
      rw [List.filterMap_cons, List.filterMap_cons, ih fun m hm => h m (List.mem_cons_of_mem _ hm), h a List.mem_cons_self]
  rw [fc _ e]
  have q : ∀ (l : List Value) (k : Nat), k ≤ l.length → (List.range k).filterMap (l[·]?) = l.take k := fun l k => by
    induction k with
    | zero => intro _; rfl
    | succ k ih =>
      intro h
      rw [List.range_succ, List.filterMap_append, ih (by omega), List.take_succ]
      simp [List.getElem?_eq_getElem (show k < l.length by omega)]
  rw [q _ _ (by simp), List.take_of_length_le (by simp)]
section
variable {prog : Program} {w : World} {A : Around} {E : Value → Shared → Prop} {s : Shared}
theorem tup_back {t sl : Addr} {items : Array Value} {vs : Value} {Q : Value → Shared → Prop} (ht : IsTup s.heap t items) (hs : s.heap.IsSliceOf sl .none .none vs) (ps : IsPart vs (some (-1))) (hz : items.size ≤ sizeLine)
    (h : Q (.ref s.heap.objs.size) { s with heap := s.heap.push { cls := .type "tuple", data := .seq items.toList.reverse.toArray } }) : wpAny (model prog w) A (getItem (.ref t) (.ref sl)) Q E s := by
  have hk : sizeOk (.seq items.toList.reverse.toArray) := by
    show items.toList.reverse.toArray.size ≤ sizeLine
    simpa using hz
  obtain ⟨os, hos, hcs, hds⟩ := hs
  have hT : s.TypeIs (.ref sl) "slice" := ⟨os, hos, hcs⟩
  unfold getItem
  first | with_reducible refine wpAny_holding ?_ | skip
  first | refine wpAny_bind (wpAny_pure ?_) | skip
  refine wpAny_bind (wpAny_sequenceKey ht.typeIs (by decide) (wpAny_bind (wpAny_callSpecial?_slot (name := Str.ofString "__getitem__") ht.typeIs PyProof.Rows.slot_tuple_getitem (wpAny_call_entry PyProof.Rows.slot_tuple_getitem ht.typeIs entry_tuple_getitem ?_ (args_tuple_getitem _ _)))))
  show wpAny _ _ (Builtin.Tuple.tupleItemsOf (.ref t) >>= _) _ _ s
  refine wpAny_bind (tupleItemsOf_ ht (wpAny_bind (wpAny_typeOf hT ?_)))
  rw [if_pos (show (Value.type "slice" == Value.type "slice") = true from by decide)]
  refine wpAny_bind ?_
  unfold Builtin.Slice.sliceApplied Builtin.Slice.sliceFields
  refine wpAny_bind (wpAny_bind (wpAny_field hos hds (x := .none) rfl (wpAny_bind (wpAny_field hos hds (x := .none) rfl (wpAny_bind (wpAny_field hos hds (x := vs) rfl (wpAny_pure ?_)))))))
  refine wpAny_bind (HT.slicePart_ ps ?_)
  show wpAny _ _ (if ((-1 : Int) == 0) = true then _ else _) _ _ s
  rw [if_neg (show ¬ (((-1 : Int) == 0) = true) by decide)]
  refine wpAny_bind (HT.slicePart_ .none (wpAny_bind (HT.slicePart_ .none (wpAny_bind (wpAny_pure ?_)))))
  have e : Builtin.Slice.sliceAdjust none none (-1) (items.size : Int) = ((items.size : Int) - 1, -1) := rfl
  show wpAny _ _ (match Builtin.Slice.sliceAdjust none none (-1) (items.size : Int) with | (lo, hi) => pure (lo, (-1 : Int), Builtin.Slice.slicePlaces lo hi (-1))) _ _ s
  rw [e]
  show wpAny _ _ (pure ((items.size : Int) - 1, (-1 : Int), Builtin.Slice.slicePlaces ((items.size : Int) - 1) (-1) (-1))) _ _ s
  rw [places_back]
  refine wpAny_pure ?_
  have hno : ¬ (((items.size : Int) - 1 == 0 && (-1 : Int) == 1 && items.size == items.size) = true) := by
    rw [show ((-1 : Int) == 1) = false from rfl, Bool.and_false, Bool.false_and]
    exact Bool.false_ne_true
  show wpAny _ _ (if ((items.size : Int) - 1 == 0 && (-1 : Int) == 1 && items.size == items.size) = true then _ else _) _ _ s
  rw [if_neg hno, pick_back]
  first
    | exact wpAny_bind (m := Builtin.Tuple.tupleExact _) (wpAny_newObj_type (wpAny_pure ⟨_, rfl, wpAny_pure h⟩) hk)
    | exact wpAny_bind (wpAny_bind (m := Builtin.Tuple.tupleExact _) (wpAny_newObj_type (wpAny_pure (wpAny_pure ⟨_, rfl, wpAny_pure h⟩)) hk))
    | exact wpAny_bind (wpAny_bind (m := Builtin.Tuple.tupleExact _) (wpAny_newObj_type (wpAny_pure ⟨_, rfl, wpAny_pure h⟩) hk))
theorem tup_fwd {t sl : Addr} {items : Array Value} {vs : Value} {Q : Value → Shared → Prop} (ht : IsTup s.heap t items) (hs : s.heap.IsSliceOf sl .none .none vs) (ps : IsPart vs (some 1)) (h : Q (.ref t) s) : wpAny (model prog w) A (getItem (.ref t) (.ref sl)) Q E s := by
  obtain ⟨os, hos, hcs, hds⟩ := hs
  have hT : s.TypeIs (.ref sl) "slice" := ⟨os, hos, hcs⟩
  unfold getItem
  first | with_reducible refine wpAny_holding ?_ | skip
  first | refine wpAny_bind (wpAny_pure ?_) | skip
  refine wpAny_bind (wpAny_sequenceKey ht.typeIs (by decide) (wpAny_bind (wpAny_callSpecial?_slot (name := Str.ofString "__getitem__") ht.typeIs PyProof.Rows.slot_tuple_getitem (wpAny_call_entry PyProof.Rows.slot_tuple_getitem ht.typeIs entry_tuple_getitem ?_ (args_tuple_getitem _ _)))))
  show wpAny _ _ (Builtin.Tuple.tupleItemsOf (.ref t) >>= _) _ _ s
  refine wpAny_bind (tupleItemsOf_ ht (wpAny_bind (wpAny_typeOf hT ?_)))
  rw [if_pos (show (Value.type "slice" == Value.type "slice") = true from by decide)]
  refine wpAny_bind ?_
  unfold Builtin.Slice.sliceApplied Builtin.Slice.sliceFields
  refine wpAny_bind (wpAny_bind (wpAny_field hos hds (x := .none) rfl (wpAny_bind (wpAny_field hos hds (x := .none) rfl (wpAny_bind (wpAny_field hos hds (x := vs) rfl (wpAny_pure ?_)))))))
  refine wpAny_bind (HT.slicePart_ ps ?_)
  show wpAny _ _ (if ((1 : Int) == 0) = true then _ else _) _ _ s
  rw [if_neg (show ¬ (((1 : Int) == 0) = true) by decide)]
  refine wpAny_bind (HT.slicePart_ .none (wpAny_bind (HT.slicePart_ .none (wpAny_bind (wpAny_pure ?_)))))
  have e : Builtin.Slice.sliceAdjust none none 1 (items.size : Int) = (0, (items.size : Int)) := rfl
  show wpAny _ _ (match Builtin.Slice.sliceAdjust none none 1 (items.size : Int) with | (lo, hi) => pure (lo, (1 : Int), Builtin.Slice.slicePlaces lo hi 1)) _ _ s
  rw [e]
  show wpAny _ _ (pure ((0 : Int), (1 : Int), Builtin.Slice.slicePlaces ((0 : Nat) : Int) (items.size : Int) 1)) _ _ s
  rw [HT.places_gen, Nat.sub_zero]
  refine wpAny_pure ?_
  have hy : (((0 : Int) == 0 && (1 : Int) == 1 && items.size == items.size) = true) := by simp
  show wpAny _ _ (if ((0 : Int) == 0 && (1 : Int) == 1 && items.size == items.size) = true then _ else _) _ _ s
  rw [if_pos hy]
  refine wpAny_bind ?_
  show wpAny _ _ (typeOf (.ref t) >>= fun T => pure (T == .type "tuple")) _ _ s
  refine wpAny_bind (wpAny_typeOf ht.typeIs (wpAny_pure ?_))
  first | rw [if_pos (show (Value.type "tuple" == Value.type "tuple") = true from by decide)] | simp only [beq_self_eq_true, if_true]
  first
    | exact wpAny_bind (wpAny_rule (wpAny_pure ⟨_, rfl, wpAny_pure h⟩))
    | exact wpAny_bind (wpAny_rule (wpAny_bind (wpAny_pure (wpAny_pure ⟨_, rfl, wpAny_pure h⟩))))
end
def tRevS (K : PySem.W.Frag) (te : TE) (ts : TO) : TE := fun σ H Q => te σ H fun x H1 => ts σ H1 fun o H2 => ∃ a xs, x = .ref a ∧
  ((o = some (-1) ∧ ((SqL K H2 a xs ∧ ∀ p, H2 p = none → Q (.ref p) (upd H2 p (.lst xs.reverse))) ∨ (SqT K H2 a xs ∧ ∀ p, H2 p = none → Q (.ref p) (upd H2 p (.tup xs.reverse))))) ∨
   (o = some 1 ∧ SqT K H2 a xs ∧ Q (.ref a) H2))
section
variable {X : Cx} {e st : Expr} {te : TE} {ts : TO} {p3 pos : Pos} {c c1 : Bool} {f g : En → Option PyData}
theorem pe_revS (he : PE X e te) (hst : PO X (some st) ts) (hq : ∀ a b, subscripted (.Slice none none (some st) p3) false a b = operate [a, b] (getItem a b) := by intro a b; with_unfolding_all rfl) : PE X (.Subscript e (.Slice none none (some st) p3) pos) (tRevS X.K te ts) := by
  refine ⟨fun pins s σ H Q I h => Subscript_ (thn (he.run pins s σ H _ I h) fun v s1 ⟨x, H1, I1, r1, q1⟩ => ?_)⟩
  refine wpAny_Slice (thn (po_none.run pins s1 σ H1 (fun o H2 => o = none ∧ H2 = H1) I1 ⟨rfl, rfl⟩) fun vl s2 ⟨l, H2, I2, pl, el, e2⟩ => ?_)
  subst el e2
  refine thn (po_none.run pins s2 σ H2 (fun o H3 => o = none ∧ H3 = H2) I2 ⟨rfl, rfl⟩) fun vu s3 ⟨u, H3, I3, pu, eu, e3⟩ => ?_
  subst eu e3
  refine thn (hst.run pins s3 σ H3 _ I3 q1) fun vs s4 ⟨o, H4, I4, ps, a, xs, ex, q⟩ => ?_
  subst ex
  cases r1
  cases pl
  cases pu
  have I5 : Inv X pins σ H4 { s4 with heap := s4.heap.push { cls := .type "slice", data := .fields #[.none, .none, vs] } } := I4.kept (t' := s4.toks) fun b ob q => Heap.get?_push_of_some _ q
  show wpAny (model X.prog X.w) X.A (subscriptTail e (.Slice none none (some st) p3) (.ref a) (.ref s4.heap.objs.size)) (EP X pins σ Q) X.xe { s4 with heap := s4.heap.push { cls := .type "slice", data := .fields #[.none, .none, vs] } }
  rcases q with ⟨rfl, q⟩ | ⟨rfl, hx, q⟩
  · rcases q with ⟨hx, q⟩ | ⟨hx, q⟩
    · obtain ⟨its, r, ht, hz⟩ := I5.list hx
      have hlen := r.length
      refine tail_any (ops := [.ref a, .ref s4.heap.objs.size]) ht.isList.typeIs (PySem.slot_list_getitem.lookup) ?_ (hq _ _)
      refine wpAny_getItem_list_slice ht.isList (Heap.IsSliceOf.new _ _ _ vs) .none .none ps (by decide) ?_ (by rw [List.size_toArray]; omega)
      rw [PySem.W.krv_pick]
      exact ⟨.ref _, _, I5.laid (t' := s4.toks) (o := .lst xs.reverse) (fun b ob q => Heap.get?_push_of_some _ q) (Nat.le_refl _) ⟨by rw [List.length_reverse]; exact hz, _, 0, r.reverse, Heap.get?_push_size _ rfl⟩, rfl, q _ (I5.hok.fresh (Nat.le_refl _))⟩
    · obtain ⟨its, r, ht, hz⟩ := I5.tuple hx
      have hlen : its.toArray.size = xs.length := by rw [List.size_toArray]; exact r.length.symm
      refine tail_any (ops := [.ref a, .ref s4.heap.objs.size]) ht.typeIs (PyProof.Rows.slot_tuple_getitem.lookup) ?_ (hq _ _)
      refine tup_back ht (Heap.IsSliceOf.new _ _ _ vs) ps (by rw [hlen]; exact hz) ?_
      exact ⟨.ref _, _, I5.laid (t' := s4.toks) (o := .tup xs.reverse) (fun b ob q => Heap.get?_push_of_some _ q) (Nat.le_refl _) ⟨by rw [List.length_reverse]; exact hz, _, r.reverse, IsTup.new _ _⟩, rfl, q _ (I5.hok.fresh (Nat.le_refl _))⟩
  · obtain ⟨its, r, ht, hz⟩ := I5.tuple hx
    refine tail_any (ops := [.ref a, .ref s4.heap.objs.size]) ht.typeIs (PyProof.Rows.slot_tuple_getitem.lookup) ?_ (hq _ _)
    exact tup_fwd ht (Heap.IsSliceOf.new _ _ _ vs) ps ⟨.ref a, _, I5, rfl, q⟩
theorem RpA.reverse {K : PySem.W.Frag} {S : Addr → Prop} {H : Hp} : ∀ {ds : List PyData} {vs : List V}, RpA K S H ds vs → RpA K S H ds.reverse vs.reverse
  | [], _, r => by rw [RpA] at r; subst r; exact RpA.nil
  | d :: ds, _, r => by
    rw [RpA] at r
    obtain ⟨v, r', rfl, h1, h2⟩ := r
    rw [List.reverse_cons, List.reverse_cons]
    exact RpA.append (RpA.reverse h2) (RpA.cons h1 RpA.nil)
def revD (k : Int) : PyData → Option PyData
  | .tuple ds => if k = -1 then some (.tuple ds.reverse) else if k = 1 then some (.tuple ds) else none
  | .list ds => if k = -1 then some (.list ds.reverse) else none
  | _ => none
def eRev (f g : En → Option PyData) : En → Option PyData := fun env => match f env with
  | some d => match g env with
    | some (.int k) => revD k d
    | _ => none
  | none => none
theorem ce_rev (he : PE X e (tE X.K c f)) (hst : PE X st (tE X.K c1 g)) (hq : ∀ a b, subscripted (.Slice none none (some st) p3) false a b = operate [a, b] (getItem a b) := by intro a b; with_unfolding_all rfl) : PE X (.Subscript e (.Slice none none (some st) p3) pos) (tE X.K c (eRev f g)) :=
  pe_w (pe_revS he (po_some hst) hq) fun σ H Q ⟨S0, H0, A, env, d, E, hf, q⟩ => by
    unfold eRev at hf
    split at hf
    · rename_i x hx
      split at hf
      · rename_i k hk
        refine ⟨S0, H0, A, env, x, E, hx, fun v H1 s1 r1 => ?_⟩
        refine ⟨S0, H0, A, env, _, E.grow s1, hk, fun u H2 s2 r2 => ?_⟩
        rw [Rp] at r2
        subst r2
        refine ⟨_, rfl, ?_⟩
        have E2 := E.grow (s1.trans s2)
        have s12 := s1.trans s2
        cases x with
        | tuple ds =>
          have r3 := r1.grow s2
          rw [Rp] at r3
          obtain ⟨a, xs, rfl, ht, ra⟩ := r3
          unfold revD at hf
          refine ⟨a, xs, rfl, ?_⟩
          by_cases h1 : k = -1
          · simp only [h1, if_true] at hf
            cases hf
            refine .inl ⟨by rw [h1], .inr ⟨live_t ht, fun p hp => q _ _ (s12.trans (same_new hp)) ?_⟩⟩
            rw [Rp]
            exact ⟨p, _, rfl, upd_same, (RpA.reverse ra).grow (same_new hp)⟩
          · by_cases h2 : k = 1
            · simp only [h1, h2, if_true, if_false] at hf
              have hf' : some (PyData.tuple ds) = some d := by simpa using hf
              cases hf'
              refine .inr ⟨by rw [h2], live_t ht, q _ _ s12 ?_⟩
              rw [Rp]
              exact ⟨a, xs, rfl, ht, ra⟩
            · simp only [h1, h2, if_false] at hf
              cases hf
        | list ds =>
          have r3 := r1.grow s2
          rw [Rp] at r3
          obtain ⟨a, xs, rfl, ht, ra⟩ := r3
          unfold revD at hf
          refine ⟨a, xs, rfl, ?_⟩
          by_cases h1 : k = -1
          · simp only [h1, if_true] at hf
            cases hf
            refine .inl ⟨by rw [h1], .inl ⟨ht.sq, fun p hp => q _ _ (s12.trans (same_new hp)) ?_⟩⟩
            rw [Rp]
            exact ⟨p, _, rfl, .inl ⟨sc_new E2 hp, .inl upd_same⟩, (RpA.reverse ra).grow (same_new hp)⟩
          · simp only [h1, if_false] at hf
            cases hf
        | none => cases hf
        | bool _ => cases hf
        | int _ => cases hf
        | str _ => cases hf
        | dict _ => cases hf
      · cases hf
    · cases hf
end
end Mir

namespace Mir
open PySem PySem.Spec PyProof.Rows L2
section
variable {X : Cx} {e a b : Expr} {st : Stmt} {sts : List Stmt} {pos : Pos} {c c1 c2 : Bool} {f g : En → Option PyData} {fa : En → Option (List PyData)} {s : En → Out}
/-! ### one reading or the other -/
theorem pe_or {t u : TE} (h1 : PE X e t) (h2 : PE X e u) : PE X e (fun σ H Q => t σ H Q ∨ u σ H Q) := ⟨fun pins s σ H Q I q => q.elim (h1.run pins s σ H Q I) (h2.run pins s σ H Q I)⟩
theorem ps_or {t u : TS} (h1 : PS X st t) (h2 : PS X st u) : PS X st (fun D σ H => t D σ H ∨ u D σ H) := ⟨fun pins s σ H D I q => q.elim (h1.run pins s σ H D I) (h2.run pins s σ H D I)⟩
theorem pi_or {tg : Expr} {t u : TI} (h1 : PI X tg e t) (h2 : PI X tg e u) : PI X tg e (fun σ H R => t σ H R ∨ u σ H R) := ⟨fun pins s σ H R I q => q.elim (h1.run pins s σ H R I) (h2.run pins s σ H R I)⟩
theorem ps_lockP {t : TS} (h : PS X st t) : PS X st (fun D σ H => ∃ d u, H d = some u ∧ Mut (some u) ∧ ∀ od, t D σ (upd H d (.frz od u))) := ⟨fun pins s σ H D I ⟨d, u, hd, mu, q⟩ => by
  obtain ⟨od, I1⟩ := I.lock hd mu
  exact h.run pins s σ _ D I1 (q od)⟩
theorem pss_lockP {t : TS} (h : PSs X sts t) : PSs X sts (fun D σ H => t D σ H ∨ ∃ d u, H d = some u ∧ Mut (some u) ∧ ∀ od, t D σ (upd H d (.frz od u))) := ⟨fun pins s σ H D I q => by
  rcases q with q | ⟨d, u, hd, mu, q⟩
  · exact h.run pins s σ H D I q
  · obtain ⟨od, I1⟩ := I.lock hd mu
    exact h.run pins s σ _ D I1 (q od)⟩
/-- a list or a dict of the slot i is let go -/
def frzD (i : Nat) (env : En) : En := match env[i]? with
  | some (.own ds) => env.set i (.val (.list ds))
  | some (.ownT kvs) => env.set i (.val (.dict kvs))
  | some (.ownK kvs) => env.set i (.val (.dict kvs))
  | _ => env
theorem frzD_run {K : PySem.W.Frag} {s : En → Out} {i : Nat} {D : Ends} {σ : L2.St} {H : Hp} (h : tS K (fun env => s (frzD i env)) D σ H) : tS K s D σ H ∨ ∃ d u, H d = some u ∧ Mut (some u) ∧ ∀ od, tS K s D σ (upd H d (.frz od u)) := by
  obtain ⟨S0, H0, A, env, E, o⟩ := h
  have o' : OutOk K S0 H0 A H (s (frzD i env)) D := o
  unfold frzD at o'
  split at o'
  · rename_i ds hi
    left
    obtain ⟨A', E', w⟩ := E.frz i
    have e : frz i env = env.set i (.val (.list ds)) := by
      unfold frz
      rw [hi]
    rw [e] at E'
    exact ⟨S0, H0, A', _, E', OutOk.step o' Fr.refl fun a z => .inl (w a z)⟩
  · rename_i kvs hi
    right
    rcases E.sl i _ hi with z | ⟨v, h1, a, ws, rfl, ha, hh, r⟩
    · cases z
    refine ⟨a, _, hh, trivial, fun od => ?_⟩
    obtain ⟨hL, hT, hD⟩ := E.upd_mono (u1 := .frz od (.dT ws)) ha
    have q : Rp K (Cl S0 H0 A) (upd H a (.frz od (.dT ws))) (.dict kvs) (.ref a) := by
      rw [Rp]
      exact ⟨a, od, rfl, .inl ⟨ws, upd_same, RpD.mono hL hT hD _ _ _ _ r⟩⟩
    refine ⟨S0, H0, _, _, E.lockD hi rfl h1 ha hh q, OutOk.step o' (fun b u z n => ?_) fun b z => .inl z.1⟩
    rw [upd_ne (fun y => n (by rw [y]; exact ha))]; exact z
  · rename_i kvs hi
    right
    rcases E.sl i _ hi with z | ⟨v, h1, a, ws, rfl, ha, hh, r⟩
    · cases z
    refine ⟨a, _, hh, trivial, fun od => ?_⟩
    obtain ⟨hL, hT, hD⟩ := E.upd_mono (u1 := .frz od (.dK ws)) ha
    have q : Rp K (Cl S0 H0 A) (upd H a (.frz od (.dK ws))) (.dict kvs) (.ref a) := by
      rw [Rp]
      exact ⟨a, od, rfl, .inr ⟨ws, upd_same, RpD.mono hL hT hD _ _ _ _ r⟩⟩
    refine ⟨S0, H0, _, _, E.lockD hi rfl h1 ha hh q, OutOk.step o' (fun b u z n => ?_) fun b z => .inl z.1⟩
    rw [upd_ne (fun y => n (by rw [y]; exact ha))]; exact z
  · exact .inl ⟨S0, H0, A, env, E, o'⟩
theorem cs_frzD {i : Nat} (h : PS X st (tS X.K s)) : PS X st (tS X.K fun env => s (frzD i env)) := ps_w (ps_or h (ps_lockP h)) fun D σ H q => frzD_run q
theorem css_frzD {i : Nat} (h : PSs X sts (tS X.K s)) : PSs X sts (tS X.K fun env => s (frzD i env)) := pss_w (pss_lockP h) fun D σ H q => frzD_run q
/-! ### dicts: new ones -/
def sNewT (i : Nat) : En → Out := fun env => .nx (env.set i (.ownT []))
def sNewK (i : Nat) : En → Out := fun env => .nx (env.set i (.ownK []))
theorem cs_newT {i : Nat} (h : PS X st (tAsg tDNewT (gName i))) : PS X st (tS X.K (sNewT i)) := ps_w h fun D σ H ⟨S0, H0, A, env, E, o⟩ => fun p hp =>
  o _ _ _ (E.set_new (s0 := .ownT []) (same_new hp) hp upd_same rfl rfl (fun _ z => nomatch z) ⟨p, [], rfl, .inr rfl, upd_same, by rw [RpD]⟩) (Fr.of_same (same_new hp)) fun a z => z.imp id fun e => by rw [e]; exact hp
theorem cs_newK {i : Nat} (h : PS X st (tAsg tDNewK (gName i))) : PS X st (tS X.K (sNewK i)) := ps_w h fun D σ H ⟨S0, H0, A, env, E, o⟩ => fun p hp =>
  o _ _ _ (E.set_new (s0 := .ownK []) (same_new hp) hp upd_same rfl rfl (fun _ z => nomatch z) ⟨p, [], rfl, .inr rfl, upd_same, by rw [RpD]⟩) (Fr.of_same (same_new hp)) fun a z => z.imp id fun e => by rw [e]; exact hp
end
/-! ### keys, entries -/
def keysOf : List PyData → Option (List Key)
  | [] => some []
  | .int i :: ds => match keysOf ds with
    | some ks => some (.inl i :: ks)
    | none => none
  | .str x :: ds => match keysOf ds with
    | some ks => some (.inr x :: ks)
    | none => none
  | _ :: _ => none
def kT : PyData → Option (List Key)
  | .tuple ds => keysOf ds
  | _ => none
def kK : PyData → Option Key
  | .int i => some (.inl i)
  | .str x => some (.inr x)
  | _ => none
theorem keysOf_map : ∀ ks : List Key, keysOf (ks.map kdD) = some ks
  | [] => rfl
  | .inl i :: ks => by
    show (match keysOf (ks.map kdD) with | some ks => some (Sum.inl i :: ks) | none => none) = _
    rw [keysOf_map ks]
  | .inr x :: ks => by
    show (match keysOf (ks.map kdD) with | some ks => some (Sum.inr x :: ks) | none => none) = _
    rw [keysOf_map ks]
theorem kT_kd (k : List Key) : kT (kdT k) = some k := keysOf_map k
theorem kK_kd (k : Key) : kK (kdD k) = some k := by cases k <;> rfl
theorem keys_rp {K : PySem.W.Frag} {S : Addr → Prop} {H : Hp} : ∀ {ds : List PyData} {ks : List Key} {xs : List V}, keysOf ds = some ks → RpA K S H ds xs → xs = ks.map kV ∧ ds = ks.map kdD
  | [], ks, xs, h, r => by
    cases h
    rw [RpA] at r
    subst r
    exact ⟨rfl, rfl⟩
  | d :: ds, ks, xs, h, r => by
    rw [RpA] at r
    obtain ⟨v, r', rfl, h1, h2⟩ := r
    cases d with
    | int i =>
      simp only [keysOf] at h
      split at h
      · rename_i ks' hk
        cases h
        obtain ⟨e1, e2⟩ := keys_rp hk h2
        rw [Rp] at h1
        subst h1
        exact ⟨by rw [e1]; rfl, by rw [e2]; rfl⟩
      · cases h
    | str i =>
      simp only [keysOf] at h
      split at h
      · rename_i ks' hk
        cases h
        obtain ⟨e1, e2⟩ := keys_rp hk h2
        rw [Rp] at h1
        subst h1
        exact ⟨by rw [e1]; rfl, by rw [e2]; rfl⟩
      · cases h
    | none => cases h
    | bool _ => cases h
    | list _ => cases h
    | tuple _ => cases h
    | dict _ => cases h
section
variable {κ : Type} [DecidableEq κ]
def getD' (kk : PyData → Option κ) (kvs : List (PyData × PyData)) (k : κ) : Option PyData := (kvs.find? fun p => decide (kk p.1 = some k)).map (·.2)
def putD (kd : κ → PyData) (kk : PyData → Option κ) (kvs : List (PyData × PyData)) (k : κ) (d : PyData) : List (PyData × PyData) :=
  if (kvs.any fun p => decide (kk p.1 = some k)) = true then kvs.map (fun p => if kk p.1 = some k then (p.1, d) else p) else kvs ++ [(kd k, d)]
variable {K : PySem.W.Frag} {S : Addr → Prop} {H : Hp} {kd : κ → PyData} {kk : PyData → Option κ}
theorem RpD.get (hk : ∀ k, kk (kd k) = some k) {k : κ} : ∀ {kvs : List (PyData × PyData)} {ws : List (κ × V)} {d : PyData}, RpD K S H κ kd kvs ws → getD' kk kvs k = some d → ∃ v, valV ws k = some v ∧ Rp K S H d v
  | [], _, _, _, h => by cases h
  | (a, x) :: kvs, _, d, r, h => by
    rw [RpD] at r
    obtain ⟨q, v, ws, rfl, rfl, h1, h2⟩ := r
    unfold getD' at h
    rw [List.find?_cons] at h
    by_cases e : q = k
    · subst e
      simp only [hk, decide_true, Option.map_some, Option.some.injEq] at h
      subst h
      exact ⟨v, valV_pos rfl, h1⟩
    · have e' : decide (kk (kd q) = some k) = false := by simp [hk, e]
      simp only [e'] at h
      obtain ⟨v', g1, g2⟩ := RpD.get hk h2 (show getD' kk kvs k = some d from h)
      exact ⟨v', by rw [valV_neg e]; exact g1, g2⟩
theorem RpD.none (hk : ∀ k, kk (kd k) = some k) {k : κ} : ∀ {kvs : List (PyData × PyData)} {ws : List (κ × V)}, RpD K S H κ kd kvs ws → (valV ws k).isSome = (getD' kk kvs k).isSome
  | [], _, r => by rw [RpD] at r; subst r; rfl
  | (a, x) :: kvs, _, r => by
    rw [RpD] at r
    obtain ⟨q, v, ws, rfl, rfl, h1, h2⟩ := r
    unfold getD'
    rw [List.find?_cons]
    by_cases e : q = k
    · subst e
      simp only [hk, decide_true, Option.map_some]
      rw [valV_pos rfl]; rfl
    · have e' : decide (kk (kd q) = some k) = false := by simp [hk, e]
      simp only [e']
      rw [valV_neg e]
      exact RpD.none hk h2
theorem RpD.any (hk : ∀ k, kk (kd k) = some k) {k : κ} : ∀ {kvs : List (PyData × PyData)} {ws : List (κ × V)}, RpD K S H κ kd kvs ws → (ws.any fun kv => decide (kv.1 = k)) = kvs.any fun p => decide (kk p.1 = some k)
  | [], _, r => by rw [RpD] at r; subst r; rfl
  | (a, x) :: kvs, _, r => by
    rw [RpD] at r
    obtain ⟨q, v, ws, rfl, rfl, h1, h2⟩ := r
    rw [List.any_cons, List.any_cons, RpD.any hk h2]
    simp only [hk, Option.some.injEq]
theorem RpD.repl (hk : ∀ k, kk (kd k) = some k) {k : κ} {d : PyData} {v : V} (hd : Rp K S H d v) : ∀ {kvs : List (PyData × PyData)} {ws : List (κ × V)}, RpD K S H κ kd kvs ws → RpD K S H κ kd (kvs.map fun p => if kk p.1 = some k then (p.1, d) else p) (ws.map fun kv => if kv.1 = k then (kv.1, v) else kv)
  | [], _, r => by rw [RpD] at r; subst r; rw [List.map_nil, List.map_nil, RpD]
  | (a, x) :: kvs, _, r => by
    rw [RpD] at r
    obtain ⟨q, u, ws, rfl, rfl, h1, h2⟩ := r
    rw [List.map_cons, List.map_cons]
    have ih := RpD.repl (k := k) hk hd h2
    by_cases e : q = k
    · subst e
      simp only [hk, if_true]
      rw [RpD]
      exact ⟨q, v, _, rfl, rfl, hd, ih⟩
    · have e' : ¬ kk (kd q) = some k := by simp [hk, e]
      simp only [e', e, if_false]
      rw [RpD]
      exact ⟨q, u, _, rfl, rfl, h1, ih⟩
theorem RpD.snoc {k : κ} {d : PyData} {v : V} (hd : Rp K S H d v) : ∀ {kvs : List (PyData × PyData)} {ws : List (κ × V)}, RpD K S H κ kd kvs ws → RpD K S H κ kd (kvs ++ [(kd k, d)]) (ws ++ [(k, v)])
  | [], _, r => by
    rw [RpD] at r
    subst r
    rw [List.nil_append, List.nil_append, RpD]
    exact ⟨k, v, [], rfl, rfl, hd, by rw [RpD]⟩
  | (a, x) :: kvs, _, r => by
    rw [RpD] at r
    obtain ⟨q, u, ws, rfl, rfl, h1, h2⟩ := r
    rw [List.cons_append, List.cons_append, RpD]
    exact ⟨q, u, _, rfl, rfl, h1, RpD.snoc hd h2⟩
theorem RpD.put (hk : ∀ k, kk (kd k) = some k) {k : κ} {d : PyData} {v : V} (hd : Rp K S H d v) {kvs : List (PyData × PyData)} {ws : List (κ × V)} (r : RpD K S H κ kd kvs ws) : RpD K S H κ kd (putD kd kk kvs k d) (putK ws k v) := by
  unfold putD putK
  rw [r.any hk]
  split
  · exact r.repl hk hd
  · exact r.snoc hd
theorem RpD.len : ∀ {kvs : List (PyData × PyData)} {ws : List (κ × V)}, RpD K S H κ kd kvs ws → ws.length = kvs.length
  | [], _, r => by rw [RpD] at r; subst r; rfl
  | (a, x) :: kvs, _, r => by
    rw [RpD] at r
    obtain ⟨q, v, ws, rfl, rfl, h1, h2⟩ := r
    rw [List.length_cons, List.length_cons, RpD.len h2]
theorem RpD.at : ∀ {kvs : List (PyData × PyData)} {ws : List (κ × V)} {i : Nat} {p : PyData × PyData}, RpD K S H κ kd kvs ws → kvs[i]? = some p → ∃ q v, ws[i]? = some (q, v) ∧ p.1 = kd q
  | [], _, _, _, _, e => by simp at e
  | (a, x) :: kvs, _, i, p, r, e => by
    rw [RpD] at r
    obtain ⟨q, v, ws, rfl, rfl, h1, h2⟩ := r
    cases i with
    | zero =>
      simp at e
      subst e
      exact ⟨q, v, rfl, rfl⟩
    | succ i => exact RpD.at (i := i) h2 (by simpa using e)
end
/-! ### d[k], k in d -/
section
variable {X : Cx} {e a b : Expr} {st : Stmt} {sts : List Stmt} {pos : Pos} {c c1 c2 : Bool} {f g : En → Option PyData} {fa : En → Option (List PyData)} {s : En → Out}
def dGet (kvs : List (PyData × PyData)) (k : PyData) : Option PyData := match kT k with
  | some q => getD' kT kvs q
  | none => match kK k with
    | some q => getD' kK kvs q
    | none => none
theorem kT_kK {d : PyData} {q : List Key} (h : kT d = some q) : kK d = none := by
  cases d <;> first | rfl | cases h
theorem key_rp {K : PySem.W.Frag} {S : Addr → Prop} {H : Hp} {k : PyData} {q : List Key} {y : V} (h : kT k = some q) (r : Rp K S H k y) : ∃ b, y = .ref b ∧ H b = some (.tup (q.map kV)) := by
  cases k with
  | tuple ds =>
    rw [Rp] at r
    obtain ⟨b, xs, rfl, hb, ra⟩ := r
    obtain ⟨e, _⟩ := keys_rp (show keysOf ds = some q from h) ra
    exact ⟨b, rfl, by rw [← e]; exact hb⟩
  | none => cases h
  | bool _ => cases h
  | int _ => cases h
  | str _ => cases h
  | list _ => cases h
  | dict _ => cases h
theorem keyK_rp {K : PySem.W.Frag} {S : Addr → Prop} {H : Hp} {k : PyData} {q : Key} {y : V} (h : kK k = some q) (r : Rp K S H k y) : y = kV q := by
  cases k with
  | int i => cases h; rw [Rp] at r; subst r; rfl
  | str i => cases h; rw [Rp] at r; subst r; rfl
  | none => cases h
  | bool _ => cases h
  | tuple _ => cases h
  | list _ => cases h
  | dict _ => cases h
theorem e2_ev' {k : PyData → PyData → Option PyData} {env : En} {x y d : PyData} (h1 : f env = some x) (h2 : g env = some y) (h3 : k x y = some d) : e2 k f g env = some d := by
  unfold e2
  rw [h1, h2]
  exact h3
/-- what a dict's data say is what it holds -/
theorem dget_rp {K : PySem.W.Frag} {S S' : Addr → Prop} {H : Hp} {kvs : List (PyData × PyData)} {k d : PyData} {x y : V} (rx : Rp K S H (.dict kvs) x) (ry : Rp K S' H k y) (h : dGet kvs k = some d) : ∃ a v, x = .ref a ∧ DGet H a y (some v) ∧ Rp K S H d v := by
  rw [Rp] at rx
  obtain ⟨a, od, rfl, q⟩ := rx
  unfold dGet at h
  rcases q with ⟨ws, hw, r⟩ | ⟨ws, hw, r⟩
  · split at h
    · rename_i q hq
      obtain ⟨v, g1, g2⟩ := r.get kT_kd h
      obtain ⟨b, rfl, hb⟩ := key_rp hq ry
      exact ⟨a, v, rfl, .inr ⟨ws, q, b, .inr ⟨od, hw⟩, rfl, hb, g1.symm⟩, g2⟩
    · exfalso
      have no : ∀ {l : List (PyData × PyData)} {ws : List (List Key × V)} (z : Key), RpD K S H (List Key) kdT l ws → getD' kK l z = none := fun {l} => by
        induction l with
        | nil => intro _ _ _; rfl
        | cons p l ih =>
          intro ws z r
          obtain ⟨pk, pd⟩ := p
          rw [RpD] at r
          obtain ⟨q, v, ws', rfl, rfl, _, h2⟩ := r
          unfold getD'
          rw [List.find?_cons]
          have : decide (kK (kdT q) = some z) = false := by simp [kdT, kK]
          simp only [this]
          exact ih z h2
      split at h
      · rw [no _ r] at h; cases h
      · cases h
  · split at h
    · exfalso
      rename_i q hq
      have no : ∀ {l : List (PyData × PyData)} {ws : List (Key × V)} (z : List Key), RpD K S H Key kdD l ws → getD' kT l z = none := fun {l} => by
        induction l with
        | nil => intro _ _ _; rfl
        | cons p l ih =>
          intro ws z r
          obtain ⟨pk, pd⟩ := p
          rw [RpD] at r
          obtain ⟨q, v, ws', rfl, rfl, _, h2⟩ := r
          unfold getD'
          rw [List.find?_cons]
          have : decide (kT (kdD q) = some z) = false := by cases q <;> simp [kdD, kT]
          simp only [this]
          exact ih z h2
      rw [no _ r] at h; cases h
    · split at h
      · rename_i q hq
        obtain ⟨v, g1, g2⟩ := r.get kK_kd h
        rw [keyK_rp hq ry]
        exact ⟨a, v, rfl, .inl ⟨ws, q, .inr ⟨od, hw⟩, rfl, g1.symm⟩, g2⟩
      · cases h
/-- x[k], x a list, a tuple or a dict that was let go -/
def ixU (x k : PyData) : Option PyData := match x with
  | .dict kvs => dGet kvs k
  | _ => ixG x k
theorem ce_ixU (hu : X.A.units + 1 < cLine) (ha : PE X a (tE X.K c f)) (hb : PE X b (tE X.K c g)) (hs : PlainIx b) (hs' : NoSl b) : PE X (.Subscript a b pos) (tE X.K c (e2 ixU f g)) := pe_w (pe_or (ce_ix ha hb hs) (pe_dget hu ha hb hs')) fun σ H Q ⟨S0, H0, A, env, d, E, hf, q⟩ => by
  obtain ⟨x, k, h1, h2, h3⟩ := e2_some hf
  by_cases hx : ∃ kvs, x = .dict kvs
  · right
    obtain ⟨kvs, rfl⟩ := hx
    refine ⟨S0, H0, A, env, _, E, h1, fun v H1 s1 r1 => ⟨S0, H0, A, env, k, E.grow s1, h2, fun u H2 s2 r2 => ?_⟩⟩
    obtain ⟨p, v', rfl, g1, g2⟩ := dget_rp (r1.grow s2) r2 (show dGet kvs k = some d from h3)
    exact ⟨p, v', rfl, g1, q _ _ (s1.trans s2) g2⟩
  · left
    refine ⟨S0, H0, A, env, d, E, ?_, q⟩
    refine e2_ev' h1 h2 ?_
    cases x with
    | dict kvs => exact absurd ⟨kvs, rfl⟩ hx
    | none => exact h3
    | bool _ => exact h3
    | int _ => exact h3
    | str _ => exact h3
    | list _ => exact h3
    | tuple _ => exact h3
/-- d[k], d an owned dict -/
def eGetO (i : Nat) (g : En → Option PyData) : En → Option PyData := fun env => match env[i]? with
  | some (.ownT kvs) => match g env with
    | some k => match kT k with
      | some q => getD' kT kvs q
      | none => none
    | none => none
  | some (.ownK kvs) => match g env with
    | some k => match kK k with
      | some q => getD' kK kvs q
      | none => none
    | none => none
  | _ => none
theorem ce_getO {i : Nat} (hu : X.A.units + 1 < cLine) (ha : PE X a (tVar i)) (hb : PE X b (tE X.K c1 g)) (hs' : NoSl b) : PE X (.Subscript a b pos) (tE X.K c (eGetO i g)) := pe_w (pe_dget hu ha hb hs') fun σ H Q ⟨S0, H0, A, env, d, E, hf, q⟩ => by
  unfold eGetO at hf
  split at hf
  · rename_i kvs hi
    rcases E.sl i _ hi with z | ⟨v, h1, p, ws, rfl, ha, hh, r⟩
    · cases z
    split at hf
    · rename_i k hk
      split at hf
      · rename_i y hy
        refine ⟨_, h1, S0, H0, A, env, k, E, hk, fun u H2 s2 r2 => ?_⟩
        obtain ⟨v, g1, g2⟩ := r.get kT_kd hf
        obtain ⟨b, rfl, hb⟩ := key_rp hy r2
        exact ⟨p, v, rfl, .inr ⟨ws, y, b, .inl (s2 _ _ hh), rfl, hb, g1.symm⟩, q _ _ s2 ((g2.grow s2).wide fun _ z => sc_cl z)⟩
      · cases hf
    · cases hf
  · rename_i kvs hi
    rcases E.sl i _ hi with z | ⟨v, h1, p, ws, rfl, ha, hh, r⟩
    · cases z
    split at hf
    · rename_i k hk
      split at hf
      · rename_i y hy
        refine ⟨_, h1, S0, H0, A, env, k, E, hk, fun u H2 s2 r2 => ?_⟩
        obtain ⟨v, g1, g2⟩ := r.get kK_kd hf
        rw [keyK_rp hy r2]
        exact ⟨p, v, rfl, .inl ⟨ws, y, .inl (s2 _ _ hh), rfl, g1.symm⟩, q _ _ s2 ((g2.grow s2).wide fun _ z => sc_cl z)⟩
      · cases hf
    · cases hf
  · cases hf
/-- d[k] = v, d an owned dict -/
def sPutD (i : Nat) (fk f : En → Option PyData) : En → Out := fun env => match f env with
  | some d => match fk env with
    | some k => match env[i]? with
      | some (.ownT kvs) => match kT k with
        | some q => if kvs.length < 1000000 then .nx (env.set i (.ownT (putD kdT kT kvs q d))) else .bad
        | none => .bad
      | some (.ownK kvs) => match kK k with
        | some q => if kvs.length < 1000000 then .nx (env.set i (.ownK (putD kdD kK kvs q d))) else .bad
        | none => .bad
      | _ => .bad
    | none => .bad
  | none => .bad
theorem cs_putD {i : Nat} {fk : En → Option PyData} (h : PS X st (sDPut (tVar i) (tE X.K c fk) (tE X.K true f))) : PS X st (tS X.K (sPutD i fk f)) := ps_w h fun D σ H ⟨S0, H0, A, env, E, o⟩ => by
  unfold sPutD at o
  split at o
  · rename_i d hd
    refine ⟨S0, H0, A, env, d, E, hd, fun v H1 s1 r1 => ?_⟩
    split at o
    · rename_i k hk
      split at o
      · rename_i kvs hi
        rcases E.sl i _ hi with z | ⟨v', h1, p, ws, rfl, ha, hh, r⟩
        · cases z
        split at o
        · rename_i y hy
          split at o
          · rename_i hl
            refine ⟨_, h1, S0, H0, A, env, k, E.grow s1, hk, fun u H2 s2 r2 => ?_⟩
            obtain ⟨b, rfl, hb⟩ := key_rp hy r2
            have s12 := s1.trans s2
            have E2 := E.grow s12
            obtain ⟨hL, hT, hD⟩ := E2.upd_mono (u1 := .dT (putK ws y v)) ha
            refine ⟨p, _, rfl, .inr ⟨ws, y, b, s12 _ _ hh, rfl, hb, by rw [r.len]; exact Nat.lt_of_lt_of_le hl (by decide), rfl⟩, ?_⟩
            refine o A _ σ (E2.mutG hi rfl rfl h1 ha (s12 _ _ hh) rfl rfl (fun _ z => nomatch z) (fun _ z => nomatch z) ⟨p, _, rfl, ha, upd_same, RpD.mono hL hT hD _ _ _ _ ((r.grow s12).put kT_kd ((r1.wide fun _ z => cl_sc z).grow s2))⟩) (fun b u e n => ?_) Sb.refl
            rw [upd_ne (fun z => n (by rw [z]; exact ha))]
            exact s12 _ _ e
          · exact o.elim
        · exact o.elim
      · rename_i kvs hi
        rcases E.sl i _ hi with z | ⟨v', h1, p, ws, rfl, ha, hh, r⟩
        · cases z
        split at o
        · rename_i y hy
          split at o
          · rename_i hl
            refine ⟨_, h1, S0, H0, A, env, k, E.grow s1, hk, fun u H2 s2 r2 => ?_⟩
            have eu := keyK_rp hy r2
            subst eu
            have s12 := s1.trans s2
            have E2 := E.grow s12
            obtain ⟨hL, hT, hD⟩ := E2.upd_mono (u1 := .dK (putK ws y v)) ha
            refine ⟨p, _, rfl, .inl ⟨ws, y, s12 _ _ hh, rfl, by rw [r.len]; exact Nat.lt_of_lt_of_le hl (by decide), rfl⟩, ?_⟩
            refine o A _ σ (E2.mutG hi rfl rfl h1 ha (s12 _ _ hh) rfl rfl (fun _ z => nomatch z) (fun _ z => nomatch z) ⟨p, _, rfl, ha, upd_same, RpD.mono hL hT hD _ _ _ _ ((r.grow s12).put kK_kd ((r1.wide fun _ z => cl_sc z).grow s2))⟩) (fun b u e n => ?_) Sb.refl
            rw [upd_ne (fun z => n (by rw [z]; exact ha))]
            exact s12 _ _ e
          · exact o.elim
        · exact o.elim
      · exact o.elim
    · exact o.elim
  · exact o.elim
/-! ### for k in d -/
theorem wk_keysT {K : PySem.W.Frag} {a : Addr} {od : Obj} {ws : List (List Key × V)} {kvs : List (PyData × PyData)} {S0 S : Addr → Prop} {H0 : Hp} (r : RpD K S0 H0 (List Key) kdT kvs ws) : Wk K (Itkt a od ws) (fun H => H a = some (.frz od (.dT ws))) S (kvs.map (·.1)) where
  go := fun i H g l => ⟨g, by rw [r.len]; simpa using l⟩
  yld := fun i H d x H' g e y => by
    obtain ⟨rfl, k, v, p, h1, rfl, h2⟩ := y
    refine ⟨Same.refl _, ?_⟩
    rw [List.getElem?_map] at e
    cases hk : kvs[i]? with
    | none => rw [hk] at e; cases e
    | some pr =>
      rw [hk] at e
      cases e
      obtain ⟨q', v', h3, h4⟩ := r.at hk
      rw [h1] at h3
      cases h3
      show Rp K S H' pr.1 _
      rw [h4]
      unfold kdT
      rw [Rp]
      refine ⟨p, _, rfl, h2, ?_⟩
      have rk : ∀ ks : List Key, RpA K S H' (ks.map kdD) (ks.map kV) := fun ks => by
        induction ks with
        | nil => exact RpA.nil
        | cons z ks ih => exact RpA.cons (by cases z <;> (show Rp K S H' _ _; simp only [kdD, kV]; rw [Rp])) ih
      exact rk k
  stop := fun i H g l => ⟨g, by rw [r.len]; simpa using l⟩
theorem wk_keysK {K : PySem.W.Frag} {a : Addr} {od : Obj} {ws : List (Key × V)} {kvs : List (PyData × PyData)} {S0 S : Addr → Prop} {H0 : Hp} (r : RpD K S0 H0 Key kdD kvs ws) : Wk K (Itk a od ws) (fun H => H a = some (.frz od (.dK ws))) S (kvs.map (·.1)) where
  go := fun i H g l => ⟨g, by rw [r.len]; simpa using l⟩
  yld := fun i H d x H' g e y => by
    obtain ⟨rfl, k, v, h1, rfl⟩ := y
    refine ⟨Same.refl _, ?_⟩
    rw [List.getElem?_map] at e
    cases hk : kvs[i]? with
    | none => rw [hk] at e; cases e
    | some pr =>
      rw [hk] at e
      cases e
      obtain ⟨q', v', h3, h4⟩ := r.at hk
      rw [h1] at h3
      cases h3
      show Rp K S H' pr.1 _
      rw [h4]
      cases k <;> (simp only [kdD, kV]; rw [Rp])
  stop := fun i H g l => ⟨g, by rw [r.len]; simpa using l⟩
def iSeqU (f : En → Option PyData) : En → Option (List PyData) := fun env => match f env with
  | some (.list ds) => some ds
  | some (.tuple ds) => some ds
  | some (.dict kvs) => some (kvs.map (·.1))
  | _ => none
theorem ci_seqU {tg iter : Expr} {f : En → Option PyData} (h : PE X iter (tE X.K true f)) : PI X tg iter (tI X.K true (iSeqU f)) := pi_w (pi_or (ci_seq h) (pi_keys h)) fun σ H R ⟨S0, H0, A, env, ds, E, hf, q⟩ => by
  unfold iSeqU at hf
  split at hf
  · rename_i es hd
    exact .inl ⟨S0, H0, A, env, ds, E, by unfold iSeq; rw [hd]; exact hf, q⟩
  · rename_i es hd
    exact .inl ⟨S0, H0, A, env, ds, E, by unfold iSeq; rw [hd]; exact hf, q⟩
  · rename_i kvs hd
    cases hf
    refine .inr ⟨S0, H0, A, env, _, E, hd, fun v H1 s r => ?_⟩
    rw [Rp] at r
    obtain ⟨a, od, rfl, z⟩ := r
    have E1 := E.grow s
    refine ⟨a, od, rfl, ?_⟩
    rcases z with ⟨ws, hw, r⟩ | ⟨ws, hw, r⟩
    · exact .inr ⟨ws, hw, q _ H1 _ s (fun H2 s2 => s2 _ _ hw) (fun _ H2 f2 => f2 a _ hw fun z => E1.no_frz rfl z hw) (wk_keysT r)⟩
    · exact .inl ⟨ws, hw, q _ H1 _ s (fun H2 s2 => s2 _ _ hw) (fun _ H2 f2 => f2 a _ hw fun z => E1.no_frz rfl z hw) (wk_keysK r)⟩
  · cases hf
/-! ### a display with written keys -/
def trsOf (K : PySem.W.Frag) (ps : List (Str × (En → Option PyData))) : List (TE × TE) := ps.map fun p => (tC (.str p.1), tE K true p.2)
def valsE : List (Str × (En → Option PyData)) → En → Option (List (Key × PyData))
  | [], _ => some []
  | (k, f) :: ps, env => match f env with
    | some d => match valsE ps env with
      | some ds => some ((.inr k, d) :: ds)
      | none => none
    | none => none
def mkD (ps : List (Key × PyData)) : List (PyData × PyData) := ps.foldl (fun acc kv => putD kdD kK acc kv.1 kv.2) []
/-- the new dict's entries stand apart from it -/
inductive Ents (K : PySem.W.Frag) (S : Addr → Prop) (H : Hp) : List (Key × PyData) → List (V × V) → Prop
  | nil : Ents K S H [] []
  | cons {k : Key} {d : PyData} {v : V} {ps : List (Key × PyData)} {vs : List (V × V)} : Rp K S H d v → Ents K S H ps vs → Ents K S H ((k, d) :: ps) ((kV k, v) :: vs)
theorem Ents.kv {K : PySem.W.Frag} {S : Addr → Prop} {H : Hp} {ps : List (Key × PyData)} {vs : List (V × V)} (h : Ents K S H ps vs) : ∃ ws : List (Key × V), vs = ws.map (fun kv => (kV kv.1, kv.2)) ∧ ws.length = ps.length ∧ ∀ {acc : List (PyData × PyData)} {aw : List (Key × V)}, RpD K S H Key kdD acc aw → RpD K S H Key kdD (ps.foldl (fun acc kv => putD kdD kK acc kv.1 kv.2) acc) (mergeK aw ws) := by
  induction h with
  | nil => exact ⟨[], rfl, rfl, fun r => r⟩
  | @cons k d v ps vs r _ ih =>
    obtain ⟨ws, e, l, f⟩ := ih
    refine ⟨(k, v) :: ws, by rw [e]; rfl, by rw [List.length_cons, List.length_cons, l], fun {acc aw} ra => ?_⟩
    exact f (ra.put kK_kd r)
theorem pairs_run {K : PySem.W.Frag} {S0 : Addr → Prop} {H0 : Hp} {A : Addr → Prop} {env : En} {σ : L2.St} : ∀ {ps : List (Str × (En → Option PyData))} {H1 : Hp} {ds : List (Key × PyData)} {Q : List (V × V) → Hp → Prop}, EnvOk K S0 H0 A H1 σ env → valsE ps env = some ds →
    (∀ vs H2, Same H1 H2 → Ents K (Cl S0 H0 A) H2 ds vs → Q vs H2) → tPairs (trsOf K ps) σ H1 Q
  | [], H1, ds, Q, E, h, q => by
    cases h
    exact q [] H1 (Same.refl _) .nil
  | (k, f) :: ps, H1, ds, Q, E, h, q => by
    simp only [valsE] at h
    split at h
    · rename_i d hd
      split at h
      · rename_i ds' hds
        cases h
        show tPairs ((tC (.str k), tE K true f) :: trsOf K ps) σ H1 Q
        refine ⟨S0, H0, A, env, d, E, hd, fun v H2 s2 r2 => ?_⟩
        refine pairs_run (E.grow s2) hds fun vs H3 s3 en => ?_
        exact q _ H3 (s2.trans s3) (.cons ((r2.wide fun _ z => cl_sc z).grow s3) en)
      · cases h
    · cases h
def sDisp (i : Nat) (ps : List (Str × (En → Option PyData))) : En → Out := fun env => match valsE ps env with
  | some ds => if ds.length ≤ 15 then .nx (env.set i (.ownK (mkD ds))) else .bad
  | none => .bad
theorem cs_disp {i : Nat} {ps : List (Str × (En → Option PyData))} (h : PS X st (tAsg (tDisp (trsOf X.K ps)) (gName i))) : PS X st (tS X.K (sDisp i ps)) := ps_w h fun D σ H ⟨S0, H0, A, env, E, o⟩ => fun p hp => by
  unfold sDisp at o
  split at o
  · rename_i ds hds
    split at o
    · rename_i hl
      refine pairs_run (E.grow (same_new hp)) hds fun vs H2 s2 en => ?_
      obtain ⟨ws, rfl, wl, f⟩ := en.kv
      have hp2 : H2 p = some (.dK []) := s2 _ _ upd_same
      refine ⟨hp2, ws, rfl, by rw [wl]; exact hl, ?_⟩
      have sH : Same H (upd H2 p (.dK (mergeK [] ws))) := fun b u z => by
        rw [upd_ne (ne_of_none z hp)]
        exact s2 _ _ ((same_new hp) _ _ z)
      have r := f (acc := []) (aw := []) (by rw [RpD])
      obtain ⟨k1, k2, k3⟩ := upd_monoD (S := Cl S0 H0 A) (u1 := .dK (mergeK [] ws)) hp2 rfl
      have r' : RpD X.K (fun a => Cl S0 H0 A a ∧ a ≠ p) H2 Key kdD (mkD ds) (mergeK [] ws) := RpD.mono (fun a xs z y => ⟨⟨z, fun e => by
        rw [e] at y
        rcases y with y | ⟨_, y⟩ <;> (rw [hp2] at y; cases y)⟩, y⟩) (fun _ _ z => z) (fun _ _ _ z => z) _ _ _ _ r
      refine o _ _ _ (E.set_new (s0 := .ownK (mkD ds)) sH hp upd_same rfl rfl (fun _ z => nomatch z) ⟨p, _, rfl, .inr rfl, upd_same, RpD.mono k1 k2 k3 _ _ _ _ r'⟩) (Fr.of_same sH) fun a z => z.imp id fun e => by rw [e]; exact hp
    · exact o.elim
  · exact o.elim
theorem hu1 {k : Nat} {A : Around} (r : Room k A) : A.units + 1 < cLine := by
  have := hu65 r
  omega
/-! ### k in d -/
def inU (k x : PyData) : Option PyData := match x with
  | .dict kvs => match kvs with
    | [] => none
    | (p, _) :: _ => match kT p with
      | some _ => match kT k with
        | some q => some (.bool (getD' kT kvs q).isSome)
        | none => none
      | none => match kK k with
        | some q => some (.bool (getD' kK kvs q).isSome)
        | none => none
  | _ => inT k x
end
end Mir

/-! Exc1: the class Refused(BookError) with super().__init__(what); self.what = what: made, raised, its field read -/
namespace PySem
namespace RfX
open PySem.W PySem.Calls PyProof.Rows PySem.HandSPX
def iA : Arguments := { posonlyargs := [], args := [{ arg := "self", annotation := none, pos := ⟨6, 17, 6, 21⟩ }, { arg := "what", annotation := none, pos := ⟨6, 23, 6, 27⟩ }], vararg := none, kwonlyargs := [], kw_defaults := [], kwarg := none, defaults := [] }
def iB : List Stmt := [.Expr (.Call (.Attribute (.Call (.Name "super" ⟨7, 8, 7, 13⟩) [] [] ⟨7, 8, 7, 15⟩) "__init__" ⟨7, 8, 7, 24⟩) [.Name "what" ⟨7, 25, 7, 29⟩] [] ⟨7, 8, 7, 30⟩) ⟨7, 8, 7, 30⟩, .Assign [.Attribute (.Name "self" ⟨8, 8, 8, 12⟩) "what" ⟨8, 8, 8, 17⟩] (.Name "what" ⟨8, 20, 8, 24⟩) ⟨8, 8, 8, 24⟩]
def iS : Scope := { kind := .function, names := [(PySem.Str.ofString "self", .local), (PySem.Str.ofString "what", .local), (PySem.Str.ofString "__class__", .free), (PySem.Str.ofString "super", .globalImplicit)], isGenerator := false, isCoroutine := false, more := [] }
/-- what the written part says of Refused, at C, and of its __init__, at fI -/
structure RfTxt (prog : Program) (K : Frag) (mg : Str → Option Value) (C fI : Addr) : Prop where
  gC : mg "Refused" = some (.ref C)
  cls : ∃ nm q N bs bm sn sub ab col dd k0 k1 k2 k3 k5, K.lookup C = some (excClassObj nm q C N bs bm true sn sub ab col dd k0 k1 k2 k3 k5 "ValueError.__new__") ∧ refsVE bm = true
  sa : findIn K (.ref C) "__setattr__" = some (some (.builtin "object.__setattr__"))
  ga : findIn K (.ref C) "__getattribute__" = some (some (.builtin "BaseException.__getattribute__"))
  gg : findIn K (.ref C) "__getattr__" = some none
  noN : findIn K (.ref C) "what" = some none
  iC : findIn K (.ref C) "__init__" = some (some (.ref fI))
  tC : typeIn K (.ref fI) = some (.type "function")
  kC : keepIn K (.ref C) = true
  exC : subIn K (.ref C) (.type "BaseException") = some true
  tyC : typeIn K (.ref C) = some (.type "type")
  hdC : hasDictIn K C = true
  te : exmOne K (.ref C) (.ref C) = some true
  sup : mg "super" = none
  opq : nsIn K cStatics "thirdparty.any" = some none
  sIn : ks_superIn K C C "__init__" = some (some (.builtin "ValueError.__init__"))
  hB : subIn K (.ref C) (.type "ValueError") = some true
  mro : mroIn K C (.ref C) = some true
  top : (prog.main.scope.names.lookup ("super" : Str)).isSome = false
  fn : ∃ (oc : Value) (od : Option Addr) (doc pm : Value) (an : Option Addr) (cda cc : Addr) (ct : Value) (osl : Array (Option Value)) (vs : Array Value) (file : Str) (tf : Tok) (c1 c2 : Value) (d1 d2 : Option Addr) (s1 s2 : Array (Option Value)),
    K.lookup fI = some ⟨oc, od, .func (fnX "__init__" "Refused.__init__" iA iB iS [("__class__", cc)] .none .none doc pm an (.ref cda) ct), osl⟩ ∧ codeIn K (.ref cda) "Refused.__init__" = true ∧
    K.lookup cda = some ⟨c1, d1, .fields vs, s1⟩ ∧ vs[2]? = some (.str file tf) ∧ ((prog.main.file : Str) == file) = true ∧ K.lookup cc = some ⟨c2, d2, .cell (some (.ref C)), s2⟩
theorem one_size (v : Value) : [v].length ≤ sizeLine := by
  rw [sizeLine_eq]
  exact (by decide : 1 ≤ 16777216)
/-- what __init__ leaves of a fresh exception at x -/
structure InitEnd (h h' : Heap) (x C dx t1 : Addr) (v : Value) : Prop where
  keep : ∀ b o, b ≠ x → h.get? b = some o → h'.get? b = some o
  obj : h'.get? x = some { cls := .ref C, dict := some dx, data := .fields #[.ref t1, .none, .none, .none, .bool false, .none] }
  dbig : h.objs.size ≤ dx
  dne : dx ≠ x
  ns : h'.Ns1 dx (fun y => if y = "what" then some v else none)
/-- a made one -/
structure OwnMade (h h' : Heap) (e C d : Addr) (v : Value) : Prop where
  keep : ∀ b o, h.get? b = some o → h'.get? b = some o
  new : h.objs.size ≤ e
  obj : ∃ oe vs, h'.get? e = some oe ∧ oe.cls = .ref C ∧ oe.dict = some d ∧ oe.data = .fields vs ∧ vs[1]? = some .none
  dbig : h.objs.size ≤ d
  dne : d ≠ e
  ns : h'.Ns1 d (fun y => if y = "what" then some v else none)
section
variable {prog : Program} {w : World} {A : Around} {E : Value → Shared → Prop} {R : Result → Shared → Prop} {s : Shared} {K : Frag} {mg : Str → Option Value} {C fI : Addr}
theorem rf_init (T : RfTxt prog K mg C fI) {x t0 : Addr} {v : Value} (X : K.In s.heap) (G : s.heap.Ns mainGlobals mg) (B : ∃ mb, s.heap.Ns builtinsNs mb ∧ ∀ x : Str, x ≠ "__name__" → mb x = bootBuiltins x) (hlim : s.heap.NoLimit) (hx : s.heap.get? x = some (excO C t0)) (hnx : K.lookup x = none) (hroom : A.depth < recursionLimit)
    (hq : ∀ h' tk dx t1, InitEnd s.heap h' x C dx t1 v → R (.ok (.ret .none)) { s with heap := h', toks := tk }) :
    codeAny (model prog w) A (.call (.ref fI) ⟨[.ref x, v], []⟩) R s := by
  obtain ⟨oc, od, doc, pm, an, cda, cc, ct, osl, vs, file, tf, c1, c2, d1, d2, s1, s2, ho, hcd, hcode, hvs, hfile, hcell⟩ := T.fn
  obtain ⟨nm, q, N, bs, bm, sn, sub, ab, col, dd, k0, k1, k2, k3, k5, hC, hbm⟩ := T.cls
  have hcl : clsIn K C = some { name := nm, bases := bs, mro := .ref C :: bm, ns := N, qualname := q, hasDict := true, slotNames := sn, subclasses := sub, abstract := ab, collection := col, hasDel := false } := by unfold clsIn; rw [hC] <;> rfl
  refine ks_codeAny_call_defAt (binds := [("self", .ref x), ("what", v)]) hroom (X _ _ ho) rfl hlim (codeRec_of X hcd) rfl (BindsTo.of_eq (by first | rfl | with_unfolding_all rfl)) (show ∀ y ∈ iS.names, y.2 ≠ NameKind.cell from by decide +kernel) (fun y hy => by
    rcases List.mem_cons.mp hy with rfl | hy
    · kernel_rfl
    rcases List.mem_cons.mp hy with rfl | hy
    · kernel_rfl
    cases hy) (fun h₁ hn hk => ?_) rfl rfl rfl
  have X₁ : K.In h₁ := X.keeps hk
  have hx₁ := hk _ _ hx
  have hL : s.heap.objs.size ≠ x := Nat.ne_of_gt (Heap.lt_size hx)
  have G₁ := G.keeps hk
  obtain ⟨mb, b1, b2⟩ := B
  have b1 := b1.keeps hk
  have hne : x ≠ C := fun e => by
    have z := X _ _ hC
    rw [← e, hx] at z
    cases z
  show wpAt _ _ _ (execs (_ :: _) _) _ _ _
  refine ks_wpAt_execs_cons (ks_wpAt_Expr_any (ks_wpAt_MethodCall ?_))
  have hCat := X₁ _ _ hC
  refine ks_wpAt_super_base (ar := { arg := "self", annotation := none, pos := ⟨6, 17, 6, 21⟩ }) (env := ksEnv "Refused.__init__" iS s.heap.objs.size fI (.ref cda) cc) (by kernel_rfl) (by kernel_rfl) (by decide +kernel) rfl (X₁ _ _ ho) rfl (by kernel_rfl) rfl (X₁ _ _ hcode) rfl hvs hfile T.top ?_
  refine ks_loadName_global rfl (by kernel_rfl) (loadGlobal_builtin (env := ksEnv "Refused.__init__" iS s.heap.objs.size fI (.ref cda) cc) G₁ T.sup b1 ((b2 _ (by decide +kernel)).trans (by first | boot_by_name | rfl | kernel_rfl)) ⟨rfl, ?_⟩)
  refine wpAny_loadName_free rfl (by kernel_rfl) (by kernel_rfl) ⟨_, X₁ _ _ hcell, rfl⟩ ?_
  refine wpAny_loadName_local (v := .ref x) rfl (by kernel_rfl) hn (by kernel_rfl) ?_
  refine ks_wpAny_isType_cls hCat rfl ⟨rfl, ?_⟩
  refine ks_wpAny_call_super hCat rfl hx₁ rfl (fun c e => by cases e) (looks_mroIn X₁ T.mro) (fun h₂ hso k₂ => ?_)
  have X₂ : K.In h₂ := X₁.keeps k₂
  have hx₂ := k₂ _ _ hx₁
  have hn₂ := hn.keeps k₂
  have I₂ : InstAt h₂ x (excO C t0) C none := ⟨hx₂, rfl, rfl, trivial⟩
  have hm := T.sIn
  unfold ks_superIn at hm
  rw [hcl] at hm
  refine kxs_getMethod kxs_ValueError (l₀ := .ref C :: bm) hso (looks_opaque X₂ T.opq) (fun A Q E s k q => wpAny_bind ((looks_clsIn X₂ hcl) A _ E s k (wpAny_pure q))) rfl X₂ hm (I₂.type.andThen (looks_subIn X₂ T.hB)) hne (by decide +kernel) ?_
  have k₃ : ∀ b o, h₂.get? b = some o → (h₂.push (kxs_mw "ValueError.__init__" x)).get? b = some o := fun b o e => Heap.get?_push_of_some _ e
  have hu : (h₂.push (kxs_mw "ValueError.__init__" x)).get? h₂.objs.size = some (kxs_mw "ValueError.__init__" x) := Heap.get?_push_at rfl rfl
  refine kxs_callWith (i := "ValueError.__init__") (x := x) (by kernel_rfl) ?_
  refine evalArgs_plain (spliced_cons ?_)
  have hn₃ := hn₂.keeps k₃
  refine wpAny_Name (env := ksEnv "Refused.__init__" iS s.heap.objs.size fI (.ref cda) cc) (wpAny_loadName_local (v := v) rfl (by kernel_rfl) hn₃ (by kernel_rfl) ?_) (by decide +kernel)
  refine spliced_nil ⟨hu, ?_⟩
  have hC₃ := k₃ _ _ (k₂ _ _ hCat)
  have hx₃ := k₃ _ _ hx₂
  refine wpAny_call (codeAny_of_tree (show wpAny _ _ (callAny (.ref h₂.objs.size) ⟨[v], []⟩) _ _ _ from ?_))
  simp only [callAny]
  refine wpAny_bind (wpAny_load hu ?_)
  simp only [kxs_mw, show ((Value.type "method-wrapper" == Value.type "method") || (Value.type "method-wrapper" == Value.type "builtin_function_or_method") || (Value.type "method-wrapper" == Value.type "method-wrapper")) = true by decide, if_true]
  refine KFB.if_so (by decide) (wpAny_bind (check_bound_init F.excBase_ValueError.toExcCallFacts hC₃ hx₃ rfl (wpAny_bind (wpAny_pure (wpAny_pure ⟨plainId_quiet F.excBase_ValueError.init.plain _, codeAny_builtin F.excBase_ValueError.initEntry ?_⟩)))))
  refine exc_init_tree (cls := .ref C) (t0 := t0) (dv := none) (c2 := .none) (c3 := .none) (b4 := .bool false) hx₃ (one_size v) fun h₄ k₄ hx₄ ht₄ => ?_
  have hn₄ : h₄.Ns s.heap.objs.size (fun y => [(("self" : Str), Value.ref x), (("what" : Str), v)].reverse.lookup y) := by
    obtain ⟨oL, es, ep, e1, r⟩ := hn₃
    exact ⟨oL, es, ep, k₄ _ _ (fun z => hL z) e1, r⟩
  have old : ∀ b o, b ≠ x → s.heap.get? b = some o → h₄.get? b = some o := fun b o nb e => k₄ b o nb (k₃ _ _ (k₂ _ _ (hk _ _ e)))
  have X₄ : K.In h₄ := fun b o e => old b o (fun z => by rw [z, hnx] at e; cases e) (X _ _ e)
  refine wpAt_of_wpAny (wpAny_execs_cons (plainObj_wpAny_Assign_Attribute ?_))
  refine wpAny_Name (env := ksEnv "Refused.__init__" iS s.heap.objs.size fI (.ref cda) cc) (wpAny_loadName_local (v := v) rfl (by kernel_rfl) hn₄ (by kernel_rfl) ?_) (by decide +kernel)
  refine wpAny_Name (env := ksEnv "Refused.__init__" iS s.heap.objs.size fI (.ref cda) cc) (wpAny_loadName_local (v := .ref x) rfl (by kernel_rfl) hn₄ (by kernel_rfl) ?_) (by decide +kernel)
  refine set_plain X₄ (od := none) ⟨hx₄, rfl, rfl, trivial⟩ T.sa ?_
  refine exc_osa X₄ hx₄ hcl (show refsVE (.ref C :: bm) = true from hbm) rfl T.noN (fun h₅ tk₅ dx k₅ dn dne hx₅ hn₅ => ?_)
  show wpAny _ _ (execs _ _) _ _ _
  refine wpAny_execs_nil (hq h₅ tk₅ dx _ ⟨fun b o hb e => k₅ b o hb (old b o hb e), hx₅, ?_, dne, hn₅⟩)
  obtain ⟨oL, es, ep, e1, r⟩ := hn₄
  exact Nat.le_of_lt (Nat.lt_of_lt_of_le (Heap.lt_size e1) dn)
theorem rf_made (T : RfTxt prog K mg C fI) {v : Value} (X : K.In s.heap) (G : s.heap.Ns mainGlobals mg) (B : ∃ mb, s.heap.Ns builtinsNs mb ∧ ∀ x : Str, x ≠ "__name__" → mb x = bootBuiltins x) (hlim : s.heap.NoLimit) (hroom : A.depth + 1 < recursionLimit)
    (hq : ∀ h' tk e d, OwnMade s.heap h' e C d v → R (.ok (.ret (.ref e))) { s with heap := h', toks := tk }) :
    codeAny (model prog w) A (.call (.ref C) ⟨[v], []⟩) R s := by
  obtain ⟨nm, q, N, bs, bm, sn, sub, ab, col, dd, k0, k1, k2, k3, k5, hC, hbm⟩ := T.cls
  obtain ⟨hp, g, dr, tk, os⟩ := s
  have k : ∀ b o, hp.get? b = some o → ((hp.push (kdv_tup [v])).push (excO C hp.objs.size)).get? b = some o := fun b o e => Heap.get?_push_of_some _ (Heap.get?_push_of_some _ e)
  have hget : ((hp.push (kdv_tup [v])).push (excO C hp.objs.size)).get? (hp.objs.size + 1) = some (excO C hp.objs.size) := by heap_get
  have hnx : K.lookup (hp.objs.size + 1) = none := by
    cases e : K.lookup (hp.objs.size + 1) with
    | none => rfl
    | some o =>
      have z : hp.get? (hp.objs.size + 1) = some o := X _ _ e
      exact absurd (Nat.lt_of_succ_lt (Heap.lt_size z)) (Nat.lt_irrefl _)
  obtain ⟨mb, b1, b2⟩ := B
  refine call_own F.excBase_ValueError (fun X => refsVE_contains X bm hbm) (X _ _ hC) (looks_findIn X T.iC) (fun self => bind_fn X self T.tC) (one_size v) ?_
  refine rf_init (s := ⟨(hp.push (kdv_tup [v])).push (excO C hp.objs.size), g, dr, tk, os⟩) T (X.keeps k) (G.keeps k) ⟨mb, b1.keeps k, b2⟩ (hlim.keeps k) hget hnx ?_ fun h' tk' dx t1 ⟨k', hx, dn, dne, hns⟩ => ?_
  · show A.depth + 1 < recursionLimit
    exact hroom
  · have old : ∀ b o, hp.get? b = some o → h'.get? b = some o := fun b o e => k' b o (Nat.ne_of_lt (Nat.lt_succ_of_lt (Heap.lt_size e))) (k b o e)
    have z : hp.objs.size + 1 + 1 ≤ dx := by
      first
        | (simpa only [Heap.size_push] using dn)
        | exact dn
        | (have q := dn; rw [Heap.size_push, Heap.size_push] at q; exact q)
    exact ⟨rfl, hq h' tk' (hp.objs.size + 1) dx ⟨old, Nat.le_succ _, ⟨_, _, hx, rfl, rfl, rfl, rfl⟩, Nat.le_trans (Nat.le_trans (Nat.le_succ _) (Nat.le_succ _)) z, dne, hns⟩⟩
end
end RfX
end PySem
namespace L2
open PySem PySem.Spec PyProof.Rows
theorem relO_rf {v : V} {v' : Value} (r : RelV v v') (f : Str) : RelO (List.lookup f [(("what" : Str), v)]) (if f = "what" then some v' else none) := by
  by_cases hw : f = "what"
  · subst hw
    rw [if_pos rfl]
    have q : List.lookup ("what" : Str) [(("what" : Str), v)] = some v := by simp [List.lookup]
    rw [q]
    exact r
  · rw [if_neg hw]
    have qw : (f == ("what" : Str)) = false := by simpa using hw
    have q2 : List.lookup f [(("what" : Str), v)] = none := by simp [List.lookup, qw]
    rw [q2]
    trivial
section
variable {X : Cx} {C fI : Addr}
/-- Refused(e) -/
def tMkRf (C : Addr) (ta : TA) : St → Hp → XK → Prop := fun σ H Q => ta σ H fun vs H1 => ∃ v, vs = [v] ∧ ∀ d, H1 d = none → Q (.ref C) (some d) (upd H1 d (.xd [(("what" : Str), v)]))
theorem pmk_rf {a : Expr} {ta : TA} {p pos : Pos} {k : Nat} (T : PySem.RfX.RfTxt X.prog X.K X.mg C fI) (hr : Room k X.A) (ha : PA X [a] ta) (hg : Gl X "Refused" := by rfl)
    (he : starEach (a :: []) X.env = (false, eval a X.env) :: starEach [] X.env := by rfl) (hpl : (backTo pos (starEach [] X.env)).any (·.1) = false := by rfl) :
    PMk X (.Call (.Name "Refused" p) [a] [] pos) (tMkRf C ta) := by
  intro pins s σ H Q I h
  refine wpAny_Call_Name_kw (ld_glob I hg T.gC ?_)
  refine PySem.W.callWith_K (h₀ := X.base) I.ok.mod.kin T.kC (thn (ha.run pos pins s σ H _ I h) fun us s1 hh => ?_) he hpl
  obtain ⟨vs, H1, I1, r1, v, ev, q1⟩ := hh
  subst ev
  refine ⟨I1.kIn, ?_⟩
  cases r1 with
  | cons rv rn =>
    rename_i v' us'
    cases rn
    show wpAny _ _ (call (.ref C) [v']) _ _ _
    have hlim := I1.nolimit
    have hG := I1.mod.glob.keeps I1.bk
    obtain ⟨mb, hb1, hb2⟩ := I1.mod.blt
    have hB := hb1.keeps I1.bk
    obtain ⟨hp, g, dr, tk, os⟩ := s1
    refine wpAny_call (PySem.RfX.rf_made T I1.kIn hG ⟨mb, hB, hb2⟩ hlim (by have := hr.dp; omega) fun h' tk' e d M => ?_)
    show MkP X pins σ Q (.ref e) ⟨h', g, dr, tk', os⟩
    obtain ⟨oe, fv, hoe, hc, hd, hdat, h1⟩ := M.obj
    have hns := M.ns
    obtain ⟨G', g1, g2⟩ := restrict h' fun b => decide (b ≠ e)
    have gk : ∀ b, b ≠ e → G'.get? b = h'.get? b := fun b hb => g1 b (decide_eq_true hb)
    have ge : G'.get? e = none := g2 e (by simp)
    have old : ∀ b o, hp.get? b = some o → G'.get? b = some o := fun b o q => (gk b (Nat.ne_of_lt (Nat.lt_of_lt_of_le (Heap.lt_size q) M.new))).trans (M.keep b o q)
    have ob : ObjOk X.prog X.w (upd H1 d (.xd [(("what" : Str), v)])) G' d (.xd [(("what" : Str), v)]) :=
      ⟨_, hns.at (fun o q => (gk d M.dne).trans q), fun f => relO_rf rv f⟩
    have J : Inv X pins σ (upd H1 d (.xd [(("what" : Str), v)])) ⟨G', g, dr, tk', os⟩ := I1.laid (t' := tk') old M.dbig ob
    refine ⟨e, oe, fv, ⟨G', g, dr, tk', os⟩, _, .ref C, some d, rfl, J, fun b o q => ?_, ge, hoe, ⟨hc, hd⟩, hdat, h1, ?_, rfl, I1.bare, raises_own T.exC T.tyC, q1 d (I1.hok.fresh M.dbig)⟩
    · by_cases hb : b = e
      · have q' : G'.get? b = some o := q
        rw [hb, ge] at q'; cases q'
      · exact (gk b hb).symm.trans q
    · rw [upd_ne (Ne.symm M.dne)]
      exact I1.hok.fresh M.new
/-- raise Refused(e) -/
def tRaiseRf (C : Addr) (W : WX) (ta : TA) : TS := fun _ σ H => tMkRf C ta σ H fun cls d H' => W cls d σ H'
theorem ps_raiseRf {a : Expr} {ta : TA} {W : WX} {p pos pos2 : Pos} {k : Nat} (hc : X.calm = true) (T : PySem.RfX.RfTxt X.prog X.K X.mg C fI) (hr : Room k X.A) (tk : Takes X W) (ha : PA X [a] ta) (hg : Gl X "Refused" := by rfl)
    (he : starEach (a :: []) X.env = (false, eval a X.env) :: starEach [] X.env := by rfl) (hpl : (backTo pos (starEach [] X.env)).any (·.1) = false := by rfl) :
    PS X (.Raise (some (.Call (.Name "Refused" p) [a] [] pos)) none pos2) (tRaiseRf C W ta) := ps_raise hc tk (pmk_rf T hr ha hg he hpl)
/-- e.what, e the exception that the suite holds (at a; its class cls, its dict d) -/
def tByRf (C : Addr) (a : Addr) (cls : Value) (d : Option Addr) (te : TE) : TE := fun σ H Q => te σ H fun x H1 => x = .ref a ∧ cls = .ref C ∧ ∃ (dd : Addr) (v : V), d = some dd ∧ H1 dd = some (.xd [(("what" : Str), v)]) ∧ Q v H1
theorem pe_byRf {a : Addr} {oe : Obj} {cls : Value} {d : Option Addr} {pn : List (Addr × Obj)} {e : Expr} {te : TE} {pos : Pos} (T : PySem.RfX.RfTxt X.prog X.K X.mg C fI) (hz : Zc cls d oe) (hf : ∃ vs, oe.data = .fields vs) (he : PE (X.suite a ((a, oe) :: pn)) e te)
    (hb : attributeBase e "what" X.env (eval e X.env) = eval e X.env := by rfl) :
    PE (X.suite a ((a, oe) :: pn)) (.Attribute e "what" pos) (tByRf C a cls d te) := by
  refine ⟨fun pins s σ H Q I h => ?_⟩
  refine attr_of hb (thn (he.run pins s σ H _ I h) fun u s1 hh => ?_)
  obtain ⟨x, H1, I1, rx, ex, ec, dd, v, ed, ea, q⟩ := hh
  subst ex
  obtain rfl : u = Value.ref a := rx
  subst ec
  subst ed
  obtain ⟨ha, _⟩ := I1.pin (a, oe) (List.mem_append_left _ List.mem_cons_self)
  obtain ⟨vs, hd⟩ := hf
  have hx : ObjOk X.prog X.w H1 s1.heap dd (.xd [(("what" : Str), v)]) := I1.hok dd _ ea
  obtain ⟨mA, hns, hr⟩ := hx
  obtain ⟨od, ho, hl⟩ := lookIn_ns hns
  have l : List.lookup ("what" : Str) [(("what" : Str), v)] = some v := by simp [List.lookup]
  obtain ⟨u, hu, ru⟩ := RelO.some_of (v := v) (o := mA "what") (by rw [← l]; exact hr "what")
  have J : PySem.W.InstAt s1.heap a oe C (some od) := ⟨ha, hz.1, by unfold PySem.W.notCls; rw [hd] <;> rfl, by rw [hz.2]; exact ho⟩
  exact HandSPX.exc_get I1.kIn J T.ga T.gg T.exC (PySem.W.findObj_own T.hdC T.noN rfl (by rw [hl, hu])) (handed_of ru) ⟨v, H1, I1.tok _, ru, q⟩
end
theorem exm_selfR {K : PySem.W.Frag} {S : Addr} (h1 : PySem.W.subIn K (.ref S) (.type "BaseException") = some true) (h2 : PySem.W.isClsIn K S = true) (h3 : PySem.W.typeIn K (.ref S) = some (.type "type")) (h4 : PySem.W.subIn K (.ref S) (.ref S) = some true) :
    PySem.W.exmOne K (.ref S) (.ref S) = some true := by
  have e1 : (PySem.W.subIn K (.ref S) (.type "BaseException") == some true) = true := by rw [h1] <;> rfl
  have e2 : ((PySem.W.clsIn K S).isSome && PySem.W.typeIn K (.ref S) == some (.type "type")) = true := by
    have h2' : (PySem.W.clsIn K S).isSome = true := h2
    rw [h2', h3] <;> rfl
  show (if (PySem.W.subIn K (.ref S) (.type "BaseException") == some true) = true then (if ((PySem.W.clsIn K S).isSome && PySem.W.typeIn K (.ref S) == some (.type "type")) = true then PySem.W.subIn K (.ref S) (.ref S) else none) else none) = some true
  rw [if_pos e1, if_pos e2]
  exact h4
end L2

/-! Exc2: defs that may raise Refused, told on data -/
namespace Mir
open PySem PySem.Spec PyProof.Rows L2
abbrev xdW (v : V) : HO := .xd [(("what" : Str), v)]
/-- what a def that may raise gives -/
inductive Rz where
  | ok (d : PyData)
  | ex (d : PyData)
inductive RzA where
  | ok (ds : List PyData)
  | ex (d : PyData)
inductive OutX where
  | nx (e : En)
  | bk (e : En)
  | ct (e : En)
  | rt (d : PyData)
  | rs (e : En) (d : PyData)
  | bad
def OutOkX (K : PySem.W.Frag) (C : Addr) (W : WX) (S0 : Addr → Prop) (H0 : Hp) (A : Addr → Prop) (H : Hp) (o : OutX) (D : Ends) : Prop := match o with
  | .nx e => OutOk K S0 H0 A H (.nx e) D
  | .bk e => OutOk K S0 H0 A H (.bk e) D
  | .ct e => OutOk K S0 H0 A H (.ct e) D
  | .rt d => OutOk K S0 H0 A H (.rt d) D
  | .rs e d => ∀ A' H' σ' dx v, EnvOk K S0 H0 A' H' σ' e → Fr A H H' → Sb A H A' → H' dx = some (xdW v) → Rp K (Cl S0 H0 A') H' d v → W (.ref C) (some dx) σ' H'
  | .bad => False
def tSX (K : PySem.W.Frag) (C : Addr) (W : WX) (f : En → OutX) : TS := fun D σ H => ∃ S0 H0 A env, EnvOk K S0 H0 A H σ env ∧ OutOkX K C W S0 H0 A H (f env) D
def upO : Out → OutX
  | .nx e => .nx e
  | .bk e => .bk e
  | .ct e => .ct e
  | .rt d => .rt d
  | .bad => .bad
def up (s : En → Out) : En → OutX := fun env => upO (s env)
section
variable {K : PySem.W.Frag} {C : Addr} {W : WX} {S0 S : Addr → Prop} {H0 H H' H'' : Hp} {A A' A'' : Addr → Prop} {σ : L2.St} {env : En} {D : Ends}
theorem OutOkX.step {o : OutX} (h : OutOkX K C W S0 H0 A H o D) (f : Fr A H H') (s : Sb A H A') : OutOkX K C W S0 H0 A' H' o D := by
  cases o with
  | nx e => exact OutOk.step (o := .nx e) h f s
  | bk e => exact OutOk.step (o := .bk e) h f s
  | ct e => exact OutOk.step (o := .ct e) h f s
  | rt d => exact OutOk.step (o := .rt d) h f s
  | rs e d => exact fun A2 H2 σ2 dx v E f2 s2 hx r => h A2 H2 σ2 dx v E (f.trans s f2) (Sb.trans f s s2) hx r
  | bad => exact h
theorem up_ok {o : Out} (h : OutOkX K C W S0 H0 A H (upO o) D) : OutOk K S0 H0 A H o D := by cases o <;> exact h
end
section
variable {X : Cx} {C fI : Addr} {W : WX} {e a b : Expr} {es : List Expr} {st : Stmt} {sts : List Stmt} {pos pos' : Pos} {c c1 c2 : Bool} {f : En → Option PyData} {fa : En → Option (List PyData)} {fx : En → Option Rz} {s t : En → OutX} {ga : En → Option Bool}
/-! ### statements -/
theorem sx_up {s : En → Out} (h : PS X st (tS X.K s)) : PS X st (tSX X.K C W (up s)) := ps_w h fun D σ H ⟨S0, H0, A, env, E, o⟩ => ⟨S0, H0, A, env, E, up_ok o⟩
def xNil : En → OutX := fun env => .nx env
def xSeq (s t : En → OutX) : En → OutX := fun env => match s env with
  | .nx e => t e
  | .bk e => .bk e
  | .ct e => .ct e
  | .rt d => .rt d
  | .rs e d => .rs e d
  | .bad => .bad
theorem sx_nil : PSs X [] (tSX X.K C W xNil) := pss_w pss_nil fun D σ H ⟨S0, H0, A, env, E, o⟩ => o A H σ E Fr.refl Sb.refl
theorem sx_one (h1 : PS X st (tSX X.K C W s)) : PSs X [st] (tSX X.K C W s) := pss_one h1
theorem sx_cons (h1 : PS X st (tSX X.K C W s)) (h2 : PSs X sts (tSX X.K C W t)) : PSs X (st :: sts) (tSX X.K C W (xSeq s t)) := pss_w (pss_cons h1 h2) fun D σ H ⟨S0, H0, A, env, E, o⟩ => by
  refine ⟨S0, H0, A, env, E, ?_⟩
  unfold xSeq at o
  cases hs : s env with
  | nx e =>
    rw [hs] at o
    exact fun A' H' σ' E' f' b' => ⟨S0, H0, A', e, E', OutOkX.step o f' b'⟩
  | bk e => rw [hs] at o; exact o
  | ct e => rw [hs] at o; exact o
  | rt d => rw [hs] at o; exact o
  | rs e d => rw [hs] at o; exact o
  | bad => rw [hs] at o; exact o
theorem sx_frz {i : Nat} (h : PS X st (tSX X.K C W s)) : PS X st (tSX X.K C W fun env => s (frz i env)) := ps_w h fun D σ H ⟨S0, H0, A, env, E, o⟩ => by
  obtain ⟨A', E', w⟩ := E.frz i
  exact ⟨S0, H0, A', _, E', OutOkX.step o Fr.refl fun a z => .inl (w a z)⟩
def xIf (ga : En → Option Bool) (s t : En → OutX) : En → OutX := fun env => match ga env with
  | some true => s env
  | some false => t env
  | none => .bad
theorem sx_if {a b : List Stmt} (hc : PT X e (tT X.K ga)) (ha : PSs X a (tSX X.K C W s)) (hb : PSs X b (tSX X.K C W t)) : PS X (.If e a b pos) (tSX X.K C W (xIf ga s t)) := ps_w (ps_if hc ha hb) fun D σ H ⟨S0, H0, A, env, E, o⟩ => by
  unfold xIf at o
  cases hd : ga env with
  | none => rw [hd] at o; exact o.elim
  | some k =>
    rw [hd] at o
    refine ⟨S0, H0, A, env, k, E, hd, fun H' sm => ?_⟩
    cases k with
    | true => exact iteT <| ⟨S0, H0, A, env, E.grow sm, OutOkX.step o (Fr.of_same sm) Sb.refl⟩
    | false => exact iteF <| ⟨S0, H0, A, env, E.grow sm, OutOkX.step o (Fr.of_same sm) Sb.refl⟩
def loopX (g : PyData → En → Option En) (b : En → OutX) : List PyData → En → OutX
  | [], e => .nx e
  | d :: ds, e => match g d e with
    | none => .bad
    | some e1 => match b e1 with
      | .nx e2 => loopX g b ds e2
      | .ct e2 => loopX g b ds e2
      | .bk e2 => .nx e2
      | .rt v => .rt v
      | .rs e2 v => .rs e2 v
      | .bad => .bad
def xFor (f : En → Option (List PyData)) (g : PyData → En → Option En) (b : En → OutX) : En → OutX := fun env => match f env with
  | some ds => loopX g b ds env
  | none => .bad
theorem forX_run {K : PySem.W.Frag} {σ : L2.St} {H : Hp} {f : En → Option (List PyData)} {g : PyData → En → Option En} {b : En → OutX} {vs : List Nat} {D : Ends} (h : tSX K C W (xFor f g b) D σ H) : tFor (tI K true f) (tG K vs g) (tSX K C W b) D σ H := by
  obtain ⟨S0, H0, A, env, E, o⟩ := h
  unfold xFor at o
  cases hd : f env with
  | none => rw [hd] at o; exact o.elim
  | some ds =>
    rw [hd] at o
    refine ⟨S0, H0, A, env, ds, E, hd, fun J H1 G s _ gF wk => ?_⟩
    refine ⟨fun i m σ' H' => m = ds.length - i ∧ i ≤ ds.length ∧ ∃ A' env', EnvOk K S0 H0 A' H' σ' env' ∧ Fr A H1 H' ∧ Sb A H1 A' ∧ OutOkX K C W S0 H0 A' H' (loopX g b (ds.drop i) env') D,
      ⟨_, rfl, Nat.zero_le _, A, env, E.grow s, Fr.refl, Sb.refl, OutOkX.step o (Fr.of_same s) Sb.refl⟩, ?_⟩
    rintro i m σ' H' ⟨rfl, hi, A', env', E', f', b', o'⟩
    by_cases hlt : i < ds.length
    · have hdr : ds.drop i = ds[i] :: ds.drop (i + 1) := List.drop_eq_getElem_cons hlt
      rw [hdr] at o'
      refine .inr ⟨wk.go i H' (gF rfl H' f') hlt, fun σ2 H2 => ∃ A2 e2, EnvOk K S0 H0 A2 H2 σ2 e2 ∧ Fr A H1 H2 ∧ Sb A H1 A2 ∧ OutOkX K C W S0 H0 A2 H2 (loopX g b (ds.drop (i + 1)) e2) D, ?_, fun x Hx y => ?_⟩
      · rintro σ2 H2 ⟨A2, e2, z⟩
        exact ⟨ds.length - (i + 1), by omega, rfl, hlt, A2, e2, z⟩
      · obtain ⟨sx, rx⟩ := wk.yld i H' _ x Hx (gF rfl H' f') (List.getElem?_eq_getElem hlt) y
        have rx' : Rp K (Cl S0 H0 A') Hx ds[i] x := rx.wide fun a z => ⟨z.1.1, fun y => by
          rcases b' a y with k | k
          · exact z.1.2 k
          · exact z.2 k⟩
        simp only [loopX] at o'
        cases hg : g ds[i] env' with
        | none => rw [hg] at o'; exact o'.elim
        | some e1 =>
          rw [hg] at o'
          refine ⟨S0, H0, A', env', _, e1, E'.grow sx, rx', hg, fun σ1 E1 _ => ⟨S0, H0, A', e1, E1, ?_⟩⟩
          have fs : Fr A' H' Hx := Fr.of_same sx
          cases hb : b e1 with
          | nx e2 =>
            simp only [hb] at o'
            exact fun A2 H2 σ2 E2 f2 b2 => ⟨A2, e2, E2, f'.trans b' (fs.trans Sb.refl f2), Sb.trans f' b' (Sb.trans fs Sb.refl b2), OutOkX.step o' (fs.trans Sb.refl f2) (Sb.trans fs Sb.refl b2)⟩
          | ct e2 =>
            simp only [hb] at o'
            exact fun A2 H2 σ2 E2 f2 b2 => ⟨A2, e2, E2, f'.trans b' (fs.trans Sb.refl f2), Sb.trans f' b' (Sb.trans fs Sb.refl b2), OutOkX.step o' (fs.trans Sb.refl f2) (Sb.trans fs Sb.refl b2)⟩
          | bk e2 =>
            simp only [hb] at o'
            exact fun A2 H2 σ2 E2 f2 b2 => o' A2 H2 σ2 E2 (fs.trans Sb.refl f2) (Sb.trans fs Sb.refl b2)
          | rt v => simp only [hb] at o'; exact o'
          | rs e2 v =>
            simp only [hb] at o'
            exact fun A2 H2 σ2 dx u E2 f2 b2 hx r => o' A2 H2 σ2 dx u E2 (fs.trans Sb.refl f2) (Sb.trans fs Sb.refl b2) hx r
          | bad => simp only [hb] at o'; exact o'
    · have hdr : ds.drop i = [] := List.drop_eq_nil_of_le (by omega)
      rw [hdr] at o'
      exact .inl ⟨wk.stop i H' (gF rfl H' f') (by omega), o' A' H' σ' E' Fr.refl Sb.refl⟩
theorem sx_for {tg iter : Expr} {f : En → Option (List PyData)} {g : PyData → En → Option En} {b : En → OutX} {vs : List Nat} {body : List Stmt} (hp : PassesOwn (model X.prog X.w) X.A X.env X.xe) (hc : X.calm = true) (hi : PI X tg iter (tI X.K true f)) (hg : PG X tg (tG X.K vs g)) (hb : PSs X body (tSX X.K C W b)) (hs : ∀ x, foldedSetIterable iter X.env x = pure x := by intro _; rfl) :
    PS X (.For tg iter body [] pos) (tSX X.K C W (xFor f g b)) := ps_w (ps_for hp hc hi hg hb hs) fun _ _ _ q => forX_run q
/-- raise Refused(e) -/
def xRaise (f : En → Option PyData) : En → OutX := fun env => match f env with
  | some d => .rs env d
  | none => .bad
theorem sx_raise (h : PS X st (tRaiseRf C W (tCons (tE X.K true f) tNil))) : PS X st (tSX X.K C W (xRaise f)) := ps_w h fun D σ H ⟨S0, H0, A, env, E, o⟩ => by
  unfold xRaise at o
  cases hd : f env with
  | none => rw [hd] at o; exact o.elim
  | some d =>
    rw [hd] at o
    refine ⟨S0, H0, A, env, d, E, hd, fun v H1 s1 r1 => ⟨v, rfl, fun dx hdx => ?_⟩⟩
    exact o A _ σ dx v (E.grow (s1.trans (same_new hdx))) (Fr.of_same (s1.trans (same_new hdx))) Sb.refl upd_same ((r1.wide fun _ z => cl_sc z).grow (same_new hdx))
/-! ### expressions that may raise -/
def tX (K : PySem.W.Frag) (C : Addr) (W : WX) (c : Bool) (f : En → Option Rz) : TE := fun σ H Q => ∃ S0 H0 A env r, EnvOk K S0 H0 A H σ env ∧ f env = some r ∧ match r with
  | .ok d => ∀ v H', Same H H' → Rp K (SC c S0 H0 A) H' d v → Q v H'
  | .ex d => ∀ dx v H', Same H H' → H' dx = some (xdW v) → Rp K (SC true S0 H0 A) H' d v → W (.ref C) (some dx) σ H'
def tAX (K : PySem.W.Frag) (C : Addr) (W : WX) (c : Bool) (f : En → Option RzA) : TA := fun σ H Q => ∃ S0 H0 A env r, EnvOk K S0 H0 A H σ env ∧ f env = some r ∧ match r with
  | .ok ds => ∀ vs H', Same H H' → RpA K (SC c S0 H0 A) H' ds vs → Q vs H'
  | .ex d => ∀ dx v H', Same H H' → H' dx = some (xdW v) → Rp K (SC true S0 H0 A) H' d v → W (.ref C) (some dx) σ H'
def spX (K : PySem.W.Frag) (C : Addr) (g : List PyData → Option Rz) : Sp := fun vs H Q E => ∃ S ds r, RpA K S H ds vs ∧ g ds = some r ∧ match r with
  | .ok d => ∀ v H', Same H H' → Rp K (Bd S H) H' d v → Q v H'
  | .ex d => ∀ dx v H', Same H H' → H' dx = some (xdW v) → Rp K (Bd S H) H' d v → E (.ref C) (some dx) H'
def xOk (f : En → Option PyData) : En → Option Rz := fun env => (f env).map .ok
theorem xe_ok (h : PE X e (tE X.K c f)) : PE X e (tX X.K C W c (xOk f)) := pe_w h fun σ H Q ⟨S0, H0, A, env, r, E, hf, q⟩ => by
  unfold xOk at hf
  cases hd : f env with
  | none => rw [hd] at hf; cases hf
  | some d => rw [hd] at hf; cases hf; exact ⟨S0, H0, A, env, d, E, hd, q⟩
def xaOk (fa : En → Option (List PyData)) : En → Option RzA := fun env => (fa env).map .ok
theorem xa_ok (h : PA X es (tA X.K c fa)) : PA X es (tAX X.K C W c (xaOk fa)) := pa_w h fun σ H Q ⟨S0, H0, A, env, r, E, hf, q⟩ => by
  unfold xaOk at hf
  cases hd : fa env with
  | none => rw [hd] at hf; cases hf
  | some d => rw [hd] at hf; cases hf; exact ⟨S0, H0, A, env, d, E, hd, q⟩
/-- the first argument may raise, the others not -/
def xaCons (fx : En → Option Rz) (fa : En → Option (List PyData)) : En → Option RzA := fun env => match fx env with
  | some (.ok d) => match fa env with
    | some ds => some (.ok (d :: ds))
    | none => none
  | some (.ex d) => some (.ex d)
  | none => none
theorem xa_cons (ha : PE X e (tX X.K C W c fx)) (hr : PA X es (tA X.K c fa)) (hs : starEach (e :: es) X.env = (false, eval e X.env) :: starEach es X.env := by rfl) : PA X (e :: es) (tAX X.K C W c (xaCons fx fa)) := pa_w (pa_cons ha hr hs) fun σ H Q ⟨S0, H0, A, env, r, E, hf, q⟩ => by
  unfold xaCons at hf
  split at hf
  · rename_i d hd
    split at hf
    · rename_i ds hds
      cases hf
      exact ⟨S0, H0, A, env, .ok d, E, hd, fun v H1 s1 r1 => ⟨S0, H0, A, env, ds, E.grow s1, hds, fun vs H2 s2 r2 => q _ H2 (s1.trans s2) (RpA.cons (r1.grow s2) r2)⟩⟩
    · cases hf
  · rename_i d hd
    cases hf
    exact ⟨S0, H0, A, env, .ex d, E, hd, q⟩
  · cases hf
/-- a call of a def that may raise -/
def xCall (g : List PyData → Option Rz) (fa : En → Option RzA) : En → Option Rz := fun env => match fa env with
  | some (.ok ds) => g ds
  | some (.ex d) => some (.ex d)
  | none => none
theorem xe_call {gd : List PyData → Option Rz} {fa : En → Option RzA} (h : PE X e (tCallS (spX X.K C gd) (WE W) (tAX X.K C W true fa))) : PE X e (tX X.K C W c (xCall gd fa)) := pe_w h fun σ H Q ⟨S0, H0, A, env, r, En, hf, q⟩ => by
  unfold xCall at hf
  split at hf
  · rename_i ds hd
    refine ⟨S0, H0, A, env, .ok ds, En, hd, fun vs H1 s1 r1 => ⟨Cl S0 H0 A, ds, r, r1.wide fun _ z => cl_sc z, hf, ?_⟩⟩
    cases r with
    | ok d => exact fun v H2 s2 r2 => q v H2 (s1.trans s2) (r2.wide fun _ z => bd_sc (En.grow s1) z)
    | ex d => exact fun dx v H2 s2 hx r2 => q dx v H2 (s1.trans s2) hx (r2.wide fun _ z => bd_sc (En.grow s1) z)
  · rename_i d hd
    cases hf
    exact ⟨S0, H0, A, env, .ex d, En, hd, q⟩
  · cases hf
/-- a call of a def that raises nothing, of arguments the first of which may -/
def xCall0 (g : List PyData → Option PyData) (fa : En → Option RzA) : En → Option Rz := fun env => match fa env with
  | some (.ok ds) => (g ds).map .ok
  | some (.ex d) => some (.ex d)
  | none => none
theorem xe_call0 {gd : List PyData → Option PyData} {fa : En → Option RzA} {E0 : XK} (h : PE X e (tCall (spF X.K gd) [] E0 (tAX X.K C W true fa))) : PE X e (tX X.K C W c (xCall0 gd fa)) := pe_w h fun σ H Q ⟨S0, H0, A, env, r, En, hf, q⟩ => by
  unfold xCall0 at hf
  split at hf
  · rename_i ds hd
    refine ⟨S0, H0, A, env, .ok ds, En, hd, fun vs H1 s1 r1 => ?_⟩
    cases hg : gd ds with
    | none => rw [hg] at hf; cases hf
    | some d =>
      rw [hg] at hf
      cases hf
      show spF X.K gd (vs ++ []) H1 Q E0
      rw [List.append_nil]
      exact ⟨Cl S0 H0 A, ds, d, r1.wide fun _ z => cl_sc z, hg, fun v H2 s2 r2 => q v H2 (s1.trans s2) (r2.wide fun _ z => bd_sc (En.grow s1) z)⟩
  · rename_i d hd
    cases hf
    exact ⟨S0, H0, A, env, .ex d, En, hd, q⟩
  · cases hf
/-- a built-in of such arguments -/
theorem xe_cb {sc : Bool} {r : List V → Hp → VK → Prop} {h : List PyData → Option PyData} {fa : En → Option RzA} (R : CROk X.K sc r h) (he : PE X e (tCB r (tAX X.K C W c1 fa))) (hc : sc = true ∨ c2 = c1 := by first | exact .inl rfl | exact .inr rfl) : PE X e (tX X.K C W c2 (xCall0 h fa)) := pe_w he fun σ H Q ⟨S0, H0, A, env, z, E, hf, q⟩ => by
  unfold xCall0 at hf
  split at hf
  · rename_i ds hd
    refine ⟨S0, H0, A, env, .ok ds, E, hd, fun vs H1 s1 r1 => ?_⟩
    cases hg : h ds with
    | none => rw [hg] at hf; cases hf
    | some d =>
      rw [hg] at hf
      cases hf
      exact R (SC c1 S0 H0 A) (SC c2 S0 H0 A) H1 vs ds d Q (fun p hp => sc_new (E.grow s1) hp) (hc.imp id fun z => by rw [z]) r1 hg fun v H2 s2 r2 => q v H2 (s1.trans s2) r2
  · rename_i d hd
    cases hf
    exact ⟨S0, H0, A, env, .ex d, E, hd, q⟩
  · cases hf
/-- x op y, y may raise -/
def x2 (h : PyData → PyData → Option PyData) (f : En → Option PyData) (g : En → Option Rz) : En → Option Rz := fun env => match f env with
  | some x => match g env with
    | some (.ok y) => (h x y).map .ok
    | some (.ex d) => some (.ex d)
    | none => none
  | none => none
theorem xe_op {op : Operator} {r : R2} {h : PyData → PyData → Option PyData} {sc : Bool} {g : En → Option Rz} (ho : OpR X (binaryOp op) r) (R : R2Ok X.K sc r h) (ha : PE X a (tE X.K c1 f)) (hb : PE X b (tX X.K C W c1 g)) (hc : sc = true ∨ c2 = c1 := by first | exact .inl rfl | exact .inr rfl) :
    PE X (.BinOp a op b pos) (tX X.K C W c2 (x2 h f g)) := pe_w (pe_op ho ha hb) fun σ H Q ⟨S0, H0, A, env, z, E, hf, q⟩ => by
  unfold x2 at hf
  split at hf
  · rename_i x hx
    refine ⟨S0, H0, A, env, x, E, hx, fun v H1 s1 r1 => ?_⟩
    split at hf
    · rename_i y hy
      refine ⟨S0, H0, A, env, .ok y, E.grow s1, hy, fun u H2 s2 r2 => ?_⟩
      cases hg : h x y with
      | none => rw [hg] at hf; cases hf
      | some d =>
        rw [hg] at hf
        cases hf
        exact R (SC c1 S0 H0 A) (SC c2 S0 H0 A) H2 v u x y d Q (fun p hp => sc_new (E.grow (s1.trans s2)) hp) (hc.imp id fun z => by rw [z]) (r1.grow s2) r2 hg fun z H3 s3 r3 => q z H3 ((s1.trans s2).trans s3) r3
    · rename_i d hd
      cases hf
      exact ⟨S0, H0, A, env, .ex d, E.grow s1, hd, fun dx v H2 s2 hx r2 => q dx v H2 (s1.trans s2) hx r2⟩
    · cases hf
  · cases hf
/-- [e], e may raise -/
def xLst (fa : En → Option RzA) : En → Option Rz := fun env => match fa env with
  | some (.ok ds) => if ds.length ≤ 1000000 then some (.ok (.list ds)) else none
  | some (.ex d) => some (.ex d)
  | none => none
theorem xe_lst {fa : En → Option RzA} (h : PA X es (tAX X.K C W c fa)) : PE X (.List es pos) (tX X.K C W c (xLst fa)) := pe_w (pe_lst h) fun σ H Q ⟨S0, H0, A, env, r, E, hf, q⟩ => by
  unfold xLst at hf
  split at hf
  · rename_i ds hd
    split at hf
    · rename_i hl
      cases hf
      refine ⟨S0, H0, A, env, .ok ds, E, hd, fun vs H1 s1 r1 => ⟨by rw [r1.length]; exact sz6 hl, fun p hp => q _ _ (s1.trans (same_new hp)) ?_⟩⟩
      rw [Rp]
      exact ⟨p, vs, rfl, .inl ⟨sc_new (E.grow s1) hp, .inl upd_same⟩, r1.grow (same_new hp)⟩
    · cases hf
  · rename_i d hd
    cases hf
    exact ⟨S0, H0, A, env, .ex d, E, hd, q⟩
  · cases hf
/-- list(e), e may raise -/
def xList (g : En → Option Rz) : En → Option Rz := fun env => match g env with
  | some (.ok (.list ds)) => some (.ok (.list ds))
  | some (.ok (.tuple ds)) => some (.ok (.list ds))
  | some (.ex d) => some (.ex d)
  | _ => none
theorem xe_list {g : En → Option Rz} (h : PE X e (tCB (fun xs H Q => ∃ p ys, xs = [.ref p] ∧ (SqL X.K H p ys ∨ SqT X.K H p ys) ∧ ∀ l, H l = none → Q (.ref l) (upd H l (.lst ys))) (tCons (tX X.K C W true g) tNil))) : PE X e (tX X.K C W c (xList g)) := pe_w h fun σ H Q ⟨S0, H0, A, env, r, E, hf, q⟩ => by
  unfold xList at hf
  split at hf
  · rename_i ds hd
    cases hf
    refine ⟨S0, H0, A, env, _, E, hd, fun v H1 s1 r1 => ?_⟩
    rw [Rp] at r1
    obtain ⟨p, xs, rfl, hs, ra⟩ := r1
    refine ⟨p, xs, rfl, .inl hs.sq, fun l hl => q _ _ (s1.trans (same_new hl)) ?_⟩
    rw [Rp]
    exact ⟨l, xs, rfl, .inl ⟨sc_new (E.grow s1) hl, .inl upd_same⟩, (ra.wide fun _ z => sc_cl (cl_sc z)).grow (same_new hl)⟩
  · rename_i ds hd
    cases hf
    refine ⟨S0, H0, A, env, _, E, hd, fun v H1 s1 r1 => ?_⟩
    rw [Rp] at r1
    obtain ⟨p, xs, rfl, hs, ra⟩ := r1
    refine ⟨p, xs, rfl, .inr (live_t hs), fun l hl => q _ _ (s1.trans (same_new hl)) ?_⟩
    rw [Rp]
    exact ⟨l, xs, rfl, .inl ⟨sc_new (E.grow s1) hl, .inl upd_same⟩, (ra.wide fun _ z => sc_cl (cl_sc z)).grow (same_new hl)⟩
  · rename_i d hd
    cases hf
    exact ⟨S0, H0, A, env, .ex d, E, hd, q⟩
  · cases hf
/-! ### statements of such expressions -/
theorem rs_of {K : PySem.W.Frag} {S0 : Addr → Prop} {H0 H H' : Hp} {A : Addr → Prop} {σ : L2.St} {env : En} {D : Ends} {d : PyData} (E : EnvOk K S0 H0 A H σ env) (o : OutOkX K C W S0 H0 A H (.rs env d) D) {dx : Addr} {v : V} (s : Same H H') (hx : H' dx = some (xdW v)) (r : Rp K (SC true S0 H0 A) H' d v) : W (.ref C) (some dx) σ H' :=
  o A H' σ dx v (E.grow s) (Fr.of_same s) Sb.refl hx (r.wide fun _ z => cl_sc z)
def xSet (i : Nat) (fx : En → Option Rz) : En → OutX := fun env => match fx env with
  | some (.ok d) => .nx (env.set i (.val d))
  | some (.ex d) => .rs env d
  | none => .bad
theorem sx_set {i : Nat} (h : PS X st (tAsg (tX X.K C W true fx) (gName i))) : PS X st (tSX X.K C W (xSet i fx)) := ps_w h fun D σ H ⟨S0, H0, A, env, E, o⟩ => by
  unfold xSet at o
  split at o
  · rename_i d hd
    exact ⟨S0, H0, A, env, _, E, hd, fun v H' s r => o A H' _ ((E.grow s).set_val (r.wide fun _ z => cl_sc z)) (Fr.of_same s) Sb.refl⟩
  · rename_i d hd
    exact ⟨S0, H0, A, env, _, E, hd, fun dx v H' s hx r => rs_of E o s hx r⟩
  · exact o.elim
def xUnp (fx : En → Option Rz) (g : PyData → En → Option En) : En → OutX := fun env => match fx env with
  | some (.ok d) => match g d env with
    | some e => .nx e
    | none => .bad
  | some (.ex d) => .rs env d
  | none => .bad
theorem sx_unp {g : PyData → En → Option En} {vs : List Nat} (h : PS X st (tAsg (tX X.K C W true fx) (tG X.K vs g))) : PS X st (tSX X.K C W (xUnp fx g)) := ps_w h fun D σ H ⟨S0, H0, A, env, E, o⟩ => by
  unfold xUnp at o
  split at o
  · rename_i d hd
    split at o
    · rename_i e hg
      exact ⟨S0, H0, A, env, _, E, hd, fun v H1 s r => ⟨S0, H0, A, env, d, e, E.grow s, r.wide fun _ z => cl_sc z, hg, fun σ' E' _ => o A H1 σ' E' (Fr.of_same s) Sb.refl⟩⟩
    · exact o.elim
  · rename_i d hd
    exact ⟨S0, H0, A, env, _, E, hd, fun dx v H' s hx r => rs_of E o s hx r⟩
  · exact o.elim
def xRet (fx : En → Option Rz) : En → OutX := fun env => match fx env with
  | some (.ok d) => .rt d
  | some (.ex d) => .rs env d
  | none => .bad
theorem sx_ret (h : PE X e (tX X.K C W true fx)) : PS X (.Return (some e) pos) (tSX X.K C W (xRet fx)) := ps_w (ps_ret h) fun D σ H ⟨S0, H0, A, env, E, o⟩ => by
  unfold xRet at o
  split at o
  · rename_i d hd
    exact ⟨S0, H0, A, env, _, E, hd, fun v H' sm r => o v H' (E.same.trans sm) (r.wide fun _ z => (cl_sc z).1)⟩
  · rename_i d hd
    exact ⟨S0, H0, A, env, _, E, hd, fun dx v H' s hx r => rs_of E o s hx r⟩
  · exact o.elim
/-! ### try .. except Refused as e -/
def wipeO (i : Nat) : Out → Out
  | .nx e => .nx (e.set i .un)
  | .bk e => .bk (e.set i .un)
  | .ct e => .ct (e.set i .un)
  | .rt d => .rt d
  | .bad => .bad
open Classical in
noncomputable def sTry (i : Nat) (body : En → OutX) (suite : Addr → Addr → En → Out) : En → Out := fun env => match body env with
  | .nx e => .nx e
  | .bk e => .bk e
  | .ct e => .ct e
  | .rt d => .rt d
  | .bad => .bad
  | .rs e d => if h : ∃ o, ∀ a dd, wipeO i (suite a dd (e.set i (.exc a dd d))) = o then Classical.choose h else .bad
theorem EnvOk.set_exc {K : PySem.W.Frag} {S0 : Addr → Prop} {H0 H : Hp} {A : Addr → Prop} {σ : L2.St} {env : En} (E : EnvOk K S0 H0 A H σ env) {i : Nat} {a dd : Addr} {d : PyData} {u : V} (h1 : H dd = some (xdW u)) (h2 : Rp K (Cl S0 H0 A) H d u) : EnvOk K S0 H0 A H (σ.set i (some (.ref a))) (env.set i (.exc a dd d)) where
  len := by simp [E.len]
  sl := fun j s q => by
    rcases set_get q with ⟨rfl, l, rfl⟩ | ⟨n, q⟩
    · exact .inr ⟨_, set_self (by rw [E.len]; exact l), rfl, u, h1, h2⟩
    · rw [set_other n]
      exact E.sl j s q
  dis := fun j k s t b q1 q2 o1 o2 q3 q4 => by
    rcases set_get q1 with ⟨_, _, z⟩ | ⟨n1, q1⟩
    · subst z; cases o1
    rcases set_get q2 with ⟨_, _, z⟩ | ⟨n2, q2⟩
    · subst z; cases o2
    rw [set_other n1] at q3
    rw [set_other n2] at q4
    exact E.dis j k s t b q1 q2 o1 o2 q3 q4
  dm := fun j k rows t a c bs n q1 q2 o q3 q4 q5 => by
    rcases set_get q1 with ⟨_, _, z⟩ | ⟨n1, q1⟩
    · cases z
    rcases set_get q2 with ⟨_, _, z⟩ | ⟨n2, q2⟩
    · subst z; cases o
    rw [set_other n1] at q3
    rw [set_other n2] at q4
    exact E.dm j k rows t a c bs n q1 q2 o q3 q4 q5
  tr := E.tr
  nw := E.nw
  same := E.same
theorem pss_ex {ι : Type} {P : ι → Prop} {t : ι → TS} (h : ∀ i, P i → PSs X sts (t i)) : PSs X sts (fun D σ H => ∃ i, P i ∧ t i D σ H) := ⟨fun pins s σ H D I ⟨i, p, q⟩ => (h i p).run pins s σ H D I q⟩
/-- what the suite's text does to data, the exception at a, its dict at dd -/
def tsE (K : PySem.W.Frag) (C : Addr) (suite : Addr → Addr → En → Out) : Addr → Value → Option Addr → TS := fun a cls dx D σ H => ∃ dd, (cls = .ref C ∧ dx = some dd) ∧ tS K (suite a dd) D σ H
open Classical in
theorem cs_tryAs {i : Nat} {body : En → OutX} {suite : Addr → Addr → En → Out} {Wout : WX} (T : PySem.RfX.RfTxt X.prog X.K X.mg C fI) (h : PS X st (fun D σ H => tSX X.K C (wAs X.K (.ref C) i (tsE X.K C suite) Wout D) body D σ H)) : PS X st (tS X.K (sTry i body suite)) := ps_w h fun D σ H ⟨S0, H0, A, env, E, o⟩ => by
  refine ⟨S0, H0, A, env, E, ?_⟩
  unfold sTry at o
  cases hb : body env with
  | nx e => rw [hb] at o; exact o
  | bk e => rw [hb] at o; exact o
  | ct e => rw [hb] at o; exact o
  | rt d => rw [hb] at o; exact o
  | bad => rw [hb] at o; exact o
  | rs e d =>
    rw [hb] at o
    intro A' H' σ' dx v E' f' b' hx r
    refine ⟨true, T.te, fun _ a ha => ?_, fun q => nomatch q⟩
    replace o : OutOk X.K S0 H0 A H (if h : ∃ o, ∀ a dd, wipeO i (suite a dd (e.set i (.exc a dd d))) = o then Classical.choose h else .bad) D := o
    split at o
    · rename_i hex
      have hch := Classical.choose_spec hex a dx
      refine ⟨dx, ⟨rfl, rfl⟩, S0, H0, A', _, E'.set_exc (a := a) (dd := dx) hx r, ?_⟩
      have o' := OutOk.step o f' b'
      rw [← hch] at o'
      cases hs : suite a dx (e.set i (.exc a dx d)) with
      | nx e2 =>
        rw [hs] at o'
        exact fun A2 H2 σ2 E2 f2 b2 => o' A2 H2 _ (E2.un i none) f2 b2
      | bk e2 =>
        rw [hs] at o'
        exact fun A2 H2 σ2 E2 f2 b2 => o' A2 H2 _ (E2.un i none) f2 b2
      | ct e2 =>
        rw [hs] at o'
        exact fun A2 H2 σ2 E2 f2 b2 => o' A2 H2 _ (E2.un i none) f2 b2
      | rt v2 => rw [hs] at o'; exact o'
      | bad => rw [hs] at o'; exact o'.elim
    · exact o.elim
/-- try .. except Refused, without a name -/
def sTry0 (body : En → OutX) (suite : En → Out) : En → Out := fun env => match body env with
  | .nx e => .nx e
  | .bk e => .bk e
  | .ct e => .ct e
  | .rt d => .rt d
  | .bad => .bad
  | .rs e _ => suite e
theorem cs_try0 {body : En → OutX} {suite : En → Out} {Wout : WX} (T : PySem.RfX.RfTxt X.prog X.K X.mg C fI) (h : PS X st (fun D σ H => tSX X.K C (wOnly X.K (.ref C) (fun _ _ _ => tS X.K suite) Wout D) body D σ H)) : PS X st (tS X.K (sTry0 body suite)) := ps_w h fun D σ H ⟨S0, H0, A, env, E, o⟩ => by
  refine ⟨S0, H0, A, env, E, ?_⟩
  unfold sTry0 at o
  cases hb : body env with
  | nx e => rw [hb] at o; exact o
  | bk e => rw [hb] at o; exact o
  | ct e => rw [hb] at o; exact o
  | rt d => rw [hb] at o; exact o
  | bad => rw [hb] at o; exact o
  | rs e d =>
    rw [hb] at o
    intro A' H' σ' dx v E' f' b' hx r
    exact ⟨true, T.te, fun _ a ha => ⟨S0, H0, A', e, E', OutOk.step o f' b'⟩, fun q => nomatch q⟩
open Classical in
theorem sTry_ev {i : Nat} {body : En → OutX} {suite : Addr → Addr → En → Out} {env e : En} {d : PyData} {o : Out} (h1 : body env = .rs e d) (h2 : ∀ a dd, wipeO i (suite a dd (e.set i (.exc a dd d))) = o) : sTry i body suite env = o := by
  unfold sTry
  rw [h1]
  have hex : ∃ o, ∀ a dd, wipeO i (suite a dd (e.set i (.exc a dd d))) = o := ⟨o, h2⟩
  show (if h : _ then Classical.choose h else .bad) = o
  rw [dif_pos hex]
  rw [← Classical.choose_spec hex 0 0, h2]
/-- e.what -/
def eWhat (i : Nat) (a dd : Addr) : En → Option PyData := fun env => match env[i]? with
  | some (.exc a' dd' d) => if a' = a ∧ dd' = dd then some d else none
  | _ => none
theorem ce_what {i : Nat} {a dd : Addr} {oe : Obj} {cls : Value} {dx : Option Addr} {pn : List (Addr × Obj)} (T : PySem.RfX.RfTxt X.prog X.K X.mg C fI) (hz : Zc cls dx oe) (hf : ∃ vs, oe.data = .fields vs) (h1 : cls = .ref C) (h2 : dx = some dd) (he : PE (X.suite a ((a, oe) :: pn)) e (tVar i))
    (hb : attributeBase e "what" X.env (eval e X.env) = eval e X.env := by rfl) : PE (X.suite a ((a, oe) :: pn)) (.Attribute e "what" pos) (tE X.K true (eWhat i a dd)) := pe_w (pe_byRf T hz hf he hb) fun σ H Q ⟨S0, H0, A, env, d, E, hd, q⟩ => by
  unfold eWhat at hd
  split at hd
  · rename_i a' dd' d' hi
    split at hd
    · rename_i hh
      cases hd
      obtain ⟨rfl, rfl⟩ := hh
      rcases E.sl i _ hi with z | ⟨v, k1, rfl, u, k2, k3⟩
      · cases z
      exact ⟨_, k1, rfl, h1, dd', u, h2, k2, q u H (Same.refl H) (k3.wide fun _ z => sc_cl z)⟩
    · cases hd
  · cases hd
end
/-! ### a def -/
def outDX : OutX → Option Rz
  | .rt d => some (.ok d)
  | .nx _ => some (.ok .none)
  | .rs _ d => some (.ex d)
  | _ => none
def gDefX (np nN : Nat) (fB : En → OutX) : List PyData → Option Rz := fun ds => if ds.length = np then outDX (fB (env0 nN ds)) else none
section
variable {K : PySem.W.Frag} {P : Program} {w : World} {mg : Str → Option Value} {base : Heap} {C : Addr}
theorem start_ok {N : List Str} {ds : List PyData} {vs : List V} {S : Addr → Prop} {H : Hp} (r : RpA K S H ds vs) : EnvOk K S H (fun _ => False) H (L2.start N vs) (env0 N.length ds) := by
  have h : spF K (gDef ds.length N.length fun _ => .rt .none) vs H (fun _ _ => True) (fun _ _ _ => True) := ⟨S, ds, .none, r, by unfold gDef; rw [if_pos rfl]; rfl, fun _ _ _ _ => trivial⟩
  refine ⟨?_, fun i s e => ?_, fun i j es fs a e1 _ o1 => ?_, fun _ _ _ _ _ _ _ _ h1 _ _ _ _ _ => (env0_nomat h1).elim, fun _ z => z.elim, fun _ z => z.elim, Same.refl H⟩
  · simp [L2.start, env0, r.length]
  · unfold env0 at e
    by_cases hi : i < ds.length
    · rw [List.getElem?_append_left (by simpa using hi), List.getElem?_map, List.getElem?_eq_getElem hi] at e
      cases e
      obtain ⟨v, e1, e2⟩ := r.get (List.getElem?_eq_getElem hi)
      refine .inr ⟨v, ?_, e2.wide fun a z => ⟨.inl z, fun y => y⟩⟩
      unfold L2.start
      rw [List.getElem?_append_left (by simpa [r.length] using hi), List.getElem?_map, e1]
      rfl
    · rw [List.getElem?_append_right (by simpa using Nat.le_of_not_lt hi)] at e
      exact .inl (List.eq_of_mem_replicate (List.mem_of_getElem? e))
  · exfalso
    unfold env0 at e1
    by_cases hi : i < ds.length
    · rw [List.getElem?_append_left (by simpa using hi), List.getElem?_map, List.getElem?_eq_getElem hi] at e1
      cases e1
      cases o1
    · rw [List.getElem?_append_right (by simpa using Nat.le_of_not_lt hi)] at e1
      cases (List.eq_of_mem_replicate (List.mem_of_getElem? e1))
      cases o1
theorem def_runX {N : List Str} {np : Nat} {fB : En → OutX} {vs : List V} {H : Hp} {Q : VK} {E : XK} (h : spX K C (gDefX np N.length fB) vs H Q E) : tSX K C (fun cls d _ H => E cls d H) fB { nx := fun _ H' => Q .non H', rt := Q } (L2.start N vs) H := by
  obtain ⟨S, ds, z, r, hg, q⟩ := h
  unfold gDefX at hg
  split at hg
  · refine ⟨S, H, fun _ => False, env0 N.length ds, start_ok r, ?_⟩
    cases ho : fB (env0 N.length ds) with
    | rt v => rw [ho] at hg; cases hg; exact q
    | nx e => rw [ho] at hg; cases hg; exact fun A' H' σ' E' _ _ => q _ H' E'.same (by rw [Rp])
    | bk e => rw [ho] at hg; cases hg
    | ct e => rw [ho] at hg; cases hg
    | rs e d => rw [ho] at hg; cases hg; exact fun A' H' σ' dx v E' _ _ hx r => q dx v H' E'.same hx (r.wide fun _ z => z.1)
    | bad => rw [ho] at hg; cases hg
  · cases hg
theorem fn_okX {x qual : Str} {st : Stmt} {f : Addr} {fd : FuncData} {N ps : List Str} {k np nN : Nat} {fB : En → OutX} {g : List PyData → Option Rz} (F : Fun K x qual st f fd) (S : FnScope N ps (defScope st)) (hp : np = ps.length) (hN : nN = N.length) (hg : g = gDefX np nN fB)
    (hb : ∀ (cdv : Value) (A : Around) (outer : List Env) (s : Shared) (H : Hp) (E : XK), Room k (A.deeper (envOfC qual (defScope st) s.heap.objs.size f cdv)) → PSs (cxOf (L2.CX P w) P w K mg base N qual (defScope st) f cdv A outer s H E) (defBody st) (tSX K C (fun cls d _ H => E cls d H) fB)) :
    FnOk P w K mg base (L2.CX P w) (k + 1) f fd ps (spX K C g) := by
  subst hp hN hg
  refine F.okX S (fun vs H Q E h => ?_) fun cdv A outer s H vs Q E hr h => ⟨_, hb cdv A outer s H E hr, def_runX h⟩
  obtain ⟨S', ds, d, r, hg, _⟩ := h
  unfold gDefX at hg
  split at hg
  · rw [r.length]; assumption
  · cases hg
end
end Mir

namespace Mir
open PySem PySem.Spec PyProof.Rows L2
section
variable {X : Cx} {e a b : Expr} {st : Stmt} {pos p : Pos} {c c1 c2 : Bool} {f g : En → Option PyData} {x : Str}
/-! ### a dict of the module with text keys and text values -/
def eKd (tab : List (Str × Str)) (g : En → Option PyData) : En → Option PyData := fun env => match g env with
  | some (.str z) => (tab.find? fun q => decide (q.1 = z)).map fun q => .str q.2
  | _ => none
theorem ce_kd {tab : List (Str × Str)} {d : Addr} (hg : Gl X x) (hm : X.mg x = some (.ref d)) (D : ∀ q ∈ tab, KDct X.K X.w d q.1 (.str q.2)) (hb : PE X b (tE X.K c1 g)) (hs : PlainIx b) (hd : (x == ("__debug__" : Str)) = false := by decide) : PE X (.Subscript (.Name x p) b pos) (tE X.K true (eKd tab g)) :=
  pe_w (pe_ix ix_kdict (pe_glob (v := .ref d) hg hm rfl hd) hb hs) fun σ H Q ⟨S0, H0, A, env, z, E, hf, q⟩ => by
    unfold eKd at hf
    split at hf
    · rename_i y hy
      cases hk : tab.find? fun q => decide (q.1 = y) with
      | none => rw [hk] at hf; cases hf
      | some r =>
        rw [hk] at hf
        cases hf
        have h1 := List.find?_some hk
        have h2 := List.mem_of_find?_eq_some hk
        refine ⟨S0, H0, A, env, _, E, hy, fun u H1 s1 r1 => ?_⟩
        rw [Rp] at r1
        have e1 : r.1 = y := by simpa using h1
        exact ⟨d, y, .str r.2, rfl, r1, e1 ▸ D r h2, q _ H1 s1 rps⟩
    · cases hf
/-! ### x.bit_length() -/
def bitsD : PyData → Option PyData
  | .int i => some (.int (Builtin.Int.intBits i : Nat))
  | _ => none
theorem ce_bits (h : PE X e (tBits (tE X.K c1 f))) : PE X e (tE X.K c (e1 bitsD f)) := pe_w h fun σ H Q ⟨S0, H0, A, env, d, E, hf, q⟩ => by
  unfold e1 at hf
  split at hf
  · rename_i x hx
    refine ⟨S0, H0, A, env, _, E, hx, fun v H1 s1 r1 => ?_⟩
    cases x with
    | int i =>
      rw [Rp] at r1
      cases hf
      exact ⟨i, r1, q _ H1 s1 (by rw [Rp])⟩
    | _ => cases hf
  · cases hf
/-! ### a def that may raise, called where it doesn't -/
def eCallNR (g : List PyData → Option Rz) (fa : En → Option (List PyData)) : En → Option PyData := fun env => match fa env with
  | some ds => match g ds with
    | some (.ok d) => some d
    | _ => none
  | none => none
theorem ce_callNR {C : Addr} {gd : List PyData → Option Rz} {fa : En → Option (List PyData)} (h : PE X e (tCallS (spX X.K C gd) (WE fun _ _ _ _ => False) (tA X.K true fa))) : PE X e (tE X.K c (eCallNR gd fa)) := pe_w h fun σ H Q ⟨S0, H0, A, env, r, En, hf, q⟩ => by
  unfold eCallNR at hf
  split at hf
  · rename_i ds hd
    split at hf
    · rename_i d hg
      cases hf
      exact ⟨S0, H0, A, env, ds, En, hd, fun vs H1 s1 r1 => ⟨Cl S0 H0 A, ds, .ok _, r1.wide fun _ z => cl_sc z, hg, fun v H2 s2 r2 => q v H2 (s1.trans s2) (r2.wide fun _ z => bd_sc (En.grow s1) z)⟩⟩
    · cases hf
  · cases hf
/-! ### a, b = x, y -/
def sPar (i j : Nat) (fa : En → Option (List PyData)) : En → Out := fun env => match fa env with
  | some [d1, d2] => .nx ((env.set i (.val d1)).set j (.val d2))
  | _ => .bad
theorem cs_par {i j : Nat} {fa : En → Option (List PyData)} (h : PS X st (tPar i j (tA X.K true fa))) : PS X st (tS X.K (sPar i j fa)) := ps_w h fun D σ H ⟨S0, H0, A, env, E, o⟩ => by
  unfold sPar at o
  split at o
  · rename_i d1 d2 hd
    refine ⟨S0, H0, A, env, _, E, hd, fun vs H1 s1 r1 => ?_⟩
    obtain ⟨v, u, rfl, r2, r3⟩ := r1.two
    exact ⟨v, u, rfl, o A H1 _ (((E.grow s1).set_val (r2.wide fun _ z => cl_sc z)).set_val (r3.wide fun _ z => cl_sc z)) (Fr.of_same s1) Sb.refl⟩
  · exact o.elim
/-! ### max over a tuple -/
def rMxT (K : PySem.W.Frag) (k : Int → List Int → Int) : List V → Hp → VK → Prop := fun vs H Q => ∃ a n ns, vs = [.ref a] ∧ SqT K H a ((n :: ns).map V.int) ∧ Q (.int (k n ns)) H
theorem call_mxT (hc : X.calm = true) (hu : X.A.units + 64 < cLine) : CallR X (.builtin "max") (rMxT X.K mxI) := by
  intro pins s σ H vs us Q I r h
  obtain ⟨a, n, ns, rfl, hs, q⟩ := h
  obtain ⟨its, rv, hl, _⟩ := I.tuple hs
  rw [Vals.ref1 r]
  obtain ⟨as, ra⟩ := readsInts (h := s.heap) rv
  refine PySem.W.max_tuple_data (I.ok.hd hc) hl (by rw [List.toList_toArray]; exact ra) (alike_ints (n :: ns)) (by rw [show PyData.int n :: ns.map PyData.int = (n :: ns).map PyData.int from rfl, depth_ints]; omega) fun i v h' tk bs hi rr k => ?_
  rw [PySem.W.maxD_ints] at rr
  obtain ⟨t, rfl⟩ := reads_int rr
  exact ⟨.int _, H, I.kept (t' := tk) k, ⟨_, rfl⟩, by rw [mxI_max]; exact q⟩
def mxTA (k : Int → List Int → Int) : List PyData → Option PyData
  | [.tuple ds] => match intsD ds with
    | some (n :: ns) => some (.int (k n ns))
    | _ => none
  | _ => none
theorem cr_mxT {K : PySem.W.Frag} {k : Int → List Int → Int} : CROk K true (rMxT K k) (mxTA k) := by
  intro S S' H vs ds d Q _ _ r h q
  unfold mxTA at h
  split at h
  · replace r := r.one
    obtain ⟨v, rfl, r⟩ := r
    rw [Rp] at r
    obtain ⟨a, xs, rfl, hs, ra⟩ := r
    split at h
    · rename_i n ns hi
      cases h
      obtain ⟨e1, _⟩ := intsD_rp hi ra
      subst e1
      exact ⟨a, n, ns, rfl, live_t hs, q _ H (Same.refl H) rp1⟩
    · cases h
  · cases h
end
end Mir

/-! Mir11: a def handed over as the first argument, and called by its local name -/
namespace Mir
open PySem PySem.Spec PyProof.Rows L2
section
variable {K : PySem.W.Frag} {P : Program} {w : World} {mg : Str → Option Value} {base : Heap} {C : Addr}
def env1 (a : Addr) (nN : Nat) (ds : List PyData) : En := .fn a :: env0 (nN - 1) ds
def gDef1 (a : Addr) (np nN : Nat) (fB : En → Out) : List PyData → Option PyData := fun ds => if ds.length = np then outD (fB (env1 a nN ds)) else none
def sp1 (a : Addr) (sp : Sp) : Sp := fun vs H Q E => ∃ us, vs = .ref a :: us ∧ sp us H Q E
theorem EnvOk.cons_fn {S : Addr → Prop} {H : Hp} {σ : L2.St} {env : En} {a : Addr} (E : EnvOk K S H (fun _ => False) H σ env) (no : ∀ s ∈ env, ow s = false) : EnvOk K S H (fun _ => False) H (some (.ref a) :: σ) (.fn a :: env) where
  len := by simp [E.len]
  sl := fun i s h => by
    cases i with
    | zero => cases h; exact .inr ⟨_, rfl, rfl⟩
    | succ i => exact E.sl i s h
  dis := fun i j s t b h1 h2 o1 o2 _ _ => by
    exfalso
    cases i with
    | zero => cases h1; cases o1
    | succ i =>
      have := no s (List.mem_of_getElem? h1)
      rw [this] at o1
      cases o1
  dm := fun i j rows t a c bs n h1 h2 o _ _ _ => by
    exfalso
    cases i with
    | zero => cases h1
    | succ i =>
      have := no _ (List.mem_of_getElem? h1)
      cases this
  tr := fun _ z => z.elim
  nw := fun _ z => z.elim
  same := E.same
theorem env0_ow (nN : Nat) (ds : List PyData) : ∀ s ∈ env0 nN ds, ow s = false := fun s h => by
  unfold env0 at h
  rcases List.mem_append.mp h with h | h
  · obtain ⟨d, _, rfl⟩ := List.mem_map.mp h
    rfl
  · rw [List.eq_of_mem_replicate h]
    rfl
theorem start_ok1 {N : List Str} {ds : List PyData} {us : List V} {S : Addr → Prop} {H : Hp} {a : Addr} (hN : N ≠ []) (r : RpA K S H ds us) : EnvOk K S H (fun _ => False) H (L2.start N (.ref a :: us)) (env1 a N.length ds) := by
  cases N with
  | nil => exact absurd rfl hN
  | cons x N =>
    have e : L2.start (x :: N) (.ref a :: us) = some (.ref a) :: L2.start N us := by
      unfold L2.start
      rw [List.map_cons, List.length_cons, List.length_cons, Nat.add_sub_add_right]
      rfl
    rw [e]
    exact (start_ok (N := N) r).cons_fn (env0_ow _ _)
theorem def_run1 {N : List Str} {np : Nat} {fB : En → Out} {vs : List V} {H : Hp} {Q : VK} {E : XK} {a : Addr} (hN : N ≠ []) (h : sp1 a (spF K (gDef1 a np N.length fB)) vs H Q E) : tS K fB { nx := fun _ H' => Q .non H', rt := Q } (L2.start N vs) H := by
  obtain ⟨us, rfl, S, ds, d, r, hg, q⟩ := h
  unfold gDef1 at hg
  split at hg
  · refine ⟨S, H, fun _ => False, env1 a N.length ds, start_ok1 hN r, ?_⟩
    cases ho : fB (env1 a N.length ds) with
    | rt v =>
      rw [ho] at hg
      cases hg
      exact q
    | nx e =>
      rw [ho] at hg
      cases hg
      exact fun A' H' σ' E' _ _ => q _ H' E'.same (by rw [Rp])
    | bk e => rw [ho] at hg; cases hg
    | ct e => rw [ho] at hg; cases hg
    | bad => rw [ho] at hg; cases hg
  · cases hg
theorem fn_ok1 {x qual : Str} {st : Stmt} {f a : Addr} {fd : FuncData} {N ps : List Str} {k np nN : Nat} {fB : En → Out} {g : List PyData → Option PyData} (F : Fun K x qual st f fd) (S : FnScope N ps (defScope st)) (hp : np + 1 = ps.length) (hN : nN = N.length) (hn : N ≠ []) (hg : g = gDef1 a np nN fB)
    (hb : ∀ (cdv : Value) (A : Around) (outer : List Env) (s : Shared) (H : Hp) (E : XK), Room k (A.deeper (envOfC qual (defScope st) s.heap.objs.size f cdv)) → PSs (cxOf CX0 P w K mg base N qual (defScope st) f cdv A outer s H E).nox (defBody st) (tS K fB)) :
    FnOk P w K mg base CX0 (k + 1) f fd ps (sp1 a (spF K g)) := by
  subst hN hg
  refine F.ok S (fun vs H Q E h => ?_) fun cdv A outer s H vs Q E hr h => ⟨_, hb cdv A outer s H E hr, def_run1 hn h⟩
  obtain ⟨us, rfl, S', ds, d, r, hg, _⟩ := h
  unfold gDef1 at hg
  split at hg
  · rw [List.length_cons, r.length, ← hp]; omega
  · cases hg
open Classical in
/-- whatever the address -/
noncomputable def gAll (g : Addr → List PyData → Option PyData) : List PyData → Option PyData := fun ds => if h : ∃ d, ∀ a, g a ds = some d then some (Classical.choose h) else none
theorem gAll_of {g : Addr → List PyData → Option PyData} {ds : List PyData} {d : PyData} (h : gAll g ds = some d) (a : Addr) : g a ds = some d := by
  unfold gAll at h
  split at h
  · rename_i hx
    cases h
    exact Classical.choose_spec hx a
  · cases h
theorem gAll_ev {g : Addr → List PyData → Option PyData} {ds : List PyData} {d : PyData} (h : ∀ a, g a ds = some d) : gAll g ds = some d := by
  have hx : ∃ d, ∀ a, g a ds = some d := ⟨d, h⟩
  unfold gAll
  rw [dif_pos hx, ← Classical.choose_spec hx 0, h]
theorem fn_imp1 {k : Nat} {f a : Addr} {fd : FuncData} {ps : List Str} {g : Addr → List PyData → Option PyData} (F : FnOk P w K mg base CX0 k f fd ps (sp1 a (spF K (g a)))) : FnOk P w K mg base CX0 k f fd ps (sp1 a (spF K (gAll g))) :=
  F.imp fun vs H Q E ⟨us, e, S, ds, d, r, hg, q⟩ => ⟨us, e, S, ds, d, r, gAll_of hg a, q⟩
end
section
variable {X : Cx} {CX : CXT} {k i : Nat} {f a : Addr} {fd : FuncData} {ps : List Str} {sp : Sp} {x : Str} {p pos : Pos} {e : Expr} {es : List Expr} {t : TA} {c : Bool} {fa : En → Option (List PyData)} {gd : List PyData → Option PyData}
/-- h(def, ..) -/
theorem ce_call1 {E0 : XK} (h : PE X e (tCall (sp1 a (spF X.K gd)) [] E0 (tCons (tC (.ref a)) (tA X.K true fa)))) : PE X e (tE X.K c (eCall gd fa)) := pe_w h fun σ H Q q => by
  have z := call_run (E := E0) q
  obtain ⟨S0, H0, A, env, ds, En, hd, q⟩ := z
  refine ⟨S0, H0, A, env, ds, En, hd, fun vs H1 s1 r1 => ?_⟩
  exact ⟨vs ++ [], rfl, q vs H1 s1 r1⟩
/-- the def in slot i, called; it may raise -/
def tCallLS (i : Nat) (f : Addr) (sp : Sp) (E : L2.St → XK) (t : TA) : TE := fun σ H Q => σ[i]? = some (some (.ref f)) ∧ t σ H fun vs H1 => sp vs H1 Q (E σ)
theorem pe_callLS {E : L2.St → XK} (F : FnOk X.prog X.w X.K X.mg X.base CX k f fd ps sp) (hr : Room k X.A) (hN : X.N[i]? = some x) (hv : Vis X.env.scope x) (hk : PySem.W.keepIn X.K (.ref f) = true) (hb : Binds X.K fd ps []) (hx : ∀ σ, PassesAt CX X σ (E σ)) (ha : PA X (e :: es) t)
    (hdb : (x == ("__debug__" : Str)) = false := by decide) (hcd : (x == ("__classdict__" : Str)) = false := by decide)
    (he : starEach (e :: es) X.env = (false, eval e X.env) :: starEach es X.env := by rfl) (hpl : (backTo pos (starEach es X.env)).any (·.1) = false := by rfl) : PE X (.Call (.Name x p) (e :: es) [] pos) (tCallLS i f sp E t) := by
  refine ⟨fun pins s σ H Q I h => ?_⟩
  obtain ⟨hs, ht⟩ := h
  refine wpAny_Call_Name_kw (thn ((pe_var (pos := p) hN hv hdb hcd).run pins s σ H (fun v H1 => v = .ref f ∧ H1 = H) I ⟨.ref f, hs, rfl, rfl⟩) fun u s1 ⟨v, H1, I1, r1, q1⟩ => ?_)
  obtain ⟨rfl, rfl⟩ := q1
  cases r1
  refine PySem.W.callWith_K (h₀ := X.base) I.ok.mod.kin hk (thn (ha.run pos pins s1 σ _ _ I1 ht) fun us s2 ⟨vs, H2, I2, r, q⟩ => ⟨I2.kIn, ?_⟩) he hpl
  exact run_fnS F hr hb (hx σ) I2 r q
def xCallF (i : Nat) (a : Addr) (g : List PyData → Option Rz) (fa : En → Option RzA) : En → Option Rz := fun env => match env[i]? with
  | some (.fn b) => if b = a then xCall g fa env else none
  | _ => none
theorem xe_callF {C : Addr} {W : WX} {gx : List PyData → Option Rz} {fx : En → Option RzA} (hs : PE X e (tCallLS i a (spX X.K C gx) (WE W) (tAX X.K C W true fx))) : PE X e (tX X.K C W c (xCallF i a gx fx)) := pe_w hs fun σ H Q ⟨S0, H0, A, env, r, En, hf, q⟩ => by
  unfold xCallF at hf
  split at hf
  · rename_i b hb
    split at hf
    · rename_i e
      subst e
      have h1 : σ[i]? = some (some (.ref b)) := by
        rcases En.sl i _ hb with z | ⟨v, h1, h2⟩
        · cases z
        · rw [h1, (show v = .ref b from h2)]
      refine ⟨h1, ?_⟩
      unfold xCall at hf
      split at hf
      · rename_i ds hd
        refine ⟨S0, H0, A, env, .ok ds, En, hd, fun vs H1 s1 r1 => ⟨Cl S0 H0 A, ds, r, r1.wide fun _ z => cl_sc z, hf, ?_⟩⟩
        cases r with
        | ok d => exact fun v H2 s2 r2 => q v H2 (s1.trans s2) (r2.wide fun _ z => bd_sc (En.grow s1) z)
        | ex d => exact fun dx v H2 s2 hx r2 => q dx v H2 (s1.trans s2) hx (r2.wide fun _ z => bd_sc (En.grow s1) z)
      · rename_i d hd
        cases hf
        exact ⟨S0, H0, A, env, .ex d, En, hd, q⟩
      · cases hf
    · cases hf
  · cases hf
end
end Mir

/-! Mir12: x.extend(y), y any list that is told as data -/
namespace Mir
open PySem PySem.Spec PyProof.Rows L2
theorem sub_list_tuple' : isSubtype (.type "list") (.type "tuple") = pure false := by rw [isSubtype_type]; kernel_rfl
theorem list_extend_any (l : Addr) (items : Array Value) (n : Nat) (b : Addr) (items2 : Array Value) (n2 : Nat) (sl : Array (Option Value)) (hc0 : ¬(!items.isEmpty && Builtin.List.listTooLong (items.size + items2.size)) = true) (hc1 : items.size ≤ sizeLine) (hs2 : items.size + items2.size ≤ sizeLine + 1) :
    Meets (Builtin.«list.extend» ⟨[.ref l, .ref b], []⟩) (fun _ R s => s.heap.get? l = some { cls := .type "list", dict := none, data := .seq items n, slots := #[] } ∧ s.heap.get? b = some { cls := .type "list", dict := none, data := .seq items2 n2, slots := sl } ∧ R (.ok (.ret Value.none)) { s with heap := s.heap.update l (Obj.mapSeq fun x => x ++ items2), toks := s.toks }) :=
  .of_wp fun prog w A R s h => by
    obtain ⟨hp, g, d, tk, os⟩ := s; obtain ⟨hl, hb, h⟩ := h; have f1 := AutoSeq1.idx_int; have f2 := AutoSeq1.sub_tuple_tuple; have f3 := AutoSeq1.sub_list_list; have f4 := AutoSeq1.sub_tuple_list; have f5 := AutoSeq1.sub_list_tuple;
    have hz' : (items ++ items2).size ≤ sizeLine + 1 := by rw [Array.size_append]; exact hs2
    wp_walk using (wpAny_updateSeq hl rfl (hz := hc1) (_hz' := hz')), wpAny_loadPart' hl, wpAny_loadPart' hb; exact ⟨_, rfl, h⟩
def rExtA (K : PySem.W.Frag) : V → List V → Hp → VK → Prop := fun x vs H Q => ∃ l b xs zs, x = .ref l ∧ vs = [.ref b] ∧ H l = some (.lst xs) ∧ SqL K H b zs ∧ xs.length + zs.length ≤ sizeLine ∧ Q .non (upd H l (.lst (xs ++ zs)))
section
variable {X : Cx} {st : Stmt} {f : En → Option PyData}
theorem mt_extA : MtM X "list.extend" (rExtA X.K) := by
  intro pins s σ H x vs v us Q I rx rv h
  obtain ⟨l, b, xs, zs, rfl, rfl, hH, hB, hz, q⟩ := h
  cases rx
  obtain ⟨u, rfl, ru⟩ := rv.one
  cases ru
  obtain ⟨z, its, n, r, hl, e⟩ := I.lstM hH
  obtain ⟨its2, r2, ⟨⟨cls, dd, data, sl⟩, n2, e2, hc, hd, hs⟩, z2⟩ := I.list hB
  simp only at hc hd hs
  subst hc hd hs
  have hl2 := r2.length
  have hsz : its.toArray.size + its2.toArray.size ≤ sizeLine := by rw [List.size_toArray, List.size_toArray]; omega
  have hlong : ¬ (!its.toArray.isEmpty && Builtin.List.listTooLong (its.toArray.size + its2.toArray.size)) = true := by
    rw [notLongL hsz, Bool.and_false]
    exact Bool.false_ne_true
  refine call_meets F.slot_list_extend ⟨_, e, rfl⟩ F.entry_list_extend (F.args_list_extend_2 _ _)
    (list_extend_any l its.toArray n b its2.toArray n2 sl hlong (by rw [List.size_toArray]; omega) (by omega)) ⟨e, e2, ?_⟩
  refine ⟨.non, _, I.lset (its' := its ++ its2) hH e (by simp) (r.append r2) ?_, rfl, q⟩
  rw [List.length_append]
  omega
def sExt (i : Nat) (f : En → Option PyData) : En → Out := fun env => match f env with
  | some (.list es) => match env[i]? with
    | some (.own ds) => if ds.length + es.length < 1000000 then .nx (env.set i (.own (ds ++ es))) else .bad
    | _ => .bad
  | _ => .bad
theorem cs_ext {i : Nat} (h : PS X st (tDrop (tBM X.K "list" (rExtA X.K) (tVar i) (tCons (tE X.K true f) tNil)))) : PS X st (tS X.K (sExt i f)) := ps_w h fun D σ H ⟨S0, H0, A, env, E, o⟩ => by
  unfold sExt at o
  split at o
  · rename_i es hd
    split at o
    · rename_i ds hi
      split at o
      · rename_i hl
        rcases E.sl i _ hi with z | ⟨v, h1, a, xs, rfl, ha, hh, r⟩
        · cases z
        refine ⟨_, h1, .inl ⟨rfl, xs, .inl (.inl hh)⟩, S0, H0, A, env, _, E, hd, fun v H' s r' => ?_⟩
        have E' := E.grow s
        rw [Rp] at r'
        obtain ⟨b, zs, rfl, hb, rz⟩ := r'
        refine ⟨a, b, xs, zs, rfl, rfl, s _ _ hh, hb.sq, ?_, ?_⟩
        · rw [r.length, rz.length]
          exact Nat.le_of_lt (Nat.lt_of_lt_of_le hl (by decide))
        · have q := RpA.append (r.grow s) (rz.wide fun _ z => cl_sc z)
          refine o A _ σ (E'.mut hi h1 ha (s _ _ hh) q) (fun b u e n => ?_) Sb.refl
          have nb : b ≠ a := fun z => n (z ▸ ha)
          rw [upd_ne nb]
          exact s _ _ e
      · exact o.elim
    · exact o.elim
  · exact o.elim
end
end Mir

/-! Mir13: min(xs, key=def), told on data; the order of data -/
namespace Mir
open PySem PySem.Spec PyProof.Rows L2

/-- what a search for the least by a def needs, the state told by the best so far; Bk: an item has been drawn -/
structure LeastRun (pg : Program) (wd : World) (Ar : Around) (fd S I : Addr) (len : Nat) (C0 : Shared → Prop) (D0 : Shared → Value → Prop) (Cj : Nat → Shared → Value → Value → Prop)
    (Ej : Shared → Value → Prop) (Bk : Nat → Shared → Value → Value → Value → Prop) : Prop where
  put : ∀ j s b k up, Cj j s b k → Cj j { s with heap := s.heap.update S up, toks := s.toks } b k
  putE : ∀ s b up, Ej s b → Ej { s with heap := s.heap.update S up, toks := s.toks } b
  draw0 : ∀ s o (Qx : Option Value → Shared → Prop) (Ex : Value → Shared → Prop), C0 s → s.heap.get? S = some o → (∀ x t, D0 t x → t.heap.get? S = some o → Qx (some x) t) → wpAny (model pg wd) Ar (pyNext (.ref I)) Qx Ex s
  first : ∀ s x o (Qx : Value → Shared → Prop) (Ex : Value → Shared → Prop), D0 s x → s.heap.get? S = some o → (∀ v, o.data ≠ .cell v) → (∀ k t, Cj 0 t x k → t.heap.get? S = some o → Qx k t) → wpAny (model pg wd) Ar (call (.ref fd) [x]) Qx Ex s
  draw : ∀ j s b kb o (Qx : Option Value → Shared → Prop) (Ex : Value → Shared → Prop), j + 1 < len → Cj j s b kb → s.heap.get? S = some o → (∀ x t, Bk j t b kb x → t.heap.get? S = some o → Qx (some x) t) → wpAny (model pg wd) Ar (pyNext (.ref I)) Qx Ex s
  stop : ∀ j s b kb o (Qx : Option Value → Shared → Prop) (Ex : Value → Shared → Prop), j + 1 = len → Cj j s b kb → s.heap.get? S = some o → (∀ t, Ej t b → t.heap.get? S = some o → Qx none t) → wpAny (model pg wd) Ar (pyNext (.ref I)) Qx Ex s
  next : ∀ j s b kb x o (Qx : Value → Shared → Prop) (Ex : Value → Shared → Prop), j + 1 < len → Bk j s b kb x → s.heap.get? S = some o → (∀ v, o.data ≠ .cell v) →
    (∀ k t, t.heap.get? S = some o → (∀ (Qy : Value → Shared → Prop) (Ey : Value → Shared → Prop), (∀ r, (r = true → Cj (j + 1) t x k) → (r = false → Cj (j + 1) t b kb) → Qy (.bool r) t) → wpAny (model pg wd) Ar (richCompare .Lt k kb) Qy Ey t) → Qx k t) →
    wpAny (model pg wd) Ar (call (.ref fd) [x]) Qx Ex s

section
variable {pg : Program} {wd : World} {Ar : Around} {fd S I : Addr} {len : Nat} {C0 : Shared → Prop} {D0 : Shared → Value → Prop} {Cj : Nat → Shared → Value → Value → Prop} {Ej : Shared → Value → Prop}
  {Bk : Nat → Shared → Value → Value → Value → Prop} {Rs : Result → Shared → Prop}
theorem nm_loop : (toString "min" ++ toString ".loop" : String) = "min.loop" := by decide
theorem least_loop (L : LeastRun pg wd Ar.in1 fd S I len C0 D0 Cj Ej Bk) (kws : List (Str × Value)) : ∀ (rest j : Nat) (s : Shared) (b kb : Value) (c : Nat),
    len - (j + 1) = rest → j + 1 ≤ len → Cj j s b kb → s.heap.get? S = some { cls := .type "list", dict := none, data := .seq #[b, kb] c, slots := #[] } → (∀ b' t, Ej t b' → Rs (.ok (.ret b')) t) →
    codeAny (model pg wd) Ar (.builtin "min.loop" ⟨[.ref I, (.ref fd), .ref S], kws⟩) Rs s
  | 0, j, s, b, kb, c, e0, hj, hC, hS, hR => by
    refine codeAny_builtin F.entry_min_loop ?_
    rw [Around.under_plainId F.plain_min_loop _]
    refine wpAny_bind (wpAny_seqItems hS rfl ?_)
    refine wpAny_bind (wpAny_tryCatch (L.stop j s b kb _ _ _ (by omega) hC hS fun t hE hS1 => ?_))
    refine wpAny_bind ?_
    refine wpAny_updateSeq hS1 rfl (wpAny_bind (wpAny_letGo (wpAny_pure ?_)))
    exact hR b _ (L.putE _ _ _ hE)
  | rest + 1, j, s, b, kb, c, e0, hj, hC, hS, hR => by
    have hlt : j + 1 < len := by omega
    refine codeAny_builtin F.entry_min_loop ?_
    rw [Around.under_plainId F.plain_min_loop _]
    refine wpAny_bind (wpAny_seqItems hS rfl ?_)
    refine wpAny_bind (wpAny_tryCatch (L.draw j s b kb _ _ _ hlt hC hS fun x t hD hS1 => ?_))
    refine wpAny_bind (wpAny_tryCatch (wpAny_holding (L.next j t b kb x _ _ _ hlt hD hS1 (fun v z => by cases z) fun k t2 hS2 hB => ?_)))
    refine wpAny_bind (wpAny_tryCatch (wpAny_holding (wpAny_bind (hB _ _ fun r ht hf => ?_))))
    refine wpAny_bind (wpAny_holding (wpAny_truthy_bool ?_))
    refine wpAny_bind (wpAny_letGo (wpAny_pure ?_))
    cases r with
    | true =>
      simp only [if_true]
      refine wpAny_bind ?_
      refine wpAny_updateSeq hS2 rfl (wpAny_bind (wpAny_letGo ?_))
      rw [nm_loop]
      exact wpAny_pure ⟨plainId_quiet F.plain_min_loop _, least_loop L kws rest (j + 1) _ x k _ (by omega) hlt (L.put _ _ _ _ _ (ht rfl)) (Heap.get?_update_self _ hS2 rfl) hR⟩
    | false =>
      simp only [Bool.false_eq_true, if_false]
      refine wpAny_bind (wpAny_letGo ?_)
      rw [nm_loop]
      exact wpAny_pure ⟨plainId_quiet F.plain_min_loop _, least_loop L kws rest (j + 1) _ b kb c (by omega) hlt (hf rfl) hS2 hR⟩
theorem least_first (L : LeastRun pg wd Ar.in1 fd S I len C0 D0 Cj Ej Bk) (kws : List (Str × Value)) (hn : 0 < len) {s : Shared} {c : Nat} (hC : C0 s)
    (hS : s.heap.get? S = some { cls := .type "list", dict := none, data := .seq #[] c, slots := #[] }) (hR : ∀ b' t, Ej t b' → Rs (.ok (.ret b')) t) :
    codeAny (model pg wd) Ar (.builtin "min.loop" ⟨[.ref I, (.ref fd), .ref S], kws⟩) Rs s := by
  refine codeAny_builtin F.entry_min_loop ?_
  rw [Around.under_plainId F.plain_min_loop _]
  refine wpAny_bind (wpAny_seqItems hS rfl ?_)
  refine wpAny_bind (wpAny_tryCatch (L.draw0 s _ _ _ hC hS fun x t hD hS1 => ?_))
  refine wpAny_bind (wpAny_tryCatch (wpAny_holding (L.first t x _ _ _ hD hS1 (fun v z => by cases z) fun k t2 hC2 hS2 => ?_)))
  refine wpAny_bind ?_
  refine wpAny_updateSeq hS2 rfl ?_
  rw [nm_loop]
  exact wpAny_pure ⟨plainId_quiet F.plain_min_loop _, least_loop L kws _ 0 _ x k _ rfl hn (L.put _ _ _ _ _ hC2) (Heap.get?_update_self _ hS2 rfl) hR⟩
theorem call_least {x : Value} {Qx : Value → Shared → Prop} {Ex : Value → Shared → Prop} {s : Shared}
    (h : wpAny (model pg wd) Ar.in1 (pyIter x) (fun it t => ∃ I len C0 D0 Cj Ej Bk, it = .ref I ∧ 0 < len ∧ LeastRun pg wd Ar.in1 fd t.heap.objs.size I len C0 D0 Cj Ej Bk ∧
      C0 { t with heap := t.heap.push { cls := .type "list", data := .seq #[] 0 }, toks := t.toks } ∧ ∀ b' t', Ej t' b' → Qx b' t') Ex s) :
    wpAny (model pg wd) Ar (call (.builtin "min") [x] [(Str.ofString "key", .ref fd)]) Qx Ex s := by
  refine PyProof.Rows.kmk_tree F.kind_min F.plain_min F.entry_min (PyProof.Rows.kmk_min_key _ _) ?_
  refine wpAny_bind (wpAny_of_eq (show Builtin.Builtins.bindParams "min" ["key", "default"] 0 ⟨[], [(Str.ofString "key", Value.ref fd)]⟩ = pure [some (Value.ref fd), none] from rfl) ?_)
  refine wpAny_bind (wpAny_pure ?_)
  refine wpAny_bind (wpAny_mono h (fun it t ht => ?_) fun _ _ z => z)
  obtain ⟨I, len, C0, D0, Cj, Ej, Bk, rfl, hn, L, hC, hQ⟩ := ht
  refine wpAny_bind (wpAny_newObj_type ?_)
  rw [nm_loop]
  exact wpAny_pure ⟨plainId_quiet F.plain_min_loop _, least_first L _ hn hC (Heap.get?_push_size _ rfl) hQ⟩
end

section
variable {X : Cx} {k : Nat} {f : Addr} {fd : FuncData} {ps : List Str} {g : List PyData → Option PyData} {pins : List (Addr × Obj)} {σ : L2.St} {H H1 : Hp} {s : Shared} {S I l : Addr} {i : Nat}
/-- the state in the midst of the search: the walk over the list at l stands at i, S holds the best -/
structure Mid (X : Cx) (pins : List (Addr × Obj)) (σ : L2.St) (H : Hp) (S I l : Addr) (i : Nat) (H1 : Hp) (s : Shared) : Prop where
  inv : Inv X pins σ H1 s
  same : Same H H1
  fS : FpOk X pins H1 S
  fI : FpOk X pins H1 I
  ne : S ≠ I
  it : s.heap.IsListIter I l i
theorem Mid.put (M : Mid X pins σ H S I l i H1 s) (up : Obj → Obj) : Mid X pins σ H S I l i H1 { s with heap := s.heap.update S up, toks := s.toks } := by
  obtain ⟨f0, f1, f2, f3, f4, f5⟩ := id M.fS
  refine ⟨M.inv.turned (it := S) (fun b o hb e => (Heap.get?_update_other _ _ (Ne.symm hb)).trans e) f0 f1 f3 f4 f5, M.same, M.fS, M.fI, M.ne, ?_⟩
  obtain ⟨o, e, z⟩ := M.it
  exact ⟨o, (Heap.get?_update_other _ _ M.ne).trans e, z⟩
/-- the next item -/
theorem Mid.draw {xs : List V} {Qx : Option Value → Shared → Prop} {Ex : Value → Shared → Prop} (M : Mid X pins σ H S I l i H1 s) (hh : X.A.handled = none) (hl : SqL X.K H l xs) (hi : i ≤ xs.length) {o : Obj} (hS : s.heap.get? S = some o)
    (h1 : ∀ x xv t, xs[i]? = some xv → RelV xv x → Mid X pins σ H S I l (i + 1) H1 t → t.heap.get? S = some o → Qx (some x) t) (h2 : i = xs.length → ∀ t, Inv X pins σ H1 t → t.heap.get? S = some o → Qx none t) : wpAny (model X.prog X.w) X.A.in1 (pyNext (.ref I)) Qx Ex s := by
  obtain ⟨its, rv, hls, _⟩ := M.inv.list (M.same.seq hl)
  have hls' := hls.isList
  obtain ⟨f0, f1, f2, f3, f4, f5⟩ := id M.fI
  have hne : l ≠ I := by
    rintro rfl
    obtain ⟨oI, e1, e2, e3⟩ := M.it
    obtain ⟨oL, e4, e5, e6⟩ := hls'
    rw [e1] at e4; cases e4
    obtain ⟨w, e6⟩ := e6
    rw [e3] at e6; cases e6
  have W := (Walks.list (prog := X.prog) (w := X.w) (A := X.A.in1) hh I l hne its.toArray).toS
  have en : its.toArray.size = xs.length := by rw [List.size_toArray, ← rv.length]
  have mov : ∀ t, Moved [I] (fun a b => b = a) s t → Inv X pins σ H1 t ∧ t.heap.get? S = some o := fun t mv => by
    have z : t = { s with heap := t.heap, toks := t.toks } := by
      obtain ⟨hp, ge, d, tk, os⟩ := t
      have h1 : ge = s.gens := mv.gens
      have h2 : d = s.drawn := mv.drawn
      have h3 : os = s.os := mv.os
      subst h1 h2 h3
      rfl
    refine ⟨?_, mv.heap _ _ (fun q => M.ne (List.mem_singleton.mp q)) hS⟩
    rw [z]
    exact M.inv.turned (it := I) (fun b ob hb e => mv.heap b ob (fun q => hb (List.mem_singleton.mp q)) e) f0 f1 f3 f4 f5
  by_cases e : i = xs.length
  · refine W.done s _ _ ?_ fun t mv => ?_
    · rw [en, ← e]; exact ⟨M.it, hls'⟩
    · obtain ⟨I2, S2⟩ := mov t mv
      exact h2 e t I2 S2
  · refine W.item i s _ _ (by rw [en]; omega) ⟨M.it, hls'⟩ fun x t hx st mv => ?_
    obtain ⟨I2, S2⟩ := mov t mv
    have hx' : its[i]? = some x := by simpa using hx
    obtain ⟨xv, e1⟩ : ∃ xv, xs[i]? = some xv := ⟨_, List.getElem?_eq_getElem (by omega)⟩
    obtain ⟨u, e2, r1⟩ := rv.get e1
    rw [hx'] at e2; cases e2
    exact h1 x xv t e1 r1 ⟨I2, M.same, M.fS, M.fI, M.ne, st.1⟩ S2
theorem Mid.call (M : Mid X pins σ H S I l i H1 s) (F : FnOk X.prog X.w X.K X.mg X.base CX0 k f fd ps (spF X.K g)) (hr : Room (k + 1) X.A) (hb : Binds X.K fd ps []) {U : Addr → Prop} {x : Value} {xv : V} {d kd : PyData} (rel : RelV xv x) (r : Rp X.K U H1 d xv) (hg : g [d] = some kd)
    {o : Obj} (hS : s.heap.get? S = some o) (no : ∀ v, o.data ≠ .cell v) {Qx : Value → Shared → Prop} {Ex : Value → Shared → Prop}
    (h : ∀ kx t H2 kv, Mid X pins σ H S I l i H2 t → Same H1 H2 → RelV kv kx → Rp X.K (fun _ => True) H2 kd kv → t.heap.get? S = some o → Qx kx t) : wpAny (model X.prog X.w) X.A.in1 (call (.ref f) [x]) Qx Ex s := by
  obtain ⟨oI, eI, cI, dI⟩ := id M.it
  have I1 : Inv X (pins ++ pinsAt [S, I] s.heap) σ H1 s := M.inv.pinned (fun b hb => by
    rcases List.mem_cons.mp hb with rfl | hb
    · exact M.fS
    · rw [List.mem_singleton.mp hb]; exact M.fI) (fun b hb => by
    rcases List.mem_cons.mp hb with rfl | hb
    · exact ⟨o, hS, no⟩
    · rw [List.mem_singleton.mp hb]; exact ⟨oI, eI, fun v z => by rw [dI] at z; cases z⟩)
  have sp : spF X.K g [xv] H1 (fun v H' => Same H1 H' ∧ Rp X.K (fun _ => True) H' kd v) (fun _ _ _ => False) := ⟨U, [d], kd, RpA.cons r RpA.nil, hg, fun v H' s1 r1 => ⟨s1, r1.wide fun _ _ => trivial⟩⟩
  have hlen : ([x] : List Value).length = ps.length := (F.len _ _ _ _ sp)
  have b := hb s [x] I1.kIn (by rw [List.append_nil]; exact hlen)
  rw [List.append_nil] at b
  have e0 := I1.env0
  refine wpAny_call (codeAny_mono (F.run X.A.in1 X.stack s H1 ⟨[x], []⟩ [x] [xv] _ (fun _ _ _ => False) hr.in1 ⟨e0.frames, e0.mod, e0.bs, e0.bsz, e0.funs, e0.frf, e0.hok, e0.bare⟩ b (.cons rel .nil) sp) fun q t hq => ?_)
  cases q with
  | error e => exact False.elim hq
  | ok fl =>
    cases fl with
    | ret u =>
      obtain ⟨v, H2, I2, rv, s2, r2⟩ := I1.after hq
      have pS := I2.pin (S, o) (List.mem_append_right _ (List.mem_append_right _ (mem_pinsAt List.mem_cons_self hS)))
      have pI := I2.pin (I, oI) (List.mem_append_right _ (List.mem_append_right _ (mem_pinsAt (List.mem_cons_of_mem _ List.mem_cons_self) eI)))
      exact h u t H2 v ⟨I2.unpinned, M.same.trans s2, ⟨pS.2.1, M.fS.2⟩, ⟨pI.2.1, M.fI.2⟩, M.ne, ⟨oI, pI.1, cI, dI⟩⟩ s2 rv r2 pS.1
    | next => exact False.elim hq
    | brk => exact False.elim hq
    | cont => exact False.elim hq
/-! the first of the least keys -/
def stK (m q : PyData × PyData) : PyData × PyData := if PySem.W.dataLt q.2 m.2 = true then q else m
def lstK (m : PyData × PyData) (qs : List (PyData × PyData)) : PyData × PyData := qs.foldl stK m
def keyOk (q : PyData × PyData) : Bool := noD q.2 && decide (q.2.depth ≤ 60)
/-- the keys compare with one another -/
def keysOk (qs : List (PyData × PyData)) : Prop := (∀ q ∈ qs, keyOk q = true ∧ q.2 ≠ .none) ∧ ∀ q ∈ qs, ∀ q' ∈ qs, PySem.W.alike q.2 q'.2 = true
theorem stK_mem {m q : PyData × PyData} {qs : List (PyData × PyData)} (h1 : m ∈ qs) (h2 : q ∈ qs) : stK m q ∈ qs := by
  unfold stK
  split
  · exact h2
  · exact h1
def bestK (qs : List (PyData × PyData)) : Nat → PyData × PyData
  | 0 => qs.getD 0 (.none, .none)
  | j + 1 => stK (bestK qs j) (qs.getD (j + 1) (.none, .none))
theorem bestK_mem {qs : List (PyData × PyData)} : ∀ {j : Nat}, j < qs.length → bestK qs j ∈ qs
  | 0, h => by unfold bestK; rw [List.getD_eq_getElem?_getD, List.getElem?_eq_getElem h]; exact List.getElem_mem h
  | j + 1, h => by
    unfold bestK
    refine stK_mem (bestK_mem (by omega)) ?_
    rw [List.getD_eq_getElem?_getD, List.getElem?_eq_getElem h]; exact List.getElem_mem h
def rMinK (X : Cx) (f : Addr) (g : List PyData → Option PyData) : List V → List V → Hp → VK → Prop := fun vs zs H Q => ∃ a xs U qs, vs = [.ref a] ∧ zs = [.ref f] ∧ SqL X.K H a xs ∧ RpA X.K U H (qs.map (·.1)) xs ∧ (∀ q ∈ qs, g [q.1] = some q.2) ∧ keysOk qs ∧ 0 < qs.length ∧
  ∀ v H', Same H H' → Rp X.K U H' (bestK qs (qs.length - 1)).1 v → Q v H'
theorem Rp.reads (I : Inv X pins σ H s) {U : Addr → Prop} {d : PyData} {v : V} {u : Value} (r : Rp X.K U H d v) (n : noD d = true) (rel : RelV v u) : ∃ as, Reads s.heap u d as := Dp.reads I d v u (Rp.dp0 d v n r) rel
theorem call_minK (F : FnOk X.prog X.w X.K X.mg X.base CX0 k f fd ps (spF X.K g)) (hr : Room (k + 1) X.A) (hb : Binds X.K fd ps []) : CallRK X (.builtin "min") [Str.ofString "key"] (rMinK X f g) := by
  intro pins s σ H vs zs us ws Q I0 r rz h
  obtain ⟨l, xs, U, qs, rfl, rfl, hl, ra, hg, ⟨k1, k2⟩, hn, q⟩ := h
  obtain ⟨its, rv, hls, _⟩ := I0.list hl
  rw [Vals.ref1 r, Vals.ref1 rz]
  have hh := hr.hd
  have lq : xs.length = qs.length := by rw [ra.length, List.length_map]
  have item : ∀ {H1 : Hp} {i : Nat} {xv : V}, Same H H1 → xs[i]? = some xv → Rp X.K U H1 (qs.getD i (.none, .none)).1 xv ∧ qs.getD i (.none, .none) ∈ qs := fun {H1 i xv} s1 e => by
    have hi : i < qs.length := by
      obtain ⟨z, _⟩ := List.getElem?_eq_some_iff.mp e
      omega
    rw [List.getD_eq_getElem?_getD, List.getElem?_eq_getElem hi]
    obtain ⟨v, e1, r1⟩ := ra.get (i := i) (d := qs[i].1) (by rw [List.getElem?_map, List.getElem?_eq_getElem hi]; rfl)
    rw [e] at e1; cases e1
    exact ⟨r1.grow s1, List.getElem_mem hi⟩
  refine call_least (x := .ref l) (fd := f) ?_
  refine PySem.W.iter_listW (A := X.A.in1) hh hls.isList fun t et W st hfp hw hk => ?_
  have I1 : Inv X pins σ H t := by rw [et]; exact I0.kept (t' := s.toks) fun b o e => Heap.get?_push_of_some _ e
  have szs : s.heap.objs.size + 1 = t.heap.objs.size := by rw [et]; exact (Heap.size_push ..).symm
  refine ⟨s.heap.objs.size, qs.length, fun s' => ∃ H1, Mid X pins σ H t.heap.objs.size s.heap.objs.size l 0 H1 s', fun s' x => ∃ H1 xv, Mid X pins σ H t.heap.objs.size s.heap.objs.size l 1 H1 s' ∧ RelV xv x ∧ xs[0]? = some xv,
    fun j s' b kb => ∃ H1 bv kv, Mid X pins σ H t.heap.objs.size s.heap.objs.size l (j + 1) H1 s' ∧ RelV bv b ∧ RelV kv kb ∧ j < qs.length ∧ Rp X.K U H1 (bestK qs j).1 bv ∧ Rp X.K (fun _ => True) H1 (bestK qs j).2 kv,
    fun s' b => ∃ H1 bv, Inv X pins σ H1 s' ∧ Same H H1 ∧ FpOk X pins H1 t.heap.objs.size ∧ RelV bv b ∧ Rp X.K U H1 (bestK qs (qs.length - 1)).1 bv,
    fun j s' b kb x => ∃ H1 bv kv xv, Mid X pins σ H t.heap.objs.size s.heap.objs.size l (j + 2) H1 s' ∧ RelV bv b ∧ RelV kv kb ∧ RelV xv x ∧ xs[j + 1]? = some xv ∧ Rp X.K U H1 (bestK qs j).1 bv ∧ Rp X.K (fun _ => True) H1 (bestK qs j).2 kv, rfl, hn,
    { put := ?_, putE := ?_, draw0 := ?_, first := ?_, draw := ?_, stop := ?_, next := ?_ }, ?_, ?_⟩
  · rintro j s' b kb up ⟨H1, bv, kv, M, z⟩
    exact ⟨H1, bv, kv, M.put up, z⟩
  · rintro s' b up ⟨H1, bv, I2, s2, fS, z⟩
    obtain ⟨f0, f1, f2, f3, f4, f5⟩ := id fS
    exact ⟨H1, bv, I2.turned (fun b o hb e => (Heap.get?_update_other _ _ (Ne.symm hb)).trans e) f0 f1 f3 f4 f5, s2, fS, z⟩
  · rintro s' o Qx Ex ⟨H1, M⟩ hS hq
    refine M.draw hh hl (Nat.zero_le _) hS (fun x xv t' e1 r1 M1 S1 => hq x t' ⟨H1, xv, M1, r1, e1⟩ S1) fun e => absurd e (by omega)
  · rintro s' x o Qx Ex ⟨H1, xv, M, rx, e1⟩ hS no hq
    obtain ⟨r1, m1⟩ := item M.same e1
    refine M.call F hr hb rx r1 (hg _ m1) hS no fun kx t' H2 kv M2 s2 rk r2 S2 => hq kx t' ⟨H2, xv, kv, M2, rx, rk, hn, r1.grow s2, r2⟩ S2
  · rintro j s' b kb o Qx Ex hj ⟨H1, bv, kv, M, rb, rk, hj', r1, r2⟩ hS hq
    exact M.draw hh hl (by omega) hS (fun x xv t' e1 rx M1 S1 => hq x t' ⟨H1, bv, kv, xv, M1, rb, rk, rx, e1, r1, r2⟩ S1) fun e => absurd e (by omega)
  · rintro j s' b kb o Qx Ex hj ⟨H1, bv, kv, M, rb, rk, hj', r1, r2⟩ hS hq
    refine M.draw hh hl (by omega) hS (fun x xv t' e1 => ?_) fun _ t' I2 S2 => hq t' ⟨H1, bv, I2, M.same, M.fS, rb, ?_⟩ S2
    · rw [List.getElem?_eq_none (by omega)] at e1; cases e1
    · rw [show qs.length - 1 = j by omega]; exact r1
  · rintro j s' b kb x o Qx Ex hj ⟨H1, bv, kv, xv, M, rb, rk, rx, e1, r1, r2⟩ hS no hq
    obtain ⟨ri, mi⟩ := item M.same e1
    refine M.call F hr hb rx ri (hg _ mi) hS no fun kx t' H2 kxv M2 s2 rkx rkd S2 => hq kx t' S2 fun Qy Ey hy => ?_
    have mb : bestK qs j ∈ qs := bestK_mem (by omega)
    obtain ⟨⟨y1, y2⟩, y3⟩ := (k1 _ mi).imp_left fun z => by simpa [keyOk] using z
    obtain ⟨⟨y4, y5⟩, y6⟩ := (k1 _ mb).imp_left fun z => by simpa [keyOk] using z
    obtain ⟨as1, w1⟩ := rkd.reads M2.inv y1 rkx
    obtain ⟨as2, w2⟩ := (r2.grow s2).reads M2.inv y4 rk
    refine PySem.W.rcLt_alike _ _ X.A.in1 t' kx kb _ _ w1 w2 (k2 _ mi _ mb) y3 ?_ X.prog X.w Ey Qy (hy _ (fun e => ?_) fun e => ?_)
    · have := hr.un
      have := Nat.min_le_left (qs.getD (j + 1) (PyData.none, PyData.none)).2.depth (bestK qs j).2.depth
      show X.A.units + 1 + _ < _
      omega
    · have eb : bestK qs (j + 1) = qs.getD (j + 1) (.none, .none) := by unfold bestK stK; rw [if_pos e]
      exact ⟨H2, xv, kxv, M2, rx, rkx, hj, by rw [eb]; exact ri.grow s2, by rw [eb]; exact rkd⟩
    · have eb : bestK qs (j + 1) = bestK qs j := by
        show stK _ _ = _
        unfold stK; rw [if_neg (by rw [e]; exact Bool.false_ne_true)]
      exact ⟨H2, bv, kv, M2, rb, rk, hj, by rw [eb]; exact r1.grow s2, by rw [eb]; exact r2.grow s2⟩
  · refine ⟨H, I1.kept (t' := t.toks) fun b o e => Heap.get?_push_of_some _ e, Same.refl H, I1.fpOk (Nat.le_refl _) (I1.hok.fresh (Nat.le_refl _)), I0.fpOk (Nat.le_refl _) (I0.hok.fresh (Nat.le_refl _)), fun z => by have z' : (t.heap.objs.size : Nat) = s.heap.objs.size := z; omega, ?_⟩
    obtain ⟨o, e, z⟩ := st.1
    exact ⟨o, Heap.get?_push_of_some _ e, z⟩
  · rintro b' t' ⟨H1, bv, I2, s2, _, rb, r1⟩
    exact ⟨bv, H1, I2, rb, q bv H1 s2 r1⟩
end
/-! told on data -/
section
variable {X : Cx} {k : Nat} {f : Addr} {fd : FuncData} {ps : List Str} {gd : List PyData → Option PyData} {e : Expr} {c c1 : Bool} {fe : En → Option PyData}
def keysD (g : List PyData → Option PyData) : List PyData → Option (List (PyData × PyData))
  | [] => some []
  | d :: ds => match g [d] with
    | some kd => (keysD g ds).map ((d, kd) :: ·)
    | none => none
theorem keysD_spec {g : List PyData → Option PyData} : ∀ {ds : List PyData} {qs : List (PyData × PyData)}, keysD g ds = some qs → qs.map (·.1) = ds ∧ ∀ q ∈ qs, g [q.1] = some q.2
  | [], qs, h => by
    cases h
    exact ⟨rfl, fun _ z => nomatch z⟩
  | d :: ds, qs, h => by
    unfold keysD at h
    split at h
    · rename_i kd hk
      cases e : keysD g ds with
      | none => rw [e] at h; cases h
      | some r =>
        rw [e] at h
        cases h
        obtain ⟨h1, h2⟩ := keysD_spec e
        refine ⟨by rw [List.map_cons, h1], fun q hq => ?_⟩
        rcases List.mem_cons.mp hq with rfl | hq
        · exact hk
        · exact h2 q hq
    · cases h
/-- what all keys look like -/
def keysB (qs : List (PyData × PyData)) : Bool := qs.all fun q => keyOk q && (match q.2 with | .none => false | _ => true) && qs.all fun q' => PySem.W.alike q.2 q'.2
theorem keysB_ok {qs : List (PyData × PyData)} (h : keysB qs = true) : keysOk qs := by
  unfold keysB at h
  rw [List.all_eq_true] at h
  refine ⟨fun q hq => ?_, fun q hq q' hq' => ?_⟩
  · have := h q hq
    rw [Bool.and_eq_true, Bool.and_eq_true] at this
    refine ⟨this.1.1, fun z => ?_⟩
    rw [z] at this
    exact absurd this.1.2 Bool.false_ne_true
  · have := h q hq
    rw [Bool.and_eq_true, List.all_eq_true] at this
    exact this.2 q' hq'
def eMinK (g : List PyData → Option PyData) (f : En → Option PyData) : En → Option PyData := fun env => match f env with
  | some (.list ds) => match keysD g ds with
    | some qs => if keysB qs = true ∧ 0 < qs.length then some (bestK qs (qs.length - 1)).1 else none
    | none => none
  | _ => none
theorem ce_minK (h : PE X e (tCKw (rMinK X f gd) (tCons (tE X.K c fe) tNil) (tCons (tC (.ref f)) tNil))) : PE X e (tE X.K c (eMinK gd fe)) := pe_w h fun σ H Q ⟨S0, H0, A, env, d, E, hf, q⟩ => by
  unfold eMinK at hf
  split at hf
  · rename_i ds hd
    split at hf
    · rename_i qs hq
      split at hf
      · rename_i hk
        cases hf
        refine ⟨S0, H0, A, env, _, E, hd, fun v H1 s r => ?_⟩
        rw [Rp] at r
        obtain ⟨a, xs, rfl, hs, ra⟩ := r
        obtain ⟨m1, m2⟩ := keysD_spec hq
        exact ⟨a, xs, _, qs, rfl, rfl, hs.sq, by rw [m1]; exact ra, m2, keysB_ok hk.1, hk.2, fun v H2 s2 r2 => q v H2 (s.trans s2) r2⟩
      · cases hf
    · cases hf
  · cases hf
end
end Mir
namespace Mir
open PySem PySem.Spec PyProof.Rows L2
/-! a < b, data of any alike kind -/
section
variable {X : Cx} {K : PySem.W.Frag}
def ltOk (x y : PyData) : Bool := noD x && noD y && PySem.W.alike x y && (match x with | .none => false | _ => true) && decide (x.depth ≤ 60)
def ltU (x y : PyData) : Option PyData := if ltOk x y = true then some (.bool (PySem.W.dataLt x y)) else none
def rLtU (K : PySem.W.Frag) : R2 := fun x y H Q => ∃ S S' d e, Rp K S H d x ∧ Rp K S' H e y ∧ ltOk d e = true ∧ Q (.bl (PySem.W.dataLt d e)) H
theorem op_ltU (hu : X.A.units + 64 < cLine) : OpR X (compareOp .Lt) (rLtU X.K) := by
  intro pins s σ H x y v u Q I rx ry h
  obtain ⟨S, S', d, e, r1, r2, ok, q⟩ := h
  unfold ltOk at ok
  rw [Bool.and_eq_true, Bool.and_eq_true, Bool.and_eq_true, Bool.and_eq_true] at ok
  obtain ⟨⟨⟨⟨n1, n2⟩, al⟩, nn⟩, dp⟩ := ok
  obtain ⟨as, w1⟩ := r1.reads I n1 rx
  obtain ⟨bs, w2⟩ := r2.reads I n2 ry
  refine PySem.W.lt_data w1 w2 al (fun z => by rw [z] at nn; exact absurd nn Bool.false_ne_true) ?_ ⟨.bl _, H, I, rfl, q⟩
  have := of_decide_eq_true dp
  have := Nat.min_le_left d.depth e.depth
  omega
theorem r2_ltU : R2Ok K true (rLtU K) ltU := by
  intro S S' H x y dx dy d Q hn hS rx ry h q
  unfold ltU at h
  split at h
  · rename_i hk
    cases h
    exact ⟨_, _, dx, dy, rx, ry, hk, q _ H (Same.refl H) rpb⟩
  · cases h
end
end Mir

/-! Mir14: texts: walked, split, written, read; a tuple of texts of the module -/
namespace Mir
open PySem PySem.Spec PyProof.Rows L2
section
variable {X : Cx} {K : PySem.W.Frag} {a b e tg iter : Expr} {pos apos : Pos} {c c1 c2 : Bool} {f g : En → Option PyData} {fa : En → Option (List PyData)}
/-! ### a text, sign by sign -/
def sgD (n : Nat) : PyData := .str ⟨#[n]⟩
def sgsD (x : Str) : List PyData := x.cps.toList.map sgD
theorem wk_str {x : Str} {S : Addr → Prop} : Wk K (Its x) (fun _ => True) S (sgsD x) where
  go := fun i H _ h => by
    unfold sgsD at h
    rw [List.length_map, Array.length_toList] at h
    exact h
  yld := fun i H d v H' _ h ⟨e, n, h1, h2⟩ => by
    subst e h2
    unfold sgsD at h
    rw [List.getElem?_map, Array.getElem?_toList, h1] at h
    cases h
    exact ⟨Same.refl _, by unfold sgD; rw [Rp]⟩
  stop := fun i H _ h => by
    unfold sgsD at h
    rw [List.length_map, Array.length_toList] at h
    exact h
def iStrD (f : En → Option PyData) : En → Option (List PyData) := fun env => match f env with
  | some (.str x) => some (sgsD x)
  | _ => none
theorem ci_str {f : En → Option PyData} (h : PE X iter (tE X.K c1 f)) : PI X tg iter (tI X.K c (iStrD f)) := pi_w (pi_str h) fun σ H R ⟨S0, H0, A, env, ds, E, hf, q⟩ => by
  unfold iStrD at hf
  split at hf
  · rename_i x hd
    cases hf
    refine ⟨S0, H0, A, env, _, E, hd, fun v H1 s r => ?_⟩
    rw [Rp] at r
    subst r
    exact ⟨x, rfl, q _ H1 _ s (fun _ _ => trivial) (fun _ _ _ => trivial) wk_str⟩
  · cases hf
/-! ### one sign in a text; else as ever -/
def inX (x y : PyData) : Option PyData := match y with
  | .str z => (match x with
    | .str w => (match w.cps.toList with
      | [n] => some (.bool (decide (n ∈ z.cps.toList)))
      | _ => none)
    | _ => none)
  | .tuple ds => if (SeqAt.shaped x && SeqAt.shaped (.tuple ds)) = true then some (.bool (ds.any fun z => PyData.eqv z x)) else none
  | _ => inT x y
def notInX (x y : PyData) : Option PyData := match y with
  | .str z => (match x with
    | .str w => (match w.cps.toList with
      | [n] => some (.bool (!decide (n ∈ z.cps.toList)))
      | _ => none)
    | _ => none)
  | .tuple ds => if (SeqAt.shaped x && SeqAt.shaped (.tuple ds)) = true then some (.bool (!ds.any fun z => PyData.eqv z x)) else none
  | _ => notInT x y
def rTupD (K : PySem.W.Frag) (neg : Bool) : R2 := fun x y H Q => ∃ d ds, Dp K H x d ∧ Dp K H y (.tuple ds) ∧ SeqAt.shaped d = true ∧ SeqAt.shaped (.tuple ds) = true ∧ Q (.bl (if neg then !ds.any fun z => PyData.eqv z d else ds.any fun z => PyData.eqv z d)) H
theorem op_inTupD (hu : X.A.units + 65 < cLine) : OpR X (compareOp .In) (rTupD X.K false) := by
  intro pins s σ H x y v u Q I rx ry h
  obtain ⟨d, ds, hd, he, sd, se, q⟩ := h
  obtain ⟨as, r1⟩ := Dp.reads I d x v hd rx
  obtain ⟨bs, r2⟩ := Dp.reads I (.tuple ds) y u he ry
  exact SeqAt.in_tuple_reads r2 r1 (SeqAt.canLay_of_shaped se) (SeqAt.canLay_of_shaped sd) (room_in_shaped sd hu) ⟨.bl _, H, I, rfl, q⟩
theorem op_notInTupD (hu : X.A.units + 65 < cLine) : OpR X (compareOp .NotIn) (rTupD X.K true) := by
  intro pins s σ H x y v u Q I rx ry h
  obtain ⟨d, ds, hd, he, sd, se, q⟩ := h
  obtain ⟨as, r1⟩ := Dp.reads I d x v hd rx
  obtain ⟨bs, r2⟩ := Dp.reads I (.tuple ds) y u he ry
  exact SeqAt.notIn_tuple_reads r2 r1 (SeqAt.canLay_of_shaped se) (SeqAt.canLay_of_shaped sd) (room_in_shaped sd hu) ⟨.bl _, H, I, rfl, q⟩
def rSign : R2 := fun x y H Q => ∃ (c : Nat) (z : Str), x = .str ⟨#[c]⟩ ∧ y = .str z ∧ Q (.bl (decide (c ∈ z.cps.toList))) H
def rNotSign : R2 := fun x y H Q => ∃ (c : Nat) (z : Str), x = .str ⟨#[c]⟩ ∧ y = .str z ∧ Q (.bl (!decide (c ∈ z.cps.toList))) H
theorem op_inX (hu : X.A.units + 65 < cLine) : OpR X (compareOp .In) (fun x y H Q => ((rInD X.K x y H Q ∨ rIn X.K false x y H Q) ∨ rTupD X.K false x y H Q) ∨ rSign x y H Q) := OpR.or (OpR.or (op_inT hu) (op_inTupD hu)) op_in_sign
theorem op_notInX (hu : X.A.units + 65 < cLine) : OpR X (compareOp .NotIn) (fun x y H Q => ((rNotInD X.K x y H Q ∨ rIn X.K true x y H Q) ∨ rTupD X.K true x y H Q) ∨ rNotSign x y H Q) := OpR.or (OpR.or (op_notInT hu) (op_notInTupD hu)) op_notIn_sign
theorem one_of {w : Str} {n : Nat} (h : w.cps.toList = [n]) : w = ⟨#[n]⟩ := by
  cases w with
  | mk cps =>
    congr 1
    exact Array.toList_inj.mp h
theorem r2_inX : R2Ok K true (fun x y H Q => ((rInD K x y H Q ∨ rIn K false x y H Q) ∨ rTupD K false x y H Q) ∨ rSign x y H Q) inX := by
  intro S S' H x y dx dy d Q hn hS rx ry h q
  cases dy with
  | str z =>
    cases dx with
    | str w =>
      have h' : (match w.cps.toList with
        | [n] => some (PyData.bool (decide (n ∈ z.cps.toList)))
        | _ => none) = some d := h
      rw [Rp] at rx ry
      subst rx ry
      split at h'
      · rename_i n hw
        cases h'
        exact .inr ⟨n, z, by rw [one_of hw], rfl, q _ H (Same.refl H) rpb⟩
      · cases h'
    | none => cases h
    | bool _ => cases h
    | int _ => cases h
    | list _ => cases h
    | tuple _ => cases h
    | dict _ => cases h
  | none => exact .inl (.inl (r2_inT S S' H x y dx _ d Q hn hS rx ry h q))
  | bool _ => exact .inl (.inl (r2_inT S S' H x y dx _ d Q hn hS rx ry h q))
  | int _ => exact .inl (.inl (r2_inT S S' H x y dx _ d Q hn hS rx ry h q))
  | list _ => exact .inl (.inl (r2_inT S S' H x y dx _ d Q hn hS rx ry h q))
  | tuple ds =>
    have h' : (if (SeqAt.shaped dx && SeqAt.shaped (.tuple ds)) = true then some (PyData.bool (ds.any fun z => PyData.eqv z dx)) else none) = some d := h
    split at h'
    · rename_i hs
      rw [Bool.and_eq_true] at hs
      cases h'
      exact .inl (.inr ⟨dx, ds, rx.dp hs.1, ry.dp hs.2, hs.1, hs.2, q _ H (Same.refl H) rpb⟩)
    · cases h'
  | dict _ => exact .inl (.inl (r2_inT S S' H x y dx _ d Q hn hS rx ry h q))
theorem r2_notInX : R2Ok K true (fun x y H Q => ((rNotInD K x y H Q ∨ rIn K true x y H Q) ∨ rTupD K true x y H Q) ∨ rNotSign x y H Q) notInX := by
  intro S S' H x y dx dy d Q hn hS rx ry h q
  cases dy with
  | str z =>
    cases dx with
    | str w =>
      have h' : (match w.cps.toList with
        | [n] => some (PyData.bool (!decide (n ∈ z.cps.toList)))
        | _ => none) = some d := h
      rw [Rp] at rx ry
      subst rx ry
      split at h'
      · rename_i n hw
        cases h'
        exact .inr ⟨n, z, by rw [one_of hw], rfl, q _ H (Same.refl H) rpb⟩
      · cases h'
    | none => cases h
    | bool _ => cases h
    | int _ => cases h
    | list _ => cases h
    | tuple _ => cases h
    | dict _ => cases h
  | none => exact .inl (.inl (r2_notInT S S' H x y dx _ d Q hn hS rx ry h q))
  | bool _ => exact .inl (.inl (r2_notInT S S' H x y dx _ d Q hn hS rx ry h q))
  | int _ => exact .inl (.inl (r2_notInT S S' H x y dx _ d Q hn hS rx ry h q))
  | list _ => exact .inl (.inl (r2_notInT S S' H x y dx _ d Q hn hS rx ry h q))
  | tuple ds =>
    have h' : (if (SeqAt.shaped dx && SeqAt.shaped (.tuple ds)) = true then some (PyData.bool (!ds.any fun z => PyData.eqv z dx)) else none) = some d := h
    split at h'
    · rename_i hs
      rw [Bool.and_eq_true] at hs
      cases h'
      exact .inl (.inr ⟨dx, ds, rx.dp hs.1, ry.dp hs.2, hs.1, hs.2, q _ H (Same.refl H) rpb⟩)
    · cases h'
  | dict _ => exact .inl (.inl (r2_notInT S S' H x y dx _ d Q hn hS rx ry h q))
/-! ### str(i), int(text) -/
def strA : List PyData → Option PyData
  | [.int i] => if i.natAbs.log2 < 1920 then some (.str (toString i)) else none
  | _ => none
theorem cr_strI : CROk K true (fun xs H Q => ∃ i, xs = [.int i] ∧ i.natAbs.log2 < 1920 ∧ Q (.str (toString i)) H) strA := by
  intro S S' H vs ds d Q _ _ r h q
  unfold strA at h
  split at h
  · split at h
    · rename_i hz
      cases h
      obtain ⟨v, rfl, r1⟩ := r.one
      rw [Rp] at r1
      subst r1
      exact ⟨_, rfl, hz, q _ H (Same.refl H) (by rw [Rp])⟩
    · cases h
  · cases h
def intSA : List PyData → Option PyData
  | [.str a] => if a.length ≤ 640 then (PySem.intText? a).map .int else none
  | _ => none
theorem cr_intS : CROk K true (fun xs H Q => ∃ a n, xs = [.str a] ∧ PySem.intText? a = some n ∧ a.length ≤ 640 ∧ Q (.int n) H) intSA := by
  intro S S' H vs ds d Q _ _ r h q
  unfold intSA at h
  split at h
  · split at h
    · rename_i hz
      obtain ⟨n, hn, rfl⟩ := Option.map_eq_some_iff.mp h
      obtain ⟨v, rfl, r1⟩ := r.one
      rw [Rp] at r1
      subst r1
      exact ⟨_, n, rfl, hn, hz, q _ H (Same.refl H) rp1⟩
    · cases h
  · cases h
/-! ### s.split(t), s.endswith(t) -/
def fSplit (f g : En → Option PyData) : En → Option (List PyData) := fun env => match f env with
  | some (.str x) => (match g env with
    | some (.str y) => if (y.length == 0) = false ∧ x.length ≤ 1000000 then some ((Txt.split x y).map .str) else none
    | _ => none)
  | _ => none
theorem RpA.strs {S : Addr → Prop} {H : Hp} : ∀ xs : List Str, RpA K S H (xs.map PyData.str) (xs.map V.str)
  | [] => RpA.nil
  | x :: xs => RpA.cons (by rw [Rp]) (RpA.strs xs)
theorem cf_split (h : PE X e (tM1 (fun x xs H Q => ∃ a b, x = .str a ∧ xs = [.str b] ∧ (b.length == 0) = false ∧ a.length + 2 ≤ sizeLine ∧ rNewStrs (Txt.split a b) H Q) (tE X.K c1 f) (tE X.K c2 g))) : PE X e (tF X.K c (fSplit f g)) := pe_w h fun σ H Q ⟨S0, H0, A, env, ds, E, hf, q⟩ => by
  unfold fSplit at hf
  split at hf
  · rename_i x hx
    split at hf
    · rename_i y hy
      split at hf
      · rename_i hz
        cases hf
        refine ⟨S0, H0, A, env, _, E, hx, fun v H1 s r => ?_⟩
        rw [Rp] at r
        subst r
        refine ⟨⟨_, rfl⟩, S0, H0, A, env, _, E.grow s, hy, fun u H2 s2 r2 => ?_⟩
        rw [Rp] at r2
        subst r2
        refine ⟨_, _, rfl, rfl, hz.1, Nat.le_trans (Nat.add_le_add_right hz.2 2) (by decide), fun p hp => ?_⟩
        exact q p _ _ ((s.trans s2).free hp) ((s.trans s2).trans (same_new hp)) upd_same (RpA.strs _)
      · cases hf
    · cases hf
  · cases hf
def eEnds (f g : En → Option PyData) : En → Option PyData := fun env => match f env with
  | some (.str x) => (match g env with
    | some (.str y) => some (.bool (Txt.endswith x y))
    | _ => none)
  | _ => none
theorem ce_ends (h : PE X e (tM1 (fun x xs H Q => ∃ a b, x = .str a ∧ xs = [.str b] ∧ Q (.bl (Txt.endswith a b)) H) (tE X.K c1 f) (tE X.K c2 g))) : PE X e (tE X.K c (eEnds f g)) := pe_w h fun σ H Q ⟨S0, H0, A, env, d, E, hf, q⟩ => by
  unfold eEnds at hf
  split at hf
  · rename_i x hx
    split at hf
    · rename_i y hy
      cases hf
      refine ⟨S0, H0, A, env, _, E, hx, fun v H1 s r => ?_⟩
      rw [Rp] at r
      subst r
      refine ⟨⟨_, rfl⟩, S0, H0, A, env, _, E.grow s, hy, fun u H2 s2 r2 => ?_⟩
      rw [Rp] at r2
      subst r2
      exact ⟨_, _, rfl, rfl, q _ H2 (s.trans s2) rpb⟩
    · cases hf
  · cases hf
/-! ### f'..' -/
def fmtD : PyData → Option Str
  | .str y => if y.length ≤ 1000000 then some y else none
  | .int i => if i.natAbs.log2 < 1920 then some (toString i) else none
  | _ => none
def eFmt (f : En → Option PyData) : En → Option PyData := fun env => ((f env).bind fmtD).map .str
theorem ce_fmt (h : PE X e (tFmt (tE X.K c1 f))) : PE X e (tE X.K c (eFmt f)) := pe_w h fun σ H Q ⟨S0, H0, A, env, d, E, hf, q⟩ => by
  unfold eFmt at hf
  cases hx : f env with
  | none => rw [hx] at hf; cases hf
  | some x =>
    rw [hx] at hf
    refine ⟨S0, H0, A, env, _, E, hx, fun v H1 s r => ?_⟩
    cases x with
    | str y =>
      rw [Rp] at r
      subst r
      simp only [Option.bind_some, fmtD] at hf
      split at hf
      · rename_i hz
        cases hf
        exact .inl ⟨y, rfl, sz6 hz, q _ H1 s (by rw [Rp])⟩
      · cases hf
    | int i =>
      rw [Rp] at r
      subst r
      simp only [Option.bind_some, fmtD] at hf
      split at hf
      · rename_i hz
        cases hf
        exact .inr ⟨i, rfl, hz, q _ H1 s (by rw [Rp])⟩
      · cases hf
    | none => cases hf
    | bool _ => cases hf
    | list _ => cases hf
    | tuple _ => cases hf
    | dict _ => cases hf
def joinE : List (En → Option PyData) → Str → En → Option Str
  | [], acc, _ => some acc
  | f :: fs, acc, env => match f env with
    | some (.str y) => if (acc ++ y).length ≤ 1000000 then joinE fs (acc ++ y) env else none
    | _ => none
def eFs (fs : List (En → Option PyData)) : En → Option PyData := fun env => (joinE fs Str.empty env).map .str
theorem joins_run {σ : L2.St} {S0 A : Addr → Prop} {H0 : Hp} {env : En} {Q : Str → Hp → Prop} : ∀ {fs : List (En → Option PyData)} {acc out : Str} {H : Hp}, EnvOk K S0 H0 A H σ env → joinE fs acc env = some out → (∀ H', Same H H' → Q out H') → tJs (fs.map fun f => tE K true f) acc σ H Q
  | [], acc, out, H, E, h, q => by
    cases h
    exact q H (Same.refl H)
  | f :: fs, acc, out, H, E, h, q => by
    unfold joinE at h
    split at h
    · rename_i y hy
      split at h
      · rename_i hz
        refine ⟨S0, H0, A, env, _, E, hy, fun v H1 s r => ?_⟩
        rw [Rp] at r
        subst r
        exact ⟨y, rfl, sz6 hz, joins_run (E.grow s) h fun H' s' => q H' (s.trans s')⟩
      · cases h
    · cases h
theorem ce_fs {fs : List (En → Option PyData)} (h : PE X e (fun σ H Q => tJs (fs.map fun f => tE X.K true f) Str.empty σ H fun out H1 => Q (.str out) H1)) : PE X e (tE X.K c (eFs fs)) := pe_w h fun σ H Q ⟨S0, H0, A, env, d, E, hf, q⟩ => by
  unfold eFs at hf
  obtain ⟨out, ho, rfl⟩ := Option.map_eq_some_iff.mp hf
  exact joins_run E ho fun H' s => q _ H' s (by rw [Rp])
/-! ### a statement that is never reached -/
def sNever : En → Out := fun _ => .bad
theorem cs_never {st : Stmt} : PS X st (tS X.K sNever) := ⟨fun pins s σ H D I q => by obtain ⟨_, _, _, _, _, o⟩ := q; exact o.elim⟩
/-! ### a tuple of texts of the module -/
def KTup (K : PySem.W.Frag) (z : Addr) (xs : List Str) : Prop := ∃ (o : Obj) (its : Array Value) (n : Nat), K.lookup z = some o ∧ o.cls = .type "tuple" ∧ o.data = .seq its n ∧ its.size ≤ sizeLine ∧ Vals (xs.map V.str) its.toList
theorem KTup.sq {z : Addr} {xs : List Str} {H : Hp} (h : KTup K z xs) : SqT K H z (xs.map V.str) := .inr h
def eInG (neg : Bool) (xs : List Str) (f : En → Option PyData) : En → Option PyData := fun env => match f env with
  | some (.str y) => some (.bool (if neg then !decide (y ∈ xs) else decide (y ∈ xs)))
  | _ => none
theorem inV_strs (y : Str) : ∀ xs : List Str, inV (.str y) (xs.map V.str) = decide (y ∈ xs)
  | [] => rfl
  | x :: xs => by
    have ih := inV_strs y xs
    unfold inV at ih ⊢
    rw [List.map_cons, List.any_cons, ih]
    have e : eqV (.str x) (.str y) = decide (x = y) := by
      show (x == y) = decide (x = y)
      by_cases h : x = y
      · subst h; simp
      · rw [decide_eq_false h]; simpa using h
    rw [e]
    by_cases h : x = y
    · subst h; simp
    · have h' : ¬ y = x := fun z => h z.symm
      simp [h, h']
theorem flat_strs : ∀ xs : List Str, (xs.map V.str).all flatV = true
  | [] => rfl
  | x :: xs => by rw [List.map_cons, List.all_cons, flat_strs xs]; rfl
theorem in_run {neg : Bool} {z : Addr} {xs : List Str} (hz : KTup K z xs) {σ : L2.St} {H : Hp} {Q : VK} (q : tE K c (eInG neg xs f) σ H Q) : tOp (rIn K neg) (tE K c1 f) (tC (.ref z)) σ H Q := by
  obtain ⟨S0, H0, A, env, d, E, hf, q⟩ := q
  unfold eInG at hf
  split at hf
  · rename_i y hy
    cases hf
    refine ⟨S0, H0, A, env, _, E, hy, fun v H1 s r => ?_⟩
    rw [Rp] at r
    subst r
    refine ⟨z, xs.map V.str, rfl, .inr hz.sq, rfl, flat_strs xs, ?_⟩
    rw [inV_strs]
    have h := q (.bl (if neg then !decide (y ∈ xs) else decide (y ∈ xs))) H1 s rpb
    cases neg <;> exact h
  · cases hf
theorem ce_inG {neg : Bool} {z : Addr} {xs : List Str} {op : CmpOp} (hz : KTup X.K z xs) (ho : OpR X (compareOp op) (rIn X.K neg)) (ha : PE X a (tE X.K c1 f)) (hb : PE X b (tC (.ref z))) (hm : behindInMarks op b = false) : PE X (.Compare a [op] [b] pos) (tE X.K c (eInG neg xs f)) :=
  pe_w (pe_cmpR ho ha hb hm) fun _ _ _ q => in_run hz q
theorem ct_inG {neg : Bool} {z : Addr} {xs : List Str} {op : CmpOp} (hz : KTup X.K z xs) (ho : OpR X (compareOp op) (rIn X.K neg)) (ha : PE X a (tE X.K c1 f)) (hb : PE X b (tC (.ref z))) (hm : behindInMarks op b = false) : PT X (.Compare a [op] [b] pos) (tT X.K (t1 (eInG neg xs f))) :=
  pt_w (pt_cmpR ho ha hb hm) fun _ _ _ q => t1_run (c := true) (fun _ q => in_run hz q) q
theorem idx_first {y : Str} : ∀ (xs : List Str) (m : Nat), m < xs.idxOf y → xs[m]? ≠ some y
  | [], m, h, _ => by simp at h
  | x :: xs, m, h, e => by
    rw [List.idxOf_cons] at h
    cases hb : x == y with
    | true => rw [hb] at h; simp at h
    | false =>
      rw [hb] at h
      cases m with
      | zero =>
        have e' : x = y := by simpa using e
        rw [e'] at hb
        simp at hb
      | succ m => exact idx_first xs m (by simpa using h) (by simpa using e)
def eIdxG (xs : List Str) (f : En → Option PyData) : En → Option PyData := fun env => match f env with
  | some (.str y) => if y ∈ xs then some (.int (xs.idxOf y : Nat)) else none
  | _ => none
theorem tup_index_run {z : Addr} {xs : List Str} (hz : KTup K z xs) (ht : ∃ o, K.lookup z = some o ∧ o.cls = .type "tuple" ∧ o.dict = none) {σ : L2.St} {H : Hp} {Q : VK} (q : tE K c (eIdxG xs f) σ H Q) :
    tBM K "tuple" (fun x ys H Q => ∃ p, ∃ ws : List Str, ∃ z j, x = .ref p ∧ ys = [.str z] ∧ SqT K H p (ws.map V.str) ∧ ws[j]? = some z ∧ (∀ m, m < j → ws[m]? ≠ some z) ∧ Q (.int (j : Nat)) H) (tC (.ref z)) (tCons (tE K c1 f) tNil) σ H Q := by
  obtain ⟨S0, H0, A, env, d, E, hf, q⟩ := q
  unfold eIdxG at hf
  split at hf
  · rename_i y hy
    split at hf
    · rename_i hm
      cases hf
      refine ⟨.inr (.inl ⟨rfl, ht⟩), S0, H0, A, env, _, E, hy, fun v H1 s r => ?_⟩
      rw [Rp] at r
      subst r
      have hl : xs.idxOf y < xs.length := List.idxOf_lt_length_iff.mpr hm
      refine ⟨z, xs, y, xs.idxOf y, rfl, rfl, hz.sq, ?_, fun m hm' e => ?_, q _ H1 s rp1⟩
      · rw [List.getElem?_eq_getElem hl, List.getElem_idxOf hl]
      · exact idx_first xs m hm' e
    · cases hf
  · cases hf
theorem ce_idxG {z : Addr} {xs : List Str} (hz : KTup X.K z xs) (ht : ∃ o, X.K.lookup z = some o ∧ o.cls = .type "tuple" ∧ o.dict = none) (h : PE X e (tBM X.K "tuple" (fun x ys H Q => ∃ p, ∃ ws : List Str, ∃ z j, x = .ref p ∧ ys = [.str z] ∧ SqT X.K H p (ws.map V.str) ∧ ws[j]? = some z ∧ (∀ m, m < j → ws[m]? ≠ some z) ∧ Q (.int (j : Nat)) H) (tC (.ref z)) (tCons (tE X.K c1 f) tNil))) :
    PE X e (tE X.K c (eIdxG xs f)) := pe_w h fun _ _ _ q => tup_index_run hz ht q
/-- the tuple itself, walked -/
def iG (xs : List Str) : En → Option (List PyData) := fun _ => some (xs.map .str)
theorem wk_tupK {z : Addr} {xs : List Str} (hz : KTup K z xs) {S : Addr → Prop} : Wk K (Itt K z) (fun _ => True) S (xs.map PyData.str) where
  go := fun i H _ h => ⟨xs.map V.str, (xs.map V.str)[i]'(by simpa using h), hz.sq, by rw [List.getElem?_eq_getElem]⟩
  yld := fun i H d v H' _ h ⟨e, y⟩ => by
    subst e
    exact ⟨Same.refl _, (RpA.strs (K := K) (S := S) (H := H') xs).at h (y _ hz.sq)⟩
  stop := fun i H _ h => ⟨xs.map V.str, hz.sq, by simpa using h⟩
theorem ci_G {z : Addr} {xs : List Str} (hz : KTup X.K z xs) (h : PE X iter (tC (.ref z))) : PI X tg iter (tI X.K c (iG xs)) := pi_w (pi_tup h) fun σ H R ⟨S0, H0, A, env, ds, E, hf, q⟩ => by
  cases hf
  exact ⟨z, rfl, ⟨_, hz.sq⟩, q _ H _ (Same.refl H) (fun _ _ => trivial) (fun _ _ _ => trivial) (wk_tupK hz)⟩
end
end Mir
namespace Mir
open PySem PySem.Spec PyProof.Rows L2
section
variable {X : Cx} {K : PySem.W.Frag}
def gtU (x y : PyData) : Option PyData := if ltOk x y = true then some (.bool (PySem.W.dataLt y x)) else none
def rGtU (K : PySem.W.Frag) : R2 := fun x y H Q => ∃ S S' d e, Rp K S H d x ∧ Rp K S' H e y ∧ ltOk d e = true ∧ Q (.bl (PySem.W.dataLt e d)) H
theorem op_gtU (hu : X.A.units + 64 < cLine) : OpR X (compareOp .Gt) (rGtU X.K) := by
  intro pins s σ H x y v u Q I rx ry h
  obtain ⟨S, S', d, e, r1, r2, ok, q⟩ := h
  unfold ltOk at ok
  rw [Bool.and_eq_true, Bool.and_eq_true, Bool.and_eq_true, Bool.and_eq_true] at ok
  obtain ⟨⟨⟨⟨n1, n2⟩, al⟩, nn⟩, dp⟩ := ok
  obtain ⟨as, w1⟩ := r1.reads I n1 rx
  obtain ⟨bs, w2⟩ := r2.reads I n2 ry
  refine PySem.W.gt_data w1 w2 al (fun z => by rw [z] at nn; exact absurd nn Bool.false_ne_true) ?_ ⟨.bl _, H, I, rfl, q⟩
  have := of_decide_eq_true dp
  have := Nat.min_le_left d.depth e.depth
  omega
theorem r2_gtU : R2Ok K true (rGtU K) gtU := by
  intro S S' H x y dx dy d Q hn hS rx ry h q
  unfold gtU at h
  split at h
  · rename_i hk
    cases h
    exact ⟨_, _, dx, dy, rx, ry, hk, q _ H (Same.refl H) rpb⟩
  · cases h
end
end Mir

/-! Exc4: isinstance(e, T) of the exception that a suite holds -/
namespace Mir
open PySem PySem.Spec PyProof.Rows L2
/-- what the written part says of the class, for isinstance -/
structure KitEx (K : PySem.W.Frag) (C : Addr) : Prop where
  cl : (PySem.W.clsIn K C).isSome = true
  ha : PySem.W.findIn K (.ref C) "__class__" = some (some (.builtin "object.__class__"))
  hn : PySem.W.specialIn K (.builtin "object.__class__") "__get__" = some (some (.builtin "getset_descriptor.__get__"))
  tk : PySem.W.takesIn K (.builtin "object.__class__") = some true
  hm : PySem.W.mroIn K C (.type "object") = some true
section
variable {X : Cx} {C fI : Addr} {e b : Expr} {pos p : Pos} {c : Bool}
def rIsiEx (K : PySem.W.Frag) (C a : Addr) (dx : Option Addr) : List V → Hp → VK → Prop := fun xs H Q => ∃ (cv : V) (u : Value) (dd : Addr) (v : V), xs = [.ref a, cv] ∧ ClsV cv u ∧ PySem.W.kitOne K (.ref C) u = some true ∧ dx = some dd ∧ H dd = some (xdW v) ∧ Q (.bl true) H
theorem call_isiEx {a : Addr} {oe : Obj} {cls : Value} {dx : Option Addr} {pn : List (Addr × Obj)} (T : PySem.RfX.RfTxt X.prog X.K X.mg C fI) (KX : KitEx X.K C) (hz : Zc cls dx oe) (hf : ∃ vs, oe.data = .fields vs) (h1 : cls = .ref C) :
    CallR (X.suite a ((a, oe) :: pn)) (.builtin "isinstance") (rIsiEx X.K C a dx) := by
  intro pins s σ H xs us Q I r h
  obtain ⟨cv, u, dd, v, rfl, k, kt, ed, ea, q⟩ := h
  obtain ⟨u1, u2, rfl, r1, r2⟩ := vals2 r
  cases (show u1 = Value.ref a from r1)
  have e2 := k.eq r2
  subst e2
  subst h1
  subst ed
  obtain ⟨hp, _⟩ := I.pin (a, oe) (List.mem_append_left _ List.mem_cons_self)
  obtain ⟨vs, hd⟩ := hf
  have hx : ObjOk X.prog X.w H s.heap dd (xdW v) := I.hok dd _ ea
  obtain ⟨mA, hns, hr⟩ := hx
  obtain ⟨od, ho, hl⟩ := lookIn_ns hns
  have J : PySem.W.InstAt s.heap a oe C (some od) := ⟨hp, hz.1, by unfold PySem.W.notCls; rw [hd] <;> rfl, by rw [hz.2]; exact ho⟩
  exact PySem.W.kia_one (PySem.W.kitx_exc KX.cl T.ga T.gg T.exC KX.ha KX.hn KX.tk KX.hm) I.kIn J kt (fun z => nomatch z) fun tk => ⟨.bl true, H, I.tok tk, rfl, q⟩
def eIsiEx (i : Nat) (a dd : Addr) : En → Option PyData := fun env => match env[i]? with
  | some (.exc a' dd' _) => if a' = a ∧ dd' = dd then some (.bool true) else none
  | _ => none
theorem ce_isiEx {i : Nat} {a dd : Addr} {dx : Option Addr} {cv : V} {u : Value} (h2 : dx = some dd) (ck : ClsV cv u) (kt : PySem.W.kitOne X.K (.ref C) u = some true) (he : PE X e (tCB (rIsiEx X.K C a dx) (tCons (tVar i) (tCons (tC cv) tNil)))) : PE X e (tE X.K c (eIsiEx i a dd)) := pe_w he fun σ H Q ⟨S0, H0, A, env, d, E, hd, q⟩ => by
  unfold eIsiEx at hd
  split at hd
  · rename_i a' dd' d' hi
    split at hd
    · rename_i hh
      cases hd
      obtain ⟨rfl, rfl⟩ := hh
      rcases E.sl i _ hi with z | ⟨v, k1, rfl, w, k2, k3⟩
      · cases z
      exact ⟨_, k1, cv, u, dd', w, rfl, ck, kt, h2, k2, q _ H (Same.refl H) rpb⟩
    · cases hd
  · cases hd
end
end Mir

/-! Mir15: min(xs, key=def, default=d); two for in a comprehension -/
namespace Mir
open PySem PySem.Spec PyProof.Rows L2
section
variable {pg : Program} {wd : World} {Ar : Around} {fd S I : Addr} {Rs : Result → Shared → Prop}
theorem args_keyD (a v w : Value) : argsOk "min" ⟨[a], [(Str.ofString "key", v), (Str.ofString "default", w)]⟩ := by unfold argsOk; kernel_rfl
theorem least_none {key d : Value} {x : Str} {r : List (Str × Value)} {s : Shared} {c : Nat} (hS : s.heap.get? S = some { cls := .type "list", dict := none, data := .seq #[] c, slots := #[] })
    (hd : ∀ (Qx : Option Value → Shared → Prop) (Ex : Value → Shared → Prop), (∀ t, Rs (.ok (.ret d)) t → Qx none t) → wpAny (model pg wd) Ar.in1 (pyNext (.ref I)) Qx Ex s) :
    codeAny (model pg wd) Ar (.builtin "min.loop" ⟨[.ref I, key, .ref S], (x, d) :: r⟩) Rs s := by
  refine codeAny_builtin F.entry_min_loop ?_
  rw [Around.under_plainId F.plain_min_loop _]
  show wpAny _ Ar.in1 (seqItems? (.ref S) >>= _) _ _ s
  refine wpAny_bind (wpAny_seqItems hS rfl ?_)
  show wpAny _ Ar.in1 (tryCatch (pyNext (.ref I)) _ >>= _) _ _ s
  refine wpAny_bind (wpAny_tryCatch (hd _ _ fun s' hm => ?_))
  show wpAny _ Ar.in1 (rule _ >>= _) _ _ _
  exact wpAny_bind (wpAny_rule (wpAny_pure hm))
theorem call_leastD {x dv : Value} {Qx : Value → Shared → Prop} {Ex : Value → Shared → Prop} {s : Shared}
    (h : wpAny (model pg wd) Ar.in1 (pyIter x) (fun it t => ∃ I, it = .ref I ∧ ((∃ len C0 D0 Cj Ej Bk, 0 < len ∧ LeastRun pg wd Ar.in1 fd t.heap.objs.size I len C0 D0 Cj Ej Bk ∧
      C0 { t with heap := t.heap.push { cls := .type "list", data := .seq #[] 0 }, toks := t.toks } ∧ ∀ b' t', Ej t' b' → Qx b' t') ∨
      (∀ (Qy : Option Value → Shared → Prop) (Ey : Value → Shared → Prop) (o : Obj), (t.heap.push { cls := .type "list", data := .seq #[] 0 }).get? t.heap.objs.size = some o → (∀ t', Qx dv t' → Qy none t') → wpAny (model pg wd) Ar.in1 (pyNext (.ref I)) Qy Ey { t with heap := t.heap.push { cls := .type "list", data := .seq #[] 0 }, toks := t.toks }))) Ex s) :
    wpAny (model pg wd) Ar (call (.builtin "min") [x] [(Str.ofString "key", .ref fd), (Str.ofString "default", dv)]) Qx Ex s := by
  refine PyProof.Rows.kmk_tree F.kind_min F.plain_min F.entry_min (args_keyD _ _ _) ?_
  refine wpAny_bind (wpAny_of_eq (show Builtin.Builtins.bindParams "min" ["key", "default"] 0 ⟨[], [(Str.ofString "key", Value.ref fd), (Str.ofString "default", dv)]⟩ = pure [some (Value.ref fd), some dv] from rfl) ?_)
  refine wpAny_bind (wpAny_pure ?_)
  refine wpAny_bind (wpAny_mono h (fun it t ht => ?_) fun _ _ z => z)
  obtain ⟨I, rfl, ht⟩ := ht
  refine wpAny_bind (wpAny_newObj_type ?_)
  rw [nm_loop]
  refine wpAny_pure ⟨plainId_quiet F.plain_min_loop _, ?_⟩
  rcases ht with ⟨len, C0, D0, Cj, Ej, Bk, hn, L, hC, hQ⟩ | hd
  · exact least_first L _ hn hC (Heap.get?_push_size _ rfl) hQ
  · exact least_none (Heap.get?_push_size _ rfl) fun Qy Ey hq => hd Qy Ey _ (Heap.get?_push_size _ rfl) hq
end
section
variable {X : Cx} {k : Nat} {f : Addr} {fd : FuncData} {ps : List Str} {g : List PyData → Option PyData} {pins : List (Addr × Obj)} {σ : L2.St} {H H1 : Hp} {s : Shared} {S I l : Addr} {i : Nat}
def rMinKD (X : Cx) (f : Addr) (g : List PyData → Option PyData) : List V → List V → Hp → VK → Prop := fun vs zs H Q => ∃ a xs U qs y, vs = [.ref a] ∧ zs = [.ref f, y] ∧ SqL X.K H a xs ∧ RpA X.K U H (qs.map (·.1)) xs ∧ (∀ q ∈ qs, g [q.1] = some q.2) ∧ keysOk qs ∧ (qs = [] → Q y H) ∧
  ∀ v H', 0 < qs.length → Same H H' → Rp X.K U H' (bestK qs (qs.length - 1)).1 v → Q v H'
theorem call_minKD (F : FnOk X.prog X.w X.K X.mg X.base CX0 k f fd ps (spF X.K g)) (hr : Room (k + 1) X.A) (hb : Binds X.K fd ps []) : CallRK X (.builtin "min") [Str.ofString "key", Str.ofString "default"] (rMinKD X f g) := by
  intro pins s σ H vs zs us ws Q I0 r rz h
  obtain ⟨l, xs, U, qs, yd, rfl, rfl, hl, ra, hg, ⟨k1, k2⟩, q0, q⟩ := h
  obtain ⟨its, rv, hls, _⟩ := I0.list hl
  rw [Vals.ref1 r]
  obtain ⟨ud, rfl, rud⟩ : ∃ ud, ws = [.ref f, ud] ∧ RelV yd ud := by
    cases rz with
    | cons r1 r2 =>
      cases r2 with
      | cons r3 r4 =>
        cases r4
        cases r1
        exact ⟨_, rfl, r3⟩
  have hh := hr.hd
  have lq : xs.length = qs.length := by rw [ra.length, List.length_map]
  have item : ∀ {H1 : Hp} {i : Nat} {xv : V}, Same H H1 → xs[i]? = some xv → Rp X.K U H1 (qs.getD i (.none, .none)).1 xv ∧ qs.getD i (.none, .none) ∈ qs := fun {H1 i xv} s1 e => by
    have hi : i < qs.length := by
      obtain ⟨z, _⟩ := List.getElem?_eq_some_iff.mp e
      omega
    rw [List.getD_eq_getElem?_getD, List.getElem?_eq_getElem hi]
    obtain ⟨v, e1, r1⟩ := ra.get (i := i) (d := qs[i].1) (by rw [List.getElem?_map, List.getElem?_eq_getElem hi]; rfl)
    rw [e] at e1; cases e1
    exact ⟨r1.grow s1, List.getElem_mem hi⟩
  refine call_leastD (x := .ref l) (fd := f) (dv := ud) ?_
  refine PySem.W.iter_listW (A := X.A.in1) hh hls.isList fun t et W st hfp hw hk => ?_
  have I1 : Inv X pins σ H t := by rw [et]; exact I0.kept (t' := s.toks) fun b o e => Heap.get?_push_of_some _ e
  have szs : s.heap.objs.size + 1 = t.heap.objs.size := by rw [et]; exact (Heap.size_push ..).symm
  have fne : ¬ t.heap.objs.size = s.heap.objs.size := fun z => by have z' : (t.heap.objs.size : Nat) = s.heap.objs.size := z; omega
  have M0 : Mid X pins σ H t.heap.objs.size s.heap.objs.size l 0 H { t with heap := t.heap.push { cls := .type "list", data := .seq #[] 0 }, toks := t.toks } := by
    refine ⟨I1.kept (t' := t.toks) fun b o e => Heap.get?_push_of_some _ e, Same.refl H, I1.fpOk (Nat.le_refl _) (I1.hok.fresh (Nat.le_refl _)), I0.fpOk (Nat.le_refl _) (I0.hok.fresh (Nat.le_refl _)), fne, ?_⟩
    obtain ⟨o, e, z⟩ := st.1
    exact ⟨o, Heap.get?_push_of_some _ e, z⟩
  rcases Nat.eq_zero_or_pos qs.length with hz | hn
  · refine ⟨s.heap.objs.size, rfl, .inr fun Qx Ex o hS hq => M0.draw hh hl (Nat.zero_le _) hS (fun x xv t' e1 => ?_) fun _ t' I2 _ => hq t' ⟨yd, H, I2, rud, q0 (List.eq_nil_of_length_eq_zero hz)⟩⟩
    rw [List.getElem?_eq_none (by omega)] at e1; cases e1
  refine ⟨s.heap.objs.size, rfl, .inl ?_⟩
  refine ⟨qs.length, fun s' => ∃ H1, Mid X pins σ H t.heap.objs.size s.heap.objs.size l 0 H1 s', fun s' x => ∃ H1 xv, Mid X pins σ H t.heap.objs.size s.heap.objs.size l 1 H1 s' ∧ RelV xv x ∧ xs[0]? = some xv,
    fun j s' b kb => ∃ H1 bv kv, Mid X pins σ H t.heap.objs.size s.heap.objs.size l (j + 1) H1 s' ∧ RelV bv b ∧ RelV kv kb ∧ j < qs.length ∧ Rp X.K U H1 (bestK qs j).1 bv ∧ Rp X.K (fun _ => True) H1 (bestK qs j).2 kv,
    fun s' b => ∃ H1 bv, Inv X pins σ H1 s' ∧ Same H H1 ∧ FpOk X pins H1 t.heap.objs.size ∧ RelV bv b ∧ Rp X.K U H1 (bestK qs (qs.length - 1)).1 bv,
    fun j s' b kb x => ∃ H1 bv kv xv, Mid X pins σ H t.heap.objs.size s.heap.objs.size l (j + 2) H1 s' ∧ RelV bv b ∧ RelV kv kb ∧ RelV xv x ∧ xs[j + 1]? = some xv ∧ Rp X.K U H1 (bestK qs j).1 bv ∧ Rp X.K (fun _ => True) H1 (bestK qs j).2 kv, hn,
    { put := ?_, putE := ?_, draw0 := ?_, first := ?_, draw := ?_, stop := ?_, next := ?_ }, ?_, ?_⟩
  · rintro j s' b kb up ⟨H1, bv, kv, M, z⟩
    exact ⟨H1, bv, kv, M.put up, z⟩
  · rintro s' b up ⟨H1, bv, I2, s2, fS, z⟩
    obtain ⟨f0, f1, f2, f3, f4, f5⟩ := id fS
    exact ⟨H1, bv, I2.turned (fun b o hb e => (Heap.get?_update_other _ _ (Ne.symm hb)).trans e) f0 f1 f3 f4 f5, s2, fS, z⟩
  · rintro s' o Qx Ex ⟨H1, M⟩ hS hq
    refine M.draw hh hl (Nat.zero_le _) hS (fun x xv t' e1 r1 M1 S1 => hq x t' ⟨H1, xv, M1, r1, e1⟩ S1) fun e => absurd e (by omega)
  · rintro s' x o Qx Ex ⟨H1, xv, M, rx, e1⟩ hS no hq
    obtain ⟨r1, m1⟩ := item M.same e1
    refine M.call F hr hb rx r1 (hg _ m1) hS no fun kx t' H2 kv M2 s2 rk r2 S2 => hq kx t' ⟨H2, xv, kv, M2, rx, rk, hn, r1.grow s2, r2⟩ S2
  · rintro j s' b kb o Qx Ex hj ⟨H1, bv, kv, M, rb, rk, hj', r1, r2⟩ hS hq
    exact M.draw hh hl (by omega) hS (fun x xv t' e1 rx M1 S1 => hq x t' ⟨H1, bv, kv, xv, M1, rb, rk, rx, e1, r1, r2⟩ S1) fun e => absurd e (by omega)
  · rintro j s' b kb o Qx Ex hj ⟨H1, bv, kv, M, rb, rk, hj', r1, r2⟩ hS hq
    refine M.draw hh hl (by omega) hS (fun x xv t' e1 => ?_) fun _ t' I2 S2 => hq t' ⟨H1, bv, I2, M.same, M.fS, rb, ?_⟩ S2
    · rw [List.getElem?_eq_none (by omega)] at e1; cases e1
    · rw [show qs.length - 1 = j by omega]; exact r1
  · rintro j s' b kb x o Qx Ex hj ⟨H1, bv, kv, xv, M, rb, rk, rx, e1, r1, r2⟩ hS no hq
    obtain ⟨ri, mi⟩ := item M.same e1
    refine M.call F hr hb rx ri (hg _ mi) hS no fun kx t' H2 kxv M2 s2 rkx rkd S2 => hq kx t' S2 fun Qy Ey hy => ?_
    have mb : bestK qs j ∈ qs := bestK_mem (by omega)
    obtain ⟨⟨y1, y2⟩, y3⟩ := (k1 _ mi).imp_left fun z => by simpa [keyOk] using z
    obtain ⟨⟨y4, y5⟩, y6⟩ := (k1 _ mb).imp_left fun z => by simpa [keyOk] using z
    obtain ⟨as1, w1⟩ := rkd.reads M2.inv y1 rkx
    obtain ⟨as2, w2⟩ := (r2.grow s2).reads M2.inv y4 rk
    refine PySem.W.rcLt_alike _ _ X.A.in1 t' kx kb _ _ w1 w2 (k2 _ mi _ mb) y3 ?_ X.prog X.w Ey Qy (hy _ (fun e => ?_) fun e => ?_)
    · have := hr.un
      have := Nat.min_le_left (qs.getD (j + 1) (PyData.none, PyData.none)).2.depth (bestK qs j).2.depth
      show X.A.units + 1 + _ < _
      omega
    · have eb : bestK qs (j + 1) = qs.getD (j + 1) (.none, .none) := by unfold bestK stK; rw [if_pos e]
      exact ⟨H2, xv, kxv, M2, rx, rkx, hj, by rw [eb]; exact ri.grow s2, by rw [eb]; exact rkd⟩
    · have eb : bestK qs (j + 1) = bestK qs j := by
        show stK _ _ = _
        unfold stK; rw [if_neg (by rw [e]; exact Bool.false_ne_true)]
      exact ⟨H2, bv, kv, M2, rb, rk, hj, by rw [eb]; exact r1.grow s2, by rw [eb]; exact r2.grow s2⟩
  · exact ⟨H, M0⟩
  · rintro b' t' ⟨H1, bv, I2, s2, _, rb, r1⟩
    exact ⟨bv, H1, I2, rb, q bv H1 hn s2 r1⟩
end
section
variable {X : Cx} {k : Nat} {f : Addr} {fd : FuncData} {ps : List Str} {gd : List PyData → Option PyData} {e : Expr} {c c1 : Bool} {fe fy : En → Option PyData}
def eMinKD (g : List PyData → Option PyData) (f fy : En → Option PyData) : En → Option PyData := fun env => match f env with
  | some (.list ds) => match keysD g ds with
    | some qs => if keysB qs = true then (if qs.length = 0 then fy env else match fy env with | some _ => some (bestK qs (qs.length - 1)).1 | none => none) else none
    | none => none
  | _ => none
theorem ce_minKD (h : PE X e (tCKw (rMinKD X f gd) (tCons (tE X.K true fe) tNil) (tCons (tC (.ref f)) (tCons (tE X.K true fy) tNil)))) : PE X e (tE X.K true (eMinKD gd fe fy)) := pe_w h fun σ H Q ⟨S0, H0, A, env, d, E, hf, q⟩ => by
  unfold eMinKD at hf
  split at hf
  · rename_i ds hd
    split at hf
    · rename_i qs hq
      split at hf
      · rename_i hk
        refine ⟨S0, H0, A, env, _, E, hd, fun v H1 s r => ?_⟩
        rw [Rp] at r
        obtain ⟨a, xs, rfl, hs, ra⟩ := r
        obtain ⟨m1, m2⟩ := keysD_spec hq
        obtain ⟨y, hy⟩ : ∃ y, fy env = some y := by
          split at hf
          · exact ⟨_, hf⟩
          · split at hf
            · rename_i y hy; exact ⟨y, hy⟩
            · cases hf
        refine ⟨S0, H0, A, env, y, E.grow s, hy, fun yv H2 s2 ry => ?_⟩
        refine ⟨a, xs, _, qs, yv, rfl, rfl, s2.seq hs.sq, by rw [m1]; exact ra.grow s2, m2, keysB_ok hk, fun hz => ?_, fun v H3 hn s3 r3 => ?_⟩
        · have hz' : qs.length = 0 := by rw [hz]; rfl
          rw [if_pos hz', hy] at hf
          cases hf
          exact q yv H2 (s.trans s2) ry
        · rw [if_neg (by omega), hy] at hf
          cases hf
          exact q v H3 ((s.trans s2).trans s3) r3
      · cases hf
    · cases hf
  · cases hf
end
/-! [elt for tg in iter if .. for tg1 in iter1 if ..] -/
def ownF (e : En) : Bool := e.all fun s => !ow s
def compF2 (g : PyData → En → Option En) (ga : En → Option Bool) (f1 : En → Option (List PyData)) (is1 : List Nat) (g1 : PyData → En → Option En) (ga1 : En → Option Bool) (fe : En → Option PyData) (env : En) : List PyData → Option (List PyData)
  | [] => some []
  | d :: ds => match g d env with
    | none => none
    | some e1 => match ga e1 with
      | none => none
      | some false => compF2 g ga f1 is1 g1 ga1 fe env ds
      | some true => if ownF e1 = true then (match f1 e1 with
        | none => none
        | some ds1 => match compF g1 ga1 fe (wipeE e1 is1) ds1 with
          | none => none
          | some r1 => match compF2 g ga f1 is1 g1 ga1 fe env ds with
            | none => none
            | some r2 => some (r1 ++ r2)) else none
def fCmp2 (is : List Nat) (f : En → Option (List PyData)) (g : PyData → En → Option En) (ga : En → Option Bool) (is1 : List Nat) (f1 : En → Option (List PyData)) (g1 : PyData → En → Option En) (ga1 : En → Option Bool) (fe : En → Option PyData) : En → Option (List PyData) := fun env => match f env with
  | some ds => match compF2 g ga f1 is1 g1 ga1 fe (wipeE env is) ds with
    | some vs => if vs.length ≤ 1000000 then some vs else none
    | none => none
  | none => none
section
variable {X : Cx} {K : PySem.W.Frag} {S0 S : Addr → Prop} {H0 H H' : Hp} {A : Addr → Prop} {σ : L2.St} {env : En} {e : Expr}
/-- an environment that owns nothing stands when the list at D grows -/
theorem EnvOk.keepD {D : Addr} {acc acc' : List V} (E : EnvOk K S0 H0 A H σ env) (hf : ownF env = true) (hA : A D) (h1 : H D = some (.lst acc)) (h2 : H' D = some (.lst acc')) (fr : Fr (fun a => a = D) H H') : EnvOk K S0 H0 A H' σ env := by
  have hL : ∀ a xs, Cl S0 H0 A a → Rd H a (.lst xs) → Cl S0 H0 A a ∧ Rd H' a (.lst xs) := fun a xs z r => by
    have ne : ¬ a = D := fun q => z.2 (q ▸ hA)
    refine ⟨z, ?_⟩
    rcases r with r | ⟨o, r⟩
    · exact .inl (fr a _ r ne)
    · exact .inr ⟨o, fr a _ r ne⟩
  have hT : ∀ a xs, H a = some (.tup xs) → H' a = some (.tup xs) := fun a xs r => fr a _ r fun q => by rw [q, h1] at r; cases r
  have hD : ∀ a u, fz u = true → H a = some u → H' a = some u := fun a u z r => fr a _ r fun q => by
    rw [q, h1] at r
    cases r
    exact fz_mut z rfl
  refine ⟨E.len, fun i s hi => ?_, E.dis, fun i j rows t a c bs n h1 h2 o h3 h4 h5 => ?_, fun a ha => ?_, E.nw, fun a o h => ?_⟩
  · rcases E.sl i s hi with z | ⟨v, k1, k2⟩
    · exact .inl z
    · refine .inr ⟨v, k1, ?_⟩
      have no : ow s = false := by
        unfold ownF at hf
        rw [List.all_eq_true] at hf
        simpa using hf s (List.mem_of_getElem? hi)
      cases s with
      | un => trivial
      | val d => exact Rp.mono hL hT hD d v k2
      | own ds => cases no
      | ownT ds => cases no
      | ownK ds => cases no
      | exc a dd d =>
        obtain ⟨e1, u, hh, r⟩ := k2
        exact ⟨e1, u, hD _ _ rfl hh, Rp.mono hL hT hD _ _ r⟩
      | fn a => exact k2
      | mat rows => cases no
  · exfalso
    have no : ow (.mat rows) = false := by
      unfold ownF at hf
      rw [List.all_eq_true] at hf
      simpa using hf _ (List.mem_of_getElem? h1)
    cases no
  · by_cases q : a = D
    · exact ⟨_, by rw [q]; exact h2, rfl⟩
    · obtain ⟨u, k1, k2⟩ := E.tr a ha
      exact ⟨u, fr a _ k1 q, k2⟩
  · have hz := E.nw D hA
    exact fr a _ (E.same a o h) fun q => by rw [q, hz] at h; cases h
theorem wipe_sub {σ1 σ2 : L2.St} {isT is : List Nat} (hs : ∀ i ∈ isT, i ∈ is) (h : L2.wipe σ2 isT = L2.wipe σ1 isT) : L2.wipe σ2 is = L2.wipe σ1 is := by
  have hl : σ2.length = σ1.length := by
    have := congrArg List.length h
    rw [wipe_length, wipe_length] at this
    exact this
  apply List.ext_getElem?
  intro i
  rw [wipe_get, wipe_get]
  by_cases q : i ∈ is
  · rw [if_pos q, if_pos q]
    by_cases k : i < σ1.length
    · rw [List.getElem?_eq_getElem k, List.getElem?_eq_getElem (by omega)]
      rfl
    · rw [List.getElem?_eq_none (by omega), List.getElem?_eq_none (by omega)]
  · rw [if_neg q, if_neg q]
    have e := congrArg (fun l => l[i]?) h
    simp only [wipe_get] at e
    rw [if_neg (fun z => q (hs i z)), if_neg (fun z => q (hs i z))] at e
    exact e
theorem lc2_run {c c2 : Bool} {f f1 : En → Option (List PyData)} {g g1 : PyData → En → Option En} {ga ga1 : En → Option Bool} {fe : En → Option PyData} {isT is is1 : List Nat} {tt tt1 : TT} {Q : VK} (hsub : ∀ i ∈ isT, i ∈ is) (ht : ∀ σ H Q, tT K ga σ H Q → tt σ H Q) (ht1 : ∀ σ H Q, tT K ga1 σ H Q → tt1 σ H Q)
    (h : tF K c2 (fCmp2 is f g ga is1 f1 g1 ga1 fe) σ H Q) : tLc2 (tI K c f) (tG K isT g) tt (tI K true f1) (tG K is1 g1) tt1 (tE K true fe) is is1 σ H Q := by
  obtain ⟨S0, H0, A, env, res, E, hf, q⟩ := h
  unfold fCmp2 at hf
  cases hd : f env with
  | none => rw [hd] at hf; cases hf
  | some ds =>
    simp only [hd] at hf
    cases hc : compF2 g ga f1 is1 g1 ga1 fe (wipeE env is) ds with
    | none => simp only [hc] at hf; cases hf
    | some vs =>
      simp only [hc] at hf
      split at hf
      · rename_i hlen
        cases hf
        refine ⟨S0, H0, A, env, ds, E, hd, fun J H1 G s gS _ wk D hD => ?_⟩
        have E1 := E.grow s
        refine ⟨fun i m H2 => m = ds.length - i ∧ i ≤ ds.length ∧ Same H1 H2 ∧ ∃ acc accD rest, H2 D = some (.lst acc) ∧ RpA K (fun a => Cl S0 H0 A a ∧ a ≠ D) H2 accD acc ∧ compF2 g ga f1 is1 g1 ga1 fe (wipeE env is) (ds.drop i) = some rest ∧ accD ++ rest = res,
          ⟨_, rfl, Nat.zero_le _, same_new hD, [], [], res, upd_same, RpA.nil, hc, rfl⟩, ?_⟩
        rintro i m H2 ⟨rfl, hi, s2, acc, accD, rest, hacc, racc, hrest, hres⟩
        by_cases hlt : i < ds.length
        · have hdr : ds.drop i = ds[i] :: ds.drop (i + 1) := List.drop_eq_getElem_cons hlt
          rw [hdr] at hrest
          refine .inr ⟨wk.go i H2 (gS H2 s2) hlt, fun H3 => Same H1 H3 ∧ ∃ acc accD rest, H3 D = some (.lst acc) ∧ RpA K (fun a => Cl S0 H0 A a ∧ a ≠ D) H3 accD acc ∧ compF2 g ga f1 is1 g1 ga1 fe (wipeE env is) (ds.drop (i + 1)) = some rest ∧ accD ++ rest = res, ?_, fun x Hx y => ?_⟩
          · rintro H3 ⟨s3, z⟩
            exact ⟨ds.length - (i + 1), by omega, rfl, hlt, s3, z⟩
          · obtain ⟨sx, rx⟩ := wk.yld i H2 _ x Hx (gS H2 s2) (List.getElem?_eq_getElem hlt) y
            have E2 : EnvOk K S0 H0 (fun a => A a ∨ a = D) Hx (L2.wipe σ is) (wipeE env is) := (E1.wipe is).add (s2.trans sx) hD (sx _ _ hacc)
            have rx' : Rp K (Cl S0 H0 (fun a => A a ∨ a = D)) Hx ds[i] x := rx.wide fun a z => ⟨z.1.1, fun y => by
              rcases y with k | k
              · exact z.1.2 k
              · exact z.2 (by rw [k]; exact hD)⟩
            simp only [compF2] at hrest
            cases hg : g ds[i] (wipeE env is) with
            | none => rw [hg] at hrest; cases hrest
            | some e1 =>
              simp only [hg] at hrest
              refine ⟨S0, H0, _, _, _, e1, E2, rx', hg, fun σ2 E3 w3 => ⟨by rw [wipe_sub hsub w3, wipe_wipe], ht _ _ _ ?_⟩⟩
              cases hga : ga e1 with
              | none => simp only [hga] at hrest; cases hrest
              | some k =>
                refine ⟨S0, H0, _, e1, k, E3, hga, fun H3 s3 => ?_⟩
                cases k with
                | false =>
                  simp only [hga] at hrest
                  exact iteF ⟨(s2.trans sx).trans s3, acc, accD, rest, s3 _ _ (sx _ _ hacc), (racc.grow sx).grow s3, hrest, hres⟩
                | true =>
                  simp only [hga] at hrest
                  by_cases how : ownF e1 = true
                  · rw [if_pos how] at hrest
                    cases hf1 : f1 e1 with
                    | none => simp only [hf1] at hrest; cases hrest
                    | some ds1 =>
                      simp only [hf1] at hrest
                      cases hr1 : compF g1 ga1 fe (wipeE e1 is1) ds1 with
                      | none => simp only [hr1] at hrest; cases hrest
                      | some r1 =>
                        simp only [hr1] at hrest
                        cases hr2 : compF2 g ga f1 is1 g1 ga1 fe (wipeE env is) (ds.drop (i + 1)) with
                        | none => simp only [hr2] at hrest; cases hrest
                        | some r2 =>
                          simp only [hr2] at hrest
                          cases hrest
                          refine iteT ⟨S0, H0, _, e1, ds1, E3.grow s3, hf1, fun J1 H4 G1 s4 _ gF1 wk1 => ?_⟩
                          have E4 := (E3.grow s3).grow s4
                          have h4D := s4 _ _ (s3 _ _ (sx _ _ hacc))
                          have s14 : Same H1 H4 := ((s2.trans sx).trans s3).trans s4
                          refine ⟨fun j k H5 => k = ds1.length - j ∧ j ≤ ds1.length ∧ Fr (fun a => a = D) H4 H5 ∧ ∃ acc accD rest, H5 D = some (.lst acc) ∧ RpA K (fun a => Cl S0 H0 A a ∧ a ≠ D) H5 accD acc ∧ compF g1 ga1 fe (wipeE e1 is1) (ds1.drop j) = some rest ∧ accD ++ rest ++ r2 = res,
                            ⟨_, rfl, Nat.zero_le _, Fr.refl, acc, accD, r1, h4D, ((racc.grow sx).grow s3).grow s4, hr1, by rw [List.append_assoc]; exact hres⟩, ?_⟩
                          rintro j k H5 ⟨rfl, hj, f5, acc5, accD5, rest5, hacc5, racc5, hrest5, hres5⟩
                          have g5 : G1 H5 := gF1 rfl H5 fun a o h n => f5 a o h fun z => n (.inr z)
                          by_cases hlt1 : j < ds1.length
                          · have hdr1 : ds1.drop j = ds1[j] :: ds1.drop (j + 1) := List.drop_eq_getElem_cons hlt1
                            rw [hdr1] at hrest5
                            refine .inr ⟨wk1.go j H5 g5 hlt1, fun H6 => Fr (fun a => a = D) H4 H6 ∧ ∃ acc accD rest, H6 D = some (.lst acc) ∧ RpA K (fun a => Cl S0 H0 A a ∧ a ≠ D) H6 accD acc ∧ compF g1 ga1 fe (wipeE e1 is1) (ds1.drop (j + 1)) = some rest ∧ accD ++ rest ++ r2 = res, ?_, fun x1 Hy y1 => ?_⟩
                            · rintro H6 ⟨s6, z⟩
                              exact ⟨ds1.length - (j + 1), by omega, rfl, hlt1, s6, z⟩
                            · obtain ⟨sy, ry⟩ := wk1.yld j H5 _ x1 Hy g5 (List.getElem?_eq_getElem hlt1) y1
                              have E5 := ((E4.keepD how (.inr rfl) h4D hacc5 f5).grow sy).wipe is1
                              simp only [compF] at hrest5
                              cases hg1 : g1 ds1[j] (wipeE e1 is1) with
                              | none => rw [hg1] at hrest5; cases hrest5
                              | some e2 =>
                                simp only [hg1] at hrest5
                                refine ⟨S0, H0, _, _, _, e2, E5, ry.wide fun a z => z.1, hg1, fun σ3 E6 w6 => ⟨by rw [w6, wipe_wipe], ht1 _ _ _ ?_⟩⟩
                                cases hga1 : ga1 e2 with
                                | none => simp only [hga1] at hrest5; cases hrest5
                                | some k1 =>
                                  refine ⟨S0, H0, _, e2, k1, E6, hga1, fun H6 s6 => ?_⟩
                                  have f6 : Fr (fun a => a = D) H4 H6 := fun a o h n => s6 _ _ (sy _ _ (f5 a o h n))
                                  cases k1 with
                                  | false =>
                                    simp only [hga1] at hrest5
                                    exact iteF ⟨f6, acc5, accD5, rest5, s6 _ _ (sy _ _ hacc5), (racc5.grow sy).grow s6, hrest5, hres5⟩
                                  | true =>
                                    simp only [hga1] at hrest5
                                    cases hfe : fe e2 with
                                    | none => simp only [hfe] at hrest5; cases hrest5
                                    | some v =>
                                      simp only [hfe] at hrest5
                                      cases hr3 : compF g1 ga1 fe (wipeE e1 is1) (ds1.drop (j + 1)) with
                                      | none => simp only [hr3] at hrest5; cases hrest5
                                      | some rest2 =>
                                        simp only [hr3] at hrest5
                                        cases hrest5
                                        refine iteT ⟨S0, H0, _, e2, v, E6.grow s6, hfe, fun y2 H7 s7 r7 => ?_⟩
                                        have h7 := s7 _ _ (s6 _ _ (sy _ _ hacc5))
                                        have r7' : Rp K (fun a => Cl S0 H0 A a ∧ a ≠ D) H7 v y2 := r7.wide fun a z => ⟨⟨(cl_sc z).1, fun k => (cl_sc z).2 (.inl k)⟩, fun k => (cl_sc z).2 (.inr k)⟩
                                        have al : acc5.length < sizeLine := by
                                          rw [racc5.length]
                                          have : accD5.length < res.length := by rw [← hres5]; simp
                                          exact Nat.lt_of_lt_of_le this (sz6 hlen)
                                        refine ⟨acc5, h7, al, fun a o h n => ?_, acc5 ++ [y2], accD5 ++ [v], rest2, upd_same, ?_, rfl, by rw [← hres5]; simp⟩
                                        · rw [upd_ne n]
                                          exact s7 _ _ (f6 a o h n)
                                        · exact RpA.updD ((((racc5.grow sy).grow s6).grow s7).append (RpA.cons r7' RpA.nil)) h7
                          · have hdr1 : ds1.drop j = [] := List.drop_eq_nil_of_le (by omega)
                            rw [hdr1] at hrest5
                            cases hrest5
                            refine .inl ⟨wk1.stop j H5 g5 (by omega), fun a o h => ?_, acc5, accD5, r2, hacc5, racc5, rfl, by rw [← hres5]; simp⟩
                            exact f5 a o (s14 a o h) fun z => by rw [z, hD] at h; cases h
                  · rw [if_neg how] at hrest
                    cases hrest
        · have hdr : ds.drop i = [] := List.drop_eq_nil_of_le (by omega)
          rw [hdr] at hrest
          cases hrest
          rw [List.append_nil] at hres
          subst hres
          exact .inl ⟨wk.stop i H2 (gS H2 s2) (by omega), q D acc H2 (s.free hD) (s.trans s2) hacc (racc.wide fun a z => ⟨fun _ => z.1, z.2⟩)⟩
      · cases hf
variable {c c2 : Bool} {f f1 : En → Option (List PyData)} {g g1 : PyData → En → Option En} {ga1 : En → Option Bool} {fe : En → Option PyData} {isT is is1 : List Nat} {st : Stmt} {i : Nat}
theorem cf_lc2 (hsub : ∀ i ∈ isT, i ∈ is) (h : PE X e (tLc2 (tI X.K c f) (tG X.K isT g) tYes (tI X.K true f1) (tG X.K is1 g1) tYes (tE X.K true fe) is is1)) : PE X e (tF X.K c2 (fCmp2 is f g tYes' is1 f1 g1 tYes' fe)) :=
  pe_w h fun _ _ _ q => lc2_run hsub (fun _ _ _ z => yes_run z) (fun _ _ _ z => yes_run z) q
theorem cf_lc2t (hsub : ∀ i ∈ isT, i ∈ is) (h : PE X e (tLc2 (tI X.K c f) (tG X.K isT g) tYes (tI X.K true f1) (tG X.K is1 g1) (tT X.K ga1) (tE X.K true fe) is is1)) : PE X e (tF X.K c2 (fCmp2 is f g tYes' is1 f1 g1 ga1 fe)) :=
  pe_w h fun _ _ _ q => lc2_run hsub (fun _ _ _ z => yes_run z) (fun _ _ _ z => z) q
theorem cs_lc2V (hsub : ∀ i ∈ isT, i ∈ is) (h : PS X st (tAsg (tLc2 (tI X.K c f) (tG X.K isT g) tYes (tI X.K true f1) (tG X.K is1 g1) tYes (tE X.K true fe) is is1) (gName i))) : PS X st (tS X.K (sSet i (eL (fCmp2 is f g tYes' is1 f1 g1 tYes' fe)))) :=
  ps_w h fun D σ H q => ce_l' (c := true) (fun _ _ _ z => lc2_run hsub (fun _ _ _ z => yes_run z) (fun _ _ _ z => yes_run z) z) (set_run q)
theorem cs_lc2Vt (hsub : ∀ i ∈ isT, i ∈ is) (h : PS X st (tAsg (tLc2 (tI X.K c f) (tG X.K isT g) tYes (tI X.K true f1) (tG X.K is1 g1) (tT X.K ga1) (tE X.K true fe) is is1) (gName i))) : PS X st (tS X.K (sSet i (eL (fCmp2 is f g tYes' is1 f1 g1 ga1 fe)))) :=
  ps_w h fun D σ H q => ce_l' (c := true) (fun _ _ _ z => lc2_run hsub (fun _ _ _ z => yes_run z) (fun _ _ _ z => z) z) (set_run q)
end
/-! list(range(..)) -/
section
variable {X : Cx} {K : PySem.W.Frag} {c : Bool} {e : Expr} {f g : En → Option PyData}
def rngOk (i j : Int) : Bool := decide (j < 1000000 ∧ -1000000 < j ∧ i < 1000000 ∧ -1000000 < i)
def fRng1 (f : En → Option PyData) : En → Option (List PyData) := fun env => match f env with
  | some (.int j) => if rngOk 0 j = true then some (rngD 0 j.toNat) else none
  | _ => none
def fRng2 (f g : En → Option PyData) : En → Option (List PyData) := fun env => match f env with
  | some (.int i) => match g env with
    | some (.int j) => if rngOk i j = true then some (rngD i (j - i).toNat) else none
    | _ => none
  | _ => none
theorem rngOk_rg {i j : Int} (h : rngOk i j = true) : RgOk i j := by
  have := of_decide_eq_true h
  exact ⟨by omega, by omega, by omega, by omega, by omega⟩
theorem rpA_rng (S : Addr → Prop) (H : Hp) (lo : Int) : ∀ ks : List Nat, RpA K S H (ks.map fun k => PyData.int (lo + (k : Nat))) (ks.map fun k => V.int (lo + (k : Nat)))
  | [] => RpA.nil
  | k :: ks => RpA.cons (by rw [Rp]) (rpA_rng S H lo ks)
theorem cf_rng1 (h : PE X e (tLstRg (tRg1 (tE X.K true f)))) : PE X e (tF X.K c (fRng1 f)) := pe_w h fun σ H Q ⟨S0, H0, A, env, d, E, hf, q⟩ => by
  unfold fRng1 at hf
  split at hf
  · rename_i j h1
    split at hf
    · rename_i ok
      cases hf
      refine ⟨S0, H0, A, env, _, E, h1, fun v H1 s1 r1 => ?_⟩
      rw [Rp] at r1
      subst r1
      refine ⟨j, rfl, rngOk_rg ok, fun p hp => q p _ _ (s1.free hp) (s1.trans (same_new hp)) upd_same ?_⟩
      unfold rngD rgV
      rw [Int.sub_zero]
      exact rpA_rng _ _ 0 _
    · cases hf
  · cases hf
theorem cf_rng2 (h : PE X e (tLstRg (tRg2 (tE X.K true f) (tE X.K true g)))) : PE X e (tF X.K c (fRng2 f g)) := pe_w h fun σ H Q ⟨S0, H0, A, env, d, E, hf, q⟩ => by
  unfold fRng2 at hf
  split at hf
  · rename_i i h1
    split at hf
    · rename_i j h2
      split at hf
      · rename_i ok
        cases hf
        refine ⟨S0, H0, A, env, _, E, h1, fun v H1 s1 r1 => ⟨S0, H0, A, env, _, E.grow s1, h2, fun u H2 s2 r2 => ?_⟩⟩
        rw [Rp] at r1 r2
        subst r1
        subst r2
        refine ⟨i, j, rfl, rfl, rngOk_rg ok, fun p hp => q p _ _ ((s1.trans s2).free hp) ((s1.trans s2).trans (same_new hp)) upd_same ?_⟩
        unfold rngD rgV
        exact rpA_rng _ _ i _
      · cases hf
    · cases hf
  · cases hf
end
end Mir

/-! Mir16: sorted(xs), the items any alike data -/
namespace Mir
open PySem PySem.Spec PyProof.Rows L2
section
variable {X : Cx} {K : PySem.W.Frag} {S : Addr → Prop} {H : Hp}
/-- no None and no tuple, or nonempty tuples alone -/
def isTup1 : PyData → Bool
  | .tuple (_ :: _) => true
  | _ => false
def isPlain : PyData → Bool
  | .none => false
  | .tuple _ => false
  | _ => true
def sortB (ds : List PyData) : Bool := ds.all (fun d => noD d && decide (d.depth ≤ 60)) && (ds.all fun d => ds.all fun e => PySem.W.alike d e) && (ds.all isTup1 || ds.all isPlain) && decide (ds.length ≤ 1000000)
def srtD (ds : List PyData) : List PyData := ds.mergeSort (PySem.W.dataLe false id)
def rSortD (K : PySem.W.Frag) : List V → Hp → VK → Prop := fun vs H Q => ∃ (a : Addr) (xs : List V) (S : Addr → Prop) (ds : List PyData), vs = [V.ref a] ∧ SqL K H a xs ∧ RpA K S H ds xs ∧ sortB ds = true ∧
  ∀ ys p, RpA K S H (srtD ds) ys → H p = none → Q (.ref p) (upd H p (.lst ys))
theorem eachZ : ∀ {ds : List PyData} {xs : List V} {us : List Value}, RpA K S H ds xs → Vals xs us → PySem.W.EachIs (fun (v : Value) (b : PyData × V) => RelV b.2 v ∧ Rp K S H b.1 b.2) us (ds.zip xs)
  | [], xs, us, h, r => by
    have e : xs = [] := List.eq_nil_of_length_eq_zero h.length
    subst e
    cases r
    exact .nil
  | d :: ds, [], us, h, r => by
    have := h.length
    simp at this
  | d :: ds, x :: xs, us, h, r => by
    rw [RpA] at h
    obtain ⟨v, r', e, h1, h2⟩ := h
    cases e
    cases r with
    | cons q1 q2 => exact .cons ⟨q1, h1⟩ (eachZ h2 q2)
theorem each_out : ∀ {bs : List (PyData × V)} {us : List Value}, PySem.W.EachIs (fun (v : Value) (b : PyData × V) => RelV b.2 v ∧ Rp K S H b.1 b.2) us bs → Vals (bs.map (·.2)) us ∧ RpA K S H (bs.map (·.1)) (bs.map (·.2))
  | [], _, h => by cases h; exact ⟨.nil, RpA.nil⟩
  | b :: bs, _, h => by
    cases h with
    | cons h1 h2 =>
      obtain ⟨k1, k2⟩ := each_out h2
      exact ⟨.cons h1.1 k1, RpA.cons h1.2 k2⟩
theorem cr_sortD (hu : X.A.units + 65 < cLine) : CallR X (.builtin "sorted") (rSortD X.K) := by
  intro pins s σ H vs us Q I r h
  obtain ⟨a, xs, S, ds, rfl, hs, ra, hb, q⟩ := h
  obtain ⟨its, rv, hl, hz⟩ := I.list hs
  obtain ⟨u, rfl, ru⟩ := vals1 r
  obtain rfl : u = Value.ref a := ru
  unfold sortB at hb
  simp only [Bool.and_eq_true, List.all_eq_true, Bool.or_eq_true] at hb
  obtain ⟨⟨⟨b1, b2⟩, b3⟩, b4⟩ := hb
  have hlen : xs.length = ds.length := ra.length
  have ez := eachZ ra rv
  have hfst : (ds.zip xs).map Prod.fst = ds := by rw [List.map_fst_zip]; omega
  have hmem : ∀ b ∈ ds.zip xs, b.1 ∈ ds := fun b hb => (List.of_mem_zip (a := b.1) (b := b.2) hb).1
  have er : PySem.W.EachIs (fun (v : Value) (b : PyData × V) => ∃ as, Reads s.heap v b.1 as) its (ds.zip xs) := by
    refine PySem.W.EachIs.of_zip ez.length fun p hp => ?_
    obtain ⟨k1, k2⟩ := ez.zip p hp
    have := b1 _ (hmem _ (List.of_mem_zip (a := p.1) (b := p.2) hp).2)
    exact Rp.reads I k2 this.1 k1
  refine PySem.W.sorted_data (enc := Prod.fst) (bs := ds.zip xs) hl.isList ez er ?_ ?_ ?_ ?_ fun out ho eo => ?_
  · rw [hfst]
    exact fun d hd e he => b2 d hd e he
  · rw [hfst]
    rcases b3 with b3 | b3
    · refine .inl fun d hd => ?_
      have := b3 d hd
      cases d <;> first | cases this | skip
      rename_i l
      cases l with
      | nil => cases this
      | cons x r => exact ⟨x, r, rfl⟩
    · refine .inr fun d hd => ?_
      have := b3 d hd
      exact ⟨(fun z => by rw [z] at this; cases this), (fun l z => by rw [z] at this; cases this)⟩
  · have : (ds.zip xs).length ≤ 1000000 := by
      have := of_decide_eq_true b4
      rw [List.length_zip]; omega
    exact Nat.le_trans this (by rw [sizeLine_eq]; omega)
  · intro b hb
    have := of_decide_eq_true (b1 _ (hmem b hb)).2
    omega
  · obtain ⟨o1, o2⟩ := each_out eo
    obtain ⟨e, he⟩ := sortedAll_at s.heap its out.toArray
    have hm : ((ds.zip xs).mergeSort (PySem.W.dataLe false Prod.fst)).map (·.1) = srtD ds := by
      unfold srtD
      have := List.map_mergeSort (r := PySem.W.dataLe false (Prod.fst : PyData × V → PyData)) (s := PySem.W.dataLe false id) (f := (Prod.fst : PyData × V → PyData)) (l := ds.zip xs) (fun a _ b _ => rfl)
      rw [hfst] at this
      exact this
    rw [hm] at o2
    have hsz : s.heap.objs.size ≤ s.heap.objs.size + 1 := Nat.le_succ _
    refine ⟨.ref (s.heap.objs.size + 1), upd H (s.heap.objs.size + 1) (.lst (((ds.zip xs).mergeSort (PySem.W.dataLe false Prod.fst)).map (·.2))), I.laid (t' := s.toks) (fun b o q => sortedAll_old q) hsz ⟨?_, out, e, o1, he⟩, rfl, q _ _ o2 (I.hok.fresh hsz)⟩
    rw [List.length_map, List.length_mergeSort, List.length_zip]
    rw [hlen]
    have := of_decide_eq_true b4
    rw [sizeLine_eq]
    omega
def fSort (f : En → Option PyData) : En → Option (List PyData) := fun env => match f env with
  | some (.list ds) => if sortB ds = true then some (srtD ds) else none
  | _ => none
theorem cf_sort {c : Bool} {e : Expr} {f : En → Option PyData} (h : PE X e (tCB (rSortD X.K) (tCons (tE X.K true f) tNil))) : PE X e (tF X.K c (fSort f)) := pe_w h fun σ H Q ⟨S0, H0, A, env, d, E, hf, q⟩ => by
  unfold fSort at hf
  split at hf
  · rename_i ds h1
    split at hf
    · rename_i ok
      cases hf
      refine ⟨S0, H0, A, env, _, E, h1, fun v H1 s1 r1 => ?_⟩
      rw [Rp] at r1
      obtain ⟨a, xs, rfl, hs, ra⟩ := r1
      refine ⟨a, xs, _, ds, rfl, hs.sq, ra, ok, fun ys p ry hp => q p _ _ (s1.free hp) (s1.trans (same_new hp)) upd_same ?_⟩
      exact (ry.wide fun _ z => sc_cl (cl_sc z)).apart hp (same_new hp)
    · cases hf
  · cases hf
end
/-! T[i], T a tuple of texts of the module -/
section
variable {X : Cx} {c : Bool} {a b : Expr} {g : En → Option PyData}
def eIxT (xs : List Str) (g : En → Option PyData) : En → Option PyData := fun env => match g env with
  | some (.int k) => atI (xs.map PyData.str) k
  | _ => none
theorem atI_strs {xs : List Str} {k : Int} {d : PyData} (h : atI (xs.map PyData.str) k = some d) : ∃ x, d = .str x ∧ atI (xs.map V.str) k = some (V.str x) := by
  unfold atI at h ⊢
  rw [List.length_map] at h ⊢
  cases e : ixN xs.length k with
  | none => rw [e] at h; cases h
  | some j =>
    rw [e] at h
    show ∃ x, d = .str x ∧ (xs.map V.str)[j]? = some (V.str x)
    have h : (xs.map PyData.str)[j]? = some d := h
    rw [List.getElem?_map] at h ⊢
    cases e2 : xs[j]? with
    | none => rw [e2] at h; cases h
    | some x =>
      rw [e2] at h
      cases h
      exact ⟨x, rfl, rfl⟩
theorem ce_ixT {z : Addr} {xs : List Str} (hz : KTup X.K z xs) (ha : PE X a (tC (.ref z))) (hb : PE X b (tE X.K c g)) (hs : PlainIx b) : PE X (.Subscript a b pos) (tE X.K true (eIxT xs g)) := pe_w (pe_ix ix_seq ha hb hs) fun σ H Q ⟨S0, H0, A, env, d, E, hf, q⟩ => by
  unfold eIxT at hf
  split at hf
  · rename_i k hk
    obtain ⟨x, rfl, hx⟩ := atI_strs hf
    refine ⟨S0, H0, A, env, _, E, hk, fun u H1 s1 r1 => ?_⟩
    rw [Rp] at r1
    subst r1
    exact .inr (.inl ⟨z, xs.map V.str, k, .str x, rfl, rfl, hz.sq, hx, q _ H1 s1 (by rw [Rp])⟩)
  · cases hf
end
end Mir

/-! Mir17: min(xs), the items any alike data -/
namespace Mir
open PySem PySem.Spec PyProof.Rows L2
section
variable {X : Cx} {K : PySem.W.Frag} {S : Addr → Prop} {H : Hp}
def minB (ds : List PyData) : Bool := ds.all (fun d => noD d && decide (d.depth ≤ 60) && (match d with | .none => false | _ => true)) && ds.all fun d => ds.all fun e => PySem.W.alike d e
def minL : List PyData → PyData
  | [] => .none
  | d :: ds => PySem.W.minD d ds
def rMinD (K : PySem.W.Frag) : List V → Hp → VK → Prop := fun vs H Q => ∃ (a : Addr) (xs : List V) (S : Addr → Prop) (d : PyData) (ds : List PyData), vs = [V.ref a] ∧ SqL K H a xs ∧ RpA K S H (d :: ds) xs ∧ minB (d :: ds) = true ∧
  ∀ v, Rp K S H (PySem.W.minD d ds) v → Q v H
theorem noDA_of : ∀ {ds : List PyData}, (∀ d ∈ ds, noD d = true) → noDA ds = true
  | [], _ => by rw [noDA]
  | d :: ds, h => by rw [noDA, h d List.mem_cons_self, noDA_of fun e he => h e (List.mem_cons_of_mem _ he)]; rfl
theorem depthAll_of : ∀ {ds : List PyData} {n : Nat}, (∀ d ∈ ds, d.depth ≤ n) → PyData.depthAll ds ≤ n
  | [], _, _ => by simp [PyData.depthAll]
  | d :: ds, n, h => by
    have h1 := h d List.mem_cons_self
    have h2 := depthAll_of (n := n) fun e he => h e (List.mem_cons_of_mem _ he)
    simp only [PyData.depthAll]
    omega
theorem cr_minD (hc : X.calm = true) (hu : X.A.units + 65 < cLine) : CallR X (.builtin "min") (rMinD X.K) := by
  intro pins s σ H vs us Q I r h
  obtain ⟨a, xs, S, d, ds, rfl, hs, ra, hb, q⟩ := h
  obtain ⟨its, rv, hl, _⟩ := I.list hs
  rw [Vals.ref1 r]
  unfold minB at hb
  simp only [Bool.and_eq_true, List.all_eq_true, decide_eq_true_eq] at hb
  obtain ⟨b1, b2⟩ := hb
  obtain ⟨as, rd⟩ := Dp.readsAll I (d :: ds) xs its (RpA.dp0 _ _ (noDA_of fun e he => (b1 e he).1.1) ra) rv
  refine PySem.W.min_list_data (I.ok.hd hc) hl.isList rd ⟨fun x hx y hy => b2 x hx y hy, fun x hx e => ?_⟩ ?_ fun i v h' tk bs hi rr k => ?_
  · have := (b1 x hx).2
    rw [e] at this
    cases this
  · have := depthAll_of (ds := d :: ds) (n := 60) fun e he => (b1 e he).1.2
    omega
  · have hi' : its[i]? = some v := by simpa using hi
    obtain ⟨xl, _⟩ := List.getElem?_eq_some_iff.mp hi'
    have hlen : xs.length = its.length := rv.length
    have hx : xs[i]? = some xs[i] := List.getElem?_eq_getElem (by omega)
    obtain ⟨u, e1, r1⟩ := rv.get hx
    rw [hi'] at e1; cases e1
    have hd : (d :: ds)[i]? = some ((d :: ds)[i]'(by rw [← ra.length]; omega)) := List.getElem?_eq_getElem _
    obtain ⟨y, e2, r2⟩ := ra.get hd
    rw [hx] at e2; cases e2
    obtain ⟨bs2, rd2⟩ := Rp.reads I r2 (b1 _ (List.getElem_mem _)).1.1 r1
    have e := (PySem.Reads.unique (PySem.W.reads_keeps k rd2) _ _ rr).1
    rw [e] at r2
    exact ⟨_, H, I.kept (t' := tk) k, r1, q _ r2⟩
end
section
variable {X : Cx} {c : Bool} {e : Expr} {f : En → Option PyData}
def eMinD (f : En → Option PyData) : En → Option PyData := fun env => match f env with
  | some (.list (d :: ds)) => if minB (d :: ds) = true then some (PySem.W.minD d ds) else none
  | _ => none
theorem ce_minD (h : PE X e (tCB (rMinD X.K) (tCons (tE X.K c f) tNil))) : PE X e (tE X.K c (eMinD f)) := pe_w h fun σ H Q ⟨S0, H0, A, env, d, E, hf, q⟩ => by
  unfold eMinD at hf
  split at hf
  · rename_i d1 ds h1
    split at hf
    · rename_i ok
      cases hf
      refine ⟨S0, H0, A, env, _, E, h1, fun v H1 s1 r1 => ?_⟩
      rw [Rp] at r1
      obtain ⟨a, xs, rfl, hs, ra⟩ := r1
      exact ⟨a, xs, _, d1, ds, rfl, hs.sq, ra, ok, fun v r => q v H1 s1 r⟩
    · cases hf
  · cases hf
theorem minD_mem (d : PyData) : ∀ ds : List PyData, PySem.W.minD d ds ∈ d :: ds := by
  intro ds
  unfold PySem.W.minD
  induction ds generalizing d with
  | nil => exact List.mem_cons_self
  | cons x xs ih =>
    rw [List.foldl_cons]
    rcases List.mem_cons.mp (ih (if PySem.W.dataLt x d then x else d)) with h | h
    · rw [h]
      split
      · exact List.mem_cons_of_mem _ List.mem_cons_self
      · exact List.mem_cons_self
    · exact List.mem_cons_of_mem _ (List.mem_cons_of_mem _ h)
/-- the least: where one item is below all others, it is the minimum -/
theorem minD_is {m d : PyData} {ds : List PyData} (hm : m ∈ d :: ds) (h : ∀ x ∈ d :: ds, x = m ∨ (PySem.W.dataLt m x = true ∧ PySem.W.dataLt x m = false)) : PySem.W.minD d ds = m := by
  unfold PySem.W.minD
  induction ds generalizing d with
  | nil => exact (List.mem_singleton.mp hm).symm
  | cons x xs ih =>
    rw [List.foldl_cons]
    have hd := h d List.mem_cons_self
    have hx := h x (List.mem_cons_of_mem _ List.mem_cons_self)
    refine ih ?_ fun y hy => ?_
    · rcases List.mem_cons.mp hm with e | hm
      · subst e
        rcases hx with e | hx
        · subst e
          split <;> exact List.mem_cons_self
        · rw [hx.2]
          exact List.mem_cons_self
      · rcases List.mem_cons.mp hm with e | hm
        · subst e
          rcases hd with e | hd
          · subst e
            split <;> exact List.mem_cons_self
          · rw [hd.1]
            exact List.mem_cons_self
        · exact List.mem_cons_of_mem _ hm
    · rcases List.mem_cons.mp hy with e | hy
      · rw [e]
        split
        · exact hx
        · exact hd
      · exact h y (List.mem_cons_of_mem _ (List.mem_cons_of_mem _ hy))
end
end Mir

/-! Mir18: a list of owned lists (a matrix): made by two comprehensions, x[i][j] read, x[i][j] = v -/
namespace Mir
open PySem PySem.Spec PyProof.Rows L2
section
variable {X : Cx} {K : PySem.W.Frag} {S0 S : Addr → Prop} {H0 H H1 H' : Hp} {A : Addr → Prop} {σ : L2.St} {env : En} {e a b n : Expr} {pos pos' : Pos} {c c1 : Bool} {f g : En → Option PyData}
/-! ### reading -/
def eIx2 (i : Nat) (f g : En → Option PyData) : En → Option PyData := fun env => match env[i]? with
  | some (.mat rows) => match f env with
    | some (.int x) => match atI rows x with
      | some r => match g env with
        | some (.int y) => atI r y
        | _ => none
      | none => none
    | _ => none
  | _ => none
theorem MatAt.grow {a : Addr} {bs : List Addr} {rows : List (List PyData)} (m : MatAt K (Cl S0 H0 A) A H a bs rows) (s : Same H H') : MatAt K (Cl S0 H0 A) A H' a bs rows :=
  m.mono (fun _ _ z r => ⟨z, same_rd s r⟩) (fun _ _ q => same_t s q) (same_d s) fun x u _ hx hu _ => ⟨hx, s _ _ hu⟩
theorem MatAt.rowAt {a : Addr} {bs : List Addr} {rows : List (List PyData)} {x : Int} {r : List PyData} (m : MatAt K S A H a bs rows) (h : atI rows x = some r) : ∃ b ys, atI (bs.map V.ref) x = some (.ref b) ∧ H b = some (.lst ys) ∧ RpA K S H r ys := by
  unfold atI at h ⊢
  rw [List.length_map, m.len]
  cases hj : ixN rows.length x with
  | none => rw [hj] at h; cases h
  | some j =>
    rw [hj] at h
    obtain ⟨b, ys, e, h2, h3⟩ := m.row j r h
    exact ⟨b, ys, by show (bs.map V.ref)[j]? = _; rw [List.getElem?_map, e]; rfl, h2, h3⟩
theorem ce_ix2 {i : Nat} (hn : PE X n (tVar i)) (ha : PE X a (tE X.K c f)) (hb : PE X b (tE X.K c1 g)) (hs : PlainIx a) (hs2 : PlainIx b) : PE X (.Subscript (.Subscript n a pos) b pos') (tE X.K true (eIx2 i f g)) := pe_w (pe_ix ix_seq (pe_ix ix_seq hn ha hs) hb hs2) fun σ H Q ⟨S0, H0, A, env, d, E, hf, q⟩ => by
  unfold eIx2 at hf
  split at hf
  · rename_i rows hi
    split at hf
    · rename_i x hx
      split at hf
      · rename_i r hr
        split at hf
        · rename_i y hy
          rcases E.sl i _ hi with z | ⟨v, h1, l, bs, rfl, m⟩
          · cases z
          refine ⟨_, h1, S0, H0, A, env, _, E, hx, fun u H1 s1 r1 => ?_⟩
          rw [Rp] at r1
          subst r1
          obtain ⟨b, ys, e1, e2, e3⟩ := (m.grow s1).rowAt hr
          refine .inl ⟨l, _, x, .ref b, rfl, rfl, .inl (.inl (m.grow s1).at_), e1, ?_⟩
          refine ⟨S0, H0, A, env, _, E.grow s1, hy, fun u2 H2 s2 r2 => ?_⟩
          rw [Rp] at r2
          subst r2
          obtain ⟨w, w1, w2⟩ := atI_rp (e3.grow s2) hf
          exact .inl ⟨b, ys, y, w, rfl, rfl, .inl (.inl (s2 _ _ e2)), w1, q w H2 (s1.trans s2) (Rp.wide (fun _ z _ => z) w2)⟩
        · cases hf
      · cases hf
    · cases hf
  · cases hf
theorem nd_get {l : List Addr} {i j : Nat} {x : Addr} (h : l.Nodup) (h1 : l[i]? = some x) (h2 : l[j]? = some x) : i = j := by
  obtain ⟨l1, e1⟩ := List.getElem?_eq_some_iff.mp h1
  obtain ⟨l2, e2⟩ := List.getElem?_eq_some_iff.mp h2
  have p := List.pairwise_iff_getElem.mp h
  by_cases c1 : i < j
  · exact absurd (by rw [e1, e2]) (p i j l1 l2 c1)
  · by_cases c2 : j < i
    · exact absurd (by rw [e1, e2]) (p j i l2 l1 c2)
    · omega
/-! ### a store -/
theorem EnvOk.matPut (E : EnvOk K S0 H0 A H σ env) {i j l : Nat} {rows : List (List PyData)} {r : List PyData} {d : PyData} {v : V} {x b : Addr} {bs : List Addr} {ys : List V} (hi : env[i]? = some (.mat rows)) (hv : σ[i]? = some (some (.ref x))) (m : MatAt K (Cl S0 H0 A) A H x bs rows) (hb : bs[j]? = some b) (hr : rows[j]? = some r) (hy : H b = some (.lst ys)) (ry : RpA K (Cl S0 H0 A) H r ys) (rd : Rp K (Cl S0 H0 A) H d v) :
    EnvOk K S0 H0 A (upd H b (.lst (ys.set l v))) σ (env.set i (.mat (rows.set j (r.set l d)))) := by
  have hbm : b ∈ bs := List.mem_of_getElem? hb
  have ha : A b := m.own b hbm
  have nxb : x ≠ b := fun e => m.na (e ▸ hbm)
  obtain ⟨hL, hT, hD⟩ := E.upd_mono (u1 := .lst (ys.set l v)) ha
  have hl : i < env.length := (List.getElem?_eq_some_iff.mp hi).1
  have jl : j < rows.length := (List.getElem?_eq_some_iff.mp hr).1
  have oth : ∀ (k : Nat) (t : Sl) (c : Addr), i ≠ k → env[k]? = some t → ow t = true → σ[k]? = some (some (.ref c)) → c ∉ bs ∧ ∀ (rows' : List (List PyData)) (bs' : List Addr), t = .mat rows' → H c = some (.lst (bs'.map .ref)) → ∀ b ∈ bs, b ∉ bs' := fun k t c n h1 o h2 => E.dm i k rows t x c bs n hi h1 o hv h2 m.at_
  have back : ∀ (k : Nat) (t : Sl), (env.set i (.mat (rows.set j (r.set l d))))[k]? = some t → ow t = true → ∃ t', env[k]? = some t' ∧ ow t' = true ∧ (k ≠ i → t' = t) ∧ (∀ rows', t = .mat rows' → ∃ rows'', t' = .mat rows'') := fun k t q o => by
    rcases set_get q with ⟨rfl, _, z⟩ | ⟨n, q⟩
    · exact ⟨_, hi, rfl, fun n => absurd rfl n, fun _ _ => ⟨_, rfl⟩⟩
    · exact ⟨t, q, o, fun _ => rfl, fun rows' e => ⟨rows', e⟩⟩
  have keep : ∀ (k : Nat) (rows' : List (List PyData)) (c : Addr) (u : HO), env[k]? = some (.mat rows') → σ[k]? = some (some (.ref c)) → H c = some u → upd H b (.lst (ys.set l v)) c = some u := fun k rows' c u h1 h2 h3 => by
    have ne : c ≠ b := fun e => by
      subst e
      by_cases n : i = k
      · subst n
        rw [hv] at h2
        cases h2
        exact nxb rfl
      · exact (oth k _ _ n h1 rfl h2).1 hbm
    rw [upd_ne ne]
    exact h3
  refine ⟨by simp [E.len], fun k s q => ?_, fun k k2 s t y q1 q2 p1 p2 q3 q4 => ?_, fun k k2 rows' t y c bs' n q1 q2 o q3 q4 q5 => ?_, fun y hy2 => ?_, E.nw, fun y o q => ?_⟩
  · rcases set_get q with ⟨rfl, _, rfl⟩ | ⟨n, q⟩
    · refine .inr ⟨_, hv, x, bs, rfl, ⟨m.top, by rw [upd_ne nxb]; exact m.at_, m.nd, m.na, by rw [List.length_set]; exact m.len, m.own, fun k2 r2 h2 => ?_⟩⟩
      by_cases e : k2 = j
      · subst e
        rw [List.getElem?_set_self jl] at h2
        cases h2
        exact ⟨b, _, hb, upd_same, RpA.mono hL hT hD _ _ (ry.set rd)⟩
      · rw [List.getElem?_set_ne (Ne.symm e)] at h2
        obtain ⟨b2, ys2, g1, g2, g3⟩ := m.row k2 r2 h2
        have nb : b2 ≠ b := fun z => by
          subst z
          exact e (nd_get m.nd g1 hb)
        exact ⟨b2, ys2, g1, by rw [upd_ne nb]; exact g2, RpA.mono hL hT hD _ _ g3⟩
    · refine (E.sl k s q).imp id fun ⟨w, h1, h2⟩ => ⟨w, h1, ?_⟩
      refine SlOk.at (p := b) hL hT hD (fun y u hy2 hu _ hn => ⟨hy2, by rw [upd_ne hn]; exact hu⟩) (fun os e2 => ?_) (fun rows' y bs' e1 e2 e3 => ?_) h2
      · subst e2
        exact (oth k s b n q os h1).1 hbm
      · subst e1
        subst e2
        exact (oth k _ y n q rfl h1).2 rows' bs' rfl e3 b hbm
  · obtain ⟨s', r1, z1, _⟩ := back k s q1 p1
    obtain ⟨t', r2, z2, _⟩ := back k2 t q2 p2
    exact E.dis k k2 s' t' y r1 r2 z1 z2 q3 q4
  · obtain ⟨s', r1, z1, _, w1⟩ := back k _ q1 rfl
    obtain ⟨t', r2, z2, g2, w2⟩ := back k2 t q2 o
    obtain ⟨rows1, rfl⟩ := w1 _ rfl
    have := E.dm2 n r1 r2 z2 q3 q4 q5 (fun u h => keep k rows1 y u r1 q3 h) fun rows2 u e h => keep k2 rows2 c u (by rw [r2, e]) q4 h
    refine ⟨this.1, fun rows2 bs2 e h => ?_⟩
    obtain ⟨rows3, e3⟩ := w2 rows2 e
    exact this.2 rows3 bs2 e3 h
  · by_cases e : y = b
    · subst e
      exact ⟨_, upd_same, rfl⟩
    · obtain ⟨u, h1, h2⟩ := E.tr y hy2
      exact ⟨u, by rw [upd_ne e]; exact h1, h2⟩
  · have ne : y ≠ b := fun e => by
      subst e
      have z := E.nw y ha
      rw [q] at z; cases z
    rw [upd_ne ne]
    exact E.same y o q
def sPut2 (i : Nat) (fx fy f : En → Option PyData) : En → Out := fun env => match f env with
  | some d => match env[i]? with
    | some (.mat rows) => match fx env with
      | some (.int x) => match ixN rows.length x with
        | some j => match rows[j]? with
          | some r => match fy env with
            | some (.int y) => match ixN r.length y with
              | some l => .nx (env.set i (.mat (rows.set j (r.set l d))))
              | none => .bad
            | _ => .bad
          | none => .bad
        | none => .bad
      | _ => .bad
    | _ => .bad
  | none => .bad
theorem put2_run {i : Nat} {fx fy : En → Option PyData} {D : Ends} (h : tS K (sPut2 i fx fy f) D σ H) : tAsg (tE K true f) (gSub (tOp (rIx K) (tVar i) (tE K c fx)) (tE K c1 fy) rSetL) D σ H := by
  obtain ⟨S0, H0, A, env, E, o⟩ := h
  unfold sPut2 at o
  cases hd : f env with
  | none => rw [hd] at o; exact o.elim
  | some d =>
    simp only [hd] at o
    refine ⟨S0, H0, A, env, d, E, hd, fun v H1 s1 r1 => ?_⟩
    split at o
    · rename_i rows hi
      split at o
      · rename_i x hx
        split at o
        · rename_i j hj
          split at o
          · rename_i r hr
            split at o
            · rename_i y hy
              split at o
              · rename_i l hl
                rcases E.sl i _ hi with z | ⟨_, h1, p, bs, rfl, m⟩
                · cases z
                refine ⟨_, h1, S0, H0, A, env, _, E.grow s1, hx, fun u H2 s2 r2 => ?_⟩
                rw [Rp] at r2
                subst r2
                have s12 := s1.trans s2
                obtain ⟨b, ys, e1, e2, e3⟩ := (m.grow s12).row j r hr
                refine .inl ⟨p, _, x, .ref b, rfl, rfl, .inl (.inl (m.grow s12).at_), ?_, ?_⟩
                · unfold atI
                  rw [List.length_map, m.len, hj]
                  show (bs.map V.ref)[j]? = _
                  rw [List.getElem?_map, e1]
                  rfl
                · refine ⟨S0, H0, A, env, _, E.grow s12, hy, fun u2 H3 s3 r3 => ?_⟩
                  rw [Rp] at r3
                  subst r3
                  have s123 := s12.trans s3
                  refine ⟨b, ys, y, l, rfl, rfl, s3 _ _ e2, by rw [e3.length]; exact hl, ?_⟩
                  have rv := ((r1.wide fun _ z => cl_sc z).grow s2).grow s3
                  refine o A _ σ ((E.grow s123).matPut hi h1 (m.grow s123) e1 hr (s3 _ _ e2) (e3.grow s3) rv) (fun w u e n => ?_) Sb.refl
                  have nb : w ≠ b := fun z => n (z ▸ m.own b (List.mem_of_getElem? e1))
                  rw [upd_ne nb]
                  exact s123 _ _ e
              · exact o.elim
            · exact o.elim
          · exact o.elim
        · exact o.elim
      · exact o.elim
    · exact o.elim
theorem cs_put2 {st : Stmt} {i : Nat} {fx fy : En → Option PyData} (h : PS X st (tAsg (tE X.K true f) (gSub (tOp (rIx X.K) (tVar i) (tE X.K c fx)) (tE X.K c1 fy) rSetL))) : PS X st (tS X.K (sPut2 i fx fy f)) := ps_w h fun _ _ _ q => put2_run q
/-! ### made -/
theorem Rp.flat {d : PyData} {v : V} (h : flatD d = true) (r : Rp K S H d v) : ∀ (S' : Addr → Prop) (H' : Hp), Rp K S' H' d v := fun S' H' => by
  cases d <;> first | (cases h; done) | (rw [Rp] at r ⊢; exact r)
theorem RpA.flat : ∀ {ds : List PyData} {vs : List V}, ds.all flatD = true → RpA K S H ds vs → ∀ (S' : Addr → Prop) (H' : Hp), RpA K S' H' ds vs
  | [], vs, _, r, S', H' => by rw [RpA] at r ⊢; exact r
  | d :: ds, vs, h, r, S', H' => by
    rw [List.all_cons, Bool.and_eq_true] at h
    rw [RpA] at r ⊢
    obtain ⟨v, w, e, r1, r2⟩ := r
    exact ⟨v, w, e, Rp.flat h.1 r1 S' H', RpA.flat h.2 r2 S' H'⟩
def compM (g : PyData → En → Option En) (fr : En → Option (List PyData)) (env : En) : List PyData → Option (List (List PyData))
  | [] => some []
  | d :: ds => match g d env with
    | none => none
    | some e1 => match fr e1 with
      | none => none
      | some r => match compM g fr env ds with
        | none => none
        | some rs => some (r :: rs)
def sMat (i : Nat) (is : List Nat) (f : En → Option (List PyData)) (g : PyData → En → Option En) (fr : En → Option (List PyData)) : En → Out := fun env => match f env with
  | none => .bad
  | some ds => match compM g fr (wipeE env is) ds with
    | none => .bad
    | some rows => if rows.length ≤ 1000000 ∧ rows.all (fun r => r.all flatD) = true then .nx (env.set i (.mat rows)) else .bad
/-- fresh things are kept by the slot i alone: a matrix -/
theorem EnvOk.set_mat (E : EnvOk K S0 H0 A H σ env) {i : Nat} {rows : List (List PyData)} {p : Addr} {bs : List Addr} (hs : Same H H') (hn : H p = none) (hb : ∀ b ∈ bs, H b = none) (hp : H' p = some (.lst (bs.map .ref))) (nd : bs.Nodup) (na : p ∉ bs) (ln : bs.length = rows.length)
    (hr : ∀ (k : Nat) (r : List PyData), rows[k]? = some r → ∃ b ys, bs[k]? = some b ∧ H' b = some (.lst ys) ∧ ∀ (S' : Addr → Prop) (H'' : Hp), RpA K S' H'' r ys) :
    EnvOk K S0 H0 (fun a => A a ∨ a = p ∨ a ∈ bs) H' (σ.set i (some (.ref p))) (env.set i (.mat rows)) := by
  have M : MatAt K (Cl S0 H0 (fun a => A a ∨ a = p ∨ a ∈ bs)) (fun a => A a ∨ a = p ∨ a ∈ bs) H' p bs rows := ⟨.inr (.inl rfl), hp, nd, na, ln, fun b h => .inr (.inr h), fun k r h => by
    obtain ⟨b, ys, h1, h2, h3⟩ := hr k r h
    exact ⟨b, ys, h1, h2, h3 _ _⟩⟩
  have fresh : ∀ a, (a = p ∨ a ∈ bs) → H a = none := fun a h => h.elim (fun e => by rw [e]; exact hn) (hb a)
  have no : ∀ (m : Nat) (t : Sl), env[m]? = some t → ow t = true → ∀ a, (a = p ∨ a ∈ bs) → σ[m]? ≠ some (some (.ref a)) := fun m t g1 og a ha g2 => by
    rcases E.sl m _ g1 with z | ⟨v, z1, z2⟩
    · subst z; cases og
    · rw [g2] at z1
      cases z1
      obtain ⟨x, u, e, hx, hu, _⟩ := z2.ref og
      cases e
      rw [fresh a ha] at hu; cases hu
  refine ⟨by simp [E.len], fun j s q => ?_, fun j k s t a q1 q2 o1 o2 q3 q4 => ?_, fun j k rows' t a c bs' n q1 q2 o q3 q4 q5 => ?_, fun a h => ?_, fun a h => ?_, E.same.trans hs⟩
  · rcases set_get q with ⟨rfl, l, rfl⟩ | ⟨n, q⟩
    · exact .inr ⟨_, set_self (by rw [E.len]; exact l), p, bs, rfl, M⟩
    · rw [set_other n]
      refine (E.sl j s q).imp id fun ⟨v, h1, h2⟩ => ⟨v, h1, ?_⟩
      refine SlOk.mono (fun a ys z r => ⟨⟨z.1, fun y => y.elim z.2 fun y => ?_⟩, same_rd hs r⟩) (fun _ _ z => same_t hs z) (same_d hs) (fun a u ha hu _ => ⟨.inl ha, hs _ _ hu⟩) h2
      have := fresh a y
      rcases r with r | ⟨o, r⟩ <;> (rw [this] at r; cases r)
  · rcases set_get q1 with ⟨rfl, l1, z⟩ | ⟨n1, q1⟩
    · rcases set_get q2 with ⟨e2, l2, z2⟩ | ⟨n2, q2⟩
      · exact e2
      · rw [set_self (by rw [E.len]; exact l1)] at q3
        cases q3
        rw [set_other n2] at q4
        exact absurd q4 (no k _ q2 o2 _ (.inl rfl))
    · rw [set_other n1] at q3
      rcases set_get q2 with ⟨rfl, l2, z2⟩ | ⟨n2, q2⟩
      · rw [set_self (by rw [E.len]; exact l2)] at q4
        cases q4
        exact absurd q3 (no j _ q1 o1 _ (.inl rfl))
      · rw [set_other n2] at q4
        exact E.dis j k s t a q1 q2 o1 o2 q3 q4
  · rcases set_get q1 with ⟨rfl, l1, z⟩ | ⟨n1, q1⟩
    · rw [set_self (by rw [E.len]; exact l1)] at q3
      cases q3
      rw [hp] at q5
      have e2 : bs' = bs := ref_inj (by injection q5 with q5; injection q5 with q5; exact q5.symm)
      subst e2
      rcases set_get q2 with ⟨e2, _, _⟩ | ⟨n2, q2⟩
      · exact absurd e2 n
      · rw [set_other n2] at q4
        refine ⟨fun hc => no k t q2 o c (.inr hc) q4, fun rows2 bs2 e h b hbm hb2 => ?_⟩
        subst e
        obtain ⟨bs3, m3⟩ := E.matOf q2 q4
        have e1 := hs _ _ m3.at_
        rw [h] at e1
        have e3 : bs2 = bs3 := ref_inj (by injection e1 with e1; injection e1)
        subst e3
        obtain ⟨ys, hy⟩ := m3.rowOf hb2
        rw [hb b hbm] at hy; cases hy
    · rw [set_other n1] at q3
      rcases set_get q2 with ⟨rfl, l2, z2⟩ | ⟨n2, q2⟩
      · rw [set_self (by rw [E.len]; exact l2)] at q4
        cases q4
        obtain ⟨bs0, m⟩ := E.matOf q1 q3
        have e1 := hs _ _ m.at_
        rw [q5] at e1
        have e2 : bs' = bs0 := ref_inj (by injection e1 with e1; injection e1)
        subst e2
        refine ⟨fun hc => ?_, fun rows2 bs2 e h b hbm hb2 => ?_⟩
        · obtain ⟨ys, hy⟩ := m.rowOf hc
          rw [hn] at hy; cases hy
        · rw [hp] at h
          have e3 : bs2 = bs := ref_inj (by injection h with h; injection h with h; exact h.symm)
          subst e3
          obtain ⟨ys, hy⟩ := m.rowOf hbm
          rw [hb b hb2] at hy; cases hy
      · rw [set_other n2] at q4
        exact E.dm2 n q1 q2 o q3 q4 q5 (fun _ q => hs _ _ q) fun _ _ _ q => hs _ _ q
  · rcases h with h | h | h
    · obtain ⟨u, q, m⟩ := E.tr a h
      exact ⟨u, hs _ _ q, m⟩
    · exact ⟨_, by rw [h]; exact hp, rfl⟩
    · obtain ⟨ys, hy⟩ := M.rowOf h
      exact ⟨_, hy, rfl⟩
  · rcases h with h | h
    · exact E.nw a h
    · exact E.same.free (fresh a h)
theorem mat_run {i : Nat} {is : List Nat} {fs : En → Option (List PyData)} {gt : PyData → En → Option En} {fr : En → Option (List PyData)} {D0 : Ends} (h : tS K (sMat i is fs gt fr) D0 σ H) : tAsg (tLc (tI K c fs) (tG K is gt) tYes (tF K true fr) is) (gName i) D0 σ H := by
  obtain ⟨S0, H0, A, env, E, o⟩ := h
  unfold sMat at o
  cases hd : fs env with
  | none => rw [hd] at o; exact o.elim
  | some ds =>
    simp only [hd] at o
    cases hc : compM gt fr (wipeE env is) ds with
    | none => simp only [hc] at o; exact o.elim
    | some res =>
      simp only [hc] at o
      split at o
      · rename_i hlen
        refine ⟨S0, H0, A, env, ds, E, hd, fun J H1 G s gS _ wk D hD => ?_⟩
        have E1 := E.grow s
        refine ⟨fun i m H2 => m = ds.length - i ∧ i ≤ ds.length ∧ Same H1 H2 ∧ ∃ (bs : List Addr) (dn rest : List (List PyData)), H2 D = some (.lst (bs.map .ref)) ∧ bs.length = dn.length ∧ bs.Nodup ∧ D ∉ bs ∧ (∀ b ∈ bs, H1 b = none) ∧
            (∀ (k : Nat) (r : List PyData), dn[k]? = some r → ∃ b ys, bs[k]? = some b ∧ H2 b = some (.lst ys) ∧ ∀ (S' : Addr → Prop) (H'' : Hp), RpA K S' H'' r ys) ∧ compM gt fr (wipeE env is) (ds.drop i) = some rest ∧ dn ++ rest = res,
          ⟨_, rfl, Nat.zero_le _, same_new hD, [], [], res, upd_same, rfl, List.nodup_nil, List.not_mem_nil, fun b hb => (nomatch hb), fun k r hk => by simp at hk, hc, rfl⟩, ?_⟩
        rintro i2 m H2 ⟨rfl, hi, s2, bs, dn, rest, hacc, hln, hnd, hna, hfr, hrow, hrest, hres⟩
        by_cases hlt : i2 < ds.length
        · have hdr : ds.drop i2 = ds[i2] :: ds.drop (i2 + 1) := List.drop_eq_getElem_cons hlt
          rw [hdr] at hrest
          refine .inr ⟨wk.go i2 H2 (gS H2 s2) hlt, fun H3 => Same H1 H3 ∧ ∃ (bs : List Addr) (dn rest : List (List PyData)), H3 D = some (.lst (bs.map .ref)) ∧ bs.length = dn.length ∧ bs.Nodup ∧ D ∉ bs ∧ (∀ b ∈ bs, H1 b = none) ∧
            (∀ (k : Nat) (r : List PyData), dn[k]? = some r → ∃ b ys, bs[k]? = some b ∧ H3 b = some (.lst ys) ∧ ∀ (S' : Addr → Prop) (H'' : Hp), RpA K S' H'' r ys) ∧ compM gt fr (wipeE env is) (ds.drop (i2 + 1)) = some rest ∧ dn ++ rest = res, ?_, fun x Hx y => ?_⟩
          · rintro H3 ⟨s3, z⟩
            exact ⟨ds.length - (i2 + 1), by omega, rfl, hlt, s3, z⟩
          · obtain ⟨sx, rx⟩ := wk.yld i2 H2 _ x Hx (gS H2 s2) (List.getElem?_eq_getElem hlt) y
            have E2 : EnvOk K S0 H0 (fun a => A a ∨ a = D) Hx (L2.wipe σ is) (wipeE env is) := (E1.wipe is).add (s2.trans sx) hD (sx _ _ hacc)
            have rx' : Rp K (Cl S0 H0 (fun a => A a ∨ a = D)) Hx ds[i2] x := rx.wide fun a z => ⟨z.1.1, fun y => by
              rcases y with k | k
              · exact z.1.2 k
              · exact z.2 (by rw [k]; exact hD)⟩
            simp only [compM] at hrest
            cases hg : gt ds[i2] (wipeE env is) with
            | none => rw [hg] at hrest; cases hrest
            | some e1 =>
              simp only [hg] at hrest
              refine ⟨S0, H0, _, _, _, e1, E2, rx', hg, fun σ2 E3 w3 => ⟨by rw [w3, wipe_wipe], ?_⟩⟩
              cases hfe : fr e1 with
              | none => simp only [hfe] at hrest; cases hrest
              | some r =>
                simp only [hfe] at hrest
                cases hr2 : compM gt fr (wipeE env is) (ds.drop (i2 + 1)) with
                | none => simp only [hr2] at hrest; cases hrest
                | some rest2 =>
                  simp only [hr2] at hrest
                  cases hrest
                  unfold tYes
                  refine iteT ⟨S0, H0, _, e1, r, E3, hfe, fun p xs H4 hp s4 hpl rr => ?_⟩
                  have h4 := s4 _ _ (sx _ _ hacc)
                  have hrf : r.all flatD = true := by
                    have h2 := hlen.2
                    rw [List.all_eq_true] at h2
                    exact h2 r (by rw [← hres]; simp)
                  have s14 : Same H1 H4 := (s2.trans sx).trans s4
                  have npD : p ≠ D := fun e => by
                    subst e
                    rw [sx _ _ hacc] at hp; cases hp
                  have h1p : H1 p = none := (s2.trans sx).free hp
                  have npb : p ∉ bs := fun hb => by
                    obtain ⟨k, hk⟩ := List.getElem?_of_mem hb
                    have kl : k < dn.length := by rw [← hln]; exact (List.getElem?_eq_some_iff.mp hk).1
                    obtain ⟨b, ys, e1, e2, _⟩ := hrow k _ (List.getElem?_eq_getElem kl)
                    rw [hk] at e1
                    cases e1
                    rw [sx _ _ e2] at hp; cases hp
                  have al : (bs.map V.ref).length < sizeLine := by
                    rw [List.length_map, hln]
                    have : dn.length < res.length := by rw [← hres]; simp
                    exact Nat.lt_of_lt_of_le this (sz6 hlen.1)
                  refine ⟨_, h4, al, fun b u e => ?_, bs ++ [p], dn ++ [r], rest2, by rw [List.map_append]; exact upd_same, by simp [hln], ?_, ?_, ?_, ?_, rfl, by rw [← hres]; simp⟩
                  · rw [upd_ne (ne_of_none e hD)]
                    exact s14 _ _ e
                  · rw [List.nodup_append]
                    exact ⟨hnd, by simp, fun a ha b hb => by
                      rw [List.mem_singleton.mp hb]
                      exact fun e => npb (e ▸ ha)⟩
                  · intro hm
                    rcases List.mem_append.mp hm with hm | hm
                    · exact hna hm
                    · exact npD (List.mem_singleton.mp hm).symm
                  · intro b hb
                    rcases List.mem_append.mp hb with hb | hb
                    · exact hfr b hb
                    · rw [List.mem_singleton.mp hb]; exact h1p
                  · intro k r' hk
                    by_cases hkl : k < dn.length
                    · rw [List.getElem?_append_left hkl] at hk
                      obtain ⟨b, ys, e1, e2, e3⟩ := hrow k r' hk
                      refine ⟨b, ys, ?_, ?_, e3⟩
                      · rw [List.getElem?_append_left (by omega)]; exact e1
                      · have nb : b ≠ D := fun z => hna (z ▸ List.mem_of_getElem? e1)
                        rw [upd_ne nb]
                        exact s4 _ _ (sx _ _ e2)
                    · have hk2 : k = dn.length := by
                        have := (List.getElem?_eq_some_iff.mp hk).1
                        simp at this
                        omega
                      subst hk2
                      rw [List.getElem?_append_right (Nat.le_refl _)] at hk
                      simp at hk
                      subst hk
                      refine ⟨p, xs, ?_, ?_, RpA.flat hrf rr⟩
                      · rw [List.getElem?_append_right (by omega)]
                        simp [hln]
                      · rw [upd_ne npD]
                        exact hpl
        · have hdr : ds.drop i2 = [] := List.drop_eq_nil_of_le (by omega)
          rw [hdr] at hrest
          cases hrest
          rw [List.append_nil] at hres
          subst hres
          refine .inl ⟨wk.stop i2 H2 (gS H2 s2) (by omega), ?_⟩
          have E' := E1.set_mat (i := i) s2 hD hfr hacc hnd hna hln hrow
          refine o _ H2 _ E' (Fr.of_same (s.trans s2)) fun a z => z.imp id fun e => ?_
          rcases e with e | e
          · rw [e]; exact s.free hD
          · exact s.free (hfr a e)
      · exact o.elim
theorem cs_mat {st : Stmt} {i : Nat} {is : List Nat} {fs : En → Option (List PyData)} {gt : PyData → En → Option En} {fr : En → Option (List PyData)} (h : PS X st (tAsg (tLc (tI X.K c fs) (tG X.K is gt) tYes (tF X.K true fr) is) (gName i))) : PS X st (tS X.K (sMat i is fs gt fr)) := ps_w h fun _ _ _ q => mat_run q
end
end Mir

namespace Mir
open PySem PySem.Spec PyProof.Rows L2
/-! ### data of ints, of texts -/
theorem intsD_map : ∀ ns : List Int, intsD (ns.map PyData.int) = some ns
  | [] => rfl
  | n :: ns => by
    show (match intsD (ns.map PyData.int) with | some ns => some (n :: ns) | none => none) = _
    rw [intsD_map ns]
theorem strsD_map : ∀ ns : List Str, strsD (ns.map PyData.str) = some ns
  | [] => rfl
  | n :: ns => by
    show (match strsD (ns.map PyData.str) with | some ns => some (n :: ns) | none => none) = _
    rw [strsD_map ns]
/-- a comprehension whose element is k of each item, kept where p -/
theorem compF_filter {g : PyData → En → Option En} {ga : En → Option Bool} {fe : En → Option PyData} {env : En} {p : PyData → Bool} {k : PyData → PyData} : ∀ {ds : List PyData},
    (∀ d ∈ ds, ∃ e1, g d env = some e1 ∧ ga e1 = some (p d) ∧ (p d = true → fe e1 = some (k d))) → compF g ga fe env ds = some ((ds.filter p).map k)
  | [], _ => rfl
  | d :: ds, h => by
    obtain ⟨e1, h1, h2, h3⟩ := h d List.mem_cons_self
    have ih := compF_filter (ds := ds) fun x hx => h x (List.mem_cons_of_mem _ hx)
    simp only [compF, h1, h2]
    cases hp : p d with
    | true =>
      rw [hp] at h3
      simp only [h3 rfl, ih, List.filter_cons, hp, if_true, List.map_cons]
    | false =>
      simp only [ih, List.filter_cons, hp, Bool.false_eq_true, if_false]
theorem compF_map {g : PyData → En → Option En} {fe : En → Option PyData} {env : En} {k : PyData → PyData} {ds : List PyData} (h : ∀ d ∈ ds, ∃ e1, g d env = some e1 ∧ fe e1 = some (k d)) : compF g tYes' fe env ds = some (ds.map k) := by
  have q := compF_filter (g := g) (ga := tYes') (fe := fe) (env := env) (p := fun _ => true) (k := k) (ds := ds) fun d hd => by
    obtain ⟨e1, h1, h2⟩ := h d hd
    exact ⟨e1, h1, rfl, fun _ => h2⟩
  rw [q, List.filter_eq_self.mpr (fun _ _ => rfl)]
theorem compF_mapS {α : Type} {g : PyData → En → Option En} {fe : En → Option PyData} {env : En} {c : α → PyData} {k : α → PyData} : ∀ {xs : List α}, (∀ x ∈ xs, ∃ e1, g (c x) env = some e1 ∧ fe e1 = some (k x)) → compF g tYes' fe env (xs.map c) = some (xs.map k)
  | [], _ => rfl
  | x :: xs, h => by
    obtain ⟨e1, h1, h2⟩ := h x List.mem_cons_self
    have ih := compF_mapS (xs := xs) fun y hy => h y (List.mem_cons_of_mem _ hy)
    show compF g tYes' fe env (c x :: xs.map c) = _
    simp only [compF, h1, tYes', h2]
    rw [ih]
    rfl
/-! ### joined texts -/
def jl (ws : List Str) : Nat := (Txt.join (" " : Str) ws).length
theorem spc_len : ((" " : Str)).length = 1 := by decide +kernel
theorem len_app (x y : Str) : (x ++ y).length = x.length + y.length := by
  show (x.cps ++ y.cps).size = x.cps.size + y.cps.size
  simp
theorem jl_nil : jl [] = 0 := by
  unfold jl
  rw [TL.join_eq]
  rfl
theorem jl_one (w : Str) : jl [w] = w.length := by
  unfold jl
  rw [TL.join_eq]
  rfl
theorem jl_cons (w y : Str) (r : List Str) : jl (w :: y :: r) = w.length + 1 + jl (y :: r) := by
  unfold jl
  rw [TL.join_eq, TL.join_eq]
  show (w ++ (" " : Str) ++ Str.join (" " : Str) (y :: r)).length = _
  rw [len_app, len_app, spc_len]
theorem jl_snoc : ∀ (l : List Str) (w : Str), l ≠ [] → jl (l ++ [w]) = jl l + 1 + w.length
  | [], _, h => absurd rfl h
  | [x], w, _ => by
    show jl (x :: w :: []) = _
    rw [jl_cons, jl_one, jl_one]
  | x :: y :: r, w, _ => by
    show jl (x :: y :: (r ++ [w])) = _
    have ih := jl_snoc (y :: r) w (by simp)
    rw [jl_cons, jl_cons]
    rw [show jl (y :: (r ++ [w])) = jl (y :: r) + 1 + w.length from ih]
    omega
theorem jl_le : ∀ (l : List Str), (∀ w ∈ l, w.length ≤ 8) → jl l ≤ 9 * l.length
  | [], _ => by rw [jl_nil]; exact Nat.zero_le _
  | [x], h => by
    rw [jl_one]
    have := h x List.mem_cons_self
    simp
    omega
  | x :: y :: r, h => by
    rw [jl_cons]
    have h1 := h x List.mem_cons_self
    have h2 := jl_le (y :: r) fun w hw => h w (List.mem_cons_of_mem _ hw)
    rw [List.length_cons]
    omega
theorem word_le_jl : ∀ (l : List Str) (w : Str), w ∈ l → w.length ≤ jl l
  | [], _, h => by cases h
  | [x], w, h => by
    rw [jl_one]
    rw [List.mem_singleton.mp h]
    exact Nat.le_refl _
  | x :: y :: r, w, h => by
    rw [jl_cons]
    rcases List.mem_cons.mp h with h | h
    · subst h; omega
    · have := word_le_jl (y :: r) w h
      omega
/-! ### texts in tuples compared -/
theorem eqv_strs : ∀ xs ys : List Str, PyData.eqvAll (xs.map PyData.str) (ys.map PyData.str) = decide (xs = ys)
  | [], [] => by simp [PyData.eqvAll]
  | [], y :: ys => by simp [PyData.eqvAll]
  | x :: xs, [] => by simp [PyData.eqvAll]
  | x :: xs, y :: ys => by
    simp only [List.map_cons, PyData.eqvAll, PyData.eqv, eqv_strs xs ys]
    by_cases h : x = y
    · subst h
      simp
    · simp [h]
theorem lay_strs : ∀ xs : List Str, (∀ x ∈ xs, PyData.strOk x = true) → PyData.canLayAll0 (xs.map PyData.str) = true
  | [], _ => by simp [PyData.canLayAll0]
  | x :: xs, h => by
    simp only [List.map_cons, PyData.canLayAll0, PyData.canLay0, h x List.mem_cons_self, lay_strs xs (fun y hy => h y (List.mem_cons_of_mem _ hy)), Bool.and_self]
theorem depth_strs : ∀ xs : List Str, PyData.depthAll (xs.map PyData.str) = 0
  | [] => by simp [PyData.depthAll]
  | x :: xs => by simp [PyData.depthAll, PyData.depth, depth_strs xs]
theorem shaped_strs (xs : List Str) (h : ∀ x ∈ xs, PyData.strOk x = true) : SeqAt.shaped (.tuple (xs.map PyData.str)) = true := by
  unfold SeqAt.shaped
  simp [PyData.canLay0, lay_strs xs h, PyData.depth, depth_strs]
theorem shaped_int (i : Int) : SeqAt.shaped (.int i) = true := by
  unfold SeqAt.shaped
  simp [PyData.canLay0, PyData.depth]
theorem shaped_none : SeqAt.shaped .none = true := by
  unfold SeqAt.shaped
  simp [PyData.canLay0, PyData.depth]
theorem shaped_bool (i : Bool) : SeqAt.shaped (.bool i) = true := by
  unfold SeqAt.shaped
  simp [PyData.canLay0, PyData.depth]
theorem eqD_int (i j : Int) : eqD (.int i) (.int j) = some (.bool (decide (i = j))) := by
  unfold eqD
  rw [shaped_int, shaped_int]
  simp only [Bool.and_self, if_true, PyData.eqv]
  congr 2
theorem neD_int (i j : Int) : neD (.int i) (.int j) = some (.bool (!decide (i = j))) := by
  unfold neD
  rw [shaped_int, shaped_int]
  simp only [Bool.and_self, if_true, PyData.eqv]
  congr 3
theorem eqD_strs (xs ys : List Str) (h : ∀ x ∈ xs, PyData.strOk x = true) (h' : ∀ x ∈ ys, PyData.strOk x = true) : eqD (.tuple (xs.map PyData.str)) (.tuple (ys.map PyData.str)) = some (.bool (decide (xs = ys))) := by
  unfold eqD
  rw [shaped_strs xs h, shaped_strs ys h']
  simp only [Bool.and_self, if_true, PyData.eqv, eqv_strs]
theorem addD_tup {xs ys : List PyData} (h : xs.length + ys.length ≤ 1000000) : addD (.tuple xs) (.tuple ys) = some (.tuple (xs ++ ys)) := by
  simp only [addD, h, if_true]
theorem addD_list {xs ys : List PyData} (h : xs.length + ys.length ≤ 1000000) : addD (.list xs) (.list ys) = some (.list (xs ++ ys)) := by
  simp only [addD, h, if_true]
theorem addD_str {x y : Str} (h : x.length + y.length ≤ 1000000) : addD (.str x) (.str y) = some (.str (x ++ y)) := by
  simp only [addD, h, if_true]
/-! ### loops by a word -/
theorem loop_ix {g : PyData → En → Option En} {b : En → Out} (P : Nat → En → Prop) : ∀ (ds : List PyData) (k : Nat) (e : En), (∀ (j : Nat) d e, ds[j]? = some d → P (k + j) e → ∃ e1, g d e = some e1 ∧ ∃ e2, (b e1 = .nx e2 ∨ b e1 = .ct e2) ∧ P (k + j + 1) e2) → P k e → ∃ e', loopF g b ds e = .nx e' ∧ P (k + ds.length) e'
  | [], k, e, _, h => ⟨e, rfl, h⟩
  | d :: ds, k, e, st, h => by
    obtain ⟨e1, h1, e2, h2, h3⟩ := st 0 d e rfl h
    obtain ⟨e', h4, h5⟩ := loop_ix P ds (k + 1) e2 (fun j d' e' hj hp => by
      have hp' : P (k + (j + 1)) e' := by rw [show k + (j + 1) = k + 1 + j by omega]; exact hp
      have := st (j + 1) d' e' (by simpa using hj) hp'
      rw [show k + (j + 1) + 1 = k + 1 + j + 1 by omega] at this
      exact this) h3
    refine ⟨e', ?_, by rw [List.length_cons, show k + (ds.length + 1) = k + 1 + ds.length by omega]; exact h5⟩
    rcases h2 with h2 | h2 <;> (simp only [loopF, h1, h2]; exact h4)
theorem loop_rng {g : PyData → En → Option En} {b : En → Out} (P : Nat → En → Prop) {lo : Int} {n : Nat} {e : En} (st : ∀ (j : Nat) e, j < n → P j e → ∃ e1, g (.int (lo + (j : Nat))) e = some e1 ∧ ∃ e2, (b e1 = .nx e2 ∨ b e1 = .ct e2) ∧ P (j + 1) e2) (h : P 0 e) : ∃ e', loopF g b (rngD lo n) e = .nx e' ∧ P n e' := by
  obtain ⟨e', h1, h2⟩ := loop_ix P (rngD lo n) 0 e (fun j d e hj hp => by
    have hd := rng_get hj
    obtain ⟨l, _⟩ := List.getElem?_eq_some_iff.mp hj
    rw [rng_len] at l
    subst hd
    rw [Nat.zero_add] at hp ⊢
    exact st j e l hp) h
  rw [rng_len, Nat.zero_add] at h2
  exact ⟨e', h1, h2⟩
theorem atI_map {α : Type} (f : α → PyData) (xs : List α) (j : Nat) (x : α) (h : xs[j]? = some x) : atI (xs.map f) (j : Int) = some (f x) := atI_nat (by rw [List.getElem?_map, h]; rfl)
theorem noL_ints : ∀ ns : List Int, noLA (ns.map PyData.int) = true
  | [] => rfl
  | n :: ns => by
    show (noL (.int n) && noLA (ns.map PyData.int)) = true
    rw [noL_ints ns]; rfl
theorem sSeq_nx {s t : En → Out} {env e : En} (h : s env = .nx e) : sSeq s t env = t e := by
  unfold sSeq
  rw [h]
theorem sSeq_rt {s t : En → Out} {env : En} {d : PyData} (h : s env = .rt d) : sSeq s t env = .rt d := by
  unfold sSeq
  rw [h]
theorem addD_int (i j : Int) : addD (.int i) (.int j) = some (.int (i + j)) := rfl
theorem subD_int (i j : Int) : subD (.int i) (.int j) = some (.int (i - j)) := rfl
theorem mulD_int {i j : Int} (h : CMul i j) : mulD (.int i) (.int j) = some (.int (i * j)) := if_pos h
theorem modD_int {i j : Int} (h : 0 < j) : modD (.int i) (.int j) = some (.int (i % j)) := if_pos h
theorem divD_int {i j : Int} (h : CDiv i j) : divD (.int i) (.int j) = some (.int (i / j)) := if_pos h
theorem powD_int {i j : Int} (h : CPow i j) : powD (.int i) (.int j) = some (.int (i ^ j.toNat)) := if_pos h
theorem ltD_int (i j : Int) : ltD (.int i) (.int j) = some (.bool (decide (i < j))) := rfl
theorem leD_int (i j : Int) : leD (.int i) (.int j) = some (.bool (decide (i ≤ j))) := rfl
theorem gtD_int (i j : Int) : gtD (.int i) (.int j) = some (.bool (decide (j < i))) := rfl
theorem geD_int (i j : Int) : geD (.int i) (.int j) = some (.bool (decide (j ≤ i))) := rfl
/-! a draw, its numbers kept as letters -/
theorem draw_s1 (a b M : Int) (c' m k : Int) (n : Nat) (ds : List Int) (w y : Sl) (k1 : CMul c' a) (k2 : CMul k b) (k3 : 0 < M) (hm : (c' * a + k * b) % M = m) :
    (sSet 5 (e2 modD (eCall intA (aCons (e2 addD (e2 mulD (eVar 0) (eC (.int a))) (e2 mulD (eVar 4) (eC (.int b)))) aNil)) (eC (.int M)))) [.val (.int c'), .val (.int n), .own (ds.map .int), w, .val (.int k), y] = .nx [.val (.int c'), .val (.int n), .own (ds.map .int), w, .val (.int k), .val (.int m)] := by
  have k1 := mulD_int k1
  have k2 := mulD_int k2
  have k5 := modD_int (i := c' * a + k * b) k3
  rw [hm] at k5
  simp only [sSet, e2, eCall, aCons, aNil, intA, eC, eVar, List.getElem?_cons_zero, List.getElem?_cons_succ, List.set_cons_zero, List.set_cons_succ, addD_int, k1, k2, k5]
theorem draw_s2 (a M L : Int) (c' m k : Int) (n : Nat) (ds : List Int) (w : Sl) (hl : ds.length < 1000000) (k3 : CMul c' a) (k4 : CMul m m) (k6 : 0 < M) :
    (sApp 2 (e2 modD (eCall intA (aCons (e2 addD (e2 addD (e2 mulD (eVar 5) (eVar 5)) (e2 mulD (eVar 0) (eC (.int a)))) (eVar 4)) aNil)) (eC (.int M)))) [.val (.int c'), .val (.int n), .own (ds.map .int), w, .val (.int k), .val (.int m)] = .nx [.val (.int c'), .val (.int n), .own ((ds ++ [(m * m + c' * a + k) % M]).map .int), w, .val (.int k), .val (.int m)] := by
  have k3 := mulD_int k3
  have k4 := mulD_int k4
  have k6 := modD_int (i := m * m + c' * a + k) k6
  simp only [sApp, e2, eCall, aCons, aNil, intA, eC, eVar, List.getElem?_cons_zero, List.getElem?_cons_succ, addD_int, k3, k4, k6, List.length_map, hl, if_true, List.set_cons_zero, List.set_cons_succ, List.map_append, List.map_cons, List.map_nil]
theorem draw_s1' (a b M : Int) (c' m k : Int) (n : Nat) (ds : List Int) (w y : Sl) (k1 : CMul c' a) (k2 : CMul k b) (k3 : 0 < M) (hm : (c' * a + k * b) % M = m) :
    (sSet 5 (e2 modD (e2 addD (e2 mulD (eVar 0) (eC (.int a))) (e2 mulD (eVar 4) (eC (.int b)))) (eC (.int M)))) [.val (.int c'), .val (.int n), .own (ds.map .int), w, .val (.int k), y] = .nx [.val (.int c'), .val (.int n), .own (ds.map .int), w, .val (.int k), .val (.int m)] := by
  have k1 := mulD_int k1
  have k2 := mulD_int k2
  have k5 := modD_int (i := c' * a + k * b) k3
  rw [hm] at k5
  simp only [sSet, e2, eC, eVar, List.getElem?_cons_zero, List.getElem?_cons_succ, List.set_cons_zero, List.set_cons_succ, addD_int, k1, k2, k5]
theorem draw_s2' (a M L : Int) (c' m k : Int) (n : Nat) (ds : List Int) (w : Sl) (hl : ds.length < 1000000) (k3 : CMul c' a) (k4 : CMul m m) (k6 : 0 < M) :
    (sApp 2 (e2 modD (e2 addD (e2 addD (e2 mulD (eVar 5) (eVar 5)) (e2 mulD (eVar 0) (eC (.int a)))) (eVar 4)) (eC (.int M)))) [.val (.int c'), .val (.int n), .own (ds.map .int), w, .val (.int k), .val (.int m)] = .nx [.val (.int c'), .val (.int n), .own ((ds ++ [(m * m + c' * a + k) % M]).map .int), w, .val (.int k), .val (.int m)] := by
  have k3 := mulD_int k3
  have k4 := mulD_int k4
  have k6 := modD_int (i := m * m + c' * a + k) k6
  simp only [sApp, e2, eC, eVar, List.getElem?_cons_zero, List.getElem?_cons_succ, addD_int, k3, k4, k6, List.length_map, hl, if_true, List.set_cons_zero, List.set_cons_succ, List.map_append, List.map_cons, List.map_nil]
theorem draw_t (M : Int) (c' : Int) (n : Nat) (ds : List Int) (w x y : Sl) (hl : ds.length < 1000000) (k1 : 0 < M) (k2 : M < 1073741824) :
    sSeq (sApp 2 (e2 modD (eCall intA (aCons (eVar 0) aNil)) (eC (.int M)))) (sSet 0 (e2 divD (eVar 0) (eC (.int M)))) [.val (.int c'), .val (.int n), .own (ds.map .int), w, x, y] = .nx [.val (.int (c' / M)), .val (.int n), .own ((ds ++ [c' % M]).map .int), w, x, y] := by
  have h1 := modD_int (i := c') k1
  have h2 := divD_int (i := c') (j := M) ⟨k1, k2⟩
  simp only [sSeq, sApp, sSet, e2, eCall, aCons, aNil, intA, eC, eVar, List.getElem?_cons_zero, List.getElem?_cons_succ, List.set_cons_zero, List.set_cons_succ, h1, h2, hl, if_true, List.length_map, List.map_append, List.map_cons, List.map_nil]
theorem draw_t' (M : Int) (c' : Int) (n : Nat) (ds : List Int) (w x y : Sl) (hl : ds.length < 1000000) (k1 : 0 < M) (k2 : M < 1073741824) :
    sSeq (sApp 2 (e2 modD (eVar 0) (eC (.int M)))) (sSet 0 (e2 divD (eVar 0) (eC (.int M)))) [.val (.int c'), .val (.int n), .own (ds.map .int), w, x, y] = .nx [.val (.int (c' / M)), .val (.int n), .own ((ds ++ [c' % M]).map .int), w, x, y] := by
  have h1 := modD_int (i := c') k1
  have h2 := divD_int (i := c') (j := M) ⟨k1, k2⟩
  simp only [sSeq, sApp, sSet, e2, eC, eVar, List.getElem?_cons_zero, List.getElem?_cons_succ, List.set_cons_zero, List.set_cons_succ, h1, h2, hl, if_true, List.length_map, List.map_append, List.map_cons, List.map_nil]
theorem sIf_t {ga : En → Option Bool} {s t : En → Out} {env : En} (h : ga env = some true) : sIf ga s t env = s env := by
  unfold sIf
  rw [h]
theorem sIf_f {ga : En → Option Bool} {s t : En → Out} {env : En} (h : ga env = some false) : sIf ga s t env = t env := by
  unfold sIf
  rw [h]
theorem iR1_ev {fa : En → Option (List PyData)} {env : En} {N : Int} (h : fa env = some [.int N]) (h1 : N < 1000000) (h2 : -1000000 < N) : iR1 fa env = some (rngD 0 N.toNat) := by
  unfold iR1
  rw [h]
  exact if_pos ⟨h1, h2⟩
theorem iR2_ev {fa : En → Option (List PyData)} {env : En} {M N : Int} (h : fa env = some [.int M, .int N]) (h1 : N < 1000000000) (h2 : -1000000000 < N) (h3 : M < 1000000000) (h4 : -1000000000 < M) : iR2 fa env = some (rngD M (N - M).toNat) := by
  unfold iR2
  rw [h]
  exact if_pos ⟨⟨h1, h2⟩, h3, h4⟩
/-- a loop that may be left by a return -/
theorem loop_any {g : PyData → En → Option En} {b : En → Out} (P : Nat → En → Prop) (Q : PyData → Prop) : ∀ (ds : List PyData) (k : Nat) (e : En), (∀ (j : Nat) d e, ds[j]? = some d → P (k + j) e → ∃ e1, g d e = some e1 ∧ ((∃ e2, (b e1 = .nx e2 ∨ b e1 = .ct e2) ∧ P (k + j + 1) e2) ∨ ∃ v, b e1 = .rt v ∧ Q v)) → P k e →
    (∃ e', loopF g b ds e = .nx e' ∧ P (k + ds.length) e') ∨ ∃ v, loopF g b ds e = .rt v ∧ Q v
  | [], k, e, _, h => .inl ⟨e, rfl, h⟩
  | d :: ds, k, e, st, h => by
    obtain ⟨e1, h1, h2⟩ := st 0 d e rfl h
    rcases h2 with ⟨e2, h2, h3⟩ | ⟨v, h2, h3⟩
    · have ih := loop_any P Q ds (k + 1) e2 (fun j d' e' hj hp => by
        have hp' : P (k + (j + 1)) e' := by rw [show k + (j + 1) = k + 1 + j by omega]; exact hp
        have := st (j + 1) d' e' (by simpa using hj) hp'
        rw [show k + (j + 1) + 1 = k + 1 + j + 1 by omega] at this
        exact this) h3
      have e0 : loopF g b (d :: ds) e = loopF g b ds e2 := by
        rcases h2 with h2 | h2 <;> simp only [loopF, h1, h2]
      rw [e0, List.length_cons, show k + (ds.length + 1) = k + 1 + ds.length by omega]
      exact ih
    · exact .inr ⟨v, by simp only [loopF, h1, h2], h3⟩
theorem loop_rngA {g : PyData → En → Option En} {b : En → Out} (P : Nat → En → Prop) (Q : PyData → Prop) {lo : Int} {n : Nat} {e : En} (st : ∀ (j : Nat) e, j < n → P j e → ∃ e1, g (.int (lo + (j : Nat))) e = some e1 ∧ ((∃ e2, (b e1 = .nx e2 ∨ b e1 = .ct e2) ∧ P (j + 1) e2) ∨ ∃ v, b e1 = .rt v ∧ Q v)) (h : P 0 e) :
    (∃ e', loopF g b (rngD lo n) e = .nx e' ∧ P n e') ∨ ∃ v, loopF g b (rngD lo n) e = .rt v ∧ Q v := by
  have := loop_any P Q (rngD lo n) 0 e (fun j d e hj hp => by
    have hd := rng_get hj
    obtain ⟨l, _⟩ := List.getElem?_eq_some_iff.mp hj
    rw [rng_len] at l
    subst hd
    rw [Nat.zero_add] at hp ⊢
    exact st j e l hp) h
  rw [rng_len, Nat.zero_add] at this
  exact this
/-! evaluation, step by step -/
section
variable {env env' : En} {f g h : En → Option PyData} {fa : En → Option (List PyData)} {x y d : PyData} {ds : List PyData}
theorem e2_ev {k : PyData → PyData → Option PyData} (h1 : f env = some x) (h2 : g env = some y) (h3 : k x y = some d) : e2 k f g env = some d := by
  unfold e2
  rw [h1, h2]
  exact h3
theorem aCons_ev (h1 : f env = some x) (h2 : fa env = some ds) : aCons f fa env = some (x :: ds) := by
  unfold aCons
  rw [h1, h2]
theorem aNil_ev : aNil env = some [] := rfl
theorem eCall_ev {k : List PyData → Option PyData} (h1 : fa env = some ds) (h2 : k ds = some d) : eCall k fa env = some d := by
  unfold eCall
  rw [h1]
  exact h2
theorem sSet_ev {i : Nat} (h1 : f env = some d) : sSet i f env = .nx (env.set i (.val d)) := by
  unfold sSet
  rw [h1]
theorem sOwn_ev {i : Nat} (h1 : fa env = some ds) : sOwn i fa env = .nx (env.set i (.own ds)) := by
  unfold sOwn
  rw [h1]
theorem sRet_ev (h1 : f env = some d) : sRet f env = .rt d := by
  unfold sRet
  rw [h1]
theorem sApp_ev {i : Nat} (h1 : f env = some d) (h2 : env[i]? = some (.own ds)) (h3 : ds.length < 1000000) : sApp i f env = .nx (env.set i (.own (ds ++ [d]))) := by
  unfold sApp
  rw [h1, h2]
  exact if_pos h3
theorem sFor_ev {k : PyData → En → Option En} {b : En → Out} {o : Out} (h1 : fa env = some ds) (h2 : loopF k b ds env = o) : sFor fa k b env = o := by
  unfold sFor
  rw [h1]
  exact h2
theorem eL_ev (h1 : fa env = some ds) : eL fa env = some (.list ds) := by
  unfold eL
  rw [h1]
  rfl
theorem t1_ev {b : Bool} (h1 : f env = some (.bool b)) : t1 f env = some b := by
  unfold t1
  rw [h1]
theorem and_t {ga gb : En → Option Bool} {b : Bool} (h1 : ga env = some true) (h2 : gb env = some b) : tAnd' ga gb env = some b := by
  unfold tAnd'
  rw [h1]
  exact h2
theorem and_f {ga gb : En → Option Bool} (h1 : ga env = some false) : tAnd' ga gb env = some false := by
  unfold tAnd'
  rw [h1]
theorem or_t {ga gb : En → Option Bool} (h1 : ga env = some true) : tOr' ga gb env = some true := by
  unfold tOr'
  rw [h1]
theorem or_f {ga gb : En → Option Bool} {b : Bool} (h1 : ga env = some false) (h2 : gb env = some b) : tOr' ga gb env = some b := by
  unfold tOr'
  rw [h1]
  exact h2
theorem not_ev {ga : En → Option Bool} {b : Bool} (h1 : ga env = some b) : tNot' ga env = some (!b) := by
  unfold tNot'
  rw [h1]
  rfl
theorem eIf_t {ga : En → Option Bool} (h1 : ga env = some true) (h2 : f env = some d) : eIf ga f g env = some d := by
  unfold eIf
  rw [h1]
  exact h2
theorem eIf_f {ga : En → Option Bool} (h1 : ga env = some false) (h2 : g env = some d) : eIf ga f g env = some d := by
  unfold eIf
  rw [h1]
  exact h2
theorem eTup_ev (h1 : fa env = some ds) (h2 : ds.length ≤ 1000000) : eTup fa env = some (.tuple ds) := by
  unfold eTup
  rw [h1]
  exact if_pos h2
theorem fLst_ev (h1 : fa env = some ds) (h2 : ds.length ≤ 1000000) : fLst fa env = some ds := by
  unfold fLst
  rw [h1]
  exact if_pos h2
theorem fCmp_ev {is : List Nat} {k : PyData → En → Option En} {ga : En → Option Bool} {fe : En → Option PyData} {vs : List PyData} (h1 : fa env = some ds) (h2 : compF k ga fe (wipeE env is) ds = some vs) (h3 : vs.length ≤ 1000000) : fCmp is fa k ga fe env = some vs := by
  unfold fCmp
  simp only [h1, h2]
  exact if_pos h3
theorem eIsi_ev {T : String} {b : Bool} (h1 : f env = some d) (h2 : isiB T (tyD d) = some b) : eIsi T f env = some (.bool b) := by
  unfold eIsi
  rw [h1]
  simp only [h2]
  rfl
theorem tTr_ev {b : Bool} (h1 : f env = some d) (h2 : truD d = some b) : tTr f env = some b := by
  unfold tTr
  rw [h1]
  exact h2
theorem outD_rt {o : Out} (h : o = .rt d) : outD o = some d := by rw [h]; rfl
end
theorem gDef_ev {np nN : Nat} {fB : En → Out} {ds : List PyData} {d : PyData} (h1 : ds.length = np) (h2 : fB (env0 nN ds) = .rt d) : gDef np nN fB ds = some d := by
  unfold gDef
  rw [if_pos h1, h2]
  rfl
/-! draws read; pairs of ints -/
theorem dr_at {ds : List Int} {env : En} {i j : Nat} {k : Int} (h : eVar i env = some (.list (ds.map .int))) (hj : j < ds.length) (hk : k = (j : Nat)) : e2 ixG (eVar i) (eC (.int k)) env = some (.int (ds.getD j 0)) := by
  refine e2_ev h rfl ?_
  subst hk
  refine (atI_map PyData.int ds j (ds.getD j 0) ?_)
  simp [List.getD, hj]
theorem dr_int {ds : List Int} {env : En} {i j : Nat} {k : Int} (h : eVar i env = some (.list (ds.map .int))) (hj : j < ds.length) (hk : k = (j : Nat)) : eCall intA (aCons (e2 ixG (eVar i) (eC (.int k))) aNil) env = some (.int (ds.getD j 0)) :=
  eCall_ev (aCons_ev (dr_at h hj hk) aNil_ev) rfl
theorem dr_mod {ds : List Int} {env : En} {i j : Nat} {k m : Int} (h : eVar i env = some (.list (ds.map .int))) (hj : j < ds.length) (hk : k = (j : Nat)) (hm : 0 < m) : e2 modD (eCall intA (aCons (e2 ixG (eVar i) (eC (.int k))) aNil)) (eC (.int m)) env = some (.int (ds.getD j 0 % m)) :=
  e2_ev (dr_int h hj hk) rfl (modD_int hm)
theorem dr_mod' {ds : List Int} {env : En} {i j : Nat} {k m : Int} (h : eVar i env = some (.list (ds.map .int))) (hj : j < ds.length) (hk : k = (j : Nat)) (hm : 0 < m) : e2 modD (e2 ixG (eVar i) (eC (.int k))) (eC (.int m)) env = some (.int (ds.getD j 0 % m)) :=
  e2_ev (dr_at h hj hk) rfl (modD_int hm)
theorem mod_lt (x m : Int) (h : 0 < m) : 0 ≤ x % m ∧ x % m < m := ⟨Int.emod_nonneg _ (by omega), Int.emod_lt_of_pos _ h⟩
abbrev pr (p : Int × Int) : PyData := .tuple [.int p.1, .int p.2]
theorem shaped_pr (p : Int × Int) : SeqAt.shaped (pr p) = true := by
  unfold SeqAt.shaped
  simp [pr, PyData.canLay0, PyData.canLayAll0, PyData.depth, PyData.depthAll]
theorem lay_prs : ∀ ps : List (Int × Int), PyData.canLayAll0 (ps.map pr) = true ∧ PyData.depthAll (ps.map pr) ≤ 1
  | [] => by simp [PyData.canLayAll0, PyData.depthAll]
  | p :: ps => by
    obtain ⟨h1, h2⟩ := lay_prs ps
    simp only [List.map_cons, PyData.canLayAll0, PyData.depthAll, h1]
    simp [pr, PyData.canLay0, PyData.canLayAll0, PyData.depth, PyData.depthAll]
    omega
theorem shaped_prs (ps : List (Int × Int)) : SeqAt.shaped (.list (ps.map pr)) = true := by
  unfold SeqAt.shaped
  obtain ⟨h1, h2⟩ := lay_prs ps
  simp [PyData.canLay0, h1, PyData.depth]
  omega
theorem eqv_pr (p q : Int × Int) : PyData.eqv (pr p) (pr q) = decide (p = q) := by
  obtain ⟨a, b⟩ := p
  obtain ⟨c, d⟩ := q
  simp only [pr, PyData.eqv, PyData.eqvAll]
  by_cases h1 : a = c
  · by_cases h2 : b = d
    · simp [h1, h2]
    · simp [h1, h2]
  · simp [h1]
theorem any_pr (p : Int × Int) : ∀ ps : List (Int × Int), ((ps.map pr).any fun z => PyData.eqv z (pr p)) = decide (p ∈ ps)
  | [] => by simp
  | q :: ps => by
    rw [List.map_cons, List.any_cons, any_pr p ps, eqv_pr]
    by_cases h : q = p
    · simp [h]
    · have : ¬ p = q := fun e => h e.symm
      simp [h, this]
theorem inD_pr (p : Int × Int) (ps : List (Int × Int)) : inD (pr p) (.list (ps.map pr)) = some (.bool (decide (p ∈ ps))) := by
  unfold inD
  simp only [shaped_pr, shaped_prs, any_pr, Bool.and_self, if_true]
theorem notInD_pr (p : Int × Int) (ps : List (Int × Int)) : notInD (pr p) (.list (ps.map pr)) = some (.bool (!decide (p ∈ ps))) := by
  unfold notInD
  simp only [shaped_pr, shaped_prs, any_pr, Bool.and_self, if_true]
theorem eNot_ev {f : En → Option PyData} {env : En} {b : Bool} (h : f env = some (.bool b)) : eNot f env = some (.bool (!b)) := by
  unfold eNot
  rw [h]
theorem eN_ev {f : En → Option PyData} {env : En} {d : PyData} (h : f env = some d) (hn : noL d = true) : eN f env = some d := by
  unfold eN
  rw [h]
  exact if_pos hn
theorem eTupO_ev {i : Nat} {env : En} {ds : List PyData} (h : env[i]? = some (.own ds)) : eTupO i env = some (.tuple ds) := by
  unfold eTupO
  rw [h]
theorem eIxO_ev {i : Nat} {env : En} {ds : List PyData} {g : En → Option PyData} {k : Int} {d : PyData} (h : env[i]? = some (.own ds)) (h1 : g env = some (.int k)) (h2 : atI ds k = some d) : eIxO i g env = some d := by
  have e : eIxO i g env = (match g env with | some (.int k) => atI ds k | _ => none) := by
    unfold eIxO
    rw [h]
    all_goals rfl
  rw [e, h1]
  exact h2
theorem gDef_ev' {np nN : Nat} {fB : En → Out} {ds : List PyData} {d : PyData} (env : En) (h1 : ds.length = np) (h0 : env0 nN ds = env) (h2 : fB env = .rt d) : gDef np nN fB ds = some d := gDef_ev h1 (by rw [h0]; exact h2)
theorem neD_same {d : PyData} (h : SeqAt.shaped d = true) : neD d d = some (.bool false) := by
  unfold neD
  have h2 : d.canLay0 = true := by
    unfold SeqAt.shaped at h
    exact (Bool.and_eq_true _ _ ▸ h).1
  rw [h, SeqAt.eqv_refl d h2]
  rfl
theorem eqD_same {d : PyData} (h : SeqAt.shaped d = true) : eqD d d = some (.bool true) := by
  unfold eqD
  have h2 : d.canLay0 = true := by
    unfold SeqAt.shaped at h
    exact (Bool.and_eq_true _ _ ▸ h).1
  rw [h, SeqAt.eqv_refl d h2]
  rfl
theorem eAnd_t {f g : En → Option PyData} {env : En} {d : PyData} (h1 : f env = some (.bool true)) (h2 : g env = some d) : eAnd f g env = some d := by
  unfold eAnd
  rw [h1]
  exact h2
theorem eAnd_f {f g : En → Option PyData} {env : En} (h1 : f env = some (.bool false)) : eAnd f g env = some (.bool false) := by
  unfold eAnd
  rw [h1]
theorem sUnp_ev {f : En → Option PyData} {g : PyData → En → Option En} {env e : En} {d : PyData} (h1 : f env = some d) (h2 : g d env = some e) : sUnp f g env = .nx e := by
  unfold sUnp
  rw [h1]
  simp only [h2]
theorem iSeq_l {f : En → Option PyData} {env : En} {ds : List PyData} (h : f env = some (.list ds)) : iSeq f env = some ds := by
  unfold iSeq
  rw [h]
theorem iSeq_t {f : En → Option PyData} {env : En} {ds : List PyData} (h : f env = some (.tuple ds)) : iSeq f env = some ds := by
  unfold iSeq
  rw [h]
end Mir

namespace Mir
open PySem PySem.Spec PyProof.Rows L2
theorem fRep_ev {ff : En → Option (List PyData)} {g : En → Option PyData} {env : En} {ds : List PyData} {k : Int} (h1 : ff env = some ds) (h2 : g env = some (.int k)) (h3 : -1000000 ≤ k ∧ k ≤ 1000000) (h4 : ds.length * k.toNat ≤ 1000000) : fRep ff g env = some (List.replicate k.toNat ds).flatten := by
  unfold fRep
  rw [h1]
  simp only [h2]
  exact if_pos ⟨h3, h4⟩
theorem rep_flat {α : Type} (x : α) : ∀ n : Nat, (List.replicate n [x]).flatten = List.replicate n x
  | 0 => rfl
  | n + 1 => by rw [List.replicate_succ, List.flatten_cons, rep_flat x n, List.replicate_succ]; rfl
/-! ### systems of constraints: the least solution -/
abbrev Con := Nat × Nat × Int
def rz1 (h : List Int) (c : Con) : List Int := if h.getD c.2.1 0 < h.getD c.1 0 + c.2.2 then h.set c.2.1 (h.getD c.1 0 + c.2.2) else h
def rz (cs : List Con) (p : List Int) : List Int := cs.foldl rz1 p
def lp (cs : List Con) : Nat → List Int → Option (List Int)
  | 0, _ => none
  | n + 1, p => if rz cs p = p then some p else if 0 < (rz cs p).getD 0 0 then none else lp cs n (rz cs p)
def Sol (cs : List Con) (x : Nat → Int) : Prop := ∀ c ∈ cs, x c.1 + c.2.2 ≤ x c.2.1
def Ix (cs : List Con) (N : Nat) : Prop := ∀ c ∈ cs, c.1 < N ∧ c.2.1 < N
abbrev at0 (p : List Int) : Nat → Int := fun v => p.getD v 0
theorem getD_set (p : List Int) (i j : Nat) (x : Int) (h : i < p.length) : (p.set i x).getD j 0 = if j = i then x else p.getD j 0 := by
  rw [List.getD_eq_getElem?_getD, List.getD_eq_getElem?_getD, List.getElem?_set]
  by_cases q : i = j
  · subst q
    simp [h]
  · have : ¬ j = i := fun e => q e.symm
    simp [q, this]
theorem rz1_len (h : List Int) (c : Con) : (rz1 h c).length = h.length := by
  unfold rz1
  split <;> simp
theorem rz1_ge (h : List Int) (c : Con) (hc : c.2.1 < h.length) (v : Nat) : at0 h v ≤ at0 (rz1 h c) v := by
  unfold rz1 at0
  split
  · rename_i q
    rw [getD_set _ _ _ _ hc]
    split
    · rename_i e; rw [e]; omega
    · exact Int.le_refl _
  · exact Int.le_refl _
theorem rz1_con (h : List Int) (c : Con) (hc : c.2.1 < h.length) : at0 h c.1 + c.2.2 ≤ at0 (rz1 h c) c.2.1 := by
  unfold rz1 at0
  split
  · rw [getD_set _ _ _ _ hc, if_pos rfl]
    exact Int.le_refl _
  · omega
theorem rz1_le (h : List Int) (c : Con) (hc : c.2.1 < h.length) (x : Nat → Int) (hx : x c.1 + c.2.2 ≤ x c.2.1) (hu : c.1 < h.length) (hp : ∀ v, v < h.length → at0 h v ≤ x v) : ∀ v, v < h.length → at0 (rz1 h c) v ≤ x v := by
  intro v hv
  unfold rz1 at0
  split
  · rw [getD_set _ _ _ _ hc]
    split
    · rename_i e
      subst e
      have := hp c.1 hu
      unfold at0 at this
      omega
    · exact hp v hv
  · exact hp v hv
theorem rz_len : ∀ (cs : List Con) (p : List Int), (rz cs p).length = p.length
  | [], _ => rfl
  | c :: cs, p => by
    show (rz cs (rz1 p c)).length = _
    rw [rz_len cs, rz1_len]
theorem rz_ge : ∀ (cs : List Con) (p : List Int), Ix cs p.length → ∀ v, at0 p v ≤ at0 (rz cs p) v
  | [], _, _, _ => Int.le_refl _
  | c :: cs, p, hi, v => by
    have h1 := rz1_ge p c (hi c List.mem_cons_self).2 v
    have h2 := rz_ge cs (rz1 p c) (fun d hd => by rw [rz1_len]; exact hi d (List.mem_cons_of_mem _ hd)) v
    exact Int.le_trans h1 h2
theorem rz_le : ∀ (cs : List Con) (p : List Int), Ix cs p.length → ∀ x : Nat → Int, Sol cs x → (∀ v, v < p.length → at0 p v ≤ x v) → ∀ v, v < p.length → at0 (rz cs p) v ≤ x v
  | [], _, _, _, _, h => h
  | c :: cs, p, hi, x, hx, h => by
    have hc := hi c List.mem_cons_self
    have h1 := rz1_le p c hc.2 x (hx c List.mem_cons_self) hc.1 h
    have h2 := rz_le cs (rz1 p c) (fun d hd => by rw [rz1_len]; exact hi d (List.mem_cons_of_mem _ hd)) x (fun d hd => hx d (List.mem_cons_of_mem _ hd)) (by rw [rz1_len]; exact h1)
    rw [rz1_len] at h2
    exact h2
theorem rz_con : ∀ (cs : List Con) (p : List Int), Ix cs p.length → ∀ c ∈ cs, at0 p c.1 + c.2.2 ≤ at0 (rz cs p) c.2.1
  | [], _, _, c, hc => by cases hc
  | d :: cs, p, hi, c, hc => by
    have hd := hi d List.mem_cons_self
    have hi' : Ix cs (rz1 p d).length := fun e he => by rw [rz1_len]; exact hi e (List.mem_cons_of_mem _ he)
    rcases List.mem_cons.mp hc with e | hc
    · subst e
      exact Int.le_trans (rz1_con p c hd.2) (rz_ge cs _ hi' _)
    · have h1 := rz1_ge p d hd.2 c.1
      have h2 := rz_con cs (rz1 p d) hi' c hc
      have h3 : at0 (rz (d :: cs) p) c.2.1 = at0 (rz cs (rz1 p d)) c.2.1 := rfl
      rw [h3]
      omega
theorem rz_fix {cs : List Con} {p : List Int} (hi : Ix cs p.length) (h : rz cs p = p) : Sol cs (at0 p) := fun c hc => by
  have := rz_con cs p hi c hc
  rw [h] at this
  exact this
theorem list_ext0 {p q : List Int} (hl : p.length = q.length) (h : ∀ v, v < p.length → at0 p v = at0 q v) : p = q := by
  refine List.ext_getElem hl fun i h1 h2 => ?_
  have := h i h1
  unfold at0 at this
  rw [List.getD_eq_getElem?_getD, List.getD_eq_getElem?_getD, List.getElem?_eq_getElem h1, List.getElem?_eq_getElem h2] at this
  exact this
/-- what comes out is a solution, between -/
theorem lp_sol {cs : List Con} {N : Nat} (hN : 0 < N) (hi : Ix cs N) : ∀ (n : Nat) (p m : List Int), p.length = N → at0 p 0 = 0 → (∀ v, v < N → 0 ≤ at0 p v) → lp cs n p = some m → m.length = N ∧ Sol cs (at0 m) ∧ at0 m 0 = 0 ∧ (∀ v, v < N → 0 ≤ at0 m v) ∧ ∀ x : Nat → Int, Sol cs x → (∀ v, v < N → at0 p v ≤ x v) → ∀ v, v < N → at0 m v ≤ x v
  | 0, p, m, _, _, _, h => by cases h
  | n + 1, p, m, hl, h0, hp, h => by
    have hi' : Ix cs p.length := by rw [hl]; exact hi
    unfold lp at h
    by_cases q : rz cs p = p
    · rw [if_pos q] at h
      cases h
      exact ⟨hl, rz_fix hi' q, h0, hp, fun x _ hx => hx⟩
    · rw [if_neg q] at h
      by_cases z : 0 < (rz cs p).getD 0 0
      · rw [if_pos z] at h; cases h
      · rw [if_neg z] at h
        have g := rz_ge cs p hi'
        have g0 := g 0
        obtain ⟨a1, a2, a3, a4, a5⟩ := lp_sol hN hi n (rz cs p) m (by rw [rz_len, hl]) (by unfold at0 at *; omega) (fun v hv => Int.le_trans (hp v hv) (g v)) h
        refine ⟨a1, a2, a3, a4, fun x hx hpx => a5 x hx ?_⟩
        have := rz_le cs p hi' x hx (by rw [hl]; exact hpx)
        rw [hl] at this
        exact this
/-! sums -/
def sm (f : Nat → Int) : Nat → Int
  | 0 => 0
  | n + 1 => sm f n + f n
theorem sm_le {f g : Nat → Int} : ∀ n, (∀ v, v < n → f v ≤ g v) → sm f n ≤ sm g n
  | 0, _ => Int.le_refl _
  | n + 1, h => by
    have a := sm_le n fun v hv => h v (by omega)
    have b := h n (by omega)
    show sm f n + f n ≤ sm g n + g n
    omega
theorem sm_lt {f g : Nat → Int} : ∀ n, (∀ v, v < n → f v ≤ g v) → (∃ v, v < n ∧ f v < g v) → sm f n < sm g n
  | 0, _, ⟨v, hv, _⟩ => by omega
  | n + 1, h, ⟨v, hv, hlt⟩ => by
    have b := h n (by omega)
    show sm f n + f n < sm g n + g n
    by_cases q : v = n
    · subst q
      have a := sm_le v fun u hu => h u (by omega)
      omega
    · have a := sm_lt n (fun u hu => h u (by omega)) ⟨v, by omega, hlt⟩
      omega
theorem sm_nn {f : Nat → Int} (n : Nat) (h : ∀ v, v < n → 0 ≤ f v) : 0 ≤ sm f n := by
  have := sm_le (f := fun _ => 0) (g := f) n h
  have z : ∀ n, sm (fun _ => 0) n = 0 := by
    intro n
    induction n with
    | zero => rfl
    | succ n ih => show sm _ n + 0 = 0; rw [ih]; rfl
  rw [z] at this
  exact this
/-- a solution from 0 on, 0 at 0 -/
def Sl0 (cs : List Con) (N : Nat) (x : Nat → Int) : Prop := Sol cs x ∧ x 0 = 0 ∧ ∀ v, v < N → 0 ≤ x v
theorem min_sum {cs : List Con} {N : Nat} : ∀ k : Nat, (∃ S, Sl0 cs N S ∧ sm S N ≤ k) → ∃ S, Sl0 cs N S ∧ ∀ S', Sl0 cs N S' → sm S N ≤ sm S' N
  | 0, ⟨S, h1, h2⟩ => ⟨S, h1, fun S' h' => by have := sm_nn N h'.2.2; omega⟩
  | k + 1, ⟨S, h1, h2⟩ => by
    by_cases q : ∃ S, Sl0 cs N S ∧ sm S N ≤ k
    · exact min_sum k q
    · refine ⟨S, h1, fun S' h' => ?_⟩
      have : ¬ sm S' N ≤ k := fun e => q ⟨S', h', e⟩
      omega
/-- how many stand already -/
def cnt (p S : Nat → Int) : Nat → Nat
  | 0 => 0
  | n + 1 => cnt p S n + (if p n < S n then 0 else 1)
theorem cnt_le (p S : Nat → Int) : ∀ n, cnt p S n ≤ n
  | 0 => Nat.le_refl _
  | n + 1 => by
    have := cnt_le p S n
    show cnt p S n + _ ≤ n + 1
    split <;> omega
theorem cnt_mono {p q S : Nat → Int} : ∀ n, (∀ v, v < n → p v ≤ q v) → cnt p S n ≤ cnt q S n
  | 0, _ => Nat.le_refl _
  | n + 1, h => by
    have a := cnt_mono (S := S) n fun v hv => h v (by omega)
    have b := h n (by omega)
    show cnt p S n + _ ≤ cnt q S n + _
    split <;> split <;> omega
theorem cnt_lt {p q S : Nat → Int} : ∀ n, (∀ v, v < n → p v ≤ q v) → (∃ v, v < n ∧ p v < S v ∧ ¬ q v < S v) → cnt p S n < cnt q S n
  | 0, _, ⟨v, hv, _⟩ => by omega
  | n + 1, h, ⟨v, hv, h1, h2⟩ => by
    have b := h n (by omega)
    show cnt p S n + _ < cnt q S n + _
    by_cases e : v = n
    · subst e
      have a := cnt_mono (S := S) v fun u hu => h u (by omega)
      rw [if_pos h1, if_neg h2]
      omega
    · have a := cnt_lt n (fun u hu => h u (by omega)) ⟨v, by omega, h1, h2⟩
      split <;> split <;> omega
theorem cnt_one {p S : Nat → Int} : ∀ n, (∃ v, v < n ∧ ¬ p v < S v) → 1 ≤ cnt p S n
  | 0, ⟨v, hv, _⟩ => by omega
  | n + 1, ⟨v, hv, h⟩ => by
    show 1 ≤ cnt p S n + _
    by_cases e : v = n
    · subst e; rw [if_neg h]; omega
    · have := cnt_one n ⟨v, by omega, h⟩; omega
theorem lp_go {cs : List Con} {N : Nat} (hN : 0 < N) (hi : Ix cs N) {S : Nat → Int} (hS : Sl0 cs N S) (hm : ∀ S', Sl0 cs N S' → sm S N ≤ sm S' N) : ∀ (n : Nat) (p : List Int), p.length = N → (∀ v, v < N → 0 ≤ at0 p v) → (∀ v, v < N → at0 p v ≤ S v) → N + 1 ≤ cnt (at0 p) S N + n → ∃ m, lp cs n p = some m
  | 0, p, hl, h0, hp, hc => by
    have := cnt_le (at0 p) S N
    omega
  | n + 1, p, hl, h0, hp, hc => by
    have hi' : Ix cs p.length := by rw [hl]; exact hi
    have g := rz_ge cs p hi'
    have l := rz_le cs p hi' S hS.1 (by rw [hl]; exact hp)
    rw [hl] at l
    unfold lp
    by_cases q : rz cs p = p
    · exact ⟨p, if_pos q⟩
    · rw [if_neg q]
      have hz : ¬ 0 < (rz cs p).getD 0 0 := by
        have := l 0 hN
        rw [hS.2.1] at this
        unfold at0 at this
        omega
      rw [if_neg hz]
      by_cases hall : ∃ v, v < N ∧ at0 p v < S v
      · have hnew : ∃ v, v < N ∧ at0 p v < S v ∧ ¬ at0 (rz cs p) v < S v := by
          by_cases w : ∃ v, v < N ∧ at0 p v < S v ∧ ¬ at0 (rz cs p) v < S v
          · exact w
          · exfalso
            have w' : ∀ v, v < N → at0 p v < S v → at0 (rz cs p) v < S v := fun v hv h1 => by
              by_cases h2 : at0 (rz cs p) v < S v
              · exact h2
              · exact absurd ⟨v, hv, h1, h2⟩ w
            obtain ⟨S', hS'⟩ : ∃ S' : Nat → Int, ∀ v, S' v = if at0 p v < S v then S v - 1 else S v := ⟨fun v => if at0 p v < S v then S v - 1 else S v, fun _ => rfl⟩
            have hsol : Sl0 cs N S' := by
              refine ⟨fun c hcs => ?_, ?_, fun v hv => ?_⟩
              · have hcu := (hi c hcs).1
                have hcv := (hi c hcs).2
                have e1 := hS.1 c hcs
                have e2 := rz_con cs p hi' c hcs
                have e3 := hp c.1 hcu
                rw [hS' c.1, hS' c.2.1]
                by_cases y1 : at0 p c.2.1 < S c.2.1
                · rw [if_pos y1]
                  have e4 := w' c.2.1 hcv y1
                  by_cases y2 : at0 p c.1 < S c.1
                  · rw [if_pos y2]; omega
                  · rw [if_neg y2]; omega
                · rw [if_neg y1]
                  split <;> omega
              · have e0 := h0 0 hN
                rw [hS' 0, if_neg (by rw [hS.2.1]; omega)]
                exact hS.2.1
              · have e0 := h0 v hv
                have e1 := hS.2.2 v hv
                rw [hS' v]
                split <;> omega
            have hlt : sm S' N < sm S N := by
              refine sm_lt N (fun v hv => by rw [hS' v]; split <;> omega) ?_
              obtain ⟨v, hv, h1⟩ := hall
              exact ⟨v, hv, by rw [hS' v, if_pos h1]; omega⟩
            have := hm S' hsol
            omega
        have hc2 := cnt_lt N (fun v _ => g v) hnew
        exact lp_go hN hi hS hm n (rz cs p) (by rw [rz_len, hl]) (fun v hv => Int.le_trans (h0 v hv) (g v)) l (by omega)
      · exfalso
        refine q (list_ext0 (by rw [rz_len]) fun v hv => ?_)
        rw [rz_len, hl] at hv
        have a := g v
        have b := l v hv
        have c : ¬ at0 p v < S v := fun e => hall ⟨v, hv, e⟩
        omega
def zs (N : Nat) : List Int := List.replicate N 0
theorem zs_at (N v : Nat) : at0 (zs N) v = 0 := by
  unfold at0 zs
  rw [List.getD_eq_getElem?_getD, List.getElem?_replicate]
  split <;> rfl
/-- none: no solution -/
theorem lp_none {cs : List Con} {N : Nat} (hN : 0 < N) (hi : Ix cs N) (h : lp cs N (zs N) = none) : ¬ ∃ S, Sl0 cs N S := by
  rintro ⟨S0, h0⟩
  obtain ⟨S, hS, hm⟩ := min_sum (sm S0 N).toNat ⟨S0, h0, by have := sm_nn N h0.2.2; omega⟩
  obtain ⟨m, e⟩ := lp_go hN hi hS hm N (zs N) (by simp [zs]) (fun v _ => by rw [zs_at]; exact Int.le_refl _) (fun v hv => by rw [zs_at]; exact hS.2.2 v hv) (by
    have := cnt_one (p := at0 (zs N)) (S := S) N ⟨0, hN, by rw [zs_at, hS.2.1]; omega⟩
    omega)
  rw [e] at h
  cases h
theorem lp_some {cs : List Con} {N : Nat} (hN : 0 < N) (hi : Ix cs N) {m : List Int} (h : lp cs N (zs N) = some m) : m.length = N ∧ Sl0 cs N (at0 m) ∧ ∀ x, Sl0 cs N x → ∀ v, v < N → at0 m v ≤ x v := by
  obtain ⟨a1, a2, a3, a4, a5⟩ := lp_sol hN hi N (zs N) m (by simp [zs]) (zs_at N 0) (fun v _ => by rw [zs_at]; exact Int.le_refl _) h
  exact ⟨a1, ⟨a2, a3, a4⟩, fun x hx => a5 x hx.1 fun v hv => by rw [zs_at]; exact hx.2.2 v hv⟩
end Mir

/-! MathF: longest ways between places (all pairs), in place -/
namespace Mir
open PySem PySem.Spec PyProof.Rows L2
abbrev Wm := Nat → Nat → Int
def mx (x v : Int) : Int := if v > x then v else x
def upW (M : Wm) (i j : Nat) (v : Int) : Wm := fun a b => if a = i ∧ b = j then mx (M i j) v else M a b
def fwJ (k i : Nat) : Nat → Wm → Wm
  | 0, M => M
  | n + 1, M => upW (fwJ k i n M) i n (fwJ k i n M i k + fwJ k i n M k n)
def fwI (N k : Nat) : Nat → Wm → Wm
  | 0, M => M
  | n + 1, M => fwJ k n N (fwI N k n M)
def fwK (N : Nat) : Nat → Wm → Wm
  | 0, M => M
  | n + 1, M => fwI N n N (fwK N n M)
def ini (cs : List Con) : Wm → Wm := fun M => cs.foldl (fun M c => upW M c.1 c.2.1 c.2.2) M
def ini0 : Nat → Wm → Wm
  | 0, M => M
  | n + 1, M => upW (ini0 n M) 0 n 0
theorem le_mx (x v : Int) : x ≤ mx x v ∧ v ≤ mx x v ∧ (mx x v = x ∨ mx x v = v) := by
  unfold mx
  split <;> omega
theorem upW_le (M : Wm) (i j : Nat) (v : Int) (a b : Nat) : M a b ≤ upW M i j v a b := by
  unfold upW
  split
  · rename_i h
    obtain ⟨rfl, rfl⟩ := h
    exact (le_mx _ _).1
  · exact Int.le_refl _
theorem upW_at (M : Wm) (i j : Nat) (v : Int) : v ≤ upW M i j v i j := by
  unfold upW
  rw [if_pos ⟨rfl, rfl⟩]
  exact (le_mx _ _).2.1
/-- what a solution bounds -/
def Bd2 (N : Nat) (x : Nat → Int) (M : Wm) : Prop := ∀ a b, a < N → b < N → M a b ≤ x b - x a
theorem upW_bd {N : Nat} {x : Nat → Int} {M : Wm} {i j : Nat} {v : Int} (h : Bd2 N x M) (hv : i < N → j < N → v ≤ x j - x i) : Bd2 N x (upW M i j v) := fun a b ha hb => by
  unfold upW
  split
  · rename_i e
    obtain ⟨rfl, rfl⟩ := e
    have := h a b ha hb
    have := hv ha hb
    rcases (le_mx (M a b) v).2.2 with e | e <;> omega
  · exact h a b ha hb
theorem fwJ_bd {N : Nat} {x : Nat → Int} {k i : Nat} (hk : k < N) : ∀ n (M : Wm), Bd2 N x M → Bd2 N x (fwJ k i n M)
  | 0, M, h => h
  | n + 1, M, h => by
    have ih := fwJ_bd (i := i) hk n M h
    refine upW_bd ih fun hi hn => ?_
    have := ih i k hi hk
    have := ih k n hk hn
    omega
theorem fwI_bd {N : Nat} {x : Nat → Int} {k : Nat} (hk : k < N) : ∀ n (M : Wm), Bd2 N x M → Bd2 N x (fwI N k n M)
  | 0, M, h => h
  | n + 1, M, h => fwJ_bd hk N _ (fwI_bd hk n M h)
theorem fwK_bd {N : Nat} {x : Nat → Int} : ∀ n (M : Wm), n ≤ N → Bd2 N x M → Bd2 N x (fwK N n M)
  | 0, M, _, h => h
  | n + 1, M, hn, h => fwI_bd (by omega) N _ (fwK_bd n M (by omega) h)
theorem fwJ_le (k i : Nat) : ∀ n (M : Wm) a b, M a b ≤ fwJ k i n M a b
  | 0, M, a, b => Int.le_refl _
  | n + 1, M, a, b => Int.le_trans (fwJ_le k i n M a b) (upW_le _ _ _ _ _ _)
theorem fwI_le (N k : Nat) : ∀ n (M : Wm) a b, M a b ≤ fwI N k n M a b
  | 0, M, a, b => Int.le_refl _
  | n + 1, M, a, b => Int.le_trans (fwI_le N k n M a b) (fwJ_le _ _ _ _ _ _)
theorem fwK_le (N : Nat) : ∀ n (M : Wm) a b, M a b ≤ fwK N n M a b
  | 0, M, a, b => Int.le_refl _
  | n + 1, M, a, b => Int.le_trans (fwK_le N n M a b) (fwI_le _ _ _ _ _ _)
theorem fwK_mono (N : Nat) (M : Wm) (a b : Nat) : ∀ n m, n ≤ m → fwK N n M a b ≤ fwK N m M a b
  | n, 0, h => by rw [show n = 0 by omega]; exact Int.le_refl _
  | n, m + 1, h => by
    by_cases e : n = m + 1
    · rw [e]; exact Int.le_refl _
    · exact Int.le_trans (fwK_mono N M a b n m (by omega)) (fwI_le _ _ _ _ _ _)
/-- where k's own way is not above zero, a stage is all at once -/
theorem fwJ_eq {k i : Nat} (M : Wm) (h0 : M k k ≤ 0) : ∀ n a b, fwJ k i n M a b = if a = i ∧ b < n then mx (M i b) (M i k + M k b) else M a b
  | 0, a, b => by rw [if_neg (by omega)]; rfl
  | n + 1, a, b => by
    have ih := fwJ_eq (i := i) M h0 n
    have e1 : fwJ k i n M i k = M i k := by
      rw [ih i k]
      split
      · have := le_mx (M i k) (M i k + M k k)
        unfold mx
        split <;> omega
      · rfl
    have e2 : fwJ k i n M k n = M k n := by rw [ih k n, if_neg (by omega)]
    have e3 : fwJ k i n M i n = M i n := by rw [ih i n, if_neg (by omega)]
    show upW (fwJ k i n M) i n (fwJ k i n M i k + fwJ k i n M k n) a b = _
    rw [e1, e2]
    unfold upW
    rw [e3]
    by_cases h : a = i ∧ b = n
    · rw [if_pos h, if_pos (by omega)]
      rw [h.2]
    · rw [if_neg h, ih a b]
      by_cases h2 : a = i ∧ b < n
      · rw [if_pos h2, if_pos (by omega)]
      · rw [if_neg h2, if_neg (by omega)]
theorem fwI_eq {N k : Nat} (M : Wm) (h0 : M k k ≤ 0) : ∀ n a b, b < N → k < N → fwI N k n M a b = if a < n then mx (M a b) (M a k + M k b) else M a b
  | 0, a, b, _, _ => by rw [if_neg (by omega)]; rfl
  | n + 1, a, b, hb, hk => by
    have ih := fwI_eq (N := N) M h0 n
    have z : ∀ a', mx (M a' k) (M a' k + M k k) = M a' k := fun a' => by unfold mx; split <;> omega
    have kk : fwI N k n M k k ≤ 0 := by
      rw [ih k k hk hk]
      split
      · rw [z]; exact h0
      · exact h0
    have kr : fwI N k n M k b = M k b := by
      rw [ih k b hb hk]
      split
      · unfold mx; split <;> omega
      · rfl
    show fwJ k n N (fwI N k n M) a b = _
    rw [fwJ_eq _ kk]
    have en : fwI N k n M n b = M n b := by rw [ih n b hb hk, if_neg (by omega)]
    have enk : fwI N k n M n k = M n k := by rw [ih n k hk hk, if_neg (by omega)]
    by_cases h : a = n
    · subst h
      rw [if_pos ⟨rfl, hb⟩, en, enk, kr, if_pos (by omega)]
    · rw [if_neg (by omega), ih a b hb hk]
      by_cases h2 : a < n
      · rw [if_pos h2, if_pos (by omega)]
      · rw [if_neg h2, if_neg (by omega)]
/-- no way is longer by a stop between -/
theorem closed {N : Nat} (M : Wm) (h0 : ∀ a, a < N → fwK N N M a a ≤ 0) : ∀ n, n ≤ N → ∀ a b m, a < N → b < N → m < n → fwK N n M a m + fwK N n M m b ≤ fwK N n M a b
  | 0, _, a, b, m, _, _, hm => by omega
  | n + 1, hn, a, b, m, ha, hb, hm => by
    have ih := closed M h0 n (by omega)
    obtain ⟨F, hF⟩ : ∃ F, F = fwK N n M := ⟨_, rfl⟩
    have d : ∀ c, c < N → F c c ≤ 0 := fun c hc => by rw [hF]; exact Int.le_trans (fwK_mono N M c c n N (by omega)) (h0 c hc)
    have e : ∀ a b, a < N → b < N → fwK N (n + 1) M a b = mx (F a b) (F a n + F n b) := fun a b ha hb => by
      show fwI N n N (fwK N n M) a b = _
      rw [← hF, fwI_eq F (d n (by omega)) N a b hb (by omega), if_pos ha]
    rw [← hF] at ih
    have mN : m < N := by omega
    rw [e a m ha mN, e m b mN hb, e a b ha hb]
    have q1 := le_mx (F a m) (F a n + F n m)
    have q2 := le_mx (F m b) (F m n + F n b)
    have q3 := le_mx (F a b) (F a n + F n b)
    by_cases hmn : m = n
    · subst hmn
      have dm := d m mN
      rcases q1.2.2 with r1 | r1 <;> rcases q2.2.2 with r2 | r2 <;> rw [r1, r2] <;> omega
    · have lt : m < n := by omega
      have nN : n < N := by omega
      have i1 := ih a b m ha hb lt
      have i2 := ih a n m ha nN lt
      have i3 := ih n b m nN hb lt
      have i4 := ih n n m nN nN lt
      have i5 := d n nN
      rcases q1.2.2 with r1 | r1 <;> rcases q2.2.2 with r2 | r2 <;> rw [r1, r2] <;> omega
theorem ini_bd {N : Nat} {x : Nat → Int} : ∀ (cs : List Con) (M : Wm), Bd2 N x M → Sol cs x → Bd2 N x (ini cs M)
  | [], M, h, _ => h
  | c :: cs, M, h, hs => ini_bd cs (upW M c.1 c.2.1 c.2.2) (upW_bd h fun _ _ => by have := hs c List.mem_cons_self; omega) fun d hd => hs d (List.mem_cons_of_mem _ hd)
theorem ini_le : ∀ (cs : List Con) (M : Wm) a b, M a b ≤ ini cs M a b
  | [], M, a, b => Int.le_refl _
  | c :: cs, M, a, b => Int.le_trans (upW_le M c.1 c.2.1 c.2.2 a b) (ini_le cs _ a b)
theorem ini_at : ∀ (cs : List Con) (M : Wm), ∀ c ∈ cs, c.2.2 ≤ ini cs M c.1 c.2.1
  | d :: cs, M, c, hc => by
    rcases List.mem_cons.mp hc with rfl | hc
    · exact Int.le_trans (upW_at M c.1 c.2.1 c.2.2) (ini_le cs _ _ _)
    · exact ini_at cs _ c hc
theorem ini0_bd {N : Nat} {x : Nat → Int} (hx : x 0 = 0) (h0 : ∀ v, v < N → 0 ≤ x v) : ∀ n (M : Wm), n ≤ N → Bd2 N x M → Bd2 N x (ini0 n M)
  | 0, M, _, h => h
  | n + 1, M, hn, h => upW_bd (ini0_bd hx h0 n M (by omega) h) fun _ hn' => by have := h0 n hn'; omega
theorem ini0_le : ∀ n (M : Wm) a b, M a b ≤ ini0 n M a b
  | 0, M, a, b => Int.le_refl _
  | n + 1, M, a, b => Int.le_trans (ini0_le n M a b) (upW_le _ _ _ _ _ _)
theorem ini0_at : ∀ n (M : Wm) b, b < n → 0 ≤ ini0 n M 0 b
  | n + 1, M, b, hb => by
    by_cases e : b = n
    · subst e
      exact upW_at _ _ _ _
    · exact Int.le_trans (ini0_at n M b (by omega)) (upW_le _ _ _ _ _ _)
def ways (N : Nat) (cs : List Con) : Wm := fwK N N (ini0 N (ini cs fun _ _ => -1000))
/-- solvable: no way back to where it began is longer than nothing -/
theorem ways_ok {N : Nat} {cs : List Con} (hN : 0 < N) (hi : Ix cs N) (h : ∀ a, a < N → ways N cs a a ≤ 0) : ∃ S, Sl0 cs N S := by
  have cl := closed (N := N) (ini0 N (ini cs fun _ _ => -1000)) h N (Nat.le_refl _)
  have z : ways N cs 0 0 = 0 := by
    have a1 := h 0 hN
    have a2 := Int.le_trans (ini0_at N (ini cs fun _ _ => -1000) 0 hN) (fwK_le N N _ 0 0)
    unfold ways at a1 ⊢
    omega
  refine ⟨fun b => ways N cs 0 b, fun c hc => ?_, z, fun v hv => Int.le_trans (ini0_at N _ v hv) (fwK_le N N _ 0 v)⟩
  obtain ⟨c1, c2⟩ := hi c hc
  have a1 := Int.le_trans (Int.le_trans (ini_at cs (fun _ _ => -1000) c hc) (ini0_le N _ _ _)) (fwK_le N N _ c.1 c.2.1)
  have a2 := cl 0 c.2.1 c.1 hN c2 c1
  show ways N cs 0 c.1 + c.2.2 ≤ ways N cs 0 c.2.1
  unfold ways
  omega
theorem ways_no {N : Nat} {cs : List Con} {x : Nat → Int} (hx : Sl0 cs N x) (hb : ∀ v, v < N → x v ≤ 1000) : ∀ a, a < N → ways N cs a a ≤ 0 := fun a ha => by
  obtain ⟨h1, h2, h3⟩ := hx
  have := fwK_bd (N := N) (x := x) N _ (Nat.le_refl _) (ini0_bd h2 h3 N _ (Nat.le_refl _) (ini_bd cs (fun _ _ => -1000) (fun a b ha hb' => by have := h3 b hb'; have := hb a ha; show (-1000 : Int) ≤ x b - x a; omega) h1)) a a ha ha
  unfold ways
  omega
end Mir

/-! MathC: more meanings evaluated -/
namespace Mir
open PySem PySem.Spec PyProof.Rows L2
section
variable {f g : En → Option PyData} {fa : En → Option (List PyData)} {env : En} {ds : List PyData}
theorem cut_pre {ds : List PyData} (n : Nat) (h : n ≤ ds.length) : cutL ds none (some (n : Int)) = ds.take n := by
  unfold cutL
  rw [HT.sIx_none, HT.sIx_nat]
  simp [Nat.min_eq_left h]
theorem cut_post {ds : List PyData} (n : Nat) (h : n ≤ ds.length) : cutL ds (some (n : Int)) none = ds.drop n := by
  unfold cutL
  rw [HT.sIx_none, HT.sIx_nat, Nat.min_eq_left h]
  rw [List.take_of_length_le (by simp)]
theorem cut_mid {ds : List PyData} (m n : Nat) (h : m ≤ n) (h2 : n ≤ ds.length) : cutL ds (some (m : Int)) (some (n : Int)) = (ds.drop m).take (n - m) := by
  unfold cutL
  rw [HT.sIx_nat, HT.sIx_nat, Nat.min_eq_left h2, Nat.min_eq_left (Nat.le_trans h h2)]
theorem oSome_ev {k : Int} (h : g env = some (.int k)) : oSome g env = some (some k) := by
  unfold oSome
  rw [h]
theorem slT_pre {n : Nat} {k : Int} (h1 : f env = some (.tuple ds)) (h2 : g env = some (.int k)) (hk : k = (n : Nat)) (h3 : n ≤ ds.length) : eSl f oNone (oSome g) env = some (.tuple (ds.take n)) := by
  subst hk
  unfold eSl
  rw [h1, oSome_ev h2]
  show some (PyData.tuple (cutL ds none (some (n : Int)))) = _
  rw [cut_pre n h3]
theorem slT_post {n : Nat} {k : Int} (h1 : f env = some (.tuple ds)) (h2 : g env = some (.int k)) (hk : k = (n : Nat)) (h3 : n ≤ ds.length) : eSl f (oSome g) oNone env = some (.tuple (ds.drop n)) := by
  subst hk
  unfold eSl
  rw [h1, oSome_ev h2]
  show some (PyData.tuple (cutL ds (some (n : Int)) none)) = _
  rw [cut_post n h3]
theorem slL_pre {n : Nat} {k : Int} (h1 : f env = some (.list ds)) (h2 : g env = some (.int k)) (hk : k = (n : Nat)) (h3 : n ≤ ds.length) : eSl f oNone (oSome g) env = some (.list (ds.take n)) := by
  subst hk
  unfold eSl
  rw [h1, oSome_ev h2]
  show some (PyData.list (cutL ds none (some (n : Int)))) = _
  rw [cut_pre n h3]
theorem slL_post {n : Nat} {k : Int} (h1 : f env = some (.list ds)) (h2 : g env = some (.int k)) (hk : k = (n : Nat)) (h3 : n ≤ ds.length) : eSl f (oSome g) oNone env = some (.list (ds.drop n)) := by
  subst hk
  unfold eSl
  rw [h1, oSome_ev h2]
  show some (PyData.list (cutL ds (some (n : Int)) none)) = _
  rw [cut_post n h3]
theorem zipD_map {α β : Type} (u : α → PyData) (v : β → PyData) : ∀ (xs : List α) (ys : List β), zipD (xs.map u) (ys.map v) = (xs.zip ys).map fun q => .tuple [u q.1, v q.2]
  | [], _ => by simp [zipD]
  | _ :: _, [] => by simp [zipD]
  | x :: xs, y :: ys => by
    simp only [List.map_cons, zipD, List.zip_cons_cons]
    rw [zipD_map u v xs ys]
theorem sumA_ev {ns : List Int} (h : fa env = some [.list (ns.map .int)]) : eCall sumA fa env = some (.int ns.sum) := by
  unfold eCall
  rw [h]
  show (intsD (ns.map PyData.int)).map (fun ns => PyData.int ns.sum) = _
  rw [intsD_map]
  rfl
theorem loopF_step {g : PyData → En → Option En} {b : En → Out} {d : PyData} {ds : List PyData} {e e1 e2 : En} (h1 : g d e = some e1) (h2 : b e1 = .nx e2) : loopF g b (d :: ds) e = loopF g b ds e2 := by
  simp only [loopF, h1, h2]
theorem e1_ev {k : PyData → Option PyData} {d x : PyData} (h1 : f env = some x) (h2 : k x = some d) : e1 k f env = some d := by
  unfold e1
  rw [h1]
  exact h2
theorem ixG_t {j : Nat} {k : Int} {d : PyData} (h : ds[j]? = some d) (hk : k = (j : Nat)) : ixG (.tuple ds) (.int k) = some d := by subst hk; exact atI_nat h
theorem ixG_l {j : Nat} {k : Int} {d : PyData} (h : ds[j]? = some d) (hk : k = (j : Nat)) : ixG (.list ds) (.int k) = some d := by subst hk; exact atI_nat h
theorem len_l {i : En → Option PyData} (h : i env = some (.list ds)) : eCall lenA (aCons i aNil) env = some (.int (ds.length : Nat)) := by
  refine eCall_ev (aCons_ev h aNil_ev) ?_
  simp [lenA]
theorem len_t {i : En → Option PyData} (h : i env = some (.tuple ds)) : eCall lenA (aCons i aNil) env = some (.int (ds.length : Nat)) := by
  refine eCall_ev (aCons_ev h aNil_ev) ?_
  simp [lenA]
theorem eMinK_ev {gk : List PyData → Option PyData} {qs : List (PyData × PyData)} {d : PyData} (h1 : f env = some (.list (qs.map (·.1)))) (h2 : keysD gk (qs.map (·.1)) = some qs) (h3 : keysB qs = true) (h4 : 0 < qs.length) (h5 : (bestK qs (qs.length - 1)).1 = d) : eMinK gk f env = some d := by
  unfold eMinK
  rw [h1]
  simp only
  rw [h2]
  simp only
  rw [if_pos ⟨h3, h4⟩, h5]
theorem keysD_map {α : Type} {gk : List PyData → Option PyData} {u k : α → PyData} : ∀ {xs : List α}, (∀ x ∈ xs, gk [u x] = some (k x)) → keysD gk (xs.map u) = some (xs.map fun x => (u x, k x))
  | [], _ => rfl
  | x :: xs, h => by
    simp only [List.map_cons, keysD]
    rw [h x List.mem_cons_self, keysD_map fun y hy => h y (List.mem_cons_of_mem _ hy)]
    rfl
theorem keysB_map {α : Type} {u k : α → PyData} {xs : List α} (h1 : ∀ x ∈ xs, noD (k x) = true ∧ (k x).depth ≤ 60 ∧ k x ≠ .none) (h2 : ∀ x ∈ xs, ∀ y ∈ xs, PySem.W.alike (k x) (k y) = true) : keysB (xs.map fun x => (u x, k x)) = true := by
  unfold keysB
  rw [List.all_eq_true]
  intro q hq
  obtain ⟨x, hx, rfl⟩ := List.mem_map.mp hq
  obtain ⟨n1, n2, n3⟩ := h1 x hx
  rw [Bool.and_eq_true, Bool.and_eq_true, List.all_eq_true]
  refine ⟨⟨by simp [keyOk, n1, n2], ?_⟩, fun q' hq' => ?_⟩
  · show (match k x with | .none => false | _ => true) = true
    cases e : k x with
    | none => exact absurd e n3
    | _ => rfl
  · obtain ⟨y, hy, rfl⟩ := List.mem_map.mp hq'
    exact h2 x hx y hy
end
section
variable {κ : Type} [DecidableEq κ] {kd : κ → PyData} {kk : PyData → Option κ}
theorem getD_cons {k : κ} {p : PyData × PyData} {kvs : List (PyData × PyData)} : getD' kk (p :: kvs) k = if kk p.1 = some k then some p.2 else getD' kk kvs k := by
  unfold getD'
  rw [List.find?_cons]
  by_cases h : kk p.1 = some k
  · rw [if_pos h, decide_eq_true h]; rfl
  · rw [if_neg h, decide_eq_false h]
theorem get_app (hk : ∀ k, kk (kd k) = some k) {k q : κ} {d : PyData} : ∀ {kvs : List (PyData × PyData)}, (kvs.any fun p => decide (kk p.1 = some k)) = false → getD' kk (kvs ++ [(kd k, d)]) q = if q = k then some d else getD' kk kvs q
  | [], _ => by
    rw [List.nil_append, getD_cons]
    by_cases h : q = k
    · rw [if_pos h, if_pos (by rw [h]; exact hk k)]
    · rw [if_neg h, if_neg fun z => by rw [hk] at z; exact h (Option.some.inj z).symm]
  | p :: kvs, h => by
    rw [List.any_cons, Bool.or_eq_false_iff] at h
    have h1 : kk p.1 ≠ some k := of_decide_eq_false h.1
    rw [List.cons_append, getD_cons, getD_cons, get_app hk h.2]
    by_cases z : kk p.1 = some q
    · rw [if_pos z, if_pos z, if_neg fun e => h1 (by rw [z, e])]
    · rw [if_neg z, if_neg z]
theorem get_map {k q : κ} {d : PyData} : ∀ {kvs : List (PyData × PyData)}, getD' kk (kvs.map fun p => if kk p.1 = some k then (p.1, d) else p) q = if q = k then (if (kvs.any fun p => decide (kk p.1 = some k)) = true then some d else none) else getD' kk kvs q
  | [] => by
    by_cases h : q = k
    · rw [if_pos h]; rfl
    · rw [if_neg h]; rfl
  | p :: kvs => by
    rw [List.map_cons, getD_cons, get_map (kvs := kvs), getD_cons]
    by_cases z : kk p.1 = some k
    · rw [if_pos z]
      by_cases h : q = k
      · subst h; simp [z]
      · have h' : ¬ (some k = some q) := fun e => h (Option.some.inj e).symm
        simp [z, h, h']
    · rw [if_neg z]
      by_cases h : q = k
      · subst h
        rw [if_neg z, if_pos rfl, if_pos rfl, List.any_cons, decide_eq_false z, Bool.false_or]
      · simp [h]
theorem get_put (hk : ∀ k, kk (kd k) = some k) {k q : κ} {d : PyData} {kvs : List (PyData × PyData)} : getD' kk (putD kd kk kvs k d) q = if q = k then some d else getD' kk kvs q := by
  unfold putD
  by_cases h : (kvs.any fun p => decide (kk p.1 = some k)) = true
  · rw [if_pos h, get_map, if_pos h]
  · rw [if_neg h]
    exact get_app hk (by simpa using h)
theorem put_len {k : κ} {d : PyData} {kvs : List (PyData × PyData)} : (putD kd kk kvs k d).length ≤ kvs.length + 1 := by
  unfold putD
  split <;> simp
theorem getO_ev {i : Nat} {g : En → Option PyData} {env : En} {kvs : List (PyData × PyData)} {q : Key} {k d : PyData} (h1 : env[i]? = some (.ownK kvs)) (h2 : g env = some k) (h3 : kK k = some q) (h4 : getD' kK kvs q = some d) : eGetO i g env = some d := by
  unfold eGetO
  rw [h1]
  simp only
  rw [h2]
  simp only
  rw [h3]
  exact h4
theorem putK_ev {i : Nat} {fk f : En → Option PyData} {env : En} {kvs : List (PyData × PyData)} {q : Key} {k d : PyData} (h1 : f env = some d) (h2 : fk env = some k) (h3 : env[i]? = some (.ownK kvs)) (h4 : kK k = some q) (h5 : kvs.length < 1000000) : sPutD i fk f env = .nx (env.set i (.ownK (putD kdD kK kvs q d))) := by
  unfold sPutD
  rw [h1]
  simp only
  rw [h2]
  simp only
  rw [h3]
  simp only
  rw [h4]
  simp only
  rw [if_pos h5]
theorem chI_t {k1 k2 : Int → Int → Bool} {f g h : En → Option PyData} {env : En} {i j m : Int} (h1 : f env = some (.int i)) (h2 : g env = some (.int j)) (h3 : h env = some (.int m)) (h4 : k1 i j = true) : chI k1 k2 f g h env = some (.bool (k2 j m)) := by
  unfold chI
  rw [h1]
  simp only
  rw [h2]
  simp only
  rw [if_pos h4, h3]
end
/-! loops that look for the first that decides -/
section
theorem loop_find {α : Type} {g : PyData → En → Option En} {b : En → Out} (c : α → PyData) (o : α → Option PyData) (E : En → Prop) : ∀ (xs : List α) (e : En), E e →
    (∀ x ∈ xs, ∀ e, E e → ∃ e1, g (c x) e = some e1 ∧ match o x with | none => ∃ e2, b e1 = .nx e2 ∧ E e2 | some v => b e1 = .rt v) →
    match xs.findSome? o with | none => ∃ e', loopF g b (xs.map c) e = .nx e' ∧ E e' | some v => loopF g b (xs.map c) e = .rt v
  | [], e, he, _ => ⟨e, rfl, he⟩
  | x :: xs, e, he, h => by
    obtain ⟨e1, h1, h2⟩ := h x List.mem_cons_self e he
    rw [List.findSome?_cons]
    cases ho : o x with
    | some v =>
      rw [ho] at h2
      show loopF g b (c x :: xs.map c) e = .rt v
      simp only [loopF, h1, show b e1 = .rt v from h2]
    | none =>
      rw [ho] at h2
      obtain ⟨e2, h3, h4⟩ := h2
      have ih := loop_find c o E xs e2 h4 fun y hy => h y (List.mem_cons_of_mem _ hy)
      have st : loopF g b ((x :: xs).map c) e = loopF g b (xs.map c) e2 := by
        show loopF g b (c x :: xs.map c) e = _
        simp only [loopF, h1, h3]
      rw [st]
      exact ih
theorem rngD_map (lo : Int) (n : Nat) : rngD lo n = (List.range n).map fun k : Nat => PyData.int (lo + (k : Nat)) := rfl
theorem cond_find {α : Type} (p : α → Bool) (v : PyData) : ∀ xs : List α, xs.findSome? (fun x => if p x = true then some v else none) = if xs.any p = true then some v else none
  | [] => rfl
  | x :: xs => by
    rw [List.findSome?_cons, List.any_cons]
    cases h : p x with
    | true => simp
    | false => simpa using cond_find p v xs
end
end Mir

namespace K08
open PySem PySem.Spec PyProof.Rows L2 Mir
def topS (i : Nat) : Stmt := PySem.Challenge.pw_boundbook_k08_least_positions.main.body.getD i (.Pass ⟨0, 0, 0, 0⟩)
abbrev s_raised : Stmt := topS 1
abbrev N_raised : List Str := ["positions", "constraints", "higher", "first", "second", "distance"]
theorem sc_raised : FnScope N_raised ["positions", "constraints"] (defScope s_raised) := ⟨rfl, rfl, rfl, by decide +kernel, rfl, by decide +kernel, by decide +kernel⟩
abbrev s_least_positions : Stmt := topS 2
abbrev N_least_positions : List Str := ["count", "constraints", "positions", "_", "higher"]
theorem sc_least_positions : FnScope N_least_positions ["count", "constraints"] (defScope s_least_positions) := ⟨rfl, rfl, rfl, by decide +kernel, rfl, by decide +kernel, by decide +kernel⟩
abbrev s_contradiction : Stmt := topS 3
abbrev N_contradiction : List Str := ["count", "constraints", "left", "number", "others", "other"]
theorem sc_contradiction : FnScope N_contradiction ["count", "constraints"] (defScope s_contradiction) := ⟨rfl, rfl, rfl, by decide +kernel, rfl, by decide +kernel, by decide +kernel⟩
abbrev s_Lcell : Stmt := topS 5
abbrev N_Lcell : List Str := ["script", "k"]
theorem sc_Lcell : FnScope N_Lcell ["script", "k"] (defScope s_Lcell) := ⟨rfl, rfl, rfl, by decide +kernel, rfl, by decide +kernel, by decide +kernel⟩
abbrev s_Ldraws : Stmt := topS 6
abbrev N_Ldraws : List Str := ["cell", "count", "found", "is_wide", "k", "mixed"]
theorem sc_Ldraws : FnScope N_Ldraws ["cell", "count"] (defScope s_Ldraws) := ⟨rfl, rfl, rfl, by decide +kernel, rfl, by decide +kernel, by decide +kernel⟩
abbrev s_Lleast : Stmt := topS 7
abbrev N_Lleast : List Str := ["lists", "best", "lines", "k"]
theorem sc_Lleast : FnScope N_Lleast ["lists"] (defScope s_Lleast) := ⟨rfl, rfl, rfl, by decide +kernel, rfl, by decide +kernel, by decide +kernel⟩
abbrev s_Lconstraints : Stmt := topS 8
abbrev N_Lconstraints : List Str := ["script", "count", "found", "k", "draws", "first", "second"]
theorem sc_Lconstraints : FnScope N_Lconstraints ["script", "count"] (defScope s_Lconstraints) := ⟨rfl, rfl, rfl, by decide +kernel, rfl, by decide +kernel, by decide +kernel⟩
abbrev s_Lall : Stmt := topS 9
abbrev N_Lall : List Str := ["count", "most", "found", "k", "longer", "lines", "line"]
theorem sc_Lall : FnScope N_Lall ["count", "most"] (defScope s_Lall) := ⟨rfl, rfl, rfl, by decide +kernel, rfl, by decide +kernel, by decide +kernel⟩
abbrev s_Lmet : Stmt := topS 10
abbrev N_Lmet : List Str := ["positions", "constraints", "first", "second", "distance"]
theorem sc_Lmet : FnScope N_Lmet ["positions", "constraints"] (defScope s_Lmet) := ⟨rfl, rfl, rfl, by decide +kernel, rfl, by decide +kernel, by decide +kernel⟩
abbrev s_Lsolvable : Stmt := topS 11
abbrev N_Lsolvable : List Str := ["count", "constraints", "ways", "first", "second", "distance", "one", "middle", "other"]
theorem sc_Lsolvable : FnScope N_Lsolvable ["count", "constraints"] (defScope s_Lsolvable) := ⟨rfl, rfl, rfl, by decide +kernel, rfl, by decide +kernel, by decide +kernel⟩
abbrev s_Lleft : Stmt := topS 12
abbrev N_Lleft : List Str := ["count", "constraints", "left", "k", "others", "other"]
theorem sc_Lleft : FnScope N_Lleft ["count", "constraints"] (defScope s_Lleft) := ⟨rfl, rfl, rfl, by decide +kernel, rfl, by decide +kernel, by decide +kernel⟩
abbrev s_law : Stmt := topS 13
abbrev N_law : List Str := ["script", "count", "constraints", "met", "told", "against", "positions"]
theorem sc_law : FnScope N_law ["script"] (defScope s_law) := ⟨rfl, rfl, rfl, by decide +kernel, rfl, by decide +kernel, by decide +kernel⟩
/-! ### what each def does to data -/
def b_raised_1 : En → Out := (sIf (t1 (e2 ltD (eIxO 2 (eVar 4)) (e2 addD (eIxO 2 (eVar 3)) (eVar 5)))) (sPut 2 (eVar 4) (e2 addD (eIxO 2 (eVar 3)) (eVar 5))) sNil)
def f_raised : En → Out := (sSeq (sOwn 2 (fList (eVar 0))) (sSeq (sFor (iSeq (eVar 1)) (gT [3, 4, 5]) b_raised_1) (fun env => (sRet (eVar 2)) (frz 2 env))))
def g_raised : List PyData → Option PyData := gDef 2 6 f_raised
def b_least_positions_1 : En → Out := (sSeq (sSet 4 (eCall g_raised (aCons (eVar 2) (aCons (eVar 1) aNil)))) (sSeq (sIf (t1 (e2 eqD (eVar 4) (eVar 2))) (sRet (eVar 2)) sNil) (sSeq (sIf (t1 (e2 gtD (e2 ixG (eVar 4) (eC (.int 0))) (eC (.int 0)))) (sRet (eC .none)) sNil) (sSet 2 (eVar 4)))))
def f_least_positions : En → Out := (sSeq (sSet 2 (eL (fRep (fLst (aCons (eC (.int 0)) aNil)) (eVar 0)))) (sSeq (sFor (iR1 (aCons (eVar 0) aNil)) (gVal 3) b_least_positions_1) (sRet (eC .none))))
def g_least_positions : List PyData → Option PyData := gDef 2 5 f_least_positions
def c_contradiction_1 : En → Option PyData := (eVar 5)
def t_contradiction_1 : En → Option Bool := (t1 (e2 neD (eVar 5) (eVar 3)))
def c_contradiction_2 : En → Option PyData := (e2 ixG (eVar 1) (eVar 5))
def b_contradiction_1 : En → Out := (sSeq (sSet 4 (eL (fCmp [5] (iSeq (eVar 2)) (gVal 5) t_contradiction_1 c_contradiction_1))) (sIf (t1 (e2 isD (eCall g_least_positions (aCons (eVar 0) (aCons (eL (fCmp [5] (iSeq (eVar 4)) (gVal 5) tYes' c_contradiction_2)) aNil))) (eC .none))) (sSet 2 (eVar 4)) sNil))
def f_contradiction : En → Out := (sSeq (sIf (t1 (e2 isntD (eCall g_least_positions (aCons (eVar 0) (aCons (eVar 1) aNil))) (eC .none))) (sRet (eC .none)) sNil) (sSeq (sSet 2 (eL (fRng1 (eCall lenA (aCons (eVar 1) aNil))))) (sSeq (sFor (iR1 (aCons (eCall lenA (aCons (eVar 1) aNil)) aNil)) (gVal 3) b_contradiction_1) (sRet (eVar 2)))))
def g_contradiction : List PyData → Option PyData := gDef 2 6 f_contradiction
def f_Lcell : En → Out := (sSeq (sIf (t1 (e2 ltD (eVar 1) (eCall lenA (aCons (eVar 0) aNil)))) (sRet (e2 ixG (eVar 0) (eVar 1))) sNil) (sRet (eC (.int 0))))
def g_Lcell : List PyData → Option PyData := gDef 2 2 f_Lcell
def b_Ldraws_1 : En → Out := (sIf (tTr (eVar 3)) (sSeq (sApp 2 (e2 modD (eVar 0) (eC (.int 1009)))) (sSet 0 (e2 divD (eVar 0) (eC (.int 1009))))) (sSeq (sSet 5 (e2 modD (e2 addD (e2 mulD (eVar 0) (eC (.int 48271))) (e2 mulD (eVar 4) (eC (.int 69621)))) (eC (.int 2147483647)))) (sApp 2 (e2 modD (e2 addD (e2 addD (e2 mulD (eVar 5) (eVar 5)) (e2 mulD (eVar 0) (eC (.int 31)))) (eVar 4)) (eC (.int 1000003))))))
def f_Ldraws : En → Out := (sSeq (sOwn 2 (fLst aNil)) (sSeq (sSet 3 (e2 geD (eVar 0) (e2 powD (eC (.int 10)) (eC (.int 18))))) (sSeq (sFor (iR1 (aCons (eVar 1) aNil)) (gVal 4) b_Ldraws_1) (fun env => (sRet (eVar 2)) (frz 2 env)))))
def g_Ldraws : List PyData → Option PyData := gDef 2 6 f_Ldraws
def b_Lleast_1 : En → Out := (sPut 1 (eVar 3) (eCall mn2 (aCons (eIxO 1 (eVar 3)) (aCons (e2 ixG (eVar 2) (eVar 3)) aNil))))
def b_Lleast_2 : En → Out := (sFor (iR1 (aCons (eCall lenA (aCons (eBor 1) aNil)) aNil)) (gVal 3) b_Lleast_1)
def f_Lleast : En → Out := (sSeq (sOwn 1 (fList (e2 ixG (eVar 0) (eC (.int 0))))) (sSeq (sFor (iSeq (eVar 0)) (gVal 2) b_Lleast_2) (sRet (eTupO 1))))
def g_Lleast : List PyData → Option PyData := gDef 1 4 f_Lleast
def b_Lconstraints_1 : En → Out := (sSeq (sSet 4 (eCall g_Ldraws (aCons (eCall g_Lcell (aCons (eVar 0) (aCons (e2 addD (eC (.int 2)) (eVar 3)) aNil))) (aCons (eC (.int 3)) aNil)))) (sSeq (sSet 5 (e2 modD (e2 ixG (eVar 4) (eC (.int 0))) (eVar 1))) (sSeq (sSet 6 (e2 modD (e2 addD (e2 addD (eVar 5) (eC (.int 1))) (e2 modD (e2 ixG (eVar 4) (eC (.int 1))) (e2 subD (eVar 1) (eC (.int 1))))) (eVar 1))) (sApp 2 (eTup (aCons (eVar 5) (aCons (eVar 6) (aCons (e2 subD (e2 modD (e2 ixG (eVar 4) (eC (.int 2))) (eC (.int 10))) (eC (.int 4))) aNil))))))))
def f_Lconstraints : En → Out := (sSeq (sOwn 2 (fLst aNil)) (sSeq (sFor (iR1 (aCons (e2 modD (eCall g_Lcell (aCons (eVar 0) (aCons (eC (.int 1)) aNil))) (eC (.int 8))) aNil)) (gVal 3) b_Lconstraints_1) (fun env => (sRet (eVar 2)) (frz 2 env))))
def g_Lconstraints : List PyData → Option PyData := gDef 2 7 f_Lconstraints
def b_Lall_1 : En → Out := (sApp 4 (e2 addD (eVar 5) (eTup (aCons (eVar 6) aNil))))
def b_Lall_2 : En → Out := (sFor (iR1 (aCons (e2 addD (eVar 1) (eC (.int 1))) aNil)) (gVal 6) b_Lall_1)
def b_Lall_3 : En → Out := (sSeq (sOwn 4 (fLst aNil)) (sSeq (sFor (iSeq (eVar 2)) (gVal 5) b_Lall_2) (fun env => (sSet 2 (eVar 4)) (frz 4 env))))
def f_Lall : En → Out := (sSeq (sSet 2 (eL (fLst (aCons (eTup (aCons (eC (.int 0)) aNil)) aNil)))) (sSeq (sFor (iR1 (aCons (e2 subD (eVar 0) (eC (.int 1))) aNil)) (gVal 3) b_Lall_3) (sRet (eVar 2))))
def g_Lall : List PyData → Option PyData := gDef 2 7 f_Lall
def b_Lmet_1 : En → Out := (sIf (t1 (e2 ltD (e2 subD (e2 ixG (eVar 0) (eVar 3)) (e2 ixG (eVar 0) (eVar 2))) (eVar 4))) (sRet (eC (.bool false))) sNil)
def f_Lmet : En → Out := (sSeq (sFor (iSeq (eVar 1)) (gT [2, 3, 4]) b_Lmet_1) (sRet (eC (.bool true))))
def g_Lmet : List PyData → Option PyData := gDef 2 5 f_Lmet
def c_Lsolvable_1 : En → Option PyData := (e1 negD (eC (.int 1000)))
def m_Lsolvable_2 : En → Option (List PyData) := (fCmp [6] (iR1 (aCons (eVar 0) aNil)) (gVal 6) tYes' c_Lsolvable_1)
def b_Lsolvable_1 : En → Out := (sPut2 2 (eVar 3) (eVar 4) (eCall mx2 (aCons (eIx2 2 (eVar 3) (eVar 4)) (aCons (eVar 5) aNil))))
def b_Lsolvable_2 : En → Out := (sPut2 2 (eC (.int 0)) (eVar 6) (eCall mx2 (aCons (eIx2 2 (eC (.int 0)) (eVar 6)) (aCons (eC (.int 0)) aNil))))
def b_Lsolvable_3 : En → Out := (sPut2 2 (eVar 3) (eVar 4) (eCall mx2 (aCons (eIx2 2 (eVar 3) (eVar 4)) (aCons (e2 addD (eIx2 2 (eVar 3) (eVar 7)) (eIx2 2 (eVar 7) (eVar 4))) aNil))))
def b_Lsolvable_4 : En → Out := (sFor (iR1 (aCons (eVar 0) aNil)) (gVal 4) b_Lsolvable_3)
def b_Lsolvable_5 : En → Out := (sFor (iR1 (aCons (eVar 0) aNil)) (gVal 3) b_Lsolvable_4)
def b_Lsolvable_6 : En → Out := (sIf (t1 (e2 gtD (eIx2 2 (eVar 6) (eVar 6)) (eC (.int 0)))) (sRet (eC (.bool false))) sNil)
def f_Lsolvable : En → Out := (sSeq (sMat 2 [8] (iR1 (aCons (eVar 0) aNil)) (gVal 8) m_Lsolvable_2) (sSeq (sFor (iSeq (eVar 1)) (gT [3, 4, 5]) b_Lsolvable_1) (sSeq (sFor (iR1 (aCons (eVar 0) aNil)) (gVal 6) b_Lsolvable_2) (sSeq (sFor (iR1 (aCons (eVar 0) aNil)) (gVal 7) b_Lsolvable_5) (sSeq (sFor (iR1 (aCons (eVar 0) aNil)) (gVal 6) b_Lsolvable_6) (sRet (eC (.bool true))))))))
def g_Lsolvable : List PyData → Option PyData := gDef 2 9 f_Lsolvable
def c_Lleft_1 : En → Option PyData := (eVar 5)
def t_Lleft_1 : En → Option Bool := (t1 (e2 neD (eVar 5) (eVar 3)))
def c_Lleft_2 : En → Option PyData := (e2 ixG (eVar 1) (eVar 5))
def b_Lleft_1 : En → Out := (sSeq (sSet 4 (eL (fCmp [5] (iSeq (eVar 2)) (gVal 5) t_Lleft_1 c_Lleft_1))) (sIf (tNot' (tTr (eCall g_Lsolvable (aCons (eVar 0) (aCons (eL (fCmp [5] (iSeq (eVar 4)) (gVal 5) tYes' c_Lleft_2)) aNil))))) (sSet 2 (eVar 4)) sNil))
def f_Lleft : En → Out := (sSeq (sSet 2 (eL (fRng1 (eCall lenA (aCons (eVar 1) aNil))))) (sSeq (sFor (iR1 (aCons (eCall lenA (aCons (eVar 1) aNil)) aNil)) (gVal 3) b_Lleft_1) (sRet (eVar 2))))
def g_Lleft : List PyData → Option PyData := gDef 2 6 f_Lleft
def c_law_1 : En → Option PyData := (eL (fList (eVar 6)))
def t_law_1 : En → Option Bool := (tTr (eCall g_Lmet (aCons (eVar 6) (aCons (eVar 2) aNil))))
def f_law : En → Out := (sSeq (sSet 1 (e2 addD (eC (.int 2)) (e2 modD (eCall g_Lcell (aCons (eVar 0) (aCons (eC (.int 0)) aNil))) (eC (.int 2))))) (sSeq (sSet 2 (eCall g_Lconstraints (aCons (eVar 0) (aCons (eVar 1) aNil)))) (sSeq (sSet 3 (eL (fCmp [6] (iSeq (eCall g_Lall (aCons (eVar 1) (aCons (eC (.int 24)) aNil)))) (gVal 6) t_law_1 c_law_1))) (sSeq (sSet 4 (eCall g_least_positions (aCons (eVar 1) (aCons (eL (fList (eVar 2))) aNil)))) (sSeq (sIf (t1 (e2 neD (eCall g_Lsolvable (aCons (eVar 1) (aCons (eVar 2) aNil))) (e2 gtD (eCall lenA (aCons (eVar 3) aNil)) (eC (.int 0))))) (sRet (eC (.bool false))) sNil) (sSeq (sSet 5 (eCall g_contradiction (aCons (eVar 1) (aCons (eL (fList (eVar 2))) aNil)))) (sSeq (sIf (t1 (e2 gtD (eCall lenA (aCons (eVar 3) aNil)) (eC (.int 0)))) (sRet (eAnd (eIsi "list" (eVar 4)) (eAnd (e2 eqD (eVar 4) (eL (fList (eCall g_Lleast (aCons (eVar 3) aNil))))) (eAnd (e2 inT (eVar 4) (eVar 3)) (e2 isD (eVar 5) (eC .none)))))) sNil) (sRet (eAnd (e2 isD (eVar 4) (eC .none)) (eAnd (eIsi "list" (eVar 5)) (e2 eqD (eVar 5) (eCall g_Lleft (aCons (eVar 1) (aCons (eVar 2) aNil))))))))))))))
def g_law : List PyData → Option PyData := gDef 1 7 f_law
/-! ### the text does so -/
section
variable {P : Program} {w : World} {K : PySem.W.Frag} {mg : Str → Option Value} {base : Heap}
theorem ok_raised {f : Addr} {fd : FuncData} (F : Fun K "raised" "raised" s_raised f fd) (m_list : mg "list" = none) : FnOk P w K mg base CX0 1 f fd ["positions", "constraints"] (spF K g_raised) := by
  refine fn_ok (k := 0) (fB := f_raised) (np := 2) (nN := 6) F sc_raised rfl rfl rfl fun cdv A outer s H E hr => ?_
  have nd : N_raised.Nodup := sc_raised.nd
  exact ((cs_cons (cs_own (ps_set (i := 2) nd rfl (by first | exact Or.inl rfl | exact Or.inr rfl) (cf_list (c := true) (pe_callTy call_list_of (by rfl) m_list (by decide +kernel) (pa_cons (ce_var (i := 0) (pv 0)) pa_nil)))))
    (cs_cons (cs_for PassesOwn.never (by rfl) (ci_seq (ce_var (i := 1) (pv 1))) (cg_tup (is := [3, 4, 5]) (pg_tup rfl (pgs_cons (pg_name (i := 3) nd rfl (by first | exact Or.inl rfl | exact Or.inr rfl)) (pgs_cons (pg_name (i := 4) nd rfl (by first | exact Or.inl rfl | exact Or.inr rfl)) (pgs_cons (pg_name (i := 5) nd rfl (by first | exact Or.inl rfl | exact Or.inr rfl)) pgs_nil)))))
    (cs_one (cs_if (ct_cmp op_lt r2_B0 (ce_ixO (i := 2) (pv 2) (ce_var (i := 4) (pv 4)) (fun _ _ => rfl)) (ce_add (ce_ixO (i := 2) (pv 2) (ce_var (i := 3) (pv 3)) (fun _ _ => rfl)) (ce_var (i := 5) (pv 5))) (nomark _))
    (cs_one (cs_put (ps_asg (ce_add (ce_ixO (i := 2) (pv 2) (ce_var (i := 3) (pv 3)) (fun _ _ => rfl)) (ce_var (i := 5) (pv 5))) (pg_sub (pv 2) (ce_var (i := 4) (pv 4)) set_list))))
    cs_nil)))
    (cs_one (cs_frz (i := 2) (cs_ret (ce_var (i := 2) (pv 2))))))))
theorem ok_least_positions {f : Addr} {fd : FuncData} (F : Fun K "least_positions" "least_positions" s_least_positions f fd) {a_raised : Addr} {d_raised : FuncData} (G_raised : FnOk P w K mg base CX0 1 a_raised d_raised ["positions", "constraints"] (spF K g_raised)) (M_raised : mg "raised" = some (.ref a_raised)) (k_raised : PySem.W.keepIn K (.ref a_raised) = true) (b_raised : Binds K d_raised ["positions", "constraints"] []) (m_range : mg "range" = none) : FnOk P w K mg base CX0 2 f fd ["count", "constraints"] (spF K g_least_positions) := by
  refine fn_ok (k := 1) (fB := f_least_positions) (np := 2) (nN := 5) F sc_least_positions rfl rfl rfl fun cdv A outer s H E hr => ?_
  have nd : N_least_positions.Nodup := sc_least_positions.nd
  exact ((cs_cons (cs_set (ps_set (i := 2) nd rfl (by first | exact Or.inl rfl | exact Or.inr rfl) (ce_l (c := true) (cf_rep (c := true) (cf_lst (c := true) (ca_cons ce_int ca_nil)) (ce_var (i := 0) (pv 0))))))
    (cs_cons (cs_for PassesOwn.never (by rfl) (ci_r1 (pi_range1 (by rfl) m_range (ca_cons (ce_var (i := 0) (pv 0)) ca_nil))) (cg_name (pg_name (i := 3) nd rfl (by first | exact Or.inl rfl | exact Or.inr rfl)))
    (cs_cons (cs_set (ps_set (i := 4) nd rfl (by first | exact Or.inl rfl | exact Or.inr rfl) (ce_call (c := true) (pe_call G_raised (hr.mono (by decide)) (by rfl) M_raised k_raised b_raised .nil pass0 (ca_cons (ce_var (i := 2) (pv 2)) (ca_cons (ce_var (i := 1) (pv 1)) ca_nil))))))
    (cs_cons (cs_if (ct_cmp (op_eqD hr.units) r2_eq (ce_var (i := 4) (pv 4)) (ce_var (i := 2) (pv 2)) (nomark _))
    (cs_one (cs_ret (ce_var (i := 2) (pv 2))))
    cs_nil)
    (cs_cons (cs_if (ct_cmp op_gt r2_B0 (ce_ix (ce_var (i := 4) (pv 4)) ce_int (fun _ _ => rfl)) ce_int (nomark _))
    (cs_one (cs_ret ce_non))
    cs_nil)
    (cs_one (cs_set (ps_set (i := 2) nd rfl (by first | exact Or.inl rfl | exact Or.inr rfl) (ce_var (i := 4) (pv 4)))))))))
    (cs_one (cs_ret ce_non)))))
theorem ok_contradiction {f : Addr} {fd : FuncData} (F : Fun K "contradiction" "contradiction" s_contradiction f fd) {a_least_positions : Addr} {d_least_positions : FuncData} (G_least_positions : FnOk P w K mg base CX0 2 a_least_positions d_least_positions ["count", "constraints"] (spF K g_least_positions)) (M_least_positions : mg "least_positions" = some (.ref a_least_positions)) (k_least_positions : PySem.W.keepIn K (.ref a_least_positions) = true) (b_least_positions : Binds K d_least_positions ["count", "constraints"] []) (m_len : mg "len" = none) (m_list : mg "list" = none) (m_range : mg "range" = none) : FnOk P w K mg base CX0 3 f fd ["count", "constraints"] (spF K g_contradiction) := by
  refine fn_ok (k := 2) (fB := f_contradiction) (np := 2) (nN := 6) F sc_contradiction rfl rfl rfl fun cdv A outer s H E hr => ?_
  have nd : N_contradiction.Nodup := sc_contradiction.nd
  exact ((cs_cons (cs_if (ct_cmp op_notN r2_isnt (ce_call (c := true) (pe_call G_least_positions (hr.mono (by decide)) (by rfl) M_least_positions k_least_positions b_least_positions .nil pass0 (ca_cons (ce_var (i := 0) (pv 0)) (ca_cons (ce_var (i := 1) (pv 1)) ca_nil)))) ce_non (nomark _))
    (cs_one (cs_ret ce_non))
    cs_nil)
    (cs_cons (cs_set (ps_set (i := 2) nd rfl (by first | exact Or.inl rfl | exact Or.inr rfl) (ce_l (c := true) (cf_rng1 (c := true) (pe_listRg (by rfl) (by rfl) m_list (prg_1 (by rfl) m_range (ce_cb (c2 := true) cr_len (pe_callB call_len (by rfl) m_len boot_len (ca_cons (ce_var (i := 1) (pv 1)) ca_nil)))))))))
    (cs_cons (cs_for PassesOwn.never (by rfl) (ci_r1 (pi_range1 (by rfl) m_range (ca_cons (ce_cb (c2 := true) cr_len (pe_callB call_len (by rfl) m_len boot_len (ca_cons (ce_var (i := 1) (pv 1)) ca_nil))) ca_nil))) (cg_name (pg_name (i := 3) nd rfl (by first | exact Or.inl rfl | exact Or.inr rfl)))
    (cs_cons (cs_lcV (ps_setLc (i := 4) (own := [("other", 5)]) rfl nd rfl rfl (sw_true rfl rfl rfl (by decide +kernel)) (ci_seq (ce_var (i := 2) (pv 2))) (blkOk_by (own := [("other", 5)]) (N := N_contradiction) (sc := defScope s_contradiction) (by decide +kernel)) (fun _ _ _ _ _ => (cg_name (pg_name (i := 5) nd rfl (by first | exact Or.inl rfl | exact Or.inr rfl)))) (fun _ _ _ _ _ => (pts_one (ct_cmp (op_neD hr.units) r2_ne (ce_var (i := 5) (pv 5)) (ce_var (i := 3) (pv 3)) (nomark _)))) (fun _ _ _ _ _ => (ce_var (i := 5) (pv 5)))))
    (cs_one (cs_if (ct_cmp op_isN r2_is (ce_call (c := true) (pe_call G_least_positions (hr.mono (by decide)) (by rfl) M_least_positions k_least_positions b_least_positions .nil pass0 (ca_cons (ce_var (i := 0) (pv 0)) (ca_cons (ce_l (c := true) (cf_lc1 (c2 := true) (pe_lc (own := [("other", 5)]) (by rfl) nd (ci_seq (ce_var (i := 4) (pv 4))) (blkOk_by (own := [("other", 5)]) (N := N_contradiction) (sc := defScope s_contradiction) (by decide +kernel)) (fun _ _ _ _ _ => (cg_name (pg_name (i := 5) nd rfl (by first | exact Or.inl rfl | exact Or.inr rfl)))) (fun _ _ _ _ _ => pts_nil) (fun _ _ _ _ _ => (ce_ix (ce_var (i := 1) (pv 1)) (ce_var (i := 5) (pv 5)) (fun _ _ => rfl)))))) ca_nil)))) ce_non (nomark _))
    (cs_one (cs_set (ps_set (i := 2) nd rfl (by first | exact Or.inl rfl | exact Or.inr rfl) (ce_var (i := 4) (pv 4)))))
    cs_nil))))
    (cs_one (cs_ret (ce_var (i := 2) (pv 2))))))))
theorem ok_Lcell {f : Addr} {fd : FuncData} (F : Fun K "_law_cell" "_law_cell" s_Lcell f fd) (m_len : mg "len" = none) : FnOk P w K mg base CX0 1 f fd ["script", "k"] (spF K g_Lcell) := by
  refine fn_ok (k := 0) (fB := f_Lcell) (np := 2) (nN := 2) F sc_Lcell rfl rfl rfl fun cdv A outer s H E hr => ?_
  have nd : N_Lcell.Nodup := sc_Lcell.nd
  exact ((cs_cons (cs_if (ct_cmp op_lt r2_B0 (ce_var (i := 1) (pv 1)) (ce_cb (c2 := true) cr_len (pe_callB call_len (by rfl) m_len boot_len (ca_cons (ce_var (i := 0) (pv 0)) ca_nil))) (nomark _))
    (cs_one (cs_ret (ce_ix (ce_var (i := 0) (pv 0)) (ce_var (i := 1) (pv 1)) (fun _ _ => rfl))))
    cs_nil)
    (cs_one (cs_ret ce_int))))
theorem ok_Ldraws {f : Addr} {fd : FuncData} (F : Fun K "_law_draws" "_law_draws" s_Ldraws f fd) (m_range : mg "range" = none) : FnOk P w K mg base CX0 1 f fd ["cell", "count"] (spF K g_Ldraws) := by
  refine fn_ok (k := 0) (fB := f_Ldraws) (np := 2) (nN := 6) F sc_Ldraws rfl rfl rfl fun cdv A outer s H E hr => ?_
  have nd : N_Ldraws.Nodup := sc_Ldraws.nd
  exact ((cs_cons (cs_own (ps_set (i := 2) nd rfl (by first | exact Or.inl rfl | exact Or.inr rfl) (cf_lst (c := true) ca_nil)))
    (cs_cons (cs_set (ps_set (i := 3) nd rfl (by first | exact Or.inl rfl | exact Or.inr rfl) (ce_cmp op_ge r2_B0 (ce_var (i := 0) (pv 0)) (ce_pow ce_int ce_int) (nomark _))))
    (cs_cons (cs_for PassesOwn.never (by rfl) (ci_r1 (pi_range1 (by rfl) m_range (ca_cons (ce_var (i := 1) (pv 1)) ca_nil))) (cg_name (pg_name (i := 4) nd rfl (by first | exact Or.inl rfl | exact Or.inr rfl)))
    (cs_one (cs_if (ct_tru (ce_var (i := 3) (pv 3)) (by intro _; rfl))
    (cs_cons (cs_app (ps_expr (pe_bm PySem.F.plainAttrs_list PySem.F.slot_list_append PySem.F.type_list_append mt_append (pv 2) (pa_cons (ce_mod (ce_var (i := 0) (pv 0)) ce_int) pa_nil))))
    (cs_one (cs_set (ps_set (i := 0) nd rfl (by first | exact Or.inl rfl | exact Or.inr rfl) (ce_div (ce_var (i := 0) (pv 0)) ce_int)))))
    (cs_cons (cs_set (ps_set (i := 5) nd rfl (by first | exact Or.inl rfl | exact Or.inr rfl) (ce_mod (ce_add (ce_mul (ce_var (i := 0) (pv 0)) ce_int) (ce_mul (ce_var (i := 4) (pv 4)) ce_int)) ce_int)))
    (cs_one (cs_app (ps_expr (pe_bm PySem.F.plainAttrs_list PySem.F.slot_list_append PySem.F.type_list_append mt_append (pv 2) (pa_cons (ce_mod (ce_add (ce_add (ce_mul (ce_var (i := 5) (pv 5)) (ce_var (i := 5) (pv 5))) (ce_mul (ce_var (i := 0) (pv 0)) ce_int)) (ce_var (i := 4) (pv 4))) ce_int) pa_nil)))))))))
    (cs_one (cs_frz (i := 2) (cs_ret (ce_var (i := 2) (pv 2)))))))))
theorem ok_Lleast {f : Addr} {fd : FuncData} (F : Fun K "_law_least" "_law_least" s_Lleast f fd) (m_list : mg "list" = none) (m_len : mg "len" = none) (m_range : mg "range" = none) (m_min : mg "min" = none) (m_tuple : mg "tuple" = none) : FnOk P w K mg base CX0 1 f fd ["lists"] (spF K g_Lleast) := by
  refine fn_ok (k := 0) (fB := f_Lleast) (np := 1) (nN := 4) F sc_Lleast rfl rfl rfl fun cdv A outer s H E hr => ?_
  have nd : N_Lleast.Nodup := sc_Lleast.nd
  exact ((cs_cons (cs_own (ps_set (i := 1) nd rfl (by first | exact Or.inl rfl | exact Or.inr rfl) (cf_list (c := true) (pe_callTy call_list_of (by rfl) m_list (by decide +kernel) (pa_cons (ce_ix (ce_var (i := 0) (pv 0)) ce_int (fun _ _ => rfl)) pa_nil)))))
    (cs_cons (cs_for PassesOwn.never (by rfl) (ci_seq (ce_var (i := 0) (pv 0))) (cg_name (pg_name (i := 2) nd rfl (by first | exact Or.inl rfl | exact Or.inr rfl)))
    (cs_one (cs_for PassesOwn.never (by rfl) (ci_r1 (pi_range1 (by rfl) m_range (ca_cons (ce_cb (c2 := true) cr_len (pe_callB call_len (by rfl) m_len boot_len (ca_cons (ce_bor (i := 1) (pv 1)) ca_nil))) ca_nil))) (cg_name (pg_name (i := 3) nd rfl (by first | exact Or.inl rfl | exact Or.inr rfl)))
    (cs_one (cs_put (ps_asg (ce_cb (c2 := true) cr_mn2 (pe_callB (call_min2 rfl) (by rfl) m_min (by decide +kernel) (ca_cons (ce_ixO (i := 1) (pv 1) (ce_var (i := 3) (pv 3)) (fun _ _ => rfl)) (ca_cons (ce_ix (ce_var (i := 2) (pv 2)) (ce_var (i := 3) (pv 3)) (fun _ _ => rfl)) ca_nil)))) (pg_sub (pv 1) (ce_var (i := 3) (pv 3)) set_list)))))))
    (cs_one (cs_ret (ce_tupO (i := 1) (pe_callTy call_tuple_of (by rfl) m_tuple (by decide +kernel) (pa_cons (pv 1) pa_nil))))))))
theorem ok_Lconstraints {f : Addr} {fd : FuncData} (F : Fun K "_law_constraints" "_law_constraints" s_Lconstraints f fd) {a_Lcell : Addr} {d_Lcell : FuncData} (G_Lcell : FnOk P w K mg base CX0 1 a_Lcell d_Lcell ["script", "k"] (spF K g_Lcell)) (M_Lcell : mg "_law_cell" = some (.ref a_Lcell)) (k_Lcell : PySem.W.keepIn K (.ref a_Lcell) = true) (b_Lcell : Binds K d_Lcell ["script", "k"] []) {a_Ldraws : Addr} {d_Ldraws : FuncData} (G_Ldraws : FnOk P w K mg base CX0 1 a_Ldraws d_Ldraws ["cell", "count"] (spF K g_Ldraws)) (M_Ldraws : mg "_law_draws" = some (.ref a_Ldraws)) (k_Ldraws : PySem.W.keepIn K (.ref a_Ldraws) = true) (b_Ldraws : Binds K d_Ldraws ["cell", "count"] []) (m_range : mg "range" = none) : FnOk P w K mg base CX0 2 f fd ["script", "count"] (spF K g_Lconstraints) := by
  refine fn_ok (k := 1) (fB := f_Lconstraints) (np := 2) (nN := 7) F sc_Lconstraints rfl rfl rfl fun cdv A outer s H E hr => ?_
  have nd : N_Lconstraints.Nodup := sc_Lconstraints.nd
  exact ((cs_cons (cs_own (ps_set (i := 2) nd rfl (by first | exact Or.inl rfl | exact Or.inr rfl) (cf_lst (c := true) ca_nil)))
    (cs_cons (cs_for PassesOwn.never (by rfl) (ci_r1 (pi_range1 (by rfl) m_range (ca_cons (ce_mod (ce_call (c := true) (pe_call G_Lcell (hr.mono (by decide)) (by rfl) M_Lcell k_Lcell b_Lcell .nil pass0 (ca_cons (ce_var (i := 0) (pv 0)) (ca_cons ce_int ca_nil)))) ce_int) ca_nil))) (cg_name (pg_name (i := 3) nd rfl (by first | exact Or.inl rfl | exact Or.inr rfl)))
    (cs_cons (cs_set (ps_set (i := 4) nd rfl (by first | exact Or.inl rfl | exact Or.inr rfl) (ce_call (c := true) (pe_call G_Ldraws (hr.mono (by decide)) (by rfl) M_Ldraws k_Ldraws b_Ldraws .nil pass0 (ca_cons (ce_call (c := true) (pe_call G_Lcell (hr.mono (by decide)) (by rfl) M_Lcell k_Lcell b_Lcell .nil pass0 (ca_cons (ce_var (i := 0) (pv 0)) (ca_cons (ce_add ce_int (ce_var (i := 3) (pv 3))) ca_nil)))) (ca_cons ce_int ca_nil))))))
    (cs_cons (cs_set (ps_set (i := 5) nd rfl (by first | exact Or.inl rfl | exact Or.inr rfl) (ce_mod (ce_ix (ce_var (i := 4) (pv 4)) ce_int (fun _ _ => rfl)) (ce_var (i := 1) (pv 1)))))
    (cs_cons (cs_set (ps_set (i := 6) nd rfl (by first | exact Or.inl rfl | exact Or.inr rfl) (ce_mod (ce_add (ce_add (ce_var (i := 5) (pv 5)) ce_int) (ce_mod (ce_ix (ce_var (i := 4) (pv 4)) ce_int (fun _ _ => rfl)) (ce_sub (ce_var (i := 1) (pv 1)) ce_int))) (ce_var (i := 1) (pv 1)))))
    (cs_one (cs_app (ps_expr (pe_bm PySem.F.plainAttrs_list PySem.F.slot_list_append PySem.F.type_list_append mt_append (pv 2) (pa_cons (ce_tup (ca_cons (ce_var (i := 5) (pv 5)) (ca_cons (ce_var (i := 6) (pv 6)) (ca_cons (ce_sub (ce_mod (ce_ix (ce_var (i := 4) (pv 4)) ce_int (fun _ _ => rfl)) ce_int) ce_int) ca_nil)))) pa_nil)))))))))
    (cs_one (cs_frz (i := 2) (cs_ret (ce_var (i := 2) (pv 2))))))))
theorem ok_Lall {f : Addr} {fd : FuncData} (F : Fun K "_law_all" "_law_all" s_Lall f fd) (m_range : mg "range" = none) : FnOk P w K mg base CX0 1 f fd ["count", "most"] (spF K g_Lall) := by
  refine fn_ok (k := 0) (fB := f_Lall) (np := 2) (nN := 7) F sc_Lall rfl rfl rfl fun cdv A outer s H E hr => ?_
  have nd : N_Lall.Nodup := sc_Lall.nd
  exact ((cs_cons (cs_set (ps_set (i := 2) nd rfl (by first | exact Or.inl rfl | exact Or.inr rfl) (ce_l (c := true) (cf_lst (c := true) (ca_cons (ce_tup (ca_cons ce_int ca_nil)) ca_nil)))))
    (cs_cons (cs_for PassesOwn.never (by rfl) (ci_r1 (pi_range1 (by rfl) m_range (ca_cons (ce_sub (ce_var (i := 0) (pv 0)) ce_int) ca_nil))) (cg_name (pg_name (i := 3) nd rfl (by first | exact Or.inl rfl | exact Or.inr rfl)))
    (cs_cons (cs_own (ps_set (i := 4) nd rfl (by first | exact Or.inl rfl | exact Or.inr rfl) (cf_lst (c := true) ca_nil)))
    (cs_cons (cs_for PassesOwn.never (by rfl) (ci_seq (ce_var (i := 2) (pv 2))) (cg_name (pg_name (i := 5) nd rfl (by first | exact Or.inl rfl | exact Or.inr rfl)))
    (cs_one (cs_for PassesOwn.never (by rfl) (ci_r1 (pi_range1 (by rfl) m_range (ca_cons (ce_add (ce_var (i := 1) (pv 1)) ce_int) ca_nil))) (cg_name (pg_name (i := 6) nd rfl (by first | exact Or.inl rfl | exact Or.inr rfl)))
    (cs_one (cs_app (ps_expr (pe_bm PySem.F.plainAttrs_list PySem.F.slot_list_append PySem.F.type_list_append mt_append (pv 4) (pa_cons (ce_add (ce_var (i := 5) (pv 5)) (ce_tup (ca_cons (ce_var (i := 6) (pv 6)) ca_nil))) pa_nil))))))))
    (cs_one (cs_frz (i := 4) (cs_set (ps_set (i := 2) nd rfl (by first | exact Or.inl rfl | exact Or.inr rfl) (ce_var (i := 4) (pv 4)))))))))
    (cs_one (cs_ret (ce_var (i := 2) (pv 2)))))))
theorem ok_Lmet {f : Addr} {fd : FuncData} (F : Fun K "_law_met" "_law_met" s_Lmet f fd)  : FnOk P w K mg base CX0 1 f fd ["positions", "constraints"] (spF K g_Lmet) := by
  refine fn_ok (k := 0) (fB := f_Lmet) (np := 2) (nN := 5) F sc_Lmet rfl rfl rfl fun cdv A outer s H E hr => ?_
  have nd : N_Lmet.Nodup := sc_Lmet.nd
  exact ((cs_cons (cs_for PassesOwn.never (by rfl) (ci_seq (ce_var (i := 1) (pv 1))) (cg_tup (is := [2, 3, 4]) (pg_tup rfl (pgs_cons (pg_name (i := 2) nd rfl (by first | exact Or.inl rfl | exact Or.inr rfl)) (pgs_cons (pg_name (i := 3) nd rfl (by first | exact Or.inl rfl | exact Or.inr rfl)) (pgs_cons (pg_name (i := 4) nd rfl (by first | exact Or.inl rfl | exact Or.inr rfl)) pgs_nil)))))
    (cs_one (cs_if (ct_cmp op_lt r2_B0 (ce_sub (ce_ix (ce_var (i := 0) (pv 0)) (ce_var (i := 3) (pv 3)) (fun _ _ => rfl)) (ce_ix (ce_var (i := 0) (pv 0)) (ce_var (i := 2) (pv 2)) (fun _ _ => rfl))) (ce_var (i := 4) (pv 4)) (nomark _))
    (cs_one (cs_ret ce_bl))
    cs_nil)))
    (cs_one (cs_ret ce_bl))))
theorem ok_Lsolvable {f : Addr} {fd : FuncData} (F : Fun K "_law_solvable" "_law_solvable" s_Lsolvable f fd) (m_range : mg "range" = none) (m_max : mg "max" = none) : FnOk P w K mg base CX0 1 f fd ["count", "constraints"] (spF K g_Lsolvable) := by
  refine fn_ok (k := 0) (fB := f_Lsolvable) (np := 2) (nN := 9) F sc_Lsolvable rfl rfl rfl fun cdv A outer s H E hr => ?_
  have nd : N_Lsolvable.Nodup := sc_Lsolvable.nd
  exact ((cs_cons (cs_mat (ps_setLc (i := 2) (own := [("other", 8)]) rfl nd rfl rfl (sw_true rfl rfl rfl (by decide +kernel)) (ci_r1 (pi_range1 (by rfl) m_range (ca_cons (ce_var (i := 0) (pv 0)) ca_nil))) (blkOk_by (own := [("other", 8)]) (N := N_Lsolvable) (sc := defScope s_Lsolvable) (by decide +kernel)) (fun _ _ _ _ _ => (cg_name (pg_name (i := 8) nd rfl (by first | exact Or.inl rfl | exact Or.inr rfl)))) (fun _ _ _ _ _ => pts_nil) (fun _ _ _ _ _ => (cf_lc1 (c2 := true) (pe_lc (own := [("one", 6)]) (by rfl) nd (ci_r1 (pi_range1 (by rfl) m_range (ca_cons (ce_var (i := 0) (pv 0)) ca_nil))) (by exact blkOk_by (by kernel_rfl)) (fun _ _ _ _ _ => (cg_name (pg_name (i := 6) nd rfl (by first | exact Or.inl rfl | exact Or.inr rfl)))) (fun _ _ _ _ _ => pts_nil) (fun _ _ _ _ _ => (ce_neg ce_int)))))))
    (cs_cons (cs_for PassesOwn.never (by rfl) (ci_seq (ce_var (i := 1) (pv 1))) (cg_tup (is := [3, 4, 5]) (pg_tup rfl (pgs_cons (pg_name (i := 3) nd rfl (by first | exact Or.inl rfl | exact Or.inr rfl)) (pgs_cons (pg_name (i := 4) nd rfl (by first | exact Or.inl rfl | exact Or.inr rfl)) (pgs_cons (pg_name (i := 5) nd rfl (by first | exact Or.inl rfl | exact Or.inr rfl)) pgs_nil)))))
    (cs_one (cs_put2 (i := 2) (ps_asg (ce_cb (c2 := true) cr_mx2 (pe_callB (call_max2 rfl) (by rfl) m_max (by decide +kernel) (ca_cons (ce_ix2 (i := 2) (pv 2) (ce_var (i := 3) (pv 3)) (ce_var (i := 4) (pv 4)) (fun _ _ => rfl) (fun _ _ => rfl)) (ca_cons (ce_var (i := 5) (pv 5)) ca_nil)))) (pg_sub (pe_ix ix_seq (pv 2) (ce_var (i := 3) (pv 3)) (fun _ _ => rfl)) (ce_var (i := 4) (pv 4)) set_list)))))
    (cs_cons (cs_for PassesOwn.never (by rfl) (ci_r1 (pi_range1 (by rfl) m_range (ca_cons (ce_var (i := 0) (pv 0)) ca_nil))) (cg_name (pg_name (i := 6) nd rfl (by first | exact Or.inl rfl | exact Or.inr rfl)))
    (cs_one (cs_put2 (i := 2) (ps_asg (ce_cb (c2 := true) cr_mx2 (pe_callB (call_max2 rfl) (by rfl) m_max (by decide +kernel) (ca_cons (ce_ix2 (i := 2) (pv 2) ce_int (ce_var (i := 6) (pv 6)) (fun _ _ => rfl) (fun _ _ => rfl)) (ca_cons ce_int ca_nil)))) (pg_sub (pe_ix ix_seq (pv 2) ce_int (fun _ _ => rfl)) (ce_var (i := 6) (pv 6)) set_list)))))
    (cs_cons (cs_for PassesOwn.never (by rfl) (ci_r1 (pi_range1 (by rfl) m_range (ca_cons (ce_var (i := 0) (pv 0)) ca_nil))) (cg_name (pg_name (i := 7) nd rfl (by first | exact Or.inl rfl | exact Or.inr rfl)))
    (cs_one (cs_for PassesOwn.never (by rfl) (ci_r1 (pi_range1 (by rfl) m_range (ca_cons (ce_var (i := 0) (pv 0)) ca_nil))) (cg_name (pg_name (i := 3) nd rfl (by first | exact Or.inl rfl | exact Or.inr rfl)))
    (cs_one (cs_for PassesOwn.never (by rfl) (ci_r1 (pi_range1 (by rfl) m_range (ca_cons (ce_var (i := 0) (pv 0)) ca_nil))) (cg_name (pg_name (i := 4) nd rfl (by first | exact Or.inl rfl | exact Or.inr rfl)))
    (cs_one (cs_put2 (i := 2) (ps_asg (ce_cb (c2 := true) cr_mx2 (pe_callB (call_max2 rfl) (by rfl) m_max (by decide +kernel) (ca_cons (ce_ix2 (i := 2) (pv 2) (ce_var (i := 3) (pv 3)) (ce_var (i := 4) (pv 4)) (fun _ _ => rfl) (fun _ _ => rfl)) (ca_cons (ce_add (ce_ix2 (i := 2) (pv 2) (ce_var (i := 3) (pv 3)) (ce_var (i := 7) (pv 7)) (fun _ _ => rfl) (fun _ _ => rfl)) (ce_ix2 (i := 2) (pv 2) (ce_var (i := 7) (pv 7)) (ce_var (i := 4) (pv 4)) (fun _ _ => rfl) (fun _ _ => rfl))) ca_nil)))) (pg_sub (pe_ix ix_seq (pv 2) (ce_var (i := 3) (pv 3)) (fun _ _ => rfl)) (ce_var (i := 4) (pv 4)) set_list)))))))))
    (cs_cons (cs_for PassesOwn.never (by rfl) (ci_r1 (pi_range1 (by rfl) m_range (ca_cons (ce_var (i := 0) (pv 0)) ca_nil))) (cg_name (pg_name (i := 6) nd rfl (by first | exact Or.inl rfl | exact Or.inr rfl)))
    (cs_one (cs_if (ct_cmp op_gt r2_B0 (ce_ix2 (i := 2) (pv 2) (ce_var (i := 6) (pv 6)) (ce_var (i := 6) (pv 6)) (fun _ _ => rfl) (fun _ _ => rfl)) ce_int (nomark _))
    (cs_one (cs_ret ce_bl))
    cs_nil)))
    (cs_one (cs_ret ce_bl))))))))
theorem ok_Lleft {f : Addr} {fd : FuncData} (F : Fun K "_law_left" "_law_left" s_Lleft f fd) {a_Lsolvable : Addr} {d_Lsolvable : FuncData} (G_Lsolvable : FnOk P w K mg base CX0 1 a_Lsolvable d_Lsolvable ["count", "constraints"] (spF K g_Lsolvable)) (M_Lsolvable : mg "_law_solvable" = some (.ref a_Lsolvable)) (k_Lsolvable : PySem.W.keepIn K (.ref a_Lsolvable) = true) (b_Lsolvable : Binds K d_Lsolvable ["count", "constraints"] []) (m_len : mg "len" = none) (m_list : mg "list" = none) (m_range : mg "range" = none) : FnOk P w K mg base CX0 2 f fd ["count", "constraints"] (spF K g_Lleft) := by
  refine fn_ok (k := 1) (fB := f_Lleft) (np := 2) (nN := 6) F sc_Lleft rfl rfl rfl fun cdv A outer s H E hr => ?_
  have nd : N_Lleft.Nodup := sc_Lleft.nd
  exact ((cs_cons (cs_set (ps_set (i := 2) nd rfl (by first | exact Or.inl rfl | exact Or.inr rfl) (ce_l (c := true) (cf_rng1 (c := true) (pe_listRg (by rfl) (by rfl) m_list (prg_1 (by rfl) m_range (ce_cb (c2 := true) cr_len (pe_callB call_len (by rfl) m_len boot_len (ca_cons (ce_var (i := 1) (pv 1)) ca_nil)))))))))
    (cs_cons (cs_for PassesOwn.never (by rfl) (ci_r1 (pi_range1 (by rfl) m_range (ca_cons (ce_cb (c2 := true) cr_len (pe_callB call_len (by rfl) m_len boot_len (ca_cons (ce_var (i := 1) (pv 1)) ca_nil))) ca_nil))) (cg_name (pg_name (i := 3) nd rfl (by first | exact Or.inl rfl | exact Or.inr rfl)))
    (cs_cons (cs_lcV (ps_setLc (i := 4) (own := [("other", 5)]) rfl nd rfl rfl (sw_true rfl rfl rfl (by decide +kernel)) (ci_seq (ce_var (i := 2) (pv 2))) (blkOk_by (own := [("other", 5)]) (N := N_Lleft) (sc := defScope s_Lleft) (by decide +kernel)) (fun _ _ _ _ _ => (cg_name (pg_name (i := 5) nd rfl (by first | exact Or.inl rfl | exact Or.inr rfl)))) (fun _ _ _ _ _ => (pts_one (ct_cmp (op_neD hr.units) r2_ne (ce_var (i := 5) (pv 5)) (ce_var (i := 3) (pv 3)) (nomark _)))) (fun _ _ _ _ _ => (ce_var (i := 5) (pv 5)))))
    (cs_one (cs_if (ct_not (ct_tru (ce_call (c := true) (pe_call G_Lsolvable (hr.mono (by decide)) (by rfl) M_Lsolvable k_Lsolvable b_Lsolvable .nil pass0 (ca_cons (ce_var (i := 0) (pv 0)) (ca_cons (ce_l (c := true) (cf_lc1 (c2 := true) (pe_lc (own := [("other", 5)]) (by rfl) nd (ci_seq (ce_var (i := 4) (pv 4))) (blkOk_by (own := [("other", 5)]) (N := N_Lleft) (sc := defScope s_Lleft) (by decide +kernel)) (fun _ _ _ _ _ => (cg_name (pg_name (i := 5) nd rfl (by first | exact Or.inl rfl | exact Or.inr rfl)))) (fun _ _ _ _ _ => pts_nil) (fun _ _ _ _ _ => (ce_ix (ce_var (i := 1) (pv 1)) (ce_var (i := 5) (pv 5)) (fun _ _ => rfl)))))) ca_nil)))) (by intro _; rfl)))
    (cs_one (cs_set (ps_set (i := 2) nd rfl (by first | exact Or.inl rfl | exact Or.inr rfl) (ce_var (i := 4) (pv 4)))))
    cs_nil))))
    (cs_one (cs_ret (ce_var (i := 2) (pv 2)))))))
theorem ok_law {f : Addr} {fd : FuncData} (F : Fun K "law" "law" s_law f fd) {a_Lcell : Addr} {d_Lcell : FuncData} (G_Lcell : FnOk P w K mg base CX0 1 a_Lcell d_Lcell ["script", "k"] (spF K g_Lcell)) (M_Lcell : mg "_law_cell" = some (.ref a_Lcell)) (k_Lcell : PySem.W.keepIn K (.ref a_Lcell) = true) (b_Lcell : Binds K d_Lcell ["script", "k"] []) {a_Lconstraints : Addr} {d_Lconstraints : FuncData} (G_Lconstraints : FnOk P w K mg base CX0 2 a_Lconstraints d_Lconstraints ["script", "count"] (spF K g_Lconstraints)) (M_Lconstraints : mg "_law_constraints" = some (.ref a_Lconstraints)) (k_Lconstraints : PySem.W.keepIn K (.ref a_Lconstraints) = true) (b_Lconstraints : Binds K d_Lconstraints ["script", "count"] []) {a_Lall : Addr} {d_Lall : FuncData} (G_Lall : FnOk P w K mg base CX0 1 a_Lall d_Lall ["count", "most"] (spF K g_Lall)) (M_Lall : mg "_law_all" = some (.ref a_Lall)) (k_Lall : PySem.W.keepIn K (.ref a_Lall) = true) (b_Lall : Binds K d_Lall ["count", "most"] []) {a_Lmet : Addr} {d_Lmet : FuncData} (G_Lmet : FnOk P w K mg base CX0 1 a_Lmet d_Lmet ["positions", "constraints"] (spF K g_Lmet)) (M_Lmet : mg "_law_met" = some (.ref a_Lmet)) (k_Lmet : PySem.W.keepIn K (.ref a_Lmet) = true) (b_Lmet : Binds K d_Lmet ["positions", "constraints"] []) {a_least_positions : Addr} {d_least_positions : FuncData} (G_least_positions : FnOk P w K mg base CX0 2 a_least_positions d_least_positions ["count", "constraints"] (spF K g_least_positions)) (M_least_positions : mg "least_positions" = some (.ref a_least_positions)) (k_least_positions : PySem.W.keepIn K (.ref a_least_positions) = true) (b_least_positions : Binds K d_least_positions ["count", "constraints"] []) {a_Lsolvable : Addr} {d_Lsolvable : FuncData} (G_Lsolvable : FnOk P w K mg base CX0 1 a_Lsolvable d_Lsolvable ["count", "constraints"] (spF K g_Lsolvable)) (M_Lsolvable : mg "_law_solvable" = some (.ref a_Lsolvable)) (k_Lsolvable : PySem.W.keepIn K (.ref a_Lsolvable) = true) (b_Lsolvable : Binds K d_Lsolvable ["count", "constraints"] []) {a_contradiction : Addr} {d_contradiction : FuncData} (G_contradiction : FnOk P w K mg base CX0 3 a_contradiction d_contradiction ["count", "constraints"] (spF K g_contradiction)) (M_contradiction : mg "contradiction" = some (.ref a_contradiction)) (k_contradiction : PySem.W.keepIn K (.ref a_contradiction) = true) (b_contradiction : Binds K d_contradiction ["count", "constraints"] []) {a_Lleast : Addr} {d_Lleast : FuncData} (G_Lleast : FnOk P w K mg base CX0 1 a_Lleast d_Lleast ["lists"] (spF K g_Lleast)) (M_Lleast : mg "_law_least" = some (.ref a_Lleast)) (k_Lleast : PySem.W.keepIn K (.ref a_Lleast) = true) (b_Lleast : Binds K d_Lleast ["lists"] []) {a_Lleft : Addr} {d_Lleft : FuncData} (G_Lleft : FnOk P w K mg base CX0 2 a_Lleft d_Lleft ["count", "constraints"] (spF K g_Lleft)) (M_Lleft : mg "_law_left" = some (.ref a_Lleft)) (k_Lleft : PySem.W.keepIn K (.ref a_Lleft) = true) (b_Lleft : Binds K d_Lleft ["count", "constraints"] []) (m_list : mg "list" = none) (m_len : mg "len" = none) (m_isinstance : mg "isinstance" = none) : FnOk P w K mg base CX0 4 f fd ["script"] (spF K g_law) := by
  refine fn_ok (k := 3) (fB := f_law) (np := 1) (nN := 7) F sc_law rfl rfl rfl fun cdv A outer s H E hr => ?_
  have nd : N_law.Nodup := sc_law.nd
  exact ((cs_cons (cs_set (ps_set (i := 1) nd rfl (by first | exact Or.inl rfl | exact Or.inr rfl) (ce_add ce_int (ce_mod (ce_call (c := true) (pe_call G_Lcell (hr.mono (by decide)) (by rfl) M_Lcell k_Lcell b_Lcell .nil pass0 (ca_cons (ce_var (i := 0) (pv 0)) (ca_cons ce_int ca_nil)))) ce_int))))
    (cs_cons (cs_set (ps_set (i := 2) nd rfl (by first | exact Or.inl rfl | exact Or.inr rfl) (ce_call (c := true) (pe_call G_Lconstraints (hr.mono (by decide)) (by rfl) M_Lconstraints k_Lconstraints b_Lconstraints .nil pass0 (ca_cons (ce_var (i := 0) (pv 0)) (ca_cons (ce_var (i := 1) (pv 1)) ca_nil))))))
    (cs_cons (cs_lcV (ps_setLc (i := 3) (own := [("positions", 6)]) rfl nd rfl rfl (sw_true rfl rfl rfl (by decide +kernel)) (ci_seq (ce_call (c := true) (pe_call G_Lall (hr.mono (by decide)) (by rfl) M_Lall k_Lall b_Lall .nil pass0 (ca_cons (ce_var (i := 1) (pv 1)) (ca_cons ce_int ca_nil))))) (blkOk_by (own := [("positions", 6)]) (N := N_law) (sc := defScope s_law) (by decide +kernel)) (fun _ _ _ _ _ => (cg_name (pg_name (i := 6) nd rfl (by first | exact Or.inl rfl | exact Or.inr rfl)))) (fun _ _ _ _ _ => (pts_one (ct_tru (ce_call (c := true) (pe_call G_Lmet (hr.mono (by decide)) (by rfl) M_Lmet k_Lmet b_Lmet .nil pass0 (ca_cons (ce_var (i := 6) (pv 6)) (ca_cons (ce_var (i := 2) (pv 2)) ca_nil)))) (by intro _; rfl)))) (fun _ _ _ _ _ => (ce_l (c := true) (cf_list (c := true) (pe_callTy call_list_of (by rfl) m_list (by decide +kernel) (pa_cons (ce_var (i := 6) (pv 6)) pa_nil)))))))
    (cs_cons (cs_set (ps_set (i := 4) nd rfl (by first | exact Or.inl rfl | exact Or.inr rfl) (ce_call (c := true) (pe_call G_least_positions (hr.mono (by decide)) (by rfl) M_least_positions k_least_positions b_least_positions .nil pass0 (ca_cons (ce_var (i := 1) (pv 1)) (ca_cons (ce_l (c := true) (cf_list (c := true) (pe_callTy call_list_of (by rfl) m_list (by decide +kernel) (pa_cons (ce_var (i := 2) (pv 2)) pa_nil)))) ca_nil))))))
    (cs_cons (cs_if (ct_cmp (op_neD hr.units) r2_ne (ce_call (c := true) (pe_call G_Lsolvable (hr.mono (by decide)) (by rfl) M_Lsolvable k_Lsolvable b_Lsolvable .nil pass0 (ca_cons (ce_var (i := 1) (pv 1)) (ca_cons (ce_var (i := 2) (pv 2)) ca_nil)))) (ce_cmp op_gt r2_B0 (ce_cb (c2 := true) cr_len (pe_callB call_len (by rfl) m_len boot_len (ca_cons (ce_var (i := 3) (pv 3)) ca_nil))) ce_int (nomark _)) (nomark _))
    (cs_one (cs_ret ce_bl))
    cs_nil)
    (cs_cons (cs_set (ps_set (i := 5) nd rfl (by first | exact Or.inl rfl | exact Or.inr rfl) (ce_call (c := true) (pe_call G_contradiction (hr.mono (by decide)) (by rfl) M_contradiction k_contradiction b_contradiction .nil pass0 (ca_cons (ce_var (i := 1) (pv 1)) (ca_cons (ce_l (c := true) (cf_list (c := true) (pe_callTy call_list_of (by rfl) m_list (by decide +kernel) (pa_cons (ce_var (i := 2) (pv 2)) pa_nil)))) ca_nil))))))
    (cs_cons (cs_if (ct_cmp op_gt r2_B0 (ce_cb (c2 := true) cr_len (pe_callB call_len (by rfl) m_len boot_len (ca_cons (ce_var (i := 3) (pv 3)) ca_nil))) ce_int (nomark _))
    (cs_one (cs_ret (ce_and (ce_isi (T := "list") (pe_callB call_isi (by rfl) m_isinstance (by decide +kernel) (pa_cons (ce_var (i := 4) (pv 4)) (pa_cons (pe_bltn (v := .ty "list") (by rfl) m_list (by decide +kernel) rfl) pa_nil)))) (ce_and (ce_cmp (op_eqD hr.units) r2_eq (ce_var (i := 4) (pv 4)) (ce_l (c := true) (cf_list (c := true) (pe_callTy call_list_of (by rfl) m_list (by decide +kernel) (pa_cons (ce_call (c := true) (pe_call G_Lleast (hr.mono (by decide)) (by rfl) M_Lleast k_Lleast b_Lleast .nil pass0 (ca_cons (ce_var (i := 3) (pv 3)) ca_nil))) pa_nil)))) (nomark _)) (ce_and (ce_cmp (op_inT (hu65 hr)) r2_inT (ce_var (i := 4) (pv 4)) (ce_var (i := 3) (pv 3)) (by rfl)) (ce_one (ce_cmp op_isN r2_is (ce_var (i := 5) (pv 5)) ce_non (nomark _))))))))
    cs_nil)
    (cs_one (cs_ret (ce_and (ce_cmp op_isN r2_is (ce_var (i := 4) (pv 4)) ce_non (nomark _)) (ce_and (ce_isi (T := "list") (pe_callB call_isi (by rfl) m_isinstance (by decide +kernel) (pa_cons (ce_var (i := 5) (pv 5)) (pa_cons (pe_bltn (v := .ty "list") (by rfl) m_list (by decide +kernel) rfl) pa_nil)))) (ce_one (ce_cmp (op_eqD hr.units) r2_eq (ce_var (i := 5) (pv 5)) (ce_call (c := true) (pe_call G_Lleft (hr.mono (by decide)) (by rfl) M_Lleft k_Lleft b_Lleft .nil pass0 (ca_cons (ce_var (i := 1) (pv 1)) (ca_cons (ce_var (i := 2) (pv 2)) ca_nil)))) (nomark _)))))))))))))))
end
/-! ### the end -/
theorem all_mk {l : PySem.W.OpenLaw} {w : World} {K : PySem.W.Frag} {h : Heap} {mg : Str → Option Value} {fa : Addr} (X : K.In h) (G : h.Ns mainGlobals mg) (hfa : mg "law" = some (.ref fa))
    {f_raised : Addr} {od_raised an_raised : Option Addr} {sl_raised : Array (Option Value)} {oc_raised kV_raised dc_raised pm_raised cd_raised ct_raised : Value}
    (a_raised : PySem.W.nsIn K mainGlobals "raised" = some (some (.ref f_raised))) (l_raised : K.lookup f_raised = some ⟨oc_raised, od_raised, .func (PySem.W.fnOf "raised" "raised" (defArgs s_raised) (defBody s_raised) (defScope s_raised) .none kV_raised dc_raised pm_raised an_raised cd_raised ct_raised), sl_raised⟩) (c_raised : PySem.W.codeIn K cd_raised "raised" = true) (k_raised : PySem.W.keepIn K (.ref f_raised) = true)
    {f_least_positions : Addr} {od_least_positions an_least_positions : Option Addr} {sl_least_positions : Array (Option Value)} {oc_least_positions kV_least_positions dc_least_positions pm_least_positions cd_least_positions ct_least_positions : Value}
    (a_least_positions : PySem.W.nsIn K mainGlobals "least_positions" = some (some (.ref f_least_positions))) (l_least_positions : K.lookup f_least_positions = some ⟨oc_least_positions, od_least_positions, .func (PySem.W.fnOf "least_positions" "least_positions" (defArgs s_least_positions) (defBody s_least_positions) (defScope s_least_positions) .none kV_least_positions dc_least_positions pm_least_positions an_least_positions cd_least_positions ct_least_positions), sl_least_positions⟩) (c_least_positions : PySem.W.codeIn K cd_least_positions "least_positions" = true) (k_least_positions : PySem.W.keepIn K (.ref f_least_positions) = true)
    {f_contradiction : Addr} {od_contradiction an_contradiction : Option Addr} {sl_contradiction : Array (Option Value)} {oc_contradiction kV_contradiction dc_contradiction pm_contradiction cd_contradiction ct_contradiction : Value}
    (a_contradiction : PySem.W.nsIn K mainGlobals "contradiction" = some (some (.ref f_contradiction))) (l_contradiction : K.lookup f_contradiction = some ⟨oc_contradiction, od_contradiction, .func (PySem.W.fnOf "contradiction" "contradiction" (defArgs s_contradiction) (defBody s_contradiction) (defScope s_contradiction) .none kV_contradiction dc_contradiction pm_contradiction an_contradiction cd_contradiction ct_contradiction), sl_contradiction⟩) (c_contradiction : PySem.W.codeIn K cd_contradiction "contradiction" = true) (k_contradiction : PySem.W.keepIn K (.ref f_contradiction) = true)
    {f_Lcell : Addr} {od_Lcell an_Lcell : Option Addr} {sl_Lcell : Array (Option Value)} {oc_Lcell kV_Lcell dc_Lcell pm_Lcell cd_Lcell ct_Lcell : Value}
    (a_Lcell : PySem.W.nsIn K mainGlobals "_law_cell" = some (some (.ref f_Lcell))) (l_Lcell : K.lookup f_Lcell = some ⟨oc_Lcell, od_Lcell, .func (PySem.W.fnOf "_law_cell" "_law_cell" (defArgs s_Lcell) (defBody s_Lcell) (defScope s_Lcell) .none kV_Lcell dc_Lcell pm_Lcell an_Lcell cd_Lcell ct_Lcell), sl_Lcell⟩) (c_Lcell : PySem.W.codeIn K cd_Lcell "_law_cell" = true) (k_Lcell : PySem.W.keepIn K (.ref f_Lcell) = true)
    {f_Ldraws : Addr} {od_Ldraws an_Ldraws : Option Addr} {sl_Ldraws : Array (Option Value)} {oc_Ldraws kV_Ldraws dc_Ldraws pm_Ldraws cd_Ldraws ct_Ldraws : Value}
    (a_Ldraws : PySem.W.nsIn K mainGlobals "_law_draws" = some (some (.ref f_Ldraws))) (l_Ldraws : K.lookup f_Ldraws = some ⟨oc_Ldraws, od_Ldraws, .func (PySem.W.fnOf "_law_draws" "_law_draws" (defArgs s_Ldraws) (defBody s_Ldraws) (defScope s_Ldraws) .none kV_Ldraws dc_Ldraws pm_Ldraws an_Ldraws cd_Ldraws ct_Ldraws), sl_Ldraws⟩) (c_Ldraws : PySem.W.codeIn K cd_Ldraws "_law_draws" = true) (k_Ldraws : PySem.W.keepIn K (.ref f_Ldraws) = true)
    {f_Lleast : Addr} {od_Lleast an_Lleast : Option Addr} {sl_Lleast : Array (Option Value)} {oc_Lleast kV_Lleast dc_Lleast pm_Lleast cd_Lleast ct_Lleast : Value}
    (a_Lleast : PySem.W.nsIn K mainGlobals "_law_least" = some (some (.ref f_Lleast))) (l_Lleast : K.lookup f_Lleast = some ⟨oc_Lleast, od_Lleast, .func (PySem.W.fnOf "_law_least" "_law_least" (defArgs s_Lleast) (defBody s_Lleast) (defScope s_Lleast) .none kV_Lleast dc_Lleast pm_Lleast an_Lleast cd_Lleast ct_Lleast), sl_Lleast⟩) (c_Lleast : PySem.W.codeIn K cd_Lleast "_law_least" = true) (k_Lleast : PySem.W.keepIn K (.ref f_Lleast) = true)
    {f_Lconstraints : Addr} {od_Lconstraints an_Lconstraints : Option Addr} {sl_Lconstraints : Array (Option Value)} {oc_Lconstraints kV_Lconstraints dc_Lconstraints pm_Lconstraints cd_Lconstraints ct_Lconstraints : Value}
    (a_Lconstraints : PySem.W.nsIn K mainGlobals "_law_constraints" = some (some (.ref f_Lconstraints))) (l_Lconstraints : K.lookup f_Lconstraints = some ⟨oc_Lconstraints, od_Lconstraints, .func (PySem.W.fnOf "_law_constraints" "_law_constraints" (defArgs s_Lconstraints) (defBody s_Lconstraints) (defScope s_Lconstraints) .none kV_Lconstraints dc_Lconstraints pm_Lconstraints an_Lconstraints cd_Lconstraints ct_Lconstraints), sl_Lconstraints⟩) (c_Lconstraints : PySem.W.codeIn K cd_Lconstraints "_law_constraints" = true) (k_Lconstraints : PySem.W.keepIn K (.ref f_Lconstraints) = true)
    {f_Lall : Addr} {od_Lall an_Lall : Option Addr} {sl_Lall : Array (Option Value)} {oc_Lall kV_Lall dc_Lall pm_Lall cd_Lall ct_Lall : Value}
    (a_Lall : PySem.W.nsIn K mainGlobals "_law_all" = some (some (.ref f_Lall))) (l_Lall : K.lookup f_Lall = some ⟨oc_Lall, od_Lall, .func (PySem.W.fnOf "_law_all" "_law_all" (defArgs s_Lall) (defBody s_Lall) (defScope s_Lall) .none kV_Lall dc_Lall pm_Lall an_Lall cd_Lall ct_Lall), sl_Lall⟩) (c_Lall : PySem.W.codeIn K cd_Lall "_law_all" = true) (k_Lall : PySem.W.keepIn K (.ref f_Lall) = true)
    {f_Lmet : Addr} {od_Lmet an_Lmet : Option Addr} {sl_Lmet : Array (Option Value)} {oc_Lmet kV_Lmet dc_Lmet pm_Lmet cd_Lmet ct_Lmet : Value}
    (a_Lmet : PySem.W.nsIn K mainGlobals "_law_met" = some (some (.ref f_Lmet))) (l_Lmet : K.lookup f_Lmet = some ⟨oc_Lmet, od_Lmet, .func (PySem.W.fnOf "_law_met" "_law_met" (defArgs s_Lmet) (defBody s_Lmet) (defScope s_Lmet) .none kV_Lmet dc_Lmet pm_Lmet an_Lmet cd_Lmet ct_Lmet), sl_Lmet⟩) (c_Lmet : PySem.W.codeIn K cd_Lmet "_law_met" = true) (k_Lmet : PySem.W.keepIn K (.ref f_Lmet) = true)
    {f_Lsolvable : Addr} {od_Lsolvable an_Lsolvable : Option Addr} {sl_Lsolvable : Array (Option Value)} {oc_Lsolvable kV_Lsolvable dc_Lsolvable pm_Lsolvable cd_Lsolvable ct_Lsolvable : Value}
    (a_Lsolvable : PySem.W.nsIn K mainGlobals "_law_solvable" = some (some (.ref f_Lsolvable))) (l_Lsolvable : K.lookup f_Lsolvable = some ⟨oc_Lsolvable, od_Lsolvable, .func (PySem.W.fnOf "_law_solvable" "_law_solvable" (defArgs s_Lsolvable) (defBody s_Lsolvable) (defScope s_Lsolvable) .none kV_Lsolvable dc_Lsolvable pm_Lsolvable an_Lsolvable cd_Lsolvable ct_Lsolvable), sl_Lsolvable⟩) (c_Lsolvable : PySem.W.codeIn K cd_Lsolvable "_law_solvable" = true) (k_Lsolvable : PySem.W.keepIn K (.ref f_Lsolvable) = true)
    {f_Lleft : Addr} {od_Lleft an_Lleft : Option Addr} {sl_Lleft : Array (Option Value)} {oc_Lleft kV_Lleft dc_Lleft pm_Lleft cd_Lleft ct_Lleft : Value}
    (a_Lleft : PySem.W.nsIn K mainGlobals "_law_left" = some (some (.ref f_Lleft))) (l_Lleft : K.lookup f_Lleft = some ⟨oc_Lleft, od_Lleft, .func (PySem.W.fnOf "_law_left" "_law_left" (defArgs s_Lleft) (defBody s_Lleft) (defScope s_Lleft) .none kV_Lleft dc_Lleft pm_Lleft an_Lleft cd_Lleft ct_Lleft), sl_Lleft⟩) (c_Lleft : PySem.W.codeIn K cd_Lleft "_law_left" = true) (k_Lleft : PySem.W.keepIn K (.ref f_Lleft) = true)
    {f_law : Addr} {od_law an_law : Option Addr} {sl_law : Array (Option Value)} {oc_law kV_law dc_law pm_law cd_law ct_law : Value}
    (a_law : PySem.W.nsIn K mainGlobals "law" = some (some (.ref f_law))) (l_law : K.lookup f_law = some ⟨oc_law, od_law, .func (PySem.W.fnOf "law" "law" (defArgs s_law) (defBody s_law) (defScope s_law) .none kV_law dc_law pm_law an_law cd_law ct_law), sl_law⟩) (c_law : PySem.W.codeIn K cd_law "law" = true) (k_law : PySem.W.keepIn K (.ref f_law) = true)
    (z_list : PySem.W.nsIn K mainGlobals "list" = some none)
    (z_range : PySem.W.nsIn K mainGlobals "range" = some none)
    (z_len : PySem.W.nsIn K mainGlobals "len" = some none)
    (z_min : PySem.W.nsIn K mainGlobals "min" = some none)
    (z_tuple : PySem.W.nsIn K mainGlobals "tuple" = some none)
    (z_max : PySem.W.nsIn K mainGlobals "max" = some none)
    (z_isinstance : PySem.W.nsIn K mainGlobals "isinstance" = some none)
    : ∃ fd : FuncData, (∀ (s : Shared) (v : Value), BindsTo s fd ⟨[v], []⟩ [("script", v)]) ∧ ∀ base : Heap, K.In base → base.Ns mainGlobals mg → FnOk l.prog w K mg base CX0 4 fa fd ["script"] (spF K g_law) := by
  have e := hfa.symm.trans (PySem.W.mg_of X G a_law)
  cases e
  have F_raised := fun_mk (st := s_raised) l_raised c_raised k_raised
  have b_raised := F_raised.binds (ps := ["positions", "constraints"]) fun _ _ _ _ _ _ us hl => match us, hl with | [_, _], _ => rfl
  have F_least_positions := fun_mk (st := s_least_positions) l_least_positions c_least_positions k_least_positions
  have b_least_positions := F_least_positions.binds (ps := ["count", "constraints"]) fun _ _ _ _ _ _ us hl => match us, hl with | [_, _], _ => rfl
  have F_contradiction := fun_mk (st := s_contradiction) l_contradiction c_contradiction k_contradiction
  have b_contradiction := F_contradiction.binds (ps := ["count", "constraints"]) fun _ _ _ _ _ _ us hl => match us, hl with | [_, _], _ => rfl
  have F_Lcell := fun_mk (st := s_Lcell) l_Lcell c_Lcell k_Lcell
  have b_Lcell := F_Lcell.binds (ps := ["script", "k"]) fun _ _ _ _ _ _ us hl => match us, hl with | [_, _], _ => rfl
  have F_Ldraws := fun_mk (st := s_Ldraws) l_Ldraws c_Ldraws k_Ldraws
  have b_Ldraws := F_Ldraws.binds (ps := ["cell", "count"]) fun _ _ _ _ _ _ us hl => match us, hl with | [_, _], _ => rfl
  have F_Lleast := fun_mk (st := s_Lleast) l_Lleast c_Lleast k_Lleast
  have b_Lleast := F_Lleast.binds (ps := ["lists"]) fun _ _ _ _ _ _ us hl => match us, hl with | [_], _ => rfl
  have F_Lconstraints := fun_mk (st := s_Lconstraints) l_Lconstraints c_Lconstraints k_Lconstraints
  have b_Lconstraints := F_Lconstraints.binds (ps := ["script", "count"]) fun _ _ _ _ _ _ us hl => match us, hl with | [_, _], _ => rfl
  have F_Lall := fun_mk (st := s_Lall) l_Lall c_Lall k_Lall
  have b_Lall := F_Lall.binds (ps := ["count", "most"]) fun _ _ _ _ _ _ us hl => match us, hl with | [_, _], _ => rfl
  have F_Lmet := fun_mk (st := s_Lmet) l_Lmet c_Lmet k_Lmet
  have b_Lmet := F_Lmet.binds (ps := ["positions", "constraints"]) fun _ _ _ _ _ _ us hl => match us, hl with | [_, _], _ => rfl
  have F_Lsolvable := fun_mk (st := s_Lsolvable) l_Lsolvable c_Lsolvable k_Lsolvable
  have b_Lsolvable := F_Lsolvable.binds (ps := ["count", "constraints"]) fun _ _ _ _ _ _ us hl => match us, hl with | [_, _], _ => rfl
  have F_Lleft := fun_mk (st := s_Lleft) l_Lleft c_Lleft k_Lleft
  have b_Lleft := F_Lleft.binds (ps := ["count", "constraints"]) fun _ _ _ _ _ _ us hl => match us, hl with | [_, _], _ => rfl
  have F_law := fun_mk (st := s_law) l_law c_law k_law
  have b_law := F_law.binds (ps := ["script"]) fun _ _ _ _ _ _ us hl => match us, hl with | [_], _ => rfl
  refine ⟨PySem.W.fnOf "law" "law" (defArgs s_law) (defBody s_law) (defScope s_law) .none kV_law dc_law pm_law an_law cd_law ct_law, fun s v => .of_eq rfl, fun base _ _ => ?_⟩
  have H_raised := ok_raised (P := l.prog) (w := w) (mg := mg) (base := base) F_raised (PySem.W.mg_none_of X G z_list)
  have H_least_positions := ok_least_positions (P := l.prog) (w := w) (mg := mg) (base := base) F_least_positions H_raised (PySem.W.mg_of X G a_raised) k_raised b_raised (PySem.W.mg_none_of X G z_range)
  have H_contradiction := ok_contradiction (P := l.prog) (w := w) (mg := mg) (base := base) F_contradiction H_least_positions (PySem.W.mg_of X G a_least_positions) k_least_positions b_least_positions (PySem.W.mg_none_of X G z_len) (PySem.W.mg_none_of X G z_list) (PySem.W.mg_none_of X G z_range)
  have H_Lcell := ok_Lcell (P := l.prog) (w := w) (mg := mg) (base := base) F_Lcell (PySem.W.mg_none_of X G z_len)
  have H_Ldraws := ok_Ldraws (P := l.prog) (w := w) (mg := mg) (base := base) F_Ldraws (PySem.W.mg_none_of X G z_range)
  have H_Lleast := ok_Lleast (P := l.prog) (w := w) (mg := mg) (base := base) F_Lleast (PySem.W.mg_none_of X G z_list) (PySem.W.mg_none_of X G z_len) (PySem.W.mg_none_of X G z_range) (PySem.W.mg_none_of X G z_min) (PySem.W.mg_none_of X G z_tuple)
  have H_Lconstraints := ok_Lconstraints (P := l.prog) (w := w) (mg := mg) (base := base) F_Lconstraints H_Lcell (PySem.W.mg_of X G a_Lcell) k_Lcell b_Lcell H_Ldraws (PySem.W.mg_of X G a_Ldraws) k_Ldraws b_Ldraws (PySem.W.mg_none_of X G z_range)
  have H_Lall := ok_Lall (P := l.prog) (w := w) (mg := mg) (base := base) F_Lall (PySem.W.mg_none_of X G z_range)
  have H_Lmet := ok_Lmet (P := l.prog) (w := w) (mg := mg) (base := base) F_Lmet
  have H_Lsolvable := ok_Lsolvable (P := l.prog) (w := w) (mg := mg) (base := base) F_Lsolvable (PySem.W.mg_none_of X G z_range) (PySem.W.mg_none_of X G z_max)
  have H_Lleft := ok_Lleft (P := l.prog) (w := w) (mg := mg) (base := base) F_Lleft H_Lsolvable (PySem.W.mg_of X G a_Lsolvable) k_Lsolvable b_Lsolvable (PySem.W.mg_none_of X G z_len) (PySem.W.mg_none_of X G z_list) (PySem.W.mg_none_of X G z_range)
  have H_law := ok_law (P := l.prog) (w := w) (mg := mg) (base := base) F_law H_Lcell (PySem.W.mg_of X G a_Lcell) k_Lcell b_Lcell H_Lconstraints (PySem.W.mg_of X G a_Lconstraints) k_Lconstraints b_Lconstraints H_Lall (PySem.W.mg_of X G a_Lall) k_Lall b_Lall H_Lmet (PySem.W.mg_of X G a_Lmet) k_Lmet b_Lmet H_least_positions (PySem.W.mg_of X G a_least_positions) k_least_positions b_least_positions H_Lsolvable (PySem.W.mg_of X G a_Lsolvable) k_Lsolvable b_Lsolvable H_contradiction (PySem.W.mg_of X G a_contradiction) k_contradiction b_contradiction H_Lleast (PySem.W.mg_of X G a_Lleast) k_Lleast b_Lleast H_Lleft (PySem.W.mg_of X G a_Lleft) k_Lleft b_Lleft (PySem.W.mg_none_of X G z_list) (PySem.W.mg_none_of X G z_len) (PySem.W.mg_none_of X G z_isinstance)
  exact H_law
end K08

namespace K08
open PySem PySem.Spec PyProof.Rows L2 Mir
/-! the law's draws -/
theorem cell_ev (ns : List Int) (k : Nat) : g_Lcell [.list (ns.map .int), .int k] = some (.int (ns.getD k 0)) := by
  show outD (f_Lcell [.val (.list (ns.map .int)), .val (.int k)]) = _
  by_cases h : k < ns.length
  · have e1 : atI (ns.map PyData.int) (k : Int) = some (.int (ns.getD k 0)) := atI_map _ _ _ _ (by simp [List.getD, h])
    simp [f_Lcell, sSeq, sIf, t1, e2, eVar, eCall, aCons, aNil, lenA, ltD, i2, h, sRet, ixG, e1, outD]
  · have e1 : ns.getD k 0 = 0 := by simp [List.getD, List.getElem?_eq_none (Nat.le_of_not_lt h)]
    simp [f_Lcell, sSeq, sIf, t1, e2, eVar, eCall, aCons, aNil, lenA, ltD, i2, h, sRet, ixG, e1, outD, sNil, eC]
theorem pow18 : ∃ z : Int, powD (.int 10) (.int 18) = some (.int z) := by
  refine ⟨10 ^ (18 : Int).toNat, ?_⟩
  show (if CPow 10 18 then some (PyData.int (10 ^ (18 : Int).toNat)) else none) = _
  rw [if_pos ⟨by decide, by decide, by decide⟩]
theorem z1 (c z : Int) (n : Nat) (hp : powD (.int 10) (.int 18) = some (.int z)) : sSet 3 (e2 geD (eVar 0) (e2 powD (eC (.int 10)) (eC (.int 18)))) [.val (.int c), .val (.int n), .own [], .un, .un, .un] = .nx [.val (.int c), .val (.int n), .own [], .val (.bool (decide (z ≤ c))), .un, .un] := sSet_ev (e2_ev rfl (e2_ev rfl rfl hp) (geD_int c z))
theorem z2 (c z : Int) (n : Nat) (hn : n ≤ 1000) : iR1 (aCons (eVar 1) aNil) [.val (.int c), .val (.int n), .own [], .val (.bool (decide (z ≤ c))), .un, .un] = some (rngD 0 n) := by
    have := iR1_ev (fa := aCons (eVar 1) aNil) (env := [.val (.int c), .val (.int n), .own [], .val (.bool (decide (z ≤ c))), .un, .un]) (N := n) rfl (by omega) (by omega)
    rw [Int.toNat_natCast] at this
    exact this
theorem z3 (c z c' : Int) (n : Nat) (hn : n ≤ 1000) (ds : List Int) (x y : Sl) (h1 : loopF (gVal 4) b_Ldraws_1 (rngD 0 n) [.val (.int c), .val (.int n), .own [], .val (.bool (decide (z ≤ c))), .un, .un] = .nx [.val (.int c'), .val (.int n), .own (ds.map PyData.int), .val (.bool (decide (z ≤ c))), x, y])
 (hp : powD (.int 10) (.int 18) = some (.int z)) : f_Ldraws [.val (.int c), .val (.int n), .un, .un, .un, .un] = .rt (.list (ds.map PyData.int)) := by
    have k1 : sOwn 2 (fLst aNil) [.val (.int c), .val (.int n), .un, .un, .un, .un] = .nx [.val (.int c), .val (.int n), .own [], .un, .un, .un] := rfl
    unfold f_Ldraws
    rw [sSeq_nx k1, sSeq_nx (z1 c z n hp), sSeq_nx (sFor_ev (z2 c z n hn) h1)]
    rfl
theorem z4 (c : Int) (n : Nat) (ds : List Int) (this : f_Ldraws [.val (.int c), .val (.int n), .un, .un, .un, .un] = .rt (.list (ds.map PyData.int))) : g_Ldraws [.int c, .int n] = some (.list (ds.map PyData.int)) := gDef_ev (fB := f_Ldraws) rfl this
theorem draws_key (c : Int) (n : Nat) (hn : n ≤ 1000) (wide : Bool) : ∃ (c' : Int) (ds : List Int) (x y : Sl), loopF (gVal 4) b_Ldraws_1 (rngD 0 n) [.val (.int c), .val (.int n), .own [], .val (.bool wide), .un, .un] = .nx [.val (.int c'), .val (.int n), .own (ds.map .int), .val (.bool wide), x, y] ∧ ds.length = n ∧ ∀ d ∈ ds, 0 ≤ d ∧ d < 1000003 := by
  have key : ∃ e', loopF (gVal 4) b_Ldraws_1 (rngD 0 n) [.val (.int c), .val (.int n), .own [], .val (.bool wide), .un, .un] = .nx e' ∧
      (∃ (c' : Int) (ds : List Int) (x y : Sl), e' = [.val (.int c'), .val (.int n), .own (ds.map .int), .val (.bool wide), x, y] ∧ ds.length = n ∧ ∀ d ∈ ds, 0 ≤ d ∧ d < 1000003) := by
    refine loop_rng (fun j e => ∃ (c' : Int) (ds : List Int) (x y : Sl), e = [.val (.int c'), .val (.int n), .own (ds.map .int), .val (.bool wide), x, y] ∧ ds.length = j ∧ ∀ d ∈ ds, 0 ≤ d ∧ d < 1000003) ?_ ⟨c, [], .un, .un, rfl, rfl, fun d h => by cases h⟩
    rintro j e hj ⟨c', ds, x, y, rfl, hd, hb⟩
    obtain ⟨k, hk⟩ : ∃ k : Int, k = 0 + (j : Nat) := ⟨_, rfl⟩
    have hk1 : 0 ≤ k ∧ k < 1000 := by omega
    rw [← hk]
    refine ⟨[.val (.int c'), .val (.int n), .own (ds.map .int), .val (.bool wide), .val (.int k), y], rfl, ?_⟩
    have hl : ds.length < 1000000 := by omega
    cases wide with
    | true =>
      refine ⟨_, .inl (show b_Ldraws_1 _ = .nx [.val (.int (c' / 1009)), .val (.int n), .own ((ds ++ [c' % 1009]).map .int), .val (.bool true), .val (.int k), y] from ?_), c' / 1009, ds ++ [c' % 1009], .val (.int k), y, rfl, by simp [hd], ?_⟩
      · unfold b_Ldraws_1
        rw [sIf_t (by rfl)]
        exact draw_t' 1009 c' n ds _ _ y hl (by decide) (by decide)
      · intro d h
        rcases List.mem_append.mp h with h | h
        · exact hb d h
        · rw [List.mem_singleton.mp h]
          have h1 := Int.emod_nonneg c' (show (1009 : Int) ≠ 0 by decide)
          have h2 := Int.emod_lt_of_pos c' (show (0 : Int) < 1009 by decide)
          omega
    | false =>
      obtain ⟨m, hm⟩ : ∃ m : Int, (c' * 48271 + k * 69621) % 2147483647 = m := ⟨_, rfl⟩
      have hm1 : 0 ≤ m := by rw [← hm]; exact Int.emod_nonneg _ (by decide)
      have hm2 : m < 2147483647 := by rw [← hm]; exact Int.emod_lt_of_pos _ (by decide)
      obtain ⟨v, hv⟩ : ∃ v : Int, (m * m + c' * 31 + k) % 1000003 = v := ⟨_, rfl⟩
      have hv1 : 0 ≤ v := by rw [← hv]; exact Int.emod_nonneg _ (by decide)
      have hv2 : v < 1000003 := by rw [← hv]; exact Int.emod_lt_of_pos _ (by decide)
      refine ⟨_, .inl (show b_Ldraws_1 _ = .nx [.val (.int c'), .val (.int n), .own ((ds ++ [v]).map .int), .val (.bool false), .val (.int k), .val (.int m)] from ?_), c', ds ++ [v], .val (.int k), .val (.int m), rfl, by simp [hd], ?_⟩
      · unfold b_Ldraws_1
        rw [sIf_f (by rfl)]
        rw [sSeq_nx (draw_s1' 48271 69621 2147483647 c' m k n ds _ y (.inr (by omega)) (.inr (by omega)) (by decide) hm)]
        rw [← hv]
        exact draw_s2' 31 1000003 0 c' m k n ds _ hl (.inr (by omega)) (.inl (by omega)) (by decide)
      · intro d h
        rcases List.mem_append.mp h with h | h
        · exact hb d h
        · rw [List.mem_singleton.mp h]
          exact ⟨hv1, hv2⟩
  obtain ⟨e', h1, c', ds, x, y, rfl, h2, h3⟩ := key
  exact ⟨c', ds, x, y, h1, h2, h3⟩
theorem draws_ev (c : Int) (n : Nat) (hn : n ≤ 1000) : ∃ ds : List Int, g_Ldraws [.int c, .int n] = some (.list (ds.map .int)) ∧ ds.length = n ∧ ∀ d ∈ ds, 0 ≤ d ∧ d < 1000003 := by
  obtain ⟨z, hp⟩ := pow18
  obtain ⟨c', ds, x, y, h1, h2, h3⟩ := draws_key c n hn (decide (z ≤ c))
  exact ⟨ds, z4 c n ds (z3 c z c' n hn ds x y h1 hp), h2, h3⟩
/-! boundbook.constraints -/
abbrev conD (c : Con) : PyData := .tuple [.int (c.1 : Nat), .int (c.2.1 : Nat), .int c.2.2]
theorem eqv_ints : ∀ xs ys : List Int, PyData.eqvAll (xs.map PyData.int) (ys.map PyData.int) = decide (xs = ys)
  | [], [] => by simp [PyData.eqvAll]
  | [], y :: ys => by simp [PyData.eqvAll]
  | x :: xs, [] => by simp [PyData.eqvAll]
  | x :: xs, y :: ys => by
    simp only [List.map_cons, PyData.eqvAll, PyData.eqv, eqv_ints xs ys]
    by_cases h : x = y
    · subst h
      simp
    · simp [h]
theorem lay_ints : ∀ xs : List Int, PyData.canLayAll0 (xs.map PyData.int) = true ∧ PyData.depthAll (xs.map PyData.int) = 0
  | [] => by simp [PyData.canLayAll0, PyData.depthAll]
  | x :: xs => by
    obtain ⟨h1, h2⟩ := lay_ints xs
    simp [PyData.canLayAll0, PyData.canLay0, PyData.depthAll, PyData.depth, h1, h2]
theorem shaped_ints (xs : List Int) : SeqAt.shaped (.list (xs.map PyData.int)) = true ∧ SeqAt.shaped (.tuple (xs.map PyData.int)) = true := by
  obtain ⟨h1, h2⟩ := lay_ints xs
  unfold SeqAt.shaped
  simp [PyData.canLay0, h1, PyData.depth, h2]
theorem eqD_ints (xs ys : List Int) : eqD (.list (xs.map .int)) (.list (ys.map .int)) = some (.bool (decide (xs = ys))) := by
  unfold eqD
  simp only [(shaped_ints xs).1, (shaped_ints ys).1, Bool.and_self, if_true, PyData.eqv, eqv_ints]
theorem eqD_intT (xs ys : List Int) : eqD (.tuple (xs.map .int)) (.tuple (ys.map .int)) = some (.bool (decide (xs = ys))) := by
  unfold eqD
  simp only [(shaped_ints xs).2, (shaped_ints ys).2, Bool.and_self, if_true, PyData.eqv, eqv_ints]
theorem neD_intT (xs ys : List Int) : neD (.tuple (xs.map .int)) (.tuple (ys.map .int)) = some (.bool (!decide (xs = ys))) := by
  unfold neD
  simp only [(shaped_ints xs).2, (shaped_ints ys).2, Bool.and_self, if_true, PyData.eqv, eqv_ints]
theorem ixN_nat {n j : Nat} (h : j < n) : ixN n (j : Int) = some j := by
  unfold ixN
  rw [if_pos (by omega), if_pos (by omega)]
  congr 1
theorem raised_loop (a0 a1 : Sl) : ∀ (cs : List Con) (h : List Int) (y3 y4 y5 : Sl), Ix cs h.length → ∃ z3 z4 z5, loopF (gT [3, 4, 5]) b_raised_1 (cs.map conD) [a0, a1, .own (h.map .int), y3, y4, y5] = .nx [a0, a1, .own ((rz cs h).map .int), z3, z4, z5]
  | [], h, y3, y4, y5, _ => ⟨y3, y4, y5, rfl⟩
  | c :: cs, h, y3, y4, y5, hi => by
    obtain ⟨h1, h2⟩ := hi c List.mem_cons_self
    have hb : b_raised_1 [a0, a1, .own (h.map .int), .val (.int (c.1 : Nat)), .val (.int (c.2.1 : Nat)), .val (.int c.2.2)] = .nx [a0, a1, .own ((rz1 h c).map .int), .val (.int (c.1 : Nat)), .val (.int (c.2.1 : Nat)), .val (.int c.2.2)] := by
      have k1 := atI_map PyData.int h c.1 (h.getD c.1 0) (by simp [List.getD, h1])
      have k2 := atI_map PyData.int h c.2.1 (h.getD c.2.1 0) (by simp [List.getD, h2])
      have hs : e2 addD (eIxO 2 (eVar 3)) (eVar 5) [a0, a1, .own (h.map .int), .val (.int (c.1 : Nat)), .val (.int (c.2.1 : Nat)), .val (.int c.2.2)] = some (.int (h.getD c.1 0 + c.2.2)) := e2_ev (eIxO_ev rfl rfl k1) rfl (addD_int _ _)
      have ht := t1_ev (e2_ev (eIxO_ev (i := 2) (g := eVar 4) (env := [a0, a1, .own (h.map .int), .val (.int (c.1 : Nat)), .val (.int (c.2.1 : Nat)), .val (.int c.2.2)]) rfl rfl k2) hs (ltD_int _ _))
      unfold b_raised_1 rz1
      by_cases q : h.getD c.2.1 0 < h.getD c.1 0 + c.2.2
      · rw [decide_eq_true q] at ht
        rw [if_pos q]
        refine (sIf_t ht).trans ?_
        unfold sPut
        rw [hs]
        show (match ixD (h.map PyData.int).length (.int (c.2.1 : Nat)) with | some j => _ | none => _) = _
        rw [show ixD (h.map PyData.int).length (.int (c.2.1 : Nat)) = some c.2.1 from ixN_nat (by rw [List.length_map]; exact h2)]
        show Out.nx [a0, a1, .own ((h.map PyData.int).set c.2.1 _), _, _, _] = _
        rw [← List.map_set]
      · rw [decide_eq_false q] at ht
        rw [if_neg q]
        exact (sIf_f ht).trans rfl
    obtain ⟨z3, z4, z5, ih⟩ := raised_loop a0 a1 cs (rz1 h c) (.val (.int (c.1 : Nat))) (.val (.int (c.2.1 : Nat))) (.val (.int c.2.2)) (fun d hd => by rw [rz1_len]; exact hi d (List.mem_cons_of_mem _ hd))
    refine ⟨z3, z4, z5, ?_⟩
    rw [List.map_cons]
    show loopF (gT [3, 4, 5]) b_raised_1 (.tuple [.int (c.1 : Nat), .int (c.2.1 : Nat), .int c.2.2] :: cs.map conD) _ = _
    simp only [loopF, gT, gMany, gVal, List.set_cons_succ, List.set_cons_zero, hb]
    exact ih
theorem raised_ev (p : List Int) (cs : List Con) (hi : Ix cs p.length) (hl : p.length ≤ 1000) : g_raised [.list (p.map .int), .list (cs.map conD)] = some (.list ((rz cs p).map .int)) := by
  obtain ⟨z3, z4, z5, h⟩ := raised_loop (.val (.list (p.map .int))) (.val (.list (cs.map conD))) cs p .un .un .un hi
  refine gDef_ev' (fB := f_raised) [.val (.list (p.map .int)), .val (.list (cs.map conD)), .un, .un, .un, .un] rfl rfl ?_
  unfold f_raised
  refine (sSeq_nx (e := [.val (.list (p.map .int)), .val (.list (cs.map conD)), .own (p.map .int), .un, .un, .un]) (by rfl)).trans ?_
  exact (sSeq_nx (sFor_ev (ds := cs.map conD) (by rfl) h)).trans rfl
theorem lp_loop (cs : List Con) (N : Nat) (hN : 0 < N) (hN2 : N ≤ 1000) (hi : Ix cs N) (a0 : Sl) : ∀ (ds : List PyData) (p : List Int) (y3 y4 : Sl), p.length = N →
    (match lp cs ds.length p with
    | some m => loopF (gVal 3) b_least_positions_1 ds [a0, .val (.list (cs.map conD)), .val (.list (p.map .int)), y3, y4] = .rt (.list (m.map .int))
    | none => (∃ e, loopF (gVal 3) b_least_positions_1 ds [a0, .val (.list (cs.map conD)), .val (.list (p.map .int)), y3, y4] = .nx e) ∨ loopF (gVal 3) b_least_positions_1 ds [a0, .val (.list (cs.map conD)), .val (.list (p.map .int)), y3, y4] = .rt .none)
  | [], p, y3, y4, hl => .inl ⟨_, rfl⟩
  | d :: ds, p, y3, y4, hl => by
    have hi' : Ix cs p.length := by rw [hl]; exact hi
    have s1 : sSet 4 (eCall g_raised (aCons (eVar 2) (aCons (eVar 1) aNil))) [a0, .val (.list (cs.map conD)), .val (.list (p.map .int)), .val d, y4] = .nx [a0, .val (.list (cs.map conD)), .val (.list (p.map .int)), .val d, .val (.list ((rz cs p).map .int))] :=
      sSet_ev (eCall_ev (aCons_ev rfl (aCons_ev rfl aNil_ev)) (raised_ev p cs hi' (by omega)))
    have t1' : t1 (e2 eqD (eVar 4) (eVar 2)) [a0, .val (.list (cs.map conD)), .val (.list (p.map .int)), .val d, .val (.list ((rz cs p).map .int))] = some (decide (rz cs p = p)) := t1_ev (e2_ev rfl rfl (eqD_ints _ _))
    have t2' : t1 (e2 gtD (e2 ixG (eVar 4) (eC (.int 0))) (eC (.int 0))) [a0, .val (.list (cs.map conD)), .val (.list (p.map .int)), .val d, .val (.list ((rz cs p).map .int))] = some (decide (0 < (rz cs p).getD 0 0)) := by
      have e1 := atI_map PyData.int (rz cs p) 0 ((rz cs p).getD 0 0) (by
        have : 0 < (rz cs p).length := by rw [rz_len, hl]; exact hN
        simp [List.getD, this])
      exact t1_ev (e2_ev (e2_ev rfl rfl e1) rfl (gtD_int _ _))
    rw [List.length_cons]
    unfold lp
    by_cases q : rz cs p = p
    · rw [decide_eq_true q] at t1'
      rw [if_pos q]
      have hb : b_least_positions_1 [a0, .val (.list (cs.map conD)), .val (.list (p.map .int)), .val d, y4] = .rt (.list (p.map .int)) := by
        unfold b_least_positions_1
        exact (sSeq_nx s1).trans (sSeq_rt ((sIf_t t1').trans rfl))
      simp only [loopF, gVal, List.set_cons_succ, List.set_cons_zero, hb]
    · rw [decide_eq_false q] at t1'
      rw [if_neg q]
      by_cases z : 0 < (rz cs p).getD 0 0
      · rw [decide_eq_true z] at t2'
        rw [if_pos z]
        have hb : b_least_positions_1 [a0, .val (.list (cs.map conD)), .val (.list (p.map .int)), .val d, y4] = .rt .none := by
          unfold b_least_positions_1
          exact (sSeq_nx s1).trans ((sSeq_nx ((sIf_f t1').trans rfl)).trans (sSeq_rt ((sIf_t t2').trans rfl)))
        refine .inr ?_
        simp only [loopF, gVal, List.set_cons_succ, List.set_cons_zero, hb]
      · rw [decide_eq_false z] at t2'
        rw [if_neg z]
        have hb : b_least_positions_1 [a0, .val (.list (cs.map conD)), .val (.list (p.map .int)), .val d, y4] = .nx [a0, .val (.list (cs.map conD)), .val (.list ((rz cs p).map .int)), .val d, .val (.list ((rz cs p).map .int))] := by
          unfold b_least_positions_1
          exact (sSeq_nx s1).trans ((sSeq_nx ((sIf_f t1').trans rfl)).trans ((sSeq_nx ((sIf_f t2').trans rfl)).trans rfl))
        have ih := lp_loop cs N hN hN2 hi a0 ds (rz cs p) (.val d) (.val (.list ((rz cs p).map .int))) (by rw [rz_len, hl])
        have hstep : loopF (gVal 3) b_least_positions_1 (d :: ds) [a0, .val (.list (cs.map conD)), .val (.list (p.map .int)), y3, y4] = loopF (gVal 3) b_least_positions_1 ds [a0, .val (.list (cs.map conD)), .val (.list ((rz cs p).map .int)), .val d, .val (.list ((rz cs p).map .int))] := by
          simp only [loopF, gVal, List.set_cons_succ, List.set_cons_zero, hb]
        rw [hstep]
        exact ih
theorem lp_ev (cs : List Con) (N : Nat) (hN : 0 < N) (hN2 : N ≤ 1000) (hi : Ix cs N) : g_least_positions [.int (N : Nat), .list (cs.map conD)] = some (match lp cs N (zs N) with
    | some m => .list (m.map .int)
    | none => .none) := by
  have hl := lp_loop cs N hN hN2 hi (.val (.int (N : Nat))) (rngD 0 N) (zs N) .un .un (by simp [zs])
  rw [rng_len] at hl
  have hr := iR1_ev (fa := aCons (eVar 0) aNil) (env := [.val (.int (N : Nat)), .val (.list (cs.map conD)), .val (.list ((zs N).map .int)), .un, .un]) (N := (N : Nat)) rfl (by omega) (by omega)
  rw [Int.toNat_natCast] at hr
  refine gDef_ev' (fB := f_least_positions) [.val (.int (N : Nat)), .val (.list (cs.map conD)), .un, .un, .un] rfl rfl ?_
  unfold f_least_positions
  refine (sSeq_nx (e := [.val (.int (N : Nat)), .val (.list (cs.map conD)), .val (.list ((zs N).map .int)), .un, .un]) (sSet_ev (eL_ev ?_))).trans ?_
  · refine (fRep_ev (ds := [.int 0]) (k := (N : Nat)) (by rfl) (by rfl) (by omega) (by rw [Int.toNat_natCast]; show 1 * N ≤ _; omega)).trans ?_
    rw [Int.toNat_natCast, rep_flat]
    unfold zs
    rw [List.map_replicate]
  · cases hz : lp cs N (zs N) with
    | some m =>
      rw [hz] at hl
      exact sSeq_rt (sFor_ev hr hl)
    | none =>
      rw [hz] at hl
      rcases hl with ⟨e, hl⟩ | hl
      · exact (sSeq_nx (sFor_ev hr hl)).trans rfl
      · exact sSeq_rt (sFor_ev hr hl)
/-! the law's constraints -/
theorem cons_ev (ns : List Int) (N : Nat) (hN : 2 ≤ N) (hN3 : N ≤ 3) : ∃ cs : List Con, g_Lconstraints [.list (ns.map .int), .int (N : Nat)] = some (.list (cs.map conD)) ∧ Ix cs N ∧ cs.length ≤ 7 ∧ ∀ c ∈ cs, -4 ≤ c.2.2 ∧ c.2.2 ≤ 5 := by
  obtain ⟨S, hS⟩ : ∃ S : PyData, S = .list (ns.map .int) := ⟨_, rfl⟩
  have hcell : ∀ k : Nat, g_Lcell [S, .int (k : Nat)] = some (.int (ns.getD k 0)) := fun k => by rw [hS]; exact cell_ev ns k
  obtain ⟨Nv, hNv⟩ : ∃ Nv : Int, Nv = (N : Nat) := ⟨_, rfl⟩
  rw [← hS, ← hNv]
  have k0 := mod_lt (ns.getD 1 0) 8 (by decide)
  obtain ⟨w, hw⟩ : ∃ w : Int, w = ns.getD 1 0 % 8 := ⟨_, rfl⟩
  rw [← hw] at k0
  obtain ⟨wn, hwn⟩ := Int.eq_ofNat_of_zero_le k0.1
  have hwn' : w = (wn : Nat) := hwn
  have key := loop_rng (g := gVal 3) (b := b_Lconstraints_1) (lo := 0) (n := wn) (e := [.val S, .val (.int Nv), .own [], .un, .un, .un, .un])
    (fun j e => ∃ (cs : List Con) (y3 y4 y5 y6 : Sl), Ix cs N ∧ cs.length = j ∧ (∀ c ∈ cs, -4 ≤ c.2.2 ∧ c.2.2 ≤ 5) ∧ e = [.val S, .val (.int Nv), .own (cs.map conD), y3, y4, y5, y6]) (fun j e hj he => by
      obtain ⟨cs, y3, y4, y5, y6, h1, h2, h3, rfl⟩ := he
      obtain ⟨k, hk⟩ : ∃ k : Int, k = 0 + (j : Nat) := ⟨_, rfl⟩
      rw [← hk]
      obtain ⟨ds, hd, hdl, hdr⟩ := draws_ev (ns.getD (2 + j) 0) 3 (by decide)
      have a1 := mod_lt (ds.getD 0 0) Nv (by omega)
      have a2 := mod_lt (ds.getD 1 0) (Nv - 1) (by omega)
      have a3 := mod_lt (ds.getD 2 0) 10 (by decide)
      obtain ⟨fv, hfv⟩ : ∃ fv : Int, fv = ds.getD 0 0 % Nv := ⟨_, rfl⟩
      rw [← hfv] at a1
      obtain ⟨sv, hsv⟩ : ∃ sv : Int, sv = (fv + 1 + ds.getD 1 0 % (Nv - 1)) % Nv := ⟨_, rfl⟩
      have a4 := mod_lt (fv + 1 + ds.getD 1 0 % (Nv - 1)) Nv (by omega)
      rw [← hsv] at a4
      obtain ⟨fn, hfn⟩ := Int.eq_ofNat_of_zero_le a1.1
      obtain ⟨sn, hsn⟩ := Int.eq_ofNat_of_zero_le a4.1
      have hfn' : fv = (fn : Nat) := hfn
      have hsn' : sv = (sn : Nat) := hsn
      refine ⟨_, rfl, _, .inl ?_, cs ++ [(fn, sn, ds.getD 2 0 % 10 - 4)], .val (.int k), .val (.list (ds.map .int)), .val (.int fv), .val (.int sv), fun c hc => ?_, by simp [h2], fun c hc => ?_, rfl⟩
      · unfold b_Lconstraints_1
        refine (sSeq_nx (e := [.val S, .val (.int Nv), .own (cs.map conD), .val (.int k), .val (.list (ds.map .int)), y5, y6]) (sSet_ev (eCall_ev (aCons_ev (eCall_ev (aCons_ev rfl (aCons_ev ((e2_ev rfl rfl (addD_int _ _)).trans (by rw [show (2 : Int) + k = ((2 + j : Nat) : Int) by omega])) aNil_ev)) (hcell _)) (aCons_ev rfl aNil_ev)) hd))).trans ?_
        refine (sSeq_nx (e := [.val S, .val (.int Nv), .own (cs.map conD), .val (.int k), .val (.list (ds.map .int)), .val (.int fv), y6]) (sSet_ev ((e2_ev (dr_at (ds := ds) rfl (j := 0) (by omega) rfl) rfl (modD_int (by omega))).trans (by rw [hfv])))).trans ?_
        refine (sSeq_nx (e := [.val S, .val (.int Nv), .own (cs.map conD), .val (.int k), .val (.list (ds.map .int)), .val (.int fv), .val (.int sv)]) (sSet_ev ((e2_ev (e2_ev (e2_ev rfl rfl (addD_int _ _)) (e2_ev (dr_at (ds := ds) rfl (j := 1) (by omega) rfl) (e2_ev rfl rfl (subD_int _ _)) (modD_int (by omega))) (addD_int _ _)) rfl (modD_int (by omega))).trans (by rw [hsv])))).trans ?_
        have e6 : e2 subD (e2 modD (e2 ixG (eVar 4) (eC (.int 2))) (eC (.int 10))) (eC (.int 4)) [.val S, .val (.int Nv), .own (cs.map conD), .val (.int k), .val (.list (ds.map .int)), .val (.int fv), .val (.int sv)] = some (.int (ds.getD 2 0 % 10 - 4)) := e2_ev (dr_mod' (ds := ds) rfl (j := 2) (by omega) rfl (by decide)) rfl (subD_int _ _)
        have e7 : eTup (aCons (eVar 5) (aCons (eVar 6) (aCons (e2 subD (e2 modD (e2 ixG (eVar 4) (eC (.int 2))) (eC (.int 10))) (eC (.int 4))) aNil))) [.val S, .val (.int Nv), .own (cs.map conD), .val (.int k), .val (.list (ds.map .int)), .val (.int fv), .val (.int sv)] = some (conD (fn, sn, ds.getD 2 0 % 10 - 4)) := by
          refine (eTup_ev (aCons_ev rfl (aCons_ev rfl (aCons_ev e6 aNil_ev))) (by simp)).trans ?_
          rw [hfn', hsn']
        refine (sApp_ev (i := 2) e7 rfl (by rw [List.length_map]; omega)).trans ?_
        rw [List.map_append]
        rfl
      · rcases List.mem_append.mp hc with hc | hc
        · exact h1 c hc
        · rw [List.mem_singleton.mp hc]
          exact ⟨show fn < N by omega, show sn < N by omega⟩
      · rcases List.mem_append.mp hc with hc | hc
        · exact h3 c hc
        · rw [List.mem_singleton.mp hc]
          show -4 ≤ ds.getD 2 0 % 10 - 4 ∧ ds.getD 2 0 % 10 - 4 ≤ 5
          omega) ⟨[], .un, .un, .un, .un, fun c hc => (nomatch hc), rfl, fun c hc => (nomatch hc), rfl⟩
  obtain ⟨e', h1, cs, y3, y4, y5, y6, q1, q2, q3, rfl⟩ := key
  refine ⟨cs, ?_, q1, by omega, q3⟩
  refine gDef_ev' [.val S, .val (.int Nv), .un, .un, .un, .un, .un] rfl rfl ?_
  unfold f_Lconstraints
  refine (sSeq_nx (e := [.val S, .val (.int Nv), .own [], .un, .un, .un, .un]) rfl).trans ?_
  have hrg := iR1_ev (fa := aCons (e2 modD (eCall g_Lcell (aCons (eVar 0) (aCons (eC (.int 1)) aNil))) (eC (.int 8))) aNil) (env := [.val S, .val (.int Nv), .own [], .un, .un, .un, .un]) (N := w) (aCons_ev ((e2_ev (eCall_ev (aCons_ev rfl (aCons_ev rfl aNil_ev)) (hcell 1)) rfl (modD_int (by decide))).trans (by rw [hw])) aNil_ev) (by omega) (by omega)
  rw [hwn', Int.toNat_natCast] at hrg
  exact (sSeq_nx (sFor_ev hrg h1)).trans rfl
/-! the law's own test of a system: ways between places -/
def mxD (N : Nat) (M : Wm) : List (List PyData) := (List.range N).map fun i => (List.range N).map fun j => .int (M i j)
theorem mxD_row {N : Nat} {M : Wm} {i : Nat} (h : i < N) : (mxD N M)[i]? = some ((List.range N).map fun j => .int (M i j)) := by
  unfold mxD
  rw [List.getElem?_map, List.getElem?_range h]
  rfl
theorem row_at {N : Nat} {f : Nat → Int} {j : Nat} (h : j < N) : ((List.range N).map fun j => PyData.int (f j))[j]? = some (.int (f j)) := by
  rw [List.getElem?_map, List.getElem?_range h]
  rfl
theorem mxD_len (N : Nat) (M : Wm) : (mxD N M).length = N := by simp [mxD]
theorem mxD_set {N : Nat} {M : Wm} {i j : Nat} {v : Int} (hi : i < N) (hj : j < N) : (mxD N M).set i (((List.range N).map fun j => PyData.int (M i j)).set j (.int v)) = mxD N fun a b => if a = i ∧ b = j then v else M a b := by
  apply List.ext_getElem?
  intro k
  by_cases hk : k < N
  · rw [mxD_row hk]
    by_cases e : k = i
    · subst e
      rw [List.getElem?_set_self (by rw [mxD_len]; exact hk)]
      congr 1
      apply List.ext_getElem?
      intro l
      by_cases hl : l < N
      · rw [row_at hl]
        by_cases e2 : l = j
        · subst e2
          rw [List.getElem?_set_self (by simpa using hl), if_pos ⟨rfl, rfl⟩]
        · rw [List.getElem?_set_ne (Ne.symm e2), row_at hl, if_neg (fun z => e2 z.2)]
      · rw [List.getElem?_eq_none (by simp; omega), List.getElem?_eq_none (by simp; omega)]
    · rw [List.getElem?_set_ne (Ne.symm e), mxD_row hk]
      congr 1
      apply List.map_congr_left
      intro l _
      rw [if_neg (fun z => e z.1)]
  · rw [List.getElem?_eq_none (by rw [List.length_set, mxD_len]; omega), List.getElem?_eq_none (by rw [mxD_len]; omega)]
theorem ix2_ev {N : Nat} {M : Wm} {env : En} {i a b : Nat} {f g : En → Option PyData} {x y : Int} (he : env[i]? = some (.mat (mxD N M))) (hf : f env = some (.int x)) (hg : g env = some (.int y)) (hx : x = (a : Nat)) (hy : y = (b : Nat)) (ha : a < N) (hb : b < N) : eIx2 i f g env = some (.int (M a b)) := by
  subst hx
  subst hy
  unfold eIx2
  rw [he]
  simp only [hf]
  rw [atI_nat (mxD_row ha)]
  simp only [hg]
  exact atI_nat (row_at hb)
theorem put2_ev {N : Nat} {M : Wm} {env : En} {i a b : Nat} {fx fy f : En → Option PyData} {x y v : Int} (he : env[i]? = some (.mat (mxD N M))) (hf : fx env = some (.int x)) (hg : fy env = some (.int y)) (hv : f env = some (.int v)) (hx : x = (a : Nat)) (hy : y = (b : Nat)) (ha : a < N) (hb : b < N) :
    sPut2 i fx fy f env = .nx (env.set i (.mat (mxD N fun p q => if p = a ∧ q = b then v else M p q))) := by
  subst hx
  subst hy
  unfold sPut2
  rw [hv]
  simp only [he, hf]
  rw [mxD_len, ixN_nat ha]
  simp only [mxD_row ha, hg]
  rw [List.length_map, List.length_range, ixN_nat hb]
  simp only [mxD_set ha hb]
theorem mx2_ev {f g : En → Option PyData} {env : En} {x y : Int} (hf : f env = some (.int x)) (hg : g env = some (.int y)) : eCall mx2 (aCons f (aCons g aNil)) env = some (.int (mx x y)) := eCall_ev (aCons_ev hf (aCons_ev hg aNil_ev)) rfl
/-- ways[a][b] = max(ways[a][b], v) -/
theorem up_ev {N : Nat} {M : Wm} {env : En} {a b : Nat} {fx fy f : En → Option PyData} {x y v : Int} (he : env[2]? = some (.mat (mxD N M))) (hf : fx env = some (.int x)) (hg : fy env = some (.int y)) (hv : f env = some (.int v)) (hx : x = (a : Nat)) (hy : y = (b : Nat)) (ha : a < N) (hb : b < N) :
    sPut2 2 fx fy (eCall mx2 (aCons (eIx2 2 fx fy) (aCons f aNil))) env = .nx (env.set 2 (.mat (mxD N (upW M a b v)))) :=
  put2_ev he hf hg (mx2_ev (ix2_ev he hf hg hx hy ha hb) hv) hx hy ha hb
theorem sv_cons {N : Nat} (a0 a1 a6 a7 a8 : Sl) : ∀ (cs : List Con) (M : Wm) (y3 y4 y5 : Sl), Ix cs N → ∃ z3 z4 z5, loopF (gT [3, 4, 5]) b_Lsolvable_1 (cs.map conD) [a0, a1, .mat (mxD N M), y3, y4, y5, a6, a7, a8] = .nx [a0, a1, .mat (mxD N (ini cs M)), z3, z4, z5, a6, a7, a8]
  | [], M, y3, y4, y5, _ => ⟨y3, y4, y5, rfl⟩
  | c :: cs, M, y3, y4, y5, hi => by
    obtain ⟨h1, h2⟩ := hi c List.mem_cons_self
    have hb : b_Lsolvable_1 [a0, a1, .mat (mxD N M), .val (.int (c.1 : Nat)), .val (.int (c.2.1 : Nat)), .val (.int c.2.2), a6, a7, a8] = .nx [a0, a1, .mat (mxD N (upW M c.1 c.2.1 c.2.2)), .val (.int (c.1 : Nat)), .val (.int (c.2.1 : Nat)), .val (.int c.2.2), a6, a7, a8] :=
      up_ev (fx := eVar 3) (fy := eVar 4) (f := eVar 5) rfl rfl rfl rfl rfl rfl h1 h2
    obtain ⟨z3, z4, z5, ih⟩ := sv_cons a0 a1 a6 a7 a8 cs (upW M c.1 c.2.1 c.2.2) (.val (.int (c.1 : Nat))) (.val (.int (c.2.1 : Nat))) (.val (.int c.2.2)) (fun d hd => hi d (List.mem_cons_of_mem _ hd))
    refine ⟨z3, z4, z5, ?_⟩
    rw [List.map_cons]
    show loopF _ _ (conD c :: _) _ = _
    unfold loopF
    show (match b_Lsolvable_1 [a0, a1, .mat (mxD N M), .val (.int (c.1 : Nat)), .val (.int (c.2.1 : Nat)), .val (.int c.2.2), a6, a7, a8] with
      | .nx e2 => loopF (gT [3, 4, 5]) b_Lsolvable_1 (cs.map conD) e2
      | .ct e2 => loopF (gT [3, 4, 5]) b_Lsolvable_1 (cs.map conD) e2
      | .bk e2 => .nx e2
      | .rt v => .rt v
      | .bad => .bad) = _
    rw [hb]
    exact ih
theorem sv_zero {N : Nat} (hN : 0 < N) (a0 a1 a3 a4 a5 a7 a8 : Sl) (M : Wm) (y6 : Sl) : ∃ z6, loopF (gVal 6) b_Lsolvable_2 (rngD 0 N) [a0, a1, .mat (mxD N M), a3, a4, a5, y6, a7, a8] = .nx [a0, a1, .mat (mxD N (ini0 N M)), a3, a4, a5, z6, a7, a8] := by
  obtain ⟨e', h, z6, rfl⟩ := loop_rng (g := gVal 6) (b := b_Lsolvable_2) (lo := 0) (n := N) (e := [a0, a1, .mat (mxD N M), a3, a4, a5, y6, a7, a8]) (fun j e => ∃ z6, e = [a0, a1, .mat (mxD N (ini0 j M)), a3, a4, a5, z6, a7, a8]) (fun j e hj he => by
    obtain ⟨z6, rfl⟩ := he
    obtain ⟨k, hk⟩ : ∃ k : Int, k = 0 + (j : Nat) := ⟨_, rfl⟩
    rw [← hk]
    exact ⟨_, rfl, _, .inl (up_ev (a := 0) (b := j) (fx := eC (.int 0)) (fy := eVar 6) (f := eC (.int 0)) rfl rfl rfl rfl rfl (by omega) hN hj), .val (.int k), rfl⟩) ⟨y6, rfl⟩
  exact ⟨z6, h⟩
theorem sv_J {N k i : Nat} (hk : k < N) (hi : i < N) (a0 a1 a5 a6 a8 : Sl) (M : Wm) (y4 : Sl) (kv iv : Int) (hkv : kv = (k : Nat)) (hiv : iv = (i : Nat)) : ∃ z4, loopF (gVal 4) b_Lsolvable_3 (rngD 0 N) [a0, a1, .mat (mxD N M), .val (.int iv), y4, a5, a6, .val (.int kv), a8] = .nx [a0, a1, .mat (mxD N (fwJ k i N M)), .val (.int iv), z4, a5, a6, .val (.int kv), a8] := by
  obtain ⟨e', h, z4, rfl⟩ := loop_rng (g := gVal 4) (b := b_Lsolvable_3) (lo := 0) (n := N) (e := [a0, a1, .mat (mxD N M), .val (.int iv), y4, a5, a6, .val (.int kv), a8]) (fun j e => ∃ z4, e = [a0, a1, .mat (mxD N (fwJ k i j M)), .val (.int iv), z4, a5, a6, .val (.int kv), a8]) (fun j e hj he => by
    obtain ⟨z4, rfl⟩ := he
    obtain ⟨jv, hjv⟩ : ∃ k : Int, k = 0 + (j : Nat) := ⟨_, rfl⟩
    rw [← hjv]
    have hj2 : jv = (j : Nat) := by omega
    exact ⟨_, rfl, _, .inl (up_ev (a := i) (b := j) (fx := eVar 3) (fy := eVar 4) (f := e2 addD (eIx2 2 (eVar 3) (eVar 7)) (eIx2 2 (eVar 7) (eVar 4))) (v := fwJ k i j M i k + fwJ k i j M k j) rfl rfl rfl (e2_ev (ix2_ev (a := i) (b := k) rfl rfl rfl hiv hkv hi hk) (ix2_ev (a := k) (b := j) rfl rfl rfl hkv hj2 hk hj) (addD_int _ _)) hiv hj2 hi hj), .val (.int jv), rfl⟩) ⟨y4, rfl⟩
  exact ⟨z4, h⟩
theorem rng0 (N : Nat) (hN : N ≤ 1000) (env : En) (Nv : Int) (hNv : Nv = (N : Nat)) (h : eVar 0 env = some (.int Nv)) : iR1 (aCons (eVar 0) aNil) env = some (rngD 0 N) := by
  have := iR1_ev (fa := aCons (eVar 0) aNil) (env := env) (N := Nv) (aCons_ev h aNil_ev) (by omega) (by omega)
  rw [hNv, Int.toNat_natCast] at this
  exact this
theorem sv_I {N k : Nat} (hk : k < N) (hN : N ≤ 1000) (a1 a5 a6 a8 : Sl) (M : Wm) (y3 y4 : Sl) (Nv kv : Int) (hNv : Nv = (N : Nat)) (hkv : kv = (k : Nat)) : ∃ z3 z4, loopF (gVal 3) b_Lsolvable_4 (rngD 0 N) [.val (.int Nv), a1, .mat (mxD N M), y3, y4, a5, a6, .val (.int kv), a8] = .nx [.val (.int Nv), a1, .mat (mxD N (fwI N k N M)), z3, z4, a5, a6, .val (.int kv), a8] := by
  obtain ⟨e', h, z3, z4, rfl⟩ := loop_rng (g := gVal 3) (b := b_Lsolvable_4) (lo := 0) (n := N) (e := [.val (.int Nv), a1, .mat (mxD N M), y3, y4, a5, a6, .val (.int kv), a8]) (fun j e => ∃ z3 z4, e = [.val (.int Nv), a1, .mat (mxD N (fwI N k j M)), z3, z4, a5, a6, .val (.int kv), a8]) (fun j e hj he => by
    obtain ⟨z3, z4, rfl⟩ := he
    obtain ⟨jv, hjv⟩ : ∃ k : Int, k = 0 + (j : Nat) := ⟨_, rfl⟩
    rw [← hjv]
    obtain ⟨w4, hw⟩ := sv_J hk hj (.val (.int Nv)) a1 a5 a6 a8 (fwI N k j M) z4 kv jv hkv (by omega)
    exact ⟨_, rfl, _, .inl (sFor_ev (rng0 N hN _ Nv hNv rfl) hw), .val (.int jv), w4, rfl⟩) ⟨y3, y4, rfl⟩
  exact ⟨z3, z4, h⟩
theorem sv_K {N : Nat} (hN : N ≤ 1000) (a1 a5 a6 a8 : Sl) (M : Wm) (y3 y4 y7 : Sl) (Nv : Int) (hNv : Nv = (N : Nat)) : ∃ z3 z4 z7, loopF (gVal 7) b_Lsolvable_5 (rngD 0 N) [.val (.int Nv), a1, .mat (mxD N M), y3, y4, a5, a6, y7, a8] = .nx [.val (.int Nv), a1, .mat (mxD N (fwK N N M)), z3, z4, a5, a6, z7, a8] := by
  obtain ⟨e', h, z3, z4, z7, rfl⟩ := loop_rng (g := gVal 7) (b := b_Lsolvable_5) (lo := 0) (n := N) (e := [.val (.int Nv), a1, .mat (mxD N M), y3, y4, a5, a6, y7, a8]) (fun j e => ∃ z3 z4 z7, e = [.val (.int Nv), a1, .mat (mxD N (fwK N j M)), z3, z4, a5, a6, z7, a8]) (fun j e hj he => by
    obtain ⟨z3, z4, z7, rfl⟩ := he
    obtain ⟨jv, hjv⟩ : ∃ k : Int, k = 0 + (j : Nat) := ⟨_, rfl⟩
    rw [← hjv]
    obtain ⟨w3, w4, hw⟩ := sv_I hj hN a1 a5 a6 a8 (fwK N j M) z3 z4 Nv jv hNv (by omega)
    exact ⟨_, rfl, _, .inl (sFor_ev (rng0 N hN _ Nv hNv rfl) hw), w3, w4, .val (.int jv), rfl⟩) ⟨y3, y4, y7, rfl⟩
  exact ⟨z3, z4, z7, h⟩
theorem sv_dg {N : Nat} (a0 a1 a3 a4 a5 a7 a8 : Sl) (M : Wm) (y6 : Sl) : (∃ e', loopF (gVal 6) b_Lsolvable_6 (rngD 0 N) [a0, a1, .mat (mxD N M), a3, a4, a5, y6, a7, a8] = .nx e' ∧ ∀ a, a < N → M a a ≤ 0) ∨ (loopF (gVal 6) b_Lsolvable_6 (rngD 0 N) [a0, a1, .mat (mxD N M), a3, a4, a5, y6, a7, a8] = .rt (.bool false) ∧ ∃ a, a < N ∧ ¬ M a a ≤ 0) := by
  have key := loop_rngA (g := gVal 6) (b := b_Lsolvable_6) (lo := 0) (n := N) (e := [a0, a1, .mat (mxD N M), a3, a4, a5, y6, a7, a8])
    (fun j e => ∃ z6, e = [a0, a1, .mat (mxD N M), a3, a4, a5, z6, a7, a8] ∧ ∀ a, a < j → M a a ≤ 0) (fun v => v = .bool false ∧ ∃ a, a < N ∧ ¬ M a a ≤ 0) (fun j e hj he => by
      obtain ⟨z6, rfl, hq⟩ := he
      obtain ⟨jv, hjv⟩ : ∃ k : Int, k = 0 + (j : Nat) := ⟨_, rfl⟩
      rw [← hjv]
      have ht : t1 (e2 gtD (eIx2 2 (eVar 6) (eVar 6)) (eC (.int 0))) [a0, a1, .mat (mxD N M), a3, a4, a5, .val (.int jv), a7, a8] = some (decide (M j j > 0)) := t1_ev (e2_ev (ix2_ev (a := j) (b := j) rfl rfl rfl (by omega) (by omega) hj hj) rfl (gtD_int _ _))
      refine ⟨_, rfl, ?_⟩
      by_cases h : M j j > 0
      · exact .inr ⟨.bool false, (sIf_t (ht.trans (by rw [decide_eq_true h]))).trans (sRet_ev rfl), rfl, j, hj, by omega⟩
      · refine .inl ⟨_, .inl ((sIf_f (ht.trans (by rw [decide_eq_false h]))).trans rfl), .val (.int jv), rfl, fun a ha => ?_⟩
        by_cases e : a = j
        · subst e; omega
        · exact hq a (by omega)) ⟨y6, rfl, fun a ha => by omega⟩
  rcases key with ⟨e', h1, z6, rfl, h2⟩ | ⟨v, h1, rfl, h2⟩
  · exact .inl ⟨_, h1, h2⟩
  · exact .inr ⟨h1, h2⟩
/-- the law's test says whether there is a solution at all -/
theorem solv_ev (cs : List Con) (N : Nat) (hN : 0 < N) (hN2 : N ≤ 1000) (hi : Ix cs N) : ∃ b : Bool, g_Lsolvable [.int (N : Nat), .list (cs.map conD)] = some (.bool b) ∧ (b = true ↔ ∀ a, a < N → ways N cs a a ≤ 0) := by
  obtain ⟨Nv, hNv⟩ : ∃ Nv : Int, Nv = (N : Nat) := ⟨_, rfl⟩
  rw [← hNv]
  obtain ⟨CD, hCD⟩ : ∃ CD : PyData, CD = .list (cs.map conD) := ⟨_, rfl⟩
  rw [← hCD]
  have hrow : m_Lsolvable_2 = fCmp [6] (iR1 (aCons (eVar 0) aNil)) (gVal 6) tYes' c_Lsolvable_1 := rfl
  have mat : sMat 2 [8] (iR1 (aCons (eVar 0) aNil)) (gVal 8) m_Lsolvable_2 [.val (.int Nv), .val CD, .un, .un, .un, .un, .un, .un, .un] = .nx [.val (.int Nv), .val CD, .mat (mxD N fun _ _ => -1000), .un, .un, .un, .un, .un, .un] := by
    have rw1 : ∀ y8 : Sl, m_Lsolvable_2 [.val (.int Nv), .val CD, .un, .un, .un, .un, .un, .un, y8] = some ((List.range N).map fun _ => .int (-1000)) := fun y8 => by
      refine fCmp_ev (ds := rngD 0 N) (rng0 N hN2 _ Nv hNv rfl) ?_ (by simp; omega)
      rw [show rngD 0 N = (List.range N).map fun k : Nat => PyData.int (0 + (k : Nat)) from rfl]
      exact compF_mapS fun k hk => ⟨_, rfl, rfl⟩
    have cm : ∀ l : List Nat, compM (gVal 8) m_Lsolvable_2 [.val (.int Nv), .val CD, .un, .un, .un, .un, .un, .un, .un] (l.map fun k : Nat => PyData.int (0 + (k : Nat))) = some (l.map fun _ => (List.range N).map fun _ => .int (-1000)) := by
      intro l
      induction l with
      | nil => rfl
      | cons x l ih =>
        show (match m_Lsolvable_2 [.val (.int Nv), .val CD, .un, .un, .un, .un, .un, .un, .val (.int (0 + (x : Nat)))] with
          | none => none
          | some r => match compM (gVal 8) m_Lsolvable_2 [.val (.int Nv), .val CD, .un, .un, .un, .un, .un, .un, .un] (l.map fun k : Nat => PyData.int (0 + (k : Nat))) with
            | none => none
            | some rs => some (r :: rs)) = _
        rw [rw1, ih]
        rfl
    unfold sMat
    rw [rng0 N hN2 _ Nv hNv rfl]
    have w : wipeE [.val (.int Nv), .val CD, .un, .un, .un, .un, .un, .un, .un] [8] = [.val (.int Nv), .val CD, .un, .un, .un, .un, .un, .un, .un] := rfl
    simp only [w]
    rw [show rngD 0 N = (List.range N).map fun k : Nat => PyData.int (0 + (k : Nat)) from rfl, cm (List.range N)]
    simp only
    rw [if_pos]
    · rfl
    · refine ⟨by simp; omega, ?_⟩
      rw [List.all_eq_true]
      intro r hr
      obtain ⟨_, _, rfl⟩ := List.mem_map.mp hr
      rw [List.all_eq_true]
      intro d hd
      obtain ⟨_, _, rfl⟩ := List.mem_map.mp hd
      rfl
  obtain ⟨z3, z4, z5, h1⟩ := sv_cons (N := N) (.val (.int Nv)) (.val CD) .un .un .un cs (fun _ _ => -1000) .un .un .un hi
  obtain ⟨z6, h2⟩ := sv_zero hN (.val (.int Nv)) (.val CD) z3 z4 z5 .un .un (ini cs fun _ _ => -1000) .un
  obtain ⟨w3, w4, w7, h3⟩ := sv_K hN2 (.val CD) z5 z6 .un (ini0 N (ini cs fun _ _ => -1000)) z3 z4 .un Nv hNv
  have h4 := sv_dg (N := N) (.val (.int Nv)) (.val CD) w3 w4 z5 w7 .un (ways N cs) z6
  have pre : ∀ o, (sSeq (sFor (iR1 (aCons (eVar 0) aNil)) (gVal 6) b_Lsolvable_6) (sRet (eC (.bool true)))) [.val (.int Nv), .val CD, .mat (mxD N (ways N cs)), w3, w4, z5, z6, w7, .un] = .rt o → g_Lsolvable [.int Nv, CD] = some o := fun o ho => by
    refine gDef_ev' [.val (.int Nv), .val CD, .un, .un, .un, .un, .un, .un, .un] rfl rfl ?_
    unfold f_Lsolvable
    refine (sSeq_nx mat).trans ?_
    refine (sSeq_nx (sFor_ev (iSeq_l (ds := cs.map conD) (by rw [hCD]; rfl)) h1)).trans ?_
    refine (sSeq_nx (sFor_ev (rng0 N hN2 _ Nv hNv rfl) h2)).trans ?_
    exact (sSeq_nx (sFor_ev (rng0 N hN2 _ Nv hNv rfl) h3)).trans ho
  rcases h4 with ⟨e', h4, h5⟩ | ⟨h4, a, ha, h5⟩
  · refine ⟨true, pre _ ((sSeq_nx (sFor_ev (rng0 N hN2 _ Nv hNv rfl) h4)).trans (sRet_ev rfl)), ⟨fun _ => h5, fun _ => rfl⟩⟩
  · refine ⟨false, pre _ (sSeq_rt (sFor_ev (rng0 N hN2 _ Nv hNv rfl) h4)), ⟨fun h => (nomatch h), fun h => absurd (h a ha) h5⟩⟩
/-- the least solution is small -/
theorem cap {cs : List Con} {N : Nat} (hN : 2 ≤ N) (hN3 : N ≤ 3) (hi : Ix cs N) (hd : ∀ c ∈ cs, -4 ≤ c.2.2 ∧ c.2.2 ≤ 5) {m : Nat → Int} (hm : Sl0 cs N m) (hl : ∀ x, Sl0 cs N x → ∀ v, v < N → m v ≤ x v) : ∀ v, v < N → m v ≤ 10 := fun v hv => by
  obtain ⟨h1, h2, h3⟩ := hm
  apply Classical.byContradiction
  intro hv10
  obtain ⟨T, hT, hg⟩ : ∃ T : Int, 0 ≤ T ∧ T < m v ∧ ∀ w, w < N → m w ≤ T ∨ T + 6 ≤ m w := by
    have n1 := h3 1 (by omega)
    by_cases e : N = 3
    · have n2 := h3 2 (by omega)
      have vv : v = 1 ∨ v = 2 := by
        have : v ≠ 0 := fun z => by subst z; omega
        omega
      by_cases a : (m 1 ≤ 0 ∨ 6 ≤ m 1) ∧ (m 2 ≤ 0 ∨ 6 ≤ m 2)
      · refine ⟨0, by omega, by omega, fun w hw => ?_⟩
        have : w = 0 ∨ w = 1 ∨ w = 2 := by omega
        rcases this with rfl | rfl | rfl <;> omega
      · by_cases b : m 1 ≤ 0 ∨ 6 ≤ m 1
        · refine ⟨m 2, by omega, by rcases vv with rfl | rfl <;> omega, fun w hw => ?_⟩
          have : w = 0 ∨ w = 1 ∨ w = 2 := by omega
          rcases vv with rfl | rfl <;> rcases this with rfl | rfl | rfl <;> omega
        · refine ⟨m 1, by omega, by rcases vv with rfl | rfl <;> omega, fun w hw => ?_⟩
          have : w = 0 ∨ w = 1 ∨ w = 2 := by omega
          rcases vv with rfl | rfl <;> rcases this with rfl | rfl | rfl <;> omega
    · refine ⟨0, by omega, by omega, fun w hw => ?_⟩
      have vv : v = 1 := by
        have : v ≠ 0 := fun z => by subst z; omega
        omega
      subst vv
      have : w = 0 ∨ w = 1 := by omega
      rcases this with rfl | rfl <;> omega
  have hs : Sl0 cs N (fun w => if T < m w then m w - 1 else m w) := by
    refine ⟨fun c hc => ?_, ?_, fun w hw => ?_⟩
    · have a1 := h1 c hc
      have a2 := hd c hc
      obtain ⟨c1, c2⟩ := hi c hc
      have g1 := hg.2 c.1 c1
      have g2 := hg.2 c.2.1 c2
      show (if T < m c.1 then m c.1 - 1 else m c.1) + c.2.2 ≤ (if T < m c.2.1 then m c.2.1 - 1 else m c.2.1)
      split <;> split <;> omega
    · show (if T < m 0 then m 0 - 1 else m 0) = 0
      rw [if_neg (by omega)]
      exact h2
    · show 0 ≤ (if T < m w then m w - 1 else m w)
      have := h3 w hw
      split <;> omega
  have := hl _ hs v hv
  simp only [if_pos hg.1] at this
  omega
/-- both tests agree -/
theorem sv_lp {cs : List Con} {N : Nat} (hN : 2 ≤ N) (hN3 : N ≤ 3) (hi : Ix cs N) (hd : ∀ c ∈ cs, -4 ≤ c.2.2 ∧ c.2.2 ≤ 5) : g_Lsolvable [.int (N : Nat), .list (cs.map conD)] = some (.bool (lp cs N (zs N)).isSome) := by
  obtain ⟨b, h1, h2⟩ := solv_ev cs N (by omega) (by omega) hi
  rw [h1]
  cases hl : lp cs N (zs N) with
  | none =>
    have no := lp_none (by omega) hi hl
    cases b with
    | false => rfl
    | true => exact absurd (ways_ok (by omega) hi (h2.mp rfl)) no
  | some m =>
    obtain ⟨_, q1, q2⟩ := lp_some (by omega) hi hl
    have := cap hN hN3 hi hd q1 q2
    rw [h2.mpr (ways_no q1 fun v hv => by have := this v hv; omega)]
    rfl
/-! all lines of places, those that keep the constraints, the least -/
def tupI (l : List Int) : PyData := .tuple (l.map .int)
def lstI (l : List Int) : PyData := .list (l.map .int)
def ext (l : List Int) : List (List Int) := (List.range 25).map fun x => l ++ [((x : Nat) : Int)]
def allL : Nat → List (List Int)
  | 0 => [[0]]
  | k + 1 => (allL k).flatMap ext
theorem allL_len : ∀ k, ∀ l ∈ allL k, l.length = k + 1
  | 0, l, h => by rw [List.mem_singleton.mp h]; rfl
  | k + 1, l, h => by
    obtain ⟨l', h1, h2⟩ := List.mem_flatMap.mp h
    obtain ⟨x, _, rfl⟩ := List.mem_map.mp h2
    rw [List.length_append, allL_len k l' h1]
    rfl
theorem allL_in : ∀ k (l : List Int), l.length = k + 1 → at0 l 0 = 0 → (∀ v, v < k + 1 → 0 ≤ at0 l v ∧ at0 l v ≤ 24) → l ∈ allL k
  | 0, l, hl, h0, _ => by
    match l, hl, h0 with
    | [x], _, h0 =>
      have : x = 0 := h0
      rw [this]
      exact List.mem_singleton.mpr rfl
  | k + 1, l, hl, h0, hb => by
    have hne : l ≠ [] := fun e => by rw [e] at hl; simp at hl
    have e : l = l.dropLast ++ [l.getLast hne] := (List.dropLast_concat_getLast hne).symm
    have dl : l.dropLast.length = k + 1 := by rw [List.length_dropLast]; omega
    have at_d : ∀ v, v < k + 1 → at0 l.dropLast v = at0 l v := fun v hv => by
      unfold at0
      rw [List.getD_eq_getElem?_getD, List.getD_eq_getElem?_getD, List.getElem?_dropLast, if_pos (by omega)]
    have last : l.getLast hne = at0 l (k + 1) := by
      unfold at0
      rw [List.getLast_eq_getElem, List.getD_eq_getElem?_getD, List.getElem?_eq_getElem (by omega)]
      show l[l.length - 1] = l[k + 1]
      congr 1
      omega
    have b := hb (k + 1) (by omega)
    rw [e]
    refine List.mem_flatMap.mpr ⟨l.dropLast, allL_in k _ dl (by rw [at_d 0 (by omega)]; exact h0) fun v hv => by rw [at_d v hv]; exact hb v (by omega), ?_⟩
    obtain ⟨n, hn⟩ := Int.eq_ofNat_of_zero_le b.1
    refine List.mem_map.mpr ⟨n, List.mem_range.mpr (by omega), ?_⟩
    rw [last, hn]
theorem allL_at : ∀ k, ∀ l ∈ allL k, at0 l 0 = 0 ∧ ∀ v, v < k + 1 → 0 ≤ at0 l v
  | 0, l, h => by
    rw [List.mem_singleton.mp h]
    exact ⟨rfl, fun v hv => by rw [show v = 0 by omega]; decide⟩
  | k + 1, l, h => by
    obtain ⟨l', h1, h2⟩ := List.mem_flatMap.mp h
    obtain ⟨x, _, rfl⟩ := List.mem_map.mp h2
    have hl := allL_len k l' h1
    obtain ⟨q1, q2⟩ := allL_at k l' h1
    have a : ∀ v, v < k + 1 → at0 (l' ++ [((x : Nat) : Int)]) v = at0 l' v := fun v hv => by
      unfold at0
      rw [List.getD_eq_getElem?_getD, List.getD_eq_getElem?_getD, List.getElem?_append_left (by omega)]
    refine ⟨by rw [a 0 (by omega)]; exact q1, fun v hv => ?_⟩
    by_cases e : v < k + 1
    · rw [a v e]; exact q2 v e
    · have : v = k + 1 := by omega
      subst this
      unfold at0
      rw [List.getD_eq_getElem?_getD, List.getElem?_append_right (by omega), hl]
      simp
theorem all_ev (N : Nat) (hN : 2 ≤ N) (hN3 : N ≤ 3) : g_Lall [.int (N : Nat), .int 24] = some (.list ((allL (N - 1)).map tupI)) := by
  obtain ⟨Nv, hNv⟩ : ∃ Nv : Int, Nv = (N : Nat) := ⟨_, rfl⟩
  rw [← hNv]
  have inner : ∀ (F : List (List Int)) (l : List Int) (y3 y6 : Sl) (FD : PyData), l.length ≤ 10 → F.length ≤ 1000 → ∃ z6, b_Lall_2 [.val (.int Nv), .val (.int 24), .val FD, y3, .own (F.map tupI), .val (tupI l), y6] = .nx [.val (.int Nv), .val (.int 24), .val FD, y3, .own ((F ++ ext l).map tupI), .val (tupI l), z6] := fun F l y3 y6 FD hl hF => by
    obtain ⟨e', h, z6, rfl⟩ := loop_rng (g := gVal 6) (b := b_Lall_1) (lo := 0) (n := 25) (e := [.val (.int Nv), .val (.int 24), .val FD, y3, .own (F.map tupI), .val (tupI l), y6]) (fun j e => ∃ z6, e = [.val (.int Nv), .val (.int 24), .val FD, y3, .own ((F ++ (List.range j).map fun x => l ++ [((x : Nat) : Int)]).map tupI), .val (tupI l), z6]) (fun j e hj he => by
      obtain ⟨z6, rfl⟩ := he
      obtain ⟨jv, hjv⟩ : ∃ k : Int, k = 0 + (j : Nat) := ⟨_, rfl⟩
      rw [← hjv]
      refine ⟨_, rfl, _, .inl ?_, .val (.int jv), rfl⟩
      unfold b_Lall_1
      have e1 : e2 addD (eVar 5) (eTup (aCons (eVar 6) aNil)) [.val (.int Nv), .val (.int 24), .val FD, y3, .own ((F ++ (List.range j).map fun x => l ++ [((x : Nat) : Int)]).map tupI), .val (tupI l), .val (.int jv)] = some (tupI (l ++ [((j : Nat) : Int)])) := by
        refine (e2_ev rfl (eTup_ev (aCons_ev rfl aNil_ev) (by simp)) (addD_tup (by simp; omega))).trans ?_
        rw [show jv = ((j : Nat) : Int) by omega]
        simp [tupI]
      have e9 : (F ++ (List.range j).map fun x => l ++ [((x : Nat) : Int)]).map tupI ++ [tupI (l ++ [((j : Nat) : Int)])] = (F ++ (List.range (j + 1)).map fun x => l ++ [((x : Nat) : Int)]).map tupI := by
        rw [List.range_succ]
        simp
      refine (sApp_ev (i := 4) e1 rfl (by simp; omega)).trans ?_
      show Out.nx [.val (.int Nv), .val (.int 24), .val FD, y3, .own ((F ++ (List.range j).map fun x => l ++ [((x : Nat) : Int)]).map tupI ++ [tupI (l ++ [((j : Nat) : Int)])]), .val (tupI l), .val (.int jv)] = _
      rw [e9]) ⟨y6, by simp⟩
    refine ⟨z6, ?_⟩
    unfold b_Lall_2
    have hrg := iR1_ev (fa := aCons (e2 addD (eVar 1) (eC (.int 1))) aNil) (env := [.val (.int Nv), .val (.int 24), .val FD, y3, .own (F.map tupI), .val (tupI l), y6]) (N := 25) (aCons_ev (e2_ev rfl rfl rfl) aNil_ev) (by omega) (by omega)
    exact sFor_ev hrg h
  have mid : ∀ (L F : List (List Int)) (y3 y5 y6 : Sl) (FD : PyData), (∀ l ∈ L, l.length ≤ 10) → F.length + 25 * L.length ≤ 1000 → ∃ z5 z6, loopF (gVal 5) b_Lall_2 (L.map tupI) [.val (.int Nv), .val (.int 24), .val FD, y3, .own (F.map tupI), y5, y6] = .nx [.val (.int Nv), .val (.int 24), .val FD, y3, .own ((F ++ L.flatMap ext).map tupI), z5, z6] := by
    intro L
    induction L with
    | nil => exact fun F y3 y5 y6 FD _ _ => ⟨y5, y6, by simp [loopF]⟩
    | cons l L ih =>
      intro F y3 y5 y6 FD hl hF
      obtain ⟨z6, h1⟩ := inner F l y3 y6 FD (hl l List.mem_cons_self) (by simp at hF; omega)
      obtain ⟨w5, w6, h2⟩ := ih (F ++ ext l) y3 (.val (tupI l)) z6 FD (fun l' h => hl l' (List.mem_cons_of_mem _ h)) (by simp [ext] at hF ⊢; omega)
      refine ⟨w5, w6, ?_⟩
      rw [List.map_cons]
      show (match b_Lall_2 [.val (.int Nv), .val (.int 24), .val FD, y3, .own (F.map tupI), .val (tupI l), y6] with
        | .nx e2 => loopF (gVal 5) b_Lall_2 (L.map tupI) e2
        | .ct e2 => loopF (gVal 5) b_Lall_2 (L.map tupI) e2
        | .bk e2 => .nx e2
        | .rt v => .rt v
        | .bad => .bad) = _
      rw [h1]
      refine h2.trans ?_
      rw [List.flatMap_cons, List.append_assoc]
  have ln : ∀ k, (allL k).length = 25 ^ k := fun k => by
    induction k with
    | zero => rfl
    | succ k ih =>
      show ((allL k).flatMap ext).length = _
      rw [List.length_flatMap]
      have : (allL k).map (fun l => (ext l).length) = (allL k).map fun _ => 25 := List.map_congr_left fun l _ => by simp [ext]
      have sc : ∀ L : List (List Int), (L.map fun _ => 25).sum = 25 * L.length := fun L => by
        induction L with
        | nil => rfl
        | cons a L ih => rw [List.map_cons, List.sum_cons, ih, List.length_cons]; omega
      rw [this, sc, ih, Nat.pow_succ]
      omega
  have key := loop_rng (g := gVal 3) (b := b_Lall_3) (lo := 0) (n := N - 1) (e := [.val (.int Nv), .val (.int 24), .val (.list ((allL 0).map tupI)), .un, .un, .un, .un])
    (fun j e => ∃ y3 y4 y5 y6, e = [.val (.int Nv), .val (.int 24), .val (.list ((allL j).map tupI)), y3, y4, y5, y6]) (fun j e hj he => by
      obtain ⟨y3, y4, y5, y6, rfl⟩ := he
      obtain ⟨jv, hjv⟩ : ∃ k : Int, k = 0 + (j : Nat) := ⟨_, rfl⟩
      rw [← hjv]
      have l1 : (allL j).length ≤ 25 := by
        rw [ln]
        have : j = 0 ∨ j = 1 := by omega
        rcases this with rfl | rfl <;> decide
      obtain ⟨z5, z6, h⟩ := mid (allL j) [] (.val (.int jv)) y5 y6 (.list ((allL j).map tupI)) (fun l hl => by rw [allL_len j l hl]; omega) (by simp; omega)
      refine ⟨_, rfl, _, .inl ?_, .val (.int jv), .val (.list ((allL (j + 1)).map tupI)), z5, z6, rfl⟩
      unfold b_Lall_3
      refine (sSeq_nx (e := [.val (.int Nv), .val (.int 24), .val (.list ((allL j).map tupI)), .val (.int jv), .own [], y5, y6]) rfl).trans ?_
      refine (sSeq_nx (sFor_ev (iSeq_l rfl) h)).trans ?_
      rfl) ⟨.un, .un, .un, .un, rfl⟩
  obtain ⟨e', h1, y3, y4, y5, y6, rfl⟩ := key
  refine gDef_ev' [.val (.int Nv), .val (.int 24), .un, .un, .un, .un, .un] rfl rfl ?_
  unfold f_Lall
  refine (sSeq_nx (e := [.val (.int Nv), .val (.int 24), .val (.list ((allL 0).map tupI)), .un, .un, .un, .un]) (sSet_ev (eL_ev (fLst_ev (aCons_ev (eTup_ev (aCons_ev rfl aNil_ev) (by simp)) aNil_ev) (by simp))))).trans ?_
  have hrg := iR1_ev (fa := aCons (e2 subD (eVar 0) (eC (.int 1))) aNil) (env := [.val (.int Nv), .val (.int 24), .val (.list ((allL 0).map tupI)), .un, .un, .un, .un]) (N := Nv - 1) (aCons_ev (e2_ev rfl rfl (subD_int _ _)) aNil_ev) (by omega) (by omega)
  rw [show (Nv - 1).toNat = N - 1 by omega] at hrg
  exact (sSeq_nx (sFor_ev hrg h1)).trans (sRet_ev rfl)
def metB (cs : List Con) (l : List Int) : Bool := cs.all fun c => decide (c.2.2 ≤ at0 l c.2.1 - at0 l c.1)
theorem metB_sol {cs : List Con} {l : List Int} : metB cs l = true ↔ Sol cs (at0 l) := by
  unfold metB Sol
  rw [List.all_eq_true]
  exact ⟨fun h c hc => by have := of_decide_eq_true (h c hc); omega, fun h c hc => decide_eq_true (by have := h c hc; omega)⟩
theorem met_loop (l : List Int) (CD : PyData) : ∀ (cs : List Con) (y2 y3 y4 : Sl), Ix cs l.length → (metB cs l = true ∧ ∃ e', loopF (gT [2, 3, 4]) b_Lmet_1 (cs.map conD) [.val (tupI l), .val CD, y2, y3, y4] = .nx e') ∨ (metB cs l = false ∧ loopF (gT [2, 3, 4]) b_Lmet_1 (cs.map conD) [.val (tupI l), .val CD, y2, y3, y4] = .rt (.bool false))
  | [], y2, y3, y4, _ => .inl ⟨rfl, _, rfl⟩
  | c :: cs, y2, y3, y4, hi => by
    obtain ⟨h1, h2⟩ := hi c List.mem_cons_self
    have k1 := atI_map PyData.int l c.1 (at0 l c.1) (by simp [at0, List.getD, h1])
    have k2 := atI_map PyData.int l c.2.1 (at0 l c.2.1) (by simp [at0, List.getD, h2])
    have ht : t1 (e2 ltD (e2 subD (e2 ixG (eVar 0) (eVar 3)) (e2 ixG (eVar 0) (eVar 2))) (eVar 4)) [.val (tupI l), .val CD, .val (.int (c.1 : Nat)), .val (.int (c.2.1 : Nat)), .val (.int c.2.2)] = some (decide (at0 l c.2.1 - at0 l c.1 < c.2.2)) :=
      t1_ev (e2_ev (e2_ev (e2_ev rfl rfl k2) (e2_ev rfl rfl k1) (subD_int _ _)) rfl (ltD_int _ _))
    have un : loopF (gT [2, 3, 4]) b_Lmet_1 ((c :: cs).map conD) [.val (tupI l), .val CD, y2, y3, y4] = (match b_Lmet_1 [.val (tupI l), .val CD, .val (.int (c.1 : Nat)), .val (.int (c.2.1 : Nat)), .val (.int c.2.2)] with
        | .nx e2 => loopF (gT [2, 3, 4]) b_Lmet_1 (cs.map conD) e2
        | .ct e2 => loopF (gT [2, 3, 4]) b_Lmet_1 (cs.map conD) e2
        | .bk e2 => .nx e2
        | .rt v => .rt v
        | .bad => .bad) := rfl
    have mb : metB (c :: cs) l = (decide (c.2.2 ≤ at0 l c.2.1 - at0 l c.1) && metB cs l) := rfl
    by_cases q : at0 l c.2.1 - at0 l c.1 < c.2.2
    · refine .inr ⟨by rw [mb, decide_eq_false (by omega)]; rfl, ?_⟩
      rw [un]
      unfold b_Lmet_1
      rw [(sIf_t (ht.trans (by rw [decide_eq_true q]))).trans (sRet_ev rfl)]
    · have hb : b_Lmet_1 [.val (tupI l), .val CD, .val (.int (c.1 : Nat)), .val (.int (c.2.1 : Nat)), .val (.int c.2.2)] = .nx [.val (tupI l), .val CD, .val (.int (c.1 : Nat)), .val (.int (c.2.1 : Nat)), .val (.int c.2.2)] := (sIf_f (ht.trans (by rw [decide_eq_false q]))).trans rfl
      have := met_loop l CD cs (.val (.int (c.1 : Nat))) (.val (.int (c.2.1 : Nat))) (.val (.int c.2.2)) fun d hd => hi d (List.mem_cons_of_mem _ hd)
      rw [un, hb, mb, decide_eq_true (by omega : c.2.2 ≤ at0 l c.2.1 - at0 l c.1), Bool.true_and]
      exact this
theorem met_ev (l : List Int) (cs : List Con) (hi : Ix cs l.length) : g_Lmet [tupI l, .list (cs.map conD)] = some (.bool (metB cs l)) := by
  obtain ⟨CD, hCD⟩ : ∃ CD : PyData, CD = .list (cs.map conD) := ⟨_, rfl⟩
  rw [← hCD]
  refine gDef_ev' [.val (tupI l), .val CD, .un, .un, .un] rfl rfl ?_
  unfold f_Lmet
  have hs : iSeq (eVar 1) [.val (tupI l), .val CD, .un, .un, .un] = some (cs.map conD) := iSeq_l (by rw [hCD]; rfl)
  rcases met_loop l CD cs .un .un .un hi with ⟨h1, e', h2⟩ | ⟨h1, h2⟩
  · rw [h1]
    exact (sSeq_nx (sFor_ev hs h2)).trans (sRet_ev rfl)
  · rw [h1]
    exact sSeq_rt (sFor_ev hs h2)
theorem sPut_ev {i : Nat} {fk f : En → Option PyData} {env : En} {d : PyData} {ds : List PyData} {k : Int} {j : Nat} (h1 : f env = some d) (h2 : env[i]? = some (.own ds)) (h3 : fk env = some (.int k)) (h4 : ixD ds.length (.int k) = some j) : sPut i fk f env = .nx (env.set i (.own (ds.set j d))) := by
  unfold sPut
  rw [h1]
  simp only [h2, h3, h4]
theorem loopF_nx {g : PyData → En → Option En} {b : En → Out} {d : PyData} {ds : List PyData} {env e1 e2 : En} (hg : g d env = some e1) (hb : b e1 = .nx e2) : loopF g b (d :: ds) env = loopF g b ds e2 := by
  conv => lhs; unfold loopF
  simp only [hg, hb]
/-! the least of lists -/
def mn (x v : Int) : Int := if v < x then v else x
theorem mn_le (x v : Int) : mn x v ≤ x ∧ mn x v ≤ v ∧ ∀ z, z ≤ x → z ≤ v → z ≤ mn x v := by
  unfold mn
  split
  · exact ⟨by omega, by omega, fun z _ h => h⟩
  · exact ⟨by omega, by omega, fun z h _ => h⟩
theorem least_in {N : Nat} (LD : Sl) (B l : List Int) (hB : B.length = N) (hl : l.length = N) (hN : N ≤ 1000) (y3 : Sl) : ∃ (B' : List Int) (z3 : Sl), b_Lleast_2 [LD, .own (B.map .int), .val (lstI l), y3] = .nx [LD, .own (B'.map .int), .val (lstI l), z3] ∧ B'.length = N ∧ ∀ v, v < N → at0 B' v = mn (at0 B v) (at0 l v) := by
  obtain ⟨e', h, Bj, z3, h1, h2, rfl⟩ := loop_rng (g := gVal 3) (b := b_Lleast_1) (lo := 0) (n := N) (e := [LD, .own (B.map .int), .val (lstI l), y3])
    (fun j e => ∃ (Bj : List Int) (z3 : Sl), Bj.length = N ∧ (∀ v, v < N → at0 Bj v = if v < j then mn (at0 B v) (at0 l v) else at0 B v) ∧ e = [LD, .own (Bj.map .int), .val (lstI l), z3]) (fun j e hj he => by
      obtain ⟨Bj, z3, h1, h2, rfl⟩ := he
      obtain ⟨jv, hjv⟩ : ∃ k : Int, k = 0 + (j : Nat) := ⟨_, rfl⟩
      rw [← hjv]
      have hj2 : jv = (j : Nat) := by omega
      have k1 := atI_map PyData.int Bj j (at0 Bj j) (by simp [at0, List.getD, h1, hj])
      have k2 := atI_map PyData.int l j (at0 l j) (by simp [at0, List.getD, hl, hj])
      rw [← hj2] at k1 k2
      have hm : eCall mn2 (aCons (eIxO 1 (eVar 3)) (aCons (e2 ixG (eVar 2) (eVar 3)) aNil)) [LD, .own (Bj.map .int), .val (lstI l), .val (.int jv)] = some (.int (mn (at0 Bj j) (at0 l j))) := eCall_ev (aCons_ev (eIxO_ev rfl rfl k1) (aCons_ev (e2_ev rfl rfl k2) aNil_ev)) rfl
      refine ⟨_, rfl, _, .inl ?_, Bj.set j (mn (at0 Bj j) (at0 l j)), .val (.int jv), by rw [List.length_set]; exact h1, fun v hv => ?_, rfl⟩
      · unfold b_Lleast_1
        refine (sPut_ev hm rfl rfl (j := j) (by rw [hj2]; exact ixN_nat (by rw [List.length_map, h1]; exact hj))).trans ?_
        rw [← List.map_set]
        rfl
      · have gs := getD_set Bj j v (mn (at0 Bj j) (at0 l j)) (by omega)
        show (Bj.set j (mn (at0 Bj j) (at0 l j))).getD v 0 = _
        rw [gs]
        by_cases e : v = j
        · subst e
          rw [if_pos rfl, if_pos (by omega), h2 v hv, if_neg (by omega)]
        · rw [if_neg e]
          have := h2 v hv
          unfold at0 at this
          rw [this]
          by_cases q : v < j
          · rw [if_pos q, if_pos (by omega)]
          · rw [if_neg q, if_neg (by omega)]) ⟨B, y3, hB, fun v hv => by rw [if_neg (by omega)], rfl⟩
  refine ⟨Bj, z3, ?_, h1, fun v hv => by rw [h2 v hv, if_pos hv]⟩
  unfold b_Lleast_2
  have hrg := iR1_ev (fa := aCons (eCall lenA (aCons (eBor 1) aNil)) aNil) (env := [LD, .own (B.map .int), .val (lstI l), y3]) (N := (N : Nat)) (aCons_ev ((len_l rfl).trans (by rw [List.length_map, hB])) aNil_ev) (by omega) (by omega)
  rw [Int.toNat_natCast] at hrg
  exact sFor_ev hrg h
theorem least_loop {N : Nat} (hN : N ≤ 1000) (LD : Sl) : ∀ (Ls : List (List Int)) (B : List Int) (y2 y3 : Sl), B.length = N → (∀ l ∈ Ls, l.length = N) → ∃ (B' : List Int) (z2 z3 : Sl), loopF (gVal 2) b_Lleast_2 (Ls.map lstI) [LD, .own (B.map .int), y2, y3] = .nx [LD, .own (B'.map .int), z2, z3] ∧ B'.length = N ∧
    (∀ x : Nat → Int, (∀ v, v < N → x v ≤ at0 B v) → (∀ l ∈ Ls, ∀ v, v < N → x v ≤ at0 l v) → ∀ v, v < N → x v ≤ at0 B' v) ∧ (∀ v, v < N → at0 B' v ≤ at0 B v) ∧ ∀ l ∈ Ls, ∀ v, v < N → at0 B' v ≤ at0 l v
  | [], B, y2, y3, hB, _ => ⟨B, y2, y3, rfl, hB, fun x h _ => h, fun v _ => Int.le_refl _, fun l hl => (nomatch hl)⟩
  | l :: Ls, B, y2, y3, hB, hl => by
    obtain ⟨B1, w3, h1, h2, h3⟩ := least_in LD B l hB (hl l List.mem_cons_self) hN y3
    obtain ⟨B', z2, z3, g1, g2, g3, g4, g5⟩ := least_loop hN LD Ls B1 (.val (lstI l)) w3 h2 fun q hq => hl q (List.mem_cons_of_mem _ hq)
    refine ⟨B', z2, z3, ?_, g2, fun x hx hxl => g3 x (fun v hv => ?_) (fun q hq => hxl q (List.mem_cons_of_mem _ hq)), fun v hv => ?_, fun q hq v hv => ?_⟩
    · exact (loopF_nx (e1 := [LD, .own (B.map .int), .val (lstI l), y3]) rfl h1).trans g1
    · rw [h3 v hv]
      exact (mn_le _ _).2.2 _ (hx v hv) (hxl l List.mem_cons_self v hv)
    · have := g4 v hv
      rw [h3 v hv] at this
      exact Int.le_trans this (mn_le _ _).1
    · rcases List.mem_cons.mp hq with rfl | hq
      · have := g4 v hv
        rw [h3 v hv] at this
        exact Int.le_trans this (mn_le _ _).2.1
      · exact g5 q hq v hv
theorem least_ev {N : Nat} (hN : N ≤ 1000) (Ls : List (List Int)) (hl : ∀ l ∈ Ls, l.length = N) {m : List Int} (hm : m ∈ Ls) (hle : ∀ l ∈ Ls, ∀ v, v < N → at0 m v ≤ at0 l v) : g_Lleast [.list (Ls.map lstI)] = some (tupI m) := by
  cases hL : Ls with
  | nil => rw [hL] at hm; cases hm
  | cons a rest =>
    rw [← hL]
    have ha : a ∈ Ls := by rw [hL]; exact List.mem_cons_self
    obtain ⟨LD, hLD⟩ : ∃ LD : PyData, LD = .list (Ls.map lstI) := ⟨_, rfl⟩
    obtain ⟨B', z2, z3, g1, g2, g3, g4, g5⟩ := least_loop hN (.val LD) Ls a .un .un (hl a ha) hl
    have e : B' = m := list_ext0 (by rw [g2, hl m hm]) fun v hv => by
      rw [g2] at hv
      have := g5 m hm v hv
      have := g3 (at0 m) (hle a ha) hle v hv
      omega
    rw [← hLD]
    refine gDef_ev' [.val LD, .un, .un, .un] rfl rfl ?_
    unfold f_Lleast
    refine (sSeq_nx (e := [.val LD, .own (a.map .int), .un, .un]) ?_).trans ?_
    · have fl : fList (e2 ixG (eVar 0) (eC (.int 0))) [.val LD, .un, .un, .un] = some (a.map .int) := by
        unfold fList
        rw [show e2 ixG (eVar 0) (eC (.int 0)) [.val LD, .un, .un, .un] = some (lstI a) from by
          rw [hLD, hL]
          exact e2_ev rfl rfl (atI_nat (j := 0) rfl)]
        rfl
      unfold sOwn
      rw [fl]
      rfl
    · refine (sSeq_nx (sFor_ev (iSeq_l (ds := Ls.map lstI) (by rw [hLD]; rfl)) g1)).trans ?_
      rw [← e]
      rfl
/-! what is left -/
def nI (n : Nat) : PyData := .int (n : Nat)
def subC (cs : List Con) (idx : List Nat) : List Con := idx.map fun n => cs.getD n (0, 0, 0)
def bad (cs : List Con) (N : Nat) (idx : List Nat) : Bool := (lp (subC cs idx) N (zs N)).isNone
def lfStep (cs : List Con) (N : Nat) (idx : List Nat) (n : Nat) : List Nat := if bad cs N (idx.filter fun o => !decide (o = n)) = true then idx.filter fun o => !decide (o = n) else idx
def lf (cs : List Con) (N : Nat) : Nat → List Nat
  | 0 => List.range cs.length
  | k + 1 => lfStep cs N (lf cs N k) k
theorem lf_lt (cs : List Con) (N : Nat) : ∀ k, ∀ o ∈ lf cs N k, o < cs.length
  | 0, o, h => List.mem_range.mp h
  | k + 1, o, h => by
    unfold lf lfStep at h
    split at h
    · exact lf_lt cs N k o (List.mem_filter.mp h).1
    · exact lf_lt cs N k o h
theorem lf_len (cs : List Con) (N : Nat) : ∀ k, (lf cs N k).length ≤ cs.length
  | 0 => by simp [lf]
  | k + 1 => by
    unfold lf lfStep
    split
    · exact Nat.le_trans (List.length_filter_le _ _) (lf_len cs N k)
    · exact lf_len cs N k
theorem sub_in {cs : List Con} {idx : List Nat} (h : ∀ o ∈ idx, o < cs.length) : ∀ c ∈ subC cs idx, c ∈ cs := fun c hc => by
  obtain ⟨o, ho, rfl⟩ := List.mem_map.mp hc
  have := h o ho
  rw [List.getD_eq_getElem?_getD, List.getElem?_eq_getElem this]
  exact List.getElem_mem this
theorem rng_nI (n : Nat) : rngD 0 n = (List.range n).map nI := by
  unfold rngD
  apply List.map_congr_left
  intro k _
  unfold nI
  congr 1
  omega
theorem cmp_ne (A0 A1 A2 y4 : Sl) (j : Nat) (jv : Int) (hj : jv = (j : Nat)) : ∀ idx : List Nat, compF (gVal 5) (t1 (e2 neD (eVar 5) (eVar 3))) (eVar 5) [A0, A1, A2, .val (.int jv), y4, .un] (idx.map nI) = some ((idx.filter fun o => !decide (o = j)).map nI)
  | [] => rfl
  | o :: idx => by
    have ih := cmp_ne A0 A1 A2 y4 j jv hj idx
    have ht : t1 (e2 neD (eVar 5) (eVar 3)) [A0, A1, A2, .val (.int jv), y4, .val (nI o)] = some (!decide (o = j)) := by
      refine (t1_ev (e2_ev rfl rfl (neD_int _ _))).trans ?_
      congr 2
      exact decide_eq_decide.mpr ⟨fun h => by omega, fun h => by omega⟩
    rw [List.map_cons]
    show (match t1 (e2 neD (eVar 5) (eVar 3)) [A0, A1, A2, .val (.int jv), y4, .val (nI o)] with
      | none => none
      | some false => compF (gVal 5) (t1 (e2 neD (eVar 5) (eVar 3))) (eVar 5) [A0, A1, A2, .val (.int jv), y4, .un] (idx.map nI)
      | some true => match eVar 5 [A0, A1, A2, .val (.int jv), y4, .val (nI o)] with
        | none => none
        | some v => match compF (gVal 5) (t1 (e2 neD (eVar 5) (eVar 3))) (eVar 5) [A0, A1, A2, .val (.int jv), y4, .un] (idx.map nI) with
          | none => none
          | some vs => some (v :: vs)) = _
    rw [ht, ih]
    by_cases e : o = j
    · rw [decide_eq_true e, List.filter_cons_of_neg (by simp [e])]
      rfl
    · rw [decide_eq_false e, List.filter_cons_of_pos (by simp [e])]
      rfl
theorem others_ev {idx : List Nat} {j : Nat} (jv : Int) (hj : jv = (j : Nat)) (A0 A1 y4 y5 : Sl) (hl : idx.length ≤ 1000) :
    eL (fCmp [5] (iSeq (eVar 2)) (gVal 5) (t1 (e2 neD (eVar 5) (eVar 3))) (eVar 5)) [A0, A1, .val (.list (idx.map nI)), .val (.int jv), y4, y5] = some (.list ((idx.filter fun o => !decide (o = j)).map nI)) :=
  eL_ev (fCmp_ev (iSeq_l rfl) (cmp_ne A0 A1 _ y4 j jv hj idx) (by have := List.length_filter_le (fun o => !decide (o = j)) idx; simp; omega))
theorem subs_ev {cs : List Con} {idx : List Nat} (A0 A2 A3 y5 : Sl) (CD : PyData) (hCD : CD = .list (cs.map conD)) (h : ∀ o ∈ idx, o < cs.length) (hl : idx.length ≤ 1000) :
    eL (fCmp [5] (iSeq (eVar 4)) (gVal 5) tYes' (e2 ixG (eVar 1) (eVar 5))) [A0, .val CD, A2, A3, .val (.list (idx.map nI)), y5] = some (.list ((subC cs idx).map conD)) := by
  refine eL_ev ((fCmp_ev (ds := idx.map nI) (vs := idx.map fun n => conD (cs.getD n (0, 0, 0))) (iSeq_l rfl) (compF_mapS fun n hn => ⟨[A0, .val CD, A2, A3, .val (.list (idx.map nI)), .val (nI n)], rfl, ?_⟩) (by simp; omega)).trans (by unfold subC; rw [List.map_map]; rfl))
  rw [hCD]
  have hn' := h n hn
  exact e2_ev rfl rfl (atI_map conD cs n _ (by rw [List.getD_eq_getElem?_getD, List.getElem?_eq_getElem hn']; rfl))
theorem contra_ev {cs : List Con} {N : Nat} (hN : 2 ≤ N) (hN3 : N ≤ 3) (hi : Ix cs N) (hc : cs.length ≤ 7) : g_contradiction [.int (N : Nat), .list (cs.map conD)] = some (match lp cs N (zs N) with
    | some _ => .none
    | none => .list ((lf cs N cs.length).map nI)) := by
  have h0 := lp_ev cs N (by omega) (by omega) hi
  obtain ⟨Nv, hNv⟩ : ∃ Nv : Int, Nv = (N : Nat) := ⟨_, rfl⟩
  obtain ⟨CD, hCD⟩ : ∃ CD : PyData, CD = .list (cs.map conD) := ⟨_, rfl⟩
  rw [← hNv, ← hCD] at h0 ⊢
  refine gDef_ev' [.val (.int Nv), .val CD, .un, .un, .un, .un] rfl rfl ?_
  unfold f_contradiction
  have ti : e2 isntD (eCall g_least_positions (aCons (eVar 0) (aCons (eVar 1) aNil))) (eC .none) [.val (.int Nv), .val CD, .un, .un, .un, .un] = some (.bool (lp cs N (zs N)).isSome) := by
    refine e2_ev (eCall_ev (aCons_ev rfl (aCons_ev rfl aNil_ev)) h0) rfl ?_
    cases lp cs N (zs N) <;> rfl
  cases hl : lp cs N (zs N) with
  | some m =>
    rw [hl] at ti
    exact sSeq_rt ((sIf_t (t1_ev ti)).trans (sRet_ev rfl))
  | none =>
    rw [hl] at ti
    refine (sSeq_nx ((sIf_f (t1_ev ti)).trans rfl)).trans ?_
    have len : eCall lenA (aCons (eVar 1) aNil) [.val (.int Nv), .val CD, .un, .un, .un, .un] = some (.int (cs.length : Nat)) := (len_l (ds := cs.map conD) (by rw [hCD]; rfl)).trans (by rw [List.length_map])
    refine (sSeq_nx (e := [.val (.int Nv), .val CD, .val (.list ((lf cs N 0).map nI)), .un, .un, .un]) (sSet_ev (eL_ev ?_))).trans ?_
    · unfold fRng1
      rw [len]
      show (if rngOk 0 ((cs.length : Nat) : Int) = true then some (rngD 0 ((cs.length : Nat) : Int).toNat) else none) = _
      rw [if_pos (by unfold rngOk; simp; omega), Int.toNat_natCast, rng_nI]
      rfl
    obtain ⟨e', h, z3, z4, z5, rfl⟩ := loop_rng (g := gVal 3) (b := b_contradiction_1) (lo := 0) (n := cs.length) (e := [.val (.int Nv), .val CD, .val (.list ((lf cs N 0).map nI)), .un, .un, .un])
      (fun j e => ∃ z3 z4 z5, e = [.val (.int Nv), .val CD, .val (.list ((lf cs N j).map nI)), z3, z4, z5]) (fun j e hj he => by
        obtain ⟨z3, z4, z5, rfl⟩ := he
        obtain ⟨jv, hjv⟩ : ∃ k : Int, k = 0 + (j : Nat) := ⟨_, rfl⟩
        rw [← hjv]
        obtain ⟨o, ho⟩ : ∃ o, o = (lf cs N j).filter fun o => !decide (o = j) := ⟨_, rfl⟩
        have ll := lf_len cs N j
        have ol : o.length ≤ 7 := by rw [ho]; exact Nat.le_trans (List.length_filter_le _ _) (by omega)
        have oin : ∀ x ∈ o, x < cs.length := fun x hx => lf_lt cs N j x (by rw [ho] at hx; exact (List.mem_filter.mp hx).1)
        have ix : Ix (subC cs o) N := fun c hc' => hi c (sub_in oin c hc')
        have tb : t1 (e2 isD (eCall g_least_positions (aCons (eVar 0) (aCons (eL (fCmp [5] (iSeq (eVar 4)) (gVal 5) tYes' c_contradiction_2)) aNil))) (eC .none)) [.val (.int Nv), .val CD, .val (.list ((lf cs N j).map nI)), .val (.int jv), .val (.list (o.map nI)), z5] = some (bad cs N o) := by
          refine t1_ev (e2_ev (eCall_ev (aCons_ev rfl (aCons_ev (subs_ev _ _ _ _ CD hCD oin (by omega)) aNil_ev)) (by rw [hNv]; exact lp_ev _ N (by omega) (by omega) ix)) rfl ?_)
          unfold bad
          cases lp (subC cs o) N (zs N) <;> rfl
        refine ⟨_, rfl, _, .inl ?_, .val (.int jv), .val (.list (o.map nI)), z5, rfl⟩
        unfold b_contradiction_1
        refine (sSeq_nx (e := [.val (.int Nv), .val CD, .val (.list ((lf cs N j).map nI)), .val (.int jv), .val (.list (o.map nI)), z5]) (sSet_ev ((others_ev (j := j) jv (by omega) _ _ _ _ (by omega)).trans (by rw [ho])))).trans ?_
        show _ = Out.nx [.val (.int Nv), .val CD, .val (.list ((lfStep cs N (lf cs N j) j).map nI)), .val (.int jv), .val (.list (o.map nI)), z5]
        unfold lfStep
        rw [← ho]
        cases hb : bad cs N o with
        | true => rw [if_pos rfl]; exact (sIf_t (tb.trans (by rw [hb]))).trans rfl
        | false => rw [if_neg (by decide)]; exact (sIf_f (tb.trans (by rw [hb]))).trans rfl) ⟨.un, .un, .un, rfl⟩
    have hrg := iR1_ev (fa := aCons (eCall lenA (aCons (eVar 1) aNil)) aNil) (env := [.val (.int Nv), .val CD, .val (.list ((lf cs N 0).map nI)), .un, .un, .un]) (N := (cs.length : Nat)) (aCons_ev ((len_l (ds := cs.map conD) (by rw [hCD]; rfl)).trans (by rw [List.length_map])) aNil_ev) (by omega) (by omega)
    rw [Int.toNat_natCast] at hrg
    exact (sSeq_nx (sFor_ev hrg h)).trans (sRet_ev rfl)
theorem left_ev {cs : List Con} {N : Nat} (hN : 2 ≤ N) (hN3 : N ≤ 3) (hi : Ix cs N) (hc : cs.length ≤ 7) (hd : ∀ c ∈ cs, -4 ≤ c.2.2 ∧ c.2.2 ≤ 5) : g_Lleft [.int (N : Nat), .list (cs.map conD)] = some (.list ((lf cs N cs.length).map nI)) := by
  obtain ⟨Nv, hNv⟩ : ∃ Nv : Int, Nv = (N : Nat) := ⟨_, rfl⟩
  obtain ⟨CD, hCD⟩ : ∃ CD : PyData, CD = .list (cs.map conD) := ⟨_, rfl⟩
  rw [← hNv, ← hCD]
  refine gDef_ev' [.val (.int Nv), .val CD, .un, .un, .un, .un] rfl rfl ?_
  unfold f_Lleft
  have len : eCall lenA (aCons (eVar 1) aNil) [.val (.int Nv), .val CD, .un, .un, .un, .un] = some (.int (cs.length : Nat)) := (len_l (ds := cs.map conD) (by rw [hCD]; rfl)).trans (by rw [List.length_map])
  refine (sSeq_nx (e := [.val (.int Nv), .val CD, .val (.list ((lf cs N 0).map nI)), .un, .un, .un]) (sSet_ev (eL_ev ?_))).trans ?_
  · unfold fRng1
    rw [len]
    show (if rngOk 0 ((cs.length : Nat) : Int) = true then some (rngD 0 ((cs.length : Nat) : Int).toNat) else none) = _
    rw [if_pos (by unfold rngOk; simp; omega), Int.toNat_natCast, rng_nI]
    rfl
  obtain ⟨e', h, z3, z4, z5, rfl⟩ := loop_rng (g := gVal 3) (b := b_Lleft_1) (lo := 0) (n := cs.length) (e := [.val (.int Nv), .val CD, .val (.list ((lf cs N 0).map nI)), .un, .un, .un])
    (fun j e => ∃ z3 z4 z5, e = [.val (.int Nv), .val CD, .val (.list ((lf cs N j).map nI)), z3, z4, z5]) (fun j e hj he => by
      obtain ⟨z3, z4, z5, rfl⟩ := he
      obtain ⟨jv, hjv⟩ : ∃ k : Int, k = 0 + (j : Nat) := ⟨_, rfl⟩
      rw [← hjv]
      obtain ⟨o, ho⟩ : ∃ o, o = (lf cs N j).filter fun o => !decide (o = j) := ⟨_, rfl⟩
      have ll := lf_len cs N j
      have ol : o.length ≤ 7 := by rw [ho]; exact Nat.le_trans (List.length_filter_le _ _) (by omega)
      have oin : ∀ x ∈ o, x < cs.length := fun x hx => lf_lt cs N j x (by rw [ho] at hx; exact (List.mem_filter.mp hx).1)
      have ix : Ix (subC cs o) N := fun c hc' => hi c (sub_in oin c hc')
      have tb : tNot' (tTr (eCall g_Lsolvable (aCons (eVar 0) (aCons (eL (fCmp [5] (iSeq (eVar 4)) (gVal 5) tYes' c_Lleft_2)) aNil)))) [.val (.int Nv), .val CD, .val (.list ((lf cs N j).map nI)), .val (.int jv), .val (.list (o.map nI)), z5] = some (bad cs N o) := by
        refine (not_ev (tTr_ev (eCall_ev (aCons_ev rfl (aCons_ev (subs_ev _ _ _ _ CD hCD oin (by omega)) aNil_ev)) (by rw [hNv]; exact sv_lp hN hN3 ix fun c hc' => hd c (sub_in oin c hc'))) rfl)).trans ?_
        unfold bad
        cases lp (subC cs o) N (zs N) <;> rfl
      refine ⟨_, rfl, _, .inl ?_, .val (.int jv), .val (.list (o.map nI)), z5, rfl⟩
      unfold b_Lleft_1
      refine (sSeq_nx (e := [.val (.int Nv), .val CD, .val (.list ((lf cs N j).map nI)), .val (.int jv), .val (.list (o.map nI)), z5]) (sSet_ev ((others_ev (j := j) jv (by omega) _ _ _ _ (by omega)).trans (by rw [ho])))).trans ?_
      show _ = Out.nx [.val (.int Nv), .val CD, .val (.list ((lfStep cs N (lf cs N j) j).map nI)), .val (.int jv), .val (.list (o.map nI)), z5]
      unfold lfStep
      rw [← ho]
      cases hb : bad cs N o with
      | true => rw [if_pos rfl]; exact (sIf_t (tb.trans (by rw [hb]))).trans rfl
      | false => rw [if_neg (by decide)]; exact (sIf_f (tb.trans (by rw [hb]))).trans rfl) ⟨.un, .un, .un, rfl⟩
  have hrg := iR1_ev (fa := aCons (eCall lenA (aCons (eVar 1) aNil)) aNil) (env := [.val (.int Nv), .val CD, .val (.list ((lf cs N 0).map nI)), .un, .un, .un]) (N := (cs.length : Nat)) (aCons_ev ((len_l (ds := cs.map conD) (by rw [hCD]; rfl)).trans (by rw [List.length_map])) aNil_ev) (by omega) (by omega)
  rw [Int.toNat_natCast] at hrg
  exact (sSeq_nx (sFor_ev hrg h)).trans (sRet_ev rfl)
/-! the law -/
theorem ll_lay : ∀ Ls : List (List Int), PyData.canLayAll0 (Ls.map lstI) = true ∧ PyData.depthAll (Ls.map lstI) ≤ 1
  | [] => by simp [PyData.canLayAll0, PyData.depthAll]
  | l :: Ls => by
    obtain ⟨h1, h2⟩ := ll_lay Ls
    obtain ⟨h3, h4⟩ := lay_ints l
    simp only [List.map_cons, PyData.canLayAll0, PyData.depthAll, h1]
    simp [lstI, PyData.canLay0, h3, PyData.depth, h4]
    omega
theorem shaped_ll (Ls : List (List Int)) : SeqAt.shaped (.list (Ls.map lstI)) = true := by
  obtain ⟨h1, h2⟩ := ll_lay Ls
  unfold SeqAt.shaped
  simp [PyData.canLay0, h1, PyData.depth]
  omega
theorem in_ll {m : List Int} {Ls : List (List Int)} (h : m ∈ Ls) : inT (.list (m.map .int)) (.list (Ls.map lstI)) = some (.bool true) := by
  show (if (SeqAt.shaped (.list (m.map .int)) && SeqAt.shaped (.list (Ls.map lstI))) = true then some (PyData.bool ((Ls.map lstI).any fun z => PyData.eqv z (.list (m.map .int)))) else none) = _
  rw [if_pos (by rw [(shaped_ints m).1, shaped_ll]; rfl)]
  congr 2
  rw [List.any_eq_true]
  refine ⟨lstI m, List.mem_map.mpr ⟨m, h, rfl⟩, ?_⟩
  unfold lstI
  rw [PyData.eqv, eqv_ints]
  simp
theorem cmp_met (A0 A1 A3 A4 A5 : Sl) (cs : List Con) (CD : PyData) (hCD : CD = .list (cs.map conD)) {N : Nat} (hi : Ix cs N) : ∀ Ls : List (List Int), (∀ l ∈ Ls, l.length = N) → compF (gVal 6) t_law_1 c_law_1 [A0, A1, .val CD, A3, A4, A5, .un] (Ls.map tupI) = some ((Ls.filter (metB cs)).map lstI)
  | [], _ => rfl
  | l :: Ls, hl => by
    have ih := cmp_met A0 A1 A3 A4 A5 cs CD hCD hi Ls fun q hq => hl q (List.mem_cons_of_mem _ hq)
    have ll := hl l List.mem_cons_self
    have ht : t_law_1 [A0, A1, .val CD, A3, A4, A5, .val (tupI l)] = some (metB cs l) := tTr_ev (eCall_ev (aCons_ev rfl (aCons_ev rfl aNil_ev)) (by rw [hCD]; exact met_ev l cs (by rw [ll]; exact hi))) rfl
    have hc : c_law_1 [A0, A1, .val CD, A3, A4, A5, .val (tupI l)] = some (lstI l) := rfl
    have hg : gVal 6 (tupI l) [A0, A1, .val CD, A3, A4, A5, .un] = some [A0, A1, .val CD, A3, A4, A5, .val (tupI l)] := rfl
    rw [List.map_cons]
    cases hb : metB cs l with
    | true =>
      rw [List.filter_cons_of_pos hb, List.map_cons]
      conv => lhs; unfold compF
      simp only [hg, ht, hb, hc, ih]
    | false =>
      rw [List.filter_cons_of_neg (by rw [hb]; decide)]
      conv => lhs; unfold compF
      simp only [hg, ht, hb, ih]
theorem law_true (ns : List Int) (hn : ns.length ≤ 63) : g_law [.list (ns.map .int)] = some (.bool true) := by
  have hcell := cell_ev ns 0
  have k0 := mod_lt (ns.getD 0 0) 2 (by decide)
  obtain ⟨w, hw⟩ : ∃ w : Int, w = ns.getD 0 0 % 2 := ⟨_, rfl⟩
  rw [← hw] at k0
  obtain ⟨wn, hwn⟩ := Int.eq_ofNat_of_zero_le k0.1
  have hwn' : w = (wn : Nat) := hwn
  obtain ⟨N, hN⟩ : ∃ N : Nat, N = 2 + wn := ⟨_, rfl⟩
  have hN2 : 2 ≤ N := by omega
  have hN3 : N ≤ 3 := by omega
  obtain ⟨cs, hcs, hi, hcl, hd⟩ := cons_ev ns N hN2 hN3
  obtain ⟨S, hS⟩ : ∃ S : PyData, S = .list (ns.map .int) := ⟨_, rfl⟩
  rw [← hS] at hcell hcs ⊢
  have hall := all_ev N hN2 hN3
  have hlp := lp_ev cs N (by omega) (by omega) hi
  have hsv := sv_lp hN2 hN3 hi hd
  have hct := contra_ev hN2 hN3 hi hcl
  have hlf := left_ev hN2 hN3 hi hcl hd
  obtain ⟨Nv, hNv⟩ : ∃ Nv : Int, Nv = (N : Nat) := ⟨_, rfl⟩
  obtain ⟨CD, hCD⟩ : ∃ CD : PyData, CD = .list (cs.map conD) := ⟨_, rfl⟩
  rw [← hNv] at hcs hall hlp hsv hct hlf
  rw [← hCD] at hcs hlp hsv hct hlf
  obtain ⟨Ls, hLs⟩ : ∃ Ls, Ls = (allL (N - 1)).filter (metB cs) := ⟨_, rfl⟩
  have all_l : ∀ l ∈ allL (N - 1), l.length = N := fun l hl => by rw [allL_len _ l hl]; omega
  have Ls_l : ∀ l ∈ Ls, l.length = N := fun l hl => by rw [hLs] at hl; exact all_l l (List.mem_filter.mp hl).1
  have Ls_s : ∀ l ∈ Ls, Sl0 cs N (at0 l) := fun l hl => by
    rw [hLs] at hl
    obtain ⟨h1, h2⟩ := List.mem_filter.mp hl
    obtain ⟨q1, q2⟩ := allL_at _ l h1
    exact ⟨metB_sol.mp h2, q1, fun v hv => q2 v (by omega)⟩
  have alen : (allL (N - 1)).length ≤ 1000000 := by
    have : N - 1 = 1 ∨ N - 1 = 2 := by omega
    rcases this with e | e <;> rw [e] <;> decide +kernel
  obtain ⟨LD, hLD⟩ : ∃ LD : PyData, LD = .list (Ls.map lstI) := ⟨_, rfl⟩
  obtain ⟨TD, hTD⟩ : ∃ TD : PyData, TD = (match lp cs N (zs N) with | some m => .list (m.map .int) | none => .none) := ⟨_, rfl⟩
  obtain ⟨AD, hAD⟩ : ∃ AD : PyData, AD = (match lp cs N (zs N) with | some _ => .none | none => .list ((lf cs N cs.length).map nI)) := ⟨_, rfl⟩
  refine gDef_ev' [.val S, .un, .un, .un, .un, .un, .un] rfl rfl ?_
  unfold f_law
  refine (sSeq_nx (e := [.val S, .val (.int Nv), .un, .un, .un, .un, .un]) (sSet_ev ((e2_ev rfl (e2_ev (eCall_ev (aCons_ev rfl (aCons_ev rfl aNil_ev)) hcell) rfl (modD_int (by decide))) (addD_int _ _)).trans (by rw [show (2 : Int) + ns.getD 0 0 % 2 = Nv by omega])))).trans ?_
  refine (sSeq_nx (e := [.val S, .val (.int Nv), .val CD, .un, .un, .un, .un]) (sSet_ev ((eCall_ev (aCons_ev rfl (aCons_ev rfl aNil_ev)) hcs).trans (by rw [hCD])))).trans ?_
  have hmet : eL (fCmp [6] (iSeq (eCall g_Lall (aCons (eVar 1) (aCons (eC (.int 24)) aNil)))) (gVal 6) t_law_1 c_law_1) [.val S, .val (.int Nv), .val CD, .un, .un, .un, .un] = some LD := by
    rw [hLD]
    refine eL_ev (fCmp_ev (iSeq_l (eCall_ev (aCons_ev rfl (aCons_ev rfl aNil_ev)) hall)) (vs := Ls.map lstI) ?_ ?_)
    · rw [hLs]
      exact cmp_met (.val S) (.val (.int Nv)) .un .un .un cs CD hCD hi _ all_l
    · rw [List.length_map, hLs]
      exact Nat.le_trans (List.length_filter_le _ _) alen
  refine (sSeq_nx (e := [.val S, .val (.int Nv), .val CD, .val LD, .un, .un, .un]) (sSet_ev hmet)).trans ?_
  have cpy : ∀ (a b c d : Sl), eL (fList (eVar 2)) [.val S, .val (.int Nv), .val CD, a, b, c, d] = some CD := fun a b c d => by rw [hCD]; rfl
  refine (sSeq_nx (e := [.val S, .val (.int Nv), .val CD, .val LD, .val TD, .un, .un]) (sSet_ev ((eCall_ev (aCons_ev rfl (aCons_ev (cpy _ _ _ _) aNil_ev)) hlp).trans (by rw [hTD] <;> rfl)))).trans ?_
  have hlen : ∀ (a b c : Sl), e2 gtD (eCall lenA (aCons (eVar 3) aNil)) (eC (.int 0)) [.val S, .val (.int Nv), .val CD, .val LD, a, b, c] = some (.bool (decide ((Ls.length : Int) > 0))) := fun a b c => e2_ev (len_l (ds := Ls.map lstI) (by rw [hLD]; rfl)) rfl ((gtD_int _ _).trans (by rw [List.length_map]))
  -- met and solved agree
  have agree : decide ((Ls.length : Int) > 0) = (lp cs N (zs N)).isSome := by
    cases hl : lp cs N (zs N) with
    | some m =>
      obtain ⟨q0, q1, q2⟩ := lp_some (by omega) hi hl
      have cp := cap hN2 hN3 hi hd q1 q2
      have hm : m ∈ Ls := by
        rw [hLs]
        exact List.mem_filter.mpr ⟨allL_in _ m (by omega) q1.2.1 fun v hv => ⟨q1.2.2 v (by omega), by have := cp v (by omega); omega⟩, metB_sol.mpr q1.1⟩
      have := List.length_pos_of_mem hm
      exact decide_eq_true (by omega)
    | none =>
      have no := lp_none (by omega) hi hl
      refine decide_eq_false fun h => ?_
      cases hL : Ls with
      | nil => rw [hL] at h; simp at h
      | cons a rest => exact no ⟨_, Ls_s a (by rw [hL]; exact List.mem_cons_self)⟩
  refine (sSeq_nx ((sIf_f (t1_ev (e2_ev (eCall_ev (aCons_ev rfl (aCons_ev rfl aNil_ev)) hsv) (hlen _ _ _) ?_))).trans rfl)).trans ?_
  · rw [agree]
    exact neD_same (shaped_bool _)
  refine (sSeq_nx (e := [.val S, .val (.int Nv), .val CD, .val LD, .val TD, .val AD, .un]) (sSet_ev ((eCall_ev (aCons_ev rfl (aCons_ev (cpy _ _ _ _) aNil_ev)) hct).trans (by rw [hAD] <;> rfl)))).trans ?_
  cases hl : lp cs N (zs N) with
  | some m =>
    rw [hl] at agree hTD hAD
    obtain ⟨q0, q1, q2⟩ := lp_some (by omega) hi hl
    have cp := cap hN2 hN3 hi hd q1 q2
    have hm : m ∈ Ls := by
      rw [hLs]
      exact List.mem_filter.mpr ⟨allL_in _ m (by omega) q1.2.1 fun v hv => ⟨q1.2.2 v (by omega), by have := cp v (by omega); omega⟩, metB_sol.mpr q1.1⟩
    have hle := least_ev (by omega) Ls Ls_l hm fun l hl' v hv => q2 _ (Ls_s l hl') v hv
    rw [← hLD] at hle
    refine sSeq_rt ((sIf_t (t1_ev ((hlen _ _ _).trans (by rw [agree]; rfl)))).trans (sRet_ev ?_))
    have e4 : eVar 4 [.val S, .val (.int Nv), .val CD, .val LD, .val TD, .val AD, .un] = some (.list (m.map .int)) := by rw [hTD]; rfl
    refine eAnd_t ((eIsi_ev e4 rfl)) (eAnd_t (e2_ev e4 (eL_ev ?_) (eqD_same (shaped_ints m).1)) (eAnd_t (e2_ev e4 rfl (by rw [hLD]; exact in_ll hm)) (e2_ev (x := .none) (by rw [hAD]; rfl) rfl rfl)))
    unfold fList
    rw [eCall_ev (aCons_ev rfl aNil_ev) hle]
    rfl
  | none =>
    rw [hl] at agree hTD hAD
    refine (sSeq_nx ((sIf_f (t1_ev ((hlen _ _ _).trans (by rw [agree]; rfl)))).trans rfl)).trans ?_
    have e5 : eVar 5 [.val S, .val (.int Nv), .val CD, .val LD, .val TD, .val AD, .un] = some (.list ((lf cs N cs.length).map nI)) := by rw [hAD]; rfl
    have sh : SeqAt.shaped (.list ((lf cs N cs.length).map nI)) = true := by
      have := (shaped_ints ((lf cs N cs.length).map fun n => ((n : Nat) : Int))).1
      rw [List.map_map] at this
      exact this
    exact sRet_ev (eAnd_t (e2_ev (x := .none) (by rw [hTD]; rfl) rfl rfl) (eAnd_t (eIsi_ev e5 rfl) (e2_ev e5 (eCall_ev (aCons_ev rfl (aCons_ev rfl aNil_ev)) hlf) (eqD_same sh))))
end K08

open PySem PySem.W PyProof.Rows
set_option maxHeartbeats 0 in
theorem PySem.Challenge.cw_boundbook_k08_least_positions_holds : PySem.Challenge.rw_boundbook_k08_least_positions.Holds := by
  w_on; o_law; k_head; (case hw => w_witness2)
  k_fill
  refine L2.walk_of (l := PySem.Challenge.rw_boundbook_k08_least_positions) (n := 63) (k := 4) (x := "script") (CX := fun _ => L2.CX0) (sp := fun w => Mir.spF _ K08.g_law) rfl (by decide) rfl ⟨rfl, by decide, by decide⟩ (fun w h Y => PySem.W.kIn_of Y) ?F (fun w H a ns hl hO hS => Mir.law_end hS (K08.law_true ns hl)) (fun _ _ _ _ _ h => h)
  case F =>
    intro w mg fa h KX G hmg
    refine' K08.all_mk KX G hmg ?a_raised ?l_raised ?c_raised ?k_raised ?a_least_positions ?l_least_positions ?c_least_positions ?k_least_positions ?a_contradiction ?l_contradiction ?c_contradiction ?k_contradiction ?a_Lcell ?l_Lcell ?c_Lcell ?k_Lcell ?a_Ldraws ?l_Ldraws ?c_Ldraws ?k_Ldraws ?a_Lleast ?l_Lleast ?c_Lleast ?k_Lleast ?a_Lconstraints ?l_Lconstraints ?c_Lconstraints ?k_Lconstraints ?a_Lall ?l_Lall ?c_Lall ?k_Lall ?a_Lmet ?l_Lmet ?c_Lmet ?k_Lmet ?a_Lsolvable ?l_Lsolvable ?c_Lsolvable ?k_Lsolvable ?a_Lleft ?l_Lleft ?c_Lleft ?k_Lleft ?a_law ?l_law ?c_law ?k_law ?z_list ?z_range ?z_len ?z_min ?z_tuple ?z_max ?z_isinstance
    (case a_raised => k_is)
    (case l_raised => k_is)
    (case c_raised => k_is)
    (case k_raised => k_is)
    (case a_least_positions => k_is)
    (case l_least_positions => k_is)
    (case c_least_positions => k_is)
    (case k_least_positions => k_is)
    (case a_contradiction => k_is)
    (case l_contradiction => k_is)
    (case c_contradiction => k_is)
    (case k_contradiction => k_is)
    (case a_Lcell => k_is)
    (case l_Lcell => k_is)
    (case c_Lcell => k_is)
    (case k_Lcell => k_is)
    (case a_Ldraws => k_is)
    (case l_Ldraws => k_is)
    (case c_Ldraws => k_is)
    (case k_Ldraws => k_is)
    (case a_Lleast => k_is)
    (case l_Lleast => k_is)
    (case c_Lleast => k_is)
    (case k_Lleast => k_is)
    (case a_Lconstraints => k_is)
    (case l_Lconstraints => k_is)
    (case c_Lconstraints => k_is)
    (case k_Lconstraints => k_is)
    (case a_Lall => k_is)
    (case l_Lall => k_is)
    (case c_Lall => k_is)
    (case k_Lall => k_is)
    (case a_Lmet => k_is)
    (case l_Lmet => k_is)
    (case c_Lmet => k_is)
    (case k_Lmet => k_is)
    (case a_Lsolvable => k_is)
    (case l_Lsolvable => k_is)
    (case c_Lsolvable => k_is)
    (case k_Lsolvable => k_is)
    (case a_Lleft => k_is)
    (case l_Lleft => k_is)
    (case c_Lleft => k_is)
    (case k_Lleft => k_is)
    (case a_law => k_is)
    (case l_law => k_is)
    (case c_law => k_is)
    (case k_law => k_is)
    (case z_list => k_is)
    (case z_range => k_is)
    (case z_len => k_is)
    (case z_min => k_is)
    (case z_tuple => k_is)
    (case z_max => k_is)
    (case z_isinstance => k_is)


import PyProof.Rows.All
import Wide.All
import OpenK.AllK
import Wide.FinOn
import HandS.ForMost
import HandS.Strs
import HandS.SortInts
import HandS.Exc
import HandS.ExcOwn
import HandS.WordsExc
import HandS.TupAny
import HandS.IsInst
import HandS.TryMany
import HandS.TryOnly
import PyProof.Rows.FactsT1
import PyProof.Rows.SeqCalls
import PyProof.Rows.FactsN_isinstance
import PyProof.Rows.FactsN_abs
import PyProof.Rows.SeqRange
import HandS.ExcIs
import HandS.TupMul
import HandS.TupLen
import HandS.Dict
import KE.KDictCopyH
import HandS.Iter
import HandS.Conv
import HandS.DictComp
import HandS.SetBool
import KE.GoesMore
import HandS.ExcBuiltin
import HandS.AnyAll
import HandS.EndTab
import PySem.Challenge.RW_movecollect_k05_sound_told
set_option Elab.async false
set_option linter.all false
set_option maxRecDepth 100000
set_option maxHeartbeats 4000000
/-! Data as trees, what stands for them in the abstract heap. -/
namespace Fw
open PySem L2

/-- data that never changes -/
inductive Dt where
  | non | bl (b : Bool) | int (i : Int) | str (s : Str) | tup (l : List Dt) | adr (a : Addr)
/-- what a name holds: data, a list, a dict by tuples, a list of lists, a tuple of a list and data -/
inductive Sv where
  | p (x : Dt) | l (xs : List Dt) | d (kvs : List (List Key × Dt)) | ll (xss : List (List Dt)) | pl (xs : List Dt) (y : Dt)
/-- a name: to be read (v), or one whose object the def made and may change (o) -/
inductive Sl where
  | v (s : Sv) | o (s : Sv)
def Sl.s : Sl → Sv
  | .v s => s
  | .o s => s
abbrev En := List (Option Sl)
inductive Rz (α : Type) where
  | stuck | exc (c : Nat) | ok (a : α)
def Rz.bind {α β : Type} (r : Rz α) (f : α → Rz β) : Rz β := match r with
  | .stuck => .stuck
  | .exc c => .exc c
  | .ok a => f a
def Rz.P {α : Type} (r : Rz α) (E : Nat → Prop) (Q : α → Prop) : Prop := match r with
  | .stuck => False
  | .exc c => E c
  | .ok a => Q a
theorem Rz.P_bind {α β : Type} {r : Rz α} {f : α → Rz β} {E : Nat → Prop} {Q : β → Prop} (h : (r.bind f).P E Q) : r.P E fun a => (f a).P E Q := by
  cases r with
  | stuck => exact h
  | exc c => exact h
  | ok a => exact h
theorem Rz.bind_P {α β : Type} {r : Rz α} {f : α → Rz β} {E : Nat → Prop} {Q : β → Prop} (h : r.P E fun a => (f a).P E Q) : (r.bind f).P E Q := by
  cases r with
  | stuck => exact h
  | exc c => exact h
  | ok a => exact h
theorem Rz.P_mono {α : Type} {r : Rz α} {E E' : Nat → Prop} {Q Q' : α → Prop} (h : r.P E Q) (hE : ∀ c, E c → E' c) (hQ : ∀ a, r = .ok a → Q a → Q' a) : r.P E' Q' := by
  cases r with
  | stuck => exact h
  | exc c => exact hE c h
  | ok a => exact hQ a rfl h
@[simp] theorem Rz.bind_ok {α β : Type} (a : α) (f : α → Rz β) : (Rz.ok a).bind f = f a := rfl
@[simp] theorem Rz.bind_stuck {α β : Type} (f : α → Rz β) : (Rz.stuck : Rz α).bind f = .stuck := rfl
@[simp] theorem Rz.bind_exc {α β : Type} (c : Nat) (f : α → Rz β) : (Rz.exc c : Rz α).bind f = .exc c := rfl

mutual
def Rp (H : Hp) : Dt → V → Prop
  | .non, v => v = .non
  | .bl b, v => v = .bl b
  | .int i, v => v = .int i
  | .str s, v => v = .str s
  | .adr a, v => v = .ref a
  | .tup l, v => ∃ a vs, v = .ref a ∧ H a = some (.tup vs) ∧ Rps H l vs
def Rps (H : Hp) : List Dt → List V → Prop
  | [], vs => vs = []
  | x :: xs, vs => ∃ v r, vs = v :: r ∧ Rp H x v ∧ Rps H xs r
end
/-- what never changes stays -/
def Tx (H H' : Hp) : Prop := ∀ a xs, H a = some (.tup xs) → H' a = some (.tup xs)
theorem Same.tx {H H' : Hp} (h : Same H H') : Tx H H' := fun a _ e => h a _ e
mutual
theorem Rp.tx {H H' : Hp} (e : Tx H H') : ∀ {x : Dt} {v : V}, Rp H x v → Rp H' x v
  | .non, _, h => h
  | .bl _, _, h => h
  | .int _, _, h => h
  | .str _, _, h => h
  | .adr _, _, h => h
  | .tup l, _, h => by
    obtain ⟨a, vs, rfl, ha, hr⟩ := h
    exact ⟨a, vs, rfl, e a vs ha, Rps.tx e hr⟩
theorem Rps.tx {H H' : Hp} (e : Tx H H') : ∀ {xs : List Dt} {vs : List V}, Rps H xs vs → Rps H' xs vs
  | [], _, h => h
  | x :: xs, _, h => by
    obtain ⟨v, r, rfl, h1, h2⟩ := h
    exact ⟨v, r, rfl, Rp.tx e h1, Rps.tx e h2⟩
end
theorem Rp.mono {H H' : Hp} (e : Same H H') {x : Dt} {v : V} (h : Rp H x v) : Rp H' x v := Rp.tx (Same.tx e) h
theorem Rps.mono {H H' : Hp} (e : Same H H') {x : List Dt} {v : List V} (h : Rps H x v) : Rps H' x v := Rps.tx (Same.tx e) h
theorem Rps.length {H : Hp} : ∀ {xs : List Dt} {vs : List V}, Rps H xs vs → vs.length = xs.length
  | [], _, h => by cases h; rfl
  | x :: xs, _, h => by
    obtain ⟨v, r, rfl, _, h2⟩ := h
    show r.length + 1 = xs.length + 1
    rw [Rps.length h2]
theorem Rps.get {H : Hp} : ∀ {xs : List Dt} {vs : List V} {i : Nat} {x : Dt}, Rps H xs vs → xs[i]? = some x → ∃ v, vs[i]? = some v ∧ Rp H x v
  | [], _, i, x, h, e => by simp at e
  | y :: xs, _, 0, x, h, e => by
    obtain ⟨v, r, rfl, h1, h2⟩ := h
    have e : y = x := Option.some.inj e
    subst e
    exact ⟨v, rfl, h1⟩
  | y :: xs, _, i + 1, x, h, e => by
    obtain ⟨v, r, rfl, h1, h2⟩ := h
    exact Rps.get (i := i) h2 e
theorem Rps.getV {H : Hp} : ∀ {xs : List Dt} {vs : List V} {i : Nat} {v : V}, Rps H xs vs → vs[i]? = some v → ∃ x, xs[i]? = some x ∧ Rp H x v
  | [], _, i, x, h, e => by cases h; simp at e
  | y :: xs, _, 0, x, h, e => by
    obtain ⟨v, r, rfl, h1, h2⟩ := h
    have e : v = x := Option.some.inj e
    subst e
    exact ⟨y, rfl, h1⟩
  | y :: xs, _, i + 1, x, h, e => by
    obtain ⟨v, r, rfl, h1, h2⟩ := h
    exact Rps.getV (i := i) h2 e
theorem Rps.append {H : Hp} : ∀ {xs ys : List Dt} {vs ws : List V}, Rps H xs vs → Rps H ys ws → Rps H (xs ++ ys) (vs ++ ws)
  | [], _, _, _, h, k => by cases h; exact k
  | x :: xs, _, _, _, h, k => by
    obtain ⟨v, r, rfl, h1, h2⟩ := h
    exact ⟨v, _, rfl, h1, Rps.append h2 k⟩
theorem Rps.one {H : Hp} {x : Dt} {v : V} (h : Rp H x v) : Rps H [x] [v] := ⟨v, [], rfl, h, rfl⟩
theorem Rps.take {H : Hp} : ∀ {xs : List Dt} {vs : List V} (n : Nat), Rps H xs vs → Rps H (xs.take n) (vs.take n)
  | _, _, 0, _ => rfl
  | [], _, n + 1, h => by cases h; rfl
  | x :: xs, _, n + 1, h => by
    obtain ⟨v, r, rfl, h1, h2⟩ := h
    exact ⟨v, _, rfl, h1, Rps.take n h2⟩
theorem Rps.drop {H : Hp} : ∀ {xs : List Dt} {vs : List V} (n : Nat), Rps H xs vs → Rps H (xs.drop n) (vs.drop n)
  | _, _, 0, h => h
  | [], _, n + 1, h => by cases h; rfl
  | x :: xs, _, n + 1, h => by
    obtain ⟨v, r, rfl, h1, h2⟩ := h
    exact Rps.drop n h2
theorem Rps.set {H : Hp} {y : Dt} {u : V} (k : Rp H y u) : ∀ {xs : List Dt} {vs : List V} (n : Nat), Rps H xs vs → Rps H (xs.set n y) (vs.set n u)
  | [], _, _, h => by cases h; rfl
  | x :: xs, _, 0, h => by
    obtain ⟨v, r, rfl, h1, h2⟩ := h
    exact ⟨u, r, rfl, k, h2⟩
  | x :: xs, _, n + 1, h => by
    obtain ⟨v, r, rfl, h1, h2⟩ := h
    exact ⟨v, _, rfl, h1, Rps.set k n h2⟩
theorem Rps.ints {H : Hp} : ∀ {ns : List Int} {vs : List V}, Rps H (ns.map Dt.int) vs → vs = ns.map V.int
  | [], _, h => h
  | n :: ns, _, h => by
    obtain ⟨v, r, rfl, h1, h2⟩ := h
    cases (show v = .int n from h1)
    rw [Rps.ints h2]
    rfl
theorem Rps.of_ints {H : Hp} : ∀ (ns : List Int), Rps H (ns.map Dt.int) (ns.map V.int)
  | [] => rfl
  | n :: ns => ⟨.int n, _, rfl, rfl, Rps.of_ints ns⟩

def Rkv (H : Hp) : List (List Key × Dt) → List (List Key × V) → Prop
  | [], ws => ws = []
  | kx :: r, ws => ∃ v s, ws = (kx.1, v) :: s ∧ Rp H kx.2 v ∧ Rkv H r s
theorem Rkv.tx {H H' : Hp} (e : Tx H H') : ∀ {l : List (List Key × Dt)} {ws : List (List Key × V)}, Rkv H l ws → Rkv H' l ws
  | [], _, h => h
  | x :: xs, _, h => by
    obtain ⟨v, r, rfl, h1, h2⟩ := h
    exact ⟨v, r, rfl, Rp.tx e h1, Rkv.tx e h2⟩

/-- lists in a list -/
def Rll (H : Hp) : List (List Dt) → List V → Prop
  | [], us => us = []
  | xs :: r, us => ∃ b vs t, us = .ref b :: t ∧ H b = some (.lst vs) ∧ Rps H xs vs ∧ Rll H r t
def Qll (H : Hp) (xss : List (List Dt)) (v : V) : Prop := ∃ a us, v = .ref a ∧ H a = some (.lst us) ∧ (V.ref a :: us).Nodup ∧ Rll H xss us
def Qpl (H : Hp) (xs : List Dt) (y : Dt) (v : V) : Prop := ∃ a b w vs, v = .ref a ∧ H a = some (.tup [.ref b, w]) ∧ H b = some (.lst vs) ∧ Rps H xs vs ∧ Rp H y w
def Rs (H : Hp) : Sv → V → Prop
  | .p x, v => Rp H x v
  | .l xs, v => ∃ a vs, v = .ref a ∧ Rd H a (.lst vs) ∧ Rps H xs vs
  | .d kvs, v => ∃ a ws, v = .ref a ∧ H a = some (.dT ws) ∧ Rkv H kvs ws
  | .ll xss, v => Qll H xss v
  | .pl xs y, v => Qpl H xs y v
/-- .. of an object that one may change -/
def Ro (H : Hp) : Sv → V → Prop
  | .p x, v => Rp H x v
  | .l xs, v => ∃ a vs, v = .ref a ∧ H a = some (.lst vs) ∧ Rps H xs vs
  | .d kvs, v => ∃ a ws, v = .ref a ∧ H a = some (.dT ws) ∧ Rkv H kvs ws
  | .ll xss, v => Qll H xss v
  | .pl xs y, v => Qpl H xs y v
theorem Ro.rs {H : Hp} : ∀ {s : Sv} {v : V}, Ro H s v → Rs H s v
  | .p _, _, h => h
  | .l _, _, ⟨a, vs, e, h, r⟩ => ⟨a, vs, e, .inl h, r⟩
  | .d _, _, h => h
  | .ll _, _, h => h
  | .pl _ _, _, h => h
/-- the addresses of what may change -/
def Oc (H : Hp) : Sv → V → Addr → Prop
  | .p _, _, _ => False
  | .l _, v, a => v = .ref a
  | .d _, v, a => v = .ref a
  | .ll _, v, a => ∃ b us, v = .ref b ∧ H b = some (.lst us) ∧ (a = b ∨ V.ref a ∈ us)
  | .pl _ _, v, a => ∃ t w, v = .ref t ∧ H t = some (.tup [.ref a, w])
theorem rd_same {H H' : Hp} (e : Same H H') {a : Addr} {u : HO} (h : Rd H a u) : Rd H' a u := by
  rcases h with h | ⟨o, h⟩
  · exact .inl (e a _ h)
  · exact .inr ⟨o, e a _ h⟩
theorem Rll.mem {H : Hp} {a : Addr} : ∀ {xss : List (List Dt)} {us : List V}, Rll H xss us → V.ref a ∈ us → ∃ vs, H a = some (.lst vs)
  | [], _, h, m => by
    have e : _ = [] := h
    subst e
    cases m
  | xs :: r, _, ⟨b, vs, t, e, h, _, k⟩, m => by
    subst e
    rcases List.mem_cons.mp m with z | z
    · cases z
      exact ⟨vs, h⟩
    · exact Rll.mem k z
theorem Rll.keep {H H' : Hp} (tx : Tx H H') : ∀ {xss : List (List Dt)} {us : List V}, Rll H xss us → (∀ a o, V.ref a ∈ us → H a = some o → H' a = some o) → Rll H' xss us
  | [], _, h, _ => h
  | xs :: r, _, ⟨b, vs, t, e, h, rr, k⟩, m => by
    subst e
    exact ⟨b, vs, t, rfl, m b _ List.mem_cons_self h, rr.tx tx, Rll.keep tx k fun a o z => m a o (List.mem_cons_of_mem _ z)⟩
theorem Rll.length {H : Hp} : ∀ {xss : List (List Dt)} {us : List V}, Rll H xss us → us.length = xss.length
  | [], _, h => by
    have e : _ = [] := h
    subst e
    rfl
  | xs :: r, _, ⟨b, vs, t, e, h, rr, k⟩ => by
    subst e
    simp [Rll.length k]
theorem Rll.get {H : Hp} : ∀ {xss : List (List Dt)} {us : List V} {i : Nat} {xs : List Dt}, Rll H xss us → xss[i]? = some xs → ∃ b vs, us[i]? = some (.ref b) ∧ H b = some (.lst vs) ∧ Rps H xs vs
  | [], _, i, xs, h, q => by simp at q
  | ys :: r, _, 0, xs, ⟨b, vs, t, e, h, rr, k⟩, q => by
    subst e
    cases (Option.some.inj q)
    exact ⟨b, vs, rfl, h, rr⟩
  | ys :: r, _, i + 1, xs, ⟨b, vs, t, e, h, rr, k⟩, q => by
    subst e
    exact Rll.get (i := i) (xs := xs) k q
theorem Rll.snoc {H : Hp} {ys : List Dt} {b : Addr} {vs : List V} (hb : H b = some (.lst vs)) (hr : Rps H ys vs) : ∀ {xss : List (List Dt)} {us : List V}, Rll H xss us → Rll H (xss ++ [ys]) (us ++ [.ref b])
  | [], _, h => by
    have e : _ = [] := h
    subst e
    exact ⟨b, vs, [], rfl, hb, hr, rfl⟩
  | xs :: r, _, ⟨c, ws, t, e, h, rr, k⟩ => by
    subst e
    exact ⟨c, ws, _, rfl, h, rr, Rll.snoc hb hr k⟩
/-- one of the lists is another now -/
theorem Rll.put {H H' : Hp} {ys : List Dt} {b : Addr} {vs : List V} (tx : Tx H H') (hb : H' b = some (.lst vs)) (hr : Rps H' ys vs) : ∀ {xss : List (List Dt)} {us : List V} {i : Nat}, Rll H xss us → us.Nodup → us[i]? = some (.ref b) → (∀ a o, a ≠ b → V.ref a ∈ us → H a = some o → H' a = some o) → Rll H' (xss.set i ys) us
  | [], _, i, h, _, q, _ => by
    have e : _ = [] := h
    subst e
    simp at q
  | xs :: r, _, 0, ⟨c, ws, t, e, h, rr, k⟩, nd, q, m => by
    subst e
    cases (Option.some.inj q)
    refine ⟨_, vs, t, rfl, hb, hr, k.keep tx fun a o z => m a o (fun w => ?_) (List.mem_cons_of_mem _ z)⟩
    subst w
    exact (List.nodup_cons.mp nd).1 z
  | xs :: r, _, i + 1, ⟨c, ws, t, e, h, rr, k⟩, nd, q, m => by
    subst e
    have q : t[i]? = some (.ref b) := q
    have nd' := List.nodup_cons.mp nd
    have mb : V.ref b ∈ t := List.mem_of_getElem? q
    have hc : c ≠ b := fun w => nd'.1 (by rw [w]; exact mb)
    exact ⟨c, ws, t, rfl, m c _ hc List.mem_cons_self h, rr.tx tx, Rll.put tx hb hr k (List.nodup_cons.mp nd).2 q fun a o ne z => m a o ne (List.mem_cons_of_mem _ z)⟩
section
variable {H H' : Hp}
theorem Qll.keep {xss : List (List Dt)} {v : V} (tx : Tx H H') (h : Qll H xss v) (k : ∀ a o, Oc H (.ll xss) v a → H a = some o → H' a = some o) : Qll H' xss v := by
  obtain ⟨a, us, e, ha, nd, r⟩ := h
  exact ⟨a, us, e, k a _ ⟨a, us, e, ha, .inl rfl⟩ ha, nd, r.keep tx fun b o m => k b o ⟨a, us, e, ha, .inr m⟩⟩
theorem Qpl.keep {xs : List Dt} {y : Dt} {v : V} (tx : Tx H H') (h : Qpl H xs y v) (k : ∀ a o, Oc H (.pl xs y) v a → H a = some o → H' a = some o) : Qpl H' xs y v := by
  obtain ⟨a, b, w, vs, e, ha, hb, r, s⟩ := h
  exact ⟨a, b, w, vs, e, tx a _ ha, k b _ ⟨a, w, e, ha⟩ hb, r.tx tx, s.tx tx⟩
theorem Rs.keep (tx : Tx H H') : ∀ {s : Sv} {v : V}, Rs H s v → (∀ a o, Oc H s v a → H a = some o → H' a = some o) → Rs H' s v
  | .p _, _, h, _ => Rp.tx tx h
  | .l _, _, ⟨a, vs, q, h, r⟩, k => by
    refine ⟨a, vs, q, ?_, Rps.tx tx r⟩
    rcases h with h | ⟨o, h⟩
    · exact .inl (k a _ q h)
    · exact .inr ⟨o, k a _ q h⟩
  | .d _, _, ⟨a, ws, q, h, r⟩, k => ⟨a, ws, q, k a _ q h, Rkv.tx tx r⟩
  | .ll _, _, h, k => Qll.keep tx h k
  | .pl _ _, _, h, k => Qpl.keep tx h k
theorem Ro.keep (tx : Tx H H') : ∀ {s : Sv} {v : V}, Ro H s v → (∀ a o, Oc H s v a → H a = some o → H' a = some o) → Ro H' s v
  | .p _, _, h, _ => Rp.tx tx h
  | .l _, _, ⟨a, vs, q, h, r⟩, k => ⟨a, vs, q, k a _ q h, Rps.tx tx r⟩
  | .d _, _, ⟨a, ws, q, h, r⟩, k => ⟨a, ws, q, k a _ q h, Rkv.tx tx r⟩
  | .ll _, _, h, k => Qll.keep tx h k
  | .pl _ _, _, h, k => Qpl.keep tx h k
/-- the addresses stay -/
theorem Oc.back (tx : Tx H H') : ∀ {s : Sv} {v : V}, Rs H s v → (∀ a o, Oc H s v a → H a = some o → H' a = some o) → ∀ {a : Addr}, Oc H' s v a → Oc H s v a
  | .p _, _, _, _, _, o => o
  | .l _, _, _, _, _, o => o
  | .d _, _, _, _, _, o => o
  | .ll _, _, ⟨b, us, e, hb, _, _⟩, k, a, ⟨c, ws, e2, hc, m⟩ => by
    subst e
    cases e2
    have h2 := k b _ ⟨b, us, rfl, hb, .inl rfl⟩ hb
    rw [hc] at h2
    cases h2
    exact ⟨b, us, rfl, hb, m⟩
  | .pl _ _, _, ⟨b, c, w, vs, e, hb, _, _, _⟩, k, a, ⟨t, w2, e2, ht⟩ => by
    subst e
    cases e2
    have h2 := tx b _ hb
    rw [ht] at h2
    cases h2
    exact ⟨b, w, rfl, hb⟩
theorem Rs.mono (e : Same H H') {s : Sv} {v : V} (h : Rs H s v) : Rs H' s v := Rs.keep (Same.tx e) h fun a o _ q => e a o q
theorem Ro.mono (e : Same H H') {s : Sv} {v : V} (h : Ro H s v) : Ro H' s v := Ro.keep (Same.tx e) h fun a o _ q => e a o q
theorem Oc.mono (e : Same H H') {s : Sv} {v : V} (h : Rs H s v) {a : Addr} (o : Oc H' s v a) : Oc H s v a := Oc.back (Same.tx e) h (fun a o _ q => e a o q) o
theorem Oc.same (e : Same H H') : ∀ {s : Sv} {v : V} {a : Addr}, Oc H s v a → Oc H' s v a
  | .p _, _, _, o => o
  | .l _, _, _, o => o
  | .d _, _, _, o => o
  | .ll _, _, _, ⟨b, us, e1, h, m⟩ => ⟨b, us, e1, e b _ h, m⟩
  | .pl _ _, _, _, ⟨b, w, e1, h⟩ => ⟨b, w, e1, e b _ h⟩
end
theorem Rs.oc {H : Hp} : ∀ {s : Sv} {v : V} {a : Addr}, Rs H s v → Oc H s v a → H a ≠ none
  | .p _, _, _, _, o => o.elim
  | .l _, _, a, ⟨b, vs, q, h, r⟩, o => by
    rw [q] at o
    cases (show V.ref b = V.ref a from o)
    rcases h with h | ⟨_, h⟩ <;> rw [h] <;> exact fun z => nomatch z
  | .d _, _, a, ⟨b, ws, q, h, r⟩, o => by
    rw [q] at o
    cases (show V.ref b = V.ref a from o)
    rw [h]
    exact fun z => nomatch z
  | .ll _, _, a, ⟨b, us, e, hb, _, r⟩, ⟨c, ws, e2, hc, m⟩ => by
    subst e
    cases e2
    rw [hb] at hc
    cases hc
    rcases m with m | m
    · rw [m, hb]
      exact fun z => nomatch z
    · obtain ⟨vs, h⟩ := r.mem m
      rw [h]
      exact fun z => nomatch z
  | .pl _ _, _, a, ⟨b, c, w, vs, e, hb, hc, _, _⟩, ⟨t, w2, e2, ht⟩ => by
    subst e
    cases e2
    rw [hb] at ht
    cases ht
    rw [hc]
    exact fun z => nomatch z
theorem Ro.noT {H : Hp} : ∀ {s : Sv} {v : V} {a : Addr}, Ro H s v → Oc H s v a → ∀ xs, H a ≠ some (.tup xs)
  | .p _, _, _, _, o, _ => o.elim
  | .l _, _, a, ⟨b, vs, q, h, r⟩, o, _ => by
    rw [q] at o
    cases (show V.ref b = V.ref a from o)
    rw [h]
    exact fun z => nomatch z
  | .d _, _, a, ⟨b, ws, q, h, r⟩, o, _ => by
    rw [q] at o
    cases (show V.ref b = V.ref a from o)
    rw [h]
    exact fun z => nomatch z
  | .ll _, _, a, ⟨b, us, e, hb, _, r⟩, ⟨c, ws, e2, hc, m⟩, _ => by
    subst e
    cases e2
    rw [hb] at hc
    cases hc
    rcases m with m | m
    · rw [m, hb]
      exact fun z => nomatch z
    · obtain ⟨vs, h⟩ := r.mem m
      rw [h]
      exact fun z => nomatch z
  | .pl _ _, _, a, ⟨b, c, w, vs, e, hb, hc, _, _⟩, ⟨t, w2, e2, ht⟩, _ => by
    subst e
    cases e2
    rw [hb] at ht
    cases ht
    rw [hc]
    exact fun z => nomatch z
/-- some objects change, the others stay -/
structure ButP (P : Addr → Prop) (H H' : Hp) : Prop where
  keep : ∀ b o, ¬ P b → H b = some o → H' b = some o
  noT : ∀ a, P a → ∀ xs, H a ≠ some (.tup xs)
theorem ButP.tx {P : Addr → Prop} {H H' : Hp} (h : ButP P H H') : Tx H H' := fun b xs e => h.keep b _ (fun z => h.noT b z xs e) e
theorem Rs.butP {P : Addr → Prop} {H H' : Hp} (e : ButP P H H') {s : Sv} {v : V} (h : Rs H s v) (n : ∀ a, Oc H s v a → ¬ P a) : Rs H' s v := h.keep e.tx fun a o q => e.keep a o (n a q)
theorem Ro.butP {P : Addr → Prop} {H H' : Hp} (e : ButP P H H') {s : Sv} {v : V} (h : Ro H s v) (n : ∀ a, Oc H s v a → ¬ P a) : Ro H' s v := h.keep e.tx fun a o q => e.keep a o (n a q)
theorem Oc.butP {P : Addr → Prop} {H H' : Hp} (e : ButP P H H') {s : Sv} {v : V} (h : Rs H s v) (n : ∀ a, Oc H s v a → ¬ P a) {a : Addr} (o : Oc H' s v a) : Oc H s v a := Oc.back e.tx h (fun a o q => e.keep a o (n a q)) o
/-- one object changes, the others stay -/
def But (a : Addr) (H H' : Hp) : Prop := (∀ b o, b ≠ a → H b = some o → H' b = some o) ∧ ∀ xs, H a ≠ some (.tup xs)
theorem But.p {a : Addr} {H H' : Hp} (h : But a H H') : ButP (fun b => b = a) H H' := ⟨fun b o nb e => h.1 b o nb e, fun b e xs => by rw [e]; exact h.2 xs⟩
theorem But.tx {a : Addr} {H H' : Hp} (h : But a H H') : Tx H H' := h.p.tx

/-- argument lists -/
def Rss (H : Hp) : List Sv → List V → Prop
  | [], vs => vs = []
  | s :: ss, vs => ∃ v r, vs = v :: r ∧ Rs H s v ∧ Rss H ss r
theorem Rss.mono {H H' : Hp} (e : Same H H') : ∀ {ss : List Sv} {vs : List V}, Rss H ss vs → Rss H' ss vs
  | [], _, h => h
  | x :: xs, _, h => by
    obtain ⟨v, r, rfl, h1, h2⟩ := h
    exact ⟨v, r, rfl, Rs.mono e h1, Rss.mono e h2⟩
theorem Rss.length {H : Hp} : ∀ {ss : List Sv} {vs : List V}, Rss H ss vs → vs.length = ss.length
  | [], _, h => by cases h; rfl
  | x :: xs, _, h => by
    obtain ⟨v, r, rfl, _, h2⟩ := h
    show r.length + 1 = xs.length + 1
    rw [Rss.length h2]
theorem Rss.get {H : Hp} : ∀ {xs : List Sv} {vs : List V} {i : Nat} {x : Sv}, Rss H xs vs → xs[i]? = some x → ∃ v, vs[i]? = some v ∧ Rs H x v
  | [], _, i, x, h, e => by simp at e
  | y :: xs, _, 0, x, h, e => by
    obtain ⟨v, r, rfl, h1, h2⟩ := h
    have e : y = x := Option.some.inj e
    subst e
    exact ⟨v, rfl, h1⟩
  | y :: xs, _, i + 1, x, h, e => by
    obtain ⟨v, r, rfl, h1, h2⟩ := h
    exact Rss.get (i := i) h2 e
/-- plain ones only -/
def dts : List Sv → Rz (List Dt)
  | [] => .ok []
  | .p x :: r => (dts r).bind fun xs => .ok (x :: xs)
  | _ :: _ => .stuck
theorem Rss.dts {H : Hp} : ∀ {ss : List Sv} {vs : List V} {xs : List Dt}, Rss H ss vs → dts ss = .ok xs → Rps H xs vs
  | [], _, _, h, e => by cases e; exact h
  | .p x :: r, _, xs, h, e => by
    obtain ⟨v, r', rfl, h1, h2⟩ := h
    cases e2 : Fw.dts r with
    | stuck => simp [Fw.dts, e2] at e
    | exc c => simp [Fw.dts, e2] at e
    | ok ys =>
      simp [Fw.dts, e2] at e
      subst e
      exact ⟨v, r', rfl, h1, Rss.dts h2 e2⟩
  | .l _ :: _, _, _, _, e => by cases e
  | .d _ :: _, _, _, _, e => by cases e
  | .ll _ :: _, _, _, _, e => by cases e
  | .pl _ _ :: _, _, _, _, e => by cases e
end Fw

namespace Fw
open PySem L2

/-- an exception's wish, the classes by number -/
structure Cn where
  W : WX
  cl : Nat → Addr
abbrev XE := En → Rz Sv
abbrev XT := En → Rz Bool
abbrev XA := En → Rz (List Sv)

/-- the slots hold what is told -/
structure Slots (σ : St) (H : Hp) (ρ : En) : Prop where
  len : σ.length = ρ.length
  get : ∀ (i : Nat) (sl : Sl), ρ[i]? = some (some sl) → ∃ v, σ[i]? = some (some v) ∧ Rs H sl.s v
theorem Slots.mono {σ : St} {H H' : Hp} {ρ : En} (h : Slots σ H ρ) (e : Same H H') : Slots σ H' ρ := ⟨h.len, fun i sl q => by
  obtain ⟨v, h1, h2⟩ := h.get i sl q
  exact ⟨v, h1, h2.mono e⟩⟩
def Ex (C : Cn) (σ : St) (H : Hp) (c : Nat) : Prop := ∀ H', Same H H' → C.W (.ref (C.cl c)) none σ H'
theorem Ex.mono {C : Cn} {σ : St} {H H' : Hp} {c : Nat} (h : Ex C σ H c) (e : Same H H') : Ex C σ H' c := fun H2 e2 => h H2 (e.trans e2)

def tE (C : Cn) (x : XE) : TE := fun σ H Q => ∃ ρ, Slots σ H ρ ∧ (x ρ).P (Ex C σ H) fun s => ∀ H' v, Same H H' → Rs H' s v → Q v H'
/-- a new object -/
def tF (C : Cn) (x : XE) : TE := fun σ H Q => ∃ ρ, Slots σ H ρ ∧ (x ρ).P (Ex C σ H) fun s => ∀ H' v, Same H H' → Ro H' s v → (∀ a, Oc H' s v a → H a = none) → Q v H'
def tT (C : Cn) (x : XT) : TT := fun σ H Q => ∃ ρ, Slots σ H ρ ∧ (x ρ).P (Ex C σ H) fun b => ∀ H', Same H H' → Q b H'
def tA (C : Cn) (x : XA) : TA := fun σ H Q => ∃ ρ, Slots σ H ρ ∧ (x ρ).P (Ex C σ H) fun ss => ∀ H' vs, Same H H' → Rss H' ss vs → Q vs H'

section
variable {X : Cx}
theorem imp {e : Expr} {t t' : TE} (h : PE X e t) (k : ∀ σ H Q, t' σ H Q → t σ H Q) : PE X e t' := ⟨fun pins s σ H Q I q => h.run pins s σ H Q I (k σ H Q q)⟩
theorem impT {e : Expr} {t t' : TT} (h : PT X e t) (k : ∀ σ H Q, t' σ H Q → t σ H Q) : PT X e t' := ⟨fun pins s σ H Q I q => h.run pins s σ H Q I (k σ H Q q)⟩
theorem impW {e : Expr} {t t' : TT} (h : PW X e t) (k : ∀ σ H Q, t' σ H Q → t σ H Q) : PW X e t' := ⟨fun wh pins s σ H Q I q => h.run wh pins s σ H Q I (k σ H Q q)⟩
theorem impA {es : List Expr} {t t' : TA} (h : PA X es t) (k : ∀ σ H Q, t' σ H Q → t σ H Q) : PA X es t' := ⟨fun pos pins s σ H Q I q => h.run pos pins s σ H Q I (k σ H Q q)⟩
theorem impS {e : Stmt} {t t' : TS} (h : PS X e t) (k : ∀ D σ H, t' D σ H → t D σ H) : PS X e t' := ⟨fun pins s σ H D I q => h.run pins s σ H D I (k D σ H q)⟩
theorem impSs {e : List Stmt} {t t' : TS} (h : PSs X e t) (k : ∀ D σ H, t' D σ H → t D σ H) : PSs X e t' := ⟨fun pins s σ H D I q => h.run pins s σ H D I (k D σ H q)⟩

/-! ### the mirrors' words -/
def xVar (i : Nat) : XE := fun ρ => match ρ[i]? with
  | some (some sl) => .ok sl.s
  | _ => .stuck
def xC (x : Dt) : XE := fun _ => .ok (.p x)
def xU (f : Sv → Rz Sv) (x : XE) : XE := fun ρ => (x ρ).bind f
def xB (f : Sv → Sv → Rz Sv) (x y : XE) : XE := fun ρ => (x ρ).bind fun a => (y ρ).bind fun b => f a b
def xNil : XA := fun _ => .ok []
def xCons (x : XE) (y : XA) : XA := fun ρ => (x ρ).bind fun a => (y ρ).bind fun r => .ok (a :: r)
def xL (f : List Sv → Rz Sv) (x : XA) : XE := fun ρ => (x ρ).bind f
def xTst (f : Sv → Rz Bool) (x : XE) : XT := fun ρ => (x ρ).bind f
def xAnd (x y : XT) : XT := fun ρ => (x ρ).bind fun b => if b = true then y ρ else .ok false
def xOr (x y : XT) : XT := fun ρ => (x ρ).bind fun b => if b = true then .ok true else y ρ
def xNot (x : XT) : XT := fun ρ => (x ρ).bind fun b => .ok (!b)
def xIf (c : XT) (x y : XE) : XE := fun ρ => (c ρ).bind fun b => if b = true then x ρ else y ρ
def blB : Sv → Rz Bool
  | .p (.bl b) => .ok b
  | _ => .stuck
/-- a truth as a value -/
def xV (c : XT) : XE := fun ρ => (c ρ).bind fun b => .ok (.p (.bl b))

variable {C : Cn} {x y z : XE} {c d : XT}
theorem tE_run {σ : St} {H : Hp} {ρ : En} {Q : VK} (hs : Slots σ H ρ) (h : (x ρ).P (Ex C σ H) fun s => ∀ H' v, Same H H' → Rs H' s v → Q v H') : tE C x σ H Q := ⟨ρ, hs, h⟩
theorem tE_of_tF {e : Expr} (h : PE X e (tF C x)) : PE X e (tE C x) := imp h fun σ H Q ⟨ρ, hs, q⟩ => ⟨ρ, hs, Rz.P_mono q (fun _ z => z) fun s _ k H' v e r _ => k H' v e r.rs⟩
theorem e_var (i : Nat) {n : Str} {pos : Pos} (hN : X.N[i]? = some n := by rfl) (hv : Vis X.env.scope n := by first | exact Or.inl rfl | exact Or.inr (Or.inl rfl) | exact Or.inr (Or.inr rfl)) (hd : (n == ("__debug__" : Str)) = false := by decide)
    (hcd : (n == ("__classdict__" : Str)) = false := by decide) : PE X (.Name n pos) (tE C (xVar i)) := imp (pv i hN hv hd hcd) fun σ H Q ⟨ρ, hs, q⟩ => by
  unfold xVar at q
  split at q
  · rename_i sl e
    obtain ⟨v, h1, h2⟩ := hs.get i sl e
    exact ⟨v, h1, q H v (Same.refl H) h2⟩
  · exact q.elim
theorem e_int {i j pos} : PE X (.Constant (.int i) j pos) (tE C (xC (.int i))) := imp pe_int fun σ H Q ⟨ρ, hs, q⟩ => q H _ (Same.refl H) rfl
theorem e_bl {i j pos} : PE X (.Constant (.bool i) j pos) (tE C (xC (.bl i))) := imp pe_bl fun σ H Q ⟨ρ, hs, q⟩ => q H _ (Same.refl H) rfl
theorem e_non {j pos} : PE X (.Constant .none j pos) (tE C (xC .non)) := imp pe_non fun σ H Q ⟨ρ, hs, q⟩ => q H _ (Same.refl H) rfl
theorem e_str {i j pos} : PE X (.Constant (.str i) j pos) (tE C (xC (.str i))) := imp pe_str fun σ H Q ⟨ρ, hs, q⟩ => q H _ (Same.refl H) rfl
/-- a text of the module -/
theorem e_gstr {n : Str} {s : Str} {pos : Pos} (hg : Gl X n) (hm : ∃ t, X.mg n = some (.str s t)) (hd : (n == ("__debug__" : Str)) = false := by decide) : PE X (.Name n pos) (tE C (xC (.str s))) :=
  imp (hm.elim fun t hm => pe_glob (v := .str s) hg hm ⟨t, rfl⟩ hd) fun σ H Q ⟨ρ, hs, q⟩ => q H _ (Same.refl H) rfl

/-- two operands -/
theorem rz2 {ta tb : TE} {f : Sv → Sv → Rz Sv} {r : R2} (hr : ∀ (H : Hp) (s t : Sv) (v u : V) (Q : VK) (w : Sv), Rs H s v → Rs H t u → f s t = .ok w → (∀ H' z, Same H H' → Rs H' w z → Q z H') → r v u H Q)
    (hx : ∀ s t k, f s t ≠ .exc k) : ∀ σ H Q, tE C (xB f x y) σ H Q → tOp r (tE C x) (tE C y) σ H Q := fun σ H Q ⟨ρ, hs, q⟩ =>
  ⟨ρ, hs, Rz.P_mono (Rz.P_bind q) (fun _ k => k) fun s es k H1 v e1 r1 => ⟨ρ, hs.mono e1, Rz.P_mono (Rz.P_bind k) (fun _ k => k.mono e1) fun t et k2 H2 u e2 r2 => by
    cases e : f s t with
    | stuck => rw [e] at k2; exact k2.elim
    | exc c => exact (hx s t c e).elim
    | ok w =>
      rw [e] at k2
      exact hr H2 s t v u Q w (r1.mono e2) r2 e fun H' z e3 r3 => k2 H' z (e1.trans (e2.trans e3)) r3⟩⟩
theorem e_bin {op : Operator} {r : R2} {a b : Expr} {pos : Pos} {f : Sv → Sv → Rz Sv} (ho : OpR X (binaryOp op) r) (hx : ∀ s t k, f s t ≠ .exc k)
    (hr : ∀ (H : Hp) (s t : Sv) (v u : V) (Q : VK) (w : Sv), Rs H s v → Rs H t u → f s t = .ok w → (∀ H' z, Same H H' → Rs H' w z → Q z H') → r v u H Q)
    (ha : PE X a (tE C x)) (hb : PE X b (tE C y)) : PE X (.BinOp a op b pos) (tE C (xB f x y)) := imp (pe_op ho ha hb) (rz2 (ta := tE C x) (tb := tE C y) hr hx)
theorem e_cmp {op : CmpOp} {r : R2} {a b : Expr} {pos : Pos} {f : Sv → Sv → Rz Sv} (ho : OpR X (compareOp op) r) (hx : ∀ s t k, f s t ≠ .exc k)
    (hr : ∀ (H : Hp) (s t : Sv) (v u : V) (Q : VK) (w : Sv), Rs H s v → Rs H t u → f s t = .ok w → (∀ H' z, Same H H' → Rs H' w z → Q z H') → r v u H Q)
    (ha : PE X a (tE C x)) (hb : PE X b (tE C y)) (hm : behindInMarks op b = false) : PE X (.Compare a [op] [b] pos) (tE C (xB f x y)) := imp (pe_cmpR ho ha hb hm) (rz2 (ta := tE C x) (tb := tE C y) hr hx)
theorem e_ixg {r : R2} {a b : Expr} {pos : Pos} {f : Sv → Sv → Rz Sv} (ho : IxR X r) (hx : ∀ s t k, f s t ≠ .exc k)
    (hr : ∀ (H : Hp) (s t : Sv) (v u : V) (Q : VK) (w : Sv), Rs H s v → Rs H t u → f s t = .ok w → (∀ H' z, Same H H' → Rs H' w z → Q z H') → r v u H Q)
    (ha : PE X a (tE C x)) (hb : PE X b (tE C y)) (hs : PlainIx b) : PE X (.Subscript a b pos) (tE C (xB f x y)) := imp (pe_ix ho ha hb hs) (rz2 (ta := tE C x) (tb := tE C y) hr hx)

/-- a truth as a test -/
theorem t_val {e : Expr} (h : PE X e (tE C x)) (he : ∀ whole, isTrue e X.env whole = (do let v ← whole; standAt e.pos; holding [v] (truthy v)) := by intro _; rfl) : PT X e (tT C (xTst blB x)) :=
  impT (pt_val h he) fun σ H Q ⟨ρ, hs, q⟩ => ⟨ρ, hs, Rz.P_mono (Rz.P_bind q) (fun _ k => k) fun s _ k H1 v e1 r1 => by
    cases s with
    | p x =>
      cases x with
      | bl b => exact ⟨b, r1, k H1 e1⟩
      | _ => exact k.elim
    | _ => exact k.elim⟩
theorem t_cmp {op : CmpOp} {r : R2} {a b : Expr} {pos : Pos} {f : Sv → Sv → Rz Sv} (ho : OpR X (compareOp op) r) (hx : ∀ s t k, f s t ≠ .exc k)
    (hr : ∀ (H : Hp) (s t : Sv) (v u : V) (Q : VK) (w : Sv), Rs H s v → Rs H t u → f s t = .ok w → (∀ H' z, Same H H' → Rs H' w z → Q z H') → r v u H Q)
    (ha : PE X a (tE C x)) (hb : PE X b (tE C y)) (hm : behindInMarks op b = false) : PT X (.Compare a [op] [b] pos) (tT C (xTst blB (xB f x y))) :=
  impT (pt_cmpR ho ha hb hm) fun σ H Q ⟨ρ, hs, q⟩ => by
    refine rz2 (ta := tE C x) (tb := tE C y) (f := f) hr hx σ H _ ⟨ρ, hs, ?_⟩
    refine Rz.P_mono (Rz.P_bind q) (fun _ k => k) fun s _ k H1 v e1 r1 => ?_
    cases s with
    | p x =>
      cases x with
      | bl b => exact ⟨b, r1, k H1 e1⟩
      | _ => exact k.elim
    | _ => exact k.elim
theorem t_not {e : Expr} {pos : Pos} (h : PT X e (tT C c)) : PT X (.UnaryOp .Not e pos) (tT C (xNot c)) := impT (pt_not h) fun σ H Q ⟨ρ, hs, q⟩ => ⟨ρ, hs, Rz.P_mono (Rz.P_bind q) (fun _ k => k) fun b _ k H1 e1 => k H1 e1⟩
theorem w_and {a b : Expr} {rest : List Expr} {pos : Pos} (ha : PT X a (tT C c)) (hb : PW X (.BoolOp .And (b :: rest) pos) (tT C d)) : PW X (.BoolOp .And (a :: b :: rest) pos) (tT C (xAnd c d)) :=
  impW (pw_and ha hb) fun σ H Q ⟨ρ, hs, q⟩ => ⟨ρ, hs, Rz.P_mono (Rz.P_bind q) (fun _ k => k) fun b _ k H1 e1 => by
    cases b with
    | true =>
      show tT C d σ H1 Q
      exact ⟨ρ, hs.mono e1, Rz.P_mono (show (d ρ).P _ _ from k) (fun _ k => k.mono e1) fun b _ k H2 e2 => k H2 (e1.trans e2)⟩
    | false => exact k H1 e1⟩
theorem w_or {a b : Expr} {rest : List Expr} {pos : Pos} (ha : PT X a (tT C c)) (hb : PW X (.BoolOp .Or (b :: rest) pos) (tT C d)) : PW X (.BoolOp .Or (a :: b :: rest) pos) (tT C (xOr c d)) :=
  impW (pw_or ha hb) fun σ H Q ⟨ρ, hs, q⟩ => ⟨ρ, hs, Rz.P_mono (Rz.P_bind q) (fun _ k => k) fun b _ k H1 e1 => by
    cases b with
    | true => exact k H1 e1
    | false =>
      show tT C d σ H1 Q
      exact ⟨ρ, hs.mono e1, Rz.P_mono (show (d ρ).P _ _ from k) (fun _ k => k.mono e1) fun b _ k H2 e2 => k H2 (e1.trans e2)⟩⟩
theorem w_and1 {a : Expr} {pos : Pos} (ha : PT X a (tT C c)) : PW X (.BoolOp .And [a] pos) (tT C c) := pw_and1 ha
theorem w_or1 {a : Expr} {pos : Pos} (ha : PT X a (tT C c)) : PW X (.BoolOp .Or [a] pos) (tT C c) := pw_or1 ha
/-- truths as values -/
theorem e_not {e : Expr} {pos : Pos} (h : PE X e (tE C x)) : PE X (.UnaryOp .Not e pos) (tE C (xV (xNot (xTst blB x)))) := imp (pe_not h) fun σ H Q ⟨ρ, hs, q⟩ => ⟨ρ, hs, Rz.P_mono (Rz.P_bind (Rz.P_bind (Rz.P_bind q))) (fun _ k => k) fun s _ k H1 v e1 r1 => by
  cases s with
  | p x =>
    cases x with
    | bl b => exact ⟨b, r1, k H1 _ e1 rfl⟩
    | _ => exact k.elim
  | _ => exact k.elim⟩
theorem e_and {a b : Expr} {rest : List Expr} {pos : Pos} (ha : PE X a (tE C x)) (hb : PE X (.BoolOp .And (b :: rest) pos) (tE C (xV d))) : PE X (.BoolOp .And (a :: b :: rest) pos) (tE C (xV (xAnd (xTst blB x) d))) :=
  imp (pe_and ha hb) fun σ H Q ⟨ρ, hs, q⟩ => ⟨ρ, hs, Rz.P_mono (Rz.P_bind (Rz.P_bind (Rz.P_bind q))) (fun _ k => k) fun s _ k H1 v e1 r1 => by
    cases s with
    | p x =>
      cases x with
      | bl b =>
        refine ⟨b, r1, ?_⟩
        cases b with
        | true =>
          show tE C (xV d) σ H1 Q
          have k : (d ρ).P (Ex C σ H) fun a => (Rz.ok (Sv.p (Dt.bl a))).P (Ex C σ H) fun s => ∀ (H' : Hp) (v : V), Same H H' → Rs H' s v → Q v H' := k
          exact ⟨ρ, hs.mono e1, Rz.P_mono (Rz.bind_P k) (fun _ k => k.mono e1) fun b _ k H2 v2 e2 r2 => k H2 v2 (e1.trans e2) r2⟩
        | false => exact k H1 _ e1 rfl
      | _ => exact k.elim
    | _ => exact k.elim⟩
theorem e_or {a b : Expr} {rest : List Expr} {pos : Pos} (ha : PE X a (tE C x)) (hb : PE X (.BoolOp .Or (b :: rest) pos) (tE C (xV d))) : PE X (.BoolOp .Or (a :: b :: rest) pos) (tE C (xV (xOr (xTst blB x) d))) :=
  imp (pe_or ha hb) fun σ H Q ⟨ρ, hs, q⟩ => ⟨ρ, hs, Rz.P_mono (Rz.P_bind (Rz.P_bind (Rz.P_bind q))) (fun _ k => k) fun s _ k H1 v e1 r1 => by
    cases s with
    | p x =>
      cases x with
      | bl b =>
        refine ⟨b, r1, ?_⟩
        cases b with
        | true => exact k H1 _ e1 rfl
        | false =>
          show tE C (xV d) σ H1 Q
          have k : (d ρ).P (Ex C σ H) fun a => (Rz.ok (Sv.p (Dt.bl a))).P (Ex C σ H) fun s => ∀ (H' : Hp) (v : V), Same H H' → Rs H' s v → Q v H' := k
          exact ⟨ρ, hs.mono e1, Rz.P_mono (Rz.bind_P k) (fun _ k => k.mono e1) fun b _ k H2 v2 e2 r2 => k H2 v2 (e1.trans e2) r2⟩
      | _ => exact k.elim
    | _ => exact k.elim⟩
theorem e_one {op : BoolOp} {a : Expr} {pos : Pos} (ha : PE X a (tE C x)) : PE X (.BoolOp op [a] pos) (tE C (xV (xTst blB x))) := imp (pe_one ha) fun σ H Q ⟨ρ, hs, q⟩ => ⟨ρ, hs, Rz.P_mono (Rz.P_bind (Rz.P_bind q)) (fun _ k => k) fun s _ k H1 v e1 r1 => by
  cases s with
  | p x =>
    cases x with
    | bl b => exact k H1 v e1 r1
    | _ => exact k.elim
  | _ => exact k.elim⟩
theorem e_if {t a b : Expr} {pos : Pos} (ht : PT X t (tT C c)) (ha : PE X a (tE C x)) (hb : PE X b (tE C y)) : PE X (.IfExp t a b pos) (tE C (xIf c x y)) := imp (pe_ifExp ht ha hb) fun σ H Q ⟨ρ, hs, q⟩ => ⟨ρ, hs, Rz.P_mono (Rz.P_bind q) (fun _ k => k) fun b _ k H1 e1 => by
  cases b with
  | true =>
    show tE C x σ H1 Q
    exact ⟨ρ, hs.mono e1, Rz.P_mono (show (x ρ).P _ _ from k) (fun _ k => k.mono e1) fun b _ k H2 v2 e2 r2 => k H2 v2 (e1.trans e2) r2⟩
  | false =>
    show tE C y σ H1 Q
    exact ⟨ρ, hs.mono e1, Rz.P_mono (show (y ρ).P _ _ from k) (fun _ k => k.mono e1) fun b _ k H2 v2 e2 r2 => k H2 v2 (e1.trans e2) r2⟩⟩
variable {xs : XA}
theorem a_nil : PA X [] (tA C xNil) := impA pa_nil fun σ H Q ⟨ρ, hs, q⟩ => q H _ (Same.refl H) rfl
theorem a_cons {e : Expr} {es : List Expr} (ha : PE X e (tE C x)) (hr : PA X es (tA C xs)) (hst : starEach (e :: es) X.env = (false, eval e X.env) :: starEach es X.env := by rfl) : PA X (e :: es) (tA C (xCons x xs)) :=
  impA (pa_cons ha hr hst) fun σ H Q ⟨ρ, hs, q⟩ => ⟨ρ, hs, Rz.P_mono (Rz.P_bind q) (fun _ k => k) fun s _ k H1 v e1 r1 => ⟨ρ, hs.mono e1, Rz.P_mono (Rz.P_bind k) (fun _ k => k.mono e1) fun ss _ k H2 vs e2 r2 => k H2 (v :: vs) (e1.trans e2) ⟨v, vs, rfl, r1.mono e2, r2⟩⟩⟩
/-- an operation on an argument list -/
theorem rzL {f : List Sv → Rz Sv} {r : List V → Hp → VK → Prop} (hx : ∀ s k, f s ≠ .exc k) (hr : ∀ (H : Hp) (ss : List Sv) (vs : List V) (Q : VK) (w : Sv), Rss H ss vs → f ss = .ok w → (∀ H' z, Same H H' → Rs H' w z → Q z H') → r vs H Q) :
    ∀ σ H Q, tE C (xL f xs) σ H Q → tCB r (tA C xs) σ H Q := fun σ H Q ⟨ρ, hs, q⟩ =>
  ⟨ρ, hs, Rz.P_mono (Rz.P_bind q) (fun _ k => k) fun ss es k H1 vs e1 r1 => by
    cases e : f ss with
    | stuck => rw [e] at k; exact k.elim
    | exc c => exact (hx ss c e).elim
    | ok w =>
      rw [e] at k
      exact hr H1 ss vs Q w r1 e fun H' z e2 r2 => k H' z (e1.trans e2) r2⟩
/-- .. that makes a new object -/
theorem rzF {f : List Sv → Rz Sv} {r : List V → Hp → VK → Prop} (hx : ∀ s k, f s ≠ .exc k) (hr : ∀ (H : Hp) (ss : List Sv) (vs : List V) (Q : VK) (w : Sv), Rss H ss vs → f ss = .ok w → (∀ H' z, Same H H' → Ro H' w z → (∀ a, Oc H' w z a → H a = none) → Q z H') → r vs H Q) :
    ∀ σ H Q, tF C (xL f xs) σ H Q → tCB r (tA C xs) σ H Q := fun σ H Q ⟨ρ, hs, q⟩ =>
  ⟨ρ, hs, Rz.P_mono (Rz.P_bind q) (fun _ k => k) fun ss es k H1 vs e1 r1 => by
    cases e : f ss with
    | stuck => rw [e] at k; exact k.elim
    | exc c => exact (hx ss c e).elim
    | ok w =>
      rw [e] at k
      exact hr H1 ss vs Q w r1 e fun H' z e2 r2 o => k H' z (e1.trans e2) r2 fun a oa => e1.free (o a oa)⟩
def tupD (ss : List Sv) : Rz Sv := (dts ss).bind fun xs => if xs.length ≤ 1000000 then .ok (.p (.tup xs)) else .stuck
def lstD (ss : List Sv) : Rz Sv := (dts ss).bind fun xs => if xs.length ≤ 1000000 then .ok (.l xs) else .stuck
theorem tupD_ok {ss : List Sv} {w : Sv} (h : tupD ss = .ok w) : ∃ xs, dts ss = .ok xs ∧ xs.length ≤ 1000000 ∧ w = .p (.tup xs) := by
  unfold tupD at h
  cases e : dts ss with
  | stuck => simp [e] at h
  | exc c => simp [e] at h
  | ok xs =>
    simp only [e, Rz.bind_ok] at h
    split at h
    · rename_i hl
      exact ⟨xs, rfl, hl, (Rz.ok.inj h).symm⟩
    · cases h
theorem lstD_ok {ss : List Sv} {w : Sv} (h : lstD ss = .ok w) : ∃ xs, dts ss = .ok xs ∧ xs.length ≤ 1000000 ∧ w = .l xs := by
  unfold lstD at h
  cases e : dts ss with
  | stuck => simp [e] at h
  | exc c => simp [e] at h
  | ok xs =>
    simp only [e, Rz.bind_ok] at h
    split at h
    · rename_i hl
      exact ⟨xs, rfl, hl, (Rz.ok.inj h).symm⟩
    · cases h
theorem dts_exc : ∀ (ss : List Sv) (k : Nat), dts ss ≠ .exc k
  | [], k, h => by cases h
  | .p x :: r, k, h => by
    cases e : dts r with
    | stuck => simp [dts, e] at h
    | exc c => exact dts_exc r c e
    | ok ys => simp [dts, e] at h
  | .l _ :: _, _, h => by cases h
  | .d _ :: _, _, h => by cases h
  | .ll _ :: _, _, h => by cases h
  | .pl _ _ :: _, _, h => by cases h
theorem tupD_exc (ss : List Sv) (k : Nat) : tupD ss ≠ .exc k := fun h => by
  unfold tupD at h
  cases e : dts ss with
  | stuck => simp [e] at h
  | exc c => exact dts_exc ss c e
  | ok xs =>
    simp only [e, Rz.bind_ok] at h
    split at h <;> cases h
theorem lstD_exc (ss : List Sv) (k : Nat) : lstD ss ≠ .exc k := fun h => by
  unfold lstD at h
  cases e : dts ss with
  | stuck => simp [e] at h
  | exc c => exact dts_exc ss c e
  | ok xs =>
    simp only [e, Rz.bind_ok] at h
    split at h <;> cases h
theorem big {n : Nat} (h : n ≤ 1000000) : n ≤ sizeLine := Nat.le_trans h (by decide)
theorem same_new {H : Hp} {p : Addr} {o : HO} (h : H p = none) : Same H (upd H p o) := fun a u e => by
  rw [upd_ne (ne_of_none e h)]
  exact e
theorem e_tup {es : List Expr} {x1} {pos : Pos} (h : PA X es (tA C xs)) : PE X (.Tuple es x1 pos) (tE C (xL tupD xs)) := imp (pe_tup h) fun σ H Q ⟨ρ, hs, q⟩ =>
  ⟨ρ, hs, Rz.P_mono (Rz.P_bind q) (fun _ k => k) fun ss es k H1 vs e1 r1 => by
    cases e : tupD ss with
    | stuck => rw [e] at k; exact k.elim
    | exc c => exact (tupD_exc ss c e).elim
    | ok w =>
      rw [e] at k
      obtain ⟨ys, e3, hl, rfl⟩ := tupD_ok e
      have r2 := r1.dts e3
      refine ⟨big (by rw [r2.length]; exact hl), fun p hp => k _ _ (e1.trans (same_new hp)) ⟨p, vs, rfl, upd_same, r2.mono (same_new hp)⟩⟩⟩
theorem e_lst {es : List Expr} {pos : Pos} (h : PA X es (tA C xs)) : PE X (.List es pos) (tF C (xL lstD xs)) := imp (pe_lst h) fun σ H Q ⟨ρ, hs, q⟩ =>
  ⟨ρ, hs, Rz.P_mono (Rz.P_bind q) (fun _ k => k) fun ss es k H1 vs e1 r1 => by
    cases e : lstD ss with
    | stuck => rw [e] at k; exact k.elim
    | exc c => exact (lstD_exc ss c e).elim
    | ok w =>
      rw [e] at k
      obtain ⟨ys, e3, hl, rfl⟩ := lstD_ok e
      have r2 := r1.dts e3
      refine ⟨big (by rw [r2.length]; exact hl), fun p hp => k _ _ (e1.trans (same_new hp)) ⟨p, vs, rfl, upd_same, r2.mono (same_new hp)⟩ fun a oa => ?_⟩
      have oa : (V.ref p) = V.ref a := oa
      cases oa
      exact e1.free hp⟩
end
end Fw

namespace Fw
open PySem L2

/-! ### operations on data -/
def ixD : Sv → Sv → Rz Sv
  | .p (.tup l), .p (.int i) => match atI l i with
    | some x => .ok (.p x)
    | none => .stuck
  | .l l, .p (.int i) => match atI l i with
    | some x => .ok (.p x)
    | none => .stuck
  | .ll l, .p (.int i) => match atI l i with
    | some x => .ok (.l x)
    | none => .stuck
  | .pl xs y, .p (.int i) => if i = 0 then .ok (.l xs) else if i = 1 then .ok (.p y) else .stuck
  | _, _ => .stuck
def addD : Sv → Sv → Rz Sv
  | .p (.int i), .p (.int j) => .ok (.p (.int (i + j)))
  | .p (.tup a), .p (.tup b) => if a.length + b.length ≤ 1000000 then .ok (.p (.tup (a ++ b))) else .stuck
  | _, _ => .stuck
def subD : Sv → Sv → Rz Sv
  | .p (.int i), .p (.int j) => .ok (.p (.int (i - j)))
  | _, _ => .stuck
def mulD : Sv → Sv → Rz Sv
  | .p (.int i), .p (.int j) => if (-(2 ^ 64) < i ∧ i < 2 ^ 64) ∨ (-(2 ^ 64) < j ∧ j < 2 ^ 64) then .ok (.p (.int (i * j))) else .stuck
  | _, _ => .stuck
def modD : Sv → Sv → Rz Sv
  | .p (.int i), .p (.int j) => if j ≠ 0 then .ok (.p (.int (i.fmod j))) else .stuck
  | _, _ => .stuck
def divD : Sv → Sv → Rz Sv
  | .p (.int i), .p (.int j) => if j ≠ 0 ∧ j.natAbs < 1073741824 then .ok (.p (.int (i.fdiv j))) else .stuck
  | _, _ => .stuck
def powD : Sv → Sv → Rz Sv
  | .p (.int i), .p (.int j) => if 0 ≤ j ∧ j ≤ 1000000 ∧ i.natAbs < 2 ^ 64 then .ok (.p (.int (i ^ j.toNat))) else .stuck
  | _, _ => .stuck
def intsOf : List Dt → Option (List Int)
  | [] => some []
  | .int i :: r => (intsOf r).map fun ns => i :: ns
  | _ :: _ => none
theorem intsOf_ok : ∀ {l : List Dt} {ns : List Int}, intsOf l = some ns → l = ns.map Dt.int
  | [], ns, h => by cases h; rfl
  | .int i :: r, ns, h => by
    cases e : intsOf r with
    | none => simp [intsOf, e] at h
    | some ms =>
      simp [intsOf, e] at h
      subst h
      rw [intsOf_ok e]
      rfl
  | .non :: _, _, h => by cases h
  | .bl _ :: _, _, h => by cases h
  | .str _ :: _, _, h => by cases h
  | .adr _ :: _, _, h => by cases h
  | .tup _ :: _, _, h => by cases h
theorem intsOf_map : ∀ (ns : List Int), intsOf (ns.map Dt.int) = some ns
  | [] => rfl
  | n :: ns => by show (intsOf (ns.map Dt.int)).map _ = _; rw [intsOf_map ns]; rfl
def ltD : Sv → Sv → Rz Sv
  | .p (.int i), .p (.int j) => .ok (.p (.bl (decide (i < j))))
  | .p (.tup a), .p (.tup b) => match intsOf a, intsOf b with
    | some ns, some ms => .ok (.p (.bl (HT.lexLt ns ms)))
    | _, _ => .stuck
  | _, _ => .stuck
def cmpD (f : Int → Int → Bool) : Sv → Sv → Rz Sv
  | .p (.int i), .p (.int j) => .ok (.p (.bl (f i j)))
  | _, _ => .stuck
mutual
def toPy : Dt → PyData
  | .non => .none
  | .bl b => .bool b
  | .int i => .int i
  | .str s => .str s
  | .adr _ => .dict []
  | .tup l => .tuple (toPys l)
def toPys : List Dt → List PyData
  | [] => []
  | x :: xs => toPy x :: toPys xs
end
def svPy : Sv → Option PyData
  | .p x => some (toPy x)
  | .l xs => some (.list (toPys xs))
  | .d _ => none
  | .ll _ => none
  | .pl _ _ => none
def eqD : Sv → Sv → Rz Sv := fun s t => match svPy s, svPy t with
  | some d, some e => if SeqAt.shaped d = true ∧ SeqAt.shaped e = true then .ok (.p (.bl (PyData.eqv d e))) else .stuck
  | _, _ => .stuck
def neD : Sv → Sv → Rz Sv := fun s t => match svPy s, svPy t with
  | some d, some e => if SeqAt.shaped d = true ∧ SeqAt.shaped e = true then .ok (.p (.bl (!PyData.eqv d e))) else .stuck
  | _, _ => .stuck
def isNon : Sv → Bool
  | .p .non => true
  | _ => false
def isND (s t : Sv) : Rz Sv := match t with
  | .p .non => .ok (.p (.bl (isNon s)))
  | _ => .stuck
/-- the name of a value's type -/
def tyD : Sv → String
  | .p .non => "NoneType"
  | .p (.bl _) => "bool"
  | .p (.int _) => "int"
  | .p (.str _) => "str"
  | .p (.adr _) => "?"
  | .p (.tup _) => "tuple"
  | .l _ => "list"
  | .d _ => "dict"
  | .ll _ => "list"
  | .pl _ _ => "tuple"
def isTy (T : String) : List Sv → Rz Sv
  | [s] => .ok (.p (.bl (tyD s == T || (tyD s == "bool" && T == "int"))))
  | _ => .stuck
def lenD : List Sv → Rz Sv
  | [.p (.tup l)] => .ok (.p (.int l.length))
  | [.l l] => .ok (.p (.int l.length))
  | [.ll l] => .ok (.p (.int l.length))
  | [.pl _ _] => .ok (.p (.int 2))
  | _ => .stuck
def intD : List Sv → Rz Sv
  | [.p (.int i)] => .ok (.p (.int i))
  | [.p (.bl b)] => .ok (.p (.int (if b then 1 else 0)))
  | _ => .stuck
def absD : List Sv → Rz Sv
  | [.p (.int i)] => .ok (.p (.int (if i < 0 then -i else i)))
  | _ => .stuck
def maxD : List Sv → Rz Sv
  | [.p (.int i), .p (.int j)] => .ok (.p (.int (if j > i then j else i)))
  | _ => .stuck
def tupleD : List Sv → Rz Sv
  | [.p (.tup l)] => .ok (.p (.tup l))
  | [.l l] => .ok (.p (.tup l))
  | _ => .stuck
def listD : List Sv → Rz Sv
  | [.p (.tup l)] => .ok (.l l)
  | [.l l] => .ok (.l l)
  | _ => .stuck
def cutD (xs : List Dt) (lo hi : Option Int) : List Dt := (xs.drop (HT.sIx xs.length 0 lo)).take (HT.sIx xs.length xs.length hi - HT.sIx xs.length 0 lo)

theorem Rps.cut {H : Hp} {xs : List Dt} {vs : List V} (h : Rps H xs vs) (lo hi : Option Int) : Rps H (cutD xs lo hi) (cutV vs lo hi) := by
  unfold cutD cutV
  rw [h.length]
  exact (h.drop _).take _
theorem Rps.atI {H : Hp} {xs : List Dt} {vs : List V} {i : Int} {x : Dt} (h : Rps H xs vs) (e : L2.atI xs i = some x) : ∃ v, L2.atI vs i = some v ∧ Rp H x v := by
  unfold L2.atI at e ⊢
  rw [h.length]
  cases e2 : ixN xs.length i with
  | none => rw [e2] at e; cases e
  | some j =>
    rw [e2] at e
    exact h.get e
theorem Rll.atI {H : Hp} {xss : List (List Dt)} {us : List V} {i : Int} {x : List Dt} (h : Rll H xss us) (e : L2.atI xss i = some x) : ∃ b vs, L2.atI us i = some (.ref b) ∧ H b = some (.lst vs) ∧ Rps H x vs := by
  unfold L2.atI at e ⊢
  rw [h.length]
  cases e2 : ixN xss.length i with
  | none => rw [e2] at e; cases e
  | some j =>
    rw [e2] at e
    exact h.get e
mutual
theorem Rp.dp {K : PySem.W.Frag} {H : Hp} : ∀ {x : Dt} {v : V}, Rp H x v → (toPy x).canLay0 = true → Dp K H v (toPy x)
  | .non, _, h, _ => by cases h; exact .non
  | .bl b, _, h, _ => by cases h; exact .bl b
  | .int b, _, h, _ => by cases h; exact .int b
  | .str b, _, h, _ => by cases h; exact .str b
  | .adr b, _, h, z => by cases z
  | .tup l, _, h, z => by
    obtain ⟨a, vs, rfl, ha, hr⟩ := h
    exact .tup (.inl (.inl ha)) (Rps.dp hr (by simpa [toPy, PyData.canLay0] using z))
theorem Rps.dp {K : PySem.W.Frag} {H : Hp} : ∀ {x : List Dt} {v : List V}, Rps H x v → PyData.canLayAll0 (toPys x) = true → DpAll K H v (toPys x)
  | [], _, h, _ => by cases h; exact .nil
  | x :: xs, _, h, z => by
    obtain ⟨v, r, rfl, h1, h2⟩ := h
    have z : (toPy x).canLay0 = true ∧ PyData.canLayAll0 (toPys xs) = true := by simpa [toPys, PyData.canLayAll0] using z
    exact .cons (Rp.dp h1 z.1) (Rps.dp h2 z.2)
end
theorem Rs.dp {K : PySem.W.Frag} {H : Hp} {s : Sv} {v : V} {d : PyData} (h : Rs H s v) (e : svPy s = some d) (hs : SeqAt.shaped d = true) : Dp K H v d := by
  have z := SeqAt.canLay_of_shaped hs
  cases s with
  | p x => cases e; exact Rp.dp h z
  | l xs =>
    cases e
    obtain ⟨a, vs, rfl, ha, hr⟩ := h
    exact .lst (.inl ha) (hr.dp (by simpa [PyData.canLay0] using z))
  | d kvs => cases e
  | ll x => cases e
  | pl x y => cases e
def noAdr : Sv → Bool
  | .p (.adr _) => false
  | _ => true
theorem Rs.ty {K : PySem.W.Frag} {H : Hp} : ∀ {s : Sv} {v : V}, noAdr s = true → Rs H s v → TyX K H v (.type (tyD s))
  | .p .non, _, _, h => by cases (show _ = V.non from h); exact .base .non
  | .p (.bl b), _, _, h => by cases (show _ = V.bl b from h); exact .base (.bl b)
  | .p (.int b), _, _, h => by cases (show _ = V.int b from h); exact .base (.int b)
  | .p (.str b), _, _, h => by cases (show _ = V.str b from h); exact .base (.str b)
  | .p (.adr _), _, z, _ => by cases z
  | .p (.tup l), _, _, h => by
    obtain ⟨a, vs, rfl, ha, hr⟩ := h
    exact .base (.tup ha)
  | .l l, _, _, h => by
    obtain ⟨a, vs, rfl, ha | ⟨o, ha⟩, hr⟩ := h
    · exact .base (.lst ha)
    · exact .base (.frz ha)
  | .d l, _, _, h => by
    obtain ⟨a, vs, rfl, ha, hr⟩ := h
    exact .base (.dT ha)
  | .ll l, _, _, h => by
    obtain ⟨a, vs, rfl, ha, _⟩ := h
    exact .base (.lst ha)
  | .pl l y, _, _, h => by
    obtain ⟨a, b, w, vs, rfl, ha, _⟩ := h
    exact .base (.tup ha)
section
variable {X : Cx} {C : Cn} {x y z : XE} {c d : XT} {xs : XA} {a b : Expr} {es : List Expr} {pos p : Pos}
local macro_rules | `(tactic| walk_at "nx") => `(tactic| (intro s t k h; first | (cases h; done) | (simp only [reduceCtorEq] at h; done)))
theorem rs_int {H : Hp} {i : Int} {v : V} (h : Rs H (.p (.int i)) v) : v = .int i := h
theorem ix_x (s t : Sv) (k : Nat) : ixD s t ≠ .exc k := by
  unfold ixD
  intro h
  split at h
  · split at h <;> cases h
  · split at h <;> cases h
  · split at h <;> cases h
  · split at h
    · cases h
    · split at h <;> cases h
  · cases h
theorem e_ix (ha : PE X a (tE C x)) (hb : PE X b (tE C y)) (hs : PlainIx b := by exact fun _ _ => rfl) : PE X (.Subscript a b pos) (tE C (xB ixD x y)) :=
  e_ixg (ix_list.or ix_tup) ix_x (fun H s t v u Q w hv hu e q => by
    unfold ixD at e
    split at e
    · rename_i l i
      split at e
      · rename_i x hx
        cases e
        obtain ⟨a, vs, rfl, ha, hr⟩ := hv
        cases (rs_int hu)
        obtain ⟨v, h1, h2⟩ := hr.atI hx
        exact .inr ⟨a, vs, i, v, rfl, rfl, .inl (.inl ha), h1, q H v (Same.refl H) h2⟩
      · cases e
    · rename_i l i
      split at e
      · rename_i x hx
        cases e
        obtain ⟨a, vs, rfl, ha, hr⟩ := hv
        cases (rs_int hu)
        obtain ⟨v, h1, h2⟩ := hr.atI hx
        exact .inl ⟨a, vs, i, v, rfl, rfl, .inl ha, h1, q H v (Same.refl H) h2⟩
      · cases e
    · rename_i l i
      split at e
      · rename_i x hx
        cases e
        obtain ⟨a, us, rfl, ha, nd, hr⟩ := hv
        cases (rs_int hu)
        obtain ⟨b, vs, h1, h2, h3⟩ := hr.atI hx
        exact .inl ⟨a, us, i, _, rfl, rfl, .inl (.inl ha), h1, q H _ (Same.refl H) ⟨b, vs, rfl, .inl h2, h3⟩⟩
      · cases e
    · rename_i xs y i
      obtain ⟨a, b, w, vs, rfl, ha, hb, hr, hy⟩ := hv
      cases (rs_int hu)
      split at e
      · rename_i hi
        subst hi
        cases e
        exact .inr ⟨a, _, 0, _, rfl, rfl, .inl (.inl ha), rfl, q H _ (Same.refl H) ⟨b, vs, rfl, .inl hb, hr⟩⟩
      · split at e
        · rename_i hi
          subst hi
          cases e
          exact .inr ⟨a, _, 1, _, rfl, rfl, .inl (.inl ha), rfl, q H _ (Same.refl H) hy⟩
        · cases e
    · cases e) ha hb hs
theorem add_x (s t : Sv) (k : Nat) : addD s t ≠ .exc k := by
  unfold addD
  intro h
  split at h
  · cases h
  · split at h <;> cases h
  · cases h
theorem e_add (ha : PE X a (tE C x)) (hb : PE X b (tE C y)) : PE X (.BinOp a .Add b pos) (tE C (xB addD x y)) :=
  e_bin (op_add.or op_catA) add_x (fun H s t v u Q w hv hu e q => by
    unfold addD at e
    split at e
    · cases e
      cases (rs_int hv)
      cases (rs_int hu)
      exact .inl ⟨_, _, rfl, rfl, q H _ (Same.refl H) rfl⟩
    · rename_i l m
      split at e
      · rename_i hl
        cases e
        obtain ⟨a, vs, rfl, ha, hr⟩ := hv
        obtain ⟨b, ws, rfl, hb, hk⟩ := hu
        refine .inr ⟨a, b, vs, ws, rfl, rfl, .inl (.inl ha), .inl (.inl hb), big (by rw [hr.length, hk.length]; exact hl), fun e0 => ?_, fun e1 e0 => ?_, fun _ _ p hp => ?_⟩
        · subst e0
          have e3 := hr.length
          cases l with
          | cons => cases e3
          | nil => exact q H _ (Same.refl H) ⟨b, ws, rfl, hb, hk⟩
        · subst e0
          have e3 := hk.length
          cases m with
          | cons => cases e3
          | nil => exact q H _ (Same.refl H) ⟨a, vs, rfl, ha, by rw [List.append_nil]; exact hr⟩
        · exact q _ _ (same_new hp) ⟨p, _, rfl, upd_same, (hr.append hk).mono (same_new hp)⟩
      · cases e
    · cases e) ha hb
theorem int2 {f : Int → Int → Rz Sv} {g : Sv → Sv → Rz Sv} (hg : ∀ i j, g (.p (.int i)) (.p (.int j)) = f i j) (hn : ∀ s t w, g s t = .ok w → ∃ i j, s = .p (.int i) ∧ t = .p (.int j)) {r : R2}
    (hr : ∀ (H : Hp) (i j : Int) (Q : VK) (w : Sv), f i j = .ok w → (∀ z, Rs H w z → Q z H) → r (.int i) (.int j) H Q) :
    ∀ (H : Hp) (s t : Sv) (v u : V) (Q : VK) (w : Sv), Rs H s v → Rs H t u → g s t = .ok w → (∀ H' z, Same H H' → Rs H' w z → Q z H') → r v u H Q := fun H s t v u Q w hv hu e q => by
  obtain ⟨i, j, rfl, rfl⟩ := hn s t w e
  rw [hg] at e
  cases (rs_int hv)
  cases (rs_int hu)
  exact hr H i j Q w e fun z hz => q H z (Same.refl H) hz
theorem sub_x (s t : Sv) (k : Nat) : subD s t ≠ .exc k := by
  unfold subD
  intro h
  split at h <;> cases h
theorem e_sub (ha : PE X a (tE C x)) (hb : PE X b (tE C y)) : PE X (.BinOp a .Sub b pos) (tE C (xB subD x y)) :=
  e_bin op_sub sub_x (int2 (f := fun i j => .ok (.p (.int (i - j)))) (fun _ _ => rfl) (fun s t w e => by
    unfold subD at e
    split at e
    · exact ⟨_, _, rfl, rfl⟩
    · cases e) fun H i j Q w e q => by
    cases e
    exact ⟨_, _, rfl, rfl, q _ rfl⟩) ha hb
theorem mul_x (s t : Sv) (k : Nat) : mulD s t ≠ .exc k := by
  unfold mulD
  intro h
  split at h
  · split at h <;> cases h
  · cases h
theorem e_mul (ha : PE X a (tE C x)) (hb : PE X b (tE C y)) : PE X (.BinOp a .Mult b pos) (tE C (xB mulD x y)) :=
  e_bin op_mul mul_x (int2 (f := fun i j => if (-(2 ^ 64) < i ∧ i < 2 ^ 64) ∨ (-(2 ^ 64) < j ∧ j < 2 ^ 64) then .ok (.p (.int (i * j))) else .stuck) (fun _ _ => rfl) (fun s t w e => by
    unfold mulD at e
    split at e
    · exact ⟨_, _, rfl, rfl⟩
    · cases e) fun H i j Q w e q => by
    split at e
    · rename_i hc
      cases e
      exact ⟨_, _, rfl, rfl, hc, q _ rfl⟩
    · cases e) ha hb
theorem mod_x (s t : Sv) (k : Nat) : modD s t ≠ .exc k := by
  unfold modD
  intro h
  split at h
  · split at h <;> cases h
  · cases h
theorem e_mod (ha : PE X a (tE C x)) (hb : PE X b (tE C y)) : PE X (.BinOp a .Mod b pos) (tE C (xB modD x y)) :=
  e_bin op_modN mod_x (int2 (f := fun i j => if j ≠ 0 then .ok (.p (.int (i.fmod j))) else .stuck) (fun _ _ => rfl) (fun s t w e => by
    unfold modD at e
    split at e
    · exact ⟨_, _, rfl, rfl⟩
    · cases e) fun H i j Q w e q => by
    split at e
    · rename_i hc
      cases e
      exact ⟨_, _, rfl, rfl, hc, q _ rfl⟩
    · cases e) ha hb
theorem div_x (s t : Sv) (k : Nat) : divD s t ≠ .exc k := by
  unfold divD
  intro h
  split at h
  · split at h <;> cases h
  · cases h
theorem e_div (ha : PE X a (tE C x)) (hb : PE X b (tE C y)) : PE X (.BinOp a .FloorDiv b pos) (tE C (xB divD x y)) :=
  e_bin op_fdivN div_x (int2 (f := fun i j => if j ≠ 0 ∧ j.natAbs < 1073741824 then .ok (.p (.int (i.fdiv j))) else .stuck) (fun _ _ => rfl) (fun s t w e => by
    unfold divD at e
    split at e
    · exact ⟨_, _, rfl, rfl⟩
    · cases e) fun H i j Q w e q => by
    split at e
    · rename_i hc
      cases e
      exact ⟨_, _, rfl, rfl, hc, q _ rfl⟩
    · cases e) ha hb
theorem pow_x (s t : Sv) (k : Nat) : powD s t ≠ .exc k := by
  unfold powD
  intro h
  split at h
  · split at h <;> cases h
  · cases h
theorem e_pow (ha : PE X a (tE C x)) (hb : PE X b (tE C y)) : PE X (.BinOp a .Pow b pos) (tE C (xB powD x y)) :=
  e_bin op_pow pow_x (int2 (f := fun i j => if 0 ≤ j ∧ j ≤ 1000000 ∧ i.natAbs < 2 ^ 64 then .ok (.p (.int (i ^ j.toNat))) else .stuck) (fun _ _ => rfl) (fun s t w e => by
    unfold powD at e
    split at e
    · exact ⟨_, _, rfl, rfl⟩
    · cases e) fun H i j Q w e q => by
    split at e
    · rename_i hc
      cases e
      exact ⟨_, _, rfl, rfl, hc, q _ rfl⟩
    · cases e) ha hb
/-- -n -/
def negD : Sv → Rz Sv
  | .p (.int i) => .ok (.p (.int (-i)))
  | _ => .stuck
theorem e_neg (ha : PE X a (tE C x)) : PE X (.UnaryOp .USub a pos) (tE C (xU negD x)) := imp (pe_un un_neg ha) fun σ H Q ⟨ρ, hs, q⟩ => ⟨ρ, hs, Rz.P_mono (Rz.P_bind q) (fun _ k => k) fun s _ k H1 v e1 r1 => by
  unfold negD at k
  split at k
  · cases (rs_int r1)
    exact ⟨_, rfl, k H1 _ e1 rfl⟩
  · exact k.elim⟩
/-! comparisons -/
theorem cmp_x (f : Int → Int → Bool) (s t : Sv) (k : Nat) : cmpD f s t ≠ .exc k := by
  unfold cmpD
  intro h
  split at h <;> cases h
theorem cmp_r (f : Int → Int → Bool) : ∀ (H : Hp) (s t : Sv) (v u : V) (Q : VK) (w : Sv), Rs H s v → Rs H t u → cmpD f s t = .ok w → (∀ H' z, Same H H' → Rs H' w z → Q z H') → (rI0 fun i j => V.bl (f i j)) v u H Q :=
  int2 (f := fun i j => .ok (.p (.bl (f i j)))) (fun _ _ => rfl) (fun s t w e => by
    unfold cmpD at e
    split at e
    · exact ⟨_, _, rfl, rfl⟩
    · cases e) fun H i j Q w e q => by
    cases e
    exact ⟨_, _, rfl, rfl, q _ rfl⟩
theorem lt_x (s t : Sv) (k : Nat) : ltD s t ≠ .exc k := by
  unfold ltD
  intro h
  split at h
  · cases h
  · split at h <;> cases h
  · cases h
def rLt (K : PySem.W.Frag) : R2 := fun x y H Q => (rI0 fun i j => V.bl (decide (i < j))) x y H Q ∨ rLtT K x y H Q
theorem op_ltB (hu : X.A.units < cLine) : OpR X (compareOp .Lt) (rLt X.K) := op_lt.or (op_ltT hu)
theorem lt_r {K : PySem.W.Frag} : ∀ (H : Hp) (s t : Sv) (v u : V) (Q : VK) (w : Sv), Rs H s v → Rs H t u → ltD s t = .ok w → (∀ H' z, Same H H' → Rs H' w z → Q z H') → rLt K v u H Q := fun H s t v u Q w hv hu e q => by
  unfold ltD at e
  split at e
  · cases e
    cases (rs_int hv)
    cases (rs_int hu)
    exact .inl ⟨_, _, rfl, rfl, q H _ (Same.refl H) rfl⟩
  · rename_i l m
    split at e
    · rename_i ns ms h1 h2
      cases e
      obtain ⟨a, vs, rfl, ha, hr⟩ := hv
      obtain ⟨b, ws, rfl, hb, hk⟩ := hu
      rw [intsOf_ok h1] at hr
      rw [intsOf_ok h2] at hk
      have e1 := hr.ints
      have e2 := hk.ints
      subst e1 e2
      exact .inr ⟨a, b, ns, ms, rfl, rfl, .inl (.inl ha), .inl (.inl hb), q H _ (Same.refl H) rfl⟩
    · cases e
  · cases e
/-- the comparison's rule by its operator -/
structure Cmp (X : Cx) (op : CmpOp) (f : Sv → Sv → Rz Sv) (r : R2) : Prop where
  ho : OpR X (compareOp op) r
  hx : ∀ s t k, f s t ≠ .exc k
  hr : ∀ (H : Hp) (s t : Sv) (v u : V) (Q : VK) (w : Sv), Rs H s v → Rs H t u → f s t = .ok w → (∀ H' z, Same H H' → Rs H' w z → Q z H') → r v u H Q
theorem c_lt (hu : X.A.units < cLine) : Cmp X .Lt ltD (rLt X.K) := ⟨op_ltB hu, lt_x, lt_r⟩
theorem c_le : Cmp X .LtE (cmpD fun i j => decide (i ≤ j)) (rI0 fun i j => V.bl (decide (i ≤ j))) := ⟨op_le, cmp_x _, cmp_r _⟩
theorem c_gt : Cmp X .Gt (cmpD fun i j => decide (j < i)) (rI0 fun i j => V.bl (decide (j < i))) := ⟨op_gt, cmp_x _, cmp_r _⟩
theorem c_ge : Cmp X .GtE (cmpD fun i j => decide (j ≤ i)) (rI0 fun i j => V.bl (decide (j ≤ i))) := ⟨op_ge, cmp_x _, cmp_r _⟩
theorem c_eq (hu : X.A.units + 64 < cLine) : Cmp X .Eq eqD (rEqD X.K) := ⟨op_eqD hu, fun s t k h => (by
  unfold eqD at h
  split at h
  · split at h <;> cases h
  · cases h), fun H s t v u Q w hv hu e q => by
  unfold eqD at e
  split at e
  · rename_i d e1 h1 h2
    split at e
    · rename_i hs
      cases e
      exact ⟨d, e1, hv.dp h1 hs.1, hu.dp h2 hs.2, hs.1, hs.2, q H _ (Same.refl H) rfl⟩
    · cases e
  · cases e⟩
theorem c_ne (hu : X.A.units + 64 < cLine) : Cmp X .NotEq neD (rNeD X.K) := ⟨op_neD hu, fun s t k h => (by
  unfold neD at h
  split at h
  · split at h <;> cases h
  · cases h), fun H s t v u Q w hv hu e q => by
  unfold neD at e
  split at e
  · rename_i d e1 h1 h2
    split at e
    · rename_i hs
      cases e
      exact ⟨d, e1, hv.dp h1 hs.1, hu.dp h2 hs.2, hs.1, hs.2, q H _ (Same.refl H) rfl⟩
    · cases e
  · cases e⟩
theorem isNon_v {H : Hp} {s : Sv} {v : V} (hv : Rs H s v) : decide (v = .non) = isNon s := by
  cases s with
  | p x =>
    cases x with
    | non => cases (show v = V.non from hv); rfl
    | bl b => cases (show v = V.bl b from hv); rfl
    | int b => cases (show v = V.int b from hv); rfl
    | str b => cases (show v = V.str b from hv); rfl
    | adr b => cases (show v = V.ref b from hv); rfl
    | tup l => obtain ⟨a, vs, rfl, _⟩ := hv; rfl
  | l l => obtain ⟨a, vs, rfl, _⟩ := hv; rfl
  | d l => obtain ⟨a, vs, rfl, _⟩ := hv; rfl
  | ll l => obtain ⟨a, vs, rfl, _⟩ := hv; rfl
  | pl l y => obtain ⟨a, b, w, vs, rfl, _⟩ := hv; rfl
theorem c_is : Cmp X .Is isND (fun x y H Q => y = .non ∧ Q (.bl (decide (x = .non))) H) := ⟨op_isN, fun s t k h => (by
  unfold isND at h
  split at h <;> cases h), fun H s t v u Q w hv hu e q => by
  unfold isND at e
  split at e
  · cases e
    exact ⟨hu, q H _ (Same.refl H) (congrArg V.bl (isNon_v hv))⟩
  · cases e⟩
theorem e_cp {op : CmpOp} {f : Sv → Sv → Rz Sv} {r : R2} (k : Cmp X op f r) (ha : PE X a (tE C x)) (hb : PE X b (tE C y)) (hm : behindInMarks op b = false := by first | exact nomark _ | rfl) : PE X (.Compare a [op] [b] pos) (tE C (xB f x y)) := e_cmp k.ho k.hx k.hr ha hb hm
theorem t_cp {op : CmpOp} {f : Sv → Sv → Rz Sv} {r : R2} (k : Cmp X op f r) (ha : PE X a (tE C x)) (hb : PE X b (tE C y)) (hm : behindInMarks op b = false := by first | exact nomark _ | rfl) : PT X (.Compare a [op] [b] pos) (tT C (xTst blB (xB f x y))) := t_cmp k.ho k.hx k.hr ha hb hm
/-- a < b < c -/
def xCh (f g : Sv → Sv → Rz Sv) (x y z : XE) : XE := fun ρ => (x ρ).bind fun a => (y ρ).bind fun b => (f a b).bind fun r => (blB r).bind fun k => if k = true then (z ρ).bind fun c => g b c else .ok (.p (.bl false))
theorem chain_r {f g : Sv → Sv → Rz Sv} {r r' : R2} {op op' : CmpOp} (k : Cmp X op f r) (k' : Cmp X op' g r') : ∀ σ H Q, tE C (xCh f g x y z) σ H Q → tChain r r' (tE C x) (tE C y) (tE C z) σ H Q := fun σ H Q ⟨ρ, hs, q⟩ =>
  ⟨ρ, hs, Rz.P_mono (Rz.P_bind q) (fun _ k => k) fun s es q1 H1 v e1 r1 => ⟨ρ, hs.mono e1, Rz.P_mono (Rz.P_bind q1) (fun _ k => k.mono e1) fun t et q2 H2 u e2 r2 => by
    cases e : f s t with
    | stuck => rw [e] at q2; exact q2.elim
    | exc c => exact (k.hx s t c e).elim
    | ok w =>
      rw [e] at q2
      refine k.hr H2 s t v u _ w (r1.mono e2) r2 e fun H3 zz e3 r3 => ?_
      have q3 := Rz.P_bind (r := blB w) (show (((blB w).bind fun k => if k = true then (z ρ).bind fun c => g t c else .ok (.p (.bl false)))).P _ _ from q2)
      cases w with
      | p xx =>
        cases xx with
        | bl b =>
          refine ⟨b, r3, ?_⟩
          cases b with
          | true =>
            show tE C z σ H3 fun w' H4 => r' u w' H4 Q
            refine ⟨ρ, hs.mono (e1.trans (e2.trans e3)), Rz.P_mono (Rz.P_bind (show ((z ρ).bind fun c => g t c).P _ _ from q3)) (fun _ k => k.mono (e1.trans (e2.trans e3))) fun s3 es3 q4 H4 v4 e4 r4 => ?_⟩
            cases e5 : g t s3 with
            | stuck => rw [e5] at q4; exact q4.elim
            | exc c => exact (k'.hx t s3 c e5).elim
            | ok w2 =>
              rw [e5] at q4
              exact k'.hr H4 t s3 u v4 Q w2 ((r2.mono e3).mono e4) r4 e5 fun H5 z5 e6 r6 => q4 H5 z5 ((e1.trans (e2.trans e3)).trans (e4.trans e6)) r6
          | false => exact q3 H3 _ (e1.trans (e2.trans e3)) rfl
        | _ => exact q3.elim
      | _ => exact q3.elim⟩⟩
theorem e_ch {f g : Sv → Sv → Rz Sv} {r r' : R2} {op op' : CmpOp} {cc : Expr} (k : Cmp X op f r) (k' : Cmp X op' g r') (ha : PE X a (tE C x)) (hb : PE X b (tE C y)) (hc : PE X cc (tE C z)) (hm : lastMarks [op, op'] [b, cc] = false := by with_unfolding_all rfl) :
    PE X (.Compare a [op, op'] [b, cc] pos) (tE C (xCh f g x y z)) := imp (pe_chain k.ho k'.ho ha hb hc hm) (chain_r k k')
theorem t_ch {f g : Sv → Sv → Rz Sv} {r r' : R2} {op op' : CmpOp} {cc : Expr} (k : Cmp X op f r) (k' : Cmp X op' g r') (ha : PE X a (tE C x)) (hb : PE X b (tE C y)) (hc : PE X cc (tE C z)) (hm : lastMarks [op, op'] [b, cc] = false := by with_unfolding_all rfl) :
    PT X (.Compare a [op, op'] [b, cc] pos) (tT C (xTst blB (xCh f g x y z))) := impT (pt_chain k.ho k'.ho ha hb hc hm) fun σ H Q ⟨ρ, hs, q⟩ => by
  refine chain_r k k' σ H _ ⟨ρ, hs, ?_⟩
  refine Rz.P_mono (Rz.P_bind q) (fun _ k => k) fun s _ k H1 v e1 r1 => ?_
  cases s with
  | p x =>
    cases x with
    | bl b => exact ⟨b, r1, k H1 e1⟩
    | _ => exact k.elim
  | _ => exact k.elim
end
end Fw

namespace Fw
open PySem L2

theorem Rss1 {H : Hp} {s : Sv} {vs : List V} (h : Rss H [s] vs) : ∃ v, vs = [v] ∧ Rs H s v := by
  obtain ⟨v, r, rfl, h1, h2⟩ := h
  cases h2
  exact ⟨v, rfl, h1⟩
theorem Rss2 {H : Hp} {s t : Sv} {vs : List V} (h : Rss H [s, t] vs) : ∃ v u, vs = [v, u] ∧ Rs H s v ∧ Rs H t u := by
  obtain ⟨v, r, rfl, h1, u, r2, rfl, h2, h3⟩ := h
  cases h3
  exact ⟨v, u, rfl, h1, h2⟩
section
variable {X : Cx} {C : Cn} {x y z : XE} {c d : XT} {xs : XA} {a b e : Expr} {es : List Expr} {pos p : Pos}
theorem e_len (hg : Gl X "len") (hm : X.mg "len" = none) (ha : PE X a (tE C x)) (hst : starEach [a] X.env = [(false, eval a X.env)] := by rfl) : PE X (.Call (.Name "len" p) [a] [] pos) (tE C (xL lenD (xCons x xNil))) :=
  imp (pe_callB call_len_seq hg hm PySem.boot_len (a_cons ha a_nil hst) (he := hst)) (rzL (fun s k h => by unfold lenD at h; split at h <;> cases h) fun H ss vs Q w hr e q => by
    unfold lenD at e
    split at e
    · cases e
      obtain ⟨v, rfl, h1⟩ := Rss1 hr
      obtain ⟨a, vs, rfl, ha, hk⟩ := h1
      refine ⟨a, vs, rfl, .inr (.inl (.inl ha)), ?_⟩
      rw [hk.length]
      exact q H _ (Same.refl H) rfl
    · cases e
      obtain ⟨v, rfl, h1⟩ := Rss1 hr
      obtain ⟨a, vs, rfl, ha, hk⟩ := h1
      refine ⟨a, vs, rfl, .inl (.inl ha), ?_⟩
      rw [hk.length]
      exact q H _ (Same.refl H) rfl
    · cases e
      obtain ⟨v, rfl, h1⟩ := Rss1 hr
      obtain ⟨a, us, rfl, ha, _, hk⟩ := h1
      refine ⟨a, us, rfl, .inl (.inl (.inl ha)), ?_⟩
      rw [hk.length]
      exact q H _ (Same.refl H) rfl
    · cases e
      obtain ⟨v, rfl, h1⟩ := Rss1 hr
      obtain ⟨a, b, w, vs, rfl, ha, _⟩ := h1
      exact ⟨a, _, rfl, .inr (.inl (.inl ha)), q H _ (Same.refl H) rfl⟩
    · cases e)
theorem e_int1 (hg : Gl X "int") (hm : X.mg "int" = none) (ha : PE X a (tE C x)) (hst : starEach [a] X.env = [(false, eval a X.env)] := by rfl) : PE X (.Call (.Name "int" p) [a] [] pos) (tE C (xL intD (xCons x xNil))) :=
  imp (pe_callTy call_int1 hg hm PyProof.Rows.boot_int (a_cons ha a_nil hst) (he := hst)) (rzL (fun s k h => by unfold intD at h; split at h <;> cases h) fun H ss vs Q w hr e q => by
    unfold intD at e
    split at e
    · cases e
      obtain ⟨v, rfl, h1⟩ := Rss1 hr
      cases (rs_int h1)
      exact .inl ⟨_, rfl, q H _ (Same.refl H) rfl⟩
    · cases e
      obtain ⟨v, rfl, h1⟩ := Rss1 hr
      cases (show v = V.bl _ from h1)
      exact .inr ⟨_, rfl, q H _ (Same.refl H) rfl⟩
    · cases e)
theorem e_abs (hg : Gl X "abs") (hm : X.mg "abs" = none) (ha : PE X a (tE C x)) (hst : starEach [a] X.env = [(false, eval a X.env)] := by rfl) : PE X (.Call (.Name "abs" p) [a] [] pos) (tE C (xL absD (xCons x xNil))) :=
  imp (pe_callB call_abs hg hm PyProof.Rows.boot_abs (a_cons ha a_nil hst) (he := hst)) (rzL (fun s k h => by unfold absD at h; split at h <;> cases h) fun H ss vs Q w hr e q => by
    unfold absD at e
    split at e
    · cases e
      obtain ⟨v, rfl, h1⟩ := Rss1 hr
      cases (rs_int h1)
      exact ⟨_, rfl, q H _ (Same.refl H) rfl⟩
    · cases e)
theorem e_max2 (hc : X.calm = true) (hg : Gl X "max") (hm : X.mg "max" = none) (ha : PE X a (tE C x)) (hb : PE X b (tE C y)) (hst : starEach [a, b] X.env = (false, eval a X.env) :: starEach [b] X.env := by rfl) (hst2 : starEach [b] X.env = [(false, eval b X.env)] := by rfl)
    (hpl : (backTo pos (starEach [b] X.env)).any (·.1) = false := by rfl) : PE X (.Call (.Name "max" p) [a, b] [] pos) (tE C (xL maxD (xCons x (xCons y xNil)))) :=
  imp (pe_callB (call_max2 hc) hg hm PyProof.Rows.boot_max (a_cons ha (a_cons hb a_nil hst2) hst) (he := hst) (hpl := hpl)) (rzL (fun s k h => by unfold maxD at h; split at h <;> cases h) fun H ss vs Q w hr e q => by
    unfold maxD at e
    split at e
    · cases e
      obtain ⟨v, u, rfl, h1, h2⟩ := Rss2 hr
      cases (rs_int h1)
      cases (rs_int h2)
      exact ⟨_, _, rfl, q H _ (Same.refl H) rfl⟩
    · cases e)
theorem e_tuple (hg : Gl X "tuple") (hm : X.mg "tuple" = none) (ha : PE X a (tE C x)) (hst : starEach [a] X.env = [(false, eval a X.env)] := by rfl) : PE X (.Call (.Name "tuple" p) [a] [] pos) (tE C (xL tupleD (xCons x xNil))) :=
  imp (pe_callTy call_tuple_of hg hm PyProof.Rows.boot_tuple (a_cons ha a_nil hst) (he := hst)) (rzL (fun s k h => by unfold tupleD at h; split at h <;> cases h) fun H ss vs Q w hr e q => by
    unfold tupleD at e
    split at e
    · cases e
      obtain ⟨v, rfl, h1⟩ := Rss1 hr
      obtain ⟨a, vs, rfl, ha, hk⟩ := h1
      exact ⟨a, vs, rfl, .inr ⟨.inl (.inl ha), q H _ (Same.refl H) ⟨a, vs, rfl, ha, hk⟩⟩⟩
    · cases e
      obtain ⟨v, rfl, h1⟩ := Rss1 hr
      obtain ⟨a, vs, rfl, ha, hk⟩ := h1
      exact ⟨a, vs, rfl, .inl ⟨.inl ha, fun l hl => q _ _ (same_new hl) ⟨l, vs, rfl, upd_same, hk.mono (same_new hl)⟩⟩⟩
    · cases e)
theorem e_list (hg : Gl X "list") (hm : X.mg "list" = none) (ha : PE X a (tE C x)) (hst : starEach [a] X.env = [(false, eval a X.env)] := by rfl) : PE X (.Call (.Name "list" p) [a] [] pos) (tF C (xL listD (xCons x xNil))) :=
  imp (pe_callTy call_list_of hg hm PyProof.Rows.boot_list (a_cons ha a_nil hst) (he := hst)) (rzF (fun s k h => by unfold listD at h; split at h <;> cases h) fun H ss vs Q w hr e q => by
    unfold listD at e
    split at e
    · cases e
      obtain ⟨v, rfl, h1⟩ := Rss1 hr
      obtain ⟨a, vs, rfl, ha, hk⟩ := h1
      exact ⟨a, vs, rfl, .inr (.inl (.inl ha)), fun l hl => q _ _ (same_new hl) ⟨l, vs, rfl, upd_same, hk.mono (same_new hl)⟩ fun b ob => by
        cases (show V.ref l = V.ref b from ob)
        exact hl⟩
    · cases e
      obtain ⟨v, rfl, h1⟩ := Rss1 hr
      obtain ⟨a, vs, rfl, ha, hk⟩ := h1
      exact ⟨a, vs, rfl, .inl (.inl ha), fun l hl => q _ _ (same_new hl) ⟨l, vs, rfl, upd_same, hk.mono (same_new hl)⟩ fun b ob => by
        cases (show V.ref l = V.ref b from ob)
        exact hl⟩
    · cases e)
/-- isinstance(x, T), T a built-in class's name -/
def isD (T : String) (s : Sv) : Rz Sv := if noAdr s = true then .ok (.p (.bl (tyD s == T || (tyD s == "bool" && T == "int")))) else .stuck
structure TyN (T : String) : Prop where
  n1 : kitB "NoneType" T = some ("NoneType" == T || ("NoneType" == "bool" && T == "int"))
  n2 : kitB "bool" T = some ("bool" == T || ("bool" == "bool" && T == "int"))
  n3 : kitB "int" T = some ("int" == T || ("int" == "bool" && T == "int"))
  n4 : kitB "str" T = some ("str" == T || ("str" == "bool" && T == "int"))
  n5 : kitB "tuple" T = some ("tuple" == T || ("tuple" == "bool" && T == "int"))
  n6 : kitB "list" T = some ("list" == T || ("list" == "bool" && T == "int"))
  n7 : kitB "dict" T = some ("dict" == T || ("dict" == "bool" && T == "int"))
  bt : bootBuiltins (Str.ofString T) = some (.type T)
  nn : Str.ofString T ≠ "__name__"
  nd : (Str.ofString T == ("__debug__" : Str)) = false
theorem ty_tuple : TyN "tuple" := by constructor <;> decide +kernel
theorem ty_int : TyN "int" := by constructor <;> decide +kernel
theorem ty_bool : TyN "bool" := by constructor <;> decide +kernel
theorem ty_str : TyN "str" := by constructor <;> decide +kernel
theorem ty_list : TyN "list" := by constructor <;> decide +kernel
theorem TyN.kit {T : String} (t : TyN T) {K : PySem.W.Frag} (s : Sv) (hs : noAdr s = true) : PySem.W.kitOne K (.type (tyD s)) (.type T) = some (tyD s == T || (tyD s == "bool" && T == "int")) := by
  cases s with
  | p x =>
    cases x with
    | non => exact kit_ty t.n1
    | bl b => exact kit_ty t.n2
    | int b => exact kit_ty t.n3
    | str b => exact kit_ty t.n4
    | adr b => cases hs
    | tup b => exact kit_ty t.n5
  | l l => exact kit_ty t.n6
  | d l => exact kit_ty t.n7
  | ll l => exact kit_ty t.n6
  | pl l y => exact kit_ty t.n5
theorem e_isi {T : String} {p2 : Pos} (t : TyN T) (hg : Gl X "isinstance") (hm : X.mg "isinstance" = none) (hgT : Gl X (Str.ofString T)) (hmT : X.mg (Str.ofString T) = none) (ha : PE X a (tE C x))
    (hst : starEach [a, .Name (Str.ofString T) p2] X.env = (false, eval a X.env) :: starEach [.Name (Str.ofString T) p2] X.env := by rfl) :
    PE X (.Call (.Name "isinstance" p) [a, .Name (Str.ofString T) p2] [] pos) (tE C (xU (isD T) x)) :=
  imp (pe_callB call_isi hg hm PyProof.Rows.boot_isinstance (pa_cons ha (pa_cons (pe_bltn (v := .ty T) hgT hmT t.bt rfl t.nn t.nd) pa_nil) hst) (he := hst)) fun σ H Q ⟨ρ, hs, q⟩ =>
    ⟨ρ, hs, Rz.P_mono (Rz.P_bind q) (fun _ k => k) fun s _ k H1 v e1 r1 => by
      unfold isD at k
      split at k
      · rename_i hs
        exact ⟨v, .ty T, .type (tyD s), .type T, _, rfl, .ty T, r1.ty hs, t.kit s hs, k H1 _ e1 rfl⟩
      · exact k.elim⟩
/-! slices -/
def XO := En → Rz (Option Int)
def tO (C : Cn) (x : XO) : TO := fun σ H Q => ∃ ρ, Slots σ H ρ ∧ (x ρ).P (Ex C σ H) fun o => ∀ H', Same H H' → Q o H'
def intO : Sv → Rz (Option Int)
  | .p (.int i) => .ok (some i)
  | _ => .stuck
def oNo : XO := fun _ => .ok none
def oAt (x : XE) : XO := fun ρ => (x ρ).bind intO
theorem o_none : PO X none (tO C oNo) := ⟨fun pins s σ H Q I ⟨ρ, hs, q⟩ => po_none.run pins s σ H Q I (q H (Same.refl H))⟩
theorem o_some (ha : PE X a (tE C x)) : PO X (some a) (tO C (oAt x)) := ⟨fun pins s σ H Q I ⟨ρ, hs, q⟩ => (po_some ha).run pins s σ H Q I ⟨ρ, hs, Rz.P_mono (Rz.P_bind q) (fun _ k => k) fun s _ k H1 v e1 r1 => by
  unfold intO at k
  split at k
  · cases (rs_int r1)
    exact ⟨_, rfl, k H1 e1⟩
  · exact k.elim⟩⟩
def slD (s : Sv) (lo hi : Option Int) : Rz Sv := match s with
  | .p (.tup l) => .ok (.p (.tup (cutD l lo hi)))
  | _ => .stuck
def slL (s : Sv) (lo hi : Option Int) : Rz Sv := match s with
  | .l l => .ok (.l (cutD l lo hi))
  | _ => .stuck
def xSl (f : Sv → Option Int → Option Int → Rz Sv) (x : XE) (lo hi : XO) : XE := fun ρ => (x ρ).bind fun s => (lo ρ).bind fun l => (hi ρ).bind fun u => f s l u
theorem whole {xs : List Dt} {lo hi : Option Int} (h : HT.sIx xs.length 0 lo = 0 ∧ HT.sIx xs.length xs.length hi = xs.length) : cutD xs lo hi = xs := by
  unfold cutD
  rw [h.1, h.2]
  simp
theorem e_sl {lo hi : Option Expr} {l u : XO} {p2 : Pos} (he : PE X e (tE C x)) (hl : PO X lo (tO C l)) (hu : PO X hi (tO C u)) : PE X (.Subscript e (.Slice lo hi none p2) pos) (tE C (xSl slD x l u)) :=
  imp (pe_slice sl_tupA he hl hu) fun σ H Q ⟨ρ, hs, q⟩ => ⟨ρ, hs, Rz.P_mono (Rz.P_bind q) (fun _ k => k) fun s _ k H1 v e1 r1 =>
    ⟨ρ, hs.mono e1, Rz.P_mono (Rz.P_bind k) (fun _ k => k.mono e1) fun lo _ k2 H2 e2 => ⟨ρ, hs.mono (e1.trans e2), Rz.P_mono (Rz.P_bind k2) (fun _ k => k.mono (e1.trans e2)) fun hi _ k3 H3 e3 => by
      unfold slD at k3
      split at k3
      · rename_i xs
        obtain ⟨a, vs, rfl, ha, hk⟩ := (r1.mono e2).mono e3
        refine ⟨a, vs, rfl, .inl (.inl ha), fun hw => ?_, fun _ p hp => ?_⟩
        · rw [hk.length] at hw
          exact k3 H3 _ (e1.trans (e2.trans e3)) (by rw [whole hw]; exact ⟨a, vs, rfl, ha, hk⟩)
        · exact k3 _ _ ((e1.trans (e2.trans e3)).trans (same_new hp)) ⟨p, _, rfl, upd_same, (hk.cut lo hi).mono (same_new hp)⟩
      · exact k3.elim⟩⟩⟩
theorem e_slL {lo hi : Option Expr} {l u : XO} {p2 : Pos} (he : PE X e (tE C x)) (hl : PO X lo (tO C l)) (hu : PO X hi (tO C u)) : PE X (.Subscript e (.Slice lo hi none p2) pos) (tF C (xSl slL x l u)) :=
  imp (pe_slice sl_list he hl hu) fun σ H Q ⟨ρ, hs, q⟩ => ⟨ρ, hs, Rz.P_mono (Rz.P_bind q) (fun _ k => k) fun s _ k H1 v e1 r1 =>
    ⟨ρ, hs.mono e1, Rz.P_mono (Rz.P_bind k) (fun _ k => k.mono e1) fun lo _ k2 H2 e2 => ⟨ρ, hs.mono (e1.trans e2), Rz.P_mono (Rz.P_bind k2) (fun _ k => k.mono (e1.trans e2)) fun hi _ k3 H3 e3 => by
      unfold slL at k3
      split at k3
      · rename_i xs
        obtain ⟨a, vs, rfl, ha, hk⟩ := (r1.mono e2).mono e3
        refine ⟨a, vs, rfl, .inl ha, fun p hp => ?_⟩
        have ee := e1.trans (e2.trans e3)
        exact k3 _ _ (ee.trans (same_new hp)) ⟨p, _, rfl, upd_same, (hk.cut lo hi).mono (same_new hp)⟩ fun b ob => by
          cases (show V.ref p = V.ref b from ob)
          exact ee.free hp
      · exact k3.elim⟩⟩⟩

/-! ### calls of defs -/
/-- what a def promises: the mirror m's answer -/
def spM (cl : Nat → Addr) (n : Nat) (m : List Sv → Rz Sv) : Sp := fun vs H Q E => ∃ ss, ss.length = n ∧ Rss H ss vs ∧ (m ss).P (fun c => ∀ H', Same H H' → E (.ref (cl c)) none H') fun s => ∀ H' v, Same H H' → Ro H' s v → (∀ a, Oc H' s v a → H a = none) → Q v H'
def chk (n : Nat) (m : List Sv → Rz Sv) (ss : List Sv) : Rz Sv := if ss.length = n then m ss else .stuck
theorem e_call {k : Nat} {f : Addr} {fd : FuncData} {ps : List Str} {n : Nat} {m : List Sv → Rz Sv} {nm : Str} (F : FnOk X.prog X.w X.K X.mg X.base (L2.CX X.prog X.w) k f fd ps (spM C.cl n m)) (hr : Room k X.A) (hg : Gl X nm) (hm : X.mg nm = some (.ref f)) (hk : PySem.W.keepIn X.K (.ref f) = true)
    (hb : Binds X.K fd ps []) (tk : Takes X C.W) (ha : PA X (e :: es) (tA C xs)) (hdb : (nm == ("__debug__" : Str)) = false := by decide) (he : starEach (e :: es) X.env = (false, eval e X.env) :: starEach es X.env := by rfl) (hpl : (backTo pos (starEach es X.env)).any (·.1) = false := by rfl) :
    PE X (.Call (.Name nm p) (e :: es) [] pos) (tF C (xL (chk n m) xs)) :=
  imp (pe_callS F hr hg hm hk hb (fun σ => passAt tk σ) ha hdb he hpl) fun σ H Q ⟨ρ, hs, q⟩ => ⟨ρ, hs, Rz.P_mono (Rz.P_bind q) (fun _ k => k) fun ss _ k H1 vs e1 r1 => by
    unfold chk at k
    split at k
    · rename_i hl
      exact ⟨ss, hl, r1, Rz.P_mono k (fun c kc H' e2 => kc H' (e1.trans e2)) fun s _ kq H' v e2 ro oc => kq H' v (e1.trans e2) ro fun a oa => e1.free (oc a oa)⟩
    · exact k.elim⟩
/-- .. where nothing may be raised -/
def noX (m : List Sv → Rz Sv) (ss : List Sv) : Rz Sv := match m ss with
  | .ok s => .ok s
  | _ => .stuck
theorem e_callN {k : Nat} {f : Addr} {fd : FuncData} {ps : List Str} {n : Nat} {cl : Nat → Addr} {m : List Sv → Rz Sv} {nm : Str} (F : FnOk X.prog X.w X.K X.mg X.base (L2.CX X.prog X.w) k f fd ps (spM cl n m)) (hr : Room k X.A) (hg : Gl X nm) (hm : X.mg nm = some (.ref f)) (hk : PySem.W.keepIn X.K (.ref f) = true)
    (hb : Binds X.K fd ps []) (ha : PA X (e :: es) (tA C xs)) (hdb : (nm == ("__debug__" : Str)) = false := by decide) (he : starEach (e :: es) X.env = (false, eval e X.env) :: starEach es X.env := by rfl) (hpl : (backTo pos (starEach es X.env)).any (·.1) = false := by rfl) :
    PE X (.Call (.Name nm p) (e :: es) [] pos) (tF C (xL (chk n (noX m)) xs)) :=
  imp (pe_call F hr hg hm hk hb .nil passL ha hdb he hpl) fun σ H Q ⟨ρ, hs, q⟩ => ⟨ρ, hs, Rz.P_mono (Rz.P_bind q) (fun _ k => k) fun ss _ k H1 vs e1 r1 => by
    unfold chk noX at k
    split at k
    · rename_i hl
      show spM cl n m (vs ++ []) H1 Q E0
      rw [List.append_nil]
      refine ⟨ss, hl, r1, ?_⟩
      cases em : m ss with
      | stuck => rw [em] at k; exact k.elim
      | exc c => rw [em] at k; exact k.elim
      | ok s =>
        rw [em] at k
        exact fun H' v e2 ro oc => k H' v (e1.trans e2) ro fun a oa => e1.free (oc a oa)
    · exact k.elim⟩
end
end Fw

namespace Fw
open PySem L2

/-! ### what a loop goes over -/
structure WalkD (J : It) (xs : List Dt) (L : Addr → Prop) (H0 : Hp) : Prop where
  run : ∀ H, Tx H0 H → (∀ a o, L a → H0 a = some o → H a = some o) → (∀ i x, xs[i]? = some x → J.go i H ∧ ∀ v H', J.yld i H v H' → Same H H' ∧ Rp H' x v) ∧ J.stop xs.length H
abbrev XI := En → Rz (List Dt)
def LP (ρ : En) (σ : St) (H : Hp) (a : Addr) : Prop := ∃ (i : Nat) (s : Sv) (v : V), ρ[i]? = some (some (.v s)) ∧ σ[i]? = some (some v) ∧ Oc H s v a
def tI (C : Cn) (src : XI) : TI := fun σ H R => ∃ ρ, Slots σ H ρ ∧ (src ρ).P (Ex C σ H) fun xs => ∀ J L H', Same H H' → WalkD J xs L H' → (∀ a, L a → LP ρ σ H' a ∨ H a = none) → R J H'
theorem walk_tupD {K : PySem.W.Frag} {a : Addr} {xs : List Dt} {vs : List V} {H0 : Hp} (ha : H0 a = some (.tup vs)) (hr : Rps H0 xs vs) : WalkD (Itt K a) xs (fun _ => False) H0 := by
  refine ⟨fun H tx _ => ⟨fun i x hi => ?_, ?_⟩⟩
  · have h1 := tx a _ ha
    obtain ⟨v, hv, rv⟩ := hr.get hi
    refine ⟨⟨vs, v, .inl (.inl h1), hv⟩, fun u H' y => ?_⟩
    obtain ⟨rfl, y⟩ := y
    have e2 := y vs (.inl (.inl h1))
    rw [hv] at e2
    cases e2
    exact ⟨Same.refl _, rv.tx tx⟩
  · exact ⟨vs, .inl (.inl (tx a _ ha)), by rw [hr.length]; exact Nat.le_refl _⟩
theorem walk_lstD {K : PySem.W.Frag} {a : Addr} {xs : List Dt} {vs : List V} {H0 : Hp} (ha : Rd H0 a (.lst vs)) (hr : Rps H0 xs vs) : WalkD (Itl K a) xs (fun b => b = a) H0 := by
  refine ⟨fun H tx hl => ?_⟩
  have h1 : Rd H a (.lst vs) := by
    rcases ha with h | ⟨o, h⟩
    · exact .inl (hl a _ rfl h)
    · exact .inr ⟨o, hl a _ rfl h⟩
  refine ⟨fun i x hi => ?_, ?_⟩
  · obtain ⟨v, hv, rv⟩ := hr.get hi
    refine ⟨⟨vs, v, .inl h1, hv⟩, fun u H' y => ?_⟩
    obtain ⟨rfl, y⟩ := y
    have e2 := y vs (.inl h1)
    rw [hv] at e2
    cases e2
    exact ⟨Same.refl _, rv.tx tx⟩
  · exact ⟨vs, .inl h1, by rw [hr.length]; exact Nat.le_refl _⟩
theorem walk_rngD {lo : Int} {n : Nat} {H0 : Hp} : WalkD (Itr lo n) ((List.range n).map fun (i : Nat) => Dt.int (lo + (i : Int))) (fun _ => False) H0 := by
  refine ⟨fun H tx _ => ⟨fun i x hi => ?_, ?_⟩⟩
  · rw [List.getElem?_map] at hi
    cases e : (List.range n)[i]? with
    | none => rw [e] at hi; cases hi
    | some j =>
      rw [e] at hi
      cases hi
      obtain ⟨h1, h2⟩ := List.getElem?_eq_some_iff.mp e
      rw [List.getElem_range] at h2
      subst h2
      rw [List.length_range] at h1
      refine ⟨h1, fun v H' y => ?_⟩
      obtain ⟨rfl, rfl⟩ := y
      exact ⟨Same.refl _, rfl⟩
  · show n ≤ _
    rw [List.length_map, List.length_range]
    exact Nat.le_refl _
def tupI : Sv → Rz (List Dt)
  | .p (.tup l) => .ok l
  | _ => .stuck
def lstI : Sv → Rz (List Dt)
  | .l l => .ok l
  | _ => .stuck
def srcT (x : XE) : XI := fun ρ => (x ρ).bind tupI
def srcL (x : XE) : XI := fun ρ => (x ρ).bind lstI
def srcV (i : Nat) : XI := fun ρ => match ρ[i]? with
  | some (some (.v (.l xs))) => .ok xs
  | some (some (.v (.p (.tup xs)))) => .ok xs
  | some (some (.o (.p (.tup xs)))) => .ok xs
  | _ => .stuck
def rngI (a b : Sv) : Rz (List Dt) := match a, b with
  | .p (.int lo), .p (.int hi) => if -1000000000 ≤ lo ∧ hi ≤ 1000000000 ∧ lo ≤ 1000000000 ∧ -1000000000 ≤ hi ∧ hi - lo ≤ 1000000 then .ok ((List.range (hi - lo).toNat).map fun (i : Nat) => Dt.int (lo + (i : Int))) else .stuck
  | _, _ => .stuck
theorem rngI_ok {s t : Sv} {xs : List Dt} (h : rngI s t = .ok xs) : ∃ lo hi, s = .p (.int lo) ∧ t = .p (.int hi) ∧ (-1000000000 ≤ lo ∧ hi ≤ 1000000000 ∧ lo ≤ 1000000000 ∧ -1000000000 ≤ hi ∧ hi - lo ≤ 1000000) ∧ xs = (List.range (hi - lo).toNat).map fun (i : Nat) => Dt.int (lo + (i : Int)) := by
  unfold rngI at h
  split at h
  · split at h
    · rename_i hb
      cases h
      exact ⟨_, _, rfl, rfl, hb, rfl⟩
    · cases h
  · cases h
theorem rngI_x {s t : Sv} {c : Nat} : rngI s t ≠ .exc c := fun h => by
  unfold rngI at h
  split at h
  · split at h <;> cases h
  · cases h
def srcR1 (x : XE) : XI := fun ρ => (x ρ).bind fun s => rngI (.p (.int 0)) s
def srcR2 (x y : XE) : XI := fun ρ => (x ρ).bind fun s => (y ρ).bind fun t => rngI s t
theorem PIor {X : Cx} {tg iter : Expr} {w w' : TI} (h : PI X tg iter w) (h' : PI X tg iter w') : PI X tg iter (fun σ H R => w σ H R ∨ w' σ H R) := ⟨fun pins s σ H R I q => q.elim (h.run pins s σ H R I) (h'.run pins s σ H R I)⟩
theorem PIimp {X : Cx} {tg iter : Expr} {w w' : TI} (h : PI X tg iter w) (k : ∀ σ H R, w' σ H R → w σ H R) : PI X tg iter w' := ⟨fun pins s σ H R I q => h.run pins s σ H R I (k σ H R q)⟩
section
variable {X : Cx} {C : Cn} {x y z : XE} {c d : XT} {xs : XA} {a b e tg : Expr} {es : List Expr} {pos p : Pos}
theorem i_tup (h : PE X e (tE C x)) : PI X tg e (tI C (srcT x)) := PIimp (pi_tup h) fun σ H R ⟨ρ, hs, q⟩ => ⟨ρ, hs, Rz.P_mono (Rz.P_bind q) (fun _ k => k) fun s _ k H1 v e1 r1 => by
  unfold tupI at k
  split at k
  · obtain ⟨a, vs, rfl, ha, hr⟩ := r1
    exact ⟨a, rfl, ⟨vs, .inl (.inl ha)⟩, k _ _ H1 e1 (walk_tupD ha hr) fun _ z => z.elim⟩
  · exact k.elim⟩
theorem i_lst (h : PE X e (tF C x)) : PI X tg e (tI C (srcL x)) := PIimp (pi_list h) fun σ H R ⟨ρ, hs, q⟩ => ⟨ρ, hs, Rz.P_mono (Rz.P_bind q) (fun _ k => k) fun s _ k H1 v e1 r1 oc => by
  unfold lstI at k
  split at k
  · obtain ⟨a, vs, rfl, ha, hr⟩ := r1
    exact ⟨a, rfl, ⟨vs, .inl (.inl ha)⟩, k _ _ H1 e1 (walk_lstD (.inl ha) hr) fun b z => .inr (oc b (by rw [z]; rfl))⟩
  · exact k.elim⟩
theorem i_var (i : Nat) {n : Str} (hN : X.N[i]? = some n := by rfl) (hv : Vis X.env.scope n := by first | exact Or.inl rfl | exact Or.inr (Or.inl rfl) | exact Or.inr (Or.inr rfl)) (hd : (n == ("__debug__" : Str)) = false := by decide)
    (hcd : (n == ("__classdict__" : Str)) = false := by decide) : PI X tg (.Name n pos) (tI C (srcV i)) := PIimp (PIor (pi_list (pv i hN hv hd hcd)) (pi_tup (pv i hN hv hd hcd))) fun σ H R ⟨ρ, hs, q⟩ => by
  unfold srcV at q
  split at q
  · rename_i xs h
    obtain ⟨v, h1, a, vs, rfl, ha, hr⟩ := hs.get i _ h
    exact .inl ⟨_, h1, a, rfl, ⟨vs, .inl ha⟩, q _ _ H (Same.refl H) (walk_lstD ha hr) fun b z => .inl ⟨i, .l xs, _, h, h1, by rw [z]; rfl⟩⟩
  · rename_i xs h
    obtain ⟨v, h1, a, vs, rfl, ha, hr⟩ := hs.get i _ h
    exact .inr ⟨_, h1, a, rfl, ⟨vs, .inl (.inl ha)⟩, q _ _ H (Same.refl H) (walk_tupD ha hr) fun b z => z.elim⟩
  · rename_i xs h
    obtain ⟨v, h1, a, vs, rfl, ha, hr⟩ := hs.get i _ h
    exact .inr ⟨_, h1, a, rfl, ⟨vs, .inl (.inl ha)⟩, q _ _ H (Same.refl H) (walk_tupD ha hr) fun b z => z.elim⟩
  · exact q.elim
theorem i_rng1 (hg : Gl X "range") (hm : X.mg "range" = none) (ha : PE X a (tE C x)) (hst : starEach [a] X.env = [(false, eval a X.env)] := by rfl) : PI X tg (.Call (.Name "range" p) [a] [] pos) (tI C (srcR1 x)) :=
  PIimp (pi_range1 hg hm (pa_cons ha pa_nil hst) hst) fun σ H R ⟨ρ, hs, q⟩ => ⟨ρ, hs, Rz.P_mono (Rz.P_bind q) (fun _ k => k) fun s _ k H1 v e1 r1 => by
    unfold rngI at k
    split at k
    · rename_i lo hi e2 e3
      cases e2
      split at k
      · rename_i hb
        cases (rs_int r1)
        have k2 := k (Itr 0 hi.toNat) (fun _ => False) H1 e1 (by have e4 : (hi - 0).toNat = hi.toNat := by rw [Int.sub_zero]
                                                                 rw [e4]; exact walk_rngD) fun _ z => z.elim
        exact ⟨hi, rfl, by omega, by omega, k2⟩
      · exact k.elim
    · exact k.elim⟩
theorem i_rng2 (hg : Gl X "range") (hm : X.mg "range" = none) (ha : PE X a (tE C x)) (hb : PE X b (tE C y)) (hst : starEach [a, b] X.env = [(false, eval a X.env), (false, eval b X.env)] := by rfl) (hst2 : starEach [b] X.env = [(false, eval b X.env)] := by rfl) :
    PI X tg (.Call (.Name "range" p) [a, b] [] pos) (tI C (srcR2 x y)) :=
  PIimp (pi_range2 hg hm (pa_cons ha (pa_cons hb pa_nil hst2) (by rw [hst, hst2])) hst hst2) fun σ H R ⟨ρ, hs, q⟩ => ⟨ρ, hs, Rz.P_mono (Rz.P_bind q) (fun _ k => k) fun s _ k1 H1 v e1 r1 => ⟨ρ, hs.mono e1, Rz.P_mono (Rz.P_bind k1) (fun _ k => k.mono e1) fun t _ k2 H2 u e2 r2 => by
    clear k1 q
    cases hst : rngI s t with
    | stuck => rw [hst] at k2; exact k2.elim
    | exc c => exact (rngI_x hst).elim
    | ok xs =>
      rw [hst] at k2
      obtain ⟨lo, hi, rfl, rfl, hb, rfl⟩ := rngI_ok hst
      cases (rs_int r1)
      cases (rs_int r2)
      exact ⟨lo, hi, rfl, by omega, k2 (Itr lo (hi - lo).toNat) (fun _ => False) H2 (e1.trans e2) walk_rngD fun _ z => z.elim⟩⟩⟩

/-! ### targets -/
abbrev Tg := Dt → En → Rz En
def setV (i : Nat) (x : Dt) (ρ : En) : En := ρ.set i (some (.v (.p x)))
def tgN (i : Nat) : Tg := fun x ρ => .ok (setV i x ρ)
def setVs : List Nat → List Dt → En → En
  | i :: is, x :: xs, ρ => setVs is xs (setV i x ρ)
  | _, _, ρ => ρ
def tgT (is : List Nat) : Tg := fun x ρ => match x with
  | .tup l => if l.length = is.length then .ok (setVs is l ρ) else .stuck
  | _ => .stuck
/-- a comprehension's own names forgotten -/
def wipeE (ρ : En) : List Nat → En
  | [] => ρ
  | v :: vs => (wipeE ρ vs).set v none
theorem wipeE_some {ρ : En} {i : Nat} {x : Sl} : ∀ {vs : List Nat}, (wipeE ρ vs)[i]? = some (some x) → ρ[i]? = some (some x) ∧ i ∉ vs
  | [], h => ⟨h, by simp⟩
  | v :: vs, h => by
    unfold wipeE at h
    by_cases hi : v = i
    · subst hi
      by_cases hv : v < (wipeE ρ vs).length
      · rw [List.getElem?_set_self hv] at h; cases h
      · rw [List.getElem?_eq_none (by simpa using hv)] at h; cases h
    · rw [List.getElem?_set_ne hi] at h
      obtain ⟨h1, h2⟩ := wipeE_some h
      exact ⟨h1, by simp only [List.mem_cons, not_or]; exact ⟨fun e => hi e.symm, h2⟩⟩
theorem wipe_out' {σ : St} {i : Nat} : ∀ {vs : List Nat}, i ∉ vs → (wipe σ vs)[i]? = σ[i]?
  | [], _ => rfl
  | v :: vs, h => by
    unfold wipe
    rw [List.getElem?_set_ne (fun e => h (by rw [e]; exact List.mem_cons_self)), wipe_out' (fun z => h (List.mem_cons_of_mem _ z))]
theorem wipe_in {σ : St} {i : Nat} : ∀ {vs : List Nat}, i ∈ vs → i < σ.length → (wipe σ vs)[i]? = some none
  | v :: vs, h, hl => by
    unfold wipe
    by_cases e : v = i
    · subst e
      exact List.getElem?_set_self (by rw [wipe_length]; exact hl)
    · rw [List.getElem?_set_ne e]
      exact wipe_in (by cases h with | head => exact absurd rfl e | tail _ h => exact h) hl
theorem wipe_ext {σ τ : St} {vs : List Nat} (hl : σ.length = τ.length) (h : ∀ i, i ∉ vs → σ[i]? = τ[i]?) : wipe σ vs = wipe τ vs := by
  apply List.ext_getElem?
  intro i
  by_cases hi : i ∈ vs
  · by_cases hlt : i < σ.length
    · rw [wipe_in hi hlt, wipe_in hi (hl ▸ hlt)]
    · rw [List.getElem?_eq_none (by rw [wipe_length]; omega), List.getElem?_eq_none (by rw [wipe_length]; omega)]
  · rw [wipe_out' hi, wipe_out' hi]
    exact h i hi
theorem wipe_set {σ : St} {vs : List Nat} {j : Nat} {x : Option V} (hj : j ∈ vs) : wipe (σ.set j x) vs = wipe σ vs :=
  wipe_ext (by simp) fun i hi => List.getElem?_set_ne (fun e => hi (by rw [← e]; exact hj))
theorem wipe_idem {σ : St} {vs : List Nat} : wipe (wipe σ vs) vs = wipe σ vs := wipe_ext (wipe_length σ vs) fun i hi => wipe_out' hi
theorem wipeE_len {ρ : En} : ∀ vs : List Nat, (wipeE ρ vs).length = ρ.length
  | [] => rfl
  | v :: vs => by unfold wipeE; rw [List.length_set, wipeE_len vs]
theorem Slots.wipe {σ : St} {H : Hp} {ρ : En} (h : Slots σ H ρ) (vs : List Nat) : Slots (L2.wipe σ vs) H (wipeE ρ vs) := ⟨by rw [wipe_length, wipeE_len]; exact h.len, fun i sl q => by
  obtain ⟨q1, q2⟩ := wipeE_some q
  obtain ⟨v, h1, h2⟩ := h.get i sl q1
  exact ⟨v, by rw [wipe_out' q2]; exact h1, h2⟩⟩
theorem Slots.setV {σ : St} {H : Hp} {ρ : En} (h : Slots σ H ρ) {i : Nat} {x : Dt} {v : V} (r : Rp H x v) : Slots (σ.set i (some v)) H (setV i x ρ) := ⟨by unfold Fw.setV; simpa using h.len, fun j sl q => by
  unfold Fw.setV at q
  by_cases e : i = j
  · subst e
    by_cases hi : i < ρ.length
    · rw [List.getElem?_set_self hi] at q
      cases q
      exact ⟨v, List.getElem?_set_self (h.len ▸ hi), r⟩
    · rw [List.getElem?_eq_none (by simpa using hi)] at q
      cases q
  · rw [List.getElem?_set_ne e] at q
    obtain ⟨u, h1, h2⟩ := h.get j sl q
    exact ⟨u, by rw [List.getElem?_set_ne e]; exact h1, h2⟩⟩
/-- a target within a comprehension -/
def tGc (tg : Tg) (vs : List Nat) : TG := fun v σ H Q => ∃ ρ x, Slots σ H ρ ∧ Rp H x v ∧ (tg x ρ).P (fun _ => False) fun ρ' => ∀ σ', Slots σ' H ρ' → L2.wipe σ' vs = L2.wipe σ vs → Q σ' H
theorem PG.imp {X : Cx} {t : Expr} {g g' : TG} (h : PG X t g) (k : ∀ v σ H Q, g' v σ H Q → g v σ H Q) : PG X t g' := ⟨fun pins s σ H v u Q I r q => h.run pins s σ H v u Q I r (k v σ H Q q)⟩
theorem gc_name {i : Nat} {n : Str} {vs : List Nat} (hi : i ∈ vs) (h : PG X (.Name n pos) (gName i)) : PG X (.Name n pos) (tGc (tgN i) vs) := PG.imp h fun v σ H Q ⟨ρ, x, hs, r, q⟩ => q _ (hs.setV r) (wipe_set hi)
/-- names of a tuple target -/
def gNames : List Nat → TGs
  | [] => gNil
  | i :: is => gCons (gName i) (gNames is)
theorem gc_names {vs : List Nat} : ∀ {is : List Nat} {l : List Dt} {us : List V} {ρ : En} {σ : St} {H : Hp} {Q : St → Hp → Prop}, (∀ i ∈ is, i ∈ vs) → l.length = is.length → Slots σ H ρ → Rps H l us →
    (∀ σ', Slots σ' H (setVs is l ρ) → L2.wipe σ' vs = L2.wipe σ vs → Q σ' H) → gNames is us σ H Q
  | [], [], _, ρ, σ, H, Q, hi, hl, hs, r, q => ⟨r, q σ hs rfl⟩
  | i :: is, [], _, ρ, σ, H, Q, hi, hl, hs, r, q => by cases hl
  | [], _ :: _, _, ρ, σ, H, Q, hi, hl, hs, r, q => by cases hl
  | i :: is, x :: l, _, ρ, σ, H, Q, hi, hl, hs, r, q => by
    obtain ⟨v, r', rfl, h1, h2⟩ := r
    refine ⟨v, r', rfl, ?_⟩
    show gNames is r' (σ.set i (some v)) H Q
    refine gc_names (vs := vs) (ρ := setV i x ρ) (l := l) (fun j hj => hi j (List.mem_cons_of_mem _ hj)) (by simpa using hl) (hs.setV h1) h2 fun σ' s' w' => q σ' s' (w'.trans (wipe_set (hi i List.mem_cons_self)))
theorem gc_tup {n : Nat} {is : List Nat} {vs : List Nat} {t : Expr} (hn : n = is.length) (hi : ∀ i ∈ is, i ∈ vs) (h : PG X t (gTup X.K n (gNames is))) : PG X t (tGc (tgT is) vs) := PG.imp h fun v σ H Q ⟨ρ, x, hs, r, q⟩ => by
  unfold tgT at q
  split at q
  · split at q
    · rename_i l hl2
      obtain ⟨a, us, rfl, ha, hr⟩ := r
      exact ⟨a, us, rfl, .inl (.inl ha), by rw [hr.length, hn]; exact hl2, gc_names hi hl2 hs hr q⟩
    · exact q.elim
  · exact q.elim

/-! ### list comprehensions -/
def dtD : Sv → Rz Dt
  | .p x => .ok x
  | _ => .stuck
def lcD (tg : Tg) (t : XT) (el : XE) : List Dt → En → Rz (List Dt)
  | [], _ => .ok []
  | x :: xs, ρ => (tg x ρ).bind fun ρ1 => (t ρ1).bind fun b => if b = true then (el ρ1).bind fun s => (dtD s).bind fun y => (lcD tg t el xs ρ).bind fun r => .ok (y :: r) else lcD tg t el xs ρ
def lcR (r : Rz (List Dt)) : Rz Sv := match r with
  | .ok xs => if xs.length ≤ 1000000 then .ok (.l xs) else .stuck
  | _ => .stuck
def xLc (src : XI) (tg : Tg) (t : XT) (el : XE) (vs : List Nat) : XE := fun ρ => (src ρ).bind fun xs => lcR (lcD tg t el xs (wipeE ρ vs))
def tYesD : XT := fun _ => .ok true
def Cn.no (C : Cn) : Cn := ⟨fun _ _ _ _ => False, C.cl⟩
theorem ts_nil : PTs X [] (tT C tYesD) := ⟨fun pins s σ H Q I ⟨ρ, hs, q⟩ => pts_nil.run pins s σ H Q I (q H (Same.refl H))⟩
theorem ts_one {cc : Expr} (h : PT X cc (tT C c)) : PTs X [cc] (tT C c) := pts_one h
theorem okP {α : Type} {r : Rz α} {σ : St} {H : Hp} {C : Cn} {Q : α → Prop} {a : α} (h : r = .ok a) (q : Q a) : r.P (Ex C σ H) Q := by
  rw [h]
  exact q
theorem lc_read {src : XI} {tg : Tg} {t : XT} {el : XE} {vs : List Nat} :
    ∀ σ H Q, tF C (xLc src tg t el vs) σ H Q → tLc (tI C src) (tGc tg vs) (tT C.no t) (tE C.no el) vs σ H Q := fun σ H Q ⟨ρ, hs, q⟩ => by
  refine ⟨ρ, hs, Rz.P_mono (Rz.P_bind q) (fun _ k => k) fun xs _ k J L H1 e1 wd lp D hD => ?_⟩
  cases hr : lcD tg t el xs (wipeE ρ vs) with
  | stuck => rw [hr] at k; exact k.elim
  | exc c => rw [hr] at k; exact k.elim
  | ok full =>
    rw [hr] at k
    unfold lcR at k
    simp only at k
    split at k
    · rename_i hfl
      refine ⟨fun i m H' => i ≤ xs.length ∧ m = xs.length - i ∧ Same H1 H' ∧ ∃ acc us r, H' D = some (.lst us) ∧ Rps H' acc us ∧ lcD tg t el (xs.drop i) (wipeE ρ vs) = .ok r ∧ acc ++ r = full, ⟨xs.length, Nat.zero_le _, by simp, same_new hD, [], [], full, upd_same, rfl, by simpa using hr, rfl⟩, ?_⟩
      rintro i m H2 ⟨hi, rfl, e2, acc, us, r, hD2, ra, hr2, hf⟩
      obtain ⟨w1, w2⟩ := wd.run H2 (Same.tx e2) fun a o _ h => e2 a o h
      by_cases hlt : i < xs.length
      · have hx : xs[i]? = some xs[i] := by simp [hlt]
        obtain ⟨go, yd⟩ := w1 i _ hx
        refine .inr ⟨go, fun H' => i + 1 ≤ xs.length ∧ Same H1 H' ∧ ∃ acc us r, H' D = some (.lst us) ∧ Rps H' acc us ∧ lcD tg t el (xs.drop (i + 1)) (wipeE ρ vs) = .ok r ∧ acc ++ r = full, fun H' ⟨a1, a2, a3⟩ => ⟨xs.length - (i + 1), by omega, a1, rfl, a2, a3⟩, fun v H3 y => ?_⟩
        obtain ⟨e3, rv⟩ := yd v H3 y
        have ed : xs.drop i = xs[i] :: xs.drop (i + 1) := (List.drop_eq_getElem_cons hlt)
        rw [ed] at hr2
        show tGc tg vs v (wipe σ vs) H3 _
        have e13 := e2.trans e3
        refine ⟨wipeE ρ vs, xs[i], ((hs.mono e1).mono e13).wipe vs, rv, ?_⟩
        · unfold lcD at hr2
          cases eg : tg xs[i] (wipeE ρ vs) with
          | stuck => rw [eg] at hr2; cases hr2
          | exc c => rw [eg] at hr2; cases hr2
          | ok ρ1 =>
            rw [eg] at hr2
            simp only [Rz.bind_ok] at hr2
            intro σ2 hs2 hw2
            rw [wipe_idem] at hw2
            refine ⟨hw2, ρ1, hs2, ?_⟩
            cases et : t ρ1 with
            | stuck => rw [et] at hr2; cases hr2
            | exc c => rw [et] at hr2; cases hr2
            | ok b =>
              rw [et] at hr2
              simp only [Rz.bind_ok] at hr2
              intro H4 e4
              cases b with
              | true =>
                simp only [if_true] at hr2 ⊢
                cases ee : el ρ1 with
                | stuck => rw [ee] at hr2; cases hr2
                | exc c => rw [ee] at hr2; cases hr2
                | ok s =>
                  rw [ee] at hr2
                  simp only [Rz.bind_ok] at hr2
                  cases s with
                  | l _ => cases hr2
                  | d _ => cases hr2
                  | ll _ => cases hr2
                  | pl _ _ => cases hr2
                  | p yv =>
                    simp only [dtD, Rz.bind_ok] at hr2
                    cases er : lcD tg t el (xs.drop (i + 1)) (wipeE ρ vs) with
                    | stuck => rw [er] at hr2; cases hr2
                    | exc c => rw [er] at hr2; cases hr2
                    | ok r' =>
                      rw [er] at hr2
                      cases hr2
                      refine ⟨ρ1, hs2.mono e4, ?_⟩
                      rw [ee]
                      intro H5 w e5 rw5
                      have hD5 := e5 D _ (e4 D _ (e3 D _ hD2))
                      refine ⟨us, hD5, ?_, hlt, ?_, acc ++ [yv], us ++ [w], r', upd_same, ?_, rfl, by rw [← hf]; simp⟩
                      · have l1 := ra.length
                        have l2 : (acc ++ yv :: r').length = full.length := congrArg _ hf
                        rw [List.length_append, List.length_cons] at l2
                        exact Nat.lt_of_lt_of_le (show us.length < 1000000 by omega) (by decide)
                      · intro b o hb
                        have hbD : b ≠ D := ne_of_none hb hD
                        rw [upd_ne hbD]
                        exact e5 b o (e4 b o (e3 b o (e2 b o hb)))
                      · have tx : Tx H5 (upd H5 D (.lst (us ++ [w]))) := fun b ys hb => by
                          have hbD : b ≠ D := fun z => by rw [z, hD5] at hb; cases hb
                          rw [upd_ne hbD]
                          exact hb
                        exact (((ra.mono e3).mono e4).mono e5).tx tx |>.append (Rps.one (Rp.tx tx rw5))
              | false =>
                simp only [Bool.false_eq_true, if_false] at hr2 ⊢
                exact ⟨hlt, (e2.trans e3).trans e4, acc, us, r, e4 D _ (e3 D _ hD2), (ra.mono e3).mono e4, hr2, hf⟩
      · have e : i = xs.length := by omega
        subst e
        refine .inl ⟨w2, ?_⟩
        rw [List.drop_length] at hr2
        cases hr2
        rw [List.append_nil] at hf
        subst hf
        exact k H2 _ (e1.trans e2) ⟨D, us, rfl, hD2, ra⟩ fun a oa => by
          cases (show V.ref D = V.ref a from oa)
          exact e1.free hD
    · exact k.elim
end
end Fw

namespace Fw
open PySem L2

section
variable {X : Cx} {C : Cn} {x y z : XE} {c d : XT} {xs : XA} {a b e tg : Expr} {es : List Expr} {pos p : Pos}
theorem e_lc {elt tg iter : Expr} {ifs : List Expr} {scope : Scope} {own : List (Str × Nat)} {src : XI} {tgt : Tg} {t : XT} {el : XE} (hc : X.calm = true) (hN : X.N.Nodup) (hi : PI X tg iter (tI C src)) (ok : BlkOk X.N X.env.scope scope own)
    (hg : ∀ (s : Shared) (H : Hp) (Ca : Addr) (cl : List (Str × Addr)) (fp : List Addr), PG (X.blk s H scope (compEnvC scope cl Ca X.env) fp) tg (tGc tgt (own.map (·.2)))) (ht : ∀ (s : Shared) (H : Hp) (Ca : Addr) (cl : List (Str × Addr)) (fp : List Addr), PTs (X.blk s H scope (compEnvC scope cl Ca X.env) fp) ifs (tT C.no t))
    (he : ∀ (s : Shared) (H : Hp) (Ca : Addr) (cl : List (Str × Addr)) (fp : List Addr), PE (X.blk s H scope (compEnvC scope cl Ca X.env) fp) elt (tE C.no el)) (hs : ∀ x, foldedSetIterable iter X.env x = pure x := by intro _; rfl) :
    PE X (.ListComp elt [⟨tg, iter, ifs, 0⟩] scope pos) (tF C (xLc src tgt t el (own.map (·.2)))) := imp (pe_lc hc hN hi ok hg ht he hs) lc_read
end

/-! ### statements -/
inductive Out where
  | stuck | exc (c : Nat) (ρ : En) | nx (ρ : En) | bk (ρ : En) | ct (ρ : En) | rt (s : Sv) (ρ : En)
abbrev XS := En → Out
structure Fr where
  base : Hp
  mp : Addr → Prop
  fix : List (Nat × V)
structure Renv (L M : List Nat) (F : Fr) (σ : St) (H : Hp) (ρ : En) : Prop where
  keep : ∀ a o, F.base a = some o → ¬ F.mp a → H a = some o
  alive : ∀ a, H a = none → F.base a = none
  slots : Slots σ H ρ
  ro : ∀ (i : Nat) (s : Sv) (v : V), ρ[i]? = some (some (.o s)) → σ[i]? = some (some v) → Ro H s v
  own : ∀ (i : Nat) (s : Sv) (v : V) (a : Addr), ρ[i]? = some (some (.o s)) → i ∉ M → σ[i]? = some (some v) → Oc H s v a → F.base a = none ∨ F.mp a
  sep : ∀ (i j : Nat) (s : Sv) (t : Sl) (v u : V) (a : Addr), i ≠ j → ρ[i]? = some (some (.o s)) → ρ[j]? = some (some t) → σ[i]? = some (some v) → σ[j]? = some (some u) → Oc H s v a → ¬ Oc H t.s u a
  fix : ∀ p ∈ F.fix, p.1 ∈ L ∧ σ[p.1]? = some (some p.2)
section
variable {L M : List Nat} {F : Fr} {σ : St} {H H' : Hp} {ρ : En}
theorem Renv.at (h : Renv L M F σ H ρ) {i : Nat} {t : Sl} {u : V} (hi : ρ[i]? = some (some t)) (hu : σ[i]? = some (some u)) : Rs H t.s u := by
  obtain ⟨v, h1, h2⟩ := h.slots.get i t hi
  rw [hu] at h1
  cases h1
  exact h2
theorem Renv.mono (h : Renv L M F σ H ρ) (e : Same H H') : Renv L M F σ H' ρ :=
  ⟨fun a o q n => e a o (h.keep a o q n), fun a q => h.alive a (e.free q), h.slots.mono e, fun i s v q w => (h.ro i s v q w).mono e, fun i s v a q1 hM q2 oc => h.own i s v a q1 hM q2 (oc.mono e (h.at q1 q2)),
    fun i j s t v u a ij q1 q2 q3 q4 oc oc2 => h.sep i j s t v u a ij q1 q2 q3 q4 (oc.mono e (h.at q1 q3)) (oc2.mono e (h.at q2 q4)), h.fix⟩
theorem Renv.fresh (h : Renv L M F σ H ρ) {i : Nat} {t : Sl} {u : V} {a : Addr} (hi : ρ[i]? = some (some t)) (hu : σ[i]? = some (some u)) (oc : Oc H t.s u a) : H a ≠ none := (h.at hi hu).oc oc
/-- a slot gets an object that no other slot has -/
theorem Renv.setG (h : Renv L M F σ H ρ) {i : Nat} {s : Sv} {v : V} (r : Ro H s v) (ow : ∀ a, Oc H s v a → F.base a = none ∨ F.mp a) (sp : ∀ (j : Nat) (t : Sl) (u : V) (a : Addr), j ≠ i → ρ[j]? = some (some t) → σ[j]? = some (some u) → Oc H s v a → ¬ Oc H t.s u a)
    (hi : i ∉ L) (sl : Sl) (hsl : sl = .o s ∨ sl = .v s) : Renv L M F (σ.set i (some v)) H (ρ.set i (some sl)) := by
  have hs : sl.s = s := by rcases hsl with z | z <;> rw [z] <;> rfl
  have at_ : ∀ (j : Nat) (t : Sl) (u : V), (ρ.set i (some sl))[j]? = some (some t) → (σ.set i (some v))[j]? = some (some u) → (j = i ∧ t = sl ∧ u = v) ∨ (j ≠ i ∧ ρ[j]? = some (some t) ∧ σ[j]? = some (some u)) := fun j t u q1 q2 => by
    by_cases e : i = j
    · subst e
      by_cases hi : i < ρ.length
      · rw [List.getElem?_set_self hi] at q1
        rw [List.getElem?_set_self (by rw [h.slots.len]; exact hi)] at q2
        cases q1
        cases q2
        exact .inl ⟨rfl, rfl, rfl⟩
      · rw [List.getElem?_eq_none (by simpa using hi)] at q1
        cases q1
    · rw [List.getElem?_set_ne e] at q1 q2
      exact .inr ⟨fun z => e z.symm, q1, q2⟩
  refine ⟨h.keep, h.alive, ⟨by simpa using h.slots.len, fun j t q => ?_⟩, fun j t u q1 q2 => ?_, fun j t u a q1 hj q2 oc => ?_, fun j k t t2 u w a jk q1 q2 q3 q4 oc => ?_, fun p hp => ?_⟩
  · by_cases e : i = j
    · subst e
      by_cases hi : i < ρ.length
      · rw [List.getElem?_set_self hi] at q
        cases q
        refine ⟨v, List.getElem?_set_self (by rw [h.slots.len]; exact hi), ?_⟩
        rw [hs]
        exact r.rs
      · rw [List.getElem?_eq_none (by simpa using hi)] at q
        cases q
    · rw [List.getElem?_set_ne e] at q ⊢
      exact h.slots.get j t q
  · rcases at_ j _ u q1 q2 with ⟨_, z, rfl⟩ | ⟨_, z1, z2⟩
    · have e2 : t = s := by rw [← hs, ← z]; rfl
      rw [e2]
      exact r
    · exact h.ro j t u z1 z2
  · rcases at_ j _ u q1 q2 with ⟨_, z, rfl⟩ | ⟨_, z1, z2⟩
    · have e2 : t = s := by rw [← hs, ← z]; rfl
      rw [e2] at oc
      exact ow a oc
    · exact h.own j t u a z1 hj z2 oc
  · rcases at_ j _ u q1 q3 with ⟨rfl, z, rfl⟩ | ⟨nj, z1, z2⟩
    · have e2 : t = s := by rw [← hs, ← z]; rfl
      rw [e2] at oc
      rcases at_ k _ w q2 q4 with ⟨y, _⟩ | ⟨nk, y1, y2⟩
      · exact absurd y.symm jk
      · exact sp k t2 w a nk y1 y2 oc
    · rcases at_ k _ w q2 q4 with ⟨_, y, rfl⟩ | ⟨_, y1, y2⟩
      · rw [y, hs]
        exact fun oc2 => sp j (.o t) u a nj z1 z2 oc2 oc
      · exact h.sep j k t t2 u w a jk z1 y1 z2 y2 oc
  · obtain ⟨h1, h2⟩ := h.fix p hp
    refine ⟨h1, ?_⟩
    rw [List.getElem?_set_ne (fun e => hi (by rw [e]; exact h1))]
    exact h2
/-- a slot gets data -/
theorem Renv.setV (h : Renv L M F σ H ρ) {i : Nat} {x : Dt} {v : V} (r : Rp H x v) (hi : i ∉ L) : Renv L M F (σ.set i (some v)) H (setV i x ρ) :=
  h.setG (s := .p x) r (fun _ z => z.elim) (fun _ _ _ _ _ _ _ z => z.elim) hi _ (.inr rfl)
/-- a slot gets a new object -/
theorem Renv.setN (h : Renv L M F σ H ρ) (e : Same H H') {i : Nat} {s : Sv} {v : V} (r : Ro H' s v) (fr : ∀ a, Oc H' s v a → H a = none) (hi : i ∉ L) (sl : Sl) (hsl : sl = .o s ∨ sl = .v s) : Renv L M F (σ.set i (some v)) H' (ρ.set i (some sl)) :=
  (h.mono e).setG r (fun a oc => .inl (h.alive a (fr a oc))) (fun j t u a nj q1 q2 oc oc2 => h.fresh q1 q2 (oc2.mono e (h.at q1 q2)) (fr a oc)) hi sl hsl
/-- slots get new objects -/
def storeO (ρ : En) : List Nat → List Sv → En
  | i :: is, s :: os => (storeO ρ is os).set i (some (.o s))
  | _, _ => ρ
theorem storeO_len {ρ : En} : ∀ {is : List Nat} {os : List Sv}, (storeO ρ is os).length = ρ.length
  | [], os => by cases os <;> rfl
  | i :: is, [] => rfl
  | i :: is, s :: os => by
    show ((storeO ρ is os).set i _).length = _
    rw [List.length_set, storeO_len]
theorem storeO_at {ρ : En} {j : Nat} {t : Sl} : ∀ {is : List Nat} {os : List Sv}, os.length = is.length → (storeO ρ is os)[j]? = some (some t) → (∃ (m : Nat) (s : Sv), is[m]? = some j ∧ os[m]? = some s ∧ t = .o s) ∨ (j ∉ is ∧ ρ[j]? = some (some t))
  | [], [], _, h => .inr ⟨by simp, h⟩
  | i :: is, s :: os, hl, h => by
    have h : ((storeO ρ is os).set i (some (.o s)))[j]? = some (some t) := h
    by_cases e : i = j
    · subst e
      by_cases hi : i < (storeO ρ is os).length
      · rw [List.getElem?_set_self hi] at h
        cases h
        exact .inl ⟨0, s, rfl, rfl, rfl⟩
      · rw [List.getElem?_eq_none (by simpa using hi)] at h
        cases h
    · rw [List.getElem?_set_ne e] at h
      rcases storeO_at (by simpa using hl) h with ⟨m, u, h1, h2, h3⟩ | ⟨h1, h2⟩
      · exact .inl ⟨m + 1, u, h1, h2, h3⟩
      · exact .inr ⟨by simp only [List.mem_cons, not_or]; exact ⟨fun z => e z.symm, h1⟩, h2⟩
/-- the addresses of slots' objects -/
def PO (ρ : En) (σ : St) (H : Hp) (is : List Nat) (b : Addr) : Prop := ∃ i ∈ is, ∃ s v, ρ[i]? = some (some (.o s)) ∧ σ[i]? = some (some v) ∧ Oc H s v b
theorem Renv.muts (I : Renv L M F σ H ρ) {is : List Nat} {os : List Sv} (hl : os.length = is.length)
    (olds : ∀ i ∈ is, i ∉ M ∧ ∃ s, ρ[i]? = some (some (.o s)))
    (keep : ∀ b o, ¬ PO ρ σ H is b → H b = some o → H' b = some o) (back : ∀ b, H' b = none → H b = none)
    (news : ∀ (m i : Nat) (s : Sv) (u : V), is[m]? = some i → os[m]? = some s → σ[i]? = some (some u) → Ro H' s u)
    (foot : ∀ (m i : Nat) (s : Sv) (u : V) (a : Addr), is[m]? = some i → os[m]? = some s → σ[i]? = some (some u) → Oc H' s u a → H a = none ∨ PO ρ σ H is a)
    (seps : ∀ (m n i j : Nat) (s t : Sv) (u w : V) (a : Addr), is[m]? = some i → is[n]? = some j → i ≠ j → os[m]? = some s → os[n]? = some t → σ[i]? = some (some u) → σ[j]? = some (some w) → Oc H' s u a → ¬ Oc H' t w a) : Renv L M F σ H' (storeO ρ is os) := by
  have B : ButP (PO ρ σ H is) H H' := ⟨keep, fun a ⟨i, hi, s, v, h1, h2, h3⟩ => (I.ro i s v h1 h2).noT h3⟩
  have oth : ∀ (j : Nat) (t : Sl) (u : V), j ∉ is → ρ[j]? = some (some t) → σ[j]? = some (some u) → ∀ a, Oc H t.s u a → ¬ PO ρ σ H is a := fun j t u nj q1 q2 a oc ⟨i, hi, s, v, h1, h2, h3⟩ =>
    I.sep i j s t v u a (fun z => nj (z ▸ hi)) h1 q1 h2 q2 h3 oc
  have bk : ∀ (j : Nat) (t : Sl) (u : V), j ∉ is → ρ[j]? = some (some t) → σ[j]? = some (some u) → ∀ a, Oc H' t.s u a → Oc H t.s u a := fun j t u nj q1 q2 a oc => Oc.butP B (I.at q1 q2) (oth j t u nj q1 q2) oc
  have poOwn : ∀ a, PO ρ σ H is a → F.base a = none ∨ F.mp a := fun a ⟨i, hi, s, v, h1, h2, h3⟩ => I.own i s v a h1 (olds i hi).1 h2 h3
  refine ⟨fun b o q n => ?_, fun b q => I.alive b (back b q), ⟨by rw [storeO_len]; exact I.slots.len, fun j t q => ?_⟩, fun j t u q1 q2 => ?_, fun j t u b q1 hj q2 o2 => ?_, fun j k t t2 u w b jk q1 q2 q3 q4 o2 => ?_, I.fix⟩
  · refine keep b o (fun z => ?_) (I.keep b o q n)
    rcases poOwn b z with z | z
    · rw [z] at q; cases q
    · exact n z
  · rcases storeO_at hl q with ⟨m, s, h1, h2, rfl⟩ | ⟨nj, q⟩
    · obtain ⟨_, s0, h3⟩ := olds j (List.mem_of_getElem? h1)
      obtain ⟨v, h4, _⟩ := I.slots.get j _ h3
      exact ⟨_, h4, (news m j s _ h1 h2 h4).rs⟩
    · obtain ⟨u, h1, h2⟩ := I.slots.get j t q
      exact ⟨u, h1, h2.butP B (oth j t u nj q h1)⟩
  · rcases storeO_at hl q1 with ⟨m, s, h1, h2, z⟩ | ⟨nj, q⟩
    · cases z
      exact news m j _ u h1 h2 q2
    · exact (I.ro j t u q q2).butP B (oth j _ u nj q q2)
  · rcases storeO_at hl q1 with ⟨m, s, h1, h2, z⟩ | ⟨nj, q⟩
    · cases z
      rcases foot m j _ u b h1 h2 q2 o2 with z | z
      · exact .inl (I.alive b z)
      · exact poOwn b z
    · exact I.own j t u b q hj q2 (bk j (.o t) u nj q q2 b o2)
  · rcases storeO_at hl q1 with ⟨m, s, h1, h2, z⟩ | ⟨nj, q⟩
    · cases z
      rcases storeO_at hl q2 with ⟨m2, s2, h6, h7, rfl⟩ | ⟨nk, y⟩
      · exact seps m m2 j k _ s2 u w b h1 h6 jk h2 h7 q3 q4 o2
      · intro o3
        have o3 := bk k t2 w nk y q4 b o3
        rcases foot m j _ u b h1 h2 q3 o2 with z | z
        · exact I.fresh y q4 o3 z
        · exact oth k t2 w nk y q4 b o3 z
    · have o2 := bk j (.o t) u nj q q3 b o2
      rcases storeO_at hl q2 with ⟨m2, s2, h6, h7, rfl⟩ | ⟨nk, y⟩
      · intro o3
        rcases foot m2 k s2 w b h6 h7 q4 o3 with z | z
        · exact I.fresh (t := .o t) q q3 o2 z
        · exact oth j (.o t) u nj q q3 b o2 z
      · exact fun o3 => I.sep j k t t2 u w b jk q y q3 q4 o2 (bk k t2 w nk y q4 b o3)
/-- the object of a slot changes: part of it, and what is new -/
theorem Renv.mutG (I : Renv L M F σ H ρ) {i : Nat} {s s' : Sv} {v : V} (hi : ρ[i]? = some (some (.o s))) (hv : σ[i]? = some (some v)) (hM : i ∉ M) (keep : ∀ b o, ¬ Oc H s v b → H b = some o → H' b = some o) (back : ∀ b, H' b = none → H b = none)
    (r : Ro H' s' v) (foot : ∀ a, Oc H' s' v a → H a = none ∨ Oc H s v a) : Renv L M F σ H' (ρ.set i (some (.o s'))) := by
  have one : ∀ b, PO ρ σ H [i] b ↔ Oc H s v b := fun b => ⟨fun ⟨j, hj, t, u, h1, h2, h3⟩ => by
    rw [List.mem_singleton.mp hj] at h1 h2
    rw [hi] at h1
    rw [hv] at h2
    cases h1
    cases h2
    exact h3, fun h => ⟨i, List.mem_singleton.mpr rfl, s, v, hi, hv, h⟩⟩
  have at0 : ∀ {m j : Nat} {t : Sv} {u : V}, [i][m]? = some j → [s'][m]? = some t → σ[j]? = some (some u) → j = i ∧ t = s' ∧ u = v := fun {m j t u} h1 h2 h3 => by
    cases m with
    | zero =>
      cases h1
      cases h2
      rw [hv] at h3
      cases h3
      exact ⟨rfl, rfl, rfl⟩
    | succ m => simp at h1
  refine I.muts (is := [i]) (os := [s']) rfl (fun j hj => ?_) (fun b o n e => keep b o (fun z => n ((one b).mpr z)) e) back (fun m j t u h1 h2 h3 => ?_) (fun m j t u a h1 h2 h3 oc => ?_) fun m n j k t t2 u w a h1 h2 jk h3 h4 => ?_
  · rw [List.mem_singleton.mp hj]
    exact ⟨hM, s, hi⟩
  · obtain ⟨rfl, rfl, rfl⟩ := at0 h1 h2 h3
    exact r
  · obtain ⟨rfl, rfl, rfl⟩ := at0 h1 h2 h3
    exact (foot a oc).imp id (one a).mpr
  · intro h5 h6
    exact absurd ((at0 h1 h3 h5).1.trans (at0 h2 h4 h6).1.symm) jk
/-- the one object of a slot changes -/
theorem Renv.mut (I : Renv L M F σ H ρ) {i : Nat} {s s' : Sv} {a : Addr} (hi : ρ[i]? = some (some (.o s))) (hv : σ[i]? = some (some (.ref a))) (hM : i ∉ M) (oc : Oc H s (.ref a) a) (oc' : ∀ b, Oc H' s' (.ref a) b → b = a) (e : But a H H') (al : H' a ≠ none) (back : ∀ b, b ≠ a → H' b = none → H b = none) (r : Ro H' s' (.ref a)) :
    Renv L M F σ H' (ρ.set i (some (.o s'))) :=
  I.mutG hi hv hM (fun b o n q => e.1 b o (fun z => n (z ▸ oc)) q) (fun b q => by
    by_cases hb : b = a
    · subst hb
      exact absurd q al
    · exact back b hb q) r fun b ob => .inr (oc' b ob ▸ oc)
end

def OutP (C : Cn) (L M : List Nat) (F : Fr) (D : Ends) : Out → Prop
  | .stuck => False
  | .exc c ρ' => ∀ σ' H', Renv L M F σ' H' ρ' → C.W (.ref (C.cl c)) none σ' H'
  | .nx ρ' => ∀ σ' H', Renv L M F σ' H' ρ' → D.nx σ' H'
  | .bk ρ' => ∀ σ' H', Renv L M F σ' H' ρ' → D.bk σ' H'
  | .ct ρ' => ∀ σ' H', Renv L M F σ' H' ρ' → D.ct σ' H'
  | .rt s ρ' => ∀ σ' H' v, Renv L M F σ' H' ρ' → Ro H' s v → (∀ a, Oc H' s v a → F.base a = none ∨ F.mp a) → (∀ a, Oc H' s v a → ∀ (j : Nat) (t : Sl) (u : V), j ∈ L → ρ'[j]? = some (some t) → σ'[j]? = some (some u) → ¬ Oc H' t.s u a) → D.rt v H'
def tS (C : Cn) (L M : List Nat) (x : XS) : TS := fun D σ H => ∃ F ρ, Renv L M F σ H ρ ∧ OutP C L M F D (x ρ)
def ofR {α : Type} (r : Rz α) (ρ : En) (f : α → Out) : Out := match r with
  | .stuck => .stuck
  | .exc c => .exc c ρ
  | .ok a => f a
theorem ofR_P {α : Type} {C : Cn} {L M : List Nat} {F : Fr} {D : Ends} {r : Rz α} {ρ : En} {f : α → Out} {σ : St} {H : Hp} (h : OutP C L M F D (ofR r ρ f)) (I : Renv L M F σ H ρ) : r.P (Ex C σ H) fun a => OutP C L M F D (f a) := by
  cases r with
  | stuck => exact h
  | exc c => exact fun H' e => h σ H' (I.mono e)
  | ok a => exact h
section
variable {X : Cx} {C : Cn} {L M : List Nat} {x y z : XE} {c d : XT} {xs : XA} {u w : XS} {a b e tg : Expr} {es : List Expr} {pos p : Pos} {st : Stmt} {rest : List Stmt}
def sNil : XS := fun ρ => .nx ρ
def sSeq (u w : XS) : XS := fun ρ => match u ρ with
  | .nx ρ' => w ρ'
  | o => o
theorem st_nil : PSs X [] (tS C L M sNil) := impSs pss_nil fun D σ H ⟨F, ρ, I, q⟩ => q σ H I
theorem st_cons (h1 : PS X st (tS C L M u)) (h2 : PSs X rest (tS C L M w)) : PSs X (st :: rest) (tS C L M (sSeq u w)) := impSs (pss_cons h1 h2) fun D σ H ⟨F, ρ, I, q⟩ => ⟨F, ρ, I, by
  unfold sSeq at q
  cases hu : u ρ with
  | nx ρ' =>
    rw [hu] at q
    exact fun σ' H' I' => ⟨F, ρ', I', q⟩
  | stuck => rw [hu] at q; exact q
  | exc c ρ' => rw [hu] at q; exact q
  | bk ρ' => rw [hu] at q; exact q
  | ct ρ' => rw [hu] at q; exact q
  | rt s ρ' => rw [hu] at q; exact q⟩
theorem st_one (h1 : PS X st (tS C L M u)) : PSs X [st] (tS C L M u) := pss_one h1
def sIf (c : XT) (u w : XS) : XS := fun ρ => ofR (c ρ) ρ fun b => if b = true then u ρ else w ρ
theorem st_if {sa sb : List Stmt} (hc : PT X a (tT C c)) (ha : PSs X sa (tS C L M u)) (hb : PSs X sb (tS C L M w)) : PS X (.If a sa sb pos) (tS C L M (sIf c u w)) := impS (ps_if hc ha hb) fun D σ H ⟨F, ρ, I, q⟩ =>
  ⟨ρ, I.slots, Rz.P_mono (ofR_P q I) (fun _ k => k) fun b _ k H' e => by
    cases b with
    | true => exact ⟨F, ρ, I.mono e, k⟩
    | false => exact ⟨F, ρ, I.mono e, k⟩⟩
def sPass : XS := sNil
theorem st_pass : PS X (.Pass pos) (tS C L M sPass) := impS ps_pass fun D σ H ⟨F, ρ, I, q⟩ => q σ H I
def sBrk : XS := fun ρ => .bk ρ
def sCnt : XS := fun ρ => .ct ρ
theorem st_break : PS X (.Break pos) (tS C L M sBrk) := impS ps_break fun D σ H ⟨F, ρ, I, q⟩ => q σ H I
theorem st_continue : PS X (.Continue pos) (tS C L M sCnt) := impS ps_continue fun D σ H ⟨F, ρ, I, q⟩ => q σ H I
/-- x = data -/
def sAsg (i : Nat) (x : XE) : XS := fun ρ => ofR (x ρ) ρ fun s => match s with
  | .p x => .nx (setV i x ρ)
  | _ => .stuck
theorem st_asg (i : Nat) {n : Str} {pos' : Pos} (hN : X.N.Nodup) (hi : X.N[i]? = some n) (hx : Loc X.env.scope n) (hL : L.contains i = false) (he : PE X e (tE C x)) (hs : swapsWith e (some (.Name n pos')) pos.line X.env = pure false := by rfl)
    (hf : X.fn n = true ∨ X.env.scope.names.lookup n = some .local := by first | exact .inl rfl | exact .inr rfl | assumption) : PS X (.Assign [.Name n pos'] e pos) (tS C L M (sAsg i x)) :=
  impS (ps_set hN hi hx he hs hf) fun D σ H ⟨F, ρ, I, q⟩ => ⟨ρ, I.slots, Rz.P_mono (ofR_P q I) (fun _ k => k) fun s _ k H' v e r => by
    cases s with
    | p x => exact k _ _ ((I.mono e).setV r fun z => by rw [List.contains_iff_mem.mpr z] at hL; cases hL)
    | l _ => exact k.elim
    | d _ => exact k.elim
    | ll _ => exact k.elim
    | pl _ _ => exact k.elim⟩
/-- x = a new object; o: to be changed later -/
def sNew (o : Bool) (i : Nat) (x : XE) : XS := fun ρ => ofR (x ρ) ρ fun s => .nx (ρ.set i (some (if o = true then .o s else .v s)))
theorem new_read (o : Bool) (i : Nat) (hL : L.contains i = false) : ∀ D σ H, tS C L M (sNew o i x) D σ H → tAsg (tF C x) (gName i) D σ H := fun D σ H ⟨F, ρ, I, q⟩ => ⟨ρ, I.slots, Rz.P_mono (ofR_P q I) (fun _ k => k) fun s _ k H' v e r oc =>
  k _ _ (I.setN e r oc (fun z => by rw [List.contains_iff_mem.mpr z] at hL; cases hL) _ (by cases o <;> simp))⟩
theorem st_new (o : Bool) (i : Nat) {n : Str} {pos' : Pos} (hN : X.N.Nodup) (hi : X.N[i]? = some n) (hx : Loc X.env.scope n) (hL : L.contains i = false) (he : PE X e (tF C x)) (hs : swapsWith e (some (.Name n pos')) pos.line X.env = pure false := by rfl)
    (hf : X.fn n = true ∨ X.env.scope.names.lookup n = some .local := by first | exact .inl rfl | exact .inr rfl | assumption) : PS X (.Assign [.Name n pos'] e pos) (tS C L M (sNew o i x)) := impS (ps_set hN hi hx he hs hf) (new_read o i hL)
theorem st_newLc (o : Bool) (i : Nat) {n : Str} {py spos : Pos} {elt tg iter : Expr} {ifs : List Expr} {scope : Scope} {own : List (Str × Nat)} {src : XI} {tgt : Tg} {t : XT} {el : XE} (hc : X.calm = true) (hN : X.N.Nodup) (hy : X.N[i]? = some n) (hyl : X.env.scope.names.lookup n = some .local)
    (hsw : swapsWith (.ListComp elt [⟨tg, iter, ifs, 0⟩] scope pos) (some (.Name n py)) spos.line X.env = pure true) (hL : L.contains i = false) (hi : PI X tg iter (tI C src)) (ok : BlkOk X.N X.env.scope scope own)
    (hg : ∀ (s : Shared) (H : Hp) (Ca : Addr) (cl : List (Str × Addr)) (fp : List Addr), PG (X.blk s H scope (compEnvC scope cl Ca X.env) fp) tg (tGc tgt (own.map (·.2)))) (ht : ∀ (s : Shared) (H : Hp) (Ca : Addr) (cl : List (Str × Addr)) (fp : List Addr), PTs (X.blk s H scope (compEnvC scope cl Ca X.env) fp) ifs (tT C.no t))
    (he : ∀ (s : Shared) (H : Hp) (Ca : Addr) (cl : List (Str × Addr)) (fp : List Addr), PE (X.blk s H scope (compEnvC scope cl Ca X.env) fp) elt (tE C.no el)) (hs : ∀ x, foldedSetIterable iter X.env x = pure x := by intro _; rfl) :
    PS X (.Assign [.Name n py] (.ListComp elt [⟨tg, iter, ifs, 0⟩] scope pos) spos) (tS C L M (sNew o i (xLc src tgt t el (own.map (·.2))))) :=
  impS (ps_setLc hc hN hy hyl hsw hi ok hg ht he hs) fun D σ H h => by
    have h2 : tF C (xLc src tgt t el (own.map (·.2))) σ H (fun x H1 => gName i x σ H1 D.nx) := new_read o i hL D σ H h
    exact lc_read σ H _ h2
/-- a, b, .. = data -/
def sUnp (is : List Nat) (x : XE) : XS := fun ρ => ofR (x ρ) ρ fun s => match s with
  | .p (.tup l) => if l.length = is.length then .nx (setVs is l ρ) else .stuck
  | _ => .stuck
theorem unp_names : ∀ {is : List Nat} {l : List Dt} {us : List V} {ρ : En} {σ : St} {H : Hp} {F : Fr} {Q : St → Hp → Prop}, (∀ i ∈ is, i ∉ L) → l.length = is.length → Renv L M F σ H ρ → Rps H l us →
    (∀ σ', Renv L M F σ' H (setVs is l ρ) → Q σ' H) → gNames is us σ H Q
  | [], [], _, ρ, σ, H, F, Q, hi, hl, hs, r, q => ⟨r, q σ hs⟩
  | i :: is, [], _, ρ, σ, H, F, Q, hi, hl, hs, r, q => by cases hl
  | [], _ :: _, _, ρ, σ, H, F, Q, hi, hl, hs, r, q => by cases hl
  | i :: is, x :: l, _, ρ, σ, H, F, Q, hi, hl, hs, r, q => by
    obtain ⟨v, r', rfl, h1, h2⟩ := r
    refine ⟨v, r', rfl, ?_⟩
    show gNames is r' (σ.set i (some v)) H Q
    exact unp_names (fun j hj => hi j (List.mem_cons_of_mem _ hj)) (by simpa using hl) (hs.setV h1 (hi i List.mem_cons_self)) h2 fun σ' s' => q σ' s'
theorem st_unp (is : List Nat) {n : Nat} {t : Expr} (hn : n = is.length) (hL : (is.all fun i => !L.contains i) = true) (he : PE X e (tE C x)) (hg : PG X t (gTup X.K n (gNames is))) (hs : swapsWithSole [t] e pos.line X.env = pure false := by rfl) (hw : swappedStores [t] e X.env = pure none := by rfl) (h1 : (assignEach [t] X.env).map (·.2) = [assign t X.env] := by rfl) :
    PS X (.Assign [t] e pos) (tS C L M (sUnp is x)) := impS (ps_asg he hg hs hw (h1 := h1)) fun D σ H ⟨F, ρ, I, q⟩ => ⟨ρ, I.slots, Rz.P_mono (ofR_P q I) (fun _ k => k) fun s _ k H' v e r => by
  split at k
  · split at k
    · rename_i l hl
      obtain ⟨a, us, rfl, ha, hr⟩ := r
      refine ⟨a, us, rfl, .inl (.inl ha), by rw [hr.length, hn]; exact hl, unp_names (fun i hi z => ?_) hl (I.mono e) hr fun σ' I' => k σ' H' I'⟩
      have h1 := List.all_eq_true.mp hL i hi
      rw [List.contains_iff_mem.mpr z] at h1
      cases h1
    · exact k.elim
  · exact k.elim⟩
/-- return -/
def sRet (x : XE) : XS := fun ρ => ofR (x ρ) ρ fun s => match s with
  | .p x => .rt (.p x) ρ
  | _ => .stuck
theorem st_ret (he : PE X e (tE C x)) : PS X (.Return (some e) pos) (tS C L M (sRet x)) := impS (ps_ret he) fun D σ H ⟨F, ρ, I, q⟩ => ⟨ρ, I.slots, Rz.P_mono (ofR_P q I) (fun _ k => k) fun s _ k H' v e r => by
  cases s with
  | p x => exact k σ H' v (I.mono e) r (fun _ z => z.elim) fun _ z => z.elim
  | l _ => exact k.elim
  | d _ => exact k.elim
  | ll _ => exact k.elim
  | pl _ _ => exact k.elim⟩
def sRetF (x : XE) : XS := fun ρ => ofR (x ρ) ρ fun s => .rt s ρ
theorem st_retF (he : PE X e (tF C x)) : PS X (.Return (some e) pos) (tS C L M (sRetF x)) := impS (ps_ret he) fun D σ H ⟨F, ρ, I, q⟩ => ⟨ρ, I.slots, Rz.P_mono (ofR_P q I) (fun _ k => k) fun s _ k H' v e r oc => k σ H' v (I.mono e) r (fun a oa => .inl (I.alive a (oc a oa))) fun a oa j t u _ q1 q2 o2 => I.fresh q1 q2 (o2.mono e (I.at q1 q2)) (oc a oa)⟩
def sRetO (i : Nat) : XS := fun ρ => match ρ[i]? with
  | some (some (.o s)) => .rt s ρ
  | _ => .stuck
theorem st_retO (i : Nat) {n : Str} {np : Pos} (hL : L.contains i = false) (hM : M.contains i = false) (hN : X.N[i]? = some n := by rfl) (hv : Vis X.env.scope n := by first | exact Or.inl rfl | exact Or.inr (Or.inl rfl) | exact Or.inr (Or.inr rfl)) (hd : (n == ("__debug__" : Str)) = false := by decide)
    (hcd : (n == ("__classdict__" : Str)) = false := by decide) : PS X (.Return (some (.Name n np)) pos) (tS C L M (sRetO i)) := impS (ps_ret (pv i hN hv hd hcd)) fun D σ H ⟨F, ρ, I, q⟩ => by
  unfold sRetO at q
  split at q
  · rename_i s h
    obtain ⟨v, h1, h2⟩ := I.slots.get i _ h
    exact ⟨v, h1, q σ H v I (I.ro i s v h h1) (fun a oa => I.own i s v a h (fun z => by rw [List.contains_iff_mem.mpr z] at hM; cases hM) h1 oa) fun a oa j t u hj q1 q2 => I.sep i j s t v u a (fun z => by rw [← z, ← List.contains_iff_mem, hL] at hj; cases hj) h q1 h1 q2 oa⟩
  · exact q.elim
def sRetN : XS := fun ρ => .rt (.p .non) ρ
theorem st_retN : PS X (.Return none pos) (tS C L M sRetN) := impS ps_retN fun D σ H ⟨F, ρ, I, q⟩ => q σ H .non I rfl (fun _ z => z.elim) fun _ z => z.elim
/-- an expression alone -/
def sDrop (x : XE) : XS := fun ρ => ofR (x ρ) ρ fun _ => .nx ρ
theorem st_drop (he : PE X e (tE C x)) (hs : swapsWith e none pos.line X.env = pure false := by rfl) : PS X (.Expr e pos) (tS C L M (sDrop x)) := impS (ps_expr he hs) fun D σ H ⟨F, ρ, I, q⟩ => ⟨ρ, I.slots, Rz.P_mono (ofR_P q I) (fun _ k => k) fun s _ k H' v e r => k σ H' (I.mono e)⟩
theorem st_doc {t : Str} {j : Nat → Nat} {k} {pos' : Pos} : PS X (.Expr (.Constant (.str t) k pos) pos') (tS C L M sNil) := impS ps_doc fun D σ H ⟨F, ρ, I, q⟩ => q σ H I
/-- raise -/
def sRaise (c : Nat) : XS := fun ρ => .exc c ρ
theorem st_raise {t : St → Hp → XK → Prop} {cc : Nat} (hc : X.calm = true) (tk : Takes X C.W) (he : PMk X e t) (ht : ∀ σ H Q, Q (.ref (C.cl cc)) none H → t σ H Q) : PS X (.Raise (some e) none pos) (tS C L M (sRaise cc)) :=
  impS (ps_raise hc tk he) fun D σ H ⟨F, ρ, I, q⟩ => ht σ H _ (q σ H I)
end
end Fw

namespace Fw
open PySem L2

/-! ### loops -/
def goOn (o : Out) (k : En → Out) : Out := match o with
  | .nx ρ => k ρ
  | .ct ρ => k ρ
  | .bk ρ => .nx ρ
  | .stuck => .stuck
  | .exc c ρ => .exc c ρ
  | .rt s ρ => .rt s ρ
def forD (tg : Tg) (u : XS) : List Dt → XS
  | [], ρ => .nx ρ
  | x :: xs, ρ => match tg x ρ with
    | .ok ρ1 => goOn (u ρ1) (forD tg u xs)
    | _ => .stuck
def sFor (src : XI) (tg : Tg) (u : XS) : XS := fun ρ => ofR (src ρ) ρ fun xs => forD tg u xs ρ
def tGs (C : Cn) (L M : List Nat) (tg : Tg) : TG := fun v σ H Q => ∃ F ρ x, Renv L M F σ H ρ ∧ Rp H x v ∧ (tg x ρ).P (fun _ => False) fun ρ' => ∀ σ', Renv L M F σ' H ρ' → Q σ' H
section
variable {X : Cx} {C : Cn} {L M : List Nat} {x y z : XE} {c d : XT} {xs : XA} {u w : XS} {a b e tg : Expr} {es : List Expr} {pos p : Pos} {st : Stmt} {rest : List Stmt}
theorem gs_name {i : Nat} {n : Str} (hL : L.contains i = false) (h : PG X (.Name n pos) (gName i)) : PG X (.Name n pos) (tGs C L M (tgN i)) := PG.imp h fun v σ H Q ⟨F, ρ, x, I, r, q⟩ => q _ (I.setV r fun z => by rw [List.contains_iff_mem.mpr z] at hL; cases hL)
theorem gs_tup {n : Nat} {is : List Nat} {t : Expr} (hn : n = is.length) (hL : (is.all fun i => !L.contains i) = true) (h : PG X t (gTup X.K n (gNames is))) : PG X t (tGs C L M (tgT is)) := PG.imp h fun v σ H Q ⟨F, ρ, x, I, r, q⟩ => by
  unfold tgT at q
  split at q
  · split at q
    · rename_i l hl2
      obtain ⟨a, us, rfl, ha, hr⟩ := r
      refine ⟨a, us, rfl, .inl (.inl ha), by rw [hr.length, hn]; exact hl2, unp_names (fun i hi z => ?_) hl2 I hr q⟩
      have h1 := List.all_eq_true.mp hL i hi
      rw [List.contains_iff_mem.mpr z] at h1
      cases h1
    · exact q.elim
  · exact q.elim
/-- the frame of a loop -/
def loopF (M : List Nat) (F : Fr) (σ : St) (H : Hp) (ρ : En) : Fr := ⟨H, fun a => ∃ (i : Nat) (s : Sv) (v : V), ρ[i]? = some (some (.o s)) ∧ i ∉ M ∧ σ[i]? = some (some v) ∧ Oc H s v a, F.fix⟩
theorem loop_in {F : Fr} {σ : St} {H : Hp} {ρ : En} (I : Renv L M F σ H ρ) : Renv L M (loopF M F σ H ρ) σ H ρ :=
  ⟨fun a o q _ => q, fun a q => q, I.slots, I.ro, fun i s v a q hM h oc => .inr ⟨i, s, v, q, hM, h, oc⟩, I.sep, I.fix⟩
theorem loop_mp {F : Fr} {σ : St} {H : Hp} {ρ : En} (I : Renv L M F σ H ρ) {a : Addr} (h : (loopF M F σ H ρ).base a = none ∨ (loopF M F σ H ρ).mp a) : F.base a = none ∨ F.mp a := by
  rcases h with h | ⟨i, s, v, q, hM, h, oc⟩
  · exact .inl (I.alive a h)
  · exact I.own i s v a q hM h oc
theorem loop_out {F : Fr} {σ σ' : St} {H H' : Hp} {ρ ρ' : En} (I : Renv L M F σ H ρ) (J : Renv L M (loopF M F σ H ρ) σ' H' ρ') : Renv L M F σ' H' ρ' := by
  refine ⟨fun a o q n => ?_, fun a q => I.alive a (J.alive a q), J.slots, J.ro, fun i s v a q hM h oc => loop_mp I (J.own i s v a q hM h oc), J.sep, J.fix⟩
  refine J.keep a o (I.keep a o q n) fun z => ?_
  rcases loop_mp I (.inr z) with z | z
  · rw [z] at q; cases q
  · exact n z
theorem loop_ends {F : Fr} {σ : St} {H : Hp} {ρ : En} (I : Renv L M F σ H ρ) {D : Ends} : ∀ {o : Out}, OutP C L M F D o → OutP C L M (loopF M F σ H ρ) D o
  | .stuck, h => h
  | .exc _ _, h => fun σ' H' J => h σ' H' (loop_out I J)
  | .nx _, h => fun σ' H' J => h σ' H' (loop_out I J)
  | .bk _, h => fun σ' H' J => h σ' H' (loop_out I J)
  | .ct _, h => fun σ' H' J => h σ' H' (loop_out I J)
  | .rt _ _, h => fun σ' H' v J r oc sp => h σ' H' v (loop_out I J) r (fun a oa => loop_mp I (oc a oa)) sp
theorem loop_tx {F : Fr} {σ σ' : St} {H H' : Hp} {ρ ρ' : En} (I : Renv L M F σ H ρ) (J : Renv L M (loopF M F σ H ρ) σ' H' ρ') : Tx H H' := fun a ys h => J.keep a _ h fun ⟨i, s, v, q, _, hv, oc⟩ => (I.ro i s v q hv).noT oc ys h
theorem loop_kept {F : Fr} {σ σ' : St} {H H0 H' : Hp} {ρ ρ' : En} (I : Renv L M F σ H ρ) (J : Renv L M (loopF M F σ H ρ) σ' H' ρ') {a : Addr} {o : HO} (e : Same H0 H) (I0 : Renv L M F σ H0 ρ) (lp : LP ρ σ H a ∨ H0 a = none) (h : H a = some o) : H' a = some o := by
  refine J.keep a _ h fun ⟨i, s, v, q, _, hv, oc⟩ => ?_
  rcases lp with ⟨j, t, w, q2, h2, oc2⟩ | z
  · exact I.sep i j s (.v t) v w a (fun z => by rw [z, q2] at q; cases q) q q2 hv h2 oc oc2
  · exact I0.fresh (t := .o s) q hv (Oc.mono e (I0.at q hv) oc) z
theorem st_for {body : List Stmt} {src : XI} {t : Tg} {iter : Expr} (hp : PassesOwn (model X.prog X.w) X.A X.env X.xe) (hc : X.calm = true) (hi : PI X tg iter (tI C src)) (hg : PG X tg (tGs C L M t)) (hb : PSs X body (tS C L M u))
    (hs : ∀ x, foldedSetIterable iter X.env x = pure x := by intro _; rfl) : PS X (.For tg iter body [] pos) (tS C L M (sFor src t u)) := impS (ps_for hp hc hi hg hb hs) fun D σ H ⟨F, ρ, I0, q⟩ =>
  ⟨ρ, I0.slots, Rz.P_mono (ofR_P q I0) (fun _ k => k) fun xs _ k J Lp H1 e1 wd lp => by
    have I := I0.mono e1
    have k := loop_ends I k
    generalize hF : loopF M F σ H1 ρ = F' at k
    refine ⟨fun i m σ' H' => i ≤ xs.length ∧ m = xs.length - i ∧ ∃ ρ', Renv L M F' σ' H' ρ' ∧ OutP C L M F' D (forD t u (xs.drop i) ρ'), ⟨xs.length, Nat.zero_le _, by simp, ρ, hF ▸ loop_in I, by simpa using k⟩, ?_⟩
    rintro i m σ' H' ⟨hi, rfl, ρ', I', q'⟩
    obtain ⟨w1, w2⟩ := wd.run H' (loop_tx I (hF ▸ I')) fun a o la h => loop_kept I (hF ▸ I') e1 I0 (lp a la) h
    by_cases hlt : i < xs.length
    · have hx : xs[i]? = some xs[i] := by simp [hlt]
      obtain ⟨go, yd⟩ := w1 i _ hx
      refine .inr ⟨go, fun σ' H' => i + 1 ≤ xs.length ∧ ∃ ρ', Renv L M F' σ' H' ρ' ∧ OutP C L M F' D (forD t u (xs.drop (i + 1)) ρ'), fun σ2 H2 ⟨a1, a2⟩ => ⟨xs.length - (i + 1), by omega, a1, rfl, a2⟩, fun v H2 yy => ?_⟩
      obtain ⟨e3, rv⟩ := yd v H2 yy
      have ed : xs.drop i = xs[i] :: xs.drop (i + 1) := List.drop_eq_getElem_cons hlt
      rw [ed] at q'
      unfold forD at q'
      refine ⟨F', ρ', xs[i], I'.mono e3, rv, ?_⟩
      cases ht : t xs[i] ρ' with
      | stuck => rw [ht] at q'; exact q'.elim
      | exc c => rw [ht] at q'; exact q'.elim
      | ok ρ1 =>
        rw [ht] at q'
        simp only at q'
        intro σ2 I2
        refine ⟨F', ρ1, I2, ?_⟩
        cases hu : u ρ1 with
        | stuck => rw [hu] at q'; exact q'.elim
        | exc c ρ2 => rw [hu] at q'; exact q'
        | nx ρ2 => rw [hu] at q'; exact fun σ3 H3 I3 => ⟨hlt, ρ2, I3, q'⟩
        | ct ρ2 => rw [hu] at q'; exact fun σ3 H3 I3 => ⟨hlt, ρ2, I3, q'⟩
        | bk ρ2 => rw [hu] at q'; exact q'
        | rt s ρ2 => rw [hu] at q'; exact q'
    · have e : i = xs.length := by omega
      subst e
      rw [List.drop_length] at q'
      exact .inl ⟨w2, q' σ' H' I'⟩⟩
def whileD (c : XT) (u : XS) : Nat → XS
  | 0, _ => .stuck
  | n + 1, ρ => ofR (c ρ) ρ fun b => if b = true then goOn (u ρ) (whileD c u n) else .nx ρ
def sWhile (c : XT) (u : XS) : XS := whileD c u 1000000
theorem while_read (N : Nat) {tb : TS} (hb : ∀ D σ H, tS C L M u D σ H → tb D σ H) : ∀ D σ H, tS C L M (whileD c u N) D σ H → tWhile (tT C c) tb D σ H := fun D σ H ⟨F, ρ, I, q⟩ => by
  refine ⟨fun m σ' H' => ∃ ρ', Renv L M F σ' H' ρ' ∧ OutP C L M F D (whileD c u m ρ'), ⟨N, ρ, I, q⟩, ?_⟩
  rintro m σ' H' ⟨ρ', I', q'⟩
  cases m with
  | zero => exact q'.elim
  | succ m =>
    unfold whileD at q'
    refine ⟨ρ', I'.slots, Rz.P_mono (ofR_P q' I') (fun _ k => k) fun b _ k H2 e2 => ?_⟩
    cases b with
    | false => exact k σ' H2 (I'.mono e2)
    | true =>
      refine ⟨fun σ' H' => ∃ ρ', Renv L M F σ' H' ρ' ∧ OutP C L M F D (whileD c u m ρ'), fun σ3 H3 z => ⟨m, Nat.lt_succ_self m, z⟩, hb _ σ' H2 ⟨F, ρ', I'.mono e2, ?_⟩⟩
      simp only [if_true] at k
      cases hu : u ρ' with
      | stuck => rw [hu] at k; exact k.elim
      | exc c ρ2 => rw [hu] at k; exact k
      | nx ρ2 => rw [hu] at k; exact fun σ3 H3 I3 => ⟨ρ2, I3, k⟩
      | ct ρ2 => rw [hu] at k; exact fun σ3 H3 I3 => ⟨ρ2, I3, k⟩
      | bk ρ2 => rw [hu] at k; exact k
      | rt s ρ2 => rw [hu] at k; exact k
theorem st_while {body : List Stmt} (hp : PassesOwn (model X.prog X.w) X.A X.env X.xe) (hc : PT X a (tT C c)) (hb : PSs X body (tS C L M u)) : PS X (.While a body [] pos) (tS C L M (sWhile c u)) := impS (ps_while hp hc hb) (while_read 1000000 fun _ _ _ h => h)

/-! ### objects that change -/
theorem but_upd {H : Hp} {a : Addr} {o u : HO} (h : H a = some u) (hn : ∀ xs, u ≠ .tup xs) : But a H (upd H a o) := ⟨fun b w nb e => by rw [upd_ne nb]; exact e, fun xs z => by rw [h] at z; exact hn xs (Option.some.inj z)⟩
/-- xs.append(e) -/
def sApp (i : Nat) (x : XE) : XS := fun ρ => match ρ[i]? with
  | some (some (.o (.l l))) => ofR (x ρ) ρ fun s => match s with
    | .p y => if l.length < 1000000 then .nx (ρ.set i (some (.o (.l (l ++ [y]))))) else .stuck
    | _ => .stuck
  | _ => .stuck
theorem notM {i : Nat} (hM : M.contains i = false) : i ∉ M := fun z => by rw [List.contains_iff_mem.mpr z] at hM; cases hM
/-- a list of one's own is written -/
theorem lst_set {F : Fr} {σ : St} {H : Hp} {ρ : En} {i : Nat} {a : Addr} {l l' : List Dt} {vs vs' : List V} (I : Renv L M F σ H ρ) (hi : ρ[i]? = some (some (.o (.l l)))) (hv : σ[i]? = some (some (.ref a))) (ha : H a = some (.lst vs)) (hM : M.contains i = false) (r : Rps H l' vs') :
    Renv L M F σ (upd H a (.lst vs')) (ρ.set i (some (.o (.l l')))) := by
  have b := but_upd (o := .lst vs') ha (fun xs z => by cases z)
  refine I.mut hi hv (notM hM) rfl (fun b ob => ?_) b (by rw [upd_same]; exact fun z => nomatch z) (fun b nb z => by rw [upd_ne nb] at z; exact z) ⟨a, vs', rfl, upd_same, r.tx b.tx⟩
  cases (show V.ref a = V.ref b from ob)
  rfl
theorem own_lst {F : Fr} {σ : St} {H : Hp} {ρ : En} {i : Nat} {l : List Dt} (I : Renv L M F σ H ρ) (hi : ρ[i]? = some (some (.o (.l l)))) : ∃ a vs, σ[i]? = some (some (.ref a)) ∧ H a = some (.lst vs) ∧ Rps H l vs := by
  obtain ⟨v, h1, h2⟩ := I.slots.get i _ hi
  obtain ⟨a, vs, rfl, ha, hr⟩ := I.ro i _ v hi h1
  exact ⟨a, vs, h1, ha, hr⟩
theorem st_app (i : Nat) {n : Str} {np apos cpos : Pos} (hM : M.contains i = false) (hN : X.N[i]? = some n) (hv : Vis X.env.scope n) (he : PE X e (tE C x)) (hd : (n == ("__debug__" : Str)) = false := by decide) (hcd : (n == ("__classdict__" : Str)) = false := by decide)
    (hbase : attributeBase (.Name n np) "append" X.env (eval (.Name n np) X.env) = eval (.Name n np) X.env := by rfl)
    (hfew : ((backTo cpos (starEach [e] X.env)).all (fun x => !x.1) && (backToKw cpos (keywordEach [] X.env)).all (fun x => x.1.isSome)
      && decide (([e] : List Expr).length + ([] : List Keyword).length + (if ([] : List Keyword).isEmpty then 0 else 1) < 30)) = true := by rfl)
    (hline : (apos.endLine == cpos.line) = true := by rfl) (hst : starEach [e] X.env = (false, eval e X.env) :: starEach [] X.env := by rfl) (hplain : (backTo cpos (starEach [] X.env)).any (·.1) = false := by rfl)
    (hs : swapsWith (.Call (.Attribute (.Name n np) "append" apos) [e] [] cpos) none pos.line X.env = pure false := by rfl) :
    PS X (.Expr (.Call (.Attribute (.Name n np) "append" apos) [e] [] cpos) pos) (tS C L M (sApp i x)) :=
  impS (ps_expr (pe_bm PySem.F.plainAttrs_list PySem.F.slot_list_append PySem.F.type_list_append mt_append (pv i hN hv hd hcd) (pa_cons he pa_nil hst) hbase hfew hline hst hplain) hs) fun D σ H ⟨F, ρ, I, q⟩ => by
    unfold sApp at q
    split at q
    · rename_i l hl
      obtain ⟨a, vs, h1, ha, hr⟩ := own_lst I hl
      refine ⟨_, h1, .inl ⟨rfl, vs, .inl (.inl ha)⟩, ρ, I.slots, Rz.P_mono (ofR_P q I) (fun _ k => k) fun s _ k H2 v2 e2 r2 => ?_⟩
      cases s with
      | p y =>
        simp only at k
        split at k
        · rename_i hlt
          refine ⟨a, vs, v2, rfl, rfl, e2 a _ ha, ?_, ?_⟩
          · rw [hr.length]
            exact Nat.lt_of_lt_of_le hlt (by decide)
          · exact k σ _ (lst_set (I.mono e2) hl h1 (e2 a _ ha) hM ((hr.mono e2).append (Rps.one r2)))
        · exact k.elim
      | l _ => exact k.elim
      | d _ => exact k.elim
      | ll _ => exact k.elim
      | pl _ _ => exact k.elim
    · exact q.elim
/-- xs[k] = e, xs of one's own -/
def sSetL (i : Nat) (k x : XE) : XS := fun ρ => match ρ[i]? with
  | some (some (.o (.l l))) => ofR (x ρ) ρ fun s => ofR (k ρ) ρ fun t => match s, t with
    | .p y, .p (.int j) => match ixN l.length j with
      | some m => .nx (ρ.set i (some (.o (.l (l.set m y)))))
      | none => .stuck
    | _, _ => .stuck
  | _ => .stuck
theorem st_setL (i : Nat) {t : Expr} (hM : M.contains i = false) (he : PE X e (tE C x)) (hg : PG X t (gSub (tVar i) (tE C y) rSetL)) (hs : swapsWithSole [t] e pos.line X.env = pure false := by rfl) (hw : swappedStores [t] e X.env = pure none := by rfl) (h1 : (assignEach [t] X.env).map (·.2) = [assign t X.env] := by rfl) :
    PS X (.Assign [t] e pos) (tS C L M (sSetL i y x)) := impS (ps_asg he hg hs hw (h1 := h1)) fun D σ H ⟨F, ρ, I, q⟩ => by
  unfold sSetL at q
  split at q
  · rename_i l hl
    refine ⟨ρ, I.slots, Rz.P_mono (ofR_P q I) (fun _ k => k) fun s _ k H2 v2 e2 r2 => ?_⟩
    obtain ⟨a, vs, h1, ha, hr⟩ := own_lst (I.mono e2) hl
    refine ⟨_, h1, ρ, (I.mono e2).slots, Rz.P_mono (ofR_P k (I.mono e2)) (fun _ k => k) fun t _ k H3 v3 e3 r3 => ?_⟩
    cases s with
    | p y =>
      cases t with
      | p z =>
        cases z with
        | int j =>
          simp only at k
          split at k
          · rename_i m hm
            cases (rs_int r3)
            have ha3 := e3 a _ ha
            have hr3 := hr.mono e3
            exact ⟨a, vs, j, m, rfl, rfl, ha3, by rw [hr.length]; exact hm, k σ _ (lst_set ((I.mono e2).mono e3) hl h1 ha3 hM (hr3.set (Rp.mono e3 r2) m))⟩
          · exact k.elim
        | _ => exact k.elim
      | _ => exact k.elim
    | l _ => exact k.elim
    | d _ => exact k.elim
    | ll _ => exact k.elim
    | pl _ _ => exact k.elim
  · exact q.elim
end

/-! ### defs -/
def initE (n k : Nat) (ss : List Sv) : En := (ss.map fun s => some (Sl.v s)) ++ List.replicate (k - n) none
def outD (o : Out) : Rz Sv := match o with
  | .rt s _ => .ok s
  | .nx _ => .ok (.p .non)
  | .exc c _ => .exc c
  | _ => .stuck
def runD (n k : Nat) (s : XS) : List Sv → Rz Sv := fun ss => if ss.length = n then outD (s (initE n k ss)) else .stuck
def E1 (cl : Nat → Addr) (E : XK) : Cn := ⟨fun cls d _ H => E cls d H, cl⟩
theorem init_get {H : Hp} {N : List Str} : ∀ {ss : List Sv} {vs : List V} (m : Nat), Rss H ss vs → ∀ (i : Nat) (sl : Sl), ((ss.map fun s => some (Sl.v s)) ++ List.replicate m none)[i]? = some (some sl) → ∃ v, (vs.map some ++ List.replicate m (none : Option V))[i]? = some (some v) ∧ Rs H sl.s v ∧ ∃ s, sl = .v s
  | [], _, m, h, i, sl, q => by
    cases h
    simp only [List.map_nil, List.nil_append, List.getElem?_replicate] at q
    split at q <;> cases q
  | s :: ss, _, m, h, 0, sl, q => by
    obtain ⟨v, r, rfl, h1, h2⟩ := h
    cases (Option.some.inj (Option.some.inj q))
    exact ⟨v, rfl, h1, s, rfl⟩
  | s :: ss, _, m, h, i + 1, sl, q => by
    obtain ⟨v, r, rfl, h1, h2⟩ := h
    exact init_get (N := N) m h2 i sl q
theorem init_renv {N : List Str} {H : Hp} {ss : List Sv} {vs : List V} {n k : Nat} (hk : N.length = k) (hn : ss.length = n) (h : Rss H ss vs) : Renv [] [] ⟨H, fun _ => False, []⟩ (L2.start N vs) H (initE n k ss) := by
  have hl : vs.length = n := by rw [h.length, hn]
  have ig := init_get (N := N) (k - n) h
  have no : ∀ (i : Nat) (s : Sv), (initE n k ss)[i]? = some (some (.o s)) → False := fun i s q => by
    obtain ⟨_, _, _, t, e⟩ := ig i _ q
    cases e
  refine ⟨fun a o q _ => q, fun a q => q, ⟨by unfold L2.start initE; simp [hl, hk, hn], fun i sl q => ?_⟩, fun i s v q => (no i s q).elim, fun i s v a q => (no i s q).elim, fun i j s t v u a _ q => (no i s q).elim, fun p hp => by cases hp⟩
  obtain ⟨v, h1, h2, _⟩ := ig i sl q
  refine ⟨v, ?_, h2⟩
  show (vs.map some ++ List.replicate (N.length - vs.length) none)[i]? = some (some v)
  rw [hk, hl]
  exact h1
theorem fn_ok {P : Program} {w : World} {K : PySem.W.Frag} {mg : Str → Option Value} {base : Heap} {x qual : Str} {stm : Stmt} {f : Addr} {fd : FuncData} {N ps : List Str} {j n k : Nat} {cl : Nat → Addr} {s : XS} (F : Fun K x qual stm f fd) (S : FnScope N ps (defScope stm)) (hk : N.length = k) (hn : ps.length = n)
    (hbody : ∀ (cdv : Value) (A : Around) (outer : List Env) (s0 : Shared) (H : Hp) (E : XK), Room j (A.deeper (PyProof.Rows.envOfC qual (defScope stm) s0.heap.objs.size f cdv)) →
      PSs (cxOf (L2.CX P w) P w K mg base N qual (defScope stm) f cdv A outer s0 H E) (defBody stm) (tS (E1 cl E) [] [] s)) : FnOk P w K mg base (L2.CX P w) (j + 1) f fd ps (spM cl n (runD n k s)) := by
  refine F.okX S (fun vs H Q E ⟨ss, hl, hr, _⟩ => by rw [hr.length, hl, hn]) (fun cdv A outer s0 H vs Q E hr ⟨ss, hl, hs, q⟩ => ⟨tS (E1 cl E) [] [] s, hbody cdv A outer s0 H E hr, ⟨H, fun _ => False, []⟩, initE n k ss, init_renv hk hl hs, ?_⟩)
  unfold runD at q
  rw [if_pos hl] at q
  have base_ : ∀ {σ' : St} {H' : Hp} {ρ' : En}, Renv [] [] ⟨H, fun _ => False, []⟩ σ' H' ρ' → Same H H' := fun I a o h => I.keep a o h fun z => z
  cases hu : s (initE n k ss) with
  | stuck => rw [hu] at q; exact q.elim
  | exc c ρ' => rw [hu] at q; exact fun σ' H' I => q H' (base_ I)
  | nx ρ' => rw [hu] at q; exact fun σ' H' I => q H' .non (base_ I) rfl fun a z => z.elim
  | bk ρ' => rw [hu] at q; exact q.elim
  | ct ρ' => rw [hu] at q; exact q.elim
  | rt r ρ' =>
    rw [hu] at q
    exact fun σ' H' v I ro oc _ => q H' v (base_ I) ro fun a oa => (oc a oa).elim (fun z => z) fun z => z.elim
/-- what a body may raise with its words -/
theorem takesE {P : Program} {w : World} {K : PySem.W.Frag} {mg : Str → Option Value} {base : Heap} {N : List Str} {qual : Str} {sc : Scope} {f : Addr} {cdv : Value} {A : Around} {outer : List Env} {s0 : Shared} {H : Hp} {E : XK} {cl : Nat → Addr} :
    Takes (cxOf (L2.CX P w) P w K mg base N qual sc f cdv A outer s0 H E) (E1 cl E).W := takes_of rfl rfl rfl rfl
theorem passesE {P : Program} {w : World} {K : PySem.W.Frag} {mg : Str → Option Value} {base : Heap} {N : List Str} {qual : Str} {sc : Scope} {f : Addr} {cdv : Value} {A : Around} {outer : List Env} {s0 : Shared} {H : Hp} {E : XK} :
    let X := cxOf (L2.CX P w) P w K mg base N qual sc f cdv A outer s0 H E
    PassesOwn (model X.prog X.w) X.A X.env X.xe := passes_of rfl
/-- a refusal's class -/
structure ErrOk (K : PySem.W.Frag) (mg : Str → Option Value) (n : Str) (C : Addr) : Prop where
  x : PySem.W.excIn K C [.type "ValueError", .type "Exception", .type "BaseException", .type "object"] "ValueError.__new__" = true
  g : mg n = some (.ref C)
  k : PySem.W.keepIn K (.ref C) = true
  b : PySem.W.subIn K (.ref C) (.type "BaseException") = some true
  t : PySem.W.typeIn K (.ref C) = some (.type "type")
theorem st_raiseE {X : Cx} {C : Cn} {L M : List Nat} {n : Str} {m : Str} {j : Nat} {p p2 pos pos2 : Pos} {cc : Nat} (hc : X.calm = true) (tk : Takes X C.W) (e : ErrOk X.K X.mg n (C.cl cc)) (hg : Gl X n) (hdb : (n == ("__debug__" : Str)) = false := by decide) :
    PS X (.Raise (some (.Call (.Name n p) [.Constant (.str m) j p2] [] pos2)) none pos) (tS C L M (sRaise cc)) :=
  st_raise hc tk (pmk_own PySem.F.excBase_ValueError e.x e.g e.k (raises_own e.b e.t) hg hdb) fun σ H Q q => q
end Fw

namespace Fw
open PySem L2

/-! ### try: .. except A: .. except B: .. -/
def pickD : List ((Nat → Bool) × XS) → Nat → XS
  | [], c, ρ => .exc c ρ
  | (p, s) :: r, c, ρ => if p c = true then s ρ else pickD r c ρ
def sTry (u : XS) (hs : List ((Nat → Bool) × XS)) : XS := fun ρ => match u ρ with
  | .exc c ρ' => pickD hs c ρ'
  | o => o
/-- one clause: its class, what it takes, its suite -/
structure Cl1 where
  c : Value
  p : Nat → Bool
  s : XS
inductive HdsD (X : Cx) (C : Cn) (L M : List Nat) : List ExceptHandler → List Cl1 → Prop
  | nil : HdsD X C L M [] []
  | cons {x : Str} {k : Cl1} {b₀ : Stmt} {suite : List Stmt} {np pos' : Pos} {hds : List ExceptHandler} {l : List Cl1} (hc : Names X x k.c) (he : ∀ n, PySem.W.exmOne X.K (.ref (C.cl n)) k.c = some (k.p n))
      (hsu : ∀ (a : Addr) (oe : Obj) (pn : List (Addr × Obj)), PSs (X.suite a ((a, oe) :: pn)) (b₀ :: suite) (tS C.no L M k.s)) (r : HdsD X C L M hds l) :
      HdsD X C L M (.ExceptHandler (some (.Name x np)) none (b₀ :: suite) pos' :: hds) (k :: l)
section
variable {X : Cx} {C : Cn} {L M : List Nat} {u : XS} {pos : Pos}
theorem no_out {F : Fr} {D : Ends} {o : Out} (h : OutP C L M F D o) (hx : ∀ c ρ, o ≠ .exc c ρ) : OutP C.no L M F D o := by
  cases o with
  | exc c ρ => exact (hx c ρ rfl).elim
  | stuck => exact h
  | nx ρ => exact h
  | bk ρ => exact h
  | ct ρ => exact h
  | rt s ρ => exact h
theorem hds_ok {l : List Cl1} : ∀ {hds : List ExceptHandler}, HdsD X C L M hds l → HdsOk X hds (l.map fun k => (k.c, fun _ _ _ => tS C.no L M k.s))
  | _, .nil => .nil
  | _, .cons hc he hsu r => .cons hc (fun a oe cls d pn _ _ => hsu a oe pn) (hds_ok r)
theorem hds_exm {l : List Cl1} : ∀ {hds : List ExceptHandler}, HdsD X C L M hds l → ∀ k ∈ l, ∀ n, PySem.W.exmOne X.K (.ref (C.cl n)) k.c = some (k.p n)
  | _, .nil, k, h => by cases h
  | _, .cons hc he hsu r, k, h => by
    cases h with
    | head => exact he
    | tail _ h => exact hds_exm r k h
theorem many_ok {F : Fr} {D : Ends} {σ' : St} {H' : Hp} {ρ' : En} {c : Nat} (I : Renv L M F σ' H' ρ') : ∀ {l : List Cl1}, (∀ k ∈ l, ∀ n, PySem.W.exmOne X.K (.ref (C.cl n)) k.c = some (k.p n)) → (∀ k ∈ l, ∀ ρ c ρ2, k.s ρ ≠ .exc c ρ2) → OutP C L M F D (pickD (l.map fun k => (k.p, k.s)) c ρ') →
    wMany X.K C.W D (l.map fun k => (k.c, fun _ _ _ => tS C.no L M k.s)) (.ref (C.cl c)) none σ' H'
  | [], _, _, q => q σ' H' I
  | k :: l, he, hx, q => by
    refine ⟨k.p c, he k List.mem_cons_self c, fun hb a _ => ⟨F, ρ', I, ?_⟩, fun hb => many_ok I (fun k' h => he k' (List.mem_cons_of_mem _ h)) (fun k' h => hx k' (List.mem_cons_of_mem _ h)) ?_⟩
    · have q : OutP C L M F D (if k.p c = true then k.s ρ' else pickD (l.map fun k => (k.p, k.s)) c ρ') := q
      rw [if_pos hb] at q
      exact no_out q (hx k List.mem_cons_self ρ')
    · have q : OutP C L M F D (if k.p c = true then k.s ρ' else pickD (l.map fun k => (k.p, k.s)) c ρ') := q
      rw [if_neg (by rw [hb]; exact Bool.false_ne_true)] at q
      exact q
theorem st_try {body : List Stmt} {h₀ : ExceptHandler} {hds : List ExceptHandler} {l : List Cl1} (hs : X.stack = X.env :: X.outer) (hf : X.env.frame = some X.env.locals) (tk : Takes X C.W)
    (hb : ∀ (W : WX) (pn : List (Addr × Obj)) (xe : Value → Shared → Prop), Takes (X.tr pn xe) W → PassesOwn (model X.prog X.w) X.A X.env xe → PSs (X.tr pn xe) body (tS ⟨W, C.cl⟩ L M u))
    (hh : HdsD X C L M (h₀ :: hds) l) (hx : ∀ k ∈ l, ∀ ρ c ρ2, k.s ρ ≠ .exc c ρ2) : PS X (.Try body (h₀ :: hds) [] [] pos) (tS C L M (sTry u (l.map fun k => (k.p, k.s)))) :=
  impS (ps_try_many (tb := fun W => tS ⟨W, C.cl⟩ L M u) hs hf tk hb (hds_ok hh)) fun D σ H ⟨F, ρ, I, q⟩ => ⟨F, ρ, I, by
    unfold sTry at q
    cases hu : u ρ with
    | stuck => rw [hu] at q; exact q
    | nx ρ' => rw [hu] at q; exact q
    | bk ρ' => rw [hu] at q; exact q
    | ct ρ' => rw [hu] at q; exact q
    | rt s ρ' => rw [hu] at q; exact q
    | exc c ρ' =>
      rw [hu] at q
      exact fun σ' H' I' => many_ok I' (hds_exm hh) hx q⟩
end
/-! ### try: .. except A as n: suite that returns -/
def sTryAs (u : XS) (p : Nat → Bool) (i : Nat) (f : Nat → En → Rz Sv) : XS := fun ρ => match u ρ with
  | .exc c ρ' => if p c = true then (if i < ρ'.length then (match f c ρ' with
    | .ok r => .rt r (ρ'.set i none)
    | _ => .stuck) else .stuck) else .exc c ρ'
  | o => o
theorem forget_at {ρ : En} {i j : Nat} {sl : Option Sl} {t : Sl} (q : (ρ.set i none)[j]? = some (some t)) : (ρ.set i sl)[j]? = some (some t) := by
  by_cases e : i = j
  · subst e
    by_cases hi : i < ρ.length
    · rw [List.getElem?_set_self hi] at q
      cases q
    · rw [List.getElem?_eq_none (by simpa using hi)] at q
      cases q
  · rw [List.getElem?_set_ne e] at q ⊢
    exact q
theorem Renv.forget {L M : List Nat} {F : Fr} {σ : St} {H : Hp} {ρ : En} {i : Nat} {sl : Option Sl} (h : Renv L M F σ H (ρ.set i sl)) : Renv L M F σ H (ρ.set i none) := by
  have at_ : ∀ (j : Nat) (t : Sl), (ρ.set i none)[j]? = some (some t) → (ρ.set i sl)[j]? = some (some t) := fun j t q => by
    by_cases e : i = j
    · subst e
      by_cases hi : i < ρ.length
      · rw [List.getElem?_set_self hi] at q
        cases q
      · rw [List.getElem?_eq_none (by simpa using hi)] at q
        cases q
    · rw [List.getElem?_set_ne e] at q ⊢
      exact q
  exact ⟨h.keep, h.alive, ⟨by simpa using h.slots.len, fun j t q => h.slots.get j t (at_ j t q)⟩, fun j s v q => h.ro j s v (at_ j _ q), fun j s v a q => h.own j s v a (at_ j _ q), fun j k s t v u a n q q2 => h.sep j k s t v u a n (at_ j _ q) (at_ k _ q2), h.fix⟩
section
variable {X : Cx} {C : Cn} {L M : List Nat} {u : XS} {pos : Pos}
theorem st_tryAs {x n : Str} {k : Value} {p : Nat → Bool} {i : Nat} {body suite : List Stmt} {b₀ : Stmt} {np pos' : Pos} {s : Addr → Nat → XS} {f : Nat → En → Rz Sv} (hs : X.stack = X.env :: X.outer) (hf : X.env.frame = some X.env.locals) (hN : X.N.Nodup) (hi : X.N[i]? = some n) (hln : X.env.kindOf n = some .local) (hL : L.contains i = false) (hc : Names X x k) (tk : Takes X C.W)
    (hb : ∀ (W : WX) (pn : List (Addr × Obj)) (xe : Value → Shared → Prop), Takes (X.tr pn xe) W → PassesOwn (model X.prog X.w) X.A X.env xe → PSs (X.tr pn xe) body (tS ⟨W, C.cl⟩ L M u))
    (he : ∀ n, PySem.W.exmOne X.K (.ref (C.cl n)) k = some (p n))
    (hsu : ∀ (a : Addr) (oe : Obj) (c : Nat) (pn : List (Addr × Obj)), Zc (.ref (C.cl c)) none oe → (∃ vs, oe.data = .fields vs) → PSs (X.suite a ((a, oe) :: pn)) (b₀ :: suite) (tS C.no L M (s a c)))
    (hx : ∀ a c ρ r, i < ρ.length → f c ρ = .ok r → s a c (setV i (.adr a) ρ) = .rt r (setV i (.adr a) ρ)) :
    PS X (.Try body [.ExceptHandler (some (.Name x np)) (some n) (b₀ :: suite) pos'] [] [] pos) (tS C L M (sTryAs u p i f)) :=
  impS (ps_try_as (tb := fun W => tS ⟨W, C.cl⟩ L M u) (ts := fun a cls d D σ H => ∃ c, cls = .ref (C.cl c) ∧ d = none ∧ tS C.no L M (s a c) D σ H) hs hf hN hi hln hc tk hb fun a oe cls d pn hz hd => ⟨fun pins s0 σ H D I ⟨c, e1, e2, q⟩ => by
    subst e1 e2
    exact (hsu a oe c pn hz hd).run pins s0 σ H D I q⟩) fun D σ H ⟨F, ρ, I, q⟩ => ⟨F, ρ, I, by
    unfold sTryAs at q
    cases hu : u ρ with
    | stuck => rw [hu] at q; exact q
    | nx ρ' => rw [hu] at q; exact q
    | bk ρ' => rw [hu] at q; exact q
    | ct ρ' => rw [hu] at q; exact q
    | rt s ρ' => rw [hu] at q; exact q
    | exc c ρ' =>
      rw [hu] at q
      simp only at q
      intro σ' H' I'
      refine ⟨p c, he c, fun hb a ha => ⟨c, rfl, rfl, F, setV i (.adr a) ρ', I'.setV (show Rp H' (.adr a) (.ref a) from rfl) (notM hL), ?_⟩, fun hb => ?_⟩
      · rw [if_pos hb] at q
        by_cases hlt : i < ρ'.length
        rotate_left
        · rw [if_neg hlt] at q
          exact q.elim
        rw [if_pos hlt] at q
        cases hfc : f c ρ' with
        | stuck => rw [hfc] at q; exact q.elim
        | exc _ => rw [hfc] at q; exact q.elim
        | ok r =>
          rw [hfc] at q
          rw [hx a c ρ' r hlt hfc]
          exact fun σ2 H2 v I2 ro oc sp => q σ2 H2 v (Renv.forget I2) ro oc fun a oa j t u hj q1 q2 => sp a oa j t u hj (forget_at q1) q2
      · rw [if_neg (by rw [hb]; exact Bool.false_ne_true)] at q
        exact q σ' H' I'⟩
/-- isinstance(e, A) of the exception at hand -/
def isXD (a : Addr) (b : Bool) (s : Sv) : Rz Sv := match s with
  | .p (.adr a') => if a' = a then .ok (.p (.bl b)) else .stuck
  | _ => .stuck
theorem e_isX {C : Cn} {a : Addr} {cc : Addr} {oe : Obj} {pn : List (Addr × Obj)} {i : Nat} {n m : Str} {cv : Value} {v : V} {b : Bool} {p p2 p3 : Pos} (Xc : ExcC X.K cc) (hz : Zc (.ref cc) none oe) (hf : ∃ vs, oe.data = .fields vs)
    (hg : Gl (X.suite a ((a, oe) :: pn)) "isinstance") (hm : X.mg "isinstance" = none) (hN : X.N[i]? = some n) (hvis : Vis X.env.scope n) (hcls : PE (X.suite a ((a, oe) :: pn)) (.Name m p3) (tC v)) (hv : ∀ u, RelV v u → u = cv) (hk : PySem.W.kitOne X.K (.ref cc) cv = some b)
    (hst : starEach [.Name n p2, .Name m p3] X.env = (false, eval (.Name n p2) X.env) :: starEach [.Name m p3] X.env := by rfl) (hst2 : starEach [.Name m p3] X.env = (false, eval (.Name m p3) X.env) :: starEach [] X.env := by rfl) (hpl : (backTo pos (starEach [.Name m p3] X.env)).any (·.1) = false := by rfl)
    (hd : (n == ("__debug__" : Str)) = false := by decide) (hcd : (n == ("__classdict__" : Str)) = false := by decide) :
    PE (X.suite a ((a, oe) :: pn)) (.Call (.Name "isinstance" p) [.Name n p2, .Name m p3] [] pos) (tE C (xU (isXD a b) (xVar i))) :=
  imp (pe_callB (call_isE Xc hz hf) hg hm PyProof.Rows.boot_isinstance (pa_cons (pe_var (X := X.suite a ((a, oe) :: pn)) (i := i) hN hvis hd hcd) (pa_cons hcls pa_nil hst2) hst) (he := hst) (hpl := hpl)) fun σ H Q ⟨ρ, hs, q⟩ => by
    unfold xU xVar at q
    split at q
    · rename_i sl h
      obtain ⟨w, h1, h2⟩ := hs.get i sl h
      cases hx : isXD a b sl.s with
      | stuck =>
        simp only [Rz.bind_ok, hx] at q
        exact q.elim
      | exc k =>
        unfold isXD at hx
        split at hx
        · split at hx <;> cases hx
        · cases hx
      | ok r =>
        simp only [Rz.bind_ok, hx] at q
        unfold isXD at hx
        split at hx
        · rename_i a' e
          split at hx
          · rename_i e2
            cases hx
            subst e2
            rw [e] at h2
            cases (show w = V.ref a' from h2)
            exact ⟨_, h1, v, cv, b, rfl, hv, hk, q H _ (Same.refl H) rfl⟩
          · cases hx
        · cases hx
    · exact q.elim
end
/-! suites of tests that return -/
def pOnly : Sv → Rz Sv
  | .p x => .ok (.p x)
  | _ => .stuck
def Sut (s : XS) (ρ1 : En) (f : Rz Sv) : Prop := ∀ r, f = .ok r → s ρ1 = .rt r ρ1
theorem sut_ret {x : XE} {ρ1 : En} {y : Rz Sv} (h : x ρ1 = y) : Sut (sRet x) ρ1 (y.bind pOnly) := fun r e => by
  subst h
  unfold sRet
  cases hx : x ρ1 with
  | stuck => rw [hx] at e; cases e
  | exc c => rw [hx] at e; cases e
  | ok s =>
    rw [hx] at e
    cases s with
    | p y => cases e; rfl
    | l _ => cases e
    | d _ => cases e
    | ll _ => cases e
    | pl _ _ => cases e
theorem sut_if {c : XT} {x : XE} {s : XS} {ρ1 : En} {d : Rz Bool} {f g : Rz Sv} (hc : c ρ1 = d) (h1 : Sut (sRet x) ρ1 f) (h2 : Sut s ρ1 g) : Sut (sSeq (sIf c (sRet x) sNil) s) ρ1 (d.bind fun b => if b = true then f else g) := fun r e => by
  unfold sSeq sIf
  rw [hc]
  cases d with
  | stuck => cases e
  | exc c => cases e
  | ok b =>
    cases b with
    | true =>
      have e : f = .ok r := e
      show (match sRet x ρ1 with | .nx ρ' => s ρ' | o => o) = .rt r ρ1
      rw [h1 r e]
    | false => exact h2 r e
theorem var_at {i j : Nat} {x : Dt} {ρ : En} (h : i ≠ j) : xVar j (setV i x ρ) = xVar j ρ := by
  unfold xVar setV
  rw [List.getElem?_set_ne h]
theorem isx_at {i : Nat} {a : Addr} {b : Bool} {ρ : En} (h : i < ρ.length) : xU (isXD a b) (xVar i) (setV i (.adr a) ρ) = .ok (.p (.bl b)) := by
  unfold xU xVar setV
  rw [List.getElem?_set_self h]
  show (if a = a then Rz.ok (Sv.p (.bl b)) else .stuck) = _
  rw [if_pos rfl]
theorem nx_asg {i : Nat} {x : Dt} : ∀ (ρ : En) (c : Nat) (ρ2 : En), sAsg i (xC x) ρ ≠ .exc c ρ2 := fun ρ c ρ2 h => by cases h
theorem nx_ret {x : Dt} : ∀ (ρ : En) (c : Nat) (ρ2 : En), sRet (xC x) ρ ≠ .exc c ρ2 := fun ρ c ρ2 h => by cases h
theorem nx_nil : ∀ (ρ : En) (c : Nat) (ρ2 : En), sNil ρ ≠ .exc c ρ2 := fun ρ c ρ2 h => by cases h
/-- a def at hand -/
structure Dn (P : Program) (w : World) (K : PySem.W.Frag) (mg : Str → Option Value) (base : Heap) (k : Nat) (nm : Str) (f : Addr) (fd : FuncData) (ps : List Str) (sp : Sp) : Prop where
  ok : FnOk P w K mg base (L2.CX P w) k f fd ps sp
  g : mg nm = some (.ref f)
  k : PySem.W.keepIn K (.ref f) = true
  b : Binds K fd ps []
end Fw

namespace Fw
open PySem L2
/-! ### lists of texts: index, in -/
def strsOf : List Dt → Option (List Str)
  | [] => some []
  | .str s :: r => (strsOf r).map fun ss => s :: ss
  | _ :: _ => none
theorem strsOf_ok {H : Hp} : ∀ {l : List Dt} {ss : List Str} {vs : List V}, strsOf l = some ss → Rps H l vs → vs = ss.map V.str
  | [], ss, vs, h, r => by cases h; cases r; rfl
  | .str s :: t, ss, vs, h, r => by
    cases e : strsOf t with
    | none => simp [strsOf, e] at h
    | some us =>
      simp [strsOf, e] at h
      subst h
      obtain ⟨v, r', rfl, h1, h2⟩ := r
      cases (show v = V.str s from h1)
      rw [strsOf_ok e h2]
      rfl
  | .non :: _, _, _, h, _ => by cases h
  | .bl _ :: _, _, _, h, _ => by cases h
  | .int _ :: _, _, _, h, _ => by cases h
  | .adr _ :: _, _, _, h, _ => by cases h
  | .tup _ :: _, _, _, h, _ => by cases h
def idxOf (s : Str) : List Str → Nat → Option Nat
  | [], _ => none
  | t :: r, k => if t = s then some k else idxOf s r (k + 1)
theorem idxOf_ok {s : Str} : ∀ {l : List Str} {k j : Nat}, idxOf s l k = some j → ∃ i, j = k + i ∧ l[i]? = some s ∧ ∀ m, m < i → ∀ z, l[m]? = some z → z ≠ s
  | [], k, j, h => by cases h
  | t :: r, k, j, h => by
    unfold idxOf at h
    split at h
    · rename_i e
      cases h
      exact ⟨0, rfl, by rw [e]; rfl, fun m hm => by omega⟩
    · rename_i e
      obtain ⟨i, rfl, h1, h2⟩ := idxOf_ok h
      refine ⟨i + 1, by omega, h1, fun m hm z hz => ?_⟩
      cases m with
      | zero =>
        cases (Option.some.inj hz)
        exact e
      | succ m => exact h2 m (by omega) z hz
theorem flat_str (ss : List Str) : (ss.map V.str).all flatV = true := by
  induction ss with
  | nil => rfl
  | cons s ss ih => simpa [flatV] using ih
def indexD : Sv → Sv → Rz Sv := fun s t => match s, t with
  | .l l, .p (.str y) => match strsOf l with
    | some ss => match idxOf y ss 0 with
      | some j => .ok (.p (.int j))
      | none => .stuck
    | none => .stuck
  | _, _ => .stuck
/-- y in l -/
def inL (neg : Bool) : Sv → Sv → Rz Sv := fun s t => match s, t with
  | .p (.str y), .l l => match strsOf l with
    | some ss => .ok (.p (.bl (if neg then !(ss.any fun t => t == y) else ss.any fun t => t == y)))
    | none => .stuck
  | _, _ => .stuck
abbrev inD := inL false
abbrev ninD := inL true
theorem any_str (y : Str) (ss : List Str) : inV (.str y) (ss.map V.str) = ss.any fun t => t == y := by
  unfold inV
  rw [List.any_map]
  rfl
section
variable {X : Cx} {C : Cn} {L M : List Nat} {x y z : XE} {c d : XT} {xs : XA} {u w : XS} {a b e tg : Expr} {es : List Expr} {pos p : Pos}
theorem in_x (neg : Bool) (s t : Sv) (k : Nat) : inL neg s t ≠ .exc k := fun h => by
  unfold inL at h
  split at h
  · split at h <;> cases h
  · cases h
theorem in_r {K : PySem.W.Frag} (neg : Bool) : ∀ (H : Hp) (s t : Sv) (v u : V) (Q : VK) (w : Sv), Rs H s v → Rs H t u → inL neg s t = .ok w → (∀ H' z, Same H H' → Rs H' w z → Q z H') → rIn K neg v u H Q := fun H s t v u Q w hv hu e q => by
  unfold inL at e
  split at e
  · rename_i y l
    split at e
    · rename_i ss hss
      cases e
      obtain ⟨a, vs, rfl, ha, hr⟩ := hu
      cases (show v = V.str y from hv)
      have e2 := strsOf_ok hss hr
      subst e2
      refine ⟨a, _, rfl, .inl (.inl ha), rfl, flat_str ss, ?_⟩
      rw [any_str]
      exact q H _ (Same.refl H) rfl
    · cases e
  · cases e
theorem c_in : Cmp X .In inD (rIn X.K false) := ⟨op_in_seq, in_x _, in_r _⟩
theorem c_nin : Cmp X .NotIn ninD (rIn X.K true) := ⟨op_notIn_seq, in_x _, in_r _⟩
def xIdx (x y : XE) : XE := fun ρ => (x ρ).bind fun s => match s with
  | .l l => (y ρ).bind fun t => indexD (.l l) t
  | _ => .stuck
theorem indexD_ok {l : List Dt} {t : Sv} {w : Sv} (h : indexD (.l l) t = .ok w) : ∃ yy ss i, t = .p (.str yy) ∧ strsOf l = some ss ∧ w = .p (.int (i : Nat)) ∧ ss[i]? = some yy ∧ ∀ m, m < i → ∀ z, ss[m]? = some z → z ≠ yy := by
  unfold indexD at h
  split at h
  · rename_i l' y e1
    cases e1
    split at h
    · rename_i ss hss
      split at h
      · rename_i j hj
        cases h
        obtain ⟨i, rfl, h1, h2⟩ := idxOf_ok hj
        exact ⟨y, ss, i, rfl, hss, by rw [Nat.zero_add], h1, h2⟩
      · cases h
    · cases h
  · cases h
theorem indexD_x {l : List Dt} {t : Sv} {c : Nat} : indexD (.l l) t ≠ .exc c := fun h => by
  unfold indexD at h
  split at h
  · split at h
    · split at h <;> cases h
    · cases h
  · cases h
theorem e_index {apos cpos : Pos} (ha : PE X a (tE C x)) (hb : PE X b (tE C y)) 
    (hbase : attributeBase a "index" X.env (eval a X.env) = eval a X.env := by rfl)
    (hfew : ((backTo cpos (starEach [b] X.env)).all (fun x => !x.1) && (backToKw cpos (keywordEach [] X.env)).all (fun x => x.1.isSome)
      && decide (([b] : List Expr).length + ([] : List Keyword).length + (if ([] : List Keyword).isEmpty then 0 else 1) < 30)) = true := by rfl)
    (hline : (apos.endLine == cpos.line) = true := by rfl) (hst : starEach [b] X.env = (false, eval b X.env) :: starEach [] X.env := by rfl) (hplain : (backTo cpos (starEach [] X.env)).any (·.1) = false := by rfl) :
    PE X (.Call (.Attribute a "index" apos) [b] [] cpos) (tE C (xIdx x y)) :=
  imp (pe_bm PySem.F.plainAttrs_list PySem.F.slot_list_index PySem.F.type_list_index mt_index ha (pa_cons hb pa_nil hst) hbase hfew hline hst hplain) fun σ H Q ⟨ρ, hs, q⟩ =>
    ⟨ρ, hs, Rz.P_mono (Rz.P_bind q) (fun _ k => k) fun s _ k H1 v e1 r1 => by
      cases s with
      | p x => exact k.elim
      | d x => exact k.elim
      | ll x => exact k.elim
      | pl x y => exact k.elim
      | l l =>
        obtain ⟨a, vs, rfl, ha, hr⟩ := r1
        refine ⟨.inl ⟨rfl, vs, .inl ha⟩, ρ, hs.mono e1, Rz.P_mono (Rz.P_bind (show ((y ρ).bind fun t => indexD (.l l) t).P _ _ from k)) (fun _ k => Ex.mono k e1) fun t _ k2 H2 u e2 r2 => ?_⟩
        cases hi : indexD (.l l) t with
        | stuck => rw [hi] at k2; exact k2.elim
        | exc c => exact (indexD_x hi).elim
        | ok w =>
          rw [hi] at k2
          obtain ⟨yy, ss, i, rfl, hss, rfl, h1, h2⟩ := indexD_ok hi
          cases (show u = V.str yy from r2)
          have e4 := strsOf_ok hss (hr.mono e2)
          subst e4
          refine ⟨a, _, _, i, .str yy, rfl, rfl, .inl (rd_same e2 ha), rfl, flat_str ss, by rw [List.getElem?_map, h1]; rfl, by simp [eqV], fun m z' hm hz => ?_, k2 H2 _ (e1.trans e2) rfl⟩
          rw [List.getElem?_map] at hz
          cases em : ss[m]? with
          | none => rw [em] at hz; cases hz
          | some zz =>
            rw [em] at hz
            cases hz
            exact beq_eq_false_iff_ne.mpr (h2 m hm zz em)⟩
/-- list + list -/
def catD : Sv → Sv → Rz Sv := fun s t => match s, t with
  | .l a, .l b => if a.length + b.length ≤ 1000000 then .ok (.l (a ++ b)) else .stuck
  | _, _ => .stuck
theorem e_cat (ha : PE X a (tF C x)) (hb : PE X b (tF C y)) : PE X (.BinOp a .Add b pos) (tF C (xB catD x y)) := imp (pe_op op_cat ha hb) fun σ H Q ⟨ρ, hs, q⟩ =>
  ⟨ρ, hs, Rz.P_mono (Rz.P_bind q) (fun _ k => k) fun s _ k H1 v e1 r1 o1 => ⟨ρ, hs.mono e1, Rz.P_mono (Rz.P_bind k) (fun _ k => k.mono e1) fun t _ k2 H2 u e2 r2 o2 => by
    cases s with
    | p _ => exact k2.elim
    | d _ => exact k2.elim
    | ll _ => exact k2.elim
    | pl _ _ => exact k2.elim
    | l l =>
      cases t with
      | p _ => exact k2.elim
      | d _ => exact k2.elim
      | ll _ => exact k2.elim
      | pl _ _ => exact k2.elim
      | l m =>
        obtain ⟨a, vs, rfl, ha, hr⟩ := r1.mono e2
        obtain ⟨b, ws, rfl, hb, hk⟩ := r2
        have k2 : (if l.length + m.length ≤ 1000000 then Rz.ok (Sv.l (l ++ m)) else .stuck).P (Ex C σ H) _ := k2
        split at k2
        · rename_i hl
          refine ⟨a, b, vs, ws, rfl, rfl, ha, hb, big (by rw [hr.length, hk.length]; exact hl), fun p hp => k2 _ _ ((e1.trans e2).trans (same_new hp)) ⟨p, _, rfl, upd_same, (hr.append hk).mono (same_new hp)⟩ fun c oc => ?_⟩
          cases (show V.ref p = V.ref c from oc)
          exact (e1.trans e2).free hp
        · exact k2.elim⟩⟩
end
end Fw

namespace Fw
open PySem L2
/-! ### the end of a law -/
def noLists (K : PySem.W.Frag) : Bool := K.all fun p => match p.2.cls with
  | .type n => !(n == "list")
  | _ => true
theorem lookup_mem {K : PySem.W.Frag} {a : Addr} {o : Obj} (h : K.lookup a = some o) : (a, o) ∈ K := by
  induction K with
  | nil => cases h
  | cons p r ih =>
    obtain ⟨b, ob⟩ := p
    unfold List.lookup at h
    split at h
    · rename_i e
      cases h
      have e : a = b := by simpa using e
      subst e
      exact List.mem_cons_self
    · exact List.mem_cons_of_mem _ (ih h)
theorem noLists_rd {K : PySem.W.Frag} {H : Hp} {a : Addr} {xs : List V} (h : noLists K = true) (s : SqL K H a xs) : Rd H a (.lst xs) := by
  rcases s with s | ⟨o, its, n, lk, hc, _⟩
  · exact s
  · have z := List.all_eq_true.mp h _ (lookup_mem lk)
    simp only [hc] at z
    cases z
def spLaw (K : PySem.W.Frag) : Sp := fun vs H Q _ => ∃ (a : Addr) (ns : List Int), vs = [.ref a] ∧ SqL K H a (ns.map V.int) ∧ ns.length ≤ 63 ∧ ∀ H', Q (.bl true) H'
theorem law_fn {P : Program} {w : World} {K : PySem.W.Frag} {mg : Str → Option Value} {base : Heap} {k : Nat} {f : Addr} {fd : FuncData} {ps : List Str} {cl : Nat → Addr} {m : List Sv → Rz Sv} (nl : noLists K = true) (F : FnOk P w K mg base (L2.CX P w) k f fd ps (spM cl 1 m))
    (hm : ∀ ns : List Int, ns.length ≤ 63 → m [.l (ns.map Dt.int)] = .ok (.p (.bl true))) : FnOk P w K mg base (L2.CX P w) k f fd ps (spLaw K) :=
  F.imp fun vs H Q E ⟨a, ns, e, hs, hl, hq⟩ => by
    subst e
    refine ⟨[.l (ns.map Dt.int)], rfl, ⟨.ref a, [], rfl, ⟨a, _, rfl, noLists_rd nl hs, Rps.of_ints ns⟩, rfl⟩, ?_⟩
    rw [hm ns hl]
    exact fun H' v _ ro _ => by
      cases (show v = V.bl true from ro)
      exact hq H'
theorem walk_law {l : PySem.W.OpenLaw} {k : Nat} {q : Program} {loose : List Str} {XP : (Str → Option Value) → Heap → Prop} {YP : World → Heap → Prop} {d : DefRec} {K : Params → PySem.W.Frag} {x : Str} (hn : l.most = some 63) (hdf : d.params.defaults = []) (hr : Room k callerA)
    (hY : ∀ (w : World) (h : Heap), YP w h → (K w.params).In h)
    (F : ∀ (w : World) (mg : Str → Option Value) (fa : Addr) (h : Heap), (K w.params).In h → h.Ns mainGlobals mg → mg d.name = some (.ref fa) →
      ∃ fd : FuncData, (∀ (s : Shared) (u : Value), BindsTo s fd ⟨[u], []⟩ [(x, u)]) ∧ ∀ base : Heap, (K w.params).In base → base.Ns mainGlobals mg → FnOk l.prog w (K w.params) mg base (L2.CX l.prog w) k fa fd [x] (spLaw (K w.params))) :
    PySem.W.WalkO q loose XP YP l.row.toRowW d [] (fun f vs => PySem.call f vs) :=
  L2.walk_of (n := 63) (k := k) (x := x) (CX := fun w => L2.CX l.prog w) (sp := fun w => spLaw (K w.params)) hn (by decide) hdf hr hY F (fun _ _ a ns hl _ hS => ⟨a, ns, rfl, hS, hl, fun _ => rfl⟩) fun _ _ _ _ _ z => by
    obtain ⟨_, _, _, _, _, _, _, _, _, _, _, _, z⟩ := z
    exact z
/-! the refusals' classes -/
structure ClsF (K : PySem.W.Frag) (D : Addr) : Prop where
  x : PySem.W.excIn K D [.type "ValueError", .type "Exception", .type "BaseException", .type "object"] "ValueError.__new__" = true
  k : PySem.W.keepIn K (.ref D) = true
  b : PySem.W.subIn K (.ref D) (.type "BaseException") = some true
  v : PySem.W.subIn K (.ref D) (.type "ValueError") = some true
  t : PySem.W.typeIn K (.ref D) = some (.type "type")
  c : PySem.W.isClsIn K D = true
  hg : PySem.W.findIn K (.ref D) "__getattribute__" = some (some (.builtin "BaseException.__getattribute__"))
  hk : PySem.W.findIn K (.ref D) "__getattr__" = some none
  hd : PySem.W.hasDictIn K D = true
  ha : PySem.W.findIn K (.ref D) "__class__" = some (some (.builtin "object.__class__"))
  hm : PySem.W.mroIn K D (.type "object") = some true
theorem ClsF.exc {K : PySem.W.Frag} {D : Addr} (h : ClsF K D) (hn : PySem.W.specialIn K (.builtin "object.__class__") "__get__" = some (some (.builtin "getset_descriptor.__get__"))) (ht : PySem.W.takesIn K (.builtin "object.__class__") = some true) : ExcC K D := ⟨h.hg, h.hk, h.b, h.hd, h.ha, hn, ht, h.hm⟩
theorem ClsF.err {K : PySem.W.Frag} {mg : Str → Option Value} {n : Str} {D : Addr} (h : ClsF K D) (g : mg n = some (.ref D)) : ErrOk K mg n D := ⟨h.x, g, h.k, h.b, h.t⟩
theorem ClsF.exm {K : PySem.W.Frag} {C D : Addr} {b : Bool} (h : ClsF K C) (s : PySem.W.subIn K (.ref D) (.ref C) = some b) : PySem.W.exmOne K (.ref D) (.ref C) = some b := PySem.W.exm_ref h.b h.hd h.t s
theorem ClsF.kit {K : PySem.W.Frag} {C D : Addr} {b : Bool} (h : ClsF K C) (s : PySem.W.subIn K (.ref D) (.ref C) = some b) (hb : (D == C) = true → b = true) : PySem.W.kitOne K (.ref D) (.ref C) = some b := by
  unfold PySem.W.kitOne
  by_cases e : D = C
  · subst e
    rw [hb (by simp), if_pos (by simp)]
  · rw [if_neg (by simpa using e)]
    show (if ((PySem.W.clsIn K C).isSome && PySem.W.typeIn K (.ref C) == some (.type "type")) = true then PySem.W.subIn K (.ref D) (.ref C) else none) = some b
    have h2 : (PySem.W.clsIn K C).isSome = true := h.c
    rw [if_pos (by rw [h2, h.t] <;> rfl)]
    exact s
theorem ClsF.kitV {K : PySem.W.Frag} {D : Addr} (h : ClsF K D) : PySem.W.kitOne K (.ref D) (.type "ValueError") = some true := by
  unfold PySem.W.kitOne
  rw [if_neg (show ¬ (Value.ref D == Value.type "ValueError") = true from fun h => Bool.false_ne_true h)]
  show (if PySem.W.kitMeta "ValueError" = true then PySem.W.subIn K (.ref D) (.type "ValueError") else none) = some true
  rw [if_pos (by decide +kernel)]
  exact h.v
end Fw

namespace Fw
open L2 PySem PySem.Spec PyProof.Rows
theorem no_b {b : Bool} (h : b = false) : decide (b = true) = false := by rw [h]; rfl
theorem yes_b {b : Bool} (h : b = true) : decide (b = true) = true := by rw [h]; rfl
theorem tuple_mul1 (l : Addr) (items : Array Value) (n : Nat) (dd : Option Addr) (sl : Array (Option Value)) (x : Int) (u : Tok) (c0 : (decide (x < -(2 ^ 63)) || decide (x ≥ 2 ^ 63)) = false) (c1 : (items.isEmpty || x == 1) = true) :
    Meets (Builtin.«tuple.__mul__» ⟨[.ref l, .int x u], []⟩) (fun _ R s => s.heap.get? l = some { cls := .type "tuple", dict := dd, data := .seq items n, slots := sl } ∧
      R (.ok (.ret (Value.ref l))) { s with heap := s.heap, toks := s.toks }) :=
  .of_wp fun prog w A R s h => by
    rcases s with ⟨hp, g, d, tk, os⟩
    have hl := h.1
    have fin := h.2
    have asIndex := AutoSeq1.idx_int
    (wp_walk using wpAny_loadPart' hl)
    repeat (first
      | (refine wpAny_ite_false (no_b c0) ?_; (wp_walk using wpAny_loadPart' hl))
      | (refine wpAny_ite_true (yes_b c1) ?_; (wp_walk using wpAny_loadPart' hl)))
    exact ⟨_, rfl, fin⟩
theorem tuple_mul0 (l : Addr) (items : Array Value) (n : Nat) (dd : Option Addr) (sl : Array (Option Value)) (x : Int) (u : Tok) (c0 : (decide (x < -(2 ^ 63)) || decide (x ≥ 2 ^ 63)) = false) (c1 : (items.isEmpty || x == 1) = false) (c2 : (decide (x ≤ 0) || items.isEmpty) = true) :
    Meets (Builtin.«tuple.__mul__» ⟨[.ref l, .int x u], []⟩) (fun _ R s => s.heap.get? l = some { cls := .type "tuple", dict := dd, data := .seq items n, slots := sl } ∧
      R (.ok (.ret (Value.ref s.heap.objs.size))) { s with heap := s.heap.push { cls := Value.type "tuple", data := Data.seq #[] }, toks := s.toks }) :=
  .of_wp fun prog w A R s h => by
    rcases s with ⟨hp, g, d, tk, os⟩
    have hl := h.1
    have fin := h.2
    have asIndex := AutoSeq1.idx_int
    (wp_walk using wpAny_loadPart' hl)
    repeat (first
      | (refine wpAny_ite_false (no_b c0) ?_; (wp_walk using wpAny_loadPart' hl))
      | (refine wpAny_ite_false (no_b c1) ?_; (wp_walk using wpAny_loadPart' hl))
      | (refine wpAny_ite_true (yes_b c2) ?_; (wp_walk using wpAny_loadPart' hl)))
    exact ⟨_, rfl, fin⟩
def rRepA (K : PySem.W.Frag) : R2 := fun x y H Q => ∃ l k xs, x = .ref l ∧ y = .int k ∧ SqT K H l xs ∧ xs ≠ [] ∧ -1000 ≤ k ∧ k ≤ 1000 ∧ xs.length ≤ 1000 ∧ (k = 1 → Q (.ref l) H) ∧ (k ≤ 0 → ∀ p, H p = none → Q (.ref p) (upd H p (.tup []))) ∧ (2 ≤ k → ∀ p, H p = none → Q (.ref p) (upd H p (.tup (List.replicate k.toNat xs).flatten)))
section
variable {X : Cx} {C : Cn} {x y : XE} {a b : Expr} {pos : Pos}
theorem op_repA : OpR X (binaryOp .Mult) (rRepA X.K) := by
  intro pins s σ H x y v u Q I rx ry given
  obtain ⟨l, k, xs, hx, hy, tup, hne, h1, h2, hz, q1, q0, q2⟩ := given
  by_cases k2 : 2 ≤ k
  · exact op_repT pins s σ H x y v u Q I rx ry ⟨l, k, xs, hx, hy, tup, hne, k2, h2, hz, q2 k2⟩
  subst hx hy
  cases rx
  obtain ⟨t, rfl⟩ := ry
  obtain ⟨ts, r, ⟨⟨cls, dct, dat, sl⟩, at_, hc, n, hd⟩, hs⟩ := I.tuple tup
  simp only at hc hd
  subst hc hd
  have same : ts.length = xs.length := r.length.symm
  have hn : ts ≠ [] := fun e => hne (by
    rw [e] at same
    exact List.eq_nil_of_length_eq_zero same.symm)
  have emp : ts.toArray.isEmpty = false := by
    cases ts with
    | nil => exact absurd rfl hn
    | cons a b => rfl
  have fit : (decide (k < -(2 ^ 63)) || decide (k ≥ 2 ^ 63)) = false := by
    rw [decide_eq_false (by omega), decide_eq_false (by omega)] <;> rfl
  by_cases k1 : k = 1
  · have one : (ts.toArray.isEmpty || k == 1) = true := by
      rw [emp, Bool.false_or]
      exact beq_iff_eq.mpr k1
    exact wpAny_binaryOp_repeat_ref (T := "tuple") (U := "int") (by decide) ⟨_, at_, rfl⟩ (fun s' => typeIs_int s' k t) noFill_tuple_mul F.fills_int_mul F.slot_int_rmul repeat_tuple F.slot_int_index.lookup
      (call_meets F.slot_int_rmul (typeIs_int s k t) F.entry_int_rmul (F.args_int_rmul_2 _ _) (int_rmul_tuple k t l ts.toArray n dct sl)
        ⟨at_, rfl, ⟨_, at_, rfl⟩, call_meets F.slot_tuple_mul ⟨_, at_, rfl⟩ F.entry_tuple_mul (F.args_tuple_mul_2 _ _) (tuple_mul1 l ts.toArray n dct sl k t fit one) ⟨at_, ⟨.ref l, H, I, rfl, q1 k1⟩⟩⟩)
  · have one : (ts.toArray.isEmpty || k == 1) = false := by
      rw [emp, Bool.false_or]
      exact beq_eq_false_iff_ne.mpr k1
    have low : (decide (k ≤ 0) || ts.toArray.isEmpty) = true := by
      rw [decide_eq_true (by omega)]
      rfl
    refine wpAny_binaryOp_repeat_ref (T := "tuple") (U := "int") (by decide) ⟨_, at_, rfl⟩ (fun s' => typeIs_int s' k t) noFill_tuple_mul F.fills_int_mul F.slot_int_rmul repeat_tuple F.slot_int_index.lookup
      (call_meets F.slot_int_rmul (typeIs_int s k t) F.entry_int_rmul (F.args_int_rmul_2 _ _) (int_rmul_tuple k t l ts.toArray n dct sl)
        ⟨at_, rfl, ⟨_, at_, rfl⟩, call_meets F.slot_tuple_mul ⟨_, at_, rfl⟩ F.entry_tuple_mul (F.args_tuple_mul_2 _ _) (tuple_mul0 l ts.toArray n dct sl k t fit one low) ⟨at_, ?_⟩⟩)
    refine ⟨.ref s.heap.objs.size, _, I.laid (t' := s.toks) (o := .tup []) (fun b ob q => Heap.get?_push_of_some _ q) (Nat.le_refl _) ?_, rfl, q0 (by omega) _ (I.hok.fresh (Nat.le_refl _))⟩
    exact ⟨by decide, _, .nil, IsTup.new _ _⟩
def repD : Sv → Sv → Rz Sv
  | .p (.tup l), .p (.int k) => if l ≠ [] ∧ -1000 ≤ k ∧ k ≤ 1000 ∧ l.length ≤ 1000 then .ok (.p (.tup (List.replicate k.toNat l).flatten)) else .stuck
  | _, _ => .stuck
theorem rep_x (s t : Sv) (k : Nat) : repD s t ≠ .exc k := by
  unfold repD
  intro h
  split at h
  · split at h <;> cases h
  · cases h
theorem Rps.rep {H : Hp} {l : List Dt} {vs : List V} (h : Rps H l vs) : ∀ n : Nat, Rps H (List.replicate n l).flatten (List.replicate n vs).flatten
  | 0 => by simp [Rps]
  | n + 1 => by
    rw [List.replicate_succ, List.replicate_succ, List.flatten_cons, List.flatten_cons]
    exact h.append (Rps.rep h n)
theorem e_rep (ha : PE X a (tE C x)) (hb : PE X b (tE C y)) : PE X (.BinOp a .Mult b pos) (tE C (xB repD x y)) :=
  e_bin op_repA rep_x (fun H s t v u Q w hv hu e q => by
    unfold repD at e
    split at e
    · rename_i l k
      split at e
      · rename_i hc
        cases e
        obtain ⟨a, vs, rfl, ha, hr⟩ := hv
        cases (rs_int hu)
        have hl := hr.length
        refine ⟨a, k, vs, rfl, rfl, .inl (.inl ha), fun e0 => ?_, hc.2.1, hc.2.2.1, by omega, fun k1 => ?_, fun k0 p hp => ?_, fun _ p hp => ?_⟩
        · subst e0
          exact hc.1 (List.eq_nil_of_length_eq_zero hl.symm)
        · subst k1
          exact q H _ (Same.refl H) ⟨a, vs, rfl, ha, by simpa using hr⟩
        · have kz : k.toNat = 0 := by omega
          rw [kz] at q
          exact q _ _ (same_new hp) ⟨p, _, rfl, upd_same, by simp [Rps]⟩
        · exact q _ _ (same_new hp) ⟨p, _, rfl, upd_same, (Rps.rep hr k.toNat).mono (same_new hp)⟩
      · cases e
    · cases e) ha hb
end
end Fw

namespace Fw
open PySem L2
section
variable {X : Cx} {C : Cn} {L M : List Nat} {x y z : XE} {c d : XT} {xs : XA} {u w : XS} {a b e tg : Expr} {es : List Expr} {pos p : Pos} {st : Stmt} {rest : List Stmt}
/-- xs.extend(e) -/
def sExt (i : Nat) (x : XE) : XS := fun ρ => match ρ[i]? with
  | some (some (.o (.l l))) => ofR (x ρ) ρ fun s => match s with
    | .l m => if l.length + m.length ≤ 1000000 then .nx (ρ.set i (some (.o (.l (l ++ m))))) else .stuck
    | _ => .stuck
  | _ => .stuck
theorem st_ext (i : Nat) {n : Str} {np apos cpos : Pos} (hM : M.contains i = false) (hN : X.N[i]? = some n) (hv : Vis X.env.scope n) (he : PE X e (tF C x)) (hd : (n == ("__debug__" : Str)) = false := by decide) (hcd : (n == ("__classdict__" : Str)) = false := by decide)
    (hbase : attributeBase (.Name n np) "extend" X.env (eval (.Name n np) X.env) = eval (.Name n np) X.env := by rfl)
    (hfew : ((backTo cpos (starEach [e] X.env)).all (fun x => !x.1) && (backToKw cpos (keywordEach [] X.env)).all (fun x => x.1.isSome)
      && decide (([e] : List Expr).length + ([] : List Keyword).length + (if ([] : List Keyword).isEmpty then 0 else 1) < 30)) = true := by rfl)
    (hline : (apos.endLine == cpos.line) = true := by rfl) (hst : starEach [e] X.env = (false, eval e X.env) :: starEach [] X.env := by rfl) (hplain : (backTo cpos (starEach [] X.env)).any (·.1) = false := by rfl)
    (hs : swapsWith (.Call (.Attribute (.Name n np) "extend" apos) [e] [] cpos) none pos.line X.env = pure false := by rfl) :
    PS X (.Expr (.Call (.Attribute (.Name n np) "extend" apos) [e] [] cpos) pos) (tS C L M (sExt i x)) :=
  impS (ps_expr (pe_bm PySem.F.plainAttrs_list PySem.F.slot_list_extend PySem.F.type_list_extend mt_extend (pv i hN hv hd hcd) (pa_cons he pa_nil hst) hbase hfew hline hst hplain) hs) fun D σ H ⟨F, ρ, I, q⟩ => by
    unfold sExt at q
    split at q
    · rename_i l hl
      obtain ⟨a, vs, h1, ha, hr⟩ := own_lst I hl
      refine ⟨_, h1, .inl ⟨rfl, vs, .inl (.inl ha)⟩, ρ, I.slots, Rz.P_mono (ofR_P q I) (fun _ k => k) fun s _ k H2 v2 e2 r2 oc => ?_⟩
      cases s with
      | l m =>
        simp only at k
        split at k
        · rename_i hlt
          obtain ⟨b, ws, rfl, hb, hk⟩ := r2
          refine ⟨a, b, vs, ws, rfl, rfl, e2 a _ ha, hb, ?_, ?_⟩
          · rw [hr.length, hk.length]
            exact Nat.le_trans hlt (by decide)
          · exact k σ _ (lst_set (I.mono e2) hl h1 (e2 a _ ha) hM ((hr.mono e2).append hk))
        · exact k.elim
      | p _ => exact k.elim
      | d _ => exact k.elim
      | ll _ => exact k.elim
      | pl _ _ => exact k.elim
    · exact q.elim
/-- j = xs.pop() -/
def sPop (i j : Nat) : XS := fun ρ => match ρ[i]? with
  | some (some (.o (.l l))) => match l[l.length - 1]? with
    | some y => .nx (setV j y (ρ.set i (some (.o (.l l.dropLast)))))
    | none => .stuck
  | _ => .stuck
theorem Rps.dropLast {H : Hp} : ∀ {l : List Dt} {vs : List V}, Rps H l vs → Rps H l.dropLast vs.dropLast
  | [], vs, h => by
    have e : vs = [] := h
    subst e
    exact h
  | [x], vs, h => by
    obtain ⟨v, r, rfl, h1, h2⟩ := h
    have e : r = [] := h2
    subst e
    show Rps H [] []
    simp [Rps]
  | x :: y :: l, vs, h => by
    obtain ⟨v, r, rfl, h1, h2⟩ := h
    obtain ⟨w, r2, rfl, h3, h4⟩ := id h2
    have := Rps.dropLast h2
    exact ⟨v, _, rfl, h1, this⟩
theorem st_pop (i j : Nat) {n m : Str} {np mp apos cpos : Pos} (hM : M.contains i = false) (hL : L.contains j = false) (hN : X.N.Nodup) (hi : X.N[i]? = some n) (hj : X.N[j]? = some m) (hx : Loc X.env.scope m) (hv : Vis X.env.scope n) (hd : (n == ("__debug__" : Str)) = false := by decide) (hcd : (n == ("__classdict__" : Str)) = false := by decide)
    (hbase : attributeBase (.Name n np) "pop" X.env (eval (.Name n np) X.env) = eval (.Name n np) X.env := by rfl) (hline : (apos.endLine == cpos.line) = true := by rfl)
    (hs : swapsWith (.Call (.Attribute (.Name n np) "pop" apos) [] [] cpos) (some (.Name m mp)) pos.line X.env = pure false := by rfl)
    (hf : X.fn m = true ∨ X.env.scope.names.lookup m = some .local := by first | exact .inl rfl | exact .inr rfl | assumption) :
    PS X (.Assign [.Name m mp] (.Call (.Attribute (.Name n np) "pop" apos) [] [] cpos) pos) (tS C L M (sPop i j)) :=
  impS (ps_set hN hj hx (pe_bm0 PySem.F.plainAttrs_list PySem.F.slot_list_pop PySem.F.type_list_pop mt_pop (pv i hi hv hd hcd) hbase hline) hs hf) fun D σ H ⟨F, ρ, I, q⟩ => by
    unfold sPop at q
    split at q
    · rename_i l hl
      obtain ⟨a, vs, h1, ha, hr⟩ := own_lst I hl
      split at q
      · rename_i y hy
        obtain ⟨v, hv1, hv2⟩ := hr.get hy
        refine ⟨_, h1, .inl ⟨rfl, vs, .inl (.inl ha)⟩, a, vs, v, rfl, rfl, ha, by rw [hr.length]; exact hv1, ?_⟩
        have I2 := lst_set I hl h1 ha hM hr.dropLast
        have bt := (but_upd (o := .lst vs.dropLast) ha (fun xs z => by cases z)).tx
        exact q _ _ (I2.setV (hv2.tx bt) fun z => by rw [List.contains_iff_mem.mpr z] at hL; cases hL)
      · exact q.elim
    · exact q.elim
end
end Fw

namespace Fw
open PySem PyProof.Rows L2
/-! sets of ints -/
section
variable {P : Program} {w : World} {A : Around} {E : Value → Shared → Prop} {s : Shared} {a : Addr} {S : Int → Bool} {n : Nat}
/-- what sorted leaves of a set of ints -/
structure SrtOut (s : Shared) (S : Int → Bool) (n : Nat) (s' : Shared) (p : Addr) (us : List Value) (ep : Nat) (ks : List Int) : Prop where
  kept : ∀ b u, s.heap.get? b = some u → s'.heap.get? b = some u
  gens : s'.gens = s.gens
  os : s'.os = s.os
  new : s.heap.objs.size ≤ p
  there : s'.heap.get? p = some (seqObj "list" us.toArray ep)
  areI : IntsAre us ks
  rise : ks.Pairwise (· < ·)
  mem : ∀ k, k ∈ ks ↔ S k = true
  len : ks.length = n
/-- sorted of a set of ints, however many -/
theorem sorted_setI {Q : Value → Shared → Prop} (given : SetR w s.heap a S n) (calm : A.handled = none) (goal : ∀ s' p us ep ks, SrtOut s S n s' p us ep ks → Q (.ref p) s') :
    wpAny (model P w) A (call (.builtin "sorted") [.ref a]) Q E s := by
  rcases given with ⟨ob, es, e0, tab, at_, exact_, dat, good, nodup, mem, room, fits, size, rises, led⟩
  refine Calls.call_function_entry kind_sorted plain_sorted entry_sorted (args_sorted1 _) ?_
  unfold Builtin.«sorted»
  refine wpAny_bind (m := checkCount "sorted" 1 1 _) (wpAny_pure ?_)
  refine wpAny_bind (collect_set (A := A.in1) calm ⟨ob, at_, exact_.1, dat⟩ fits room rises led fun mid vals keep grew sameG sameO perm => ?_)
  have many : vals.length = n := (perm.length_eq.trans (by rw [List.length_map, Array.length_toList])).trans size
  have big : vals.length ≤ sizeLine := by
    rw [many, ← size, sizeLine_eq]
    have e4 : scanBound = 4096 := rfl
    omega
  have areInts : IntsAre vals (vals.map Builtin.Re.reRawOf) := ints_of vals fun v hv => by
    obtain ⟨entry, inside, same⟩ := List.mem_map.mp (perm.mem_iff.mp hv)
    obtain ⟨k, tok, isK, _⟩ := good entry inside
    exact ⟨k, tok, same ▸ isK⟩
  have permI : (vals.map Builtin.Re.reRawOf).Perm (es.toList.map keyOf) := by
    have pm := perm.map Builtin.Re.reRawOf
    rwa [List.map_map] at pm
  refine wpAny_bind (wpAny_newList ?_ big)
  have atL : (mid.heap.push (seqObj "list" vals.toArray 0)).get? mid.heap.objs.size = some (seqObj "list" vals.toArray 0) := Heap.get?_push_size _ rfl
  refine wpAny_bind (wpAny_holding (wpAny_call_entry slot_list_sort ⟨_, atL, rfl⟩ entry_list_sort (SrtO.list_sort_ord SrtO.swo_int atL big (fun two => SrtO.ints_sortable areInts two) fun out srtd stb => ⟨_, rfl, ?_⟩) (args_list_sort _)))
  obtain ⟨outI, outP, outR⟩ := SrtO.ints_out areInts srtd stb
  obtain ⟨ep, atS⟩ := sortedHeap_at (vs := vals) (out := out.toArray) atL
  have permO : (out.map SrtO.iv).Perm (es.toList.map keyOf) := outP.trans permI
  refine wpAny_pure ⟨_, rfl, goal _ mid.heap.objs.size out ep (out.map SrtO.iv) ⟨fun b u hb => ?_, sameG, sameO, grew, atS, outI, lt_of_le_nodup _ outR (permO.nodup_iff.mpr nodup), fun k => (permO.mem_iff).trans (mem k).symm, (permO.length_eq.trans (by rw [List.length_map, Array.length_toList])).trans size⟩⟩
  have low := Heap.lt_size (keep b u hb)
  show (sortedHeap (mid.heap.push (seqObj "list" vals.toArray 0)) mid.heap.objs.size vals out.toArray).get? b = some u
  rw [sortedHeap_old (Nat.ne_of_lt low) (by rw [size_push']; exact Nat.lt_succ_of_lt low)]
  exact Heap.get?_push_of_some _ (keep b u hb)
end
/-- sorted(found), however many -/
def rSortSI (w : World) : List V → Hp → VK → Prop := fun vs H Q => ∃ (a : Addr) (S : Int → Bool) (n : Nat), vs = [V.ref a] ∧ H a = some (SetO w a S n) ∧
  ∀ (ks : List Int) (p : Addr), ks.Pairwise (· < ·) → (∀ k : Int, k ∈ ks ↔ S k = true) → H p = none → Q (.ref p) (upd H p (.lst (ks.map V.int)))
theorem cr_sortSI {X : Cx} (calm : X.calm = true) : CallR X (.builtin "sorted") (rSortSI X.w) := by
  intro pins s σ H vs us Q I rel given
  obtain ⟨a, S, n, rfl, isSet, q⟩ := given
  have R := setO_get I isSet
  have small : n < scanBound := by
    obtain ⟨_, es, _, _, _, _, _, _, _, _, room, _, size, _⟩ := id R
    rw [← size]
    exact room
  rw [Vals.ref1 rel]
  refine sorted_setI R (I.ok.hd calm) fun s' p out ep ks o => ?_
  have fits : (ks.map V.int).length ≤ sizeLine := by
    rw [List.length_map, o.len, sizeLine_eq]
    have e4 : scanBound = 4096 := rfl
    omega
  have free : H p = none := I.hok.fresh o.new
  have J : Inv X pins σ (upd H p (.lst (ks.map V.int))) { s with heap := s'.heap, gens := s'.gens, drawn := s'.drawn, toks := s'.toks } :=
    I.call (ch := []) (Un.laid o.kept o.new free) (I.hok.laid o.kept o.new ⟨fits, out, ep, vals_of_ints o.areI, o.there⟩) (by rw [o.gens]; exact I.bare) (fun _ z => nomatch z)
  have same : s' = { s with heap := s'.heap, gens := s'.gens, drawn := s'.drawn, toks := s'.toks } := by
    have e := o.os
    cases s'
    cases s
    cases e
    rfl
  rw [same]
  exact ⟨.ref p, _, J, rfl, q ks p o.rise o.mem free⟩
end Fw

namespace Fw
open PySem L2
/-- rising, each once -/
def insU (k : Int) : List Int → List Int
  | [] => [k]
  | j :: r => if k < j then k :: j :: r else if k = j then j :: r else j :: insU k r
def incr : List Int → List Int
  | [] => []
  | k :: r => insU k (incr r)
theorem insU_mem {k j : Int} : ∀ {l : List Int}, j ∈ insU k l ↔ j = k ∨ j ∈ l
  | [] => by simp [insU]
  | i :: r => by
    unfold insU
    split
    · simp
    · split
      · rename_i h
        subst h
        simp
      · rw [List.mem_cons, insU_mem, List.mem_cons]
        constructor <;> intro h <;> rcases h with h | h | h <;> simp [h]
theorem insU_rise {k : Int} : ∀ {l : List Int}, l.Pairwise (· < ·) → (insU k l).Pairwise (· < ·)
  | [], _ => by simp [insU]
  | i :: r, h => by
    have h1 := (List.pairwise_cons.mp h).1
    have h2 := (List.pairwise_cons.mp h).2
    unfold insU
    split
    · rename_i g
      exact List.pairwise_cons.mpr ⟨fun j hj => by rcases List.mem_cons.mp hj with rfl | hj; exact g; exact Int.lt_trans g (h1 j hj), h⟩
    · split
      · exact h
      · rename_i g g2
        refine List.pairwise_cons.mpr ⟨fun j hj => ?_, insU_rise h2⟩
        rcases insU_mem.mp hj with rfl | hj
        · omega
        · exact h1 j hj
theorem incr_mem {j : Int} : ∀ {l : List Int}, j ∈ incr l ↔ j ∈ l
  | [] => Iff.rfl
  | k :: r => by
    show j ∈ insU k (incr r) ↔ _
    rw [insU_mem, incr_mem, List.mem_cons]
theorem incr_rise : ∀ l : List Int, (incr l).Pairwise (· < ·)
  | [] => List.Pairwise.nil
  | k :: r => insU_rise (incr_rise r)
theorem rise_uniq : ∀ {l m : List Int}, l.Pairwise (· < ·) → m.Pairwise (· < ·) → (∀ j, j ∈ l ↔ j ∈ m) → l = m
  | [], [], _, _, _ => rfl
  | [], b :: m, _, _, h => absurd ((h b).mpr List.mem_cons_self) (by simp)
  | a :: l, [], _, _, h => absurd ((h a).mp List.mem_cons_self) (by simp)
  | a :: l, b :: m, h1, h2, h => by
    obtain ⟨p1, q1⟩ := List.pairwise_cons.mp h1
    obtain ⟨p2, q2⟩ := List.pairwise_cons.mp h2
    have e : a = b := by
      rcases List.mem_cons.mp ((h a).mp List.mem_cons_self) with e | e
      · exact e
      · rcases List.mem_cons.mp ((h b).mpr List.mem_cons_self) with f | f
        · exact f.symm
        · have := p2 a e
          have := p1 b f
          omega
    subst e
    congr 1
    refine rise_uniq q1 q2 fun j => ⟨fun hj => ?_, fun hj => ?_⟩
    · rcases List.mem_cons.mp ((h j).mp (List.mem_cons_of_mem _ hj)) with e | e
      · have := p1 j hj
        omega
      · exact e
    · rcases List.mem_cons.mp ((h j).mpr (List.mem_cons_of_mem _ hj)) with e | e
      · have := p2 j hj
        omega
      · exact e

/-! ### the truth of a dict by tuples -/
section
variable {prog : Program} {w : World} {K : Type} [DecidableEq K] {knd : HeapKind prog w K} {A : Around} {E : Value → Shared → Prop} {s : Shared}
theorem truthy_dictH {d : Addr} {xs : List (K × Addr × Value)} {Q : Bool → Shared → Prop} (hd : (d == sysModules) = false) (hm : s.heap.DictOfH knd d xs) (hfit : (xs.length : Int) < 2 ^ 63)
    (h : Q (!xs.isEmpty) { s with toks := s.toks + 1 + 1 }) : wpAny (model prog w) A (truthy (.ref d)) Q E s := by
  have hne : ((xs.length : Int) != 0) = !xs.isEmpty := by cases xs <;> simp <;> omega
  have key : wpAny (model prog w) A (runValue (.builtin "len" ⟨[.ref d], []⟩)) (fun r s' => r = .int xs.length (s.toks + 1) ∧ Q (!xs.isEmpty) s') E s := by
    refine wpAny_runValue (codeAny_builtin entry_len ?_)
    rw [Around.under_plainId plain_len _]
    exact wpAny_mono (wpAny_len_body_dictH (Q := fun r s' => r = .int xs.length (s.toks + 1) ∧ Q (!xs.isEmpty) s') hd hm hfit ⟨rfl, h⟩)
      (fun fin s' h' => by obtain ⟨r, rfl, hq⟩ := h'; exact hq) fun _ _ e => e
  unfold truthy
  first
    | refine wpAny_bind (wpAny_callSpecial?_none (name := Str.ofString "__bool__") hm.typeIs noBool_dict ?_)
    | refine wpAny_bind (wpAny_pure (wpAny_bind (wpAny_callSpecial?_none (name := Str.ofString "__bool__") hm.typeIs noBool_dict ?_)))
  first
    | refine wpAny_bind (wpAny_specialOf (name := Str.ofString "__len__") hm.typeIs F.slot_dict_len.lookup ?_)
    | refine wpAny_bind (wpAny_pure (wpAny_bind (wpAny_specialOf (name := Str.ofString "__len__") hm.typeIs F.slot_dict_len.lookup ?_)))
  first
    | exact wpAny_bind (wpAny_mono key (fun r s' h' => by obtain ⟨rfl, hq⟩ := h'; exact wpAny_pure (hne ▸ hq)) fun _ _ e => e)
    | exact wpAny_bind (wpAny_pure (wpAny_bind (wpAny_mono key (fun r s' h' => by obtain ⟨rfl, hq⟩ := h'; exact wpAny_pure (hne ▸ hq)) fun _ _ e => e)))
end
section
variable {X : Cx} {C : Cn} {L M : List Nat} {x y z : XE} {c d : XT} {xs : XA} {u : XS} {a b e tg : Expr} {es : List Expr} {pos p : Pos} {st : Stmt} {rest : List Stmt}
/-- while xs:, if xs:, if now: -/
def lstB : Sv → Rz Bool
  | .l xs => .ok (!xs.isEmpty)
  | .p (.tup xs) => .ok (!xs.isEmpty)
  | .p (.bl b) => .ok b
  | .d kvs => .ok (!kvs.isEmpty)
  | _ => .stuck
theorem empty_rel {H : Hp} {xs : List Dt} {vs : List V} (h : Rps H xs vs) : vs.isEmpty = xs.isEmpty := by
  have := h.length
  cases vs <;> cases xs <;> simp at this ⊢
theorem Rkv.len {H : Hp} : ∀ {kvs : List (List Key × Dt)} {ws : List (List Key × V)}, Rkv H kvs ws → ws.length = kvs.length
  | [], ws, h => by
    have e : ws = [] := h
    subst e
    rfl
  | p :: r, ws, h => by
    obtain ⟨v, s, rfl, h1, h2⟩ := h
    simp [Rkv.len h2]
theorem t_lst (ha : PE X e (tE C x)) (he : ∀ whole, isTrue e X.env whole = (do let v ← whole; standAt e.pos; holding [v] (truthy v)) := by intro _; rfl) : PT X e (tT C (xTst lstB x)) := by
  have other : PT X e (fun σ H Q => tE C x σ H fun y H' => (∃ k, TruV X.K y H' k ∧ Q k H') ∨ ∃ a kvs, y = .ref a ∧ H' a = some (.dT kvs) ∧ Q (!kvs.isEmpty) H') := ⟨fun pins s σ H Q I h => PyProof.Rows.isTrue_plain (thn (ha.run pins s σ H _ I h) fun v s1 ⟨y, H1, I1, r1, q1⟩ => by
    rcases q1 with ⟨k, tk, q1⟩ | ⟨a, kvs, rfl, hd, q1⟩
    · exact tru_ok pins s1 σ H1 y v Q I1 r1 ⟨k, tk, q1⟩
    · obtain rfl : v = .ref a := r1
      obtain ⟨zz, notMods, ys, rel, dd⟩ := dt_of I1.hok hd
      have hl : kvs.length = ys.length := Paired.length rel
      have hs : sizeLine = 16777216 := sizeLine_eq
      refine truthy_dictH notMods dd (by omega) ⟨H1, I1.tok _, ?_⟩
      have e2 : (!ys.isEmpty) = !kvs.isEmpty := by cases ys <;> cases kvs <;> simp at hl ⊢
      rw [e2]
      exact q1) (he _)⟩
  exact impT other fun σ H Q ⟨ρ, hs, q⟩ => ⟨ρ, hs, Rz.P_mono (Rz.P_bind q) (fun _ k => k) fun s _ k H1 v e1 r1 => by
    unfold lstB at k
    split at k
    · obtain ⟨a, vs, rfl, ha, hr⟩ := r1
      exact .inl ⟨_, .inl ⟨vs, .inl ha, by rw [empty_rel hr]⟩, k H1 e1⟩
    · obtain ⟨a, vs, rfl, ha, hr⟩ := r1
      exact .inl ⟨_, .inr (.inl ⟨vs, .inl (.inl ha), by rw [empty_rel hr]⟩), k H1 e1⟩
    · cases (show v = V.bl _ from r1)
      exact .inl ⟨_, rfl, k H1 e1⟩
    · rename_i kvs _
      obtain ⟨a, ws, rfl, ha, hr⟩ := r1
      refine .inr ⟨a, ws, rfl, ha, ?_⟩
      have e2 : (!ws.isEmpty) = !kvs.isEmpty := by
        have := hr.len
        cases ws <;> cases kvs <;> simp at this ⊢
      rw [e2]
      exact k H1 e1
    · exact k.elim⟩
end
end Fw

namespace Fw
open PySem L2
/-! a dict of tuples asked for what is no tuple -/
/-- None or a number -/
def Flat (u : Value) : Prop := u = .none ∨ ∃ i t, u = .int i t
section
variable {prog : Program} {w : World} {A : Around} {E : Value → Shared → Prop} {s : Shared} {K : Type} [DecidableEq K] {knd : KeyKind prog w K}
theorem flat_ne {u : Value} (hu : Flat u) (b : Addr) : u ≠ .ref b := by
  rcases hu with rfl | ⟨i, t, rfl⟩ <;> exact fun z => nomatch z
theorem flat_carried {u : Value} (hu : Flat u) : carriedByValue u = true := by
  rcases hu with rfl | ⟨i, t, rfl⟩ <;> rfl
theorem flat_quiet {u : Value} {Q : Bool → Shared → Prop} (hu : Flat u) (h : Q true s) : wpAny (model prog w) A (eqIsQuiet 8 u) Q E s := by
  rcases hu with rfl | ⟨i, t, rfl⟩ <;> exact wpAny_pure h
theorem flat_eq {u : Value} {ks : List K} {b : Addr} {Q : Bool → Shared → Prop} (hu : Flat u) (room : A.units < cLine) (hb : IsTupleKey knd s.heap ks b) (h : Q false s) : wpAny (model prog w) A (eqBool (.ref b) u) Q E s := by
  obtain ⟨o, items, n, ho, hc, hd, _⟩ := hb
  have isT : s.heap.IsTuple b items := ⟨o, ho, hc, n, hd⟩
  rcases hu with rfl | ⟨i, t, rfl⟩
  · exact SeqAt.EqAt.tuple_none isT room prog w E Q h
  · exact SeqAt.EqAt.tuple_int i t isT room prog w E Q h
theorem tell_flat {u : Value} {stored : List Value} {Q : Bool → Shared → Prop} (hu : Flat u)
    (hst : ∀ v ∈ stored, ∃ ks b, v = .ref b ∧ IsTupleKey knd s.heap ks b) (h : Q false s) : wpAny (model prog w) A (tableMayTell u stored) Q E s := by
  unfold tableMayTell
  split
  · exact wpAny_pure h
  · refine wpAny_bind (flat_quiet hu ?_)
    simp only [Bool.not_true, Bool.false_eq_true, if_false]
    refine wpAny_bind ?_
    refine wpAny_forIn_list _ (fun rest r s' => s' = s ∧ r = (none, ()) ∧ ∀ v ∈ rest, ∃ ks b, v = .ref b ∧ IsTupleKey knd s.heap ks b) _ ?_ ?_ _ _ ⟨rfl, rfl, hst⟩
    · rintro v rest r s' ⟨rfl, rfl, hr⟩
      obtain ⟨ks, b, rfl, hb⟩ := hr v List.mem_cons_self
      refine wpAny_bind (wpAny_eqIsQuiet_tuple hb ?_)
      simp only [Bool.not_true, Bool.false_eq_true, if_false]
      exact wpAny_pure ⟨rfl, rfl, fun v hv => hr v (List.mem_cons_of_mem _ hv)⟩
    · rintro r s' ⟨rfl, rfl, _⟩
      exact wpAny_pure h
theorem find_flat {d : Addr} {o : Obj} {es : Array DictEntry} {ep : Nat} {u : Value} {hsh : Int} {Q : Option Nat → Shared → Prop} (hu : Flat u) (room : A.units < cLine)
    (ho : s.heap.get? d = some o) (hd : o.data = .dict es ep) (keys : ∀ e ∈ es, ∃ (ks : List K) (b : Addr), e.key = .ref b ∧ IsTupleKey knd s.heap ks b) (h : Q none s) :
    wpAny (model prog w) A (dictFind d u hsh) Q E s := by
  have hst : ∀ v ∈ (placesWithHash es.size (fun i => es[i]?.map (·.hash)) hsh).filterMap (fun i => es[i]?.map (·.key)), ∃ ks b, v = .ref b ∧ IsTupleKey knd s.heap ks b := by
    intro v hv
    obtain ⟨i, _, hi⟩ := List.mem_filterMap.mp hv
    cases hei : es[i]? with
    | none => rw [hei] at hi; cases hi
    | some e =>
      rw [hei] at hi
      cases hi
      exact keys e (Array.mem_of_getElem? hei)
  have step : ∀ (i : Nat) (e : DictEntry), es[i]? = some e → ∃ (ks : List K) (b : Addr), e.key = .ref b ∧ IsTupleKey knd s.heap ks b := fun i e hi => keys e (Array.mem_of_getElem? hi)
  unfold dictFind
  try with_reducible refine wpAny_holding ?_
  refine wpAny_bind (wpAny_dictEntries ho hd ?_)
  have plain : wpAny (model prog w) A (dictWalkPlain d u hsh es (placesWithHash es.size (fun i => es[i]?.map (·.hash)) hsh)) Q E s := by
    unfold dictWalkPlain
    refine wpAny_bind ?_
    refine wpAny_forIn_list _ (fun rest b s' => s' = s ∧ b = (none, ())) _ ?_ ?_ _ _ ⟨rfl, rfl⟩
    · rintro i rest b s' ⟨rfl, rfl⟩
      cases hei : es[i]? with
      | none => exact wpAny_pure ⟨rfl, rfl⟩
      | some e =>
        obtain ⟨ks, b, hk, isT⟩ := step i e hei
        dsimp only
        by_cases hh : (e.hash == hsh) = true
        · rw [if_pos hh]
          refine wpAny_bind (wpAny_dictEpoch ho hd (wpAny_bind ?_))
          rw [hk]
          refine flat_eq hu room isT (wpAny_bind (wpAny_dictEpoch ho hd ?_))
          show wpAny _ _ (if (ep != ep) = true then _ else _) _ E _
          rw [if_neg (by simp)]
          simp only [Bool.false_eq_true, if_false]
          exact wpAny_bind (wpAny_rule (wpAny_pure ⟨rfl, rfl⟩))
        · rw [if_neg hh]
          exact wpAny_pure ⟨rfl, rfl⟩
    · rintro b s' ⟨rfl, rfl⟩
      exact wpAny_pure h
  rcases id hu with rfl | ⟨i, t, rfl⟩
  · dsimp only
    by_cases hall : ((Value.none :: (placesWithHash es.size (fun i => es[i]?.map (·.hash)) hsh).filterMap (fun i => es[i]?.map (·.key))).all carriedByValue) = true
    · rw [if_pos hall]
      exact plain
    rw [if_neg hall]
    by_cases hone : (((placesWithHash es.size (fun i => es[i]?.map (·.hash)) hsh).filterMap (fun i => es[i]?.map (·.key))) == [Value.none]) = true
    · rw [if_pos hone]
      refine wpAny_bind (wpAny_pure ?_)
      rw [if_neg (by simp)]
      refine wpAny_bind ?_
      refine wpAny_forIn_list _ (fun rest b s' => s' = s ∧ b = (none, none)) _ ?_ ?_ _ _ ⟨rfl, rfl⟩
      · rintro i rest b s' ⟨rfl, rfl⟩
        cases hei : es[i]? with
        | none => exact wpAny_pure ⟨rfl, rfl⟩
        | some e =>
          obtain ⟨ks, b, hk, isT⟩ := step i e hei
          dsimp only
          by_cases hh : (e.hash == hsh) = true
          · rw [if_pos hh]
            refine wpAny_bind (wpAny_dictEpoch ho hd (wpAny_bind ?_))
            rw [hk]
            refine flat_eq hu room isT (wpAny_bind (wpAny_dictEpoch ho hd ?_))
            show wpAny _ _ (if (ep != ep) = true then _ else _) _ E _
            rw [if_neg (by simp)]
            simp only [Bool.false_eq_true, if_false]
            refine wpAny_bind (wpAny_rule ?_)
            first | rw [if_neg (by simp)] | skip
            first
              | exact wpAny_pure ⟨rfl, rfl⟩
              | exact wpAny_bind (wpAny_pure (wpAny_pure ⟨rfl, rfl⟩))
          · rw [if_neg hh]
            exact wpAny_pure ⟨rfl, rfl⟩
      · rintro b s' ⟨rfl, rfl⟩
        exact wpAny_pure h
    · rw [if_neg hone]
      refine wpAny_bind (tell_flat hu hst ?_)
      rw [if_neg (by simp)]
      refine wpAny_bind ?_
      refine wpAny_forIn_list _ (fun rest b s' => s' = s ∧ b = (none, none)) _ ?_ ?_ _ _ ⟨rfl, rfl⟩
      · rintro i rest b s' ⟨rfl, rfl⟩
        cases hei : es[i]? with
        | none => exact wpAny_pure ⟨rfl, rfl⟩
        | some e =>
          obtain ⟨ks, b, hk, isT⟩ := step i e hei
          dsimp only
          by_cases hh : (e.hash == hsh) = true
          · rw [if_pos hh]
            refine wpAny_bind (wpAny_dictEpoch ho hd (wpAny_bind ?_))
            rw [hk]
            refine flat_eq hu room isT (wpAny_bind (wpAny_dictEpoch ho hd ?_))
            show wpAny _ _ (if (ep != ep) = true then _ else _) _ E _
            rw [if_neg (by simp)]
            simp only [Bool.false_eq_true, if_false]
            refine wpAny_bind (wpAny_rule ?_)
            first | rw [if_neg (by simp)] | skip
            first
              | exact wpAny_pure ⟨rfl, rfl⟩
              | exact wpAny_bind (wpAny_pure (wpAny_pure ⟨rfl, rfl⟩))
          · rw [if_neg hh]
            exact wpAny_pure ⟨rfl, rfl⟩
      · rintro b s' ⟨rfl, rfl⟩
        exact wpAny_pure h
  · dsimp only
    by_cases hall : ((Value.int i t :: (placesWithHash es.size (fun i => es[i]?.map (·.hash)) hsh).filterMap (fun i => es[i]?.map (·.key))).all carriedByValue) = true
    · rw [if_pos hall]
      exact plain
    rw [if_neg hall]
    by_cases hone : (((placesWithHash es.size (fun i => es[i]?.map (·.hash)) hsh).filterMap (fun i => es[i]?.map (·.key))) == [Value.int i t]) = true
    · rw [if_pos hone]
      refine wpAny_bind (wpAny_pure ?_)
      rw [if_neg (by simp)]
      refine wpAny_bind ?_
      refine wpAny_forIn_list _ (fun rest b s' => s' = s ∧ b = (none, none)) _ ?_ ?_ _ _ ⟨rfl, rfl⟩
      · rintro i rest b s' ⟨rfl, rfl⟩
        cases hei : es[i]? with
        | none => exact wpAny_pure ⟨rfl, rfl⟩
        | some e =>
          obtain ⟨ks, b, hk, isT⟩ := step i e hei
          dsimp only
          by_cases hh : (e.hash == hsh) = true
          · rw [if_pos hh]
            refine wpAny_bind (wpAny_dictEpoch ho hd (wpAny_bind ?_))
            rw [hk]
            refine flat_eq hu room isT (wpAny_bind (wpAny_dictEpoch ho hd ?_))
            show wpAny _ _ (if (ep != ep) = true then _ else _) _ E _
            rw [if_neg (by simp)]
            simp only [Bool.false_eq_true, if_false]
            refine wpAny_bind (wpAny_rule ?_)
            first | rw [if_neg (by simp)] | skip
            first
              | exact wpAny_pure ⟨rfl, rfl⟩
              | exact wpAny_bind (wpAny_pure (wpAny_pure ⟨rfl, rfl⟩))
          · rw [if_neg hh]
            exact wpAny_pure ⟨rfl, rfl⟩
      · rintro b s' ⟨rfl, rfl⟩
        exact wpAny_pure h
    · rw [if_neg hone]
      refine wpAny_bind (tell_flat hu hst ?_)
      rw [if_neg (by simp)]
      refine wpAny_bind ?_
      refine wpAny_forIn_list _ (fun rest b s' => s' = s ∧ b = (none, none)) _ ?_ ?_ _ _ ⟨rfl, rfl⟩
      · rintro i rest b s' ⟨rfl, rfl⟩
        cases hei : es[i]? with
        | none => exact wpAny_pure ⟨rfl, rfl⟩
        | some e =>
          obtain ⟨ks, b, hk, isT⟩ := step i e hei
          dsimp only
          by_cases hh : (e.hash == hsh) = true
          · rw [if_pos hh]
            refine wpAny_bind (wpAny_dictEpoch ho hd (wpAny_bind ?_))
            rw [hk]
            refine flat_eq hu room isT (wpAny_bind (wpAny_dictEpoch ho hd ?_))
            show wpAny _ _ (if (ep != ep) = true then _ else _) _ E _
            rw [if_neg (by simp)]
            simp only [Bool.false_eq_true, if_false]
            refine wpAny_bind (wpAny_rule ?_)
            first | rw [if_neg (by simp)] | skip
            first
              | exact wpAny_pure ⟨rfl, rfl⟩
              | exact wpAny_bind (wpAny_pure (wpAny_pure ⟨rfl, rfl⟩))
          · rw [if_neg hh]
            exact wpAny_pure ⟨rfl, rfl⟩
      · rintro b s' ⟨rfl, rfl⟩
        exact wpAny_pure h
theorem hash_flat {u : Value} {Q : Int → Shared → Prop} (hu : Flat u) (h : ∀ n tk, Q n { s with toks := tk }) : wpAny (model prog w) A (pyHash u) Q E s := by
  rcases hu with rfl | ⟨i, t, rfl⟩
  · exact W.pyHash_slot (T := "NoneType") rfl F.slot_NoneType_hash F.entry_NoneType_hash (F.args_NoneType_hash_1 _) (beq_builtin_none _) (.inl rfl) (wpAny_bind (wpAny_pure (wpAny_bind (wpAny_mkInt (wpAny_pure ⟨_, _, rfl, h _ _⟩)))))
  · exact wpAny_pyHash_int (h _ _)
theorem get_flat {d : Addr} {xs : List (List K × Addr × Value)} {u : Value} {Q : Option Value → Shared → Prop} (hu : Flat u) (room : A.units < cLine) (hm : s.heap.DictOfH (tupleKind knd) d xs)
    (h : ∀ tk, Q none { s with toks := tk }) : wpAny (model prog w) A (dictGet d u) Q E s := by
  obtain ⟨o, es, ep, ho, _, hd, he, his, _⟩ := hm
  have keys : ∀ e ∈ es, ∃ (ks : List K) (b : Addr), e.key = .ref b ∧ IsTupleKey knd s.heap ks b := fun e hin => by
    obtain ⟨x, hx, rfl⟩ := List.mem_map.mp (he ▸ Array.mem_toList_iff.mpr hin)
    exact ⟨x.1, x.2.1, rfl, his x hx⟩
  unfold dictGet
  try with_reducible refine wpAny_holding ?_
  refine wpAny_bind (hash_flat hu fun n tk => wpAny_bind (find_flat (s := { s with toks := tk }) hu room ho hd keys ?_))
  exact wpAny_pure (h tk)
theorem meets_flat {d : Addr} {u dflt : Value} (hd : (d == sysModules) = false) (hu : Flat u) :
    MeetsIn prog w (Builtin.«dict.get» ⟨[.ref d, u, dflt], []⟩) (fun A R s => A.in1.units < cLine ∧ ∃ xs : List (List K × Addr × Value), s.heap.DictOfH (tupleKind knd) d xs ∧ ∀ tk, R (.ok (.ret dflt)) { s with toks := tk }) :=
  .of_wp fun A R s ⟨room, xs, hm, h⟩ => by
    show wpAny _ _ (dictGet d u >>= _) _ _ s
    refine wpAny_bind (get_flat hu room hm fun tk => ?_)
    show wpAny _ _ (Builtin.Dict.missed d u >>= _) _ _ _
    exact wpAny_bind (wpAny_missed_other hd (wpAny_pure ⟨dflt, rfl, h tk⟩))
end
end Fw

noncomputable section
namespace Fw
open PySem L2
/-! dicts by tuples of numbers and texts -/
def keysOf : List Dt → Option (List Key)
  | [] => some []
  | .int i :: r => (keysOf r).map fun ks => Sum.inl i :: ks
  | .str s :: r => (keysOf r).map fun ks => Sum.inr s :: ks
  | _ :: _ => none
theorem keysOf_ok {H : Hp} : ∀ {l : List Dt} {ks : List Key} {vs : List V}, keysOf l = some ks → Rps H l vs → vs = ks.map kV
  | [], ks, vs, h, r => by
    cases h
    exact r
  | .int i :: t, ks, vs, h, r => by
    obtain ⟨v, w, rfl, h1, h2⟩ := r
    obtain ⟨ks', e, rfl⟩ := Option.map_eq_some_iff.mp h
    rw [keysOf_ok e h2]
    cases (show v = V.int i from h1)
    rfl
  | .str s :: t, ks, vs, h, r => by
    obtain ⟨v, w, rfl, h1, h2⟩ := r
    obtain ⟨ks', e, rfl⟩ := Option.map_eq_some_iff.mp h
    rw [keysOf_ok e h2]
    cases (show v = V.str s from h1)
    rfl
  | .non :: t, ks, vs, h, r => by cases h
  | .bl _ :: t, ks, vs, h, r => by cases h
  | .tup _ :: t, ks, vs, h, r => by cases h
  | .adr _ :: t, ks, vs, h, r => by cases h
def dval : List (List Key × Dt) → List Key → Option Dt
  | [], _ => none
  | p :: r, k => if p.1 = k then some p.2 else dval r k
def dput (kvs : List (List Key × Dt)) (k : List Key) (y : Dt) : List (List Key × Dt) :=
  if (dval kvs k).isSome = true then kvs.map (fun p => if p.1 = k then (p.1, y) else p) else kvs ++ [(k, y)]
theorem Rkv.get {H : Hp} : ∀ {kvs : List (List Key × Dt)} {ws : List (List Key × V)} {k : List Key}, Rkv H kvs ws → (dval kvs k = none ∧ valV ws k = none) ∨ ∃ x v, dval kvs k = some x ∧ valV ws k = some v ∧ Rp H x v
  | [], ws, k, h => by
    have e : ws = [] := h
    subst e
    exact .inl ⟨rfl, rfl⟩
  | p :: r, ws, k, h => by
    obtain ⟨v, s, rfl, h1, h2⟩ := h
    by_cases e : p.1 = k
    · exact .inr ⟨p.2, v, if_pos e, valV_pos (p := (p.1, v)) e, h1⟩
    · rw [show dval (p :: r) k = dval r k from if_neg e, valV_neg (p := (p.1, v)) e]
      exact Rkv.get h2
theorem Rkv.set {H : Hp} {k : List Key} {y : Dt} {u : V} (hy : Rp H y u) : ∀ {kvs : List (List Key × Dt)} {ws : List (List Key × V)}, Rkv H kvs ws → Rkv H (kvs.map fun p => if p.1 = k then (p.1, y) else p) (ws.map fun p => if p.1 = k then (p.1, u) else p)
  | [], ws, h => by
    have e : ws = [] := h
    subst e
    exact h
  | p :: r, ws, h => by
    obtain ⟨v, s, rfl, h1, h2⟩ := h
    rw [List.map_cons, List.map_cons]
    by_cases e : p.1 = k
    · rw [if_pos e, if_pos (show ((p.1, v) : List Key × V).1 = k from e)]
      exact ⟨u, _, rfl, hy, Rkv.set hy h2⟩
    · rw [if_neg e, if_neg (show ¬ ((p.1, v) : List Key × V).1 = k from e)]
      exact ⟨v, _, rfl, h1, Rkv.set hy h2⟩
theorem Rkv.snoc {H : Hp} {k : List Key} {y : Dt} {u : V} (hy : Rp H y u) : ∀ {kvs : List (List Key × Dt)} {ws : List (List Key × V)}, Rkv H kvs ws → Rkv H (kvs ++ [(k, y)]) (ws ++ [(k, u)])
  | [], ws, h => by
    have e : ws = [] := h
    subst e
    exact ⟨u, [], rfl, hy, rfl⟩
  | p :: r, ws, h => by
    obtain ⟨v, s, rfl, h1, h2⟩ := h
    exact ⟨v, _, rfl, h1, Rkv.snoc hy h2⟩
theorem Rkv.put {H : Hp} {k : List Key} {y : Dt} {u : V} {kvs : List (List Key × Dt)} {ws : List (List Key × V)} (h : Rkv H kvs ws) (hy : Rp H y u) : Rkv H (dput kvs k y) (putK ws k u) := by
  unfold dput putK
  rw [valV_any]
  rcases h.get (k := k) with ⟨h1, h2⟩ | ⟨x, v, h1, h2, _⟩
  · rw [h1, h2]
    exact h.snoc hy
  · rw [h1, h2]
    exact Rkv.set hy h
section
variable {X : Cx} {C : Cn} {L M : List Nat} {x y z : XE} {c d : XT} {xs : XA} {u : XS} {a b e f tg : Expr} {es : List Expr} {pos p : Pos}
def xDnew : XE := fun _ => .ok (.d [])
theorem e_dnew : PE X (.Dict [] [] pos) (tF C xDnew) := imp pe_dnewT fun σ H Q ⟨ρ, hs, q⟩ => fun l hl => by
  have q : ∀ H' v, Same H H' → Ro H' (.d []) v → (∀ a, Oc H' (.d []) v a → H a = none) → Q v H' := q
  exact q _ _ (same_new hl) ⟨l, [], rfl, upd_same, rfl⟩ fun b ob => by
    cases (show V.ref l = V.ref b from ob)
    exact hl
/-- now[k] = e, of one's own -/
def sDput (i : Nat) (k x : XE) : XS := fun ρ => match ρ[i]? with
  | some (some (.o (.d kvs))) => ofR (x ρ) ρ fun s => ofR (k ρ) ρ fun t => match s, t with
    | .p y, .p (.tup l) => match keysOf l with
      | some ks => if kvs.length < 1000000 then .nx (ρ.set i (some (.o (.d (dput kvs ks y))))) else .stuck
      | none => .stuck
    | _, _ => .stuck
  | _ => .stuck
theorem own_dct {F : Fr} {σ : St} {H : Hp} {ρ : En} {i : Nat} {kvs : List (List Key × Dt)} (I : Renv L M F σ H ρ) (hi : ρ[i]? = some (some (.o (.d kvs)))) : ∃ a ws, σ[i]? = some (some (.ref a)) ∧ H a = some (.dT ws) ∧ Rkv H kvs ws := by
  obtain ⟨v, h1, h2⟩ := I.slots.get i _ hi
  obtain ⟨a, ws, rfl, ha, hr⟩ := I.ro i _ v hi h1
  exact ⟨a, ws, h1, ha, hr⟩
theorem dct_set {F : Fr} {σ : St} {H : Hp} {ρ : En} {i : Nat} {a : Addr} {kvs kvs' : List (List Key × Dt)} {ws ws' : List (List Key × V)} (I : Renv L M F σ H ρ) (hi : ρ[i]? = some (some (.o (.d kvs)))) (hv : σ[i]? = some (some (.ref a))) (ha : H a = some (.dT ws)) (hM : M.contains i = false) (r : Rkv H kvs' ws') :
    Renv L M F σ (upd H a (.dT ws')) (ρ.set i (some (.o (.d kvs')))) := by
  have b := but_upd (o := .dT ws') ha (fun xs z => by cases z)
  refine I.mut hi hv (notM hM) rfl (fun b ob => ?_) b (by rw [upd_same]; exact fun z => nomatch z) (fun b nb z => by rw [upd_ne nb] at z; exact z) ⟨a, ws', rfl, upd_same, r.tx b.tx⟩
  cases (show V.ref a = V.ref b from ob)
  rfl
theorem st_dput (hu : X.A.units + 1 < cLine) (i : Nat) {n : Str} {np : Pos} {pos' : Pos} (hM : M.contains i = false) (hN : X.N[i]? = some n) (hv : Vis X.env.scope n) (hk : PE X b (tE C y)) (he : PE X e (tE C x)) (hd : (n == ("__debug__" : Str)) = false := by decide) (hcd : (n == ("__classdict__" : Str)) = false := by decide)
    (hs : swapsWith e (some (.Subscript (.Name n np) b pos')) pos.line X.env = pure false := by rfl) :
    PS X (.Assign [.Subscript (.Name n np) b pos'] e pos) (tS C L M (sDput i y x)) := impS (ps_dput hu (pv i hN hv hd hcd) hk he hs) fun D σ H ⟨F, ρ, I, q⟩ => by
  unfold sDput at q
  split at q
  · rename_i kvs hl
    refine ⟨ρ, I.slots, Rz.P_mono (ofR_P q I) (fun _ k => k) fun s _ k H2 v2 e2 r2 => ?_⟩
    obtain ⟨a, ws, h1, ha, hr⟩ := own_dct (I.mono e2) hl
    refine ⟨_, h1, ρ, (I.mono e2).slots, Rz.P_mono (ofR_P k (I.mono e2)) (fun _ k => k) fun t _ k H3 v3 e3 r3 => ?_⟩
    split at k
    · rename_i yv l
      split at k
      · rename_i ks hks
        split at k
        · rename_i hlt
          obtain ⟨bb, us, rfl, hb, hus⟩ := r3
          cases keysOf_ok hks hus
          have ha3 := e3 a _ ha
          have hr3 := hr.tx (Same.tx e3)
          have len : ws.length < sizeLine := by
            rw [hr.len]
            exact Nat.lt_of_lt_of_le hlt (by decide)
          exact ⟨a, _, rfl, DPut.t ha3 hb len, k σ _ (dct_set ((I.mono e2).mono e3) hl h1 ha3 hM (hr3.put (Rp.mono e3 r2)))⟩
        · exact k.elim
      · exact k.elim
    · exact k.elim
  · exact q.elim
end
end Fw
end

noncomputable section
namespace Fw
open PySem L2
/-! now.get(value, value) -/
/-- what a dict has at a key, or at what is no key of it -/
def DGetF (H : Hp) (a : Addr) (y : V) (r : Option V) : Prop := DGet H a y r ∨ (∃ ws, H a = some (.dT ws)) ∧ (y = .non ∨ ∃ i, y = .int i) ∧ r = none
section
variable {X : Cx} {pins : List (Addr × Obj)} {σ : St} {H : Hp} {s : Shared} {a : Addr} {y d : V} {u r : Value} {o : Option V} {A : Around} {E : Value → Shared → Prop}
theorem d_get2F {Q : Value → Shared → Prop} (hu : A.units + 1 < cLine) (I : Inv X pins σ H s) (g : DGetF H a y o) (ry : RelV y u) (rd : RelV d r) (h : ∀ w' s', Inv X pins σ H s' → RelV (o.getD d) w' → Q w' s') :
    wpAny (model X.prog X.w) A (call (.builtin "dict.get") [.ref a, u, r]) Q E s := by
  rcases g with g | ⟨⟨ws, e⟩, hy, ho⟩
  · exact d_get2 hu I g ry rd h
  · subst ho
    obtain ⟨_, notMods, xs, _, dd⟩ := dt_of I.hok e
    have flat : Flat u := by
      rcases hy with rfl | ⟨i, rfl⟩
      · exact .inl ry
      · exact .inr ⟨i, ry⟩
    exact call_meetsIn PySem.F.slot_dict_get dd.typeIs PySem.F.entry_dict_get (PySem.F.args_dict_get_3 _ _ _) (meets_flat notMods flat) ⟨hu, xs, dd, fun tk => h _ _ (I.tok _) rd⟩
end
def tGetF (td ty tx : TE) : TE := fun σ H Q => td σ H fun x H1 => ∃ a, x = .ref a ∧ IsD H1 a ∧ ty σ H1 fun y H2 => tx σ H2 fun z H3 => ∃ o, DGetF H3 a y o ∧ Q (o.getD z) H3
section
variable {X : Cx} {C : Cn} {L M : List Nat} {x y z : XE} {a b e f o : Expr} {pos p cpos apos : Pos} {td ty tx : TE}
theorem pe_getF (hu : X.A.units + 1 < cLine) (ho : PE X o td) (he : PE X e ty) (hf : PE X f tx) (m : M2 X o "get" apos e f cpos) : PE X (.Call (.Attribute o "get" apos) [e, f] [] cpos) (tGetF td ty tx) :=
  ⟨fun pins s σ H Q I given => wpAny_Call_method m.base m.few m.line PySem.F.plainAttrs_dict PySem.F.slot_dict_get PySem.F.type_dict_get (thn (ho.run pins s σ H _ I given) fun w1 s1 ⟨v1, H1, I1, r1, ad, e1, isD, rest⟩ => by
    subst e1
    cases (show w1 = Value.ref ad from r1)
    have typed := isD_at I1 isD
    refine ⟨typed.1, typed.2.1, ?_⟩
    rw [m.trees]
    exact Calls.callWith_builtin rfl (Calls.evalArgs_plain (Calls.spliced_cons (thn (he.run pins s1 σ H1 _ I1 rest) fun w2 s2 ⟨v2, H2, I2, r2, rest2⟩ =>
      Calls.spliced_cons (thn (hf.run pins s2 σ H2 _ I2 rest2) fun w3 s3 ⟨v3, H3, I3, r3, ov, g, rest3⟩ => Calls.spliced_nil (d_get2F hu I3 g r2 r3 fun w4 s4 I4 r4 => ⟨_, H3, I4, r4, rest3⟩))))))⟩
def dgetK (kvs : List (List Key × Dt)) (t z : Dt) : Rz Sv := match t with
  | .tup l => match keysOf l with
    | some ks => .ok (.p ((dval kvs ks).getD z))
    | none => .stuck
  | .non => .ok (.p z)
  | .int _ => .ok (.p z)
  | _ => .stuck
def dgetD (kvs : List (List Key × Dt)) (t v : Sv) : Rz Sv := match t, v with
  | .p t, .p z => dgetK kvs t z
  | _, _ => .stuck
def xGet (x y z : XE) : XE := fun ρ => (x ρ).bind fun s => match s with
  | .d kvs => (y ρ).bind fun t => (z ρ).bind fun v => dgetD kvs t v
  | _ => .stuck
theorem e_get (hu : X.A.units + 1 < cLine) (ho : PE X o (tE C x)) (he : PE X e (tE C y)) (hf : PE X f (tE C z)) (m : M2 X o "get" apos e f cpos) : PE X (.Call (.Attribute o "get" apos) [e, f] [] cpos) (tE C (xGet x y z)) :=
  imp (pe_getF hu ho he hf m) fun σ H Q ⟨ρ, hs, q⟩ => ⟨ρ, hs, Rz.P_mono (Rz.P_bind q) (fun _ k => k) fun s _ k H1 v1 e1 r1 => by
    split at k
    · rename_i kvs hq
      obtain ⟨a, ws, rfl, ha, hr⟩ := r1
      refine ⟨a, rfl, .inr ⟨ws, .inl ha⟩, ρ, hs.mono e1, Rz.P_mono (Rz.P_bind (show ((y ρ).bind fun t => (z ρ).bind fun v => dgetD kvs t v).P _ _ from k)) (fun _ k => Ex.mono k e1) fun t _ k2 H2 v2 e2 r2 => ⟨ρ, (hs.mono e1).mono e2, Rz.P_mono (Rz.P_bind k2) (fun _ k => Ex.mono k (e1.trans e2)) fun v _ k3 H3 v3 e3 r3 => ?_⟩⟩
      have ha3 := e3 a _ (e2 a _ ha)
      have hr3 := (hr.tx (Same.tx e2)).tx (Same.tx e3)
      have all := (e1.trans e2).trans e3
      cases t with
      | p t =>
        cases v with
        | p z' =>
          have k3 : (dgetK kvs t z').P _ _ := k3
          cases t with
          | tup l =>
            unfold dgetK at k3
            simp only at k3
            split at k3
            · rename_i ks hks
              obtain ⟨bb, us, rfl, hb, hus⟩ := r2
              cases keysOf_ok hks hus
              have hb3 := e3 bb _ hb
              refine ⟨_, .inl (DGet.t ha3 hb3), ?_⟩
              rcases hr3.get (k := ks) with ⟨h1, h2⟩ | ⟨xv, vv, h1, h2, h3⟩
              · rw [h2]
                rw [h1] at k3
                exact k3 H3 _ all r3
              · rw [h2]
                rw [h1] at k3
                exact k3 H3 _ all h3
            · exact k3.elim
          | non => exact ⟨none, .inr ⟨⟨_, ha3⟩, .inl r2, rfl⟩, k3 H3 _ all r3⟩
          | int i => exact ⟨none, .inr ⟨⟨_, ha3⟩, .inr ⟨_, r2⟩, rfl⟩, k3 H3 _ all r3⟩
          | bl _ => exact k3.elim
          | str _ => exact k3.elim
          | adr _ => exact k3.elim
        | _ => exact k3.elim
      | _ => exact k3.elim
    · exact k.elim⟩
end
end Fw
end

namespace Fw
open PySem L2
/-! defs that change an argument -/
def slotsM (ms : List Nat) : Nat → List Sv → En
  | _, [] => []
  | i, s :: r => some (if i ∈ ms then .o s else .v s) :: slotsM ms (i + 1) r
def initM (n k : Nat) (ms : List Nat) (ss : List Sv) : En := slotsM ms 0 ss ++ List.replicate (k - n) none
theorem slotsM_len {ms : List Nat} : ∀ {i : Nat} {ss : List Sv}, (slotsM ms i ss).length = ss.length
  | _, [] => rfl
  | i, s :: r => by
    show (slotsM ms (i + 1) r).length + 1 = _
    rw [slotsM_len]
    rfl
theorem slotsM_get {ms : List Nat} : ∀ {i j : Nat} {ss : List Sv}, (slotsM ms i ss)[j]? = (ss[j]?).map fun s => some (if i + j ∈ ms then Sl.o s else Sl.v s)
  | i, j, [] => by simp [slotsM]
  | i, 0, s :: r => by simp [slotsM]
  | i, j + 1, s :: r => by
    show (slotsM ms (i + 1) r)[j]? = _
    rw [slotsM_get, show i + 1 + j = i + (j + 1) by omega]
    rfl
theorem initM_get {n k : Nat} {ms : List Nat} {ss : List Sv} {j : Nat} {sl : Sl} (h : (initM n k ms ss)[j]? = some (some sl)) : ∃ s, ss[j]? = some s ∧ sl = if j ∈ ms then Sl.o s else Sl.v s := by
  unfold initM at h
  by_cases g : j < (slotsM ms 0 ss).length
  · rw [List.getElem?_append_left g, slotsM_get] at h
    obtain ⟨s, h1, h2⟩ := Option.map_eq_some_iff.mp h
    rw [Nat.zero_add] at h2
    exact ⟨s, h1, (Option.some.inj h2).symm⟩
  · rw [List.getElem?_append_right (by omega), List.getElem?_replicate] at h
    split at h <;> cases h
/-- the addresses of the arguments that change -/
def MPs (H : Hp) (ss : List Sv) (vs : List V) (ms : List Nat) (a : Addr) : Prop := ∃ j ∈ ms, ∃ s v, ss[j]? = some s ∧ vs[j]? = some v ∧ Oc H s v a
def takeO (ρ : En) : List Nat → Option (List Sv)
  | [] => some []
  | j :: js => match ρ[j]? with
    | some (some (.o s)) => (takeO ρ js).map fun r => s :: r
    | _ => none
theorem takeO_get {ρ : En} : ∀ {ms : List Nat} {os : List Sv} {i j : Nat} {s : Sv}, takeO ρ ms = some os → ms[i]? = some j → os[i]? = some s → ρ[j]? = some (some (.o s))
  | [], os, i, j, s, h, hj, hs => by cases hj
  | m :: ms, os, i, j, s, h, hj, hs => by
    unfold takeO at h
    split at h
    · rename_i t ht
      obtain ⟨r, h1, rfl⟩ := Option.map_eq_some_iff.mp h
      cases i with
      | zero =>
        cases hj
        cases hs
        exact ht
      | succ i => exact takeO_get h1 hj hs
    · cases h
theorem takeO_len {ρ : En} : ∀ {ms : List Nat} {os : List Sv}, takeO ρ ms = some os → os.length = ms.length
  | [], os, h => by cases h; rfl
  | m :: ms, os, h => by
    unfold takeO at h
    split at h
    · obtain ⟨r, h1, rfl⟩ := Option.map_eq_some_iff.mp h
      simp [takeO_len h1]
    · cases h
def outM (ms : List Nat) : Out → Rz (Sv × List Sv)
  | .rt s ρ => match takeO ρ ms with
    | some os => .ok (s, os)
    | none => .stuck
  | .nx ρ => match takeO ρ ms with
    | some os => .ok (.p .non, os)
    | none => .stuck
  | _ => .stuck
def runM (n k : Nat) (ms : List Nat) (s : XS) : List Sv → Rz (Sv × List Sv) := fun ss => if ss.length = n then outM ms (s (initM n k ms ss)) else .stuck
/-- what a def that changes arguments leaves -/
structure MutOut (H : Hp) (ss : List Sv) (vs : List V) (ms : List Nat) (r : Sv × List Sv) (H' : Hp) (v : V) : Prop where
  keep : ∀ b o, ¬ MPs H ss vs ms b → H b = some o → H' b = some o
  back : ∀ b, H' b = none → H b = none
  len : r.2.length = ms.length
  news : ∀ (i j : Nat) (s : Sv) (u : V), ms[i]? = some j → r.2[i]? = some s → vs[j]? = some u → Ro H' s u
  foot : ∀ (i j : Nat) (s : Sv) (u : V) (a : Addr), ms[i]? = some j → r.2[i]? = some s → vs[j]? = some u → Oc H' s u a → H a = none ∨ MPs H ss vs ms a
  seps : ∀ (i i' j j' : Nat) (s t : Sv) (u w : V) (a : Addr), ms[i]? = some j → ms[i']? = some j' → j ≠ j' → r.2[i]? = some s → r.2[i']? = some t → vs[j]? = some u → vs[j']? = some w → Oc H' s u a → ¬ Oc H' t w a
  res : Ro H' r.1 v
  resF : ∀ a, Oc H' r.1 v a → H a = none ∨ MPs H ss vs ms a
  resS : ∀ a, Oc H' r.1 v a → ∀ (i j : Nat) (s : Sv) (u : V), ms[i]? = some j → r.2[i]? = some s → vs[j]? = some u → ¬ Oc H' s u a
def spMut (n : Nat) (ms : List Nat) (m : List Sv → Rz (Sv × List Sv)) : Sp := fun vs H Q E => ∃ ss, ss.length = n ∧ Rss H ss vs ∧ (∀ j ∈ ms, ∀ s v, ss[j]? = some s → vs[j]? = some v → Ro H s v) ∧
  (∀ j ∈ ms, ∀ k s t v u a, j ≠ k → ss[j]? = some s → ss[k]? = some t → vs[j]? = some v → vs[k]? = some u → Oc H s v a → ¬ Oc H t u a) ∧
  (m ss).P (fun _ => False) fun r => ∀ H' v, MutOut H ss vs ms r H' v → Q v H'
theorem init_renvM {N : List Str} {H : Hp} {ss : List Sv} {vs : List V} {n k : Nat} {ms : List Nat} (hk : N.length = k) (hn : ss.length = n) (h : Rss H ss vs) (own : ∀ j ∈ ms, ∀ s v, ss[j]? = some s → vs[j]? = some v → Ro H s v)
    (sep : ∀ j ∈ ms, ∀ k s t v u a, j ≠ k → ss[j]? = some s → ss[k]? = some t → vs[j]? = some v → vs[k]? = some u → Oc H s v a → ¬ Oc H t u a) :
    Renv ms [] ⟨H, MPs H ss vs ms, ms.filterMap fun j => (vs[j]?).map fun v => (j, v)⟩ (L2.start N vs) H (initM n k ms ss) := by
  have hl : vs.length = n := by rw [h.length, hn]
  have at_ : ∀ (j : Nat) (s : Sv), ss[j]? = some s → ∃ v, vs[j]? = some v ∧ (L2.start N vs)[j]? = some (some v) ∧ Rs H s v := fun j s hs => by
    obtain ⟨v, h1, h2⟩ := h.get hs
    refine ⟨v, h1, ?_, h2⟩
    have hj : j < vs.length := (List.getElem?_eq_some_iff.mp h1).1
    show (vs.map some ++ List.replicate (N.length - vs.length) none)[j]? = _
    rw [List.getElem?_append_left (by simpa using hj), List.getElem?_map, h1]
    rfl
  have uniq : ∀ (j : Nat) (s : Sv) (u : V), ss[j]? = some s → (L2.start N vs)[j]? = some (some u) → vs[j]? = some u ∧ Rs H s u := fun j s u hs hu => by
    obtain ⟨v, h1, h2, h3⟩ := at_ j s hs
    rw [h2] at hu
    cases hu
    exact ⟨h1, h3⟩
  have isO : ∀ (j : Nat) (s : Sv), (initM n k ms ss)[j]? = some (some (.o s)) → j ∈ ms ∧ ss[j]? = some s := fun j s q => by
    obtain ⟨t, h1, h2⟩ := initM_get q
    by_cases g : j ∈ ms
    · rw [if_pos g] at h2
      cases h2
      exact ⟨g, h1⟩
    · rw [if_neg g] at h2
      cases h2
  refine ⟨fun a o q _ => q, fun a q => q, ⟨?_, fun j sl q => ?_⟩, fun i s v q1 q2 => ?_, fun i s v a q1 _ q2 oc => ?_, fun i j s t v u a ij q1 q2 q3 q4 oc => ?_, fun p hp => ?_⟩
  · unfold L2.start initM
    simp [slotsM_len, hl, hk, hn]
  · obtain ⟨s, h1, h2⟩ := initM_get q
    obtain ⟨v, _, h3, h4⟩ := at_ j s h1
    refine ⟨v, h3, ?_⟩
    subst h2
    split <;> exact h4
  · obtain ⟨g, h1⟩ := isO i s q1
    exact own i g s v h1 (uniq i s v h1 q2).1
  · obtain ⟨g, h1⟩ := isO i s q1
    exact .inr ⟨i, g, s, v, h1, (uniq i s v h1 q2).1, oc⟩
  · obtain ⟨g, h1⟩ := isO i s q1
    obtain ⟨t', h2, h3⟩ := initM_get q2
    have e : t.s = t' := by
      subst h3
      split <;> rfl
    rw [e]
    exact sep i g j s t' v u a ij h1 h2 (uniq i s v h1 q3).1 (uniq j t' u h2 q4).1 oc
  · obtain ⟨j, hj, h1⟩ := List.mem_filterMap.mp hp
    obtain ⟨v, h2, rfl⟩ := Option.map_eq_some_iff.mp h1
    refine ⟨hj, ?_⟩
    have hlt : j < vs.length := (List.getElem?_eq_some_iff.mp h2).1
    show (vs.map some ++ List.replicate (N.length - vs.length) none)[j]? = _
    rw [List.getElem?_append_left (by simpa using hlt), List.getElem?_map, h2]
    rfl
theorem fn_okM {P : Program} {w : World} {K : PySem.W.Frag} {mg : Str → Option Value} {base : Heap} {x qual : Str} {stm : Stmt} {f : Addr} {fd : FuncData} {N ps : List Str} {j n k : Nat} {cl : Nat → Addr} {ms : List Nat} {s : XS} (F : Fun K x qual stm f fd) (S : FnScope N ps (defScope stm)) (hk : N.length = k) (hn : ps.length = n)
    (hbody : ∀ (cdv : Value) (A : Around) (outer : List Env) (s0 : Shared) (H : Hp) (E : XK), Room j (A.deeper (PyProof.Rows.envOfC qual (defScope stm) s0.heap.objs.size f cdv)) →
      PSs (cxOf (L2.CX P w) P w K mg base N qual (defScope stm) f cdv A outer s0 H E) (defBody stm) (tS (E1 cl E) ms [] s)) : FnOk P w K mg base (L2.CX P w) (j + 1) f fd ps (spMut n ms (runM n k ms s)) := by
  refine F.okX S (fun vs H Q E ⟨ss, hl, hr, _⟩ => by rw [hr.length, hl, hn]) (fun cdv A outer s0 H vs Q E hr ⟨ss, hl, hs, own, sep, q⟩ => ⟨tS (E1 cl E) ms [] s, hbody cdv A outer s0 H E hr, ⟨H, MPs H ss vs ms, ms.filterMap fun j => (vs[j]?).map fun v => (j, v)⟩, initM n k ms ss, init_renvM hk hl hs own sep, ?_⟩)
  unfold runM at q
  rw [if_pos hl] at q
  have outs : ∀ {σ' : St} {H' : Hp} {ρ' : En} {os : List Sv} {r : Sv} {v : V}, Renv ms [] ⟨H, MPs H ss vs ms, ms.filterMap fun j => (vs[j]?).map fun v => (j, v)⟩ σ' H' ρ' → takeO ρ' ms = some os → Ro H' r v → (∀ a, Oc H' r v a → H a = none ∨ MPs H ss vs ms a) →
      (∀ a, Oc H' r v a → ∀ (j : Nat) (t : Sl) (u : V), j ∈ ms → ρ'[j]? = some (some t) → σ'[j]? = some (some u) → ¬ Oc H' t.s u a) → MutOut H ss vs ms (r, os) H' v := fun {σ' H' ρ' os r v} I ht ro rf rs => by
    have fx : ∀ (i j : Nat) (u : V), ms[i]? = some j → vs[j]? = some u → σ'[j]? = some (some u) := fun i j u hi hu => by
      have hm : j ∈ ms := List.mem_of_getElem? hi
      exact (I.fix (j, u) (List.mem_filterMap.mpr ⟨j, hm, by rw [hu]; rfl⟩)).2
    refine ⟨fun b o nb e => I.keep b o e nb, fun b e => I.alive b e, takeO_len ht, fun i j s u hi hs hu => ?_, fun i j s u a hi hs hu oc => ?_, fun i i' j j' s t u w a hi hi' jj hs ht' hu hw oc => ?_, ro, rf, fun a oc i j s u hi hs hu => ?_⟩
    · exact I.ro j s u (takeO_get ht hi hs) (fx i j u hi hu)
    · exact I.own j s u a (takeO_get ht hi hs) (by simp) (fx i j u hi hu) oc
    · exact I.sep j j' s (.o t) u w a jj (takeO_get ht hi hs) (takeO_get ht hi' ht') (fx i j u hi hu) (fx i' j' w hi' hw) oc
    · exact rs a oc j (.o s) u (List.mem_of_getElem? hi) (takeO_get ht hi hs) (fx i j u hi hu)
  cases hu : s (initM n k ms ss) with
  | stuck => rw [hu] at q; exact q.elim
  | exc c ρ' => rw [hu] at q; exact q.elim
  | bk ρ' => rw [hu] at q; exact q.elim
  | ct ρ' => rw [hu] at q; exact q.elim
  | nx ρ' =>
    rw [hu] at q
    unfold outM at q
    simp only at q
    cases ht : takeO ρ' ms with
    | none => rw [ht] at q; exact q.elim
    | some os =>
      rw [ht] at q
      exact fun σ' H' I => q H' .non (outs I ht rfl (fun a z => z.elim) fun a z => z.elim)
  | rt r ρ' =>
    rw [hu] at q
    unfold outM at q
    simp only at q
    cases ht : takeO ρ' ms with
    | none => rw [ht] at q; exact q.elim
    | some os =>
      rw [ht] at q
      exact fun σ' H' v I ro oc sp => q H' v (outs I ht ro oc sp)
end Fw

namespace Fw
open PySem L2
/-! calls that change arguments: d data, f a new object, s a name -/
inductive Ag where
  | d (x : XE) | f (x : XE) | s (i : Nat)
def evAM : List Ag → XA
  | [], _ => .ok []
  | .d x :: r, ρ => (x ρ).bind fun s => (evAM r ρ).bind fun ss => .ok (s :: ss)
  | .f x :: r, ρ => (x ρ).bind fun s => (evAM r ρ).bind fun ss => .ok (s :: ss)
  | .s i :: r, ρ => (xVar i ρ).bind fun s => (evAM r ρ).bind fun ss => .ok (s :: ss)
def tAM (C : Cn) (as : List Ag) : TA := fun σ H Q => ∃ ρ, Slots σ H ρ ∧ (evAM as ρ).P (Ex C σ H) fun ss => ∀ H' vs, Same H H' → Rss H' ss vs → (∀ (j i : Nat), as[j]? = some (.s i) → ∃ v, vs[j]? = some v ∧ σ[i]? = some (some v)) →
  (∀ (j : Nat) (x : XE) (s : Sv) (v : V) (a : Addr), as[j]? = some (.f x) → ss[j]? = some s → vs[j]? = some v → Oc H' s v a → H a = none) → Q vs H'
section
variable {X : Cx} {C : Cn} {L M : List Nat} {x y z : XE} {a b e : Expr} {es : List Expr} {pos p : Pos} {as : List Ag}
theorem am_nil : PA X [] (tAM C []) := impA pa_nil fun σ H Q ⟨ρ, hs, q⟩ => q H _ (Same.refl H) rfl (fun j i h => by cases h) fun j x s v a h => by cases h
theorem am_cons (ha : PE X e (tE C x)) (hr : PA X es (tAM C as)) (hst : starEach (e :: es) X.env = (false, eval e X.env) :: starEach es X.env := by rfl) : PA X (e :: es) (tAM C (.d x :: as)) :=
  impA (pa_cons ha hr hst) fun σ H Q ⟨ρ, hs, q⟩ => ⟨ρ, hs, Rz.P_mono (Rz.P_bind q) (fun _ k => k) fun s _ k H1 v e1 r1 => ⟨ρ, hs.mono e1, Rz.P_mono (Rz.P_bind k) (fun _ k => k.mono e1) fun ss _ k H2 vs e2 r2 ids frs => k H2 (v :: vs) (e1.trans e2) ⟨v, vs, rfl, r1.mono e2, r2⟩ (fun j i h => by
    cases j with
    | zero => cases h
    | succ j => exact ids j i h) fun j y t u b h h2 h3 oc => by
    cases j with
    | zero => cases h
    | succ j => exact e1.free (frs j y t u b h h2 h3 oc)⟩⟩
theorem am_new (ha : PE X e (tF C x)) (hr : PA X es (tAM C as)) (hst : starEach (e :: es) X.env = (false, eval e X.env) :: starEach es X.env := by rfl) : PA X (e :: es) (tAM C (.f x :: as)) :=
  impA (pa_cons ha hr hst) fun σ H Q ⟨ρ, hs, q⟩ => ⟨ρ, hs, Rz.P_mono (Rz.P_bind q) (fun _ k => k) fun s _ k H1 v e1 r1 oc1 => ⟨ρ, hs.mono e1, Rz.P_mono (Rz.P_bind k) (fun _ k => k.mono e1) fun ss _ k H2 vs e2 r2 ids frs => k H2 (v :: vs) (e1.trans e2) ⟨v, vs, rfl, r1.rs.mono e2, r2⟩ (fun j i h => by
    cases j with
    | zero => cases h
    | succ j => exact ids j i h) fun j y t u b h h2 h3 oc => by
    cases j with
    | zero =>
      cases h2
      cases h3
      exact oc1 b (oc.mono e2 r1.rs)
    | succ j => exact e1.free (frs j y t u b h h2 h3 oc)⟩⟩
theorem am_slot (i : Nat) {n : Str} {np : Pos} (hr : PA X es (tAM C as)) (hN : X.N[i]? = some n) (hv : Vis X.env.scope n) (hd : (n == ("__debug__" : Str)) = false := by decide) (hcd : (n == ("__classdict__" : Str)) = false := by decide) (hst : starEach (.Name n np :: es) X.env = (false, eval (.Name n np) X.env) :: starEach es X.env := by rfl) : PA X (.Name n np :: es) (tAM C (.s i :: as)) :=
  impA (pa_cons (pv i hN hv hd hcd) hr hst) fun σ H Q ⟨ρ, hs, q⟩ => by
    have q : ((xVar i ρ).bind fun s => (evAM as ρ).bind fun ss => .ok (s :: ss)).P _ _ := q
    unfold xVar at q
    cases hx : ρ[i]? with
    | none =>
      rw [hx] at q
      exact q.elim
    | some o =>
      cases o with
      | none =>
        rw [hx] at q
        exact q.elim
      | some sl =>
        rw [hx] at q
        obtain ⟨v, h1, h2⟩ := hs.get i sl hx
        refine ⟨v, h1, ρ, hs, Rz.P_mono (Rz.P_bind (show ((evAM as ρ).bind fun ss => Rz.ok (sl.s :: ss)).P _ _ from q)) (fun _ k => k) fun ss _ k H2 vs e2 r2 ids frs => k H2 (v :: vs) e2 ⟨v, vs, rfl, h2.mono e2, r2⟩ (fun j m h => ?_) fun j y t u b h h2 h3 oc => ?_⟩
        · cases j with
          | zero =>
            cases h
            exact ⟨v, rfl, h1⟩
          | succ j => exact ids j m h
        · cases j with
          | zero => cases h
          | succ j => exact frs j y t u b h h2 h3 oc
/-- what is written back: an effect on the slots -/
abbrev XM := En → Rz (Sv × En)
structure MRes (L M : List Nat) (F : Fr) (σ : St) (H' : Hp) (r : Sv × En) (v : V) : Prop where
  env : Renv L M F σ H' r.2
  res : Ro H' r.1 v
  ow : ∀ a, Oc H' r.1 v a → F.base a = none ∨ F.mp a
  sp : ∀ a, Oc H' r.1 v a → ∀ (j : Nat) (t : Sl) (u : V), r.2[j]? = some (some t) → σ[j]? = some (some u) → ¬ Oc H' t.s u a
def tM (C : Cn) (L M : List Nat) (x : XM) : TE := fun σ H Q => ∃ F ρ, Renv L M F σ H ρ ∧ (x ρ).P (fun _ => False) fun r => ∀ H' v, MRes L M F σ H' r v → Q v H'
def slotOf (as : List Ag) (j : Nat) : Option Nat := match as[j]? with
  | some (.s i) => some i
  | _ => none
/-- the arguments that change are objects of one's own, each once among all arguments; what is no name is data or new -/
def okAM (M : List Nat) (ms : List Nat) (as : List Ag) (ρ : En) : Bool :=
  ms.all (fun j => match slotOf as j with
    | some i => !M.contains i && (match ρ[i]? with
      | some (some (.o _)) => true
      | _ => false) && (List.range as.length).all fun k => k == j || (slotOf as k != some i)
    | none => false)
def isDat : Sv → Bool
  | .p _ => true
  | _ => false
theorem oc_dat {H : Hp} {s : Sv} {v : V} {a : Addr} (h : isDat s = true) : ¬ Oc H s v a := by
  cases s with
  | p _ => exact fun z => z
  | _ => cases h
def datAM : List Ag → List Sv → Bool
  | .d _ :: r, s :: ss => isDat s && datAM r ss
  | .f _ :: r, _ :: ss => datAM r ss
  | .s _ :: r, _ :: ss => datAM r ss
  | [], [] => true
  | _, _ => false
def xCallM (M : List Nat) (n : Nat) (ms is : List Nat) (m : List Sv → Rz (Sv × List Sv)) (as : List Ag) : XM := fun ρ => match evAM as ρ with
  | .ok ss => if ss.length = n ∧ okAM M ms as ρ = true ∧ datAM as ss = true ∧ ms.map (slotOf as) = is.map some then (match m ss with
    | .ok (x, os) => .ok (x, storeO ρ is os)
    | _ => .stuck) else .stuck
  | _ => .stuck
theorem evAM_get {ρ : En} : ∀ {as : List Ag} {ss : List Sv} {j i : Nat}, evAM as ρ = .ok ss → as[j]? = some (.s i) → ∃ sl : Sl, ρ[i]? = some (some sl) ∧ ss[j]? = some sl.s
  | [], ss, j, i, h, hj => by cases hj
  | .d x :: r, ss, j, i, h, hj => by
    have h : ((x ρ).bind fun s => (evAM r ρ).bind fun ss => Rz.ok (s :: ss)) = .ok ss := h
    cases hx : x ρ with
    | stuck => rw [hx] at h; cases h
    | exc c => rw [hx] at h; cases h
    | ok s =>
      rw [hx] at h
      cases hr : evAM r ρ with
      | stuck => simp [hr] at h
      | exc c => simp [hr] at h
      | ok ss' =>
        simp [hr] at h
        subst h
        cases j with
        | zero => cases hj
        | succ j =>
          obtain ⟨sl, h1, h2⟩ := evAM_get (as := r) (ss := ss') (j := j) (i := i) hr hj
          exact ⟨sl, h1, h2⟩
  | .f x :: r, ss, j, i, h, hj => by
    have h : ((x ρ).bind fun s => (evAM r ρ).bind fun ss => Rz.ok (s :: ss)) = .ok ss := h
    cases hx : x ρ with
    | stuck => rw [hx] at h; cases h
    | exc c => rw [hx] at h; cases h
    | ok s =>
      rw [hx] at h
      cases hr : evAM r ρ with
      | stuck => simp [hr] at h
      | exc c => simp [hr] at h
      | ok ss' =>
        simp [hr] at h
        subst h
        cases j with
        | zero => cases hj
        | succ j =>
          obtain ⟨sl, h1, h2⟩ := evAM_get (as := r) (ss := ss') (j := j) (i := i) hr hj
          exact ⟨sl, h1, h2⟩
  | .s m :: r, ss, j, i, h, hj => by
    have h : ((xVar m ρ).bind fun s => (evAM r ρ).bind fun ss => Rz.ok (s :: ss)) = .ok ss := h
    cases hx : xVar m ρ with
    | stuck => rw [hx] at h; cases h
    | exc c => rw [hx] at h; cases h
    | ok s =>
      rw [hx] at h
      cases hr : evAM r ρ with
      | stuck => simp [hr] at h
      | exc c => simp [hr] at h
      | ok ss' =>
        simp [hr] at h
        subst h
        cases j with
        | zero =>
          cases hj
          unfold xVar at hx
          split at hx
          · rename_i sl hsl
            cases hx
            exact ⟨sl, hsl, rfl⟩
          · cases hx
        | succ j =>
          obtain ⟨sl, h1, h2⟩ := evAM_get (as := r) (ss := ss') (j := j) (i := i) hr hj
          exact ⟨sl, h1, h2⟩
theorem datAM_get : ∀ {as : List Ag} {ss : List Sv} {k : Nat} {x : XE} {t : Sv}, datAM as ss = true → as[k]? = some (.d x) → ss[k]? = some t → isDat t = true
  | [], ss, k, x, t, h, h1, h2 => by cases h1
  | .d _ :: r, [], k, x, t, h, h1, h2 => by cases h2
  | .f _ :: r, [], k, x, t, h, h1, h2 => by cases h2
  | .s _ :: r, [], k, x, t, h, h1, h2 => by cases h2
  | .d _ :: r, s :: ss, k, x, t, h, h1, h2 => by
    have h : (isDat s && datAM r ss) = true := h
    rw [Bool.and_eq_true] at h
    cases k with
    | zero =>
      cases h2
      exact h.1
    | succ k => exact datAM_get h.2 h1 h2
  | .f _ :: r, s :: ss, k, x, t, h, h1, h2 => by
    have h : datAM r ss = true := h
    cases k with
    | zero => cases h1
    | succ k => exact datAM_get h h1 h2
  | .s _ :: r, s :: ss, k, x, t, h, h1, h2 => by
    have h : datAM r ss = true := h
    cases k with
    | zero => cases h1
    | succ k => exact datAM_get h h1 h2
theorem datAM_len : ∀ {as : List Ag} {ss : List Sv}, datAM as ss = true → as.length = ss.length
  | [], [], h => rfl
  | [], _ :: _, h => by cases h
  | .d _ :: r, [], h => by cases h
  | .f _ :: r, [], h => by cases h
  | .s _ :: r, [], h => by cases h
  | .d _ :: r, s :: ss, h => by
    have h : (isDat s && datAM r ss) = true := h
    rw [Bool.and_eq_true] at h
    simp [datAM_len h.2]
  | .f _ :: r, s :: ss, h => by
    have h : datAM r ss = true := h
    simp [datAM_len h]
  | .s _ :: r, s :: ss, h => by
    have h : datAM r ss = true := h
    simp [datAM_len h]
theorem slotOf_eq {as : List Ag} {j i : Nat} : slotOf as j = some i ↔ as[j]? = some (.s i) := by
  unfold slotOf
  constructor
  · intro h
    split at h
    · rename_i m hm
      cases h
      exact hm
    · cases h
  · intro h
    rw [h]
theorem okAM_get {ms : List Nat} {ρ : En} {j : Nat} (h : okAM M ms as ρ = true) (hj : j ∈ ms) : ∃ i s, as[j]? = some (.s i) ∧ i ∉ M ∧ ρ[i]? = some (some (.o s)) ∧ ∀ k, k ≠ j → as[k]? ≠ some (.s i) := by
  unfold okAM at h
  have h := List.all_eq_true.mp h j hj
  cases hs : slotOf as j with
  | none => rw [hs] at h; cases h
  | some i =>
    rw [hs] at h
    simp only [Bool.and_eq_true] at h
    obtain ⟨⟨h1, h2⟩, h3⟩ := h
    have isO : ∃ s, ρ[i]? = some (some (.o s)) := by
      split at h2
      · rename_i s hρ
        exact ⟨s, hρ⟩
      · cases h2
    obtain ⟨s, h4⟩ := isO
    refine ⟨i, s, slotOf_eq.mp hs, fun z => ?_, h4, fun k hk z => ?_⟩
    · rw [List.contains_iff_mem.mpr z] at h1
      cases h1
    · have lt : k < as.length := (List.getElem?_eq_some_iff.mp z).1
      have h6 := List.all_eq_true.mp h3 k (List.mem_range.mpr lt)
      rw [slotOf_eq.mpr z] at h6
      simp [hk] at h6
end
end Fw

namespace Fw
open PySem L2
section
variable {L M : List Nat} {F : Fr} {σ : St} {H H' : Hp} {ρ : En}
/-- what becomes of the other slots -/
theorem Renv.others (I : Renv L M F σ H ρ) {is : List Nat} (keep : ∀ b o, ¬ PO ρ σ H is b → H b = some o → H' b = some o) {j : Nat} {t : Sl} {u : V} (nj : j ∉ is) (q1 : ρ[j]? = some (some t)) (q2 : σ[j]? = some (some u)) :
    (∀ a, Oc H t.s u a → ¬ PO ρ σ H is a) ∧ ∀ a, Oc H' t.s u a → Oc H t.s u a := by
  have B : ButP (PO ρ σ H is) H H' := ⟨keep, fun a ⟨i, hi, s, v, h1, h2, h3⟩ => (I.ro i s v h1 h2).noT h3⟩
  have oth : ∀ a, Oc H t.s u a → ¬ PO ρ σ H is a := fun a oc ⟨i, hi, s, v, h1, h2, h3⟩ => I.sep i j s t v u a (fun z => nj (z ▸ hi)) h1 q1 h2 q2 h3 oc
  exact ⟨oth, fun a oc => Oc.butP B (I.at q1 q2) oth oc⟩
end
section
variable {X : Cx} {C : Cn} {L M : List Nat} {x y z : XE} {a b e : Expr} {es : List Expr} {pos p : Pos} {as : List Ag}
theorem e_callM {k : Nat} {f : Addr} {fd : FuncData} {ps : List Str} {n : Nat} {ms is : List Nat} {m : List Sv → Rz (Sv × List Sv)} {nm : Str} (F : FnOk X.prog X.w X.K X.mg X.base (L2.CX X.prog X.w) k f fd ps (spMut n ms m)) (hr : Room k X.A) (hg : Gl X nm) (hm : X.mg nm = some (.ref f)) (hk : PySem.W.keepIn X.K (.ref f) = true)
    (hb : Binds X.K fd ps []) (ha : PA X (e :: es) (tAM C as)) (hdb : (nm == ("__debug__" : Str)) = false := by decide) (he : starEach (e :: es) X.env = (false, eval e X.env) :: starEach es X.env := by rfl) (hpl : (backTo pos (starEach es X.env)).any (·.1) = false := by rfl) :
    PE X (.Call (.Name nm p) (e :: es) [] pos) (tM C L M (xCallM M n ms is m as)) :=
  imp (pe_call F hr hg hm hk hb .nil passL ha hdb he hpl) fun σ H Q ⟨F', ρ, I, q⟩ => by
    unfold xCallM at q
    cases ev : evAM as ρ with
    | stuck => rw [ev] at q; exact q.elim
    | exc c => rw [ev] at q; exact q.elim
    | ok ss =>
      rw [ev] at q
      simp only at q
      split at q
      · rename_i conds
        obtain ⟨hlen, hok, hdat, hmap⟩ := conds
        cases em : m ss with
        | stuck => rw [em] at q; exact q.elim
        | exc c => rw [em] at q; exact q.elim
        | ok r =>
          obtain ⟨x, os⟩ := r
          rw [em] at q
          have q : ∀ H' v, MRes L M F' σ H' (x, storeO ρ is os) v → Q v H' := q
          refine ⟨ρ, I.slots, ?_⟩
          rw [ev]
          intro H1 vs e1 r1 ids frs
          show spMut n ms m (vs ++ []) H1 Q E0
          rw [List.append_nil]
          have I1 := I.mono e1
          have toJ : ∀ (t i : Nat), is[t]? = some i → ∃ j, ms[t]? = some j ∧ as[j]? = some (.s i) := fun t i h => by
            have h2 : (ms.map (slotOf as))[t]? = some (some i) := by rw [hmap, List.getElem?_map, h]; rfl
            rw [List.getElem?_map] at h2
            obtain ⟨j, h3, h4⟩ := Option.map_eq_some_iff.mp h2
            exact ⟨j, h3, slotOf_eq.mp h4⟩
          have toI : ∀ (j i : Nat), j ∈ ms → as[j]? = some (.s i) → i ∈ is := fun j i h1 h2 => by
            have h3 : slotOf as j ∈ ms.map (slotOf as) := List.mem_map.mpr ⟨j, h1, rfl⟩
            rw [hmap, slotOf_eq.mpr h2] at h3
            obtain ⟨i', h4, h5⟩ := List.mem_map.mp h3
            cases h5
            exact h4
          have ilen : is.length = ms.length := by
            have := congrArg List.length hmap
            simpa using this.symm
          -- an argument that changes is a slot
          have slot : ∀ (j : Nat) (s : Sv) (v : V), j ∈ ms → ss[j]? = some s → vs[j]? = some v → ∃ i, as[j]? = some (.s i) ∧ i ∉ M ∧ ρ[i]? = some (some (.o s)) ∧ σ[i]? = some (some v) ∧ ∀ k, k ≠ j → as[k]? ≠ some (.s i) := fun j s v hj h1 h2 => by
            obtain ⟨i, s0, ha1, ha0, ha2, ha3⟩ := okAM_get hok hj
            obtain ⟨sl, hb1, hb2⟩ := evAM_get ev ha1
            rw [ha2] at hb1
            cases hb1
            rw [h1] at hb2
            cases hb2
            obtain ⟨v', hc1, hc2⟩ := ids j i ha1
            rw [h2] at hc1
            cases hc1
            exact ⟨i, ha1, ha0, ha2, hc2, ha3⟩
          have mpo : ∀ a, MPs H1 ss vs ms a ↔ PO ρ σ H1 is a := fun a => ⟨fun ⟨j, hj, s, v, h1, h2, oc⟩ => by
            obtain ⟨i, hi, _, h3, h4, _⟩ := slot j s v hj h1 h2
            exact ⟨i, toI j i hj hi, s, v, h3, h4, oc⟩, fun ⟨i, hi, s, v, h3, h4, oc⟩ => by
            obtain ⟨t, ht⟩ := List.mem_iff_getElem?.mp hi
            obtain ⟨j, h1, h2⟩ := toJ t i ht
            obtain ⟨sl, hb1, hb2⟩ := evAM_get ev h2
            rw [h3] at hb1
            cases hb1
            obtain ⟨v', hc1, hc2⟩ := ids j i h2
            rw [h4] at hc2
            cases hc2
            exact ⟨j, List.mem_of_getElem? h1, s, v, hb2, hc1, oc⟩⟩
          -- the value of a slot that changes
          have valI : ∀ (t i : Nat) (u : V), is[t]? = some i → σ[i]? = some (some u) → ∃ j, ms[t]? = some j ∧ as[j]? = some (.s i) ∧ vs[j]? = some u := fun t i u h1 h2 => by
            obtain ⟨j, h3, h4⟩ := toJ t i h1
            obtain ⟨v', hc1, hc2⟩ := ids j i h4
            rw [h2] at hc2
            cases hc2
            exact ⟨j, h3, h4, hc1⟩
          refine ⟨ss, hlen, r1, fun j hj s v h1 h2 => ?_, fun j hj k' s t v u a jk h1 h2 h3 h4 oc => ?_, ?_⟩
          · obtain ⟨i, _, _, h3, h4, _⟩ := slot j s v hj h1 h2
            exact I1.ro i s v h3 h4
          · obtain ⟨i, hi, _, h5, h6, hone⟩ := slot j s v hj h1 h3
            intro o3
            cases hk' : as[k']? with
            | none =>
              have l1 : k' < ss.length := (List.getElem?_eq_some_iff.mp h2).1
              have l2 : as.length ≤ k' := List.getElem?_eq_none_iff.mp hk'
              have l3 := datAM_len hdat
              omega
            | some ag =>
              cases ag with
              | d y => exact oc_dat (datAM_get hdat hk' h2) o3
              | f y =>
                have fr := frs k' y t u a hk' h2 h4 o3
                exact I.fresh (t := .o s) h5 h6 (oc.mono e1 (I.at h5 h6)) fr
              | s i' =>
                obtain ⟨sl', hd1, hd2⟩ := evAM_get ev hk'
                rw [h2] at hd2
                cases hd2
                obtain ⟨u', he1, he2⟩ := ids k' i' hk'
                rw [h4] at he1
                cases he1
                have ne : i ≠ i' := fun z => hone k' (fun w => jk w.symm) (by rw [hk', z])
                exact I1.sep i i' s sl' v u a ne h5 hd1 h6 he2 oc o3
          · rw [em]
            intro H' v mo
            have keep : ∀ b o, ¬ PO ρ σ H1 is b → H1 b = some o → H' b = some o := fun b o nb e => mo.keep b o (fun z => nb ((mpo b).mp z)) e
            have J : Renv L M F' σ H' (storeO ρ is os) := I1.muts (by rw [ilen]; exact mo.len) (fun i hi => by
              obtain ⟨t, ht⟩ := List.mem_iff_getElem?.mp hi
              obtain ⟨j, h1, h2⟩ := toJ t i ht
              obtain ⟨i', s0, ha1, ha0, ha2, _⟩ := okAM_get hok (List.mem_of_getElem? h1)
              rw [h2] at ha1
              cases ha1
              exact ⟨ha0, s0, ha2⟩) keep mo.back (fun t i s u h1 h2 h3 => by
              obtain ⟨j, h4, _, h5⟩ := valI t i u h1 h3
              exact mo.news t j s u h4 h2 h5) (fun t i s u a h1 h2 h3 oc => by
              obtain ⟨j, h4, _, h5⟩ := valI t i u h1 h3
              exact (mo.foot t j s u a h4 h2 h5 oc).imp id (mpo a).mp) fun t t' i i' s s' u u' a h1 h1' ii h2 h2' h3 h3' oc => by
              obtain ⟨j, h4, h4', h5⟩ := valI t i u h1 h3
              obtain ⟨j', h6, h6', h7⟩ := valI t' i' u' h1' h3'
              exact mo.seps t t' j j' s s' u u' a h4 h6 (fun z => ii (by rw [z, h6'] at h4'; cases h4'; rfl)) h2 h2' h5 h7 oc
            refine q H' v ⟨J, mo.res, fun a oc => ?_, fun a oc j t u q1 q2 o2 => ?_⟩
            · rcases mo.resF a oc with z | z
              · exact .inl (I1.alive a z)
              · obtain ⟨i, hi, s, w, h3, h4, oc⟩ := (mpo a).mp z
                obtain ⟨t, ht⟩ := List.mem_iff_getElem?.mp hi
                obtain ⟨j, h1, h2⟩ := toJ t i ht
                obtain ⟨i', s0, ha1, ha0, ha2, _⟩ := okAM_get hok (List.mem_of_getElem? h1)
                rw [h2] at ha1
                cases ha1
                exact I1.own i s w a h3 ha0 h4 oc
            · rcases storeO_at (by rw [ilen]; exact mo.len) q1 with ⟨m', s, h1, h2, rfl⟩ | ⟨nj, h1⟩
              · obtain ⟨j', h4, _, h5⟩ := valI m' j u h1 q2
                exact mo.resS a oc m' j' s u h4 h2 h5 o2
              · obtain ⟨h3, h4⟩ := I1.others keep nj h1 q2
                have o2 := h4 a o2
                rcases mo.resF a oc with z | z
                · exact I1.fresh h1 q2 o2 z
                · exact h3 a o2 ((mpo a).mp z)
      · exact q.elim
end
end Fw

namespace Fw
open PySem L2
section
variable {X : Cx} {C : Cn} {L M : List Nat} {x y z : XE} {c d : XT} {xs : XA} {u w : XS} {a b e tg : Expr} {es : List Expr} {pos p : Pos} {m : XM}
theorem notL {i : Nat} (hL : L.contains i = false) : i ∉ L := fun z => by rw [List.contains_iff_mem.mpr z] at hL; cases hL
/-- a call for what it changes -/
def sDropM (m : XM) : XS := fun ρ => match m ρ with
  | .ok r => .nx r.2
  | _ => .stuck
theorem st_dropM (he : PE X e (tM C L M m)) (hs : swapsWith e none pos.line X.env = pure false := by rfl) : PS X (.Expr e pos) (tS C L M (sDropM m)) := impS (ps_expr he hs) fun D σ H ⟨F, ρ, I, q⟩ => by
  unfold sDropM at q
  refine ⟨F, ρ, I, ?_⟩
  cases hm : m ρ with
  | stuck => rw [hm] at q; exact q.elim
  | exc k => rw [hm] at q; exact q.elim
  | ok r =>
    rw [hm] at q
    exact fun H' v I' => q σ H' I'.env
/-- x = a call that changes things -/
def sAsgM (i : Nat) (m : XM) : XS := fun ρ => match m ρ with
  | .ok (.p x, ρ') => .nx (setV i x ρ')
  | _ => .stuck
theorem st_asgM (i : Nat) {n : Str} {pos' : Pos} (hN : X.N.Nodup) (hi : X.N[i]? = some n) (hx : Loc X.env.scope n) (hL : L.contains i = false) (he : PE X e (tM C L M m)) (hs : swapsWith e (some (.Name n pos')) pos.line X.env = pure false := by rfl)
    (hf : X.fn n = true ∨ X.env.scope.names.lookup n = some .local := by first | exact .inl rfl | exact .inr rfl | assumption) : PS X (.Assign [.Name n pos'] e pos) (tS C L M (sAsgM i m)) :=
  impS (ps_set hN hi hx he hs hf) fun D σ H ⟨F, ρ, I, q⟩ => by
    unfold sAsgM at q
    refine ⟨F, ρ, I, ?_⟩
    cases hm : m ρ with
    | stuck => rw [hm] at q; exact q.elim
    | exc k => rw [hm] at q; exact q.elim
    | ok r =>
      obtain ⟨s, ρ'⟩ := r
      rw [hm] at q
      cases s with
      | p x => exact fun H' v I' => q _ _ (I'.env.setV I'.res (notL hL))
      | l _ => exact q.elim
      | d _ => exact q.elim
      | ll _ => exact q.elim
      | pl _ _ => exact q.elim
/-- .. whose answer is a new object -/
def sNewM (o : Bool) (i : Nat) (m : XM) : XS := fun ρ => match m ρ with
  | .ok (s, ρ') => .nx (ρ'.set i (some (if o = true then .o s else .v s)))
  | _ => .stuck
theorem st_newM (o : Bool) (i : Nat) {n : Str} {pos' : Pos} (hN : X.N.Nodup) (hi : X.N[i]? = some n) (hx : Loc X.env.scope n) (hL : L.contains i = false) (he : PE X e (tM C L M m)) (hs : swapsWith e (some (.Name n pos')) pos.line X.env = pure false := by rfl)
    (hf : X.fn n = true ∨ X.env.scope.names.lookup n = some .local := by first | exact .inl rfl | exact .inr rfl | assumption) : PS X (.Assign [.Name n pos'] e pos) (tS C L M (sNewM o i m)) :=
  impS (ps_set hN hi hx he hs hf) fun D σ H ⟨F, ρ, I, q⟩ => by
    unfold sNewM at q
    refine ⟨F, ρ, I, ?_⟩
    cases hm : m ρ with
    | stuck => rw [hm] at q; exact q.elim
    | exc k => rw [hm] at q; exact q.elim
    | ok r =>
      obtain ⟨s, ρ'⟩ := r
      rw [hm] at q
      exact fun H' v I' => q _ _ (I'.env.setG I'.res I'.ow (fun j t u a _ q1 q2 oc => I'.sp a oc j t u q1 q2) (notL hL) _ (by cases o <;> simp))
/-- a, b, .. = a call that changes things -/
def sUnpM (is : List Nat) (m : XM) : XS := fun ρ => match m ρ with
  | .ok (.p (.tup l), ρ') => if l.length = is.length then .nx (setVs is l ρ') else .stuck
  | _ => .stuck
theorem st_unpM (is : List Nat) {n : Nat} {t : Expr} (hn : n = is.length) (hL : (is.all fun i => !L.contains i) = true) (he : PE X e (tM C L M m)) (hg : PG X t (gTup X.K n (gNames is))) (hs : swapsWithSole [t] e pos.line X.env = pure false := by rfl) (hw : swappedStores [t] e X.env = pure none := by rfl) (h1 : (assignEach [t] X.env).map (·.2) = [assign t X.env] := by rfl) :
    PS X (.Assign [t] e pos) (tS C L M (sUnpM is m)) := impS (ps_asg he hg hs hw (h1 := h1)) fun D σ H ⟨F, ρ, I, q⟩ => by
  unfold sUnpM at q
  refine ⟨F, ρ, I, ?_⟩
  cases hm : m ρ with
  | stuck => rw [hm] at q; exact q.elim
  | exc k => rw [hm] at q; exact q.elim
  | ok r =>
    obtain ⟨s, ρ'⟩ := r
    rw [hm] at q
    intro H' v I'
    split at q
    · rename_i l ρ2 e2
      cases e2
      split at q
      · rename_i hl
        obtain ⟨a, us, rfl, ha, hr⟩ := I'.res
        refine ⟨a, us, rfl, .inl (.inl ha), by rw [hr.length, hn]; exact hl, unp_names (fun i hi z => ?_) hl I'.env hr fun σ' J => q σ' H' J⟩
        have h1 := List.all_eq_true.mp hL i hi
        rw [List.contains_iff_mem.mpr z] at h1
        cases h1
      · exact q.elim
    · exact q.elim
/-- return of a call that changes things -/
def sRetM (m : XM) : XS := fun ρ => match m ρ with
  | .ok (s, ρ') => .rt s ρ'
  | _ => .stuck
theorem st_retM (he : PE X e (tM C L M m)) : PS X (.Return (some e) pos) (tS C L M (sRetM m)) := impS (ps_ret he) fun D σ H ⟨F, ρ, I, q⟩ => by
  unfold sRetM at q
  refine ⟨F, ρ, I, ?_⟩
  cases hm : m ρ with
  | stuck => rw [hm] at q; exact q.elim
  | exc k => rw [hm] at q; exact q.elim
  | ok r =>
    obtain ⟨s, ρ'⟩ := r
    rw [hm] at q
    exact fun H' v I' => q σ H' v I'.env I'.res I'.ow fun a oa j t u _ q1 q2 => I'.sp a oa j t u q1 q2
/-- a call that changes things, as a test -/
abbrev XMT := En → Rz (Bool × En)
def tMT (L M : List Nat) (t : XMT) : TT := fun σ H Q => ∃ F ρ, Renv L M F σ H ρ ∧ (t ρ).P (fun _ => False) fun r => ∀ H', Renv L M F σ H' r.2 → Q r.1 H'
def xTM (m : XM) : XMT := fun ρ => match m ρ with
  | .ok (.p (.bl b), ρ') => .ok (b, ρ')
  | _ => .stuck
def xNM (t : XMT) : XMT := fun ρ => match t ρ with
  | .ok (b, ρ') => .ok (!b, ρ')
  | _ => .stuck
theorem tm_val (he : PE X e (tM C L M m)) (hw : ∀ whole, isTrue e X.env whole = (do let v ← whole; standAt e.pos; holding [v] (truthy v)) := by intro _; rfl) : PT X e (tMT L M (xTM m)) :=
  impT (pt_val he hw) fun σ H Q ⟨F, ρ, I, q⟩ => by
    unfold xTM at q
    refine ⟨F, ρ, I, ?_⟩
    cases hm : m ρ with
    | stuck => rw [hm] at q; exact q.elim
    | exc k => rw [hm] at q; exact q.elim
    | ok r =>
      obtain ⟨v0, ρ'⟩ := r
      rw [hm] at q
      split at q
      · rename_i b ρ2 e2
        cases e2
        exact fun H' v I' => ⟨b, I'.res, q H' I'.env⟩
      · exact q.elim
theorem tm_not {t : XMT} (h : PT X e (tMT L M t)) : PT X (.UnaryOp .Not e pos) (tMT L M (xNM t)) := impT (pt_not h) fun σ H Q ⟨F, ρ, I, q⟩ => by
  unfold xNM at q
  refine ⟨F, ρ, I, ?_⟩
  cases hm : t ρ with
  | stuck => rw [hm] at q; exact q.elim
  | exc k => rw [hm] at q; exact q.elim
  | ok r =>
    obtain ⟨b, ρ'⟩ := r
    rw [hm] at q
    exact fun H' I' => q H' I'
def sIfM (t : XMT) (u w : XS) : XS := fun ρ => match t ρ with
  | .ok (b, ρ') => if b = true then u ρ' else w ρ'
  | _ => .stuck
theorem st_ifM {t : XMT} {sa sb : List Stmt} (hc : PT X a (tMT L M t)) (ha : PSs X sa (tS C L M u)) (hb : PSs X sb (tS C L M w)) : PS X (.If a sa sb pos) (tS C L M (sIfM t u w)) := impS (ps_if hc ha hb) fun D σ H ⟨F, ρ, I, q⟩ => by
  unfold sIfM at q
  refine ⟨F, ρ, I, ?_⟩
  cases hm : t ρ with
  | stuck => rw [hm] at q; exact q.elim
  | exc k => rw [hm] at q; exact q.elim
  | ok r =>
    obtain ⟨b, ρ'⟩ := r
    rw [hm] at q
    cases b with
    | true => exact fun H' I' => ⟨F, ρ', I', q⟩
    | false => exact fun H' I' => ⟨F, ρ', I', q⟩
/-- xs.pop() -/
def xPop (i : Nat) : XM := fun ρ => match ρ[i]? with
  | some (some (.o (.l l))) => match l[l.length - 1]? with
    | some y => .ok (.p y, ρ.set i (some (.o (.l l.dropLast))))
    | none => .stuck
  | _ => .stuck
theorem e_pop (i : Nat) {n : Str} {np apos cpos : Pos} (hM : M.contains i = false) (hi : X.N[i]? = some n) (hv : Vis X.env.scope n) (hd : (n == ("__debug__" : Str)) = false := by decide) (hcd : (n == ("__classdict__" : Str)) = false := by decide)
    (hbase : attributeBase (.Name n np) "pop" X.env (eval (.Name n np) X.env) = eval (.Name n np) X.env := by rfl) (hline : (apos.endLine == cpos.line) = true := by rfl) :
    PE X (.Call (.Attribute (.Name n np) "pop" apos) [] [] cpos) (tM C L M (xPop i)) :=
  imp (pe_bm0 PySem.F.plainAttrs_list PySem.F.slot_list_pop PySem.F.type_list_pop mt_pop (pv i hi hv hd hcd) hbase hline) fun σ H Q ⟨F, ρ, I, q⟩ => by
    unfold xPop at q
    split at q
    · rename_i l hl
      obtain ⟨a, vs, h1, ha, hr⟩ := own_lst I hl
      split at q
      · rename_i y hy
        obtain ⟨v, hv1, hv2⟩ := hr.get hy
        refine ⟨_, h1, .inl ⟨rfl, vs, .inl (.inl ha)⟩, a, vs, v, rfl, rfl, ha, by rw [hr.length]; exact hv1, ?_⟩
        have bt := (but_upd (o := .lst vs.dropLast) ha (fun xs z => by cases z)).tx
        have q : ∀ H' v, MRes L M F σ H' (.p y, ρ.set i (some (.o (.l l.dropLast)))) v → Q v H' := q
        exact q _ _ ⟨lst_set I hl h1 ha hM hr.dropLast, hv2.tx bt, fun a z => z.elim, fun a z => z.elim⟩
      · exact q.elim
    · exact q.elim
def isOl : Option (Option Sl) → Bool
  | some (some (.o (.l _))) => true
  | _ => false
theorem isOl_ok {o : Option (Option Sl)} (h : isOl o = true) : ∃ l, o = some (some (.o (.l l))) := by
  unfold isOl at h
  split at h
  · exact ⟨_, rfl⟩
  · cases h
/-- xs.extend(a call that changes things) -/
def sExtM (i : Nat) (m : XM) : XS := fun ρ => if isOl ρ[i]? = true then (match m ρ with
  | .ok (.l ys, ρ') => match ρ'[i]? with
    | some (some (.o (.l l))) => if l.length + ys.length ≤ 1000000 then .nx (ρ'.set i (some (.o (.l (l ++ ys))))) else .stuck
    | _ => .stuck
  | _ => .stuck) else .stuck
theorem st_extM (i : Nat) {n : Str} {np apos cpos : Pos} (hM : M.contains i = false) (hN : X.N[i]? = some n) (hv : Vis X.env.scope n) (he : PE X e (tM C L M m)) (hd : (n == ("__debug__" : Str)) = false := by decide) (hcd : (n == ("__classdict__" : Str)) = false := by decide)
    (hbase : attributeBase (.Name n np) "extend" X.env (eval (.Name n np) X.env) = eval (.Name n np) X.env := by rfl)
    (hfew : ((backTo cpos (starEach [e] X.env)).all (fun x => !x.1) && (backToKw cpos (keywordEach [] X.env)).all (fun x => x.1.isSome)
      && decide (([e] : List Expr).length + ([] : List Keyword).length + (if ([] : List Keyword).isEmpty then 0 else 1) < 30)) = true := by rfl)
    (hline : (apos.endLine == cpos.line) = true := by rfl) (hst : starEach [e] X.env = (false, eval e X.env) :: starEach [] X.env := by rfl) (hplain : (backTo cpos (starEach [] X.env)).any (·.1) = false := by rfl)
    (hs : swapsWith (.Call (.Attribute (.Name n np) "extend" apos) [e] [] cpos) none pos.line X.env = pure false := by rfl) :
    PS X (.Expr (.Call (.Attribute (.Name n np) "extend" apos) [e] [] cpos) pos) (tS C L M (sExtM i m)) :=
  impS (ps_expr (pe_bm PySem.F.plainAttrs_list PySem.F.slot_list_extend PySem.F.type_list_extend mt_extend (pv i hN hv hd hcd) (pa_cons he pa_nil hst) hbase hfew hline hst hplain) hs) fun D σ H ⟨F, ρ, I, q⟩ => by
    unfold sExtM at q
    split at q
    · rename_i h0
      obtain ⟨l0, hl0⟩ := isOl_ok h0
      obtain ⟨a, vs, h1, ha, hr⟩ := own_lst I hl0
      refine ⟨_, h1, .inl ⟨rfl, vs, .inl (.inl ha)⟩, F, ρ, I, ?_⟩
      cases hm : m ρ with
      | stuck => rw [hm] at q; exact q.elim
      | exc k => rw [hm] at q; exact q.elim
      | ok r =>
        obtain ⟨s, ρ'⟩ := r
        rw [hm] at q
        cases s with
        | l ys =>
          simp only at q
          intro H' v I'
          split at q
          · rename_i l hl
            split at q
            · rename_i hlt
              obtain ⟨a2, vs2, h2, ha2, hr2⟩ := own_lst I'.env hl
              rw [h1] at h2
              cases h2
              obtain ⟨b, ws, rfl, hb, hk⟩ := I'.res
              refine ⟨a, b, vs2, ws, rfl, rfl, ha2, hb, ?_, ?_⟩
              · rw [hr2.length, hk.length]
                exact Nat.le_trans hlt (by decide)
              · exact q σ _ (lst_set I'.env hl h1 ha2 hM (hr2.append hk))
            · exact q.elim
          · exact q.elim
        | p _ => exact q.elim
        | d _ => exact q.elim
        | ll _ => exact q.elim
        | pl _ _ => exact q.elim
    · exact q.elim
/-- xs.append(a call that changes things) -/
def sAppM (i : Nat) (m : XM) : XS := fun ρ => if isOl ρ[i]? = true then (match m ρ with
  | .ok (.p y, ρ') => match ρ'[i]? with
    | some (some (.o (.l l))) => if l.length < 1000000 then .nx (ρ'.set i (some (.o (.l (l ++ [y]))))) else .stuck
    | _ => .stuck
  | _ => .stuck) else .stuck
theorem st_appM (i : Nat) {n : Str} {np apos cpos : Pos} (hM : M.contains i = false) (hN : X.N[i]? = some n) (hv : Vis X.env.scope n) (he : PE X e (tM C L M m)) (hd : (n == ("__debug__" : Str)) = false := by decide) (hcd : (n == ("__classdict__" : Str)) = false := by decide)
    (hbase : attributeBase (.Name n np) "append" X.env (eval (.Name n np) X.env) = eval (.Name n np) X.env := by rfl)
    (hfew : ((backTo cpos (starEach [e] X.env)).all (fun x => !x.1) && (backToKw cpos (keywordEach [] X.env)).all (fun x => x.1.isSome)
      && decide (([e] : List Expr).length + ([] : List Keyword).length + (if ([] : List Keyword).isEmpty then 0 else 1) < 30)) = true := by rfl)
    (hline : (apos.endLine == cpos.line) = true := by rfl) (hst : starEach [e] X.env = (false, eval e X.env) :: starEach [] X.env := by rfl) (hplain : (backTo cpos (starEach [] X.env)).any (·.1) = false := by rfl)
    (hs : swapsWith (.Call (.Attribute (.Name n np) "append" apos) [e] [] cpos) none pos.line X.env = pure false := by rfl) :
    PS X (.Expr (.Call (.Attribute (.Name n np) "append" apos) [e] [] cpos) pos) (tS C L M (sAppM i m)) :=
  impS (ps_expr (pe_bm PySem.F.plainAttrs_list PySem.F.slot_list_append PySem.F.type_list_append mt_append (pv i hN hv hd hcd) (pa_cons he pa_nil hst) hbase hfew hline hst hplain) hs) fun D σ H ⟨F, ρ, I, q⟩ => by
    unfold sAppM at q
    split at q
    · rename_i h0
      obtain ⟨l0, hl0⟩ := isOl_ok h0
      obtain ⟨a, vs, h1, ha, hr⟩ := own_lst I hl0
      refine ⟨_, h1, .inl ⟨rfl, vs, .inl (.inl ha)⟩, F, ρ, I, ?_⟩
      cases hm : m ρ with
      | stuck => rw [hm] at q; exact q.elim
      | exc k => rw [hm] at q; exact q.elim
      | ok r =>
        obtain ⟨s, ρ'⟩ := r
        rw [hm] at q
        cases s with
        | p y =>
          simp only at q
          intro H' v I'
          split at q
          · rename_i l hl
            split at q
            · rename_i hlt
              obtain ⟨a2, vs2, h2, ha2, hr2⟩ := own_lst I'.env hl
              rw [h1] at h2
              cases h2
              refine ⟨a, vs2, v, rfl, rfl, ha2, ?_, ?_⟩
              · rw [hr2.length]
                exact Nat.lt_of_lt_of_le hlt (by decide)
              · exact q σ _ (lst_set I'.env hl h1 ha2 hM (hr2.append (Rps.one I'.res)))
            · exact q.elim
          · exact q.elim
        | l _ => exact q.elim
        | d _ => exact q.elim
        | ll _ => exact q.elim
        | pl _ _ => exact q.elim
    · exact q.elim
/-- an object of one's own is only read from here on -/
def frz (i : Nat) (ρ : En) : En := match ρ[i]? with
  | some (some (.o s)) => ρ.set i (some (.v s))
  | _ => ρ
def sFrz (i : Nat) (u : XS) : XS := fun ρ => u (frz i ρ)
theorem Renv.frz {F : Fr} {σ : St} {H : Hp} {ρ : En} (I : Renv L M F σ H ρ) (i : Nat) : Renv L M F σ H (Fw.frz i ρ) := by
  unfold Fw.frz
  split
  · rename_i s hi
    have hlt : i < ρ.length := (List.getElem?_eq_some_iff.mp hi).1
    have at_ : ∀ (j : Nat) (t : Sl), (ρ.set i (some (.v s)))[j]? = some (some t) → (∃ t0, ρ[j]? = some (some t0) ∧ t0.s = t.s) ∧ (∀ s', t = .o s' → ρ[j]? = some (some (.o s'))) := fun j t q => by
      by_cases e : i = j
      · subst e
        rw [List.getElem?_set_self hlt] at q
        cases q
        exact ⟨⟨_, hi, rfl⟩, fun s' z => by cases z⟩
      · rw [List.getElem?_set_ne e] at q
        exact ⟨⟨t, q, rfl⟩, fun s' z => by rw [← z]; exact q⟩
    refine ⟨I.keep, I.alive, ⟨by rw [List.length_set]; exact I.slots.len, fun j t q => ?_⟩, fun j t v q1 q2 => ?_, fun j t v a q1 hj q2 oc => ?_, fun j k t t2 v u a jk q1 q2 q3 q4 oc => ?_, I.fix⟩
    · obtain ⟨⟨t0, h1, h2⟩, _⟩ := at_ j t q
      obtain ⟨v, h3, h4⟩ := I.slots.get j t0 h1
      exact ⟨v, h3, h2 ▸ h4⟩
    · exact I.ro j t v ((at_ j _ q1).2 t rfl) q2
    · exact I.own j t v a ((at_ j _ q1).2 t rfl) hj q2 oc
    · obtain ⟨⟨t0, h1, h2⟩, _⟩ := at_ k t2 q2
      rw [← h2]
      exact I.sep j k t t0 v u a jk ((at_ j _ q1).2 t rfl) h1 q3 q4 oc
  · exact I
theorem st_frz (i : Nat) {st : Stmt} (h : PS X st (tS C L M u)) : PS X st (tS C L M (sFrz i u)) := impS h fun D σ H ⟨F, ρ, I, q⟩ => ⟨F, frz i ρ, I.frz i, q⟩
end
end Fw

namespace Fw
open PySem L2
/-! enumerate(a list) -/
def enumD : Nat → List Dt → List Dt
  | _, [] => []
  | i, x :: r => .tup [.int i, x] :: enumD (i + 1) r
theorem enumD_len : ∀ {i : Nat} {l : List Dt}, (enumD i l).length = l.length
  | _, [] => rfl
  | i, x :: r => by
    show (enumD (i + 1) r).length + 1 = _
    rw [enumD_len]
    rfl
theorem enumD_get : ∀ {i j : Nat} {l : List Dt} {y : Dt}, (enumD i l)[j]? = some y → ∃ x, l[j]? = some x ∧ y = .tup [.int (i + j : Nat), x]
  | i, j, [], y, h => by cases h
  | i, 0, x :: r, y, h => by
    cases h
    exact ⟨x, rfl, rfl⟩
  | i, j + 1, x :: r, y, h => by
    obtain ⟨z, h1, h2⟩ := enumD_get (i := i + 1) (j := j) (l := r) h
    exact ⟨z, h1, by rw [h2, show i + 1 + j = i + (j + 1) by omega]⟩
theorem walk_enumD {K : PySem.W.Frag} {a : Addr} {xs : List Dt} {vs : List V} {H0 : Hp} (ha : Rd H0 a (.lst vs)) (hr : Rps H0 xs vs) : WalkD (Ite K a) (enumD 0 xs) (fun b => b = a) H0 := by
  refine ⟨fun H tx hl => ?_⟩
  have h1 : Rd H a (.lst vs) := by
    rcases ha with h | ⟨o, h⟩
    · exact .inl (hl a _ rfl h)
    · exact .inr ⟨o, hl a _ rfl h⟩
  refine ⟨fun i y hi => ?_, ⟨vs, .inl h1, by rw [hr.length, enumD_len]; exact Nat.le_refl _⟩⟩
  obtain ⟨x, hx, rfl⟩ := enumD_get hi
  obtain ⟨v, hv, rv⟩ := hr.get hx
  refine ⟨⟨vs, v, .inl h1, hv⟩, fun u H' yl => ?_⟩
  obtain ⟨T, w, rfl, free, rfl, same⟩ := yl
  have e2 := same vs (.inl h1)
  rw [hv] at e2
  cases e2
  refine ⟨same_new free, T, _, rfl, upd_same, .int i, [v], rfl, ?_, v, [], rfl, (rv.tx tx).mono (same_new free), rfl⟩
  show V.int (i : Nat) = V.int ((0 + i : Nat) : Int)
  rw [Nat.zero_add]
def srcEV (i : Nat) : XI := fun ρ => match ρ[i]? with
  | some (some (.v (.l xs))) => .ok (enumD 0 xs)
  | _ => .stuck
def srcEL (x : XE) : XI := fun ρ => (x ρ).bind fun s => match s with
  | .l xs => .ok (enumD 0 xs)
  | _ => .stuck
section
variable {X : Cx} {C : Cn} {x : XE} {e : Expr} {pos p : Pos}
theorem i_enumV (hg : Gl X "enumerate") (hm : X.mg "enumerate" = none) (i : Nat) {n : Str} {np tpos : Pos} {elts : List Expr} {kk : Nat} (hN : X.N[i]? = some n := by rfl) (hv : Vis X.env.scope n := by first | exact Or.inl rfl | exact Or.inr (Or.inl rfl) | exact Or.inr (Or.inr rfl)) (hd : (n == ("__debug__" : Str)) = false := by decide)
    (hcd : (n == ("__classdict__" : Str)) = false := by decide) (hst : starEach [.Name n np] X.env = [(false, eval (.Name n np) X.env)] := by rfl) : PI X (.Tuple elts kk tpos) (.Call (.Name "enumerate" p) [.Name n np] [] pos) (tI C (srcEV i)) :=
  PIimp (pi_enum hg hm (pa_cons (pv i hN hv hd hcd) pa_nil hst) hst) fun σ H R ⟨ρ, hs, q⟩ => by
    unfold srcEV at q
    split at q
    · rename_i xs h
      obtain ⟨v, h1, a, vs, rfl, ha, hr⟩ := hs.get i _ h
      exact ⟨_, h1, a, vs, rfl, .inl ha, q _ _ H (Same.refl H) (walk_enumD ha hr) fun b z => .inl ⟨i, .l xs, _, h, h1, by rw [z]; rfl⟩⟩
    · exact q.elim
theorem i_enumL (hg : Gl X "enumerate") (hm : X.mg "enumerate" = none) {tpos : Pos} {elts : List Expr} {kk : Nat} (he : PE X e (tF C x)) (hst : starEach [e] X.env = [(false, eval e X.env)] := by rfl) : PI X (.Tuple elts kk tpos) (.Call (.Name "enumerate" p) [e] [] pos) (tI C (srcEL x)) :=
  PIimp (pi_enum hg hm (pa_cons he pa_nil hst) hst) fun σ H R ⟨ρ, hs, q⟩ => ⟨ρ, hs, Rz.P_mono (Rz.P_bind q) (fun _ k => k) fun s _ k H1 v e1 r1 oc => by
    split at k
    · obtain ⟨a, vs, rfl, ha, hr⟩ := r1
      exact ⟨a, vs, rfl, .inl (.inl ha), k _ _ H1 e1 (walk_enumD (.inl ha) hr) fun b z => .inr (oc b (by rw [z]; rfl))⟩
    · exact k.elim⟩
end
end Fw

namespace Fw
open PySem L2
/-! k in d, k also None or a number -/
section
variable {prog : Program} {w : World} {A : Around} {E : Value → Shared → Prop} {s : Shared} {K : Type} [DecidableEq K] {knd : KeyKind prog w K}
theorem has_flat {d : Addr} {xs : List (List K × Addr × Value)} {u : Value} {Q : Bool → Shared → Prop} (hu : Flat u) (room : A.in1.units < cLine) (hd : (d == sysModules) = false) (hm : s.heap.DictOfH (tupleKind knd) d xs)
    (h : ∀ tk, Q false { s with toks := tk }) : wpAny (model prog w) A (contains (.ref d) u) Q E s := by
  unfold contains
  try with_reducible refine wpAny_holding ?_
  refine wpAny_bind (wpAny_specialOf hm.typeIs F.slot_dict_contains.lookup ?_)
  show wpAny _ _ (if (some (Value.builtin "dict.__contains__") == some Value.none) = true then _ else _) _ E s
  rw [if_neg (by rw [beq_builtin_none]; exact Bool.false_ne_true)]
  refine wpAny_bind (wpAny_callSpecialUnlessNone?_slot (name := Str.ofString "__contains__") hm.typeIs F.slot_dict_contains
    (wpAny_call_entry F.slot_dict_contains hm.typeIs F.entry_dict_contains ?_ (F.args_dict_contains_2 _ _)))
  show wpAny _ _ (dictGet d u >>= _) _ _ s
  refine wpAny_bind (get_flat hu room hm fun tk => ?_)
  show wpAny _ _ (Builtin.Dict.pendingKey? d u >>= _) _ _ _
  exact wpAny_bind (wpAny_pendingKey_other hd (wpAny_pure ⟨_, rfl, wpAny_truthy_bool (h tk)⟩))
theorem in_flat {d : Addr} {xs : List (List K × Addr × Value)} {u : Value} {Q : Value → Shared → Prop} (hu : Flat u) (room : A.in1.units < cLine) (hd : (d == sysModules) = false) (hm : s.heap.DictOfH (tupleKind knd) d xs)
    (h : ∀ tk, Q (.bool false) { s with toks := tk }) : wpAny (model prog w) A (compareOp .In u (.ref d)) Q E s := by
  show wpAny _ _ (do return .bool (← contains (.ref d) u)) Q E s
  exact wpAny_bind (has_flat hu room hd hm fun tk => wpAny_pure (h tk))
theorem notIn_flat {d : Addr} {xs : List (List K × Addr × Value)} {u : Value} {Q : Value → Shared → Prop} (hu : Flat u) (room : A.in1.units < cLine) (hd : (d == sysModules) = false) (hm : s.heap.DictOfH (tupleKind knd) d xs)
    (h : ∀ tk, Q (.bool true) { s with toks := tk }) : wpAny (model prog w) A (compareOp .NotIn u (.ref d)) Q E s := by
  show wpAny _ _ (do return .bool (!(← contains (.ref d) u))) Q E s
  exact wpAny_bind (has_flat hu room hd hm fun tk => wpAny_pure (h tk))
end
section
variable {X : Cx} {pins : List (Addr × Obj)} {σ : St} {H : Hp} {s : Shared} {a : Addr} {y d : V} {u r : Value} {ov : Option V} {A : Around} {E : Value → Shared → Prop} {td ty : TE} {i o : Expr}
theorem d_inF {Q : Value → Shared → Prop} (hu : A.units + 1 < cLine) (I : Inv X pins σ H s) (g : DGetF H a y ov) (ry : RelV y u) (h : ∀ s', Inv X pins σ H s' → Q (.bool ov.isSome) s') :
    wpAny (model X.prog X.w) A (compareOp .In u (.ref a)) Q E s := by
  rcases g with g | ⟨⟨ws, e⟩, hy, ho⟩
  · exact d_in hu I g ry h
  · subst ho
    obtain ⟨_, notMods, xs, _, dd⟩ := dt_of I.hok e
    have flat : Flat u := by
      rcases hy with rfl | ⟨i, rfl⟩
      · exact .inl ry
      · exact .inr ⟨i, ry⟩
    exact in_flat flat hu notMods dd fun tk => h _ (I.tok _)
theorem d_notInF {Q : Value → Shared → Prop} (hu : A.units + 1 < cLine) (I : Inv X pins σ H s) (g : DGetF H a y ov) (ry : RelV y u) (h : ∀ s', Inv X pins σ H s' → Q (.bool (!ov.isSome)) s') :
    wpAny (model X.prog X.w) A (compareOp .NotIn u (.ref a)) Q E s := by
  rcases g with g | ⟨⟨ws, e⟩, hy, ho⟩
  · exact d_notIn hu I g ry h
  · subst ho
    obtain ⟨_, notMods, xs, _, dd⟩ := dt_of I.hok e
    have flat : Flat u := by
      rcases hy with rfl | ⟨i, rfl⟩
      · exact .inl ry
      · exact .inr ⟨i, ry⟩
    exact notIn_flat flat hu notMods dd fun tk => h _ (I.tok _)
def tDInF (ty td : TE) : TE := fun σ H Q => ty σ H fun y H1 => td σ H1 fun x H2 => ∃ a o, x = .ref a ∧ DGetF H2 a y o ∧ Q (.bl o.isSome) H2
def tDNotInF (ty td : TE) : TE := fun σ H Q => ty σ H fun y H1 => td σ H1 fun x H2 => ∃ a o, x = .ref a ∧ DGetF H2 a y o ∧ Q (.bl (!o.isSome)) H2
theorem pc_dinF (hu : X.A.units + 1 < cLine) (hi : PE X i ty) (ho : PE X o td) : PC X .In i o (tDInF ty td) := by
  refine ⟨fun pins s σ H Q I h => ?_⟩
  refine thn (hi.run pins s σ H _ I h) fun iv s1 ⟨y, H1, I1, ry, q1⟩ => thn (ho.run pins s1 σ H1 _ I1 q1) fun u s2 ⟨x, H2, I2, rx, a, ov, ex, g, q2⟩ => ?_
  subst ex
  obtain rfl : u = Value.ref a := rx
  exact d_inF hu I2 g ry fun s3 I3 => ⟨.bl ov.isSome, H2, I3, rfl, q2⟩
theorem pc_dnotinF (hu : X.A.units + 1 < cLine) (hi : PE X i ty) (ho : PE X o td) : PC X .NotIn i o (tDNotInF ty td) := by
  refine ⟨fun pins s σ H Q I h => ?_⟩
  refine thn (hi.run pins s σ H _ I h) fun iv s1 ⟨y, H1, I1, ry, q1⟩ => thn (ho.run pins s1 σ H1 _ I1 q1) fun u s2 ⟨x, H2, I2, rx, a, ov, ex, g, q2⟩ => ?_
  subst ex
  obtain rfl : u = Value.ref a := rx
  exact d_notInF hu I2 g ry fun s3 I3 => ⟨.bl (!ov.isSome), H2, I3, rfl, q2⟩
end
/-! d[k], k in d: dicts by tuples -/
def dixD (s t : Sv) : Rz Sv := match s, t with
  | .d kvs, .p (.tup l) => match keysOf l with
    | some ks => match dval kvs ks with
      | some x => .ok (.p x)
      | none => .stuck
    | none => .stuck
  | _, _ => .stuck
def dinD (neg : Bool) (t s : Sv) : Rz Sv := match s, t with
  | .d kvs, .p (.tup l) => match keysOf l with
    | some ks => .ok (.p (.bl (if neg = true then !(dval kvs ks).isSome else (dval kvs ks).isSome)))
    | none => .stuck
  | .d _, .p .non => .ok (.p (.bl neg))
  | .d _, .p (.int _) => .ok (.p (.bl neg))
  | _, _ => .stuck
theorem dix_ok {s t r : Sv} (h : dixD s t = .ok r) : ∃ kvs l ks x, s = .d kvs ∧ t = .p (.tup l) ∧ keysOf l = some ks ∧ dval kvs ks = some x ∧ r = .p x := by
  unfold dixD at h
  split at h
  · rename_i kvs l
    split at h
    · rename_i ks hk
      split at h
      · rename_i x hx
        cases h
        exact ⟨kvs, l, ks, x, rfl, rfl, hk, hx, rfl⟩
      · cases h
    · cases h
  · cases h
theorem din_ok {neg : Bool} {s t r : Sv} (h : dinD neg t s = .ok r) : ∃ kvs, s = .d kvs ∧ ((∃ l ks, t = .p (.tup l) ∧ keysOf l = some ks ∧ r = .p (.bl (if neg = true then !(dval kvs ks).isSome else (dval kvs ks).isSome))) ∨
    ((t = .p .non ∨ ∃ i, t = .p (.int i)) ∧ r = .p (.bl neg))) := by
  unfold dinD at h
  split at h
  · rename_i kvs l
    split at h
    · rename_i ks hk
      cases h
      exact ⟨kvs, rfl, .inl ⟨l, ks, rfl, hk, rfl⟩⟩
    · cases h
  · cases h
    exact ⟨_, rfl, .inr ⟨.inl rfl, rfl⟩⟩
  · cases h
    exact ⟨_, rfl, .inr ⟨.inr ⟨_, rfl⟩, rfl⟩⟩
  · cases h
theorem dix_x {s t : Sv} {k : Nat} : dixD s t ≠ .exc k := fun h => by
  unfold dixD at h
  split at h
  · split at h
    · split at h <;> cases h
    · cases h
  · cases h
theorem din_x {neg : Bool} {s t : Sv} {k : Nat} : dinD neg t s ≠ .exc k := fun h => by
  unfold dinD at h
  split at h
  · split at h <;> cases h
  · cases h
  · cases h
  · cases h
/-- what stands in both readings -/
theorem get_both {H : Hp} {kvs : List (List Key × Dt)} {l : List Dt} {ks : List Key} {v u : V} (hd : Rs H (.d kvs) v) (hk : Rs H (.p (.tup l)) u) (e : keysOf l = some ks) : ∃ a o, v = .ref a ∧ DGet H a u o ∧ ((dval kvs ks = none ∧ o = none) ∨ ∃ x w, dval kvs ks = some x ∧ o = some w ∧ Rp H x w) := by
  obtain ⟨a, ws, rfl, ha, hr⟩ := hd
  obtain ⟨b, us, rfl, hb, hu⟩ := hk
  cases keysOf_ok e hu
  refine ⟨a, _, rfl, DGet.t ha hb, ?_⟩
  rcases hr.get (k := ks) with ⟨h1, h2⟩ | ⟨x, w, h1, h2, h3⟩
  · exact .inl ⟨h1, h2⟩
  · exact .inr ⟨x, w, h1, h2, h3⟩
section
variable {X : Cx} {C : Cn} {x y : XE} {a b : Expr} {pos : Pos}
theorem e_dix (hu : X.A.units + 1 < cLine) (ha : PE X a (tE C x)) (hb : PE X b (tE C y)) (hs : NoSl b := by exact fun _ _ => rfl) : PE X (.Subscript a b pos) (tE C (xB dixD x y)) :=
  imp (pe_dget hu ha hb hs) fun σ H Q ⟨ρ, hs, q⟩ => ⟨ρ, hs, Rz.P_mono (Rz.P_bind q) (fun _ k => k) fun s _ k H1 v e1 r1 => ⟨ρ, hs.mono e1, Rz.P_mono (Rz.P_bind k) (fun _ k => k.mono e1) fun t _ k2 H2 u e2 r2 => by
    cases e : dixD s t with
    | stuck => rw [e] at k2; exact k2.elim
    | exc c => exact (dix_x e).elim
    | ok r =>
      rw [e] at k2
      obtain ⟨kvs, l, ks, xv, rfl, rfl, hk, hx, rfl⟩ := dix_ok e
      obtain ⟨a, o, rfl, g, h | ⟨x', w, h1, rfl, h3⟩⟩ := get_both (r1.mono e2) r2 hk
      · rw [h.1] at hx
        cases hx
      · rw [h1] at hx
        cases hx
        exact ⟨a, w, rfl, g, k2 H2 w (e1.trans e2) h3⟩⟩⟩
theorem din_read (neg : Bool) : ∀ σ H Q, tE C (xB (dinD neg) x y) σ H Q → tE C x σ H fun u H1 => tE C y σ H1 fun v H2 => ∃ a o, v = .ref a ∧ DGetF H2 a u o ∧ Q (.bl (if neg = true then !o.isSome else o.isSome)) H2 := fun σ H Q ⟨ρ, hs, q⟩ =>
  ⟨ρ, hs, Rz.P_mono (Rz.P_bind q) (fun _ k => k) fun t _ k H1 u e1 r1 => ⟨ρ, hs.mono e1, Rz.P_mono (Rz.P_bind k) (fun _ k => k.mono e1) fun s _ k2 H2 v e2 r2 => by
    cases e : dinD neg t s with
    | stuck => rw [e] at k2; exact k2.elim
    | exc c => exact (din_x e).elim
    | ok r =>
      rw [e] at k2
      obtain ⟨kvs, rfl, ⟨l, ks, rfl, hk, rfl⟩ | ⟨hf, rfl⟩⟩ := din_ok e
      · obtain ⟨a, o, rfl, g, h⟩ := get_both r2 (r1.mono e2) hk
        have same : o.isSome = (dval kvs ks).isSome := by
          rcases h with ⟨h1, h2⟩ | ⟨x', w, h1, h2, _⟩ <;> rw [h1, h2] <;> rfl
        exact ⟨a, o, rfl, .inl g, by rw [same]; exact k2 H2 _ (e1.trans e2) rfl⟩
      · obtain ⟨a, ws, rfl, ha, hr⟩ := r2
        refine ⟨a, none, rfl, .inr ⟨⟨ws, ha⟩, ?_, rfl⟩, ?_⟩
        · rcases hf with rfl | ⟨i, rfl⟩
          · exact .inl r1
          · exact .inr ⟨i, r1⟩
        · have e3 : (if neg = true then !(none : Option V).isSome else (none : Option V).isSome) = neg := by cases neg <;> rfl
          rw [e3]
          exact k2 H2 _ (e1.trans e2) rfl⟩⟩
theorem e_din (hu : X.A.units + 1 < cLine) (ha : PE X a (tE C x)) (hb : PE X b (tE C y)) (hm : behindInMarks .In b = false := by first | exact nobehind _ (by decide) (by decide) | rfl) : PE X (.Compare a [.In] [b] pos) (tE C (xB (dinD false) x y)) := imp (pe_cmp (pc_dinF hu ha hb) hm) (din_read false)
theorem e_dnin (hu : X.A.units + 1 < cLine) (ha : PE X a (tE C x)) (hb : PE X b (tE C y)) (hm : behindInMarks .NotIn b = false := by first | exact nobehind _ (by decide) (by decide) | rfl) : PE X (.Compare a [.NotIn] [b] pos) (tE C (xB (dinD true) x y)) := imp (pe_cmp (pc_dnotinF hu ha hb) hm) (din_read true)
theorem tb_of {t : TE} {xe : XE} (h : ∀ σ H Q, tE C xe σ H Q → t σ H Q) : ∀ σ H Q, tT C (xTst blB xe) σ H Q → tB t σ H Q := fun σ H Q ⟨ρ, hs, q⟩ => h σ H _ ⟨ρ, hs, Rz.P_mono (Rz.P_bind q) (fun _ k => k) fun s _ k H1 v e1 r1 => by
  cases s with
  | p x =>
    cases x with
    | bl b => exact ⟨b, r1, k H1 e1⟩
    | _ => exact k.elim
  | _ => exact k.elim⟩
theorem t_din (hu : X.A.units + 1 < cLine) (ha : PE X a (tE C x)) (hb : PE X b (tE C y)) (hm : behindInMarks .In b = false := by first | exact nobehind _ (by decide) (by decide) | rfl) : PT X (.Compare a [.In] [b] pos) (tT C (xTst blB (xB (dinD false) x y))) := impT (pt_cmp (pc_dinF hu ha hb) hm) (tb_of (din_read false))
theorem t_dnin (hu : X.A.units + 1 < cLine) (ha : PE X a (tE C x)) (hb : PE X b (tE C y)) (hm : behindInMarks .NotIn b = false := by first | exact nobehind _ (by decide) (by decide) | rfl) : PT X (.Compare a [.NotIn] [b] pos) (tT C (xTst blB (xB (dinD true) x y))) := impT (pt_cmp (pc_dnotinF hu ha hb) hm) (tb_of (din_read true))
end
end Fw

namespace Fw
open PySem L2
/-! ### lists in lists -/
section
variable {L M : List Nat} {F : Fr} {σ : St} {H : Hp} {ρ : En}
theorem own_ll {i : Nat} {l : List (List Dt)} (I : Renv L M F σ H ρ) (hi : ρ[i]? = some (some (.o (.ll l)))) : ∃ a us, σ[i]? = some (some (.ref a)) ∧ H a = some (.lst us) ∧ (V.ref a :: us).Nodup ∧ Rll H l us := by
  obtain ⟨v, h1, h2⟩ := I.slots.get i _ hi
  obtain ⟨a, us, rfl, ha, nd, hr⟩ := I.ro i _ v hi h1
  exact ⟨a, us, h1, ha, nd, hr⟩
theorem upd_tx {a : Addr} {o : HO} {u : HO} (h : H a = some u) (hn : ∀ xs, u ≠ .tup xs) : Tx H (upd H a o) := (but_upd h hn).tx
/-- an inner list is written -/
theorem ll_in {i k : Nat} {a b : Addr} {l : List (List Dt)} {xs' : List Dt} {us vs vs' : List V} (I : Renv L M F σ H ρ) (hi : ρ[i]? = some (some (.o (.ll l)))) (hv : σ[i]? = some (some (.ref a))) (ha : H a = some (.lst us)) (nd : (V.ref a :: us).Nodup) (hr : Rll H l us) (hk : us[k]? = some (.ref b)) (hb : H b = some (.lst vs)) (hM : M.contains i = false) (r : Rps H xs' vs') :
    Renv L M F σ (upd H b (.lst vs')) (ρ.set i (some (.o (.ll (l.set k xs'))))) := by
  have mb : V.ref b ∈ us := List.mem_of_getElem? hk
  have hab : a ≠ b := fun z => (List.nodup_cons.mp nd).1 (z ▸ mb)
  have tx : Tx H (upd H b (.lst vs')) := upd_tx hb fun xs z => by cases z
  have ha' : (upd H b (.lst vs')) a = some (.lst us) := by rw [upd_ne hab]; exact ha
  refine I.mutG hi hv (notM hM) (fun c o n q => ?_) (fun c q => ?_) ⟨a, us, rfl, ha', nd, hr.put tx upd_same (r.tx tx) (List.nodup_cons.mp nd).2 hk fun c o ne _ q => by rw [upd_ne ne]; exact q⟩ fun c ⟨d, ws, e1, e2, e3⟩ => ?_
  · have nc : c ≠ b := fun z => n ⟨a, us, rfl, ha, .inr (z ▸ mb)⟩
    rw [upd_ne nc]
    exact q
  · by_cases e : c = b
    · subst e
      rw [upd_same] at q
      cases q
    · rw [upd_ne e] at q
      exact q
  · cases e1
    rw [ha'] at e2
    cases e2
    exact .inr ⟨a, us, rfl, ha, e3⟩
/-- .. grows by a new list -/
theorem ll_app {H0 : Hp} {i : Nat} {a b : Addr} {l : List (List Dt)} {ys : List Dt} {us vs : List V} (I : Renv L M F σ H0 ρ) (e : Same H0 H) (hi : ρ[i]? = some (some (.o (.ll l)))) (hv : σ[i]? = some (some (.ref a))) (ha : H0 a = some (.lst us)) (nd : (V.ref a :: us).Nodup) (hr : Rll H0 l us) (hb : H b = some (.lst vs)) (fb : H0 b = none) (hM : M.contains i = false) (r : Rps H ys vs) :
    Renv L M F σ (upd H a (.lst (us ++ [.ref b]))) (ρ.set i (some (.o (.ll (l ++ [ys]))))) := by
  have hab : b ≠ a := fun z => by rw [z, ha] at fb; cases fb
  have ha1 : H a = some (.lst us) := e a _ ha
  have tx1 : Tx H (upd H a (.lst (us ++ [.ref b]))) := upd_tx ha1 fun xs z => by cases z
  have tx : Tx H0 (upd H a (.lst (us ++ [.ref b]))) := fun c xs q => tx1 c xs (e c _ q)
  have nb : V.ref b ∉ us := fun z => by
    obtain ⟨ws, h⟩ := hr.mem z
    rw [fb] at h
    cases h
  have na : V.ref a ∉ us := (List.nodup_cons.mp nd).1
  have nd' : (V.ref a :: (us ++ [V.ref b])).Nodup := by
    refine List.nodup_cons.mpr ⟨fun z => ?_, ?_⟩
    · rcases List.mem_append.mp z with z | z
      · exact na z
      · have := List.mem_singleton.mp z
        cases this
        exact hab rfl
    · refine List.nodup_append.mpr ⟨(List.nodup_cons.mp nd).2, by simp, fun x hx y hy => ?_⟩
      rw [List.mem_singleton.mp hy]
      exact fun z => nb (z ▸ hx)
  refine I.mutG hi hv (notM hM) (fun c o n q => ?_) (fun c q => ?_) ⟨a, _, rfl, upd_same, nd', (hr.keep tx fun c o m q => ?_).snoc (by rw [upd_ne hab]; exact hb) (r.tx tx1)⟩ fun c ⟨d, ws, e1, e2, e3⟩ => ?_
  · have nc : c ≠ a := fun z => n ⟨a, us, rfl, ha, .inl z⟩
    rw [upd_ne nc]
    exact e c o q
  · by_cases z : c = a
    · subst z
      rw [upd_same] at q
      cases q
    · rw [upd_ne z] at q
      exact e.free q
  · have nc : c ≠ a := fun z => na (z ▸ m)
    rw [upd_ne nc]
    exact e c o q
  · cases e1
    rw [upd_same] at e2
    cases e2
    rcases e3 with e3 | e3
    · exact .inr ⟨a, us, rfl, ha, .inl e3⟩
    · rcases List.mem_append.mp e3 with e3 | e3
      · exact .inr ⟨a, us, rfl, ha, .inr e3⟩
      · have := List.mem_singleton.mp e3
        cases this
        exact .inl fb
end
/-- [[], ..]: lists that are new -/
abbrev XAL := En → Rz (List (List Dt))
def tAL (C : Cn) (x : XAL) : TA := fun σ H Q => ∃ ρ, Slots σ H ρ ∧ (x ρ).P (Ex C σ H) fun xss => ∀ H' us, Same H H' → Rll H' xss us → us.Nodup → (∀ a, V.ref a ∈ us → H a = none) → Q us H'
def lNil : XAL := fun _ => .ok []
def lstL : Sv → Rz (List Dt)
  | .l l => .ok l
  | _ => .stuck
def lCons (x : XE) (y : XAL) : XAL := fun ρ => (x ρ).bind fun s => (lstL s).bind fun l => (y ρ).bind fun r => .ok (l :: r)
def xLL (x : XAL) : XE := fun ρ => (x ρ).bind fun xss => if xss.length ≤ 1000000 then .ok (.ll xss) else .stuck
section
variable {X : Cx} {C : Cn} {L M : List Nat} {x y z : XE} {c d : XT} {xs : XA} {xl : XAL} {u w : XS} {a b e tg : Expr} {es : List Expr} {pos p : Pos} {m : XM}
theorem al_nil : PA X [] (tAL C lNil) := impA pa_nil fun σ H Q ⟨ρ, hs, q⟩ => q H [] (Same.refl H) rfl List.nodup_nil fun a z => by cases z
theorem al_cons (ha : PE X e (tF C x)) (hr : PA X es (tAL C xl)) (hst : starEach (e :: es) X.env = (false, eval e X.env) :: starEach es X.env := by rfl) : PA X (e :: es) (tAL C (lCons x xl)) :=
  impA (pa_cons ha hr hst) fun σ H Q ⟨ρ, hs, q⟩ => ⟨ρ, hs, Rz.P_mono (Rz.P_bind q) (fun _ k => k) fun s _ k H1 v e1 r1 oc => by
    cases s with
    | l l =>
      obtain ⟨a, vs, rfl, ha, hr⟩ := r1
      have k : ((xl ρ).bind fun r => Rz.ok (l :: r)).P _ _ := k
      refine ⟨ρ, hs.mono e1, Rz.P_mono (Rz.P_bind k) (fun _ k => Ex.mono k e1) fun xss _ k2 H2 us e2 r2 nd fr => ?_⟩
      have k2 : ∀ H' us, Same H H' → Rll H' (l :: xss) us → us.Nodup → (∀ a, V.ref a ∈ us → H a = none) → Q us H' := k2
      refine k2 H2 (.ref a :: us) (e1.trans e2) ⟨a, vs, us, rfl, e2 a _ ha, hr.mono e2, r2⟩ (List.nodup_cons.mpr ⟨fun z => ?_, nd⟩) fun b hb => ?_
      · have := fr a z
        rw [ha] at this
        cases this
      · rcases List.mem_cons.mp hb with z | z
        · cases z
          exact oc _ rfl
        · exact e1.free (fr b z)
    | p _ => exact k.elim
    | d _ => exact k.elim
    | ll _ => exact k.elim
    | pl _ _ => exact k.elim⟩
theorem e_ll (h : PA X es (tAL C xl)) : PE X (.List es pos) (tF C (xLL xl)) := imp (pe_lst h) fun σ H Q ⟨ρ, hs, q⟩ =>
  ⟨ρ, hs, Rz.P_mono (Rz.P_bind q) (fun _ k => k) fun xss _ k H1 us e1 r1 nd fr => by
    split at k
    · rename_i hl
      refine ⟨big (by rw [r1.length]; exact hl), fun p hp => ?_⟩
      have np : V.ref p ∉ us := fun z => by
        obtain ⟨ws, h⟩ := r1.mem z
        rw [hp] at h
        cases h
      have k : ∀ H' v, Same H H' → Ro H' (.ll xss) v → (∀ a, Oc H' (.ll xss) v a → H a = none) → Q v H' := k
      refine k _ _ (e1.trans (same_new hp)) ⟨p, us, rfl, upd_same, List.nodup_cons.mpr ⟨np, nd⟩, r1.keep (Same.tx (same_new hp)) fun a o _ q => same_new hp a o q⟩ fun a ⟨b, ws, e2, e3, e4⟩ => ?_
      cases e2
      rw [upd_same] at e3
      cases e3
      rcases e4 with e4 | e4
      · rw [e4]
        exact e1.free hp
      · exact fr a e4
    · exact k.elim⟩
/-- xs.append(a new list), xs a list of lists -/
def sAppL (i : Nat) (x : XE) : XS := fun ρ => match ρ[i]? with
  | some (some (.o (.ll l))) => ofR (x ρ) ρ fun s => match s with
    | .l y => if l.length < 1000000 then .nx (ρ.set i (some (.o (.ll (l ++ [y]))))) else .stuck
    | _ => .stuck
  | _ => .stuck
theorem st_appL (i : Nat) {n : Str} {np apos cpos : Pos} (hM : M.contains i = false) (hN : X.N[i]? = some n) (hv : Vis X.env.scope n) (he : PE X e (tF C x)) (hd : (n == ("__debug__" : Str)) = false := by decide) (hcd : (n == ("__classdict__" : Str)) = false := by decide)
    (hbase : attributeBase (.Name n np) "append" X.env (eval (.Name n np) X.env) = eval (.Name n np) X.env := by rfl)
    (hfew : ((backTo cpos (starEach [e] X.env)).all (fun x => !x.1) && (backToKw cpos (keywordEach [] X.env)).all (fun x => x.1.isSome)
      && decide (([e] : List Expr).length + ([] : List Keyword).length + (if ([] : List Keyword).isEmpty then 0 else 1) < 30)) = true := by rfl)
    (hline : (apos.endLine == cpos.line) = true := by rfl) (hst : starEach [e] X.env = (false, eval e X.env) :: starEach [] X.env := by rfl) (hplain : (backTo cpos (starEach [] X.env)).any (·.1) = false := by rfl)
    (hs : swapsWith (.Call (.Attribute (.Name n np) "append" apos) [e] [] cpos) none pos.line X.env = pure false := by rfl) :
    PS X (.Expr (.Call (.Attribute (.Name n np) "append" apos) [e] [] cpos) pos) (tS C L M (sAppL i x)) :=
  impS (ps_expr (pe_bm PySem.F.plainAttrs_list PySem.F.slot_list_append PySem.F.type_list_append mt_append (pv i hN hv hd hcd) (pa_cons he pa_nil hst) hbase hfew hline hst hplain) hs) fun D σ H ⟨F, ρ, I, q⟩ => by
    unfold sAppL at q
    split at q
    · rename_i l hl
      obtain ⟨a, us, h1, ha, nd, hr⟩ := own_ll I hl
      refine ⟨_, h1, .inl ⟨rfl, us, .inl (.inl ha)⟩, ρ, I.slots, Rz.P_mono (ofR_P q I) (fun _ k => k) fun s _ k H2 v2 e2 r2 oc => ?_⟩
      cases s with
      | l y =>
        simp only at k
        split at k
        · rename_i hlt
          obtain ⟨b, vs, rfl, hb, hk⟩ := r2
          refine ⟨a, us, _, rfl, rfl, e2 a _ ha, ?_, ?_⟩
          · rw [hr.length]
            exact Nat.lt_of_lt_of_le hlt (by decide)
          · exact k σ _ (ll_app I e2 hl h1 ha nd hr hb (oc b rfl) hM hk)
        · exact k.elim
      | p _ => exact k.elim
      | d _ => exact k.elim
      | ll _ => exact k.elim
      | pl _ _ => exact k.elim
    · exact q.elim
/-- xs[k].append(data) -/
def sAppLL (i : Nat) (k x : XE) : XS := fun ρ => match ρ[i]? with
  | some (some (.o (.ll l))) => ofR (k ρ) ρ fun t => match t with
    | .p (.int j) => match ixN l.length j with
      | some m => match l[m]? with
        | some ys => ofR (x ρ) ρ fun s => match s with
          | .p y => if ys.length < 1000000 then .nx (ρ.set i (some (.o (.ll (l.set m (ys ++ [y])))))) else .stuck
          | _ => .stuck
        | none => .stuck
      | none => .stuck
    | _ => .stuck
  | _ => .stuck
theorem atI_of {α : Type} {xs : List α} {j : Int} {m : Nat} {v : α} (h : ixN xs.length j = some m) (e : xs[m]? = some v) : atI xs j = some v := by
  unfold atI
  rw [h]
  exact e
theorem st_appLL (i : Nat) {n : Str} {np spos apos cpos : Pos} (hM : M.contains i = false) (hN : X.N[i]? = some n) (hv : Vis X.env.scope n) (hk : PE X a (tE C y)) (he : PE X e (tE C x)) (hsx : PlainIx a := by exact fun _ _ => rfl) (hd : (n == ("__debug__" : Str)) = false := by decide) (hcd : (n == ("__classdict__" : Str)) = false := by decide)
    (hbase : attributeBase (.Subscript (.Name n np) a spos) "append" X.env (eval (.Subscript (.Name n np) a spos) X.env) = eval (.Subscript (.Name n np) a spos) X.env := by rfl)
    (hfew : ((backTo cpos (starEach [e] X.env)).all (fun x => !x.1) && (backToKw cpos (keywordEach [] X.env)).all (fun x => x.1.isSome)
      && decide (([e] : List Expr).length + ([] : List Keyword).length + (if ([] : List Keyword).isEmpty then 0 else 1) < 30)) = true := by rfl)
    (hline : (apos.endLine == cpos.line) = true := by rfl) (hst : starEach [e] X.env = (false, eval e X.env) :: starEach [] X.env := by rfl) (hplain : (backTo cpos (starEach [] X.env)).any (·.1) = false := by rfl)
    (hs : swapsWith (.Call (.Attribute (.Subscript (.Name n np) a spos) "append" apos) [e] [] cpos) none pos.line X.env = pure false := by rfl) :
    PS X (.Expr (.Call (.Attribute (.Subscript (.Name n np) a spos) "append" apos) [e] [] cpos) pos) (tS C L M (sAppLL i y x)) :=
  impS (ps_expr (pe_bm PySem.F.plainAttrs_list PySem.F.slot_list_append PySem.F.type_list_append mt_append (pe_ix ix_list (pv i hN hv hd hcd) hk hsx) (pa_cons he pa_nil hst) hbase hfew hline hst hplain) hs) fun D σ H ⟨F, ρ, I, q⟩ => by
    unfold sAppLL at q
    split at q
    · rename_i l hl
      refine (by
        obtain ⟨a, us, h1, ha, nd, hr⟩ := own_ll I hl
        refine ⟨_, h1, ρ, I.slots, Rz.P_mono (ofR_P q I) (fun _ k => k) fun t et k H1 v1 e1 r1 => ?_⟩
        have I1 := I.mono e1
        clear et
        split at k
        · rename_i j
          split at k
          · rename_i m hm
            split at k
            · rename_i ys hys
              cases (rs_int r1)
              have hr1 := hr.keep (Same.tx e1) fun a o _ q => e1 a o q
              obtain ⟨b, vs, hb1, hb2, hb3⟩ := hr1.get hys
              have hm' : ixN us.length j = some m := by rw [hr.length]; exact hm
              refine ⟨a, us, j, _, rfl, rfl, .inl (.inl (e1 a _ ha)), atI_of hm' hb1, .inl ⟨rfl, vs, .inl (.inl hb2)⟩, ρ, I1.slots, Rz.P_mono (ofR_P k I1) (fun _ k => k) fun s _ k H2 v2 e2 r2 => ?_⟩
              cases s with
              | p y =>
                simp only at k
                split at k
                · rename_i hlt
                  have I2 := I1.mono e2
                  have hr2 := hr1.keep (Same.tx e2) fun a o _ q => e2 a o q
                  refine ⟨b, vs, v2, rfl, rfl, e2 b _ hb2, ?_, ?_⟩
                  · rw [hb3.length]
                    exact Nat.lt_of_lt_of_le hlt (by decide)
                  · exact k σ _ (ll_in I2 hl h1 (e2 a _ (e1 a _ ha)) nd hr2 hb1 (e2 b _ hb2) hM ((hb3.mono e2).append (Rps.one r2)))
                · exact k.elim
              | l _ => exact k.elim
              | d _ => exact k.elim
              | ll _ => exact k.elim
              | pl _ _ => exact k.elim
            · exact k.elim
          · exact k.elim
        · exact k.elim)
    · exact q.elim
/-- xs[k][j] = data -/
def sSetLL (i : Nat) (k j x : XE) : XS := fun ρ => match ρ[i]? with
  | some (some (.o (.ll l))) => ofR (x ρ) ρ fun s => match s with
    | .p y => ofR (k ρ) ρ fun t => match t with
      | .p (.int g) => match ixN l.length g with
        | some m => match l[m]? with
          | some ys => ofR (j ρ) ρ fun f => match f with
            | .p (.int h) => match ixN ys.length h with
              | some n => .nx (ρ.set i (some (.o (.ll (l.set m (ys.set n y))))))
              | none => .stuck
            | _ => .stuck
          | none => .stuck
        | none => .stuck
      | _ => .stuck
    | _ => .stuck
  | _ => .stuck
theorem st_setLL (i : Nat) {t : Expr} (hM : M.contains i = false) (he : PE X e (tE C x)) (hg : PG X t (gSub (tOp (rIxL X.K) (tVar i) (tE C y)) (tE C z) rSetL)) (hs : swapsWithSole [t] e pos.line X.env = pure false := by rfl) (hw : swappedStores [t] e X.env = pure none := by rfl) (h1 : (assignEach [t] X.env).map (·.2) = [assign t X.env] := by rfl) :
    PS X (.Assign [t] e pos) (tS C L M (sSetLL i y z x)) := impS (ps_asg he hg hs hw (h1 := h1)) fun D σ H ⟨F, ρ, I, q⟩ => by
  unfold sSetLL at q
  split at q
  · rename_i l hl
    refine ⟨ρ, I.slots, Rz.P_mono (ofR_P q I) (fun _ k => k) fun s _ k H1 v1 e1 r1 => ?_⟩
    have I1 := I.mono e1
    obtain ⟨a, us, h1, ha, nd, hr⟩ := own_ll I1 hl
    cases s with
    | p yv =>
      simp only at k
      refine ⟨_, h1, ρ, I1.slots, Rz.P_mono (ofR_P k I1) (fun _ k => k) fun t et k H2 v2 e2 r2 => ?_⟩
      have I2 := I1.mono e2
      clear et
      split at k
      · rename_i g
        split at k
        · rename_i m hm
          split at k
          · rename_i ys hys
            cases (rs_int r2)
            have hr2 := hr.keep (Same.tx e2) fun a o _ q => e2 a o q
            obtain ⟨b, vs, hb1, hb2, hb3⟩ := hr2.get hys
            have hm' : ixN us.length g = some m := by rw [hr.length]; exact hm
            refine ⟨a, us, g, _, rfl, rfl, .inl (.inl (e2 a _ ha)), atI_of hm' hb1, ρ, I2.slots, Rz.P_mono (ofR_P k I2) (fun _ k => k) fun f ef k H3 v3 e3 r3 => ?_⟩
            clear ef
            split at k
            · rename_i h
              split at k
              · rename_i n' hn
                cases (rs_int r3)
                have I3 := I2.mono e3
                have hr3 := hr2.keep (Same.tx e3) fun a o _ q => e3 a o q
                have hb3' := hb3.mono e3
                exact ⟨b, vs, h, n', rfl, rfl, e3 b _ hb2, by rw [hb3.length]; exact hn, k σ _ (ll_in I3 hl h1 (e3 a _ (e2 a _ ha)) nd hr3 hb1 (e3 b _ hb2) hM (hb3'.set (Rp.mono e3 (Rp.mono e2 r1)) n'))⟩
              · exact k.elim
            · exact k.elim
          · exact k.elim
        · exact k.elim
      · exact k.elim
    | l _ => exact k.elim
    | d _ => exact k.elim
    | ll _ => exact k.elim
    | pl _ _ => exact k.elim
  · exact q.elim
/-- return (a list of one's own, data) -/
def sRetPL (i : Nat) (x : XE) : XS := fun ρ => match ρ[i]? with
  | some (some (.o (.l l))) => ofR (x ρ) ρ fun s => match s with
    | .p y => .rt (.pl l y) ρ
    | _ => .stuck
  | _ => .stuck
theorem st_retPL (i : Nat) {n : Str} {np : Pos} {x1} (hL : L.contains i = false) (hM : M.contains i = false) (hN : X.N[i]? = some n) (hv : Vis X.env.scope n) (he : PE X e (tE C x)) (hd : (n == ("__debug__" : Str)) = false := by decide) (hcd : (n == ("__classdict__" : Str)) = false := by decide)
    (hst : starEach [.Name n np, e] X.env = (false, eval (.Name n np) X.env) :: starEach [e] X.env := by rfl) (hst2 : starEach [e] X.env = (false, eval e X.env) :: starEach [] X.env := by rfl) :
    PS X (.Return (some (.Tuple [.Name n np, e] x1 p)) pos) (tS C L M (sRetPL i x)) := impS (ps_ret (pe_tup (pa_cons (pv i hN hv hd hcd) (pa_cons he pa_nil hst2) hst))) fun D σ H ⟨F, ρ, I, q⟩ => by
  unfold sRetPL at q
  split at q
  · rename_i l hl
    obtain ⟨a, vs, h1, ha, hr⟩ := own_lst I hl
    refine ⟨_, h1, ρ, I.slots, Rz.P_mono (ofR_P q I) (fun _ k => k) fun s _ k H1 v1 e1 r1 => ?_⟩
    have I1 := I.mono e1
    cases s with
    | p y =>
      refine ⟨big (n := 2) (by decide), fun t ht => ?_⟩
      have e2 := same_new (o := .tup [.ref a, v1]) ht
      have fp : ∀ b, Oc (upd H1 t (.tup [.ref a, v1])) (.pl l y) (.ref t) b → b = a := fun b ⟨t', w, z1, z2⟩ => by
        cases z1
        rw [upd_same] at z2
        cases z2
        rfl
      refine k σ _ (.ref t) (I1.mono e2) ⟨t, a, v1, vs, rfl, upd_same, e2 a _ (e1 a _ ha), (hr.mono e1).mono e2, Rp.mono e2 r1⟩ (fun b oc => ?_) fun b oc j tt u hj q1 q2 => ?_
      · rw [fp b oc]
        exact I.own i (.l l) _ a hl (notM hM) h1 rfl
      · have hij : i ≠ j := fun z => by rw [← z, ← List.contains_iff_mem, hL] at hj; cases hj
        rw [fp b oc]
        exact (I1.mono e2).sep i j (.l l) tt _ u a hij hl q1 h1 q2 rfl
    | l _ => exact k.elim
    | d _ => exact k.elim
    | ll _ => exact k.elim
    | pl _ _ => exact k.elim
  · exact q.elim
end
end Fw

namespace Fw
open PySem PySem.Spec L2
open PyProof.Rows hiding St
/-! ### comprehensions that fill an object of any kind -/
/-- the object that a comprehension fills: how it begins, how the node's loop takes a turn's end (SB) -/
structure Fill (X : Cx) (node : Expr) (tg iter : Expr) (ifs : List Expr) (mk : Sem Value) (ob : Obj) (u0 : Addr → HO) (SB : Env → Addr → (Value → Shared → Prop) → (Shared → Prop) → Shared → Prop) : Prop where
  cls : clausesOf node = [⟨tg, iter, ifs, 0⟩]
  made : ∀ {Q : Value → Shared → Prop} {E : Value → Shared → Prop} {s : Shared}, Q (.ref s.heap.objs.size) { s with heap := s.heap.push ob } → wpAny (model X.prog X.w) X.A mk Q E s
  first : ∀ (H : Hp) (h : Heap), sysModules < h.objs.size → ObjOk X.prog X.w H (h.push ob) h.objs.size (u0 h.objs.size)
  begin_ : ∀ {it acc : Value} {env : Env} {R : Result → Shared → Prop} {s : Shared}, codeAny (model X.prog X.w) X.A (.compLoop node 0 it acc env) R s →
    wpAny (model X.prog X.w) X.A (pyIter it) (fun it' s' => codeAny (model X.prog X.w) X.A (.compLoop node 0 it' acc env) R s') (notedBy (model X.prog X.w) X.A env fun x s' => R (.error x) s') s → codeAny (model X.prog X.w) X.A (.compStart node 0 it acc env) R s
  loop : ∀ {R : Result → Shared → Prop} {it : Value} {D : Addr} {env : Env} (I : Nat → Shared → Prop), (∀ n s, I n s → wpAny (model X.prog X.w) X.A (pyNext it) (fun r s₁ => match r with
      | none => R (.ok .next) s₁
      | some v => wpAny (model X.prog X.w) X.A (letOwnedTupleGo tg it v) (fun _ s₁' => wpAny (model X.prog X.w) X.A (assign tg env v) (fun _ s₂ =>
          wpAny (model X.prog X.w) X.A (forIn ifs true fun c r => if r = true then do let ok ← isTrue c env (eval c env); pure (ForInStep.yield ok) else pure (ForInStep.yield r)) (fun ok s₃ =>
            if ok = true then SB env D (notedBy (model X.prog X.w) X.A env fun e s' => R (.error e) s') (fun s' => ∃ m, m < n ∧ I m s') s₃
            else ∃ m, m < n ∧ I m s₃) (notedBy (model X.prog X.w) X.A env fun e s' => R (.error e) s') s₂) (notedBy (model X.prog X.w) X.A env fun e s' => R (.error e) s') s₁') (notedBy (model X.prog X.w) X.A env fun e s' => R (.error e) s') s₁) (notedBy (model X.prog X.w) X.A env fun e s' => R (.error e) s') s) →
    ∀ {s : Shared} (n : Nat), I n s → codeAny (model X.prog X.w) X.A (.compLoop node 0 it (.ref D) env) R s
/-- what a comprehension asks for: tb is the reading of a turn's end -/
def tFill (u0 : Addr → HO) (wi : TI) (g : TG) (tt : TT) (tb : Addr → St → Hp → (Hp → Prop) → Prop) (vs : List Nat) : TE := fun σ H Q => wi σ H fun J H1 => ∀ D, H1 D = none → ∃ W : Nat → Nat → Hp → Prop, (∃ m, W 0 m (upd H1 D (u0 D))) ∧ ∀ i m H, W i m H →
  (J.stop i H ∧ Q (.ref D) H) ∨ (J.go i H ∧ ∃ Nx : Hp → Prop, (∀ H', Nx H' → ∃ m', m' < m ∧ W (i + 1) m' H') ∧ ∀ x H', J.yld i H x H' → g x (wipe σ vs) H' fun σ2 H2 => wipe σ2 vs = wipe σ vs ∧ tt σ2 H2 fun b H3 => if b = true then tb D σ2 H3 Nx else Nx H3)
section
variable {X : Cx}
theorem fill_core {node tg iter : Expr} {ifs : List Expr} {mk : Sem Value} {ob : Obj} {u0 : Addr → HO} {SB : Env → Addr → (Value → Shared → Prop) → (Shared → Prop) → Shared → Prop} {pins : List (Addr × Obj)} {s : Shared} {σ : St} {H : Hp} {Q : VK} {scope : Scope} {own : List (Str × Nat)} {ps : Pos} {wi : TI} {g : TG} {tt : TT} {tb : Addr → St → Hp → (Hp → Prop) → Prop} {use : Option (Value → Sem Unit)} {Qf : Value → Shared → Prop}
    (F : Fill X node tg iter ifs mk ob u0 SB) (hc : X.calm = true) (hN : X.N.Nodup) (I : Inv X pins σ H s) (hi : PI X tg iter wi) (ok : BlkOk X.N X.env.scope scope own)
    (hg : ∀ (s : Shared) (H : Hp) (C : Addr) (cl : List (Str × Addr)) (fp : List Addr), PG (X.blk s H scope (compEnvC scope cl C X.env) fp) tg g) (ht : ∀ (s : Shared) (H : Hp) (C : Addr) (cl : List (Str × Addr)) (fp : List Addr), PTs (X.blk s H scope (compEnvC scope cl C X.env) fp) ifs tt)
    (hb : ∀ (s : Shared) (H : Hp) (C : Addr) (cl : List (Str × Addr)) (fp : List Addr) (ps' : List (Addr × Obj)) (τ : St) (G : Hp) (s' : Shared) (D : Addr) (Nx : Hp → Prop) (E : Value → Shared → Prop) (K : Shared → Prop), Inv (X.blk s H scope (compEnvC scope cl C X.env) fp) ps' τ G s' → tb D τ G Nx →
      (∀ s'' G', Inv (X.blk s H scope (compEnvC scope cl C X.env) fp) ps' τ G' s'' → Nx G' → K s'') → SB (compEnvC scope cl C X.env) D E K s') (hs : ∀ x, foldedSetIterable iter X.env x = pure x)
    (h : tFill u0 wi g tt tb (own.map (·.2)) σ H Q)
    (fin : ∀ D C s' m H', Inv X pins σ H' s' → Q (.ref D) H' → s'.heap.Ns C m → FpOk X pins H' C → compPost (model X.prog X.w) X.A X.xe use Qf (.ref D) C (.ok .next) s') :
    wpAny (model X.prog X.w) X.A (comprehension node scope X.env ps mk false (eval iter X.env) use) Qf X.xe s := by
  have cells : ∀ y ∈ scope.names, y.2 = .free → ∃ c, X.env.cells.lookup y.1 = some c := fun y hy e => (ok.free y hy e).elim (fun k => I.ok.has _ (.inl k)) fun k => I.ok.has _ (.inr k)
  refine wpAny_comprehension_free (use := use) F.cls hs (closure_ok cells) ok.kind (fun y hy e => by rw [ok.uniq y hy, e]) (thn (hi.run pins s σ H _ I h) fun xv sa hx => thn hx fun itv sb hy => ?_)
  obtain ⟨it, fp, tn, J, Ha, rfl, Ia, T, sta, fa, q⟩ := hy
  refine F.made (newEnv_comp ?_)
  generalize eD : sb.heap.objs.size = D
  have freeD : Ha D = none := Ia.hok.fresh (Nat.le_of_eq eD)
  obtain ⟨W, ⟨m0, w0⟩, turn⟩ := q D freeD
  generalize esc : ({ sb with heap := sb.heap.push ob } : Shared) = sc
  have heapc : sc.heap = sb.heap.push ob := by rw [← esc]
  have Ic : Inv X pins σ (upd Ha D (u0 D)) sc := by
    subst esc
    refine Ia.laid (t' := sb.toks) (fun b o e => Heap.get?_push_of_some _ e) (Nat.le_of_eq eD) ?_
    rw [← eD]
    exact F.first _ sb.heap Ia.big
  have below : ∀ b ∈ fp, b < sb.heap.objs.size := fun b m => by
    obtain ⟨o, e, _⟩ := T.obj _ _ sta b m
    exact Heap.lt_size e
  have fc : ∀ b ∈ fp, FpOk X pins (upd Ha D (u0 D)) b ∧ b < sc.heap.objs.size := fun b m => by
    have lt := below b m
    have ne : b ≠ D := by rw [← eD]; exact Nat.ne_of_lt lt
    refine ⟨⟨by rw [upd_ne ne]; exact (fa b m).1, (fa b m).2⟩, ?_⟩
    rw [heapc, Heap.size_push]
    exact Nat.lt_succ_of_lt lt
  have stc : tn 0 sc.heap := T.keep _ _ _ sta fun b _ o e => by rw [heapc]; exact Heap.get?_push_of_some _ e
  have Id := block_start Ic ok hN fc
  have pg := hg sc (upd Ha D (u0 D)) sc.heap.objs.size (cellsFrom (sc.heap.objs.size + 1) scope.names (cloFrom X.env.cells scope.names [])) fp
  have pt := ht sc (upd Ha D (u0 D)) sc.heap.objs.size (cellsFrom (sc.heap.objs.size + 1) scope.names (cloFrom X.env.cells scope.names [])) fp
  have pb := hb sc (upd Ha D (u0 D)) sc.heap.objs.size (cellsFrom (sc.heap.objs.size + 1) scope.names (cloFrom X.env.cells scope.names [])) fp
  show codeAny _ _ (.compStart node 0 (.ref it) (.ref D) (compEnvC scope (cellsFrom (sc.heap.objs.size + 1) scope.names (cloFrom X.env.cells scope.names [])) sc.heap.objs.size X.env)) (compPost (model X.prog X.w) X.A X.xe use Qf (.ref D) sc.heap.objs.size) { sc with heap := pushCells (sc.heap.push { cls := .type "dict", data := .dict #[] }) scope.names }
  have free3 : ∀ b ∈ fp, (upd Ha D (u0 D)) b = none := fun b m => (fc b m).1.1
  generalize ece : compEnvC scope (cellsFrom (sc.heap.objs.size + 1) scope.names (cloFrom X.env.cells scope.names [])) sc.heap.objs.size X.env = ce at Id pg pt pb ⊢
  have locs : ce.locals = sc.heap.objs.size := by subst ece; rfl
  generalize eHc : upd Ha D (u0 D) = Hc at Ic Id pg pt pb w0 free3 fc
  generalize esd : ({ sc with heap := pushCells (sc.heap.push { cls := .type "dict", data := .dict #[] }) scope.names } : Shared) = sd at Id ⊢
  have std : tn 0 sd.heap := T.keep _ _ _ stc fun b _ o e => by rw [← esd]; exact pushCells_keeps _ _ _ _ (Heap.get?_push_of_some _ e)
  have still : ∀ {τ : St} {G : Hp} {t : Shared}, Inv (X.blk sc Hc scope ce fp) [] τ G t → (∀ b ∈ fp, G b = none) → ∀ b ∈ fp, FpOk (X.blk sc Hc scope ce fp) [] G b := fun {τ G t} K n b m =>
    ⟨n b m, (K.ok.exf b m).1, K.ok.exfs b m, .inl m, fun x c e => (K.ok.exf b m).2 x c e, fun p hp => absurd (show p ∈ ([] : List (Addr × Obj)) ++ [] from hp) (by simp)⟩
  have all : codeAny (model X.prog X.w) X.A (.compLoop node 0 (.ref it) (.ref D) ce) (compPost (model X.prog X.w) X.A X.xe use Qf (.ref D) sc.heap.objs.size) sd := by
    refine F.loop (fun n t => ∃ i G, Inv (X.blk sc Hc scope ce fp) [] (wipe σ (own.map (·.2))) G t ∧ tn i t.heap ∧ (∀ b ∈ fp, G b = none) ∧ W i n G) ?_ m0 ⟨0, Hc, Id, std, free3, w0⟩
    rintro n t ⟨i, G, K, stt, ng, wt⟩
    rcases turn i n G wt with ⟨stop, qq⟩ | ⟨go, Nx, next, step⟩
    · refine thnF (T.done (X.blk sc Hc scope ce fp) rfl rfl rfl hc i [] t _ G (fun _ _ => False) K (still K ng) stt stop) fun r t1 ⟨hr, K1⟩ => ?_
      subst hr
      have back : Inv X pins σ G t1 := Ic.call' (ch := fp) K1.os K1.base K1.hok K1.bare fun b m => ⟨(fc b m).1.2.2.2.1, (fc b m).1.2.1, (fc b m).1.2.2.2.2.1, (fc b m).1.2.2.2.2.2⟩
      have own0 : G sc.heap.objs.size = none := locs ▸ (show G ce.locals = none from K1.free)
      obtain ⟨mm, hn, _⟩ := K1.loc
      have hn : t1.heap.Ns sc.heap.objs.size mm := locs ▸ (show t1.heap.Ns ce.locals mm from hn)
      exact fin D sc.heap.objs.size t1 mm G back qq hn (Ic.fpOk (Nat.le_refl _) own0)
    · refine thnF (T.item (X.blk sc Hc scope ce fp) rfl rfl rfl hc i [] t _ G (fun _ _ => False) K (still K ng) stt go) fun r t1 ⟨u, hr, h1⟩ => ?_
      subst hr
      refine thnF h1 fun _ t2 ⟨x, G2, K2, rx, yx, st2, n2⟩ => ?_
      have K2' := K2.pinned (still K2 n2) (T.obj _ _ st2)
      refine thnF (pg.run _ t2 _ G2 x u _ K2' rx (step x G2 yx)) fun _ t3 ⟨τ, G3, K3, hw, q3⟩ => ?_
      refine thnF (pt.run _ t3 τ G3 _ K3 q3) fun b t4 ⟨G4, K4, q4⟩ => ?_
      have done : ∀ (t' : Shared) (G' : Hp), Inv (X.blk sc Hc scope ce fp) ([] ++ pinsAt fp t2.heap) τ G' t' → Nx G' → ∃ m, m < n ∧ ∃ i G, Inv (X.blk sc Hc scope ce fp) [] (wipe σ (own.map (·.2))) G t' ∧ tn i t'.heap ∧ (∀ b ∈ fp, G b = none) ∧ W i m G := fun t' G' K' nx => by
        obtain ⟨m', lt, w'⟩ := next G' nx
        have pin : ∀ b ∈ fp, ∀ o, t2.heap.get? b = some o → t'.heap.get? b = some o ∧ G' b = none := fun b m o e => by
          have z := K'.pin (b, o) (List.mem_append_right _ (List.mem_append_right _ (mem_pinsAt m e)))
          exact ⟨z.1, z.2.1⟩
        refine ⟨m', lt, i + 1, G', (K'.unpinned (pins := [])).weak (by rw [← hw, wipe_length]) (fun j v e => ?_), T.keep _ _ _ st2 fun b m o e => (pin b m o e).1, fun b m => ?_, w'⟩
        · rw [← hw] at e
          exact (wipe_some e).1
        · obtain ⟨o, e, _⟩ := T.obj _ _ st2 b m
          exact (pin b m o e).2
      cases b with
      | false =>
        simp only [Bool.false_eq_true, if_false] at q4 ⊢
        exact done _ _ K4 q4
      | true =>
        simp only [if_true] at q4 ⊢
        subst ece
        exact pb _ τ G4 t4 D Nx _ _ K4 q4 done
  exact F.begin_ all (T.self X.A 0 _ _ _ std all)
end
end Fw

namespace Fw
open PySem L2
/-! ### what a comprehension fills, as a fold over data -/
def fillD {S : Type} (tg : Tg) (t : XT) (stp : En → S → Rz S) : List Dt → En → S → Rz S
  | [], _, s => .ok s
  | x :: xs, ρ, s => (tg x ρ).bind fun ρ1 => (t ρ1).bind fun b => if b = true then (stp ρ1 s).bind fun s' => fillD tg t stp xs ρ s' else fillD tg t stp xs ρ s
structure Grow {S : Type} (C : Cn) (u0 : Addr → HO) (R : S → Hp → Addr → Prop) (stp : En → S → Rz S) (s0 : S) (tb : Addr → St → Hp → (Hp → Prop) → Prop) : Prop where
  zero : ∀ H D, H D = none → R s0 (upd H D (u0 D)) D
  noT : ∀ s H D, R s H D → ∀ xs, H D ≠ some (.tup xs)
  mono : ∀ s H H' D, R s H D → Same H H' → R s H' D
  step : ∀ (ρ : En) (s s' : S) (τ : St) (G : Hp) (D : Addr) (Nx : Hp → Prop), Slots τ G ρ → R s G D → stp ρ s = .ok s' → (∀ G', (∀ b o, b ≠ D → G b = some o → G' b = some o) → R s' G' D → Nx G') → tb D τ G Nx
theorem fill_read {S : Type} {C : Cn} {u0 : Addr → HO} {R : S → Hp → Addr → Prop} {stp : En → S → Rz S} {s0 : S} {tb : Addr → St → Hp → (Hp → Prop) → Prop} (G : Grow C u0 R stp s0 tb) {src : XI} {tg : Tg} {t : XT} {vs : List Nat} :
    ∀ (σ : St) (H : Hp) (Q : VK), (∃ ρ, Slots σ H ρ ∧ (src ρ).P (Ex C σ H) fun xs => ∃ s, fillD tg t stp xs (wipeE ρ vs) s0 = .ok s ∧ ∀ H0 H' D, Same H H0 → H0 D = none → Same H0 H' → R s H' D → Q (.ref D) H') → tFill u0 (tI C src) (tGc tg vs) (tT C.no t) tb vs σ H Q := fun σ H Q ⟨ρ, hs, q⟩ => by
  refine ⟨ρ, hs, Rz.P_mono q (fun _ k => k) fun xs _ ⟨fin, hfin, k⟩ J L H1 e1 wd lp D hD => ?_⟩
  refine ⟨fun i m H' => i ≤ xs.length ∧ m = xs.length - i ∧ Same H1 H' ∧ ∃ s, R s H' D ∧ fillD tg t stp (xs.drop i) (wipeE ρ vs) s = .ok fin, ⟨xs.length, Nat.zero_le _, by simp, same_new hD, s0, G.zero H1 D hD, by simpa using hfin⟩, ?_⟩
  rintro i m H2 ⟨hi, rfl, e2, s, rs, hf⟩
  obtain ⟨w1, w2⟩ := wd.run H2 (Same.tx e2) fun a o _ h => e2 a o h
  by_cases hlt : i < xs.length
  · have hx : xs[i]? = some xs[i] := by simp [hlt]
    obtain ⟨go, yd⟩ := w1 i _ hx
    refine .inr ⟨go, fun H' => i + 1 ≤ xs.length ∧ Same H1 H' ∧ ∃ s, R s H' D ∧ fillD tg t stp (xs.drop (i + 1)) (wipeE ρ vs) s = .ok fin, fun H' ⟨a1, a2, a3⟩ => ⟨xs.length - (i + 1), by omega, a1, rfl, a2, a3⟩, fun v H3 y => ?_⟩
    obtain ⟨e3, rv⟩ := yd v H3 y
    have ed : xs.drop i = xs[i] :: xs.drop (i + 1) := (List.drop_eq_getElem_cons hlt)
    rw [ed] at hf
    have e13 := e2.trans e3
    refine ⟨wipeE ρ vs, xs[i], ((hs.mono e1).mono e13).wipe vs, rv, ?_⟩
    unfold fillD at hf
    cases eg : tg xs[i] (wipeE ρ vs) with
    | stuck => rw [eg] at hf; cases hf
    | exc c => rw [eg] at hf; cases hf
    | ok ρ1 =>
      rw [eg] at hf
      simp only [Rz.bind_ok] at hf
      intro σ2 hs2 hw2
      rw [wipe_idem] at hw2
      refine ⟨hw2, ρ1, hs2, ?_⟩
      cases et : t ρ1 with
      | stuck => rw [et] at hf; cases hf
      | exc c => rw [et] at hf; cases hf
      | ok b =>
        rw [et] at hf
        simp only [Rz.bind_ok] at hf
        intro H4 e4
        have rs4 := G.mono s _ _ D (G.mono s _ _ D rs e3) e4
        cases b with
        | true =>
          simp only [if_true] at hf ⊢
          cases es : stp ρ1 s with
          | stuck => rw [es] at hf; cases hf
          | exc c => rw [es] at hf; cases hf
          | ok s' =>
            rw [es] at hf
            exact G.step ρ1 s s' σ2 H4 D _ (hs2.mono e4) rs4 es fun G' keep rs' => ⟨hlt, fun b o hb => keep b o (ne_of_none hb hD) (e4 b o (e3 b o (e2 b o hb))), s', rs', hf⟩
        | false =>
          simp only [Bool.false_eq_true, if_false] at hf ⊢
          exact ⟨hlt, (e2.trans e3).trans e4, s, rs4, hf⟩
  · have e : i = xs.length := by omega
    subst e
    refine .inl ⟨w2, ?_⟩
    rw [List.drop_length] at hf
    cases hf
    exact k H1 H2 D e1 hD e2 rs
/-! ### a set of ints, then sorted -/
section
variable {X : Cx}
def setSB (X : Cx) (elt : Expr) : Env → Addr → (Value → Shared → Prop) → (Shared → Prop) → Shared → Prop := fun env D E K s =>
  wpAny (model X.prog X.w) X.A (eval elt env) (fun x s4 => wpAny (model X.prog X.w) X.A (call (.builtin "set.add") [.ref D, x]) (fun _ s5 => K s5) E s4) E s
abbrev setOb (w : World) : Obj := { cls := .type "set", dict := none, data := .set #[] 0 (.fresh 0 0 (!w.params.followText "set-order")) }
abbrev setU0 (w : World) (D : Addr) : HO := SetO w D (fun _ => false) 0
theorem set_fill {elt tg iter : Expr} {ifs : List Expr} {scope : Scope} {pos : Pos} : Fill X (.SetComp elt [⟨tg, iter, ifs, 0⟩] scope pos) tg iter ifs (newSet (.type "set")) (setOb X.w) (setU0 X.w) (setSB X elt) where
  cls := rfl
  made := fun h => PpSet.newSet_ok h
  first := fun H h _ => setO_new (setR_fresh X.w)
  begin_ := fun h0 h => PpSet.codeAny_compStart_set h0 h
  loop := by
    intro R it D env I turn s n h
    exact PpSet.compLoopS_any I turn n h
def tSet (w : World) (te : TE) : Addr → St → Hp → (Hp → Prop) → Prop := fun D σ H Nx => te σ H fun y H4 => ∃ (k : Int) (S : Int → Bool) (n : Nat), y = .int k ∧ H4 D = some (SetO w D S n) ∧ n + 1 < scanBound ∧ Nx (upd H4 D (SetO w D (fun j => S j || decide (j = k)) (if S k = true then n else n + 1)))
theorem pe_setc {elt tg iter : Expr} {ifs : List Expr} {scope : Scope} {own : List (Str × Nat)} {pos : Pos} {wi : TI} {g : TG} {tt : TT} {te : TE} (hc : X.calm = true) (hN : X.N.Nodup) (hi : PI X tg iter wi) (ok : BlkOk X.N X.env.scope scope own)
    (hg : ∀ (s : Shared) (H : Hp) (Ca : Addr) (cl : List (Str × Addr)) (fp : List Addr), PG (X.blk s H scope (compEnvC scope cl Ca X.env) fp) tg g) (ht : ∀ (s : Shared) (H : Hp) (Ca : Addr) (cl : List (Str × Addr)) (fp : List Addr), PTs (X.blk s H scope (compEnvC scope cl Ca X.env) fp) ifs tt)
    (he : ∀ (s : Shared) (H : Hp) (Ca : Addr) (cl : List (Str × Addr)) (fp : List Addr), PE (X.blk s H scope (compEnvC scope cl Ca X.env) fp) elt te) (hs : ∀ x, foldedSetIterable iter X.env x = pure x := by intro _; rfl) :
    PE X (.SetComp elt [⟨tg, iter, ifs, 0⟩] scope pos) (tFill (setU0 X.w) wi g tt (tSet X.w te) (own.map (·.2))) := ⟨fun pins s σ H Q I h => by
  rw [PpSet.eval_SetComp]
  refine fill_core set_fill hc hN I hi ok hg ht (fun s0 H0 Ca cl fp ps τ G s' D Nx E K J hb done => ?_) hs h fun D Ca s' m H' I' q hn f => ⟨m, hn, fun h'' sb => ?_⟩
  · refine thnF ((he s0 H0 Ca cl fp).run ps s' τ G _ J hb) fun z s1 ⟨y, G1, J1, rz, k, S, n, ey, hD, room, nx⟩ => ?_
    subst ey
    exact thnF (mt_sadd (X := X.blk s0 H0 scope (compEnvC scope cl Ca X.env) fp) ps s1 τ G1 (.ref D) [.int k] (.ref D) [z] (fun _ G' => Nx G') J1 rfl (.cons rz .nil) ⟨D, k, S, n, rfl, rfl, hD, room, nx⟩) fun _ s2 ⟨_, G2, J2, _, q2⟩ => done s2 G2 J2 q2
  · obtain ⟨f0, f1, f2, f3, f4, f5⟩ := f
    exact ⟨.ref D, H', I'.turned (t' := s'.toks) (fun b o hb e => (sb.2 b hb).trans e) f0 f1 f3 f4 f5, rfl, q⟩⟩
end
def intD1 : Sv → Rz Int
  | .p (.int i) => .ok i
  | _ => .stuck
/-- as a set grows by one -/
def addU (ns : List Int) (k : Int) : List Int := if k ∈ ns then ns else ns ++ [k]
/-- the ints so far, each once -/
def stSet (el : XE) : En → List Int → Rz (List Int) := fun ρ s => (el ρ).bind fun v => (intD1 v).bind fun i => if s.length < 4000 then .ok (addU s i) else .stuck
def RSet (w : World) (s : List Int) (H : Hp) (D : Addr) : Prop := H D = some (SetO w D (fun j => decide (j ∈ s)) s.length)
theorem grow_set {C : Cn} {w : World} {el : XE} : Grow C (setU0 w) (RSet w) (stSet el) [] (tSet w (tE C.no el)) where
  zero := fun H D _ => by unfold RSet; rw [upd_same]; simp
  noT := fun s H D h xs z => by
    unfold RSet at h
    rw [h] at z
    cases z
  mono := fun s H H' D h e => e D _ h
  step := fun ρ s s' τ G D Nx hs hD e nx => by
    unfold stSet at e
    refine ⟨ρ, hs, ?_⟩
    cases ev : el ρ with
    | stuck => rw [ev] at e; cases e
    | exc c => rw [ev] at e; cases e
    | ok v =>
      rw [ev] at e
      simp only [Rz.bind_ok] at e
      intro H' y e1 ry
      cases v with
      | p x =>
        cases x with
        | int i =>
          simp only [intD1, Rz.bind_ok] at e
          split at e
          · rename_i hlt
            cases e
            cases (rs_int ry)
            have hD1 : H' D = some (SetO w D (fun j => decide (j ∈ s)) s.length) := e1 D _ hD
            have big : scanBound = 4096 := rfl
            refine ⟨i, _, s.length, rfl, hD1, by omega, nx _ (fun b o nb hb => by rw [upd_ne nb]; exact e1 b o hb) ?_⟩
            unfold RSet addU
            rw [upd_same]
            congr 1
            by_cases g : i ∈ s
            · have f : (fun j => decide (j ∈ s) || decide (j = i)) = fun j => decide (j ∈ s) := funext fun j => by
                by_cases t : j = i
                · subst t
                  simp [g]
                · simp [t]
              rw [f]
              simp [g]
            · have f : (fun j => decide (j ∈ s) || decide (j = i)) = fun j => decide (j ∈ s ++ [i]) := funext fun j => by
                by_cases t : j ∈ s <;> by_cases r : j = i <;> simp [t, r]
              rw [f]
              simp [g]
          · cases e
        | _ => cases e
      | _ => cases e
def xSrtSc (src : XI) (tg : Tg) (t : XT) (el : XE) (vs : List Nat) : XE := fun ρ => (src ρ).bind fun xs => match fillD tg t (stSet el) xs (wipeE ρ vs) [] with
  | .ok ns => .ok (.l ((incr ns).map Dt.int))
  | _ => .stuck
section
variable {X : Cx} {C : Cn} {x y z : XE} {a b e tg : Expr} {pos p : Pos}
theorem e_srtSc {elt tg iter : Expr} {ifs : List Expr} {scope : Scope} {own : List (Str × Nat)} {spos : Pos} {src : XI} {tgt : Tg} {t : XT} {el : XE} (hgs : Gl X "sorted") (hms : X.mg "sorted" = none) (hc : X.calm = true) (hN : X.N.Nodup) (hi : PI X tg iter (tI C src)) (ok : BlkOk X.N X.env.scope scope own)
    (hg : ∀ (s : Shared) (H : Hp) (Ca : Addr) (cl : List (Str × Addr)) (fp : List Addr), PG (X.blk s H scope (compEnvC scope cl Ca X.env) fp) tg (tGc tgt (own.map (·.2)))) (ht : ∀ (s : Shared) (H : Hp) (Ca : Addr) (cl : List (Str × Addr)) (fp : List Addr), PTs (X.blk s H scope (compEnvC scope cl Ca X.env) fp) ifs (tT C.no t))
    (he : ∀ (s : Shared) (H : Hp) (Ca : Addr) (cl : List (Str × Addr)) (fp : List Addr), PE (X.blk s H scope (compEnvC scope cl Ca X.env) fp) elt (tE C.no el)) (hs : ∀ x, foldedSetIterable iter X.env x = pure x := by intro _; rfl) (hst : starEach [.SetComp elt [⟨tg, iter, ifs, 0⟩] scope spos] X.env = [(false, eval (.SetComp elt [⟨tg, iter, ifs, 0⟩] scope spos) X.env)] := by rfl) :
    PE X (.Call (.Name "sorted" p) [.SetComp elt [⟨tg, iter, ifs, 0⟩] scope spos] [] pos) (tF C (xSrtSc src tgt t el (own.map (·.2)))) :=
  imp (pe_callB (cr_sortSI hc) hgs hms PyProof.Rows.boot_sorted (pa_cons (pe_setc hc hN hi ok hg ht he hs) pa_nil hst) (he := hst)) fun σ H Q ⟨ρ, hsl, q⟩ => by
    show tFill (setU0 X.w) (tI C src) (tGc tgt (own.map (·.2))) (tT C.no t) (tSet X.w (tE C.no el)) (own.map (·.2)) σ H fun v H1 => rSortSI X.w [v] H1 Q
    refine fill_read grow_set σ H _ ⟨ρ, hsl, Rz.P_mono (Rz.P_bind q) (fun _ k => k) fun xs _ k => ?_⟩
    cases hf : fillD tgt t (stSet el) xs (wipeE ρ (own.map (·.2))) [] with
    | stuck => rw [hf] at k; exact k.elim
    | exc c => rw [hf] at k; exact k.elim
    | ok ns =>
      rw [hf] at k
      refine ⟨ns, rfl, fun H0 H' D e0 fD e1 hD => ⟨D, _, ns.length, rfl, hD, fun ks l h1 h2 hl => ?_⟩⟩
      have ek : ks = incr ns := rise_uniq h1 (incr_rise ns) fun j => by
        rw [h2 j, incr_mem]
        simp
      subst ek
      have ee := e0.trans e1
      have k : ∀ H' v, Same H H' → Ro H' (.l ((incr ns).map Dt.int)) v → (∀ a, Oc H' (.l ((incr ns).map Dt.int)) v a → H a = none) → Q v H' := k
      exact k _ _ (ee.trans (same_new hl)) ⟨l, _, rfl, upd_same, Rps.of_ints _⟩ fun b ob => by
        cases (show V.ref l = V.ref b from ob)
        exact ee.free hl
end
end Fw

namespace Fw
open PySem L2
/-! ### a dict by tuples, filled by a comprehension -/
section
variable {X : Cx}
def dctSB (X : Cx) (kx vx : Expr) : Env → Addr → (Value → Shared → Prop) → (Shared → Prop) → Shared → Prop := fun env D E K s =>
  wpAny (model X.prog X.w) X.A (eval kx env) (fun kv s4 => wpAny (model X.prog X.w) X.A (eval vx env) (fun vv s5 => wpAny (model X.prog X.w) X.A (dictSet D kv vv) (fun _ s6 => K s6) E s5) E s4) E s
abbrev dctU0 (D : Addr) : HO := .dT []
theorem dct_fill {kx vx tg iter : Expr} {ifs : List Expr} {scope : Scope} {pos : Pos} : Fill X (.DictComp kx vx [⟨tg, iter, ifs, 0⟩] scope pos) tg iter ifs newDict { cls := .type "dict", data := .dict #[] } dctU0 (dctSB X kx vx) where
  cls := rfl
  made := fun h => wpAny_newObj_type h
  first := fun H h big => dt_empty h big
  begin_ := fun h0 h => codeAny_compStart_dict h0 h
  loop := by
    intro R it D env I turn s n h
    exact compLoop_anyD I turn n h
def tDct (tk tv : TE) : Addr → St → Hp → (Hp → Prop) → Prop := fun D σ H Nx => tk σ H fun y H4 => tv σ H4 fun z H5 => ∃ kvs k b, y = .ref b ∧ H5 b = some (.tup (k.map kV)) ∧ H5 D = some (.dT kvs) ∧ kvs.length < sizeLine ∧ Nx (upd H5 D (.dT (putK kvs k z)))
/-- a dict by tuples gets a pair -/
theorem dct_put {pins : List (Addr × Obj)} {σ : St} {H : Hp} {s : Shared} {E : Value → Shared → Prop} {D b : Addr} {kvs : List (List Key × V)} {k : List Key} {v : V} {r : Value} {Q : Unit → Shared → Prop} (hu : X.A.units < cLine) (I : Inv X pins σ H s) (hb : H b = some (.tup (k.map kV))) (hD : H D = some (.dT kvs)) (hz : kvs.length < sizeLine)
    (rv : RelV v r) (h : ∀ s', Inv X pins σ (upd H D (.dT (putK kvs k v))) s' → Q () s') : wpAny (model X.prog X.w) X.A (dictSet D (.ref b) r) Q E s := by
  obtain ⟨z, hd, xs, rel, dd⟩ := dt_of I.hok hD
  have zx : xs.length ≤ sizeLine := by rw [← Paired.length rel]; exact z
  have zp : (putK kvs k v).length ≤ sizeLine := by have := length_putK kvs k v; omega
  refine wpAny_dictSet_heap (hsz := zx) hu (key_of I.hok hb) dd fun h' new same => h _ ?_
  obtain ⟨o, es, ep, g1, g2, g3, g4, _, g5⟩ := new
  refine d_write I (by rw [hD]; trivial) same ⟨o, g1⟩ ⟨zp, hd, _, (rel.put k hb rv).keeps fun c ys ec => ?_, o, es, ep, g1, g2, g3, g4, g5⟩
  rw [upd_ne (ne_of ec hD (fun z => nomatch z))]
  exact ec
theorem pe_dctc {kx vx tg iter : Expr} {ifs : List Expr} {scope : Scope} {own : List (Str × Nat)} {pos : Pos} {wi : TI} {g : TG} {tt : TT} {tk tv : TE} (hu : X.A.units < cLine) (hc : X.calm = true) (hN : X.N.Nodup) (hi : PI X tg iter wi) (ok : BlkOk X.N X.env.scope scope own)
    (hg : ∀ (s : Shared) (H : Hp) (Ca : Addr) (cl : List (Str × Addr)) (fp : List Addr), PG (X.blk s H scope (compEnvC scope cl Ca X.env) fp) tg g) (ht : ∀ (s : Shared) (H : Hp) (Ca : Addr) (cl : List (Str × Addr)) (fp : List Addr), PTs (X.blk s H scope (compEnvC scope cl Ca X.env) fp) ifs tt)
    (hk : ∀ (s : Shared) (H : Hp) (Ca : Addr) (cl : List (Str × Addr)) (fp : List Addr), PE (X.blk s H scope (compEnvC scope cl Ca X.env) fp) kx tk)
    (he : ∀ (s : Shared) (H : Hp) (Ca : Addr) (cl : List (Str × Addr)) (fp : List Addr), PE (X.blk s H scope (compEnvC scope cl Ca X.env) fp) vx tv) (hs : ∀ x, foldedSetIterable iter X.env x = pure x := by intro _; rfl) {Q : VK} {pins : List (Addr × Obj)} {s : Shared} {σ : St} {H : Hp} {use : Option (Value → Sem Unit)} {Qf : Value → Shared → Prop} {ps : Pos} (I : Inv X pins σ H s) (h : tFill dctU0 wi g tt (tDct tk tv) (own.map (·.2)) σ H Q)
    (fin : ∀ D C s' m H', Inv X pins σ H' s' → Q (.ref D) H' → s'.heap.Ns C m → FpOk X pins H' C → compPost (model X.prog X.w) X.A X.xe use Qf (.ref D) C (.ok .next) s') :
    wpAny (model X.prog X.w) X.A (comprehension (.DictComp kx vx [⟨tg, iter, ifs, 0⟩] scope pos) scope X.env ps newDict false (eval iter X.env) use) Qf X.xe s :=
  fill_core dct_fill hc hN I hi ok hg ht (fun s0 H0 Ca cl fp ps τ G s' D Nx E K J hb done => by
    refine thnF ((hk s0 H0 Ca cl fp).run ps s' τ G _ J hb) fun z s1 ⟨y, G1, J1, rz, q1⟩ => ?_
    refine thnF ((he s0 H0 Ca cl fp).run ps s1 τ G1 _ J1 q1) fun z2 s2 ⟨y2, G2, J2, rz2, kvs, k, b, ey, hb, hD, hl, nx⟩ => ?_
    subst ey
    cases (show z = Value.ref b from rz)
    exact dct_put (X := X.blk s0 H0 scope (compEnvC scope cl Ca X.env) fp) hu J2 hb hD hl rz2 fun s3 J3 => done s3 _ J3 nx) hs h fin
end
/-- the pairs so far -/
def stDct (kx vx : XE) : En → List (List Key × Dt) → Rz (List (List Key × Dt)) := fun ρ s => (kx ρ).bind fun t => (vx ρ).bind fun v => match t, v with
  | .p (.tup l), .p y => match keysOf l with
    | some ks => if s.length < 1000000 then .ok (dput s ks y) else .stuck
    | none => .stuck
  | _, _ => .stuck
def RDct (s : List (List Key × Dt)) (H : Hp) (D : Addr) : Prop := ∃ ws, H D = some (.dT ws) ∧ Rkv H s ws
theorem grow_dct {C : Cn} {kx vx : XE} : Grow C dctU0 RDct (stDct kx vx) [] (tDct (tE C.no kx) (tE C.no vx)) where
  zero := fun H D _ => ⟨[], by rw [upd_same], rfl⟩
  noT := fun s H D ⟨ws, h, _⟩ xs z => by rw [h] at z; cases z
  mono := fun s H H' D ⟨ws, h, r⟩ e => ⟨ws, e D _ h, r.tx (Same.tx e)⟩
  step := fun ρ s s' τ G D Nx hs ⟨ws, hD, r⟩ e nx => by
    unfold stDct at e
    refine ⟨ρ, hs, ?_⟩
    cases ek : kx ρ with
    | stuck => rw [ek] at e; cases e
    | exc c => rw [ek] at e; cases e
    | ok t =>
      rw [ek] at e
      simp only [Rz.bind_ok] at e
      intro H1 y e1 ry
      refine ⟨ρ, hs.mono e1, ?_⟩
      cases ev : vx ρ with
      | stuck => rw [ev] at e; cases e
      | exc c => rw [ev] at e; cases e
      | ok v =>
        rw [ev] at e
        simp only [Rz.bind_ok] at e
        intro H2 z e2 rz
        split at e
        · rename_i l yv
          split at e
          · rename_i ks hks
            split at e
            · rename_i hlt
              cases e
              obtain ⟨b, us, rfl, hb, hus⟩ := ry
              cases keysOf_ok hks hus
              have ee := e1.trans e2
              have hD2 := ee D _ hD
              have r2 := r.tx (Same.tx ee)
              have len : ws.length < sizeLine := by
                rw [r.len]
                exact Nat.lt_of_lt_of_le hlt (by decide)
              refine ⟨ws, ks, b, rfl, e2 b _ hb, hD2, len, nx _ (fun c o nc hc => by rw [upd_ne nc]; exact ee c o hc) ⟨_, upd_same, ?_⟩⟩
              have bt := (but_upd (o := .dT (putK ws ks z)) hD2 (fun xs z => by cases z)).tx
              exact (r2.put rz).tx bt
            · cases e
          · cases e
        · cases e
def xDc (src : XI) (tg : Tg) (t : XT) (kx vx : XE) (vs : List Nat) : XE := fun ρ => (src ρ).bind fun xs => match fillD tg t (stDct kx vx) xs (wipeE ρ vs) [] with
  | .ok s => .ok (.d s)
  | _ => .stuck
theorem dc_read {C : Cn} {src : XI} {tg : Tg} {t : XT} {kx vx : XE} {vs : List Nat} : ∀ σ H Q, tF C (xDc src tg t kx vx vs) σ H Q → tFill dctU0 (tI C src) (tGc tg vs) (tT C.no t) (tDct (tE C.no kx) (tE C.no vx)) vs σ H Q := fun σ H Q ⟨ρ, hsl, q⟩ => by
  refine fill_read grow_dct σ H _ ⟨ρ, hsl, Rz.P_mono (Rz.P_bind q) (fun _ k => k) fun xs _ k => ?_⟩
  cases hf : fillD tg t (stDct kx vx) xs (wipeE ρ vs) [] with
  | stuck => rw [hf] at k; exact k.elim
  | exc c => rw [hf] at k; exact k.elim
  | ok s =>
    rw [hf] at k
    refine ⟨s, rfl, fun H0 H' D e0 fD e1 ⟨ws, hD, r⟩ => ?_⟩
    have k : ∀ H' v, Same H H' → Ro H' (.d s) v → (∀ a, Oc H' (.d s) v a → H a = none) → Q v H' := k
    exact k _ _ (e0.trans e1) ⟨D, ws, rfl, hD, r⟩ fun b ob => by
      cases (show V.ref D = V.ref b from ob)
      exact e0.free fD
section
variable {X : Cx} {C : Cn} {L M : List Nat} {x y z : XE} {a b e tg : Expr} {pos p : Pos}
/-- d = {k: v for ..} -/
theorem st_newDc (o : Bool) (i : Nat) {n : Str} {py spos : Pos} {kx vx tg iter : Expr} {ifs : List Expr} {scope : Scope} {own : List (Str × Nat)} {src : XI} {tgt : Tg} {t : XT} {mk mv : XE} (hu : X.A.units < cLine) (hc : X.calm = true) (hN : X.N.Nodup) (hy : X.N[i]? = some n) (hyl : X.env.scope.names.lookup n = some .local)
    (hsw : swapsWith (.DictComp kx vx [⟨tg, iter, ifs, 0⟩] scope pos) (some (.Name n py)) spos.line X.env = pure true) (hL : L.contains i = false) (hi : PI X tg iter (tI C src)) (ok : BlkOk X.N X.env.scope scope own)
    (hg : ∀ (s : Shared) (H : Hp) (Ca : Addr) (cl : List (Str × Addr)) (fp : List Addr), PG (X.blk s H scope (compEnvC scope cl Ca X.env) fp) tg (tGc tgt (own.map (·.2)))) (ht : ∀ (s : Shared) (H : Hp) (Ca : Addr) (cl : List (Str × Addr)) (fp : List Addr), PTs (X.blk s H scope (compEnvC scope cl Ca X.env) fp) ifs (tT C.no t))
    (hk : ∀ (s : Shared) (H : Hp) (Ca : Addr) (cl : List (Str × Addr)) (fp : List Addr), PE (X.blk s H scope (compEnvC scope cl Ca X.env) fp) kx (tE C.no mk))
    (he : ∀ (s : Shared) (H : Hp) (Ca : Addr) (cl : List (Str × Addr)) (fp : List Addr), PE (X.blk s H scope (compEnvC scope cl Ca X.env) fp) vx (tE C.no mv)) (hs : ∀ x, foldedSetIterable iter X.env x = pure x := by intro _; rfl) :
    PS X (.Assign [.Name n py] (.DictComp kx vx [⟨tg, iter, ifs, 0⟩] scope pos) spos) (tS C L M (sNew o i (xDc src tgt t mk mv (own.map (·.2))))) := ⟨fun pins s σ H D I h => by
  have h2 : tF C (xDc src tgt t mk mv (own.map (·.2))) σ H (fun x H1 => gName i x σ H1 D.nx) := new_read o i hL D σ H h
  have h3 := dc_read σ H _ h2
  rw [exec_Assign_Name_used _ _ _ _ hsw]
  refine wpAny_bind (wpAny_standAt (wpAny_bind ?_))
  show wpAny _ X.A (do let _ ← comprehension (.DictComp kx vx [⟨tg, iter, ifs, 0⟩] scope pos) scope X.env (firstIterPos [⟨tg, iter, ifs, 0⟩] pos) newDict false (eval iter X.env) (some (assign (.Name n py) X.env))) _ _ s
  refine wpAny_bind (thn (pe_dctc (Qf := fun _ s' => SP X pins D .next s') hu hc hN hi ok hg ht hk he hs I h3 fun A' Ca s' m H' I' q hn f => ?_) fun _ s' hq => wpAny_pure (wpAny_pure hq))
  show wpAny _ _ (assign (.Name n py) X.env (.ref A')) _ _ _
  refine wpAny_assign_Name (store_ok2 (v := V.ref A') I' hN hy (.inl hyl) rfl (fun s2 I2 ⟨a, sb, ha⟩ => ?_) (.inr hyl))
  obtain ⟨f0, f1, f2, f3, f4, f5⟩ := f
  have ne : Ca ≠ a := by
    rcases ha with z | z
    · rw [z]; exact f1
    · exact fun e => f4 n a z e.symm
  refine ⟨m, hn.sameBut sb ne, fun h4 sb4 => ?_⟩
  exact ⟨_, H', I2.turned (t' := s2.toks) (fun b o hb e => (sb4.2 b hb).trans e) f0 f1 f3 f4 f5, q⟩⟩
/-! ### list(a dict), sorted(a list of ints), list(range(..)) -/
def kD : Key → Dt
  | .inl i => .int i
  | .inr s => .str s
theorem rp_k {H : Hp} (k : Key) : Rp H (kD k) (kV k) := by
  cases k <;> rfl
theorem rps_k {H : Hp} : ∀ ks : List Key, Rps H (ks.map kD) (ks.map kV)
  | [] => rfl
  | k :: r => ⟨_, _, rfl, rp_k k, rps_k r⟩
def keyTs (kvs : List (List Key × Dt)) : List Dt := kvs.map fun p => .tup (p.1.map kD)
theorem keys_rel {H : Hp} : ∀ {kvs : List (List Key × Dt)} {ws : List (List Key × V)} {bs : List Addr}, Rkv H kvs ws → IsKeys H ws bs → Rps H (keyTs kvs) (bs.map V.ref)
  | [], ws, bs, h, k => by
    have e : ws = [] := h
    subst e
    cases k
    rfl
  | p :: r, ws, bs, h, k => by
    obtain ⟨v, s, rfl, h1, h2⟩ := h
    cases k with
    | cons hb t => exact ⟨_, _, rfl, ⟨_, _, rfl, hb, rps_k p.1⟩, keys_rel h2 t⟩
def lkeysD : List Sv → Rz Sv
  | [.d kvs] => .ok (.l (keyTs kvs))
  | _ => .stuck
theorem e_listDct (calm : X.calm = true) (hg : Gl X "list") (hm : X.mg "list" = none) (ha : PE X a (tE C x)) (hst : starEach [a] X.env = [(false, eval a X.env)] := by rfl) : PE X (.Call (.Name "list" p) [a] [] pos) (tF C (xL lkeysD (xCons x xNil))) :=
  imp (pe_callTy (call_list_dT calm) hg hm PyProof.Rows.boot_list (a_cons ha a_nil hst) (he := hst)) (rzF (fun s k h => by unfold lkeysD at h; split at h <;> cases h) fun H ss vs Q w hr e q => by
    unfold lkeysD at e
    split at e
    · cases e
      obtain ⟨v, rfl, h1⟩ := Rss1 hr
      obtain ⟨d, ws, rfl, hd, hk⟩ := h1
      refine ⟨d, ws, rfl, .inl hd, fun l bs hl ks => q _ _ (same_new hl) ⟨l, _, rfl, upd_same, (keys_rel hk ks).mono (same_new hl)⟩ fun b ob => ?_⟩
      cases (show V.ref l = V.ref b from ob)
      exact hl
    · cases e)
def srtI (ns : List Int) : List Int := ns.mergeSort fun i j => decide (i ≤ j)
theorem srtI_perm (ns : List Int) : (srtI ns).Perm ns := List.mergeSort_perm _ _
theorem srtI_rise (ns : List Int) : (srtI ns).Pairwise (· ≤ ·) := by
  have h := List.pairwise_mergeSort (le := fun i j : Int => decide (i ≤ j)) (fun a b c h1 h2 => by simp only [decide_eq_true_eq] at *; omega) (fun a b => by by_cases h : a ≤ b <;> simp [h] <;> omega) ns
  exact h.imp fun h => by simpa using h
def srtL : List Sv → Rz Sv
  | [.l l] => match intsOf l with
    | some ns => .ok (.l ((srtI ns).map Dt.int))
    | none => .stuck
  | _ => .stuck
theorem e_srtL (hg : Gl X "sorted") (hm : X.mg "sorted" = none) (ha : PE X a (tE C x)) (hst : starEach [a] X.env = [(false, eval a X.env)] := by rfl) : PE X (.Call (.Name "sorted" p) [a] [] pos) (tF C (xL srtL (xCons x xNil))) :=
  imp (pe_callB cr_sortedI hg hm PyProof.Rows.boot_sorted (a_cons ha a_nil hst) (he := hst)) (rzF (fun s k h => by
    unfold srtL at h
    split at h
    · split at h <;> cases h
    · cases h) fun H ss vs Q w hr e q => by
    unfold srtL at e
    split at e
    · split at e
      · rename_i l ns hns
        cases e
        obtain ⟨v, rfl, h1⟩ := Rss1 hr
        obtain ⟨d, vs, rfl, hd, hk⟩ := h1
        rw [intsOf_ok hns] at hk
        cases hk.ints
        refine ⟨d, ns, rfl, .inl hd, fun ms l h1 h2 hl => ?_⟩
        have em : ms = srtI ns := List.Perm.eq_of_pairwise (le := (· ≤ ·)) (fun a b _ _ h1 h2 => by omega) h2 (srtI_rise ns) (h1.trans (srtI_perm ns).symm)
        subst em
        exact q _ _ (same_new hl) ⟨l, _, rfl, upd_same, Rps.of_ints _⟩ fun b ob => by
          cases (show V.ref l = V.ref b from ob)
          exact hl
      · cases e
    · cases e)
def xLRg (src : XI) : XE := fun ρ => (src ρ).bind fun xs => .ok (.l xs)
theorem rgV_eq (lo hi : Int) : rgV lo hi = ((List.range (hi - lo).toNat).map fun (i : Nat) => Dt.int (lo + (i : Int))).map fun d => match d with | .int i => V.int i | _ => .non := by
  unfold rgV
  rw [List.map_map]
  rfl
theorem rps_rg {H : Hp} (lo hi : Int) : Rps H ((List.range (hi - lo).toNat).map fun (i : Nat) => Dt.int (lo + (i : Int))) (rgV lo hi) := by
  have h := Rps.of_ints (H := H) ((List.range (hi - lo).toNat).map fun (i : Nat) => lo + (i : Int))
  rw [List.map_map, List.map_map] at h
  exact h
theorem e_listR1 {p2 rp : Pos} (calm : X.calm = true) (hg : Gl X "list") (hm : X.mg "list" = none) (hgr : Gl X "range") (hmr : X.mg "range" = none) (ha : PE X a (tE C x)) (hst : starEach [a] X.env = (false, eval a X.env) :: starEach [] X.env := by rfl) (hst2 : starEach [.Call (.Name "range" p2) [a] [] rp] X.env = (false, eval (.Call (.Name "range" p2) [a] [] rp) X.env) :: starEach [] X.env := by rfl) :
    PE X (.Call (.Name "list" p) [.Call (.Name "range" p2) [a] [] rp] [] pos) (tF C (xLRg (srcR1 x))) :=
  imp (pe_listRg calm hg hm (prg_1 hgr hmr ha hst) hst2) fun σ H Q ⟨ρ, hs, q⟩ => ⟨ρ, hs, Rz.P_mono (Rz.P_bind (Rz.P_bind q)) (fun _ k => k) fun s _ k H1 v e1 r1 => by
    cases hst : rngI (.p (.int 0)) s with
    | stuck => rw [hst] at k; exact k.elim
    | exc c => exact (rngI_x hst).elim
    | ok xs =>
      rw [hst] at k
      obtain ⟨lo, hi, e0, rfl, hb, rfl⟩ := rngI_ok hst
      cases e0
      cases (rs_int r1)
      refine ⟨hi, rfl, ⟨by omega, by omega, by omega, by omega, by omega⟩, fun l hl => ?_⟩
      have k : ∀ H' v, Same H H' → Ro H' (.l _) v → (∀ a, Oc H' (.l _) v a → H a = none) → Q v H' := k
      exact k _ _ (e1.trans (same_new hl)) ⟨l, _, rfl, upd_same, rps_rg 0 hi⟩ fun b ob => by
        cases (show V.ref l = V.ref b from ob)
        exact e1.free hl⟩
theorem e_listR2 {p2 rp : Pos} (calm : X.calm = true) (hg : Gl X "list") (hm : X.mg "list" = none) (hgr : Gl X "range") (hmr : X.mg "range" = none) (ha : PE X a (tE C x)) (hb : PE X b (tE C y)) (hst : starEach [a, b] X.env = (false, eval a X.env) :: starEach [b] X.env := by rfl) (hstb : starEach [b] X.env = (false, eval b X.env) :: starEach [] X.env := by rfl) (hpb : (backTo rp (starEach [b] X.env)).any (·.1) = false := by rfl)
    (hst2 : starEach [.Call (.Name "range" p2) [a, b] [] rp] X.env = (false, eval (.Call (.Name "range" p2) [a, b] [] rp) X.env) :: starEach [] X.env := by rfl) :
    PE X (.Call (.Name "list" p) [.Call (.Name "range" p2) [a, b] [] rp] [] pos) (tF C (xLRg (srcR2 x y))) :=
  imp (pe_listRg calm hg hm (prg_2 hgr hmr ha hb hst hstb hpb) hst2) fun σ H Q ⟨ρ, hs, q⟩ => ⟨ρ, hs, Rz.P_mono (Rz.P_bind (Rz.P_bind q)) (fun _ k => k) fun s _ k0 H1 v e1 r1 => ⟨ρ, hs.mono e1, Rz.P_mono (Rz.P_bind k0) (fun _ k => k.mono e1) fun t _ k H2 u e2 r2 => by
    cases hst : rngI s t with
    | stuck => rw [hst] at k; exact k.elim
    | exc c => exact (rngI_x hst).elim
    | ok xs =>
      rw [hst] at k
      obtain ⟨lo, hi, rfl, rfl, hb, rfl⟩ := rngI_ok hst
      cases (rs_int r1)
      cases (rs_int r2)
      refine ⟨lo, hi, rfl, rfl, ⟨by omega, by omega, by omega, by omega, by omega⟩, fun l hl => ?_⟩
      have ee := e1.trans e2
      have k : ∀ H' v, Same H H' → Ro H' (.l _) v → (∀ a, Oc H' (.l _) v a → H a = none) → Q v H' := k
      exact k _ _ (ee.trans (same_new hl)) ⟨l, _, rfl, upd_same, rps_rg lo hi⟩ fun b ob => by
        cases (show V.ref l = V.ref b from ob)
        exact ee.free hl⟩⟩
/-! ### list + list, lists that are read -/
def rCatR (K : PySem.W.Frag) : R2 := fun x y H Q => ∃ l b xs zs, x = .ref l ∧ y = .ref b ∧ Rd H l (.lst xs) ∧ Rd H b (.lst zs) ∧ xs.length + zs.length ≤ sizeLine ∧ ∀ p, H p = none → Q (.ref p) (upd H p (.lst (xs ++ zs)))
end
end Fw

namespace Fw
open PySem PySem.Spec L2
open PyProof.Rows hiding St
/-! ### enumerate(a tuple) -/
theorem new_enumT (l : Addr) (items : Array Value) (n : Nat) (dct : Option Addr) (sl : Array (Option Value)) :
    Meets (Builtin.«enumerate.__new__» ⟨[.type "enumerate", .ref l], []⟩) (fun _ R s => s.heap.get? l = some { cls := .type "tuple", dict := dct, data := .seq items n, slots := sl } ∧
      R (.ok (.ret (.ref (s.heap.push { cls := .type "tuple_iterator", data := .fields #[.ref l, .int 0 0] }).objs.size)))
        { s with heap := (s.heap.push { cls := .type "tuple_iterator", data := .fields #[.ref l, .int 0 0] }).push { cls := .type "enumerate", data := .fields #[.none, .bool false, .ref s.heap.objs.size, rawInt 0, .none, .none] } }) :=
  .of_wp fun prog w A R ⟨hp, g, d, tk, os⟩ ⟨at_, h⟩ => by
    have sub := sub_enumerate
    have isT : Heap.IsTuple (Shared.heap ⟨hp, g, d, tk, os⟩) l items := ⟨_, at_, rfl, n, rfl⟩
    wp_walk using wpAny_loadPart' at_
    refine wpAny_stack_any fun st => wpAny_pure ?_
    split
    · rename_i c _ _ _ _ _
      cases (c == Value.type "enumerate") <;> (wp_walk using wpAny_loadPart' at_, wpAny_pyIter_tuple isT; exact ⟨_, rfl, h⟩)
    · wp_walk using wpAny_loadPart' at_, wpAny_pyIter_tuple isT
      exact ⟨_, rfl, h⟩
section
variable {prog : Program} {w : World} {A : Around} {E : Value → Shared → Prop} {s : Shared}
theorem call_enumT {l : Addr} {items : Array Value} {Q : Value → Shared → Prop} (isT : s.heap.IsTuple l items)
    (h : ∀ h', IsEnum h' (s.heap.objs.size + 1) s.heap.objs.size 0 .none → h'.IsTupleIter s.heap.objs.size l 0 → (∀ b o, s.heap.get? b = some o → h'.get? b = some o) → Q (.ref (s.heap.objs.size + 1)) { s with heap := h' }) :
    wpAny (model prog w) A (call (.type "enumerate") [.ref l]) Q E s := by
  obtain ⟨⟨cls, dct, dat, sl⟩, at_, hc, n, hd⟩ := isT
  simp only at hc hd
  subst hc hd
  refine callType_new F.called_enumerate (by decide) (F.typeCall_enumerate_1 _) (F.newCall_enumerate_1 _) (fun obj => F.args_object_init_2 obj _) F.entry_enumerate_new (new_enumT l items n dct sl) ⟨at_, ?_⟩
  generalize eh : s.heap.push { cls := .type "tuple_iterator", data := .fields #[.ref l, .int 0 0] } = h1
  have z1 : h1.objs.size = s.heap.objs.size + 1 := by rw [← eh]; exact Heap.size_push ..
  have it1 : h1.get? s.heap.objs.size = some { cls := .type "tuple_iterator", data := .fields #[.ref l, .int 0 0] } := by rw [← eh]; exact Heap.get?_push_size _ rfl
  have old1 : ∀ b o, s.heap.get? b = some o → h1.get? b = some o := fun b o e => by rw [← eh]; exact Heap.get?_push_of_some _ e
  show _ ∧ _
  rw [z1]
  generalize eo : ({ cls := .type "enumerate", data := .fields #[.none, .bool false, .ref s.heap.objs.size, rawInt 0, .none, .none] } : Obj) = ob
  have en : IsEnum (h1.push ob) (s.heap.objs.size + 1) s.heap.objs.size 0 .none := by
    subst eo
    have e2 := Heap.get?_push_size h1 (o := { cls := .type "enumerate", data := .fields #[.none, .bool false, .ref s.heap.objs.size, rawInt 0, .none, .none] }) rfl
    rw [z1] at e2
    exact e2
  exact ⟨⟨_, en, rfl⟩, h _ en ⟨_, Heap.get?_push_of_some _ it1, rfl, rfl⟩ fun b o e => Heap.get?_push_of_some _ (old1 b o e)⟩
end
/-- the tuple at a, each item in a new pair -/
def Itet (K : PySem.W.Frag) (a : Addr) : It :=
  ⟨fun i H => ∃ (xs : List V) (x : V), SqT K H a xs ∧ xs[i]? = some x, fun i H v H' => ∃ T x, v = .ref T ∧ H T = none ∧ H' = upd H T (.tup [.int (i : Nat), x]) ∧ ∀ xs, SqT K H a xs → xs[i]? = some x, fun i H => ∃ xs : List V, SqT K H a xs ∧ xs.length = i⟩
theorem turn_enumT {P : Program} {w : World} {K : PySem.W.Frag} {elts : List Expr} {kk : Nat} {tpos : Pos} (a e it : Addr) :
    Turn P w K (.Tuple elts kk tpos) (Itet K a) [e, it] e (fun i h => (∃ old, IsEnum h e it ((i : Nat) : Int) old) ∧ h.IsTupleIter it a i ∧ e ≠ it ∧ a ≠ it ∧ e ≠ a) where
  mem := List.mem_cons_self
  obj := fun i h st b hb => by
    obtain ⟨⟨old, he⟩, ⟨o, ho, hc, hd⟩, _⟩ := st
    rcases List.mem_cons.mp hb with rfl | z
    · exact ⟨_, he, fun v q => nomatch q⟩
    · have z := List.mem_singleton.mp z
      subst z
      exact ⟨o, ho, fun v q => by rw [hd] at q; cases q⟩
  keep := fun i h h' st k => by
    obtain ⟨⟨old, he⟩, ⟨o, ho, r⟩, hne⟩ := st
    exact ⟨⟨old, k e (by simp) _ he⟩, ⟨o, k it (by simp) _ ho, r⟩, hne⟩
  item := by
    intro X hP hw hK hc i pins s σ H E I hf st hg
    subst hP hw hK
    obtain ⟨⟨old, he⟩, hit, hne, hai, hea⟩ := st
    obtain ⟨xs, x, hq, hx⟩ := hg
    obtain ⟨its, rv, isT, hz⟩ := I.tuple hq
    obtain ⟨u, hu, ru⟩ := rv.get hx
    have lt : i < its.toArray.size := by
      have := (List.getElem?_eq_some_iff.mp hu).1
      simpa using this
    have el : e < s.heap.objs.size := Heap.lt_size he
    have il : it < s.heap.objs.size := by
      obtain ⟨_, q, _⟩ := hit
      exact Heap.lt_size q
    refine wpAny_pyNext_enum_itemD (Draws.tuple (A := X.A.in1) (I.ok.hd hc) it a hai its.toArray) he ⟨hit, isT⟩ lt hne (by simp [hne, hea]) fun y h' tk py ho st' hT hsz hk => ?_
    have ey : y = u := by
      have e1 : its.toArray[i]? = some u := by simpa using hu
      rw [e1] at py
      exact (Option.some.inj py).symm
    subst ey
    refine ⟨_, rfl, wpAny_letOwnedTupleGo_enum (s := { s with heap := h', toks := tk + 1 }) ho fun h'' he' sb => ?_⟩
    have top : h''.get? s.heap.objs.size = some { cls := .type "tuple", data := .seq #[.int i tk, y] } := (sb.2 _ (Nat.ne_of_gt el)).trans hT
    have new : ObjOk X.prog X.w (upd H s.heap.objs.size (.tup [.int (i : Nat), x])) h'' s.heap.objs.size (.tup [.int (i : Nat), x]) := by
      refine ⟨?_, [.int i tk, y], .cons ⟨_, rfl⟩ (.cons ru .nil), ⟨_, top, rfl, _, rfl⟩⟩
      show 2 ≤ sizeLine
      decide
    have I1 : Inv X pins σ (upd H s.heap.objs.size (.tup [.int (i : Nat), x])) { s with heap := h'', toks := tk + 1 } :=
      I.turnedNew (ch := [e, it]) (fun b ob hb q => by
        simp only [List.mem_cons, List.not_mem_nil, or_false, not_or] at hb
        exact (sb.2 b hb.1).trans (hk b ob hb.1 hb.2 q)) hf (Nat.le_refl _) new
    refine ⟨.ref s.heap.objs.size, _, I1, rfl, ⟨_, x, rfl, I.hok.fresh (Nat.le_refl _), rfl, fun ys hy => by rw [I.tuple_inj hy hq]; exact hx⟩, ⟨⟨y, ?_⟩, ?_, hne, hai, hea⟩, fun b hb => ?_⟩
    · have e1 : ((i + 1 : Nat) : Int) = (i : Int) + 1 := by omega
      rw [e1]
      exact he'
    · obtain ⟨⟨o, q, r⟩, _⟩ := st'
      exact ⟨o, (sb.2 it (Ne.symm hne)).trans q, r⟩
    · have lt' : b < s.heap.objs.size := by
        rcases List.mem_cons.mp hb with z | z
        · exact z ▸ el
        · exact (List.mem_singleton.mp z) ▸ il
      rw [upd_ne (Nat.ne_of_lt lt')]
      exact (hf b hb).1
  done := by
    intro X hP hw hK hc i pins s σ H E I hf st hg
    subst hP hw hK
    obtain ⟨⟨old, he⟩, hit, hne, hai, hea⟩ := st
    obtain ⟨xs, hq, hx⟩ := hg
    obtain ⟨its, rv, isT, hz⟩ := I.tuple hq
    obtain ⟨f0, f1, f2, f3, f4, f5⟩ := hf it (by simp)
    have hl := rv.length
    have sz : its.toArray.size = i := by simp; omega
    subst sz
    exact wpAny_pyNext_enum_endD (Draws.tuple (A := X.A.in1) (I.ok.hd hc) it a hai its.toArray) he ⟨hit, isT⟩ fun h' eb => ⟨rfl, I.turned (t' := s.toks) (fun b o hb q => eb b o hb q) f0 f1 f3 f4 f5⟩
  self := fun A i s Q E st h => by
    obtain ⟨⟨_, he⟩, _⟩ := st
    exact wpAny_pyIter_enum he h
def iEnumT (K : PySem.W.Frag) (ta : TA) : TI := fun σ H R => ta σ H fun vs H1 => ∃ a xs, vs = [.ref a] ∧ SqT K H1 a xs ∧ R (Itet K a) H1
theorem pi_enumT {X : Cx} {e : Expr} {ta : TA} {p pos tpos : Pos} {elts : List Expr} {kk : Nat} (hg : Gl X "enumerate") (hm : X.mg "enumerate" = none) (ha : PA X [e] ta) (hs : starEach [e] X.env = [(false, eval e X.env)] := by rfl) :
    PI X (.Tuple elts kk tpos) (.Call (.Name "enumerate" p) [e] [] pos) (iEnumT X.K ta) := ⟨fun pins s σ H R I h => by
  refine Call_ (ld_blt I hg hm boot_enumerate (PyProof.Rows.callWith_type1 (thn (ha.run pos pins s σ H _ I h) fun us s1 ⟨vs, H1, I1, r1, a, xs, ex, hq, q⟩ => ?_) hs rfl))
  subst ex
  obtain ⟨u, rfl, ru⟩ := r1.one
  cases ru
  obtain ⟨its, rv, isT, hz⟩ := I1.tuple hq
  have la : a < s1.heap.objs.size := by
    obtain ⟨_, e, _⟩ := isT
    exact Heap.lt_size e
  refine call_enumT isT fun h' he hit hk => wpAny_pyIter_enum he ?_
  have I2 : Inv X pins σ H1 { s1 with heap := h' } := I1.kept (t' := s1.toks) hk
  refine ⟨s1.heap.objs.size + 1, [s1.heap.objs.size + 1, s1.heap.objs.size], _, _, H1, rfl, I2, turn_enumT a (s1.heap.objs.size + 1) s1.heap.objs.size, ⟨⟨.none, he⟩, hit, Nat.succ_ne_self _, Nat.ne_of_lt la, Nat.ne_of_gt (Nat.lt_succ_of_lt la)⟩, fun b hb => ?_, q⟩
  have le : s1.heap.objs.size ≤ b := by
    rcases List.mem_cons.mp hb with rfl | z
    · omega
    · rw [List.mem_singleton.mp z]
      exact Nat.le_refl _
  exact I1.fpOk le (I1.hok.fresh le)⟩
theorem walk_enumT {K : PySem.W.Frag} {a : Addr} {xs : List Dt} {vs : List V} {H0 : Hp} (ha : H0 a = some (.tup vs)) (hr : Rps H0 xs vs) : WalkD (Itet K a) (enumD 0 xs) (fun _ => False) H0 := by
  refine ⟨fun H tx _ => ?_⟩
  have h1 := tx a _ ha
  refine ⟨fun i y hi => ?_, ⟨vs, .inl (.inl h1), by rw [hr.length, enumD_len]⟩⟩
  obtain ⟨x, hx, rfl⟩ := enumD_get hi
  obtain ⟨v, hv, rv⟩ := hr.get hx
  refine ⟨⟨vs, v, .inl (.inl h1), hv⟩, fun u H' yl => ?_⟩
  obtain ⟨T, w, rfl, free, rfl, same⟩ := yl
  have e2 := same vs (.inl (.inl h1))
  rw [hv] at e2
  cases e2
  refine ⟨same_new free, T, _, rfl, upd_same, .int i, [v], rfl, ?_, v, [], rfl, (rv.tx tx).mono (same_new free), rfl⟩
  show V.int (i : Nat) = V.int ((0 + i : Nat) : Int)
  rw [Nat.zero_add]
def srcE (i : Nat) : XI := fun ρ => match ρ[i]? with
  | some (some (.v (.l xs))) => .ok (enumD 0 xs)
  | some (some (.v (.p (.tup xs)))) => .ok (enumD 0 xs)
  | some (some (.o (.p (.tup xs)))) => .ok (enumD 0 xs)
  | _ => .stuck
def srcET (x : XE) : XI := fun ρ => (x ρ).bind fun s => match s with
  | .p (.tup xs) => .ok (enumD 0 xs)
  | _ => .stuck
section
variable {X : Cx} {C : Cn} {x y z : XE} {a b e tg : Expr} {pos p : Pos}
theorem i_enumT {tpos : Pos} {elts : List Expr} {kk : Nat} (hg : Gl X "enumerate") (hm : X.mg "enumerate" = none) (he : PE X e (tE C x)) (hst : starEach [e] X.env = [(false, eval e X.env)] := by rfl) : PI X (.Tuple elts kk tpos) (.Call (.Name "enumerate" p) [e] [] pos) (tI C (srcET x)) :=
  PIimp (pi_enumT hg hm (pa_cons he pa_nil hst) hst) fun σ H R ⟨ρ, hs, q⟩ => ⟨ρ, hs, Rz.P_mono (Rz.P_bind q) (fun _ k => k) fun s _ k H1 v e1 r1 => by
    split at k
    · obtain ⟨a, vs, rfl, ha, hr⟩ := r1
      exact ⟨a, vs, rfl, .inl (.inl ha), k _ _ H1 e1 (walk_enumT ha hr) fun b z => z.elim⟩
    · exact k.elim⟩
theorem i_enum (i : Nat) {n : Str} {np tpos : Pos} {elts : List Expr} {kk : Nat} (hg : Gl X "enumerate") (hm : X.mg "enumerate" = none) (hN : X.N[i]? = some n := by rfl) (hv : Vis X.env.scope n := by first | exact Or.inl rfl | exact Or.inr (Or.inl rfl) | exact Or.inr (Or.inr rfl)) (hd : (n == ("__debug__" : Str)) = false := by decide)
    (hcd : (n == ("__classdict__" : Str)) = false := by decide) (hst : starEach [.Name n np] X.env = [(false, eval (.Name n np) X.env)] := by rfl) : PI X (.Tuple elts kk tpos) (.Call (.Name "enumerate" p) [.Name n np] [] pos) (tI C (srcE i)) :=
  PIimp (PIor (pi_enum hg hm (pa_cons (pv i hN hv hd hcd) pa_nil hst) hst) (pi_enumT hg hm (pa_cons (pv i hN hv hd hcd) pa_nil hst) hst)) fun σ H R ⟨ρ, hs, q⟩ => by
    unfold srcE at q
    split at q
    · rename_i xs h
      obtain ⟨v, h1, a, vs, rfl, ha, hr⟩ := hs.get i _ h
      exact .inl ⟨_, h1, a, vs, rfl, .inl ha, q _ _ H (Same.refl H) (walk_enumD ha hr) fun b z => .inl ⟨i, .l xs, _, h, h1, by rw [z]; rfl⟩⟩
    · rename_i xs h
      obtain ⟨v, h1, a, vs, rfl, ha, hr⟩ := hs.get i _ h
      exact .inr ⟨_, h1, a, vs, rfl, .inl (.inl ha), q _ _ H (Same.refl H) (walk_enumT ha hr) fun b z => z.elim⟩
    · rename_i xs h
      obtain ⟨v, h1, a, vs, rfl, ha, hr⟩ := hs.get i _ h
      exact .inr ⟨_, h1, a, vs, rfl, .inl (.inl ha), q _ _ H (Same.refl H) (walk_enumT ha hr) fun b z => z.elim⟩
    · exact q.elim
/-! ### list + list of lists that are read -/
theorem op_catR : OpR X (binaryOp .Add) (rCatR X.K) := by
  intro pins s σ H x y v u Q I rx ry h
  obtain ⟨l, b, xs, zs, rfl, rfl, h1, h2, hz, q⟩ := h
  cases rx
  cases ry
  obtain ⟨_, its, n, r, e⟩ := h1.ok I.hok
  obtain ⟨_, its2, n2, r2, e2⟩ := h2.ok I.hok
  have l1 := r.length
  have l2 := r2.length
  refine PySem.P.add_list e e2 ?_ (by simp only [List.size_toArray]; omega)
  have ea : its.toArray ++ its2.toArray = (its ++ its2).toArray := by simp
  rw [ea]
  exact ⟨.ref _, _, I.lnew (t' := s.toks) (r.append r2) (by rw [List.length_append]; omega), rfl, q _ I.fresh⟩
theorem e_catR (ha : PE X a (tE C x)) (hb : PE X b (tE C y)) : PE X (.BinOp a .Add b pos) (tF C (xB catD x y)) := imp (pe_op op_catR ha hb) fun σ H Q ⟨ρ, hs, q⟩ =>
  ⟨ρ, hs, Rz.P_mono (Rz.P_bind q) (fun _ k => k) fun s es k H1 v e1 r1 => ⟨ρ, hs.mono e1, Rz.P_mono (Rz.P_bind k) (fun _ k => k.mono e1) fun t et k2 H2 u e2 r2 => by
    clear es et
    have ct : ∀ {w}, catD s t = .ok w → ∃ l m, s = .l l ∧ t = .l m ∧ l.length + m.length ≤ 1000000 ∧ w = .l (l ++ m) := fun {w} h => by
      unfold catD at h
      split at h
      · split at h
        · rename_i l m hl
          cases h
          exact ⟨l, m, rfl, rfl, hl, rfl⟩
        · cases h
      · cases h
    cases hc : catD s t with
    | stuck => rw [hc] at k2; exact k2.elim
    | exc c =>
      unfold catD at hc
      split at hc
      · split at hc <;> cases hc
      · cases hc
    | ok w =>
      obtain ⟨l, m, rfl, rfl, hl, rfl⟩ := ct hc
      rw [hc] at k2
      obtain ⟨a, vs, rfl, ha, hr⟩ := r1.mono e2
      obtain ⟨b, ws, rfl, hb, hk⟩ := r2
      refine ⟨a, b, vs, ws, rfl, rfl, ha, hb, big (by rw [hr.length, hk.length]; exact hl), fun p hp => k2 _ _ ((e1.trans e2).trans (same_new hp)) ⟨p, _, rfl, upd_same, (hr.append hk).mono (same_new hp)⟩ fun c oc => ?_⟩
      cases (show V.ref p = V.ref c from oc)
      exact (e1.trans e2).free hp⟩⟩
/-- n += e, of numbers -/
def sAug (i : Nat) (x : XE) : XS := fun ρ => match ρ[i]? with
  | some (some sl) => ofR (x ρ) ρ fun t => match sl.s, t with
    | .p (.int a), .p (.int b) => .nx (setV i (.int (a + b)) ρ)
    | _, _ => .stuck
  | _ => .stuck
theorem st_aug {L M : List Nat} (i : Nat) {n : Str} {np : Pos} (hN : X.N.Nodup) (hi : X.N[i]? = some n) (hx : Loc X.env.scope n) (hL : L.contains i = false) (he : PE X e (tE C x))
    (hf : X.fn n = true ∨ X.env.scope.names.lookup n = some .local := by first | exact .inl rfl | exact .inr rfl | assumption) : PS X (.AugAssign (.Name n np) .Add e pos) (tS C L M (sAug i x)) :=
  impS (ps_aug hN hi hx he ip_add hf) fun D σ H ⟨F, ρ, I, q⟩ => by
    unfold sAug at q
    split at q
    · rename_i sl h
      obtain ⟨v, h1, h2⟩ := I.slots.get i sl h
      refine ⟨v, h1, ρ, I.slots, Rz.P_mono (ofR_P q I) (fun _ k => k) fun t et k H1 u e1 r1 => ?_⟩
      clear et
      split at k
      · rename_i a b ea
        rw [ea] at h2
        cases (rs_int h2)
        cases (rs_int r1)
        exact ⟨_, _, rfl, rfl, k _ _ ((I.mono e1).setV (show Rp H1 (.int (a + b)) (.int (a + b)) from rfl) (notL hL))⟩
      · exact k.elim
    · exact q.elim
end
end Fw

namespace Fw
open PySem L2
/-! ### a comprehension of two clauses, the inner over what no slot holds -/
def tI0 (C : Cn) (src : XI) : TI := fun σ H R => ∃ ρ, Slots σ H ρ ∧ (src ρ).P (Ex C σ H) fun xs => ∀ J L H', Same H H' → WalkD J xs L H' → (∀ a, L a → H a = none) → R J H'
def lc2D (tg : Tg) (t : XT) (src1 : XI) (tg1 : Tg) (t1 : XT) (el : XE) (vs1 : List Nat) : List Dt → En → Rz (List Dt)
  | [], _ => .ok []
  | x :: xs, ρ => (tg x ρ).bind fun ρ1 => (t ρ1).bind fun b => if b = true then (src1 ρ1).bind fun ys => (lcD tg1 t1 el ys (wipeE ρ1 vs1)).bind fun zs => (lc2D tg t src1 tg1 t1 el vs1 xs ρ).bind fun r => .ok (zs ++ r)
      else lc2D tg t src1 tg1 t1 el vs1 xs ρ
def xLc2 (src : XI) (tg : Tg) (t : XT) (src1 : XI) (tg1 : Tg) (t1 : XT) (el : XE) (vs vs1 : List Nat) : XE := fun ρ => (src ρ).bind fun xs => lcR (lc2D tg t src1 tg1 t1 el vs1 xs (wipeE ρ vs))
/-- one turn of a comprehension, told apart -/
theorem lcD_cons {tg : Tg} {t : XT} {el : XE} {x : Dt} {xs : List Dt} {ρ : En} {r : List Dt} (h : lcD tg t el (x :: xs) ρ = .ok r) :
    ∃ ρ1 b, tg x ρ = .ok ρ1 ∧ t ρ1 = .ok b ∧ ((b = true ∧ ∃ y r', el ρ1 = .ok (.p y) ∧ lcD tg t el xs ρ = .ok r' ∧ r = y :: r') ∨ (b = false ∧ lcD tg t el xs ρ = .ok r)) := by
  unfold lcD at h
  cases eg : tg x ρ with
  | stuck => rw [eg] at h; cases h
  | exc c => rw [eg] at h; cases h
  | ok ρ1 =>
    rw [eg] at h
    simp only [Rz.bind_ok] at h
    cases et : t ρ1 with
    | stuck => rw [et] at h; cases h
    | exc c => rw [et] at h; cases h
    | ok b =>
      rw [et] at h
      simp only [Rz.bind_ok] at h
      refine ⟨ρ1, b, rfl, et, ?_⟩
      cases b with
      | false => exact .inr ⟨rfl, h⟩
      | true =>
        simp only [if_true] at h
        cases ee : el ρ1 with
        | stuck => rw [ee] at h; cases h
        | exc c => rw [ee] at h; cases h
        | ok s =>
          rw [ee] at h
          simp only [Rz.bind_ok] at h
          cases s with
          | p y =>
            simp only [dtD, Rz.bind_ok] at h
            cases er : lcD tg t el xs ρ with
            | stuck => rw [er] at h; cases h
            | exc c => rw [er] at h; cases h
            | ok r' =>
              rw [er] at h
              cases h
              exact .inl ⟨rfl, y, r', rfl, rfl, rfl⟩
          | l _ => cases h
          | d _ => cases h
          | ll _ => cases h
          | pl _ _ => cases h
theorem lc2D_cons {tg : Tg} {t : XT} {src1 : XI} {tg1 : Tg} {t1 : XT} {el : XE} {vs1 : List Nat} {x : Dt} {xs : List Dt} {ρ : En} {r : List Dt} (h : lc2D tg t src1 tg1 t1 el vs1 (x :: xs) ρ = .ok r) :
    ∃ ρ1 b, tg x ρ = .ok ρ1 ∧ t ρ1 = .ok b ∧ ((b = true ∧ ∃ ys zs r', src1 ρ1 = .ok ys ∧ lcD tg1 t1 el ys (wipeE ρ1 vs1) = .ok zs ∧ lc2D tg t src1 tg1 t1 el vs1 xs ρ = .ok r' ∧ r = zs ++ r') ∨ (b = false ∧ lc2D tg t src1 tg1 t1 el vs1 xs ρ = .ok r)) := by
  unfold lc2D at h
  cases eg : tg x ρ with
  | stuck => rw [eg] at h; cases h
  | exc c => rw [eg] at h; cases h
  | ok ρ1 =>
    rw [eg] at h
    simp only [Rz.bind_ok] at h
    cases et : t ρ1 with
    | stuck => rw [et] at h; cases h
    | exc c => rw [et] at h; cases h
    | ok b =>
      rw [et] at h
      simp only [Rz.bind_ok] at h
      refine ⟨ρ1, b, rfl, et, ?_⟩
      cases b with
      | false => exact .inr ⟨rfl, h⟩
      | true =>
        simp only [if_true] at h
        cases es : src1 ρ1 with
        | stuck => rw [es] at h; cases h
        | exc c => rw [es] at h; cases h
        | ok ys =>
          rw [es] at h
          simp only [Rz.bind_ok] at h
          cases ez : lcD tg1 t1 el ys (wipeE ρ1 vs1) with
          | stuck => rw [ez] at h; cases h
          | exc c => rw [ez] at h; cases h
          | ok zs =>
            rw [ez] at h
            simp only [Rz.bind_ok] at h
            cases er : lc2D tg t src1 tg1 t1 el vs1 xs ρ with
            | stuck => rw [er] at h; cases h
            | exc c => rw [er] at h; cases h
            | ok r' =>
              rw [er] at h
              cases h
              exact .inl ⟨rfl, ys, zs, r', rfl, ez, rfl, rfl⟩
theorem rz_of {α : Type} {r : Rz α} {σ : St} {H : Hp} {C : Cn} {Q : α → Prop} {a : α} (h : r = .ok a) (q : Q a) : r.P (Ex C σ H) Q := okP h q
/-- the list at D, with what it holds so far -/
structure Acc (H1 H' : Hp) (D : Addr) (acc : List Dt) : Prop where
  same : Same H1 H'
  at_ : ∃ us, H' D = some (.lst us) ∧ Rps H' acc us
theorem Acc.mono {H1 H' H2 : Hp} {D : Addr} {acc : List Dt} (a : Acc H1 H' D acc) (e : Same H' H2) : Acc H1 H2 D acc := by
  obtain ⟨us, h, r⟩ := a.at_
  exact ⟨a.same.trans e, us, e D _ h, r.mono e⟩
/-- .. grown by one -/
theorem Acc.put {H1 H' : Hp} {D : Addr} {acc : List Dt} {y : Dt} {w : V} {us : List V} (hD : H1 D = none) (a : Acc H1 H' D acc) (h : H' D = some (.lst us)) (hy : Rp H' y w) : Acc H1 (upd H' D (.lst (us ++ [w]))) D (acc ++ [y]) := by
  obtain ⟨vs, h2, r⟩ := a.at_
  rw [h] at h2
  cases h2
  have tx : Tx H' (upd H' D (.lst (us ++ [w]))) := fun b ys hb => by
    have nb : b ≠ D := fun z => by rw [z, h] at hb; cases hb
    rw [upd_ne nb]
    exact hb
  refine ⟨fun b o hb => ?_, _, upd_same, (r.tx tx).append (Rps.one (Rp.tx tx hy))⟩
  rw [upd_ne (ne_of_none hb hD)]
  exact a.same b o hb
theorem lc2_read {C : Cn} {src : XI} {t : XT} {src1 : XI} {tg1 : Tg} {t1 : XT} {el : XE} {vs vs1 : List Nat} {n : Nat} (hn : n ∈ vs) :
    ∀ σ H Q, tF C (xLc2 src (tgN n) t src1 tg1 t1 el vs vs1) σ H Q → tLc2 (tI C src) (gName n) (tT C.no t) (tI0 C.no src1) (tGc tg1 vs1) (tT C.no t1) (tE C.no el) vs vs1 σ H Q := fun σ H Q ⟨ρ, hs, q⟩ => by
  refine ⟨ρ, hs, Rz.P_mono (Rz.P_bind q) (fun _ k => k) fun xs _ k J L H1 e1 wd lp D hD => ?_⟩
  cases hr : lc2D (tgN n) t src1 tg1 t1 el vs1 xs (wipeE ρ vs) with
  | stuck => rw [hr] at k; exact k.elim
  | exc c => rw [hr] at k; exact k.elim
  | ok full =>
    rw [hr] at k
    unfold lcR at k
    simp only at k
    split at k
    · rename_i hfl
      refine ⟨fun i m H' => i ≤ xs.length ∧ m = xs.length - i ∧ ∃ acc r, Acc H1 H' D acc ∧ lc2D (tgN n) t src1 tg1 t1 el vs1 (xs.drop i) (wipeE ρ vs) = .ok r ∧ acc ++ r = full, ⟨xs.length, Nat.zero_le _, by simp, [], full, ⟨same_new hD, [], upd_same, rfl⟩, by simpa using hr, rfl⟩, ?_⟩
      rintro i m H2 ⟨hi, rfl, acc, r, A, hr2, hf⟩
      obtain ⟨w1, w2⟩ := wd.run H2 (Same.tx A.same) fun a o _ h => A.same a o h
      by_cases hlt : i < xs.length
      · have hx : xs[i]? = some xs[i] := by simp [hlt]
        obtain ⟨go, yd⟩ := w1 i _ hx
        refine .inr ⟨go, fun H' => i + 1 ≤ xs.length ∧ ∃ acc r, Acc H1 H' D acc ∧ lc2D (tgN n) t src1 tg1 t1 el vs1 (xs.drop (i + 1)) (wipeE ρ vs) = .ok r ∧ acc ++ r = full, fun H' ⟨a1, a2⟩ => ⟨xs.length - (i + 1), by omega, a1, rfl, a2⟩, fun v H3 y => ?_⟩
        obtain ⟨e3, rv⟩ := yd v H3 y
        have ed : xs.drop i = xs[i] :: xs.drop (i + 1) := (List.drop_eq_getElem_cons hlt)
        rw [ed] at hr2
        obtain ⟨ρ1, b, eg, et, hc⟩ := lc2D_cons hr2
        cases eg
        have A3 := A.mono e3
        -- the slots at any heap behind
        have slots : ∀ H', Same H1 H' → Tx H3 H' → Slots ((wipe σ vs).set n (some v)) H' (setV n xs[i] (wipeE ρ vs)) := fun H' e tx => (((hs.mono e1).mono e).wipe vs).setV (Rp.tx tx rv)
        refine ⟨by rw [wipe_set hn, wipe_idem], _, slots H3 A3.same (fun _ _ h => h), rz_of et ?_⟩
        intro H4 e4
        have A4 := A3.mono e4
        rcases hc with ⟨rfl, ys, zs, r', es, ez, er, rfl⟩ | ⟨rfl, er⟩
        · simp only [if_true]
          refine ⟨_, slots H4 A4.same (Same.tx e4), rz_of es ?_⟩
          intro J1 L1 H5 e5 wd1 lp1
          have A5 := A4.mono e5
          have L1D : ∀ a, L1 a → a ≠ D := fun a la z => by
            obtain ⟨us, h, _⟩ := A4.at_
            rw [z] at la
            rw [lp1 D la] at h
            cases h
          refine ⟨fun j k H' => j ≤ ys.length ∧ k = ys.length - j ∧ ∃ acc2 r2, Acc H1 H' D (acc ++ acc2) ∧ (∀ b o, b ≠ D → H5 b = some o → H' b = some o) ∧ lcD tg1 t1 el (ys.drop j) (wipeE (setV n xs[i] (wipeE ρ vs)) vs1) = .ok r2 ∧ acc2 ++ r2 = zs, ⟨ys.length, Nat.zero_le _, by simp, [], zs, by simpa using A5, fun b o _ h => h, by simpa using ez, rfl⟩, ?_⟩
          rintro j k2 H6 ⟨hj, rfl, acc2, r2, A6, keep, er2, hz⟩
          have tx6 : Tx H5 H6 := fun b us h => by
            obtain ⟨ws, hD5, _⟩ := A5.at_
            exact keep b _ (fun z => by rw [z, hD5] at h; cases h) h
          have tx36 : Tx H3 H6 := fun b us h => tx6 b us (e5 b _ (e4 b _ h))
          obtain ⟨u1, u2⟩ := wd1.run H6 tx6 fun a o la h => keep a o (L1D a la) h
          by_cases hlj : j < ys.length
          · have hy : ys[j]? = some ys[j] := by simp [hlj]
            obtain ⟨go1, yd1⟩ := u1 j _ hy
            refine .inr ⟨go1, fun H' => j + 1 ≤ ys.length ∧ ∃ acc2 r2, Acc H1 H' D (acc ++ acc2) ∧ (∀ b o, b ≠ D → H5 b = some o → H' b = some o) ∧ lcD tg1 t1 el (ys.drop (j + 1)) (wipeE (setV n xs[i] (wipeE ρ vs)) vs1) = .ok r2 ∧ acc2 ++ r2 = zs, fun H' ⟨a1, a2⟩ => ⟨ys.length - (j + 1), by omega, a1, rfl, a2⟩, fun v7 H7 y7 => ?_⟩
            obtain ⟨e7, rv7⟩ := yd1 v7 H7 y7
            have edj : ys.drop j = ys[j] :: ys.drop (j + 1) := (List.drop_eq_getElem_cons hlj)
            rw [edj] at er2
            obtain ⟨ρ2, b2, eg2, et2, hc2⟩ := lcD_cons er2
            have A7 := A6.mono e7
            refine ⟨_, ys[j], (slots H7 A7.same fun b us h => e7 b _ (tx36 b us h)).wipe vs1, rv7, ?_⟩
            rw [eg2]
            intro σ3 hs3 hw3
            rw [wipe_idem] at hw3
            refine ⟨hw3, ρ2, hs3, rz_of et2 ?_⟩
            intro H8 e8
            have A8 := A7.mono e8
            rcases hc2 with ⟨rfl, yv, r3, ee, er3, rfl⟩ | ⟨rfl, er3⟩
            · simp only [if_true]
              refine ⟨ρ2, hs3.mono e8, rz_of ee ?_⟩
              intro H9 w e9 rw9
              have A9 := A8.mono e9
              obtain ⟨us, hD9, ra9⟩ := A9.at_
              refine ⟨us, hD9, ?_, hlj, acc2 ++ [yv], r3, ?_, fun b o nb hb => ?_, er3, by rw [← hz]; simp⟩
              · have l1 := ra9.length
                have l2 : ((acc ++ acc2) ++ yv :: (r3 ++ r')).length = full.length := by rw [← hf, ← hz]; simp
                rw [List.length_append, List.length_cons] at l2
                exact Nat.lt_of_lt_of_le (show us.length < 1000000 by omega) (by decide)
              · rw [← List.append_assoc]
                exact A9.put hD hD9 rw9
              · rw [upd_ne nb]
                exact e9 b o (e8 b o (e7 b o (keep b o nb hb)))
            · simp only [Bool.false_eq_true, if_false]
              exact ⟨hlj, acc2, r2, A8, fun b o nb hb => e8 b o (e7 b o (keep b o nb hb)), er3, hz⟩
          · have ej : j = ys.length := by omega
            subst ej
            rw [List.drop_length] at er2
            cases er2
            rw [List.append_nil] at hz
            subst hz
            exact .inl ⟨u2, hlt, acc ++ acc2, r', A6, er, by rw [← hf, List.append_assoc]⟩
        · simp only [Bool.false_eq_true, if_false]
          exact ⟨hlt, acc, r, A4, er, hf⟩
      · have e : i = xs.length := by omega
        subst e
        refine .inl ⟨w2, ?_⟩
        rw [List.drop_length] at hr2
        cases hr2
        rw [List.append_nil] at hf
        subst hf
        obtain ⟨us, hD2, ra⟩ := A.at_
        exact k H2 _ (e1.trans A.same) ⟨D, us, rfl, hD2, ra⟩ fun a oa => by
          cases (show V.ref D = V.ref a from oa)
          exact e1.free hD
    · exact k.elim
section
variable {X : Cx} {C : Cn} {x y z : XE} {a b e tg : Expr} {pos p : Pos}
theorem i_enumT0 {tpos : Pos} {elts : List Expr} {kk : Nat} (hg : Gl X "enumerate") (hm : X.mg "enumerate" = none) (he : PE X e (tE C x)) (hst : starEach [e] X.env = [(false, eval e X.env)] := by rfl) : PI X (.Tuple elts kk tpos) (.Call (.Name "enumerate" p) [e] [] pos) (tI0 C (srcET x)) :=
  PIimp (pi_enumT hg hm (pa_cons he pa_nil hst) hst) fun σ H R ⟨ρ, hs, q⟩ => ⟨ρ, hs, Rz.P_mono (Rz.P_bind q) (fun _ k => k) fun s _ k H1 v e1 r1 => by
    split at k
    · obtain ⟨a, vs, rfl, ha, hr⟩ := r1
      exact ⟨a, vs, rfl, .inl (.inl ha), k _ _ H1 e1 (walk_enumT ha hr) fun b z => z.elim⟩
    · exact k.elim⟩
theorem e_lc2 {elt tg iter tg1 iter1 : Expr} {ifs ifs1 : List Expr} {scope : Scope} {own : List (Str × Nat)} {n : Nat} {vs1 : List Nat} {src src1 : XI} {tgt1 : Tg} {t t1 : XT} {el : XE} (hc : X.calm = true) (hN : X.N.Nodup) (hi : PI X tg iter (tI C src)) (ok : BlkOk X.N X.env.scope scope own) (hn : n ∈ own.map (·.2)) (hv : ∀ i ∈ vs1, i ∈ own.map (·.2))
    (hg : ∀ (s : Shared) (H : Hp) (Ca : Addr) (cl : List (Str × Addr)) (fp : List Addr), PG (X.blk s H scope (compEnvC scope cl Ca X.env) fp) tg (gName n)) (ht : ∀ (s : Shared) (H : Hp) (Ca : Addr) (cl : List (Str × Addr)) (fp : List Addr), PTs (X.blk s H scope (compEnvC scope cl Ca X.env) fp) ifs (tT C.no t))
    (hi1 : ∀ (s : Shared) (H : Hp) (Ca : Addr) (cl : List (Str × Addr)) (fp : List Addr), PI (X.blk s H scope (compEnvC scope cl Ca X.env) fp) tg1 iter1 (tI0 C.no src1))
    (hg1 : ∀ (s : Shared) (H : Hp) (Ca : Addr) (cl : List (Str × Addr)) (fp : List Addr), PG (X.blk s H scope (compEnvC scope cl Ca X.env) fp) tg1 (tGc tgt1 vs1)) (ht1 : ∀ (s : Shared) (H : Hp) (Ca : Addr) (cl : List (Str × Addr)) (fp : List Addr), PTs (X.blk s H scope (compEnvC scope cl Ca X.env) fp) ifs1 (tT C.no t1))
    (he : ∀ (s : Shared) (H : Hp) (Ca : Addr) (cl : List (Str × Addr)) (fp : List Addr), PE (X.blk s H scope (compEnvC scope cl Ca X.env) fp) elt (tE C.no el)) (hs : ∀ x, foldedSetIterable iter X.env x = pure x := by intro _; rfl) (hs1 : ∀ env x, foldedSetIterable iter1 env x = pure x := by intro _ _; rfl) :
    PE X (.ListComp elt [⟨tg, iter, ifs, 0⟩, ⟨tg1, iter1, ifs1, 0⟩] scope pos) (tF C (xLc2 src (tgN n) t src1 tgt1 t1 el (own.map (·.2)) vs1)) := imp (pe_lc2 hc hN hi ok hv hg ht hi1 hg1 ht1 he hs hs1) (lc2_read hn)
end
end Fw

namespace Fw
open PySem L2
section
variable {L M : List Nat} {F : Fr} {σ : St} {H : Hp} {ρ : En}
/-- a slot gets what is only read -/
theorem Renv.setR (h : Renv L M F σ H ρ) {i : Nat} {s : Sv} {v : V} (r : Rs H s v) (sp : ∀ (j : Nat) (t : Sv) (u : V) (a : Addr), j ≠ i → ρ[j]? = some (some (.o t)) → σ[j]? = some (some u) → Oc H t u a → ¬ Oc H s v a) (hi : i ∉ L) : Renv L M F (σ.set i (some v)) H (ρ.set i (some (.v s))) := by
  have at_ : ∀ (j : Nat) (t : Sl) (u : V), (ρ.set i (some (.v s)))[j]? = some (some t) → (σ.set i (some v))[j]? = some (some u) → (j = i ∧ t = .v s ∧ u = v) ∨ (j ≠ i ∧ ρ[j]? = some (some t) ∧ σ[j]? = some (some u)) := fun j t u q1 q2 => by
    by_cases e : i = j
    · subst e
      by_cases hi : i < ρ.length
      · rw [List.getElem?_set_self hi] at q1
        rw [List.getElem?_set_self (by rw [h.slots.len]; exact hi)] at q2
        cases q1
        cases q2
        exact .inl ⟨rfl, rfl, rfl⟩
      · rw [List.getElem?_eq_none (by simpa using hi)] at q1
        cases q1
    · rw [List.getElem?_set_ne e] at q1 q2
      exact .inr ⟨fun z => e z.symm, q1, q2⟩
  refine ⟨h.keep, h.alive, ⟨by simpa using h.slots.len, fun j t q => ?_⟩, fun j t u q1 q2 => ?_, fun j t u a q1 hj q2 oc => ?_, fun j k t t2 u w a jk q1 q2 q3 q4 oc => ?_, fun p hp => ?_⟩
  · by_cases e : i = j
    · subst e
      by_cases hi : i < ρ.length
      · rw [List.getElem?_set_self hi] at q
        cases q
        exact ⟨v, List.getElem?_set_self (by rw [h.slots.len]; exact hi), r⟩
      · rw [List.getElem?_eq_none (by simpa using hi)] at q
        cases q
    · rw [List.getElem?_set_ne e] at q ⊢
      exact h.slots.get j t q
  · rcases at_ j _ u q1 q2 with ⟨_, z, _⟩ | ⟨_, z1, z2⟩
    · cases z
    · exact h.ro j t u z1 z2
  · rcases at_ j _ u q1 q2 with ⟨_, z, _⟩ | ⟨_, z1, z2⟩
    · cases z
    · exact h.own j t u a z1 hj z2 oc
  · rcases at_ j _ u q1 q3 with ⟨_, z, _⟩ | ⟨nj, z1, z2⟩
    · cases z
    · rcases at_ k _ w q2 q4 with ⟨_, rfl, rfl⟩ | ⟨_, y1, y2⟩
      · exact sp j t u a nj z1 z2 oc
      · exact h.sep j k t t2 u w a jk z1 y1 z2 y2 oc
  · obtain ⟨h1, h2⟩ := h.fix p hp
    refine ⟨h1, ?_⟩
    rw [List.getElem?_set_ne (fun e => hi (by rw [e]; exact h1))]
    exact h2
end
section
variable {X : Cx} {C : Cn} {L M : List Nat} {x y z : XE} {a b e tg : Expr} {pos p : Pos}
/-- x = xs[k], xs a list of lists that is only read -/
def sAli (j i : Nat) (k : XE) : XS := fun ρ => match ρ[j]? with
  | some (some (.v (.ll l))) => ofR (k ρ) ρ fun t => match t with
    | .p (.int g) => match atI l g with
      | some xs => .nx (ρ.set i (some (.v (.l xs))))
      | none => .stuck
    | _ => .stuck
  | _ => .stuck
theorem st_ali (j i : Nat) {n m : Str} {np mp sp : Pos} (hN : X.N.Nodup) (hi : X.N[i]? = some n) (hx : Loc X.env.scope n) (hL : L.contains i = false) (hj : X.N[j]? = some m) (hv : Vis X.env.scope m) (hk : PE X a (tE C y)) (hsx : PlainIx a := by exact fun _ _ => rfl) (hd : (m == ("__debug__" : Str)) = false := by decide) (hcd : (m == ("__classdict__" : Str)) = false := by decide)
    (hs : swapsWith (.Subscript (.Name m mp) a sp) (some (.Name n np)) pos.line X.env = pure false := by rfl)
    (hf : X.fn n = true ∨ X.env.scope.names.lookup n = some .local := by first | exact .inl rfl | exact .inr rfl | assumption) : PS X (.Assign [.Name n np] (.Subscript (.Name m mp) a sp) pos) (tS C L M (sAli j i y)) :=
  impS (ps_set hN hi hx (pe_ix ix_list (pv j hj hv hd hcd) hk hsx) hs hf) fun D σ H ⟨F, ρ, I, q⟩ => by
    unfold sAli at q
    split at q
    · rename_i l hl
      obtain ⟨v, h1, a, us, rfl, ha, nd, hr⟩ := I.slots.get j _ hl
      refine ⟨_, h1, ρ, I.slots, Rz.P_mono (ofR_P q I) (fun _ k => k) fun t et k H1 u e1 r1 => ?_⟩
      clear et
      split at k
      · rename_i g
        split at k
        · rename_i xs hxs
          cases (rs_int r1)
          have I1 := I.mono e1
          have hr1 := hr.keep (Same.tx e1) fun a o _ q => e1 a o q
          obtain ⟨b, vs, hb1, hb2, hb3⟩ := hr1.atI hxs
          refine ⟨a, us, g, _, rfl, rfl, .inl (.inl (e1 a _ ha)), hb1, k _ _ (I1.setR ⟨b, vs, rfl, .inl hb2, hb3⟩ (fun j' t' u' c nj q1 q2 oc oc2 => ?_) (notL hL))⟩
          have nj' : j' ≠ j := fun z => by rw [z, hl] at q1; cases q1
          refine I1.sep j' j t' (.v (.ll l)) u' _ c nj' q1 hl q2 h1 oc ⟨a, us, rfl, e1 a _ ha, .inr ?_⟩
          have ec : V.ref b = V.ref c := oc2
          rw [← ec]
          unfold L2.atI at hb1
          cases e2 : ixN us.length g with
          | none => rw [e2] at hb1; cases hb1
          | some m' => rw [e2] at hb1; exact List.mem_of_getElem? hb1
        · exact k.elim
      · exact k.elim
    · exact q.elim
theorem e_dc {kx vx tg iter : Expr} {ifs : List Expr} {scope : Scope} {own : List (Str × Nat)} {src : XI} {tgt : Tg} {t : XT} {mk mv : XE} (hu : X.A.units < cLine) (hc : X.calm = true) (hN : X.N.Nodup) (hi : PI X tg iter (tI C src)) (ok : BlkOk X.N X.env.scope scope own)
    (hg : ∀ (s : Shared) (H : Hp) (Ca : Addr) (cl : List (Str × Addr)) (fp : List Addr), PG (X.blk s H scope (compEnvC scope cl Ca X.env) fp) tg (tGc tgt (own.map (·.2)))) (ht : ∀ (s : Shared) (H : Hp) (Ca : Addr) (cl : List (Str × Addr)) (fp : List Addr), PTs (X.blk s H scope (compEnvC scope cl Ca X.env) fp) ifs (tT C.no t))
    (hk : ∀ (s : Shared) (H : Hp) (Ca : Addr) (cl : List (Str × Addr)) (fp : List Addr), PE (X.blk s H scope (compEnvC scope cl Ca X.env) fp) kx (tE C.no mk))
    (he : ∀ (s : Shared) (H : Hp) (Ca : Addr) (cl : List (Str × Addr)) (fp : List Addr), PE (X.blk s H scope (compEnvC scope cl Ca X.env) fp) vx (tE C.no mv)) (hs : ∀ x, foldedSetIterable iter X.env x = pure x := by intro _; rfl) :
    PE X (.DictComp kx vx [⟨tg, iter, ifs, 0⟩] scope pos) (tF C (xDc src tgt t mk mv (own.map (·.2)))) := ⟨fun pins s σ H Q I h => by
  rw [arm_eval_DictComp]
  refine pe_dctc hu hc hN hi ok hg ht hk he hs I (dc_read σ H Q h) fun D Ca s' m H' I' q hn f => ⟨m, hn, fun h'' sb => ?_⟩
  obtain ⟨f0, f1, f2, f3, f4, f5⟩ := f
  exact ⟨.ref D, H', I'.turned (t' := s'.toks) (fun b o hb e => (sb.2 b hb).trans e) f0 f1 f3 f4 f5, rfl, q⟩⟩
theorem swD_true {kx vx : Expr} {gs : List Comprehension} {scope : Scope} {pos py : Pos} {y : Str} {l : Nat} {env : Env} (hk : env.scope.kind = .function) (hy : env.scope.names.lookup y = some .local) (hl : (py.line == pos.line) = true)
    (ha : (scope.names.any fun (n, k) => n == y && (k == .local || k == .cell)) = false) : swapsWith (.DictComp kx vx gs scope pos) (some (.Name y py)) l env = pure true := by
  have k1 : env.kindOf y = some .local := hy
  have k2 : env.blockKind = .function := by unfold Env.blockKind; rw [hk]; rfl
  unfold swapsWith
  simp only [k2, k1, ha, Expr.pos, hl]
  rfl
end
end Fw

/-! The mirrors' evaluation by rules. -/
namespace Fw
open PySem L2
def r1 {α β : Type} (f : α → Rz β) (a : Rz α) : Rz β := a.bind f
def r2 (f : Sv → Sv → Rz Sv) (a b : Rz Sv) : Rz Sv := a.bind fun a => b.bind fun b => f a b
def rC (a : Rz Sv) (b : Rz (List Sv)) : Rz (List Sv) := a.bind fun a => b.bind fun r => .ok (a :: r)
def rAnd (a : Rz Bool) (y : XT) (ρ : En) : Rz Bool := a.bind fun b => if b = true then y ρ else .ok false
def rOr (a : Rz Bool) (y : XT) (ρ : En) : Rz Bool := a.bind fun b => if b = true then .ok true else y ρ
def rIte (a : Rz Bool) (x y : XE) (ρ : En) : Rz Sv := a.bind fun b => if b = true then x ρ else y ρ
def nt (b : Bool) : Rz Bool := .ok (!b)
def vB (b : Bool) : Rz Sv := .ok (.p (.bl b))
@[simp] theorem r1_ok {α β : Type} {f : α → Rz β} {a : α} : r1 f (.ok a) = f a := rfl
@[simp] theorem r2_ok {f : Sv → Sv → Rz Sv} {a b : Sv} : r2 f (.ok a) (.ok b) = f a b := rfl
@[simp] theorem rC_ok {a : Sv} {b : List Sv} : rC (.ok a) (.ok b) = .ok (a :: b) := rfl
@[simp] theorem rAnd_t {y : XT} {ρ : En} : rAnd (.ok true) y ρ = y ρ := rfl
@[simp] theorem rAnd_f {y : XT} {ρ : En} : rAnd (.ok false) y ρ = .ok false := rfl
@[simp] theorem rOr_t {y : XT} {ρ : En} : rOr (.ok true) y ρ = .ok true := rfl
@[simp] theorem rOr_f {y : XT} {ρ : En} : rOr (.ok false) y ρ = y ρ := rfl
@[simp] theorem rIte_t {x y : XE} {ρ : En} : rIte (.ok true) x y ρ = x ρ := rfl
@[simp] theorem rIte_f {x y : XE} {ρ : En} : rIte (.ok false) x y ρ = y ρ := rfl
@[simp] theorem nt_ok {b : Bool} : nt b = .ok (!b) := rfl
@[simp] theorem vB_ok {b : Bool} : vB b = .ok (.p (.bl b)) := rfl
theorem ev_C {x : Dt} {ρ : En} : xC x ρ = .ok (.p x) := rfl
theorem ev_U {f : Sv → Rz Sv} {x : XE} {ρ : En} : xU f x ρ = r1 f (x ρ) := rfl
theorem ev_B {f : Sv → Sv → Rz Sv} {x y : XE} {ρ : En} : xB f x y ρ = r2 f (x ρ) (y ρ) := rfl
theorem ev_nil {ρ : En} : xNil ρ = .ok [] := rfl
theorem ev_cons {x : XE} {y : XA} {ρ : En} : xCons x y ρ = rC (x ρ) (y ρ) := rfl
theorem ev_L {f : List Sv → Rz Sv} {x : XA} {ρ : En} : xL f x ρ = r1 f (x ρ) := rfl
theorem ev_tst {f : Sv → Rz Bool} {x : XE} {ρ : En} : xTst f x ρ = r1 f (x ρ) := rfl
theorem ev_and {x y : XT} {ρ : En} : xAnd x y ρ = rAnd (x ρ) y ρ := rfl
theorem ev_or {x y : XT} {ρ : En} : xOr x y ρ = rOr (x ρ) y ρ := rfl
theorem ev_not {x : XT} {ρ : En} : xNot x ρ = r1 nt (x ρ) := rfl
theorem ev_V {x : XT} {ρ : En} : xV x ρ = r1 vB (x ρ) := rfl
theorem ev_if {c : XT} {x y : XE} {ρ : En} : xIf c x y ρ = rIte (c ρ) x y ρ := rfl
def rCh (f g : Sv → Sv → Rz Sv) (a b : Rz Sv) (z : XE) (ρ : En) : Rz Sv := a.bind fun a => b.bind fun b => (f a b).bind fun r => (blB r).bind fun k => if k = true then (z ρ).bind fun c => g b c else .ok (.p (.bl false))
def rCh2 (g : Sv → Sv → Rz Sv) (r : Rz Sv) (b : Sv) (z : XE) (ρ : En) : Rz Sv := r.bind fun r => (blB r).bind fun k => if k = true then (z ρ).bind fun c => g b c else .ok (.p (.bl false))
theorem ev_ch {f g : Sv → Sv → Rz Sv} {x y z : XE} {ρ : En} : xCh f g x y z ρ = rCh f g (x ρ) (y ρ) z ρ := rfl
@[simp] theorem rCh_ok {f g : Sv → Sv → Rz Sv} {a b : Sv} {z : XE} {ρ : En} : rCh f g (.ok a) (.ok b) z ρ = rCh2 g (f a b) b z ρ := rfl
@[simp] theorem rCh2_t {g : Sv → Sv → Rz Sv} {b : Sv} {z : XE} {ρ : En} : rCh2 g (.ok (.p (.bl true))) b z ρ = r1 (g b) (z ρ) := rfl
@[simp] theorem rCh2_f {g : Sv → Sv → Rz Sv} {b : Sv} {z : XE} {ρ : En} : rCh2 g (.ok (.p (.bl false))) b z ρ = .ok (.p (.bl false)) := rfl
theorem rCh2_b {g : Sv → Sv → Rz Sv} {b : Sv} {z : XE} {ρ : En} {k : Bool} {c : Sv} {e : Bool} (h : z ρ = .ok c) (h2 : g b c = .ok (.p (.bl e))) : rCh2 g (.ok (.p (.bl k))) b z ρ = .ok (.p (.bl (k && e))) := by
  cases k with
  | true => rw [rCh2_t, h, r1_ok, h2]; rfl
  | false => rfl
/-! names -/
theorem ev_var0 {a : Sl} {r : En} : xVar 0 (some a :: r) = .ok a.s := rfl
theorem ev_varS {i : Nat} {a : Option Sl} {r : En} : xVar (i + 1) (a :: r) = xVar i r := rfl
@[simp] theorem sl_v {s : Sv} : (Sl.v s).s = s := rfl
@[simp] theorem sl_o {s : Sv} : (Sl.o s).s = s := rfl
/-! statements -/
def sqO (o : Out) (w : XS) : Out := match o with
  | .nx ρ' => w ρ'
  | o => o
def cdO (r : Rz Bool) (u w : XS) (ρ : En) : Out := ofR r ρ fun b => if b = true then u ρ else w ρ
def agO (i : Nat) (r : Rz Sv) (ρ : En) : Out := ofR r ρ fun s => match s with
  | .p x => .nx (setV i x ρ)
  | _ => .stuck
def nwO (o : Bool) (i : Nat) (r : Rz Sv) (ρ : En) : Out := ofR r ρ fun s => .nx (ρ.set i (some (if o = true then .o s else .v s)))
def upO (is : List Nat) (r : Rz Sv) (ρ : En) : Out := ofR r ρ fun s => match s with
  | .p (.tup l) => if l.length = is.length then .nx (setVs is l ρ) else .stuck
  | _ => .stuck
def rtO (r : Rz Sv) (ρ : En) : Out := ofR r ρ fun s => match s with
  | .p x => .rt (.p x) ρ
  | _ => .stuck
def rfO (r : Rz Sv) (ρ : En) : Out := ofR r ρ fun s => .rt s ρ
def dpO (r : Rz Sv) (ρ : En) : Out := ofR r ρ fun _ => .nx ρ
def frO (r : Rz (List Dt)) (t : Tg) (u : XS) (ρ : En) : Out := ofR r ρ fun xs => forD t u xs ρ
theorem ev_seq {u w : XS} {ρ : En} : sSeq u w ρ = sqO (u ρ) w := rfl
theorem ev_sif {c : XT} {u w : XS} {ρ : En} : sIf c u w ρ = cdO (c ρ) u w ρ := rfl
theorem ev_asg {i : Nat} {x : XE} {ρ : En} : sAsg i x ρ = agO i (x ρ) ρ := rfl
theorem ev_new {o : Bool} {i : Nat} {x : XE} {ρ : En} : sNew o i x ρ = nwO o i (x ρ) ρ := rfl
theorem ev_unp {is : List Nat} {x : XE} {ρ : En} : sUnp is x ρ = upO is (x ρ) ρ := rfl
theorem ev_ret {x : XE} {ρ : En} : sRet x ρ = rtO (x ρ) ρ := rfl
theorem ev_retF {x : XE} {ρ : En} : sRetF x ρ = rfO (x ρ) ρ := rfl
theorem ev_drop {x : XE} {ρ : En} : sDrop x ρ = dpO (x ρ) ρ := rfl
theorem ev_snil {ρ : En} : sNil ρ = .nx ρ := rfl
theorem ev_raise {c : Nat} {ρ : En} : sRaise c ρ = .exc c ρ := rfl
theorem ev_for {src : XI} {t : Tg} {u : XS} {ρ : En} : sFor src t u ρ = frO (src ρ) t u ρ := rfl
@[simp] theorem sq_nx {ρ : En} {w : XS} : sqO (.nx ρ) w = w ρ := rfl
@[simp] theorem sq_rt {s : Sv} {ρ : En} {w : XS} : sqO (.rt s ρ) w = .rt s ρ := rfl
@[simp] theorem sq_ex {c : Nat} {ρ : En} {w : XS} : sqO (.exc c ρ) w = .exc c ρ := rfl
@[simp] theorem cd_t {u w : XS} {ρ : En} : cdO (.ok true) u w ρ = u ρ := rfl
@[simp] theorem cd_f {u w : XS} {ρ : En} : cdO (.ok false) u w ρ = w ρ := rfl
@[simp] theorem ag_ok {i : Nat} {x : Dt} {ρ : En} : agO i (.ok (.p x)) ρ = .nx (setV i x ρ) := rfl
@[simp] theorem ag_ex {i : Nat} {c : Nat} {ρ : En} : agO i (.exc c) ρ = .exc c ρ := rfl
@[simp] theorem nw_o {i : Nat} {s : Sv} {ρ : En} : nwO true i (.ok s) ρ = .nx (ρ.set i (some (.o s))) := rfl
@[simp] theorem nw_v {i : Nat} {s : Sv} {ρ : En} : nwO false i (.ok s) ρ = .nx (ρ.set i (some (.v s))) := rfl
@[simp] theorem up_ok {is : List Nat} {l : List Dt} {ρ : En} : upO is (.ok (.p (.tup l))) ρ = if l.length = is.length then .nx (setVs is l ρ) else .stuck := rfl
@[simp] theorem up_ex {is : List Nat} {c : Nat} {ρ : En} : upO is (.exc c) ρ = .exc c ρ := rfl
@[simp] theorem rt_ok {x : Dt} {ρ : En} : rtO (.ok (.p x)) ρ = .rt (.p x) ρ := rfl
@[simp] theorem rt_ex {c : Nat} {ρ : En} : rtO (.exc c) ρ = .exc c ρ := rfl
@[simp] theorem rf_ok {s : Sv} {ρ : En} : rfO (.ok s) ρ = .rt s ρ := rfl
@[simp] theorem rf_ex {c : Nat} {ρ : En} : rfO (.exc c) ρ = .exc c ρ := rfl
@[simp] theorem dp_ok {s : Sv} {ρ : En} : dpO (.ok s) ρ = .nx ρ := rfl
@[simp] theorem dp_ex {c : Nat} {ρ : En} : dpO (.exc c) ρ = .exc c ρ := rfl
@[simp] theorem fr_ok {xs : List Dt} {t : Tg} {u : XS} {ρ : En} : frO (.ok xs) t u ρ = forD t u xs ρ := rfl
@[simp] theorem r1_exc {α β : Type} {f : α → Rz β} {c : Nat} : r1 f (.exc c) = .exc c := rfl
@[simp] theorem r2_exc {f : Sv → Sv → Rz Sv} {c : Nat} {b : Rz Sv} : r2 f (.exc c) b = .exc c := rfl
@[simp] theorem rC_exc {c : Nat} {b : Rz (List Sv)} : rC (.exc c) b = .exc c := rfl
@[simp] theorem od_rt {s : Sv} {ρ : En} : outD (.rt s ρ) = .ok s := rfl
@[simp] theorem od_nx {ρ : En} : outD (.nx ρ) = .ok (.p .non) := rfl
@[simp] theorem od_ex {c : Nat} {ρ : En} : outD (.exc c ρ) = .exc c := rfl
theorem run_1 {k : Nat} {s : XS} {a : Sv} : runD 1 k s [a] = outD (s (some (.v a) :: List.replicate (k - 1) none)) := rfl
theorem run_2 {k : Nat} {s : XS} {a b : Sv} : runD 2 k s [a, b] = outD (s (some (.v a) :: some (.v b) :: List.replicate (k - 2) none)) := rfl
theorem run_3 {k : Nat} {s : XS} {a b c : Sv} : runD 3 k s [a, b, c] = outD (s (some (.v a) :: some (.v b) :: some (.v c) :: List.replicate (k - 3) none)) := rfl
theorem run_4 {k : Nat} {s : XS} {a b c d : Sv} : runD 4 k s [a, b, c, d] = outD (s (some (.v a) :: some (.v b) :: some (.v c) :: some (.v d) :: List.replicate (k - 4) none)) := rfl
theorem run_5 {k : Nat} {s : XS} {a b c d e : Sv} : runD 5 k s [a, b, c, d, e] = outD (s (some (.v a) :: some (.v b) :: some (.v c) :: some (.v d) :: some (.v e) :: List.replicate (k - 5) none)) := rfl
@[simp] theorem chk_1 {m : List Sv → Rz Sv} {a : Sv} : chk 1 m [a] = m [a] := rfl
@[simp] theorem chk_2 {m : List Sv → Rz Sv} {a b : Sv} : chk 2 m [a, b] = m [a, b] := rfl
@[simp] theorem chk_3 {m : List Sv → Rz Sv} {a b c : Sv} : chk 3 m [a, b, c] = m [a, b, c] := rfl
@[simp] theorem chk_4 {m : List Sv → Rz Sv} {a b c d : Sv} : chk 4 m [a, b, c, d] = m [a, b, c, d] := rfl
@[simp] theorem chk_5 {m : List Sv → Rz Sv} {a b c d e : Sv} : chk 5 m [a, b, c, d, e] = m [a, b, c, d, e] := rfl
theorem nx_ok {m : List Sv → Rz Sv} {ss : List Sv} {s : Sv} (h : m ss = .ok s) : noX m ss = .ok s := by
  unfold noX
  rw [h]
/-! operations -/
@[simp] theorem op_add_i {i j : Int} : addD (.p (.int i)) (.p (.int j)) = .ok (.p (.int (i + j))) := rfl
theorem op_add_t {a b : List Dt} (h : a.length + b.length ≤ 1000000) : addD (.p (.tup a)) (.p (.tup b)) = .ok (.p (.tup (a ++ b))) := if_pos h
@[simp] theorem op_sub_i {i j : Int} : subD (.p (.int i)) (.p (.int j)) = .ok (.p (.int (i - j))) := rfl
theorem op_mul_i {i j : Int} (h : (-(2 ^ 64) < i ∧ i < 2 ^ 64) ∨ (-(2 ^ 64) < j ∧ j < 2 ^ 64)) : mulD (.p (.int i)) (.p (.int j)) = .ok (.p (.int (i * j))) := if_pos h
theorem op_mod_i {i j : Int} (h : j ≠ 0) : modD (.p (.int i)) (.p (.int j)) = .ok (.p (.int (i.fmod j))) := if_pos h
theorem op_div_i {i j : Int} (h : j ≠ 0 ∧ j.natAbs < 1073741824) : divD (.p (.int i)) (.p (.int j)) = .ok (.p (.int (i.fdiv j))) := if_pos h
theorem op_p60 : powD (.p (.int 10)) (.p (.int 60)) = .ok (.p (.int (10 ^ 60))) := by
  show (if (0 : Int) ≤ 60 ∧ (60 : Int) ≤ 1000000 ∧ (10 : Int).natAbs < 2 ^ 64 then Rz.ok (Sv.p (.int ((10 : Int) ^ (60 : Int).toNat))) else .stuck) = _
  rw [if_pos (by decide)]
  rfl
@[simp] theorem op_neg_i {i : Int} : negD (.p (.int i)) = .ok (.p (.int (-i))) := rfl
@[simp] theorem op_lt_i {i j : Int} : ltD (.p (.int i)) (.p (.int j)) = .ok (.p (.bl (decide (i < j)))) := rfl
@[simp] theorem op_cmp_i {f : Int → Int → Bool} {i j : Int} : cmpD f (.p (.int i)) (.p (.int j)) = .ok (.p (.bl (f i j))) := rfl
@[simp] theorem op_blB {b : Bool} : blB (.p (.bl b)) = .ok b := rfl
@[simp] theorem op_isN0 : isND (.p .non) (.p .non) = .ok (.p (.bl true)) := rfl
@[simp] theorem op_isN1 {i : Int} : isND (.p (.int i)) (.p .non) = .ok (.p (.bl false)) := rfl
@[simp] theorem op_isN2 {l : List Dt} : isND (.p (.tup l)) (.p .non) = .ok (.p (.bl false)) := rfl
@[simp] theorem op_isN3 {s : Str} : isND (.p (.str s)) (.p .non) = .ok (.p (.bl false)) := rfl
@[simp] theorem op_isN4 {b : Bool} : isND (.p (.bl b)) (.p .non) = .ok (.p (.bl false)) := rfl
@[simp] theorem op_len_t {l : List Dt} : lenD [.p (.tup l)] = .ok (.p (.int l.length)) := rfl
@[simp] theorem op_len_l {l : List Dt} : lenD [.l l] = .ok (.p (.int l.length)) := rfl
@[simp] theorem op_int_i {i : Int} : intD [.p (.int i)] = .ok (.p (.int i)) := rfl
@[simp] theorem op_int_t : intD [.p (.bl true)] = .ok (.p (.int 1)) := rfl
@[simp] theorem op_int_f : intD [.p (.bl false)] = .ok (.p (.int 0)) := rfl
@[simp] theorem op_max {i j : Int} : maxD [.p (.int i), .p (.int j)] = .ok (.p (.int (if j > i then j else i))) := rfl
@[simp] theorem op_tup_t {l : List Dt} : tupleD [.p (.tup l)] = .ok (.p (.tup l)) := rfl
@[simp] theorem op_tup_l {l : List Dt} : tupleD [.l l] = .ok (.p (.tup l)) := rfl
@[simp] theorem op_lst_t {l : List Dt} : listD [.p (.tup l)] = .ok (.l l) := rfl
@[simp] theorem op_lst_l {l : List Dt} : listD [.l l] = .ok (.l l) := rfl
@[simp] theorem t0 : tupD [] = .ok (.p (.tup [])) := rfl
@[simp] theorem t1 {a : Dt} : tupD [.p a] = .ok (.p (.tup [a])) := rfl
@[simp] theorem t2 {a b : Dt} : tupD [.p a, .p b] = .ok (.p (.tup [a, b])) := rfl
@[simp] theorem t3 {a b c : Dt} : tupD [.p a, .p b, .p c] = .ok (.p (.tup [a, b, c])) := rfl
@[simp] theorem t4 {a b c d : Dt} : tupD [.p a, .p b, .p c, .p d] = .ok (.p (.tup [a, b, c, d])) := rfl
@[simp] theorem l0 : lstD [] = .ok (.l []) := rfl
@[simp] theorem l1 {a : Dt} : lstD [.p a] = .ok (.l [a]) := rfl
@[simp] theorem l2 {a b : Dt} : lstD [.p a, .p b] = .ok (.l [a, b]) := rfl
@[simp] theorem l3 {a b c : Dt} : lstD [.p a, .p b, .p c] = .ok (.l [a, b, c]) := rfl
@[simp] theorem l4 {a b c d : Dt} : lstD [.p a, .p b, .p c, .p d] = .ok (.l [a, b, c, d]) := rfl
@[simp] theorem is_tt {l : List Dt} : isD "tuple" (.p (.tup l)) = .ok (.p (.bl true)) := rfl
@[simp] theorem is_tn : isD "tuple" (.p .non) = .ok (.p (.bl false)) := rfl
@[simp] theorem is_ti {i : Int} : isD "tuple" (.p (.int i)) = .ok (.p (.bl false)) := rfl
@[simp] theorem is_ts {s : Str} : isD "tuple" (.p (.str s)) = .ok (.p (.bl false)) := rfl
@[simp] theorem is_tb {s : Bool} : isD "tuple" (.p (.bl s)) = .ok (.p (.bl false)) := rfl
@[simp] theorem is_tl {l : List Dt} : isD "tuple" (.l l) = .ok (.p (.bl false)) := rfl
@[simp] theorem is_ii {i : Int} : isD "int" (.p (.int i)) = .ok (.p (.bl true)) := rfl
@[simp] theorem is_in : isD "int" (.p .non) = .ok (.p (.bl false)) := rfl
@[simp] theorem is_it {l : List Dt} : isD "int" (.p (.tup l)) = .ok (.p (.bl false)) := rfl
@[simp] theorem is_ib {b : Bool} : isD "int" (.p (.bl b)) = .ok (.p (.bl true)) := rfl
@[simp] theorem is_is {s : Str} : isD "int" (.p (.str s)) = .ok (.p (.bl false)) := rfl
@[simp] theorem is_bi {i : Int} : isD "bool" (.p (.int i)) = .ok (.p (.bl false)) := rfl
@[simp] theorem is_bb {i : Bool} : isD "bool" (.p (.bl i)) = .ok (.p (.bl true)) := rfl
@[simp] theorem is_bn : isD "bool" (.p .non) = .ok (.p (.bl false)) := rfl
@[simp] theorem is_bt {l : List Dt} : isD "bool" (.p (.tup l)) = .ok (.p (.bl false)) := rfl
@[simp] theorem is_bs {s : Str} : isD "bool" (.p (.str s)) = .ok (.p (.bl false)) := rfl
@[simp] theorem is_ss {s : Str} : isD "str" (.p (.str s)) = .ok (.p (.bl true)) := rfl
@[simp] theorem is_si {i : Int} : isD "str" (.p (.int i)) = .ok (.p (.bl false)) := rfl
@[simp] theorem is_sn : isD "str" (.p .non) = .ok (.p (.bl false)) := rfl
@[simp] theorem is_st {l : List Dt} : isD "str" (.p (.tup l)) = .ok (.p (.bl false)) := rfl
@[simp] theorem is_sb {b : Bool} : isD "str" (.p (.bl b)) = .ok (.p (.bl false)) := rfl
/-! places -/
theorem atI_pos {α : Type} {l : List α} {i : Int} (h : 0 ≤ i) : atI l i = l[i.toNat]? := by
  unfold atI ixN
  rw [if_pos h]
  by_cases h2 : i < l.length
  · rw [if_pos h2]
    rfl
  · rw [if_neg h2]
    rw [List.getElem?_eq_none (by omega)]
    rfl
theorem ix_t {l : List Dt} {i : Int} {x : Dt} (h0 : 0 ≤ i) (h : l[i.toNat]? = some x) : ixD (.p (.tup l)) (.p (.int i)) = .ok (.p x) := by
  unfold ixD
  simp only [atI_pos h0, h]
theorem ix_l {l : List Dt} {i : Int} {x : Dt} (h0 : 0 ≤ i) (h : l[i.toNat]? = some x) : ixD (.l l) (.p (.int i)) = .ok (.p x) := by
  unfold ixD
  simp only [atI_pos h0, h]
theorem ix_tn {l : List Dt} {i : Nat} {x : Dt} (h : l[i]? = some x) : ixD (.p (.tup l)) (.p (.int i)) = .ok (.p x) := ix_t (by omega) (by simpa using h)
theorem ix_ln {l : List Dt} {i : Nat} {x : Dt} (h : l[i]? = some x) : ixD (.l l) (.p (.int i)) = .ok (.p x) := ix_l (by omega) (by simpa using h)
@[simp] theorem ix_t0 {a : Dt} {l : List Dt} : ixD (.p (.tup (a :: l))) (.p (.int 0)) = .ok (.p a) := ix_t (by decide) rfl
@[simp] theorem ix_t1 {a b : Dt} {l : List Dt} : ixD (.p (.tup (a :: b :: l))) (.p (.int 1)) = .ok (.p b) := ix_t (by decide) rfl
@[simp] theorem ix_t2 {a b c : Dt} {l : List Dt} : ixD (.p (.tup (a :: b :: c :: l))) (.p (.int 2)) = .ok (.p c) := ix_t (by decide) rfl
@[simp] theorem ix_t3 {a b c d : Dt} {l : List Dt} : ixD (.p (.tup (a :: b :: c :: d :: l))) (.p (.int 3)) = .ok (.p d) := ix_t (by decide) rfl
@[simp] theorem ix_l0 {a : Dt} {l : List Dt} : ixD (.l (a :: l)) (.p (.int 0)) = .ok (.p a) := ix_l (by decide) rfl
@[simp] theorem ix_l1 {a b : Dt} {l : List Dt} : ixD (.l (a :: b :: l)) (.p (.int 1)) = .ok (.p b) := ix_l (by decide) rfl
@[simp] theorem ix_l2 {a b c : Dt} {l : List Dt} : ixD (.l (a :: b :: c :: l)) (.p (.int 2)) = .ok (.p c) := ix_l (by decide) rfl
@[simp] theorem ix_l3 {a b c d : Dt} {l : List Dt} : ixD (.l (a :: b :: c :: d :: l)) (.p (.int 3)) = .ok (.p d) := ix_l (by decide) rfl
/-! slots -/
theorem sv_0 {x : Dt} {a : Option Sl} {r : En} : setV 0 x (a :: r) = some (.v (.p x)) :: r := rfl
theorem sv_S {i : Nat} {x : Dt} {a : Option Sl} {r : En} : setV (i + 1) x (a :: r) = a :: setV i x r := rfl
end Fw

namespace Kp
open PySem L2 Fw
def isb_NoThing (n : Nat) : Bool := n == 0
def isb_NoField (n : Nat) : Bool := n == 1
def isb_NoRoot (n : Nat) : Bool := n == 2
def m_law_whole : List Sv → Rz Sv := runD 1 1
    (sRet (xV (xAnd (xTst blB (xU (isD "int") (xVar 0))) (xTst blB (xV (xNot (xTst blB (xU (isD "bool") (xVar 0)))))))))
def m_law_alike : List Sv → Rz Sv := runD 2 2
    (sSeq (sIf (xTst blB (xB isND (xVar 1) (xC .non))) (sRet (xB isND (xVar 0) (xC .non))) sNil)
    (sSeq (sIf (xNot (xTst blB (xU (isD "tuple") (xVar 1)))) (sRet (xV (xAnd (xTst blB (xL (chk 1 m_law_whole) (xCons (xVar 0) xNil))) (xTst blB (xB eqD (xVar 0) (xVar 1)))))) sNil)
    (sSeq (sIf (xOr (xNot (xTst blB (xU (isD "tuple") (xVar 0)))) (xOr (xTst blB (xB neD (xL lenD (xCons (xVar 0) xNil)) (xC (.int 2)))) (xNot (xTst blB (xU (isD "str") (xB ixD (xVar 0) (xC (.int 0)))))))) (sRet (xC (.bl false))) sNil)
    (sRet (xV (xAnd (xTst blB (xL (chk 1 m_law_whole) (xCons (xB ixD (xVar 0) (xC (.int 1))) xNil))) (xTst blB (xB eqD (xVar 0) (xVar 1)))))))))
def m_law_book_alike : List Sv → Rz Sv := runD 2 3
    (sSeq (sIf (xOr (xNot (xTst blB (xU (isD "tuple") (xVar 0)))) (xTst blB (xB neD (xL lenD (xCons (xVar 0) xNil)) (xL lenD (xCons (xVar 1) xNil))))) (sRet (xC (.bl false))) sNil)
    (sSeq (sFor (srcR1 (xL lenD (xCons (xVar 1) xNil))) (tgN 2) (sSeq (sIf (xOr (xNot (xTst blB (xU (isD "tuple") (xB ixD (xVar 0) (xVar 2))))) (xTst blB (xB neD (xL lenD (xCons (xB ixD (xVar 0) (xVar 2)) xNil)) (xC (.int 2))))) (sRet (xC (.bl false))) sNil)
    (sSeq (sIf (xOr (xNot (xTst blB (xL (chk 1 m_law_whole) (xCons (xB ixD (xB ixD (xVar 0) (xVar 2)) (xC (.int 0))) xNil)))) (xNot (xTst blB (xL (chk 1 m_law_whole) (xCons (xB ixD (xB ixD (xVar 0) (xVar 2)) (xC (.int 1))) xNil))))) (sRet (xC (.bl false))) sNil)
    (sIf (xTst blB (xB neD (xB ixD (xVar 0) (xVar 2)) (xB ixD (xVar 1) (xVar 2)))) (sRet (xC (.bl false))) sNil))))
    (sRet (xC (.bl true)))))
def m_law_book_of : List Sv → Rz Sv := runD 1 5
    (sSeq (sNew true 1 (xL lstD xNil))
    (sSeq (sFor (srcR1 (xL lenD (xCons (xVar 0) xNil))) (tgN 2) (sFor (srcR1 (xL lenD (xCons (xB ixD (xB ixD (xVar 0) (xVar 2)) (xC (.int 1))) xNil))) (tgN 3) (sSeq (sAsg 4 (xB ixD (xB ixD (xB ixD (xVar 0) (xVar 2)) (xC (.int 1))) (xVar 3)))
    (sIf (xAnd (xTst blB (xU (isD "tuple") (xVar 4))) (xTst blB (xB eqD (xB ixD (xVar 4) (xC (.int 0))) (xC (.str "young"))))) (sApp 1 (xL tupD (xCons (xVar 2) (xCons (xVar 3) xNil)))) sNil))))
    (sRet (xL tupleD (xCons (xVar 1) xNil)))))
def m_law_cell_at : List Sv → Rz Sv := runD 2 2
    (sSeq (sIf (xTst blB (xB ltD (xVar 1) (xL lenD (xCons (xVar 0) xNil)))) (sRet (xB ixD (xVar 0) (xVar 1))) sNil)
    (sRet (xC (.int 0))))
def m_law_next : List Sv → Rz Sv := runD 3 5
    (sSeq (sAsg 3 (xB ixD (xL lstD (xCons (xC (.str "young")) (xCons (xC (.str "old")) xNil))) (xL intD (xCons (xB eqD (xVar 0) (xC (.str "young"))) xNil))))
    (sSeq (sAsg 4 (xB ixD (xL lstD (xCons (xVar 1) (xCons (xB addD (xVar 1) (xC (.int 1))) xNil))) (xL intD (xCons (xB eqD (xVar 0) (xC (.str "old"))) xNil))))
    (sSeq (sIf (xTst blB (xB ltD (xVar 4) (xB ixD (xVar 2) (xL intD (xCons (xB eqD (xVar 3) (xC (.str "old"))) xNil))))) (sRet (xL tupD (xCons (xVar 3) (xCons (xVar 4) xNil)))) sNil)
    (sSeq (sIf (xTst blB (xB ltD (xB addD (xVar 1) (xC (.int 1))) (xB ixD (xVar 2) (xL intD (xCons (xB eqD (xVar 0) (xC (.str "old"))) xNil))))) (sRet (xL tupD (xCons (xVar 0) (xCons (xB addD (xVar 1) (xC (.int 1))) xNil)))) sNil)
    (sRet (xC (.int 7)))))))
def m_law_chained : List Sv → Rz Sv := runD 3 5
    (sSeq (sNew true 3 (xL lstD xNil))
    (sSeq (sFor (srcR1 (xL lenD (xCons (xVar 0) xNil))) (tgN 4) (sApp 3 (xL tupD (xCons (xB ixD (xB ixD (xVar 0) (xVar 4)) (xC (.int 0))) (xCons (xB addD (xB ixD (xB ixD (xVar 0) (xVar 4)) (xC (.int 1))) (xL tupD (xCons (xL (chk 3 m_law_next) (xCons (xVar 1) (xCons (xVar 4) (xCons (xVar 2) xNil)))) xNil))) xNil)))))
    (sRet (xL tupleD (xCons (xVar 3) xNil)))))
def m_law_fields : List Sv → Rz Sv := runD 2 2
    (sSeq (sIf (xTst blB (xB eqD (xB ixD (xVar 1) (xC (.int 0))) (xC (.str "young")))) (sRet (xB ixD (xB ixD (xB ixD (xVar 0) (xC (.int 0))) (xB ixD (xVar 1) (xC (.int 1)))) (xC (.int 1)))) sNil)
    (sRet (xB ixD (xB ixD (xB ixD (xVar 0) (xC (.int 1))) (xB ixD (xVar 1) (xC (.int 1)))) (xC (.int 1)))))
def m_law_row_alike : List Sv → Rz Sv := runD 2 3
    (sSeq (sIf (xOr (xNot (xTst blB (xU (isD "tuple") (xVar 0)))) (xTst blB (xB neD (xL lenD (xCons (xVar 0) xNil)) (xL lenD (xCons (xVar 1) xNil))))) (sRet (xC (.bl false))) sNil)
    (sSeq (sFor (srcR1 (xL lenD (xCons (xVar 1) xNil))) (tgN 2) (sIf (xNot (xTst blB (xL (chk 2 m_law_alike) (xCons (xB ixD (xVar 0) (xVar 2)) (xCons (xB ixD (xVar 1) (xVar 2)) xNil))))) (sRet (xC (.bl false))) sNil))
    (sRet (xC (.bl true)))))
def m_law_half_alike : List Sv → Rz Sv := runD 2 3
    (sSeq (sIf (xOr (xNot (xTst blB (xU (isD "tuple") (xVar 0)))) (xTst blB (xB neD (xL lenD (xCons (xVar 0) xNil)) (xL lenD (xCons (xVar 1) xNil))))) (sRet (xC (.bl false))) sNil)
    (sSeq (sFor (srcR1 (xL lenD (xCons (xVar 1) xNil))) (tgN 2) (sSeq (sIf (xOr (xNot (xTst blB (xU (isD "tuple") (xB ixD (xVar 0) (xVar 2))))) (xTst blB (xB neD (xL lenD (xCons (xB ixD (xVar 0) (xVar 2)) xNil)) (xC (.int 2))))) (sRet (xC (.bl false))) sNil)
    (sSeq (sIf (xOr (xNot (xTst blB (xL (chk 1 m_law_whole) (xCons (xB ixD (xB ixD (xVar 0) (xVar 2)) (xC (.int 0))) xNil)))) (xTst blB (xB neD (xB ixD (xB ixD (xVar 0) (xVar 2)) (xC (.int 0))) (xB ixD (xB ixD (xVar 1) (xVar 2)) (xC (.int 0)))))) (sRet (xC (.bl false))) sNil)
    (sIf (xNot (xTst blB (xL (chk 2 m_law_row_alike) (xCons (xB ixD (xB ixD (xVar 0) (xVar 2)) (xC (.int 1))) (xCons (xB ixD (xB ixD (xVar 1) (xVar 2)) (xC (.int 1))) xNil))))) (sRet (xC (.bl false))) sNil))))
    (sRet (xC (.bl true)))))
def m_law_heap_alike : List Sv → Rz Sv := runD 2 2
    (sSeq (sIf (xOr (xNot (xTst blB (xU (isD "tuple") (xVar 0)))) (xTst blB (xB neD (xL lenD (xCons (xVar 0) xNil)) (xC (.int 4))))) (sRet (xC (.bl false))) sNil)
    (sSeq (sIf (xOr (xNot (xTst blB (xL (chk 2 m_law_half_alike) (xCons (xB ixD (xVar 0) (xC (.int 0))) (xCons (xB ixD (xVar 1) (xC (.int 0))) xNil))))) (xNot (xTst blB (xL (chk 2 m_law_half_alike) (xCons (xB ixD (xVar 0) (xC (.int 1))) (xCons (xB ixD (xVar 1) (xC (.int 1))) xNil)))))) (sRet (xC (.bl false))) sNil)
    (sRet (xV (xAnd (xTst blB (xL (chk 2 m_law_row_alike) (xCons (xB ixD (xVar 0) (xC (.int 2))) (xCons (xB ixD (xVar 1) (xC (.int 2))) xNil)))) (xTst blB (xL (chk 2 m_law_book_alike) (xCons (xB ixD (xVar 0) (xC (.int 3))) (xCons (xB ixD (xVar 1) (xC (.int 3))) xNil)))))))))
def m_law_mixed : List Sv → Rz Sv := runD 2 3
    (sSeq (sAsg 2 (xC (.int 0)))
    (sSeq (sIf (xTst blB (xB (cmpD fun i j => decide (j < i)) (xL lenD (xCons (xVar 0) xNil)) (xC (.int 0)))) (sAsg 2 (xB ixD (xVar 0) (xB modD (xVar 1) (xL lenD (xCons (xVar 0) xNil))))) sNil)
    (sRet (xB modD (xB mulD (xB addD (xVar 2) (xB mulD (xC (.int 7919)) (xVar 1))) (xC (.int 48271))) (xC (.int 2147483647))))))
def m_law_value_by : List Sv → Rz Sv := runD 3 5
    (sSeq (sAsg 3 (xL (chk 2 m_law_mixed) (xCons (xVar 0) (xCons (xVar 1) xNil))))
    (sSeq (sAsg 4 (xB divD (xVar 3) (xC (.int 8))))
    (sSeq (sIf (xTst blB (xB eqD (xB modD (xVar 3) (xC (.int 8))) (xC (.int 0)))) (sRet (xC .non)) sNil)
    (sSeq (sIf (xTst blB (xB eqD (xB modD (xVar 3) (xC (.int 8))) (xC (.int 1)))) (sRet (xB mulD (xB modD (xL (chk 2 m_law_cell_at) (xCons (xVar 0) (xCons (xB modD (xVar 1) (xL maxD (xCons (xC (.int 1)) (xCons (xL lenD (xCons (xVar 0) xNil)) xNil)))) xNil))) (xB powD (xC (.int 10)) (xC (.int 60)))) (xB ixD (xL lstD (xCons (xC (.int 1)) (xCons (xU negD (xC (.int 1))) xNil))) (xB modD (xVar 4) (xC (.int 2)))))) sNil)
    (sSeq (sIf (xAnd (xTst blB (xB ltD (xB modD (xVar 3) (xC (.int 8))) (xC (.int 6)))) (xTst blB (xB (cmpD fun i j => decide (j < i)) (xB ixD (xVar 2) (xC (.int 0))) (xC (.int 0))))) (sRet (xL tupD (xCons (xC (.str "young")) (xCons (xB modD (xVar 4) (xB ixD (xVar 2) (xC (.int 0)))) xNil)))) sNil)
    (sSeq (sIf (xAnd (xTst blB (xB (cmpD fun i j => decide (j < i)) (xB modD (xVar 3) (xC (.int 8))) (xC (.int 4)))) (xTst blB (xB (cmpD fun i j => decide (j < i)) (xB ixD (xVar 2) (xC (.int 1))) (xC (.int 0))))) (sRet (xL tupD (xCons (xC (.str "old")) (xCons (xB modD (xVar 4) (xB ixD (xVar 2) (xC (.int 1)))) xNil)))) sNil)
    (sRet (xB subD (xB modD (xVar 4) (xC (.int 7))) (xC (.int 3))))))))))
def m_law_thing_by : List Sv → Rz Sv := runD 3 7
    (sSeq (sAsg 3 (xL (chk 2 m_law_mixed) (xCons (xVar 0) (xCons (xVar 1) xNil))))
    (sSeq (sAsg 4 (xB modD (xVar 3) (xC (.int 4))))
    (sSeq (sIf (xTst blB (xB eqD (xB modD (xB divD (xVar 3) (xC (.int 4))) (xC (.int 32))) (xC (.int 3)))) (sAsg 4 (xB modD (xB divD (xVar 3) (xC (.int 128))) (xC (.int 100)))) sNil)
    (sSeq (sAsg 5 (xB modD (xB divD (xVar 3) (xC (.int 12800))) (xC (.int 4))))
    (sSeq (sIf (xTst blB (xB eqD (xB modD (xB divD (xVar 3) (xC (.int 51200))) (xC (.int 8))) (xC (.int 1)))) (sAsg 5 (xB modD (xL (chk 2 m_law_cell_at) (xCons (xVar 0) (xCons (xB modD (xVar 1) (xL maxD (xCons (xC (.int 1)) (xCons (xL lenD (xCons (xVar 0) xNil)) xNil)))) xNil))) (xB powD (xC (.int 10)) (xC (.int 60))))) sNil)
    (sRet (xL tupD (xCons (xVar 5) (xCons (xL tupleD (xCons (xLc (srcR1 (xVar 4)) (tgN 6) tYesD (xL (chk 3 (noX m_law_value_by)) (xCons (xVar 0) (xCons (xB addD (xB addD (xVar 1) (xC (.int 1))) (xVar 6)) (xCons (xVar 2) xNil)))) [6]) xNil)) xNil)))))))))
def m_law_heap_by : List Sv → Rz Sv := runD 1 6
    (sSeq (sNew true 1 (xL lstD (xCons (xB modD (xL (chk 2 m_law_cell_at) (xCons (xVar 0) (xCons (xC (.int 0)) xNil))) (xC (.int 6))) (xCons (xB modD (xL (chk 2 m_law_cell_at) (xCons (xVar 0) (xCons (xC (.int 1)) xNil))) (xC (.int 6))) (xCons (xB modD (xL (chk 2 m_law_cell_at) (xCons (xVar 0) (xCons (xC (.int 2)) xNil))) (xC (.int 5))) xNil)))))
    (sSeq (sFor (srcR1 (xC (.int 3))) (tgN 2) (sIf (xTst blB (xB eqD (xB modD (xB divD (xL (chk 2 m_law_cell_at) (xCons (xVar 0) (xCons (xVar 2) xNil))) (xC (.int 6))) (xC (.int 6))) (xC (.int 1)))) (sSetL 1 (xVar 2) (xB modD (xB modD (xB mulD (xL (chk 2 m_law_cell_at) (xCons (xVar 0) (xCons (xVar 2) xNil))) (xC (.int 48271))) (xC (.int 2147483647))) (xC (.int 71)))) sNil))
    (sSeq (sAsg 3 (xL tupleD (xCons (xLc (srcR1 (xB ixD (xVar 1) (xC (.int 0)))) (tgN 2) tYesD (xL (chk 3 (noX m_law_thing_by)) (xCons (xVar 0) (xCons (xB mulD (xC (.int 100)) (xVar 2)) (xCons (xVar 1) xNil)))) [2]) xNil)))
    (sSeq (sAsg 4 (xL tupleD (xCons (xLc (srcR1 (xB ixD (xVar 1) (xC (.int 1)))) (tgN 2) tYesD (xL (chk 3 (noX m_law_thing_by)) (xCons (xVar 0) (xCons (xB addD (xC (.int 10000)) (xB mulD (xC (.int 100)) (xVar 2))) (xCons (xVar 1) xNil)))) [2]) xNil)))
    (sSeq (sAsg 5 (xL tupleD (xCons (xLc (srcR1 (xB ixD (xVar 1) (xC (.int 2)))) (tgN 2) tYesD (xL (chk 3 (noX m_law_value_by)) (xCons (xVar 0) (xCons (xB addD (xC (.int 20000)) (xVar 2)) (xCons (xVar 1) xNil)))) [2]) xNil)))
    (sSeq (sIf (xOr (xTst blB (xB eqD (xB modD (xB divD (xL (chk 2 m_law_cell_at) (xCons (xVar 0) (xCons (xC (.int 2)) xNil))) (xC (.int 2556))) (xC (.int 8))) (xC (.int 1)))) (xTst blB (xB eqD (xB modD (xL (chk 2 m_law_cell_at) (xCons (xVar 0) (xCons (xC (.int 2)) xNil))) (xC (.int 11))) (xC (.int 3))))) (sSeq (sAsg 3 (xL (chk 3 m_law_chained) (xCons (xVar 3) (xCons (xC (.str "young")) (xCons (xVar 1) xNil)))))
    (sSeq (sAsg 4 (xL (chk 3 m_law_chained) (xCons (xVar 4) (xCons (xC (.str "old")) (xCons (xVar 1) xNil)))))
    (sIf (xTst blB (xB (cmpD fun i j => decide (j < i)) (xB ixD (xVar 1) (xC (.int 0))) (xC (.int 0)))) (sAsg 5 (xB addD (xL tupD (xCons (xL tupD (xCons (xC (.str "young")) (xCons (xC (.int 0)) xNil))) xNil)) (xSl slD (xVar 5) (oAt (xC (.int 1))) oNo))) sNil))) sNil)
    (sRet (xL tupD (xCons (xVar 3) (xCons (xVar 4) (xCons (xVar 5) (xCons (xL (chk 1 m_law_book_of) (xCons (xVar 4) xNil)) xNil))))))))))))
def m_law_leads : List Sv → Rz Sv := runD 2 3
    (sSeq (sAsg 2 (xB ixD (xVar 0) (xC (.int 0))))
    (sSeq (sIf (xTst blB (xB eqD (xB ixD (xVar 1) (xC (.int 0))) (xC (.str "old")))) (sAsg 2 (xB ixD (xVar 0) (xC (.int 1)))) sNil)
    (sRet (xV (xAnd (xTst blB (xB (cmpD fun i j => decide (i ≤ j)) (xC (.int 0)) (xB ixD (xVar 1) (xC (.int 1))))) (xTst blB (xB ltD (xB ixD (xVar 1) (xC (.int 1))) (xL lenD (xCons (xVar 2) xNil)))))))))
def m_law_long_by : List Sv → Rz Sv := runD 2 4
    (sSeq (sAsg 2 (xL tupleD (xCons (xB catD (xLc (srcR1 (xB subD (xVar 0) (xC (.int 1)))) (tgN 3) tYesD (xL tupD (xCons (xVar 1) (xCons (xL tupD (xCons (xL tupD (xCons (xC (.str "young")) (xCons (xB addD (xVar 3) (xC (.int 1))) xNil))) xNil)) xNil))) [3]) (xL lstD (xCons (xL tupD (xCons (xVar 1) (xCons (xL tupD (xCons (xC .non) xNil)) xNil))) xNil))) xNil)))
    (sRet (xL tupD (xCons (xVar 2) (xCons (xL tupD xNil) (xCons (xL tupD (xCons (xC .non) (xCons (xL tupD (xCons (xC (.str "young")) (xCons (xC (.int 0)) xNil))) xNil))) (xCons (xL tupD xNil) xNil)))))))
def m_law_matched : List Sv → Rz (Sv × List Sv) := runM 5 5 [2, 3, 4]
    (sSeq (sIf (xNot (xTst blB (xU (isD "tuple") (xVar 0)))) (sRetF (xL (chk 2 m_law_alike) (xCons (xVar 1) (xCons (xVar 0) xNil)))) sNil)
    (sSeq (sIf (xTst blB (xB (dinD false) (xVar 0) (xVar 2))) (sRetF (xL (chk 2 m_law_alike) (xCons (xVar 1) (xCons (xB dixD (xVar 2) (xVar 0)) xNil)))) sNil)
    (sSeq (sIf (xOr (xNot (xTst blB (xU (isD "tuple") (xVar 1)))) (xOr (xTst blB (xB neD (xL lenD (xCons (xVar 1) xNil)) (xC (.int 2)))) (xOr (xNot (xTst blB (xU (isD "str") (xB ixD (xVar 1) (xC (.int 0)))))) (xNot (xTst blB (xL (chk 1 m_law_whole) (xCons (xB ixD (xVar 1) (xC (.int 1))) xNil))))))) (sRet (xC (.bl false))) sNil)
    (sSeq (sIf (xOr (xTst blB (xB ninD (xB ixD (xVar 1) (xC (.int 0))) (xL lstD (xCons (xC (.str "young")) (xCons (xC (.str "old")) xNil))))) (xTst blB (xB (dinD false) (xVar 1) (xVar 3)))) (sRet (xC (.bl false))) sNil)
    (sSeq (sDput 2 (xVar 0) (xVar 1))
    (sSeq (sDput 3 (xVar 1) (xC (.bl true)))
    (sSeq (sApp 4 (xVar 0))
    (sRet (xC (.bl true))))))))))
def m_law_pointer_by : List Sv → Rz Sv := runD 3 6
    (sSeq (sAsg 3 (xB modD (xVar 0) (xC (.int 9))))
    (sSeq (sIf (xTst blB (xB eqD (xVar 3) (xC (.int 0)))) (sRet (xC .non)) sNil)
    (sSeq (sIf (xTst blB (xB eqD (xVar 3) (xC (.int 1)))) (sRet (xB subD (xB modD (xB divD (xVar 0) (xC (.int 9))) (xC (.int 5))) (xC (.int 1)))) sNil)
    (sSeq (sAsg 4 (xB ixD (xVar 1) (xB modD (xVar 3) (xC (.int 2)))))
    (sSeq (sAsg 5 (xB subD (xB modD (xB divD (xVar 0) (xC (.int 9))) (xB addD (xL lenD (xCons (xVar 4) xNil)) (xC (.int 4)))) (xC (.int 2))))
    (sSeq (sIf (xTst blB (xB eqD (xVar 5) (xB addD (xL lenD (xCons (xVar 4) xNil)) (xC (.int 1))))) (sAsg 5 (xB ixD (xL lstD (xCons (xVar 2) (xCons (xB subD (xU negD (xC (.int 1))) (xVar 2)) xNil))) (xB modD (xB divD (xB divD (xVar 0) (xC (.int 9))) (xB addD (xL lenD (xCons (xVar 4) xNil)) (xC (.int 4)))) (xC (.int 2))))) sNil)
    (sRet (xL tupD (xCons (xB ixD (xL lstD (xCons (xC (.str "young")) (xCons (xC (.str "old")) xNil))) (xB modD (xVar 3) (xC (.int 2)))) (xCons (xVar 5) xNil))))))))))
def m_law_right : List Sv → Rz Sv := runD 1 4
    (sSeq (sIf (xOr (xNot (xTst blB (xU (isD "tuple") (xVar 0)))) (xTst blB (xB neD (xL lenD (xCons (xVar 0) xNil)) (xC (.int 4))))) (sRet (xC (.bl false))) sNil)
    (sSeq (sFor (srcV 0) (tgN 1) (sIf (xNot (xTst blB (xU (isD "tuple") (xVar 1)))) (sRet (xC (.bl false))) sNil))
    (sSeq (sFor (srcL (xL lstD (xCons (xB ixD (xVar 0) (xC (.int 0))) (xCons (xB ixD (xVar 0) (xC (.int 1))) xNil)))) (tgN 2) (sFor (srcV 2) (tgN 3) (sSeq (sIf (xOr (xNot (xTst blB (xU (isD "tuple") (xVar 3)))) (xTst blB (xB neD (xL lenD (xCons (xVar 3) xNil)) (xC (.int 2))))) (sRet (xC (.bl false))) sNil)
    (sIf (xOr (xNot (xTst blB (xL (chk 1 m_law_whole) (xCons (xB ixD (xVar 3) (xC (.int 0))) xNil)))) (xNot (xTst blB (xU (isD "tuple") (xB ixD (xVar 3) (xC (.int 1))))))) (sRet (xC (.bl false))) sNil))))
    (sRet (xC (.bl true))))))
def mled : List Sv → Rz Sv := runD 2 3
    (sSeq (sIf (xNot (xTst lstB (xVar 1))) (sRet (xVar 0)) sNil)
    (sRet (xL tupleD (xCons (xLc (srcV 0) (tgN 2) tYesD (xGet (xVar 1) (xVar 2) (xVar 2)) [2]) xNil))))
def mcarried : List Sv → Rz Sv := runD 4 5
    (sRet (xL tupleD (xCons (xLc (srcV 1) (tgN 4) tYesD (xL tupD (xCons (xB addD (xB ixD (xB ixD (xVar 0) (xVar 4)) (xC (.int 0))) (xVar 3)) (xCons (xL (chk 2 (noX mled)) (xCons (xB ixD (xB ixD (xVar 0) (xVar 4)) (xC (.int 1))) (xCons (xVar 2) xNil))) xNil))) [4]) xNil)))
def mfresh : List Sv → Rz (Sv × List Sv) := runM 2 4 [1]
    (sSeq (sNew true 2 (xL lstD xNil))
    (sSeq (sFor (srcV 0) (tgN 3) (sIf (xAnd (xTst blB (xB (dinD true) (xVar 3) (xVar 1))) (xTst blB (xU (isD "tuple") (xVar 3)))) (sSeq (sDput 1 (xVar 3) (xC (.bl true)))
    (sApp 2 (xVar 3))) sNil))
    (sRetO 2)))
def mpoints_young : List Sv → Rz Sv := runD 1 1
    (sRet (xV (xAnd (xTst blB (xU (isD "tuple") (xVar 0))) (xTst blB (xB eqD (xB ixD (xVar 0) (xC (.int 0))) (xC (.str "young")))))))
def mhalf_of : List Sv → Rz Sv := runD 2 6
    (sSeq (sUnp [2, 3, 4, 5] (xVar 0))
    (sRet (xIf (xTst blB (xL (chk 1 mpoints_young) (xCons (xVar 1) xNil))) (xVar 2) (xVar 3))))
def mthing_at : List Sv → Rz Sv := runD 2 2
    (sRet (xB ixD (xL (chk 2 mhalf_of) (xCons (xVar 0) (xCons (xVar 1) xNil))) (xB ixD (xVar 1) (xC (.int 1)))))
def mmet : List Sv → Rz Sv := runD 1 10
    (sSeq (sUnp [4, 5, 6, 7] (xVar 0))
    (sSeq (sNew true 1 xDnew)
    (sSeq (sNewM true 2 (xCallM [] 2 [1] [1] mfresh [.d (xVar 6), .s 1]))
    (sSeq (sAsg 3 (xC (.int 0)))
    (sSeq (sWhile (xTst blB (xB ltD (xVar 3) (xL lenD (xCons (xVar 2) xNil)))) (sSeq (sUnp [8, 9] (xL (chk 2 mthing_at) (xCons (xVar 0) (xCons (xB ixD (xVar 2) (xVar 3)) xNil))))
    (sSeq (sExtM 2 (xCallM [] 2 [1] [1] mfresh [.d (xVar 9), .s 1]))
    (sAug 3 (xC (.int 1))))))
    (sRetO 2))))))
def mplaces_in : List Sv → Rz Sv := runD 2 4
    (sRet (xL tupleD (xCons (xL srtL (xCons (xLc (srcV 1) (tgT [2, 3]) (xTst blB (xB eqD (xVar 2) (xVar 0))) (xVar 3) [2, 3]) xNil)) xNil)))
def mcome_both : List Sv → Rz Sv := runD 1 2
    (sSeq (sNew false 1 (xL (chk 1 mmet) (xCons (xVar 0) xNil)))
    (sRet (xL tupD (xCons (xL (chk 2 mplaces_in) (xCons (xC (.str "young")) (xCons (xVar 1) xNil))) (xCons (xL (chk 2 mplaces_in) (xCons (xC (.str "old")) (xCons (xVar 1) xNil))) xNil)))))
def mcome_young : List Sv → Rz Sv := runD 1 10
    (sSeq (sUnp [3, 4, 5, 6] (xVar 0))
    (sSeq (sNew true 1 xDnew)
    (sSeq (sNewM true 2 (xCallM [] 2 [1] [1] mfresh [.d (xVar 5), .s 1]))
    (sSeq (sExtM 2 (xCallM [] 2 [1] [1] mfresh [.f (xLc (srcV 6) (tgT [8, 9]) tYesD (xB ixD (xB ixD (xB ixD (xVar 4) (xVar 8)) (xC (.int 1))) (xVar 9)) [8, 9]), .s 1]))
    (sSeq (sWhile (xTst lstB (xVar 2)) (sSeq (sUnpM [7, 8] (xPop 2))
    (sIf (xTst blB (xB eqD (xVar 7) (xC (.str "young")))) (sExtM 2 (xCallM [] 2 [1] [1] mfresh [.d (xB ixD (xB ixD (xVar 3) (xVar 8)) (xC (.int 1))), .s 1])) sNil)))
    (sRetF (xL (chk 2 mplaces_in) (xCons (xC (.str "young")) (xCons (xL lkeysD (xCons (xVar 1) xNil)) xNil)))))))))
def mstray : List Sv → Rz Sv := runD 2 2
    (sSeq (sIf (xNot (xTst blB (xU (isD "tuple") (xVar 1)))) (sRet (xC (.bl false))) sNil)
    (sRet (xV (xNot (xTst blB (xCh (cmpD fun i j => decide (i ≤ j)) ltD (xC (.int 0)) (xB ixD (xVar 1) (xC (.int 1))) (xL lenD (xCons (xL (chk 2 mhalf_of) (xCons (xVar 0) (xCons (xVar 1) xNil))) xNil))))))))
def mthing_with : List Sv → Rz Sv := runD 3 5
    (sSeq (sIf (xOr (xNot (xTst blB (xU (isD "tuple") (xVar 1)))) (xTst blB (xL (chk 2 mstray) (xCons (xVar 0) (xCons (xVar 1) xNil))))) (sRaise 0) sNil)
    (sSeq (sUnp [3, 4] (xL (chk 2 mthing_at) (xCons (xVar 0) (xCons (xVar 1) xNil))))
    (sSeq (sIf (xNot (xTst blB (xCh (cmpD fun i j => decide (i ≤ j)) ltD (xC (.int 0)) (xVar 2) (xL lenD (xCons (xVar 4) xNil))))) (sRaise 1) sNil)
    (sRet (xL tupD (xCons (xVar 3) (xCons (xVar 4) xNil)))))))
def mfield : List Sv → Rz Sv := runD 3 5
    (sSeq (sUnp [3, 4] (xL (chk 3 mthing_with) (xCons (xVar 0) (xCons (xVar 1) (xCons (xVar 2) xNil)))))
    (sRet (xB ixD (xVar 4) (xVar 2))))
def mfollow : List Sv → Rz (Sv × List Sv) := runM 5 8 [0]
    (sFor (srcE 2) (tgT [5, 6]) (sSeq (sAsg 7 (xL tupD (xCons (xVar 3) (xCons (xB addD (xVar 4) (xVar 5)) xNil))))
    (sIf (xTst blB (xB neD (xVar 7) (xL tupD (xCons (xVar 1) (xCons (xVar 6) xNil))))) (sDput 0 (xL tupD (xCons (xVar 1) (xCons (xVar 6) xNil))) (xVar 7)) sNil)))
def mrefuse_no_root : List Sv → Rz Sv := runD 2 2
    (sIf (xNot (xTst blB (xCh (cmpD fun i j => decide (i ≤ j)) ltD (xC (.int 0)) (xVar 1) (xL lenD (xCons (xB ixD (xVar 0) (xC (.int 2))) xNil))))) (sRaise 2) sNil)
def mrefuse_stray : List Sv → Rz Sv := runD 2 2
    (sIf (xTst blB (xL (chk 2 mstray) (xCons (xVar 0) (xCons (xVar 1) xNil)))) (sRaise 0) sNil)
def mreplaced : List Sv → Rz Sv := runD 3 3
    (sRet (xB addD (xB addD (xSl slD (xVar 0) oNo (oAt (xVar 1))) (xL tupD (xCons (xVar 2) xNil))) (xSl slD (xVar 0) (oAt (xB addD (xVar 1) (xC (.int 1)))) oNo)))
def mhold : List Sv → Rz Sv := runD 3 7
    (sSeq (sDrop (xL (chk 2 mrefuse_no_root) (xCons (xVar 0) (xCons (xVar 1) xNil))))
    (sSeq (sDrop (xL (chk 2 mrefuse_stray) (xCons (xVar 0) (xCons (xVar 2) xNil))))
    (sSeq (sUnp [3, 4, 5, 6] (xVar 0))
    (sRet (xL tupD (xCons (xVar 3) (xCons (xVar 4) (xCons (xL (chk 3 mreplaced) (xCons (xVar 5) (xCons (xVar 1) (xCons (xVar 2) xNil)))) (xCons (xVar 6) xNil)))))))))
def mmade : List Sv → Rz Sv := runD 2 8
    (sSeq (sFor (srcV 1) (tgN 2) (sDrop (xL (chk 2 mrefuse_stray) (xCons (xVar 0) (xCons (xVar 2) xNil)))))
    (sSeq (sUnp [4, 5, 6, 7] (xVar 0))
    (sSeq (sAsg 3 (xB addD (xVar 4) (xL tupD (xCons (xL tupD (xCons (xC (.int 0)) (xCons (xVar 1) xNil))) xNil))))
    (sRet (xL tupD (xCons (xL tupD (xCons (xVar 3) (xCons (xVar 5) (xCons (xVar 6) (xCons (xVar 7) xNil))))) (xCons (xL tupD (xCons (xC (.str "young")) (xCons (xL lenD (xCons (xVar 4) xNil)) xNil))) xNil)))))))
def mpairs : List Sv → Rz Sv := runD 2 5
    (sRet (xL tupleD (xCons (xLc2 (srcV 1) (tgN 2) tYesD (srcET (xB ixD (xB ixD (xVar 0) (xVar 2)) (xC (.int 1)))) (tgT [3, 4]) (xTst blB (xL (chk 1 (noX mpoints_young)) (xCons (xVar 4) xNil))) (xL tupD (xCons (xVar 2) (xCons (xVar 3) xNil))) [2, 3, 4] [3, 4]) xNil)))
def mwhole_book : List Sv → Rz Sv := runD 1 1
    (sRetF (xL (chk 2 mpairs) (xCons (xVar 0) (xCons (xLRg (srcR1 (xL lenD (xCons (xVar 0) xNil)))) xNil))))
def mmajor : List Sv → Rz Sv := runD 1 9
    (sSeq (sUnp [3, 4, 5, 6] (xVar 0))
    (sSeq (sUnp [7, 8] (xL (chk 1 mcome_both) (xCons (xVar 0) xNil)))
    (sSeq (sNew true 1 xDnew)
    (sSeq (sDropM (xCallM [] 5 [0] [1] mfollow [.s 1, .d (xC (.str "young")), .d (xVar 7), .d (xC (.str "young")), .d (xC (.int 0))]))
    (sSeq (sDropM (xCallM [] 5 [0] [1] mfollow [.s 1, .d (xC (.str "old")), .d (xVar 8), .d (xC (.str "old")), .d (xC (.int 0))]))
    (sSeq (sAsg 2 (xL (chk 4 mcarried) (xCons (xVar 4) (xCons (xVar 8) (xCons (xVar 1) (xCons (xC (.int 0)) xNil))))))
    (sRet (xL tupD (xCons (xL (chk 4 mcarried) (xCons (xVar 3) (xCons (xVar 7) (xCons (xVar 1) (xCons (xC (.int 0)) xNil))))) (xCons (xVar 2) (xCons (xL (chk 2 mled) (xCons (xVar 5) (xCons (xVar 1) xNil))) (xCons (xL (chk 1 mwhole_book) (xCons (xVar 2) xNil)) xNil))))))))))))
def mmany_below : List Sv → Rz Sv := runD 2 5
    (sSeq (sAsg 2 (xC (.int 0)))
    (sSeq (sAsg 3 (xL lenD (xCons (xVar 0) xNil)))
    (sSeq (sWhile (xTst blB (xB ltD (xVar 2) (xVar 3))) (sSeq (sAsg 4 (xB divD (xB addD (xVar 2) (xVar 3)) (xC (.int 2))))
    (sIf (xTst blB (xB ltD (xB ixD (xVar 0) (xVar 4)) (xVar 1))) (sAsg 2 (xB addD (xVar 4) (xC (.int 1)))) (sAsg 3 (xVar 4)))))
    (sRet (xVar 2)))))
def mrelinked : List Sv → Rz Sv := runD 3 7
    (sSeq (sNew true 3 (xL listD (xCons (xVar 0) xNil)))
    (sSeq (sFor (srcV 1) (tgN 4) (sSeq (sUnp [5, 6] (xB ixD (xVar 0) (xVar 4)))
    (sSetL 3 (xVar 4) (xL tupD (xCons (xVar 5) (xCons (xL (chk 2 mled) (xCons (xVar 6) (xCons (xVar 2) xNil))) xNil))))))
    (sRet (xL tupleD (xCons (xVar 3) xNil)))))
def mminor : List Sv → Rz Sv := runD 2 16
    (sSeq (sUnp [10, 11, 12, 13] (xVar 0))
    (sSeq (sAsg 2 (xL (chk 1 mcome_young) (xCons (xVar 0) xNil)))
    (sSeq (sNew false 3 (xLc (srcV 2) (tgN 14) (xTst blB (xB (cmpD fun i j => decide (j ≤ i)) (xB ixD (xB ixD (xVar 10) (xVar 14)) (xC (.int 0))) (xVar 1))) (xVar 14) [14]))
    (sSeq (sNew false 4 (xLc (srcV 2) (tgN 14) (xTst blB (xB ltD (xB ixD (xB ixD (xVar 10) (xVar 14)) (xC (.int 0))) (xVar 1))) (xVar 14) [14]))
    (sSeq (sNew true 5 xDnew)
    (sSeq (sDropM (xCallM [] 5 [0] [5] mfollow [.s 5, .d (xC (.str "young")), .s 4, .d (xC (.str "young")), .d (xC (.int 0))]))
    (sSeq (sDropM (xCallM [] 5 [0] [5] mfollow [.s 5, .d (xC (.str "young")), .s 3, .d (xC (.str "old")), .d (xL lenD (xCons (xVar 11) xNil))]))
    (sSeq (sNew false 6 (xSrtSc (srcV 13) (tgT [14, 15]) tYesD (xVar 14) [14, 15]))
    (sSeq (sAsg 7 (xL (chk 4 mcarried) (xCons (xVar 10) (xCons (xVar 4) (xCons (xVar 5) (xCons (xC (.int 1)) xNil))))))
    (sSeq (sAsg 8 (xB addD (xL (chk 3 mrelinked) (xCons (xVar 11) (xCons (xVar 6) (xCons (xVar 5) xNil)))) (xL (chk 4 mcarried) (xCons (xVar 10) (xCons (xVar 3) (xCons (xVar 5) (xCons (xC (.int 0)) xNil)))))))
    (sSeq (sNew false 9 (xB catD (xVar 6) (xLRg (srcR2 (xL lenD (xCons (xVar 11) xNil)) (xL lenD (xCons (xVar 8) xNil))))))
    (sRet (xL tupD (xCons (xVar 7) (xCons (xVar 8) (xCons (xL (chk 2 mled) (xCons (xVar 12) (xCons (xVar 5) xNil))) (xCons (xL (chk 2 mpairs) (xCons (xVar 8) (xCons (xVar 9) xNil))) xNil)))))))))))))))))
def mrebooked : List Sv → Rz Sv := runD 3 6
    (sSeq (sAsg 3 (xL (chk 2 mmany_below) (xCons (xVar 0) (xCons (xVar 1) xNil))))
    (sSeq (sAsg 4 (xIf (xTst blB (xB eqD (xSl slD (xVar 0) (oAt (xVar 3)) (oAt (xB addD (xVar 3) (xC (.int 1))))) (xL tupD (xCons (xVar 1) xNil)))) (xB addD (xVar 3) (xC (.int 1))) (xVar 3)))
    (sSeq (sAsg 5 (xIf (xTst blB (xVar 2)) (xL tupD (xCons (xVar 1) xNil)) (xL tupD xNil)))
    (sRet (xB addD (xB addD (xSl slD (xVar 0) oNo (oAt (xVar 3))) (xVar 5)) (xSl slD (xVar 0) (oAt (xVar 4)) oNo))))))
def mput : List Sv → Rz Sv := runD 4 13
    (sSeq (sUnp [7, 8] (xL (chk 3 mthing_with) (xCons (xVar 0) (xCons (xVar 1) (xCons (xVar 2) xNil)))))
    (sSeq (sDrop (xL (chk 2 mrefuse_stray) (xCons (xVar 0) (xCons (xVar 3) xNil))))
    (sSeq (sUnp [9, 10, 11, 12] (xVar 0))
    (sSeq (sAsg 4 (xB ixD (xVar 1) (xC (.int 1))))
    (sSeq (sAsg 5 (xL tupD (xCons (xVar 7) (xCons (xL (chk 3 mreplaced) (xCons (xVar 8) (xCons (xVar 2) (xCons (xVar 3) xNil)))) xNil))))
    (sSeq (sIf (xTst blB (xL (chk 1 mpoints_young) (xCons (xVar 1) xNil))) (sRet (xL tupD (xCons (xL (chk 3 mreplaced) (xCons (xVar 9) (xCons (xVar 4) (xCons (xVar 5) xNil)))) (xCons (xVar 10) (xCons (xVar 11) (xCons (xVar 12) xNil)))))) sNil)
    (sSeq (sAsg 6 (xL (chk 3 mrebooked) (xCons (xVar 12) (xCons (xL tupD (xCons (xVar 4) (xCons (xVar 2) xNil))) (xCons (xL (chk 1 mpoints_young) (xCons (xVar 3) xNil)) xNil)))))
    (sRet (xL tupD (xCons (xVar 9) (xCons (xL (chk 3 mreplaced) (xCons (xVar 10) (xCons (xVar 4) (xCons (xVar 5) xNil)))) (xCons (xVar 11) (xCons (xVar 6) xNil)))))))))))))
def mstarted : List Sv → Rz Sv := runD 1 1
    (sRet (xL tupD (xCons (xL tupD xNil) (xCons (xL tupD xNil) (xCons (xB repD (xL tupD (xCons (xC .non) xNil)) (xVar 0)) (xCons (xL tupD xNil) xNil))))))
end Kp

namespace Kp
open PySem L2 Fw
def m_law_spoilt_value : List Sv → Rz Sv := runD 3 10
    (sSeq (sAsg 3 (xB modD (xVar 1) (xC (.int 3))))
    (sSeq (sAsg 4 (xB ixD (xVar 0) (xVar 3)))
    (sSeq (sIf (xTst blB (xB eqD (xL lenD (xCons (xVar 4) xNil)) (xC (.int 0)))) (sRet (xVar 0)) sNil)
    (sSeq (sAsg 5 (xB modD (xB divD (xVar 1) (xC (.int 3))) (xL lenD (xCons (xVar 4) xNil))))
    (sSeq (sAsg 6 (xVar 2))
    (sSeq (sIf (xTst blB (xB ltD (xVar 3) (xC (.int 2)))) (sSeq (sAsg 8 (xB ixD (xB ixD (xVar 4) (xVar 5)) (xC (.int 1))))
    (sSeq (sIf (xTst blB (xB eqD (xL lenD (xCons (xVar 8) xNil)) (xC (.int 0)))) (sRet (xVar 0)) sNil)
    (sSeq (sAsg 9 (xB modD (xB modD (xB mulD (xVar 1) (xC (.int 48271))) (xC (.int 2147483647))) (xL lenD (xCons (xVar 8) xNil))))
    (sAsg 6 (xL tupD (xCons (xB ixD (xB ixD (xVar 4) (xVar 5)) (xC (.int 0))) (xCons (xB addD (xB addD (xSl slD (xVar 8) oNo (oAt (xVar 9))) (xL tupD (xCons (xVar 2) xNil))) (xSl slD (xVar 8) (oAt (xB addD (xVar 9) (xC (.int 1)))) oNo)) xNil))))))) sNil)
    (sSeq (sNew true 7 (xL lstD (xCons (xB ixD (xVar 0) (xC (.int 0))) (xCons (xB ixD (xVar 0) (xC (.int 1))) (xCons (xB ixD (xVar 0) (xC (.int 2))) (xCons (xB ixD (xVar 0) (xC (.int 3))) xNil))))))
    (sSeq (sSetL 7 (xVar 3) (xB addD (xB addD (xSl slD (xVar 4) oNo (oAt (xVar 5))) (xL tupD (xCons (xVar 6) xNil))) (xSl slD (xVar 4) (oAt (xB addD (xVar 5) (xC (.int 1)))) oNo)))
    (sRet (xL tupD (xCons (xB ixD (xVar 7) (xC (.int 0))) (xCons (xB ixD (xVar 7) (xC (.int 1))) (xCons (xB ixD (xVar 7) (xC (.int 2))) (xCons (xB ixD (xVar 7) (xC (.int 3))) xNil))))))))))))))
def m_law_spoilt_book : List Sv → Rz Sv := runD 2 8
    (sSeq (sAsg 2 (xB ixD (xVar 0) (xC (.int 3))))
    (sSeq (sAsg 3 (xB modD (xVar 1) (xC (.int 6))))
    (sSeq (sAsg 4 (xB modD (xB divD (xVar 1) (xC (.int 6))) (xB addD (xL lenD (xCons (xVar 2) xNil)) (xC (.int 1)))))
    (sSeq (sIf (xTst blB (xB eqD (xVar 3) (xC (.int 0)))) (sRet (xB addD (xSl slD (xVar 2) oNo (oAt (xVar 4))) (xSl slD (xVar 2) (oAt (xB addD (xVar 4) (xC (.int 1)))) oNo))) sNil)
    (sSeq (sIf (xTst blB (xB eqD (xVar 3) (xC (.int 1)))) (sSeq (sAsg 7 (xL tupD (xCons (xB subD (xB modD (xB modD (xB mulD (xVar 1) (xC (.int 48271))) (xC (.int 2147483647))) (xC (.int 6))) (xC (.int 1))) (xCons (xB subD (xB modD (xB modD (xB mulD (xVar 1) (xC (.int 69621))) (xC (.int 2147483647))) (xC (.int 6))) (xC (.int 1))) xNil))))
    (sRet (xB addD (xB addD (xSl slD (xVar 2) oNo (oAt (xVar 4))) (xL tupD (xCons (xVar 7) xNil))) (xSl slD (xVar 2) (oAt (xB addD (xVar 4) (xB modD (xB modD (xB mulD (xVar 1) (xC (.int 16807))) (xC (.int 2147483647))) (xC (.int 2))))) oNo)))) sNil)
    (sSeq (sIf (xTst blB (xB eqD (xVar 3) (xC (.int 2)))) (sRet (xB addD (xB addD (xSl slD (xVar 2) oNo (oAt (xVar 4))) (xSl slD (xVar 2) (oAt (xVar 4)) (oAt (xB addD (xVar 4) (xC (.int 1)))))) (xSl slD (xVar 2) (oAt (xVar 4)) oNo))) sNil)
    (sSeq (sAsg 5 (xB addD (xSl slD (xVar 2) oNo (oAt (xVar 4))) (xSl slD (xVar 2) (oAt (xB addD (xVar 4) (xC (.int 1)))) (oAt (xB addD (xVar 4) (xC (.int 2)))))))
    (sSeq (sAsg 6 (xB addD (xSl slD (xVar 2) (oAt (xVar 4)) (oAt (xB addD (xVar 4) (xC (.int 1))))) (xSl slD (xVar 2) (oAt (xB addD (xVar 4) (xC (.int 2)))) oNo)))
    (sSeq (sIf (xOr (xTst blB (xB eqD (xVar 3) (xC (.int 3)))) (xTst blB (xB eqD (xVar 4) (xL lenD (xCons (xVar 2) xNil))))) (sRet (xB addD (xVar 5) (xVar 6))) sNil)
    (sSeq (sAsg 7 (xL tupD (xCons (xB subD (xB ixD (xB ixD (xVar 2) (xVar 4)) (xC (.int 0))) (xL lenD (xCons (xB ixD (xVar 0) (xC (.int 1))) xNil))) (xCons (xB ixD (xB ixD (xVar 2) (xVar 4)) (xC (.int 1))) xNil))))
    (sSeq (sIf (xTst blB (xB eqD (xVar 3) (xC (.int 5)))) (sAsg 7 (xL tupD (xCons (xB ixD (xB ixD (xVar 2) (xVar 4)) (xC (.int 0))) (xCons (xB subD (xB ixD (xB ixD (xVar 2) (xVar 4)) (xC (.int 1))) (xL lenD (xCons (xB ixD (xB ixD (xB ixD (xVar 0) (xC (.int 1))) (xB ixD (xB ixD (xVar 2) (xVar 4)) (xC (.int 0)))) (xC (.int 1))) xNil))) xNil)))) sNil)
    (sRet (xB addD (xB addD (xSl slD (xVar 2) oNo (oAt (xVar 4))) (xL tupD (xCons (xVar 7) xNil))) (xSl slD (xVar 2) (oAt (xB addD (xVar 4) (xC (.int 1)))) oNo))))))))))))))
def m_law_due_of : List Sv → Rz Sv := runD 1 4
    (sSeq (sFor (srcT (xB ixD (xVar 0) (xC (.int 2)))) (tgN 1) (sIf (xAnd (xTst blB (xU (isD "tuple") (xVar 1))) (xNot (xTst blB (xL (chk 2 m_law_leads) (xCons (xVar 0) (xCons (xVar 1) xNil)))))) (sRet (xC (.bl false))) sNil))
    (sSeq (sFor (srcL (xL lstD (xCons (xB ixD (xVar 0) (xC (.int 0))) (xCons (xB ixD (xVar 0) (xC (.int 1))) xNil)))) (tgN 2) (sFor (srcV 2) (tgN 3) (sFor (srcT (xB ixD (xVar 3) (xC (.int 1)))) (tgN 1) (sIf (xAnd (xTst blB (xU (isD "tuple") (xVar 1))) (xNot (xTst blB (xL (chk 2 m_law_leads) (xCons (xVar 0) (xCons (xVar 1) xNil)))))) (sRet (xC (.bl false))) sNil))))
    (sRet (xB eqD (xB ixD (xVar 0) (xC (.int 3))) (xL (chk 1 m_law_book_of) (xCons (xB ixD (xVar 0) (xC (.int 1))) xNil))))))
/-- what a field or a root may be -/
def Vx : Dt → Bool
  | .non => true
  | .int _ => true
  | .tup [.str _, .int _] => true
  | _ => false
def pyB : Dt → Bool
  | .tup (.str h :: _) => h.cps.toList == ("young" : Str).cps.toList
  | _ => false
def halfB (hx : Dt) (b : Bool) : List Dt := match hx with
  | .tup [.tup y, .tup o, _, _] => if b then y else o
  | _ => []
def strayB (hx x : Dt) : Bool := match x with
  | .tup [.str _, .int i] => !(decide (0 ≤ i) && decide (i < ((halfB hx (pyB x)).length : Int)))
  | _ => false
def okH : Dt → Bool
  | .tup [.tup _, .tup _, _, _] => true
  | _ => false
/-- any(stray(heap, value) for value in row), of a heap and a row of the right shape -/
def many_stray : List Sv → Rz Sv
  | [.p hx, .p (.tup l)] => if (okH hx && l.all Vx) = true then .ok (.p (.bl (l.any (strayB hx)))) else .stuck
  | _ => .stuck
def msound : List Sv → Rz Sv := runD 1 9
    (sSeq (sUnp [3, 4, 5, 6] (xVar 0))
    (sSeq (sNew true 1 (xL lstD (xCons (xVar 5) xNil)))
    (sSeq (sExt 1 (xLc (srcV 3) (tgT [7, 8]) tYesD (xVar 8) [7, 8]))
    (sSeq (sExt 1 (xLc (srcV 4) (tgT [7, 8]) tYesD (xVar 8) [7, 8]))
    (sSeq (sFrz 1 (sFor (srcV 1) (tgN 2) (sIf (xTst blB (xL (chk 2 many_stray) (xCons (xVar 0) (xCons (xVar 2) xNil)))) (sRet (xC (.bl false))) sNil)))
    (sRet (xB eqD (xVar 6) (xL (chk 1 mwhole_book) (xCons (xVar 4) xNil)))))))))
def mlaw : List Sv → Rz Sv := runD 1 7
    (sSeq (sAsg 1 (xL (chk 1 m_law_heap_by) (xCons (xVar 0) xNil)))
    (sSeq (sAsg 2 (xB modD (xL (chk 2 m_law_cell_at) (xCons (xVar 0) (xCons (xC (.int 3)) xNil))) (xC (.int 6))))
    (sSeq (sIf (xTst blB (xB ltD (xVar 2) (xC (.int 2)))) (sSeq (sAsg 4 (xB modD (xL (chk 2 m_law_cell_at) (xCons (xVar 0) (xCons (xC (.int 6)) xNil))) (xB subD (xB powD (xC (.int 10)) (xC (.int 60))) (xC (.int 101)))))
    (sSeq (sAsg 5 (xL (chk 3 m_law_pointer_by) (xCons (xL (chk 2 m_law_cell_at) (xCons (xVar 0) (xCons (xC (.int 5)) xNil))) (xCons (xVar 1) (xCons (xVar 4) xNil)))))
    (sAsg 1 (xL (chk 3 m_law_spoilt_value) (xCons (xVar 1) (xCons (xL (chk 2 m_law_cell_at) (xCons (xVar 0) (xCons (xC (.int 4)) xNil))) (xCons (xVar 5) xNil))))))) sNil)
    (sSeq (sIf (xTst blB (xB (cmpD fun i j => decide (j < i)) (xVar 2) (xC (.int 2)))) (sSeq (sAsg 6 (xL (chk 2 m_law_spoilt_book) (xCons (xVar 1) (xCons (xL (chk 2 m_law_cell_at) (xCons (xVar 0) (xCons (xC (.int 4)) xNil))) xNil))))
    (sAsg 1 (xL tupD (xCons (xB ixD (xVar 1) (xC (.int 0))) (xCons (xB ixD (xVar 1) (xC (.int 1))) (xCons (xB ixD (xVar 1) (xC (.int 2))) (xCons (xVar 6) xNil))))))) sNil)
    (sSeq (sAsg 3 (xL (chk 1 (noX msound)) (xCons (xVar 1) xNil)))
    (sRet (xV (xAnd (xTst blB (xU (isD "bool") (xVar 3))) (xTst blB (xB eqD (xVar 3) (xL (chk 1 m_law_due_of) (xCons (xVar 1) xNil))))))))))))
end Kp

namespace Kp
open PySem L2 Fw
def top (i : Nat) : Stmt := PySem.Challenge.pw_movecollect_k05_sound_told.main.body.getD i (.Pass ⟨0, 0, 0, 0⟩)
structure Tx (K : PySem.W.Frag) (mg : Str → Option Value) (cl : Nat → Addr) : Prop where
  b_any : mg "any" = none
  b_bool : mg "bool" = none
  b_enumerate : mg "enumerate" = none
  b_int : mg "int" = none
  b_isinstance : mg "isinstance" = none
  b_len : mg "len" = none
  b_list : mg "list" = none
  b_max : mg "max" = none
  b_range : mg "range" = none
  b_tuple : mg "tuple" = none
  c_YOUNG : ∃ t, mg "YOUNG" = some (.str "young" t)
abbrev spoints_young : Stmt := top 3
abbrev Npoints_young : List Str := ["value"]
theorem scpoints_young : FnScope Npoints_young ["value"] (defScope spoints_young) := ⟨rfl, rfl, rfl, by decide +kernel, rfl, by decide +kernel, by decide +kernel⟩
theorem okpoints_young {P : Program} {w : World} {K : PySem.W.Frag} {mg : Str → Option Value} {base : Heap} {cl : Nat → Addr} {f : Addr} {fd : FuncData} (F : Fun K "points_young" "points_young" spoints_young f fd) (T : Tx K mg cl) :
    FnOk P w K mg base (L2.CX P w) 1 f fd ["value"] (spM cl 1 mpoints_young) :=
  fn_ok F scpoints_young rfl rfl fun cdv A outer s0 H E hr => (st_one (st_ret (e_and (e_isi ty_tuple rfl T.b_isinstance rfl T.b_tuple (e_var 0)) (e_one (e_cp (c_eq hr.units) (e_ix (e_var 0) e_int) (e_gstr rfl T.c_YOUNG))))))
abbrev s_law_cell_at : Stmt := top 9
abbrev N_law_cell_at : List Str := ["_law_script", "_law_k"]
theorem sc_law_cell_at : FnScope N_law_cell_at ["_law_script", "_law_k"] (defScope s_law_cell_at) := ⟨rfl, rfl, rfl, by decide +kernel, rfl, by decide +kernel, by decide +kernel⟩
theorem ok_law_cell_at {P : Program} {w : World} {K : PySem.W.Frag} {mg : Str → Option Value} {base : Heap} {cl : Nat → Addr} {f : Addr} {fd : FuncData} (F : Fun K "_law_cell_at" "_law_cell_at" s_law_cell_at f fd) (T : Tx K mg cl) :
    FnOk P w K mg base (L2.CX P w) 1 f fd ["_law_script", "_law_k"] (spM cl 2 m_law_cell_at) :=
  fn_ok F sc_law_cell_at rfl rfl fun cdv A outer s0 H E hr => (st_cons (st_if (t_cp (c_lt hr.units0) (e_var 1) (e_len rfl T.b_len (e_var 0)))
(st_one (st_ret (e_ix (e_var 0) (e_var 1))))
st_nil)
(st_one (st_ret e_int)))
abbrev s_law_mixed : Stmt := top 10
abbrev N_law_mixed : List Str := ["_law_script", "_law_k", "_law_cell"]
theorem sc_law_mixed : FnScope N_law_mixed ["_law_script", "_law_k"] (defScope s_law_mixed) := ⟨rfl, rfl, rfl, by decide +kernel, rfl, by decide +kernel, by decide +kernel⟩
theorem ok_law_mixed {P : Program} {w : World} {K : PySem.W.Frag} {mg : Str → Option Value} {base : Heap} {cl : Nat → Addr} {f : Addr} {fd : FuncData} (F : Fun K "_law_mixed" "_law_mixed" s_law_mixed f fd) (T : Tx K mg cl) :
    FnOk P w K mg base (L2.CX P w) 1 f fd ["_law_script", "_law_k"] (spM cl 2 m_law_mixed) :=
  fn_ok F sc_law_mixed rfl rfl fun cdv A outer s0 H E hr => (st_cons (st_asg 2 sc_law_mixed.nd rfl (Or.inl rfl) rfl e_int)
(st_cons (st_if (t_cp c_gt (e_len rfl T.b_len (e_var 0)) e_int)
(st_one (st_asg 2 sc_law_mixed.nd rfl (Or.inl rfl) rfl (e_ix (e_var 0) (e_mod (e_var 1) (e_len rfl T.b_len (e_var 0))))))
st_nil)
(st_one (st_ret (e_mod (e_mul (e_add (e_var 2) (e_mul e_int (e_var 1))) e_int) e_int)))))
abbrev s_law_book_of : Stmt := top 13
abbrev N_law_book_of : List Str := ["_law_old", "_law_found", "_law_place", "_law_k", "_law_value"]
theorem sc_law_book_of : FnScope N_law_book_of ["_law_old"] (defScope s_law_book_of) := ⟨rfl, rfl, rfl, by decide +kernel, rfl, by decide +kernel, by decide +kernel⟩
theorem ok_law_book_of {P : Program} {w : World} {K : PySem.W.Frag} {mg : Str → Option Value} {base : Heap} {cl : Nat → Addr} {f : Addr} {fd : FuncData} (F : Fun K "_law_book_of" "_law_book_of" s_law_book_of f fd) (T : Tx K mg cl) :
    FnOk P w K mg base (L2.CX P w) 1 f fd ["_law_old"] (spM cl 1 m_law_book_of) :=
  fn_ok F sc_law_book_of rfl rfl fun cdv A outer s0 H E hr => (st_cons (st_new true 1 sc_law_book_of.nd rfl (Or.inl rfl) rfl (e_lst a_nil))
(st_cons (st_for (passes_of rfl) rfl (i_rng1 rfl T.b_range (e_len rfl T.b_len (e_var 0))) (gs_name rfl (pg_name (i := 2) sc_law_book_of.nd rfl (Or.inl rfl)))
(st_one (st_for (passes_of rfl) rfl (i_rng1 rfl T.b_range (e_len rfl T.b_len (e_ix (e_ix (e_var 0) (e_var 2)) e_int))) (gs_name rfl (pg_name (i := 3) sc_law_book_of.nd rfl (Or.inl rfl)))
(st_cons (st_asg 4 sc_law_book_of.nd rfl (Or.inl rfl) rfl (e_ix (e_ix (e_ix (e_var 0) (e_var 2)) e_int) (e_var 3)))
(st_one (st_if (PW.pt (w_and (t_val (e_isi ty_tuple rfl T.b_isinstance rfl T.b_tuple (e_var 4))) (w_and1 (t_cp (c_eq hr.units) (e_ix (e_var 4) e_int) e_str))))
(st_one (st_app 1 rfl rfl (Or.inl rfl) (e_tup (a_cons (e_var 2) (a_cons (e_var 3) a_nil)))))
st_nil))))))
(st_one (st_ret (e_tuple rfl T.b_tuple (e_var 1))))))
abbrev s_law_next : Stmt := top 14
abbrev N_law_next : List Str := ["_law_word", "_law_k", "_law_sizes", "_law_other", "_law_at"]
theorem sc_law_next : FnScope N_law_next ["_law_word", "_law_k", "_law_sizes"] (defScope s_law_next) := ⟨rfl, rfl, rfl, by decide +kernel, rfl, by decide +kernel, by decide +kernel⟩
theorem ok_law_next {P : Program} {w : World} {K : PySem.W.Frag} {mg : Str → Option Value} {base : Heap} {cl : Nat → Addr} {f : Addr} {fd : FuncData} (F : Fun K "_law_next" "_law_next" s_law_next f fd) (T : Tx K mg cl) :
    FnOk P w K mg base (L2.CX P w) 1 f fd ["_law_word", "_law_k", "_law_sizes"] (spM cl 3 m_law_next) :=
  fn_ok F sc_law_next rfl rfl fun cdv A outer s0 H E hr => (st_cons (st_asg 3 sc_law_next.nd rfl (Or.inl rfl) rfl (e_ix (tE_of_tF (e_lst (a_cons e_str (a_cons e_str a_nil)))) (e_int1 rfl T.b_int (e_cp (c_eq hr.units) (e_var 0) e_str))))
(st_cons (st_asg 4 sc_law_next.nd rfl (Or.inl rfl) rfl (e_ix (tE_of_tF (e_lst (a_cons (e_var 1) (a_cons (e_add (e_var 1) e_int) a_nil)))) (e_int1 rfl T.b_int (e_cp (c_eq hr.units) (e_var 0) e_str))))
(st_cons (st_if (t_cp (c_lt hr.units0) (e_var 4) (e_ix (e_var 2) (e_int1 rfl T.b_int (e_cp (c_eq hr.units) (e_var 3) e_str))))
(st_one (st_ret (e_tup (a_cons (e_var 3) (a_cons (e_var 4) a_nil)))))
st_nil)
(st_cons (st_if (t_cp (c_lt hr.units0) (e_add (e_var 1) e_int) (e_ix (e_var 2) (e_int1 rfl T.b_int (e_cp (c_eq hr.units) (e_var 0) e_str))))
(st_one (st_ret (e_tup (a_cons (e_var 0) (a_cons (e_add (e_var 1) e_int) a_nil)))))
st_nil)
(st_one (st_ret e_int))))))
abbrev s_law_leads : Stmt := top 17
abbrev N_law_leads : List Str := ["_law_heap", "_law_pointer", "_law_half"]
theorem sc_law_leads : FnScope N_law_leads ["_law_heap", "_law_pointer"] (defScope s_law_leads) := ⟨rfl, rfl, rfl, by decide +kernel, rfl, by decide +kernel, by decide +kernel⟩
theorem ok_law_leads {P : Program} {w : World} {K : PySem.W.Frag} {mg : Str → Option Value} {base : Heap} {cl : Nat → Addr} {f : Addr} {fd : FuncData} (F : Fun K "_law_leads" "_law_leads" s_law_leads f fd) (T : Tx K mg cl) :
    FnOk P w K mg base (L2.CX P w) 1 f fd ["_law_heap", "_law_pointer"] (spM cl 2 m_law_leads) :=
  fn_ok F sc_law_leads rfl rfl fun cdv A outer s0 H E hr => (st_cons (st_asg 2 sc_law_leads.nd rfl (Or.inl rfl) rfl (e_ix (e_var 0) e_int))
(st_cons (st_if (t_cp (c_eq hr.units) (e_ix (e_var 1) e_int) e_str)
(st_one (st_asg 2 sc_law_leads.nd rfl (Or.inl rfl) rfl (e_ix (e_var 0) e_int)))
st_nil)
(st_one (st_ret (e_and (e_cp c_le e_int (e_ix (e_var 1) e_int)) (e_one (e_cp (c_lt hr.units0) (e_ix (e_var 1) e_int) (e_len rfl T.b_len (e_var 2)))))))))
abbrev s_law_pointer_by : Stmt := top 18
abbrev N_law_pointer_by : List Str := ["_law_cell", "_law_heap", "_law_far", "_law_way", "_law_half", "_law_place"]
theorem sc_law_pointer_by : FnScope N_law_pointer_by ["_law_cell", "_law_heap", "_law_far"] (defScope s_law_pointer_by) := ⟨rfl, rfl, rfl, by decide +kernel, rfl, by decide +kernel, by decide +kernel⟩
theorem ok_law_pointer_by {P : Program} {w : World} {K : PySem.W.Frag} {mg : Str → Option Value} {base : Heap} {cl : Nat → Addr} {f : Addr} {fd : FuncData} (F : Fun K "_law_pointer_by" "_law_pointer_by" s_law_pointer_by f fd) (T : Tx K mg cl) :
    FnOk P w K mg base (L2.CX P w) 1 f fd ["_law_cell", "_law_heap", "_law_far"] (spM cl 3 m_law_pointer_by) :=
  fn_ok F sc_law_pointer_by rfl rfl fun cdv A outer s0 H E hr => (st_cons (st_asg 3 sc_law_pointer_by.nd rfl (Or.inl rfl) rfl (e_mod (e_var 0) e_int))
(st_cons (st_if (t_cp (c_eq hr.units) (e_var 3) e_int)
(st_one (st_ret e_non))
st_nil)
(st_cons (st_if (t_cp (c_eq hr.units) (e_var 3) e_int)
(st_one (st_ret (e_sub (e_mod (e_div (e_var 0) e_int) e_int) e_int)))
st_nil)
(st_cons (st_asg 4 sc_law_pointer_by.nd rfl (Or.inl rfl) rfl (e_ix (e_var 1) (e_mod (e_var 3) e_int)))
(st_cons (st_asg 5 sc_law_pointer_by.nd rfl (Or.inl rfl) rfl (e_sub (e_mod (e_div (e_var 0) e_int) (e_add (e_len rfl T.b_len (e_var 4)) e_int)) e_int))
(st_cons (st_if (t_cp (c_eq hr.units) (e_var 5) (e_add (e_len rfl T.b_len (e_var 4)) e_int))
(st_one (st_asg 5 sc_law_pointer_by.nd rfl (Or.inl rfl) rfl (e_ix (tE_of_tF (e_lst (a_cons (e_var 2) (a_cons (e_sub (e_neg e_int) (e_var 2)) a_nil)))) (e_mod (e_div (e_div (e_var 0) e_int) (e_add (e_len rfl T.b_len (e_var 4)) e_int)) e_int))))
st_nil)
(st_one (st_ret (e_tup (a_cons (e_ix (tE_of_tF (e_lst (a_cons e_str (a_cons e_str a_nil)))) (e_mod (e_var 3) e_int)) (a_cons (e_var 5) a_nil)))))))))))
abbrev s_law_spoilt_value : Stmt := top 19
abbrev N_law_spoilt_value : List Str := ["_law_heap", "_law_cell", "_law_odd", "_law_half", "_law_row", "_law_at", "_law_item", "_law_parts", "_law_fields", "_law_k"]
theorem sc_law_spoilt_value : FnScope N_law_spoilt_value ["_law_heap", "_law_cell", "_law_odd"] (defScope s_law_spoilt_value) := ⟨rfl, rfl, rfl, by decide +kernel, rfl, by decide +kernel, by decide +kernel⟩
theorem ok_law_spoilt_value {P : Program} {w : World} {K : PySem.W.Frag} {mg : Str → Option Value} {base : Heap} {cl : Nat → Addr} {f : Addr} {fd : FuncData} (F : Fun K "_law_spoilt_value" "_law_spoilt_value" s_law_spoilt_value f fd) (T : Tx K mg cl) :
    FnOk P w K mg base (L2.CX P w) 1 f fd ["_law_heap", "_law_cell", "_law_odd"] (spM cl 3 m_law_spoilt_value) :=
  fn_ok F sc_law_spoilt_value rfl rfl fun cdv A outer s0 H E hr => (st_cons (st_asg 3 sc_law_spoilt_value.nd rfl (Or.inl rfl) rfl (e_mod (e_var 1) e_int))
(st_cons (st_asg 4 sc_law_spoilt_value.nd rfl (Or.inl rfl) rfl (e_ix (e_var 0) (e_var 3)))
(st_cons (st_if (t_cp (c_eq hr.units) (e_len rfl T.b_len (e_var 4)) e_int)
(st_one (st_ret (e_var 0)))
st_nil)
(st_cons (st_asg 5 sc_law_spoilt_value.nd rfl (Or.inl rfl) rfl (e_mod (e_div (e_var 1) e_int) (e_len rfl T.b_len (e_var 4))))
(st_cons (st_asg 6 sc_law_spoilt_value.nd rfl (Or.inl rfl) rfl (e_var 2))
(st_cons (st_if (t_cp (c_lt hr.units0) (e_var 3) e_int)
(st_cons (st_asg 8 sc_law_spoilt_value.nd rfl (Or.inl rfl) rfl (e_ix (e_ix (e_var 4) (e_var 5)) e_int))
(st_cons (st_if (t_cp (c_eq hr.units) (e_len rfl T.b_len (e_var 8)) e_int)
(st_one (st_ret (e_var 0)))
st_nil)
(st_cons (st_asg 9 sc_law_spoilt_value.nd rfl (Or.inl rfl) rfl (e_mod (e_mod (e_mul (e_var 1) e_int) e_int) (e_len rfl T.b_len (e_var 8))))
(st_one (st_asg 6 sc_law_spoilt_value.nd rfl (Or.inl rfl) rfl (e_tup (a_cons (e_ix (e_ix (e_var 4) (e_var 5)) e_int) (a_cons (e_add (e_add (e_sl (e_var 8) o_none (o_some (e_var 9))) (e_tup (a_cons (e_var 2) a_nil))) (e_sl (e_var 8) (o_some (e_add (e_var 9) e_int)) o_none)) a_nil))))))))
st_nil)
(st_cons (st_new true 7 sc_law_spoilt_value.nd rfl (Or.inl rfl) rfl (e_lst (a_cons (e_ix (e_var 0) e_int) (a_cons (e_ix (e_var 0) e_int) (a_cons (e_ix (e_var 0) e_int) (a_cons (e_ix (e_var 0) e_int) a_nil))))))
(st_cons (st_setL 7 rfl (e_add (e_add (e_sl (e_var 4) o_none (o_some (e_var 5))) (e_tup (a_cons (e_var 6) a_nil))) (e_sl (e_var 4) (o_some (e_add (e_var 5) e_int)) o_none)) (pg_sub (pv 7) (e_var 3) set_list))
(st_one (st_ret (e_tup (a_cons (e_ix (e_var 7) e_int) (a_cons (e_ix (e_var 7) e_int) (a_cons (e_ix (e_var 7) e_int) (a_cons (e_ix (e_var 7) e_int) a_nil)))))))))))))))
abbrev s_law_spoilt_book : Stmt := top 20
abbrev N_law_spoilt_book : List Str := ["_law_heap", "_law_cell", "_law_book", "_law_way", "_law_at", "_law_ahead", "_law_turned", "_law_pair"]
theorem sc_law_spoilt_book : FnScope N_law_spoilt_book ["_law_heap", "_law_cell"] (defScope s_law_spoilt_book) := ⟨rfl, rfl, rfl, by decide +kernel, rfl, by decide +kernel, by decide +kernel⟩
theorem ok_law_spoilt_book {P : Program} {w : World} {K : PySem.W.Frag} {mg : Str → Option Value} {base : Heap} {cl : Nat → Addr} {f : Addr} {fd : FuncData} (F : Fun K "_law_spoilt_book" "_law_spoilt_book" s_law_spoilt_book f fd) (T : Tx K mg cl) :
    FnOk P w K mg base (L2.CX P w) 1 f fd ["_law_heap", "_law_cell"] (spM cl 2 m_law_spoilt_book) :=
  fn_ok F sc_law_spoilt_book rfl rfl fun cdv A outer s0 H E hr => (st_cons (st_asg 2 sc_law_spoilt_book.nd rfl (Or.inl rfl) rfl (e_ix (e_var 0) e_int))
(st_cons (st_asg 3 sc_law_spoilt_book.nd rfl (Or.inl rfl) rfl (e_mod (e_var 1) e_int))
(st_cons (st_asg 4 sc_law_spoilt_book.nd rfl (Or.inl rfl) rfl (e_mod (e_div (e_var 1) e_int) (e_add (e_len rfl T.b_len (e_var 2)) e_int)))
(st_cons (st_if (t_cp (c_eq hr.units) (e_var 3) e_int)
(st_one (st_ret (e_add (e_sl (e_var 2) o_none (o_some (e_var 4))) (e_sl (e_var 2) (o_some (e_add (e_var 4) e_int)) o_none))))
st_nil)
(st_cons (st_if (t_cp (c_eq hr.units) (e_var 3) e_int)
(st_cons (st_asg 7 sc_law_spoilt_book.nd rfl (Or.inl rfl) rfl (e_tup (a_cons (e_sub (e_mod (e_mod (e_mul (e_var 1) e_int) e_int) e_int) e_int) (a_cons (e_sub (e_mod (e_mod (e_mul (e_var 1) e_int) e_int) e_int) e_int) a_nil))))
(st_one (st_ret (e_add (e_add (e_sl (e_var 2) o_none (o_some (e_var 4))) (e_tup (a_cons (e_var 7) a_nil))) (e_sl (e_var 2) (o_some (e_add (e_var 4) (e_mod (e_mod (e_mul (e_var 1) e_int) e_int) e_int))) o_none)))))
st_nil)
(st_cons (st_if (t_cp (c_eq hr.units) (e_var 3) e_int)
(st_one (st_ret (e_add (e_add (e_sl (e_var 2) o_none (o_some (e_var 4))) (e_sl (e_var 2) (o_some (e_var 4)) (o_some (e_add (e_var 4) e_int)))) (e_sl (e_var 2) (o_some (e_var 4)) o_none))))
st_nil)
(st_cons (st_asg 5 sc_law_spoilt_book.nd rfl (Or.inl rfl) rfl (e_add (e_sl (e_var 2) o_none (o_some (e_var 4))) (e_sl (e_var 2) (o_some (e_add (e_var 4) e_int)) (o_some (e_add (e_var 4) e_int)))))
(st_cons (st_asg 6 sc_law_spoilt_book.nd rfl (Or.inl rfl) rfl (e_add (e_sl (e_var 2) (o_some (e_var 4)) (o_some (e_add (e_var 4) e_int))) (e_sl (e_var 2) (o_some (e_add (e_var 4) e_int)) o_none)))
(st_cons (st_if (PW.pt (w_or (t_cp (c_eq hr.units) (e_var 3) e_int) (w_or1 (t_cp (c_eq hr.units) (e_var 4) (e_len rfl T.b_len (e_var 2))))))
(st_one (st_ret (e_add (e_var 5) (e_var 6))))
st_nil)
(st_cons (st_asg 7 sc_law_spoilt_book.nd rfl (Or.inl rfl) rfl (e_tup (a_cons (e_sub (e_ix (e_ix (e_var 2) (e_var 4)) e_int) (e_len rfl T.b_len (e_ix (e_var 0) e_int))) (a_cons (e_ix (e_ix (e_var 2) (e_var 4)) e_int) a_nil))))
(st_cons (st_if (t_cp (c_eq hr.units) (e_var 3) e_int)
(st_one (st_asg 7 sc_law_spoilt_book.nd rfl (Or.inl rfl) rfl (e_tup (a_cons (e_ix (e_ix (e_var 2) (e_var 4)) e_int) (a_cons (e_sub (e_ix (e_ix (e_var 2) (e_var 4)) e_int) (e_len rfl T.b_len (e_ix (e_ix (e_ix (e_var 0) e_int) (e_ix (e_ix (e_var 2) (e_var 4)) e_int)) e_int))) a_nil)))))
st_nil)
(st_one (st_ret (e_add (e_add (e_sl (e_var 2) o_none (o_some (e_var 4))) (e_tup (a_cons (e_var 7) a_nil))) (e_sl (e_var 2) (o_some (e_add (e_var 4) e_int)) o_none)))))))))))))))
abbrev shalf_of : Stmt := top 4
abbrev Nhalf_of : List Str := ["heap", "pointer", "young", "old", "roots", "book"]
theorem schalf_of : FnScope Nhalf_of ["heap", "pointer"] (defScope shalf_of) := ⟨rfl, rfl, rfl, by decide +kernel, rfl, by decide +kernel, by decide +kernel⟩
abbrev spairs : Stmt := top 6
abbrev Npairs : List Str := ["old", "places", "place", "k", "value"]
theorem scpairs : FnScope Npairs ["old", "places"] (defScope spairs) := ⟨rfl, rfl, rfl, by decide +kernel, rfl, by decide +kernel, by decide +kernel⟩
theorem okpairs {P : Program} {w : World} {K : PySem.W.Frag} {mg : Str → Option Value} {base : Heap} {cl : Nat → Addr} {f : Addr} {fd : FuncData} (F : Fun K "pairs" "pairs" spairs f fd) (T : Tx K mg cl) {f_points_young : Addr} {fd_points_young : FuncData} (D_points_young : Dn P w K mg base 1 "points_young" f_points_young fd_points_young ["value"] (spM cl 1 mpoints_young)) :
    FnOk P w K mg base (L2.CX P w) 2 f fd ["old", "places"] (spM cl 2 mpairs) :=
  fn_ok F scpairs rfl rfl fun cdv A outer s0 H E hr => (st_one (st_ret (e_tuple rfl T.b_tuple (tE_of_tF (e_lc2 (own := [("place", 2), ("k", 3), ("value", 4)]) (n := 2) (vs1 := [3, 4]) rfl scpairs.nd (i_var 1) (blkOk_by (N := Npairs) (sc := defScope spairs) (by decide +kernel)) (by decide) (by decide) (fun _ _ _ _ _ => (pg_name (i := 2) scpairs.nd rfl (Or.inl rfl))) (fun _ _ _ _ _ => ts_nil) (fun _ _ _ _ _ => (i_enumT0 rfl T.b_enumerate (e_ix (e_ix (e_var 0) (e_var 2)) e_int))) (fun _ _ _ _ _ => (gc_tup rfl (by decide) (pg_tup rfl (pgs_cons (pg_name (i := 3) scpairs.nd rfl (Or.inl rfl)) (pgs_cons (pg_name (i := 4) scpairs.nd rfl (Or.inl rfl)) pgs_nil))))) (fun _ _ _ _ _ => (ts_one (t_val (tE_of_tF (e_callN D_points_young.ok (hr.mono (by decide)) rfl D_points_young.g D_points_young.k D_points_young.b (a_cons (e_var 4) a_nil)))))) (fun _ _ _ _ _ => (e_tup (a_cons (e_var 2) (a_cons (e_var 3) a_nil)))))))))
abbrev s_law_value_by : Stmt := top 11
abbrev N_law_value_by : List Str := ["_law_script", "_law_k", "_law_sizes", "_law_number", "_law_rest"]
theorem sc_law_value_by : FnScope N_law_value_by ["_law_script", "_law_k", "_law_sizes"] (defScope s_law_value_by) := ⟨rfl, rfl, rfl, by decide +kernel, rfl, by decide +kernel, by decide +kernel⟩
theorem ok_law_value_by {P : Program} {w : World} {K : PySem.W.Frag} {mg : Str → Option Value} {base : Heap} {cl : Nat → Addr} {f : Addr} {fd : FuncData} (F : Fun K "_law_value_by" "_law_value_by" s_law_value_by f fd) (T : Tx K mg cl) {f__law_cell_at : Addr} {fd__law_cell_at : FuncData} (D__law_cell_at : Dn P w K mg base 1 "_law_cell_at" f__law_cell_at fd__law_cell_at ["_law_script", "_law_k"] (spM cl 2 m_law_cell_at)) {f__law_mixed : Addr} {fd__law_mixed : FuncData} (D__law_mixed : Dn P w K mg base 1 "_law_mixed" f__law_mixed fd__law_mixed ["_law_script", "_law_k"] (spM cl 2 m_law_mixed)) :
    FnOk P w K mg base (L2.CX P w) 2 f fd ["_law_script", "_law_k", "_law_sizes"] (spM cl 3 m_law_value_by) :=
  fn_ok F sc_law_value_by rfl rfl fun cdv A outer s0 H E hr => (st_cons (st_asg 3 sc_law_value_by.nd rfl (Or.inl rfl) rfl (tE_of_tF (e_call D__law_mixed.ok (hr.mono (by decide)) rfl D__law_mixed.g D__law_mixed.k D__law_mixed.b takesE (a_cons (e_var 0) (a_cons (e_var 1) a_nil)))))
(st_cons (st_asg 4 sc_law_value_by.nd rfl (Or.inl rfl) rfl (e_div (e_var 3) e_int))
(st_cons (st_if (t_cp (c_eq hr.units) (e_mod (e_var 3) e_int) e_int)
(st_one (st_ret e_non))
st_nil)
(st_cons (st_if (t_cp (c_eq hr.units) (e_mod (e_var 3) e_int) e_int)
(st_one (st_ret (e_mul (e_mod (tE_of_tF (e_call D__law_cell_at.ok (hr.mono (by decide)) rfl D__law_cell_at.g D__law_cell_at.k D__law_cell_at.b takesE (a_cons (e_var 0) (a_cons (e_mod (e_var 1) (e_max2 rfl rfl T.b_max e_int (e_len rfl T.b_len (e_var 0)))) a_nil)))) (e_pow e_int e_int)) (e_ix (tE_of_tF (e_lst (a_cons e_int (a_cons (e_neg e_int) a_nil)))) (e_mod (e_var 4) e_int)))))
st_nil)
(st_cons (st_if (PW.pt (w_and (t_cp (c_lt hr.units0) (e_mod (e_var 3) e_int) e_int) (w_and1 (t_cp c_gt (e_ix (e_var 2) e_int) e_int))))
(st_one (st_ret (e_tup (a_cons e_str (a_cons (e_mod (e_var 4) (e_ix (e_var 2) e_int)) a_nil)))))
st_nil)
(st_cons (st_if (PW.pt (w_and (t_cp c_gt (e_mod (e_var 3) e_int) e_int) (w_and1 (t_cp c_gt (e_ix (e_var 2) e_int) e_int))))
(st_one (st_ret (e_tup (a_cons e_str (a_cons (e_mod (e_var 4) (e_ix (e_var 2) e_int)) a_nil)))))
st_nil)
(st_one (st_ret (e_sub (e_mod (e_var 4) e_int) e_int)))))))))
abbrev s_law_chained : Stmt := top 15
abbrev N_law_chained : List Str := ["_law_half", "_law_word", "_law_sizes", "_law_rows", "_law_k"]
theorem sc_law_chained : FnScope N_law_chained ["_law_half", "_law_word", "_law_sizes"] (defScope s_law_chained) := ⟨rfl, rfl, rfl, by decide +kernel, rfl, by decide +kernel, by decide +kernel⟩
theorem ok_law_chained {P : Program} {w : World} {K : PySem.W.Frag} {mg : Str → Option Value} {base : Heap} {cl : Nat → Addr} {f : Addr} {fd : FuncData} (F : Fun K "_law_chained" "_law_chained" s_law_chained f fd) (T : Tx K mg cl) {f__law_next : Addr} {fd__law_next : FuncData} (D__law_next : Dn P w K mg base 1 "_law_next" f__law_next fd__law_next ["_law_word", "_law_k", "_law_sizes"] (spM cl 3 m_law_next)) :
    FnOk P w K mg base (L2.CX P w) 2 f fd ["_law_half", "_law_word", "_law_sizes"] (spM cl 3 m_law_chained) :=
  fn_ok F sc_law_chained rfl rfl fun cdv A outer s0 H E hr => (st_cons (st_new true 3 sc_law_chained.nd rfl (Or.inl rfl) rfl (e_lst a_nil))
(st_cons (st_for (passes_of rfl) rfl (i_rng1 rfl T.b_range (e_len rfl T.b_len (e_var 0))) (gs_name rfl (pg_name (i := 4) sc_law_chained.nd rfl (Or.inl rfl)))
(st_one (st_app 3 rfl rfl (Or.inl rfl) (e_tup (a_cons (e_ix (e_ix (e_var 0) (e_var 4)) e_int) (a_cons (e_add (e_ix (e_ix (e_var 0) (e_var 4)) e_int) (e_tup (a_cons (tE_of_tF (e_call D__law_next.ok (hr.mono (by decide)) rfl D__law_next.g D__law_next.k D__law_next.b takesE (a_cons (e_var 1) (a_cons (e_var 4) (a_cons (e_var 2) a_nil))))) a_nil))) a_nil))))))
(st_one (st_ret (e_tuple rfl T.b_tuple (e_var 3))))))
abbrev s_law_due_of : Stmt := top 21
abbrev N_law_due_of : List Str := ["_law_heap", "_law_value", "_law_half", "_law_thing"]
theorem sc_law_due_of : FnScope N_law_due_of ["_law_heap"] (defScope s_law_due_of) := ⟨rfl, rfl, rfl, by decide +kernel, rfl, by decide +kernel, by decide +kernel⟩
theorem ok_law_due_of {P : Program} {w : World} {K : PySem.W.Frag} {mg : Str → Option Value} {base : Heap} {cl : Nat → Addr} {f : Addr} {fd : FuncData} (F : Fun K "_law_due_of" "_law_due_of" s_law_due_of f fd) (T : Tx K mg cl) {f__law_book_of : Addr} {fd__law_book_of : FuncData} (D__law_book_of : Dn P w K mg base 1 "_law_book_of" f__law_book_of fd__law_book_of ["_law_old"] (spM cl 1 m_law_book_of)) {f__law_leads : Addr} {fd__law_leads : FuncData} (D__law_leads : Dn P w K mg base 1 "_law_leads" f__law_leads fd__law_leads ["_law_heap", "_law_pointer"] (spM cl 2 m_law_leads)) :
    FnOk P w K mg base (L2.CX P w) 2 f fd ["_law_heap"] (spM cl 1 m_law_due_of) :=
  fn_ok F sc_law_due_of rfl rfl fun cdv A outer s0 H E hr => (st_cons (st_for (passes_of rfl) rfl (i_tup (e_ix (e_var 0) e_int)) (gs_name rfl (pg_name (i := 1) sc_law_due_of.nd rfl (Or.inl rfl)))
(st_one (st_if (PW.pt (w_and (t_val (e_isi ty_tuple rfl T.b_isinstance rfl T.b_tuple (e_var 1))) (w_and1 (t_not (t_val (tE_of_tF (e_call D__law_leads.ok (hr.mono (by decide)) rfl D__law_leads.g D__law_leads.k D__law_leads.b takesE (a_cons (e_var 0) (a_cons (e_var 1) a_nil)))))))))
(st_one (st_ret e_bl))
st_nil)))
(st_cons (st_for (passes_of rfl) rfl (i_lst (e_lst (a_cons (e_ix (e_var 0) e_int) (a_cons (e_ix (e_var 0) e_int) a_nil)))) (gs_name rfl (pg_name (i := 2) sc_law_due_of.nd rfl (Or.inl rfl)))
(st_one (st_for (passes_of rfl) rfl (i_var 2) (gs_name rfl (pg_name (i := 3) sc_law_due_of.nd rfl (Or.inl rfl)))
(st_one (st_for (passes_of rfl) rfl (i_tup (e_ix (e_var 3) e_int)) (gs_name rfl (pg_name (i := 1) sc_law_due_of.nd rfl (Or.inl rfl)))
(st_one (st_if (PW.pt (w_and (t_val (e_isi ty_tuple rfl T.b_isinstance rfl T.b_tuple (e_var 1))) (w_and1 (t_not (t_val (tE_of_tF (e_call D__law_leads.ok (hr.mono (by decide)) rfl D__law_leads.g D__law_leads.k D__law_leads.b takesE (a_cons (e_var 0) (a_cons (e_var 1) a_nil)))))))))
(st_one (st_ret e_bl))
st_nil)))))))
(st_one (st_ret (e_cp (c_eq hr.units) (e_ix (e_var 0) e_int) (tE_of_tF (e_call D__law_book_of.ok (hr.mono (by decide)) rfl D__law_book_of.g D__law_book_of.k D__law_book_of.b takesE (a_cons (e_ix (e_var 0) e_int) a_nil))))))))
abbrev sstray : Stmt := top 5
abbrev Nstray : List Str := ["heap", "value"]
theorem scstray : FnScope Nstray ["heap", "value"] (defScope sstray) := ⟨rfl, rfl, rfl, by decide +kernel, rfl, by decide +kernel, by decide +kernel⟩
abbrev swhole_book : Stmt := top 7
abbrev Nwhole_book : List Str := ["old"]
theorem scwhole_book : FnScope Nwhole_book ["old"] (defScope swhole_book) := ⟨rfl, rfl, rfl, by decide +kernel, rfl, by decide +kernel, by decide +kernel⟩
theorem okwhole_book {P : Program} {w : World} {K : PySem.W.Frag} {mg : Str → Option Value} {base : Heap} {cl : Nat → Addr} {f : Addr} {fd : FuncData} (F : Fun K "whole_book" "whole_book" swhole_book f fd) (T : Tx K mg cl) {f_pairs : Addr} {fd_pairs : FuncData} (D_pairs : Dn P w K mg base 2 "pairs" f_pairs fd_pairs ["old", "places"] (spM cl 2 mpairs)) :
    FnOk P w K mg base (L2.CX P w) 3 f fd ["old"] (spM cl 1 mwhole_book) :=
  fn_ok F scwhole_book rfl rfl fun cdv A outer s0 H E hr => (st_one (st_retF (e_call D_pairs.ok (hr.mono (by decide)) rfl D_pairs.g D_pairs.k D_pairs.b takesE (a_cons (e_var 0) (a_cons (tE_of_tF (e_listR1 rfl rfl T.b_list rfl T.b_range (e_len rfl T.b_len (e_var 0)))) a_nil)))))
abbrev s_law_thing_by : Stmt := top 12
abbrev N_law_thing_by : List Str := ["_law_script", "_law_k", "_law_sizes", "_law_number", "_law_many", "_law_age", "_law_j"]
theorem sc_law_thing_by : FnScope N_law_thing_by ["_law_script", "_law_k", "_law_sizes"] (defScope s_law_thing_by) := ⟨rfl, rfl, rfl, by decide +kernel, rfl, by decide +kernel, by decide +kernel⟩
theorem ok_law_thing_by {P : Program} {w : World} {K : PySem.W.Frag} {mg : Str → Option Value} {base : Heap} {cl : Nat → Addr} {f : Addr} {fd : FuncData} (F : Fun K "_law_thing_by" "_law_thing_by" s_law_thing_by f fd) (T : Tx K mg cl) {f__law_cell_at : Addr} {fd__law_cell_at : FuncData} (D__law_cell_at : Dn P w K mg base 1 "_law_cell_at" f__law_cell_at fd__law_cell_at ["_law_script", "_law_k"] (spM cl 2 m_law_cell_at)) {f__law_mixed : Addr} {fd__law_mixed : FuncData} (D__law_mixed : Dn P w K mg base 1 "_law_mixed" f__law_mixed fd__law_mixed ["_law_script", "_law_k"] (spM cl 2 m_law_mixed)) {f__law_value_by : Addr} {fd__law_value_by : FuncData} (D__law_value_by : Dn P w K mg base 2 "_law_value_by" f__law_value_by fd__law_value_by ["_law_script", "_law_k", "_law_sizes"] (spM cl 3 m_law_value_by)) :
    FnOk P w K mg base (L2.CX P w) 3 f fd ["_law_script", "_law_k", "_law_sizes"] (spM cl 3 m_law_thing_by) :=
  fn_ok F sc_law_thing_by rfl rfl fun cdv A outer s0 H E hr => (st_cons (st_asg 3 sc_law_thing_by.nd rfl (Or.inl rfl) rfl (tE_of_tF (e_call D__law_mixed.ok (hr.mono (by decide)) rfl D__law_mixed.g D__law_mixed.k D__law_mixed.b takesE (a_cons (e_var 0) (a_cons (e_var 1) a_nil)))))
(st_cons (st_asg 4 sc_law_thing_by.nd rfl (Or.inl rfl) rfl (e_mod (e_var 3) e_int))
(st_cons (st_if (t_cp (c_eq hr.units) (e_mod (e_div (e_var 3) e_int) e_int) e_int)
(st_one (st_asg 4 sc_law_thing_by.nd rfl (Or.inl rfl) rfl (e_mod (e_div (e_var 3) e_int) e_int)))
st_nil)
(st_cons (st_asg 5 sc_law_thing_by.nd rfl (Or.inl rfl) rfl (e_mod (e_div (e_var 3) e_int) e_int))
(st_cons (st_if (t_cp (c_eq hr.units) (e_mod (e_div (e_var 3) e_int) e_int) e_int)
(st_one (st_asg 5 sc_law_thing_by.nd rfl (Or.inl rfl) rfl (e_mod (tE_of_tF (e_call D__law_cell_at.ok (hr.mono (by decide)) rfl D__law_cell_at.g D__law_cell_at.k D__law_cell_at.b takesE (a_cons (e_var 0) (a_cons (e_mod (e_var 1) (e_max2 rfl rfl T.b_max e_int (e_len rfl T.b_len (e_var 0)))) a_nil)))) (e_pow e_int e_int))))
st_nil)
(st_one (st_ret (e_tup (a_cons (e_var 5) (a_cons (e_tuple rfl T.b_tuple (tE_of_tF (e_lc (own := [("_law_j", 6)]) rfl sc_law_thing_by.nd (i_rng1 rfl T.b_range (e_var 4)) (blkOk_by (N := N_law_thing_by) (sc := defScope s_law_thing_by) (by decide +kernel)) (fun _ _ _ _ _ => (gc_name (by decide) (pg_name (i := 6) sc_law_thing_by.nd rfl (Or.inl rfl)))) (fun _ _ _ _ _ => ts_nil) (fun _ _ _ _ _ => (tE_of_tF (e_callN D__law_value_by.ok (hr.mono (by decide)) rfl D__law_value_by.g D__law_value_by.k D__law_value_by.b (a_cons (e_var 0) (a_cons (e_add (e_add (e_var 1) e_int) (e_var 6)) (a_cons (e_var 2) a_nil))))))))) a_nil))))))))))
abbrev s_law_heap_by : Stmt := top 16
abbrev N_law_heap_by : List Str := ["_law_script", "_law_sizes", "_law_k", "_law_young", "_law_old", "_law_roots"]
theorem sc_law_heap_by : FnScope N_law_heap_by ["_law_script"] (defScope s_law_heap_by) := ⟨rfl, rfl, rfl, by decide +kernel, rfl, by decide +kernel, by decide +kernel⟩
theorem ok_law_heap_by {P : Program} {w : World} {K : PySem.W.Frag} {mg : Str → Option Value} {base : Heap} {cl : Nat → Addr} {f : Addr} {fd : FuncData} (F : Fun K "_law_heap_by" "_law_heap_by" s_law_heap_by f fd) (T : Tx K mg cl) {f__law_book_of : Addr} {fd__law_book_of : FuncData} (D__law_book_of : Dn P w K mg base 1 "_law_book_of" f__law_book_of fd__law_book_of ["_law_old"] (spM cl 1 m_law_book_of)) {f__law_cell_at : Addr} {fd__law_cell_at : FuncData} (D__law_cell_at : Dn P w K mg base 1 "_law_cell_at" f__law_cell_at fd__law_cell_at ["_law_script", "_law_k"] (spM cl 2 m_law_cell_at)) {f__law_chained : Addr} {fd__law_chained : FuncData} (D__law_chained : Dn P w K mg base 2 "_law_chained" f__law_chained fd__law_chained ["_law_half", "_law_word", "_law_sizes"] (spM cl 3 m_law_chained)) {f__law_thing_by : Addr} {fd__law_thing_by : FuncData} (D__law_thing_by : Dn P w K mg base 3 "_law_thing_by" f__law_thing_by fd__law_thing_by ["_law_script", "_law_k", "_law_sizes"] (spM cl 3 m_law_thing_by)) {f__law_value_by : Addr} {fd__law_value_by : FuncData} (D__law_value_by : Dn P w K mg base 2 "_law_value_by" f__law_value_by fd__law_value_by ["_law_script", "_law_k", "_law_sizes"] (spM cl 3 m_law_value_by)) :
    FnOk P w K mg base (L2.CX P w) 4 f fd ["_law_script"] (spM cl 1 m_law_heap_by) :=
  fn_ok F sc_law_heap_by rfl rfl fun cdv A outer s0 H E hr => (st_cons (st_new true 1 sc_law_heap_by.nd rfl (Or.inr rfl) rfl (e_lst (a_cons (e_mod (tE_of_tF (e_call D__law_cell_at.ok (hr.mono (by decide)) rfl D__law_cell_at.g D__law_cell_at.k D__law_cell_at.b takesE (a_cons (e_var 0) (a_cons e_int a_nil)))) e_int) (a_cons (e_mod (tE_of_tF (e_call D__law_cell_at.ok (hr.mono (by decide)) rfl D__law_cell_at.g D__law_cell_at.k D__law_cell_at.b takesE (a_cons (e_var 0) (a_cons e_int a_nil)))) e_int) (a_cons (e_mod (tE_of_tF (e_call D__law_cell_at.ok (hr.mono (by decide)) rfl D__law_cell_at.g D__law_cell_at.k D__law_cell_at.b takesE (a_cons (e_var 0) (a_cons e_int a_nil)))) e_int) a_nil)))))
(st_cons (st_for (passes_of rfl) rfl (i_rng1 rfl T.b_range e_int) (gs_name rfl (pg_name (i := 2) sc_law_heap_by.nd rfl (Or.inl rfl)))
(st_one (st_if (t_cp (c_eq hr.units) (e_mod (e_div (tE_of_tF (e_call D__law_cell_at.ok (hr.mono (by decide)) rfl D__law_cell_at.g D__law_cell_at.k D__law_cell_at.b takesE (a_cons (e_var 0) (a_cons (e_var 2) a_nil)))) e_int) e_int) e_int)
(st_one (st_setL 1 rfl (e_mod (e_mod (e_mul (tE_of_tF (e_call D__law_cell_at.ok (hr.mono (by decide)) rfl D__law_cell_at.g D__law_cell_at.k D__law_cell_at.b takesE (a_cons (e_var 0) (a_cons (e_var 2) a_nil)))) e_int) e_int) e_int) (pg_sub (pv 1) (e_var 2) set_list)))
st_nil)))
(st_cons (st_asg 3 sc_law_heap_by.nd rfl (Or.inl rfl) rfl (e_tuple rfl T.b_tuple (tE_of_tF (e_lc (own := [("_law_k", 2)]) rfl sc_law_heap_by.nd (i_rng1 rfl T.b_range (e_ix (e_var 1) e_int)) (blkOk_by (N := N_law_heap_by) (sc := defScope s_law_heap_by) (by decide +kernel)) (fun _ _ _ _ _ => (gc_name (by decide) (pg_name (i := 2) sc_law_heap_by.nd rfl (Or.inl rfl)))) (fun _ _ _ _ _ => ts_nil) (fun _ _ _ _ _ => (tE_of_tF (e_callN D__law_thing_by.ok (hr.mono (by decide)) rfl D__law_thing_by.g D__law_thing_by.k D__law_thing_by.b (a_cons (e_var 0) (a_cons (e_mul e_int (e_var 2)) (a_cons (e_var 1) a_nil))))))))))
(st_cons (st_asg 4 sc_law_heap_by.nd rfl (Or.inl rfl) rfl (e_tuple rfl T.b_tuple (tE_of_tF (e_lc (own := [("_law_k", 2)]) rfl sc_law_heap_by.nd (i_rng1 rfl T.b_range (e_ix (e_var 1) e_int)) (blkOk_by (N := N_law_heap_by) (sc := defScope s_law_heap_by) (by decide +kernel)) (fun _ _ _ _ _ => (gc_name (by decide) (pg_name (i := 2) sc_law_heap_by.nd rfl (Or.inl rfl)))) (fun _ _ _ _ _ => ts_nil) (fun _ _ _ _ _ => (tE_of_tF (e_callN D__law_thing_by.ok (hr.mono (by decide)) rfl D__law_thing_by.g D__law_thing_by.k D__law_thing_by.b (a_cons (e_var 0) (a_cons (e_add e_int (e_mul e_int (e_var 2))) (a_cons (e_var 1) a_nil))))))))))
(st_cons (st_asg 5 sc_law_heap_by.nd rfl (Or.inl rfl) rfl (e_tuple rfl T.b_tuple (tE_of_tF (e_lc (own := [("_law_k", 2)]) rfl sc_law_heap_by.nd (i_rng1 rfl T.b_range (e_ix (e_var 1) e_int)) (blkOk_by (N := N_law_heap_by) (sc := defScope s_law_heap_by) (by decide +kernel)) (fun _ _ _ _ _ => (gc_name (by decide) (pg_name (i := 2) sc_law_heap_by.nd rfl (Or.inl rfl)))) (fun _ _ _ _ _ => ts_nil) (fun _ _ _ _ _ => (tE_of_tF (e_callN D__law_value_by.ok (hr.mono (by decide)) rfl D__law_value_by.g D__law_value_by.k D__law_value_by.b (a_cons (e_var 0) (a_cons (e_add e_int (e_var 2)) (a_cons (e_var 1) a_nil))))))))))
(st_cons (st_if (PW.pt (w_or (t_cp (c_eq hr.units) (e_mod (e_div (tE_of_tF (e_call D__law_cell_at.ok (hr.mono (by decide)) rfl D__law_cell_at.g D__law_cell_at.k D__law_cell_at.b takesE (a_cons (e_var 0) (a_cons e_int a_nil)))) e_int) e_int) e_int) (w_or1 (t_cp (c_eq hr.units) (e_mod (tE_of_tF (e_call D__law_cell_at.ok (hr.mono (by decide)) rfl D__law_cell_at.g D__law_cell_at.k D__law_cell_at.b takesE (a_cons (e_var 0) (a_cons e_int a_nil)))) e_int) e_int))))
(st_cons (st_asg 3 sc_law_heap_by.nd rfl (Or.inl rfl) rfl (tE_of_tF (e_call D__law_chained.ok (hr.mono (by decide)) rfl D__law_chained.g D__law_chained.k D__law_chained.b takesE (a_cons (e_var 3) (a_cons e_str (a_cons (e_var 1) a_nil))))))
(st_cons (st_asg 4 sc_law_heap_by.nd rfl (Or.inl rfl) rfl (tE_of_tF (e_call D__law_chained.ok (hr.mono (by decide)) rfl D__law_chained.g D__law_chained.k D__law_chained.b takesE (a_cons (e_var 4) (a_cons e_str (a_cons (e_var 1) a_nil))))))
(st_one (st_if (t_cp c_gt (e_ix (e_var 1) e_int) e_int)
(st_one (st_asg 5 sc_law_heap_by.nd rfl (Or.inl rfl) rfl (e_add (e_tup (a_cons (e_tup (a_cons e_str (a_cons e_int a_nil))) a_nil)) (e_sl (e_var 5) (o_some e_int) o_none))))
st_nil))))
st_nil)
(st_one (st_ret (e_tup (a_cons (e_var 3) (a_cons (e_var 4) (a_cons (e_var 5) (a_cons (tE_of_tF (e_call D__law_book_of.ok (hr.mono (by decide)) rfl D__law_book_of.g D__law_book_of.k D__law_book_of.b takesE (a_cons (e_var 4) a_nil))) a_nil)))))))))))))
abbrev ssound : Stmt := top 2
abbrev Nsound : List Str := ["heap", "rows", "row", "young", "old", "roots", "book", "_", "fields"]
theorem scsound : FnScope Nsound ["heap"] (defScope ssound) := ⟨rfl, rfl, rfl, by decide +kernel, rfl, by decide +kernel, by decide +kernel⟩
abbrev slaw : Stmt := top 22
abbrev Nlaw : List Str := ["_law_script", "_law_heap", "_law_way", "_law_found", "_law_far", "_law_odd", "_law_book"]
theorem sclaw : FnScope Nlaw ["_law_script"] (defScope slaw) := ⟨rfl, rfl, rfl, by decide +kernel, rfl, by decide +kernel, by decide +kernel⟩
end Kp

/-! expressions and defs that only read: what they answer, and that every object stays as it is, whatever runs around -/
namespace H1
open PySem PySem.Spec PyProof.Rows L2 Fw

abbrev Kp (B h : Heap) : Prop := ∀ b o, B.get? b = some o → h.get? b = some o
mutual
/-- data in a heap -/
def Dh (h : Heap) : Dt → Value → Prop
  | .non, u => u = .none
  | .bl b, u => u = .bool b
  | .int i, u => ∃ t, u = .int i t
  | .str x, u => ∃ t, u = .str x t
  | .adr _, _ => True
  | .tup l, u => ∃ a us, u = .ref a ∧ IsTup h a us.toArray ∧ us.length ≤ sizeLine ∧ Dhs h l us
def Dhs (h : Heap) : List Dt → List Value → Prop
  | [], us => us = []
  | x :: l, us => ∃ u r, us = u :: r ∧ Dh h x u ∧ Dhs h l r
end
mutual
theorem Dh.keep {h h' : Heap} (k : Kp h h') : ∀ {x : Dt} {u : Value}, Dh h x u → Dh h' x u
  | .non, _, r => r
  | .bl _, _, r => r
  | .int _, _, r => r
  | .str _, _, r => r
  | .adr _, _, r => r
  | .tup l, _, r => by
    obtain ⟨a, us, rfl, ha, hz, hr⟩ := r
    exact ⟨a, us, rfl, ha.keeps k, hz, Dhs.keep k hr⟩
theorem Dhs.keep {h h' : Heap} (k : Kp h h') : ∀ {x : List Dt} {u : List Value}, Dhs h x u → Dhs h' x u
  | [], _, r => r
  | x :: l, _, r => by
    obtain ⟨u, r', rfl, h1, h2⟩ := r
    exact ⟨u, r', rfl, Dh.keep k h1, Dhs.keep k h2⟩
end
theorem Dhs.length {h : Heap} : ∀ {x : List Dt} {u : List Value}, Dhs h x u → u.length = x.length
  | [], _, r => by cases r; rfl
  | x :: l, _, r => by
    obtain ⟨u, r', rfl, h1, h2⟩ := r
    show r'.length + 1 = l.length + 1
    rw [Dhs.length h2]
theorem Dhs.get {h : Heap} : ∀ {x : List Dt} {u : List Value} {i : Nat} {y : Dt}, Dhs h x u → x[i]? = some y → ∃ v, u[i]? = some v ∧ Dh h y v
  | [], _, i, y, r, e => by simp at e
  | x :: l, _, 0, y, r, e => by
    obtain ⟨u, r', rfl, h1, h2⟩ := r
    have e : x = y := Option.some.inj e
    subst e
    exact ⟨u, rfl, h1⟩
  | x :: l, _, i + 1, y, r, e => by
    obtain ⟨u, r', rfl, h1, h2⟩ := r
    exact Dhs.get (i := i) h2 e
/-- the tuples that the abstract heap knows -/
def TOk (H : Hp) (h : Heap) : Prop := ∀ a vs, H a = some (.tup vs) → vs.length ≤ sizeLine ∧ ∃ its, Vals vs its ∧ IsTup h a its.toArray
section
variable {H : Hp} {h : Heap}
mutual
theorem dh_of (ok : TOk H h) : ∀ {x : Dt} {v : V} {u : Value}, Rp H x v → RelV v u → Dh h x u
  | .non, _, _, r, q => by cases r; exact q
  | .bl _, _, _, r, q => by cases r; exact q
  | .int _, _, _, r, q => by cases r; exact q
  | .str _, _, _, r, q => by cases r; exact q
  | .adr _, _, _, r, q => trivial
  | .tup l, _, _, r, q => by
    obtain ⟨a, vs, rfl, ha, hr⟩ := r
    cases q
    obtain ⟨hz, its, rv, ht⟩ := ok a _ ha
    exact ⟨a, its, rfl, ht, by rw [← rv.length]; exact hz, dhs_of ok hr rv⟩
theorem dhs_of (ok : TOk H h) : ∀ {x : List Dt} {v : List V} {u : List Value}, Rps H x v → Vals v u → Dhs h x u
  | [], _, _, r, q => by
    cases r
    cases q
    exact rfl
  | x :: l, _, _, r, q => by
    obtain ⟨v, r', rfl, h1, h2⟩ := r
    cases q with
    | cons q1 q2 => exact ⟨_, _, rfl, dh_of ok h1 q1, dhs_of ok h2 q2⟩
end
end

theorem kp_refl (h : Heap) : Kp h h := fun _ _ e => e
theorem kp_trans {a b c : Heap} (h1 : Kp a b) (h2 : Kp b c) : Kp a c := fun x o e => h2 x o (h1 x o e)
theorem keeps_kp {s s' : Shared} (h : Keeps s s') : Kp s.heap s'.heap := by
  obtain ⟨h', tk, rfl, k⟩ := h
  exact k
theorem keeps_trans {a b c : Shared} (h1 : Keeps a b) (h2 : Keeps b c) : Keeps a c := by
  obtain ⟨h', tk, rfl, k⟩ := h1
  obtain ⟨h2, tk2, rfl, k2⟩ := h2
  exact ⟨h2, tk2, rfl, fun b o e => k2 b o (k b o e)⟩
theorem ks_tok (s : Shared) (k : Nat) : Keeps s { s with toks := k } := ⟨s.heap, k, rfl, fun _ _ e => e⟩
theorem ks_refl (s : Shared) : Keeps s s := ks_tok s s.toks

structure Fe (env : Env) : Prop where
  kind : env.scope.kind = .function
  glob : env.globals = mainGlobals
  blt : env.builtins = builtinsNs
structure Wo (K : PySem.W.Frag) (mg : Str → Option Value) (base B : Heap) : Prop where
  mod : Mod K mg base
  ext : Kp base B
  isi : mg "isinstance" = none
  tup : mg "tuple" = none
  len : mg "len" = none
  yg : ∃ t, mg "YOUNG" = some (.str "young" t)

def Ev (P : Program) (w : World) (A : Around) (B : Heap) (env : Env) (m : Str → Option Value) (e : Expr) (R : Value → Prop) : Prop :=
  ∀ (E : Value → Shared → Prop) (s : Shared), Kp B s.heap → s.heap.Ns env.locals m → wpAny (model P w) A (eval e env) (fun y s' => R y ∧ Keeps s s') E s
def Et (P : Program) (w : World) (A : Around) (B : Heap) (env : Env) (m : Str → Option Value) (e : Expr) (b : Bool) : Prop :=
  ∀ (E : Value → Shared → Prop) (s : Shared), Kp B s.heap → s.heap.Ns env.locals m → wpAny (model P w) A (isTrue e env (eval e env)) (fun y s' => y = b ∧ Keeps s s') E s
/-- a def by its values -/
def Fp (P : Program) (w : World) (B : Heap) (d : Nat) (f : Addr) (us : List Value) (R : Value → Prop) : Prop :=
  ∀ (A : Around) (E : Value → Shared → Prop) (s : Shared), A.depth + d ≤ recursionLimit → A.handled = none → Kp B s.heap → wpAny (model P w) A (call (.ref f) us) (fun y s' => R y ∧ Keeps s s') E s

section
variable {P : Program} {w : World} {A : Around} {K : PySem.W.Frag} {mg : Str → Option Value} {base B : Heap} {env : Env} {m : Str → Option Value} {a b c e : Expr} {p p2 pos : Pos} {R : Value → Prop}

theorem ev_imp {R' : Value → Prop} (h : Ev P w A B env m e R) (k : ∀ y, R y → R' y) : Ev P w A B env m e R' := fun E s kb hn => thn (h E s kb hn) fun y s' q => ⟨k y q.1, q.2⟩
theorem ev_var {x : Str} {u : Value} (F : Fe env) (hl : env.kindOf x = some .local) (hm : m x = some u) (r : R u) (hd : (x == ("__debug__" : Str)) = false := by decide) : Ev P w A B env m (.Name x p) R := fun E s kb hn =>
  wpAny_Name (wpAny_loadName_local F.kind hl hn hm ⟨r, ks_refl _⟩) hd
theorem ev_free {x : Str} {u : Value} {ca : Addr} (F : Fe env) (hl : env.kindOf x = some .free) (hc : env.cells.lookup x = some ca) (hi : B.IsCell ca (some u)) (r : R u) (hd : (x == ("__debug__" : Str)) = false := by decide) (hk : (x == ("__classdict__" : Str)) = false := by decide) :
    Ev P w A B env m (.Name x p) R := fun E s kb hn => wpAny_Name (wpAny_loadName_free F.kind hl hc (hi.keeps kb) ⟨r, ks_refl _⟩ hk) hd
theorem ev_int {i : Int} {j : Nat} : Ev P w A B env m (.Constant (.int i) j p) (fun y => ∃ t, y = .int i t) := fun E s kb hn => wpAny_Constant_int ⟨⟨_, rfl⟩, ks_tok _ _⟩
theorem ev_bl {i : Bool} {j : Nat} : Ev P w A B env m (.Constant (.bool i) j p) (fun y => y = .bool i) := fun E s kb hn => Constant_bool ⟨rfl, ks_refl _⟩
theorem ev_glob (W : Wo K mg base B) (F : Fe env) {x : Str} {u : Value} (hg : env.kindOf x = some .globalImplicit) (hm : mg x = some u) (r : R u) (hd : (x == ("__debug__" : Str)) = false := by decide) : Ev P w A B env m (.Name x p) R := fun E s kb hn =>
  Calls.Name_function_global F.kind hg (Calls.loadGlobal_global (by rw [F.glob]; exact W.mod.glob.keeps (kp_trans W.ext kb)) hm ⟨r, ks_refl _⟩) hd
theorem ld_b (W : Wo K mg base B) (F : Fe env) {x : Str} {u : Value} {E : Value → Shared → Prop} {s : Shared} {Q : Value → Shared → Prop} (kb : Kp B s.heap) (hg : env.kindOf x = some .globalImplicit) (hm : mg x = none) (hv : bootBuiltins x = some u) (h : Q u s)
    (hn : x ≠ "__name__" := by decide) (hd : (x == ("__debug__" : Str)) = false := by decide) : wpAny (model P w) A (eval (.Name x p) env) Q E s := by
  obtain ⟨mb, h1, h2⟩ := W.mod.blt
  exact Calls.Name_function_global F.kind hg (Calls.loadGlobal_builtin (by rw [F.glob]; exact W.mod.glob.keeps (kp_trans W.ext kb)) hm (by rw [F.blt]; exact h1.keeps (kp_trans W.ext kb)) ((h2 x hn).trans hv) h) hd
theorem et_val {d : Bool} (h : Ev P w A B env m e (fun y => y = .bool d)) (he : ∀ whole, isTrue e env whole = (do let v ← whole; standAt e.pos; holding [v] (truthy v)) := by intro _; rfl) : Et P w A B env m e d := fun E s kb hn =>
  isTrue_plain (thn (h E s kb hn) fun v s1 ⟨q, k⟩ => by
    rw [q]
    exact wpAny_truthy_bool ⟨rfl, k⟩) (he _)
theorem et_not {d : Bool} (h : Et P w A B env m e d) : Et P w A B env m (.UnaryOp .Not e p) (!d) := fun E s kb hn =>
  isTrue_not (thn (h E s kb hn) fun v s1 ⟨q, k⟩ => ⟨by rw [q], k⟩)
theorem ev_not {d : Bool} (h : Ev P w A B env m e (fun y => y = .bool d)) : Ev P w A B env m (.UnaryOp .Not e p) (fun y => y = .bool (!d)) := fun E s kb hn =>
  UnaryOp_ (thn (h E s kb hn) fun v s1 ⟨q, k⟩ => by
    rw [q]
    exact not_of (wpAny_truthy_bool ⟨rfl, k⟩))
theorem ev_and {d d' : Bool} {rest : List Expr} (h : Ev P w A B env m a (fun y => y = .bool d)) (h' : d = true → Ev P w A B env m (.BoolOp .And (b :: rest) p) (fun y => y = .bool d')) :
    Ev P w A B env m (.BoolOp .And (a :: b :: rest) p) (fun y => y = .bool (d && d')) := fun E s kb hn =>
  BoolOp_and (thn (h E s kb hn) fun v s1 ⟨q, k⟩ => by
    rw [q]
    refine wpAny_truthy_bool ?_
    cases d with
    | false => exact ⟨rfl, k⟩
    | true => exact thn (h' rfl E s1 (kp_trans kb (keeps_kp k)) (hn.keeps (keeps_kp k))) fun v2 s2 ⟨q2, k2⟩ => ⟨q2, keeps_trans k k2⟩)
theorem ev_one {op : BoolOp} (h : Ev P w A B env m a R) : Ev P w A B env m (.BoolOp op [a] p) R := fun E s kb hn => BoolOp_one (h E s kb hn)
theorem ev_ife {d : Bool} (hc : Et P w A B env m c d) (ha : d = true → Ev P w A B env m a R) (hb : d = false → Ev P w A B env m b R) : Ev P w A B env m (.IfExp c a b p) R := fun E s kb hn =>
  wpAny_IfExp (thn (hc E s kb hn) fun v s1 ⟨q, k⟩ => by
    subst q
    cases v with
    | true => exact thn (ha rfl E s1 (kp_trans kb (keeps_kp k)) (hn.keeps (keeps_kp k))) fun v2 s2 ⟨q2, k2⟩ => ⟨q2, keeps_trans k k2⟩
    | false => exact thn (hb rfl E s1 (kp_trans kb (keeps_kp k)) (hn.keeps (keeps_kp k))) fun v2 s2 ⟨q2, k2⟩ => ⟨q2, keeps_trans k k2⟩)
/-- x[k] of a tuple, k a small number -/
theorem ev_ix {l : List Dt} {i : Nat} {j : Nat} {x : Dt} (ha : Ev P w A B env m a (Dh B (.tup l))) (hx : l[i]? = some x) (hi : i < 1000000) :
    Ev P w A B env m (.Subscript a (.Constant (.int (i : Int)) j p) pos) (Dh B x) := fun E s kb hn =>
  Subscript_ (thn (ha E s kb hn) fun v s1 ⟨q, k⟩ => by
    obtain ⟨t, us, rfl, ht, hz, hr⟩ := q
    have kb1 := kp_trans kb (keeps_kp k)
    refine wpAny_Constant_int ?_
    obtain ⟨u, eu, du⟩ := hr.get hx
    have hlt : i < us.length := (List.getElem?_eq_some_iff.mp eu).1
    have ht1 : IsTup s1.heap t us.toArray := ht.keeps kb1
    have e1 : seqIndex? (i : Int) us.toArray.size = some i := by
      unfold seqIndex?
      simp
      omega
    exact subscriptTail_builtinR (x := u) ht1.typeIs slot_tuple_getitem.lookup
      (getItem_tuple (j := i) (Q := fun r s' => r = u ∧ (Dh B x r ∧ Keeps s s')) ht1 (by omega) (by omega) e1 (by simpa using eu) ⟨rfl, du, keeps_trans k (ks_tok _ _)⟩) rfl)
/-- x == y of two texts -/
theorem ev_eqs {x y : Str} (ha : Ev P w A B env m a (Dh B (.str x))) (hb : Ev P w A B env m b (Dh B (.str y))) (hm : behindInMarks .Eq b = false := by rfl) :
    Ev P w A B env m (.Compare a [.Eq] [b] p) (fun v => v = .bool (x.cps.toList == y.cps.toList)) := fun E s kb hn =>
  wpAny_Compare1 (thn (ha E s kb hn) fun v s1 ⟨q, k⟩ => thn (hb E s1 (kp_trans kb (keeps_kp k)) (hn.keeps (keeps_kp k))) fun u s2 ⟨q2, k2⟩ => by
    obtain ⟨t, rfl⟩ := q
    obtain ⟨t2, rfl⟩ := q2
    exact PySem.P.eq_str ⟨rfl, keeps_trans k k2⟩) hm
/-- i <= j < k -/
theorem ev_ch {i j k : Int} (ha : Ev P w A B env m a (fun y => ∃ t, y = .int i t)) (hb : Ev P w A B env m b (fun y => ∃ t, y = .int j t)) (hc : i ≤ j → Ev P w A B env m c (fun y => ∃ t, y = .int k t))
    (hm : lastMarks [.LtE, .Lt] [b, c] = false := by with_unfolding_all rfl) : Ev P w A B env m (.Compare a [.LtE, .Lt] [b, c] p) (fun v => v = .bool (decide (i ≤ j) && decide (j < k))) := fun E s kb hn =>
  Compare_chain (thn (ha E s kb hn) fun v s1 ⟨q, k1⟩ => chain_link (thn (hb E s1 (kp_trans kb (keeps_kp k1)) (hn.keeps (keeps_kp k1))) fun u s2 ⟨q2, k2⟩ => by
    obtain ⟨t, rfl⟩ := q
    obtain ⟨t2, rfl⟩ := q2
    refine PyProof.Rows.le_int (wpAny_truthy_bool ?_)
    have k12 := keeps_trans k1 k2
    by_cases h : i ≤ j
    · rw [decide_eq_true h]
      refine ite_tt (chain_last (thn (hc h E s2 (kp_trans kb (keeps_kp k12)) (hn.keeps (keeps_kp k12))) fun z s3 ⟨q3, k3⟩ => ?_))
      obtain ⟨t3, rfl⟩ := q3
      exact PyProof.Rows.lt_int ⟨rfl, keeps_trans k12 k3⟩
    · rw [decide_eq_false h]
      exact ite_ff ⟨rfl, k12⟩)) hm
/-- len of a tuple -/
theorem ev_len {l : List Dt} (W : Wo K mg base B) (F : Fe env) (hg : env.kindOf "len" = some .globalImplicit) (ha : Ev P w A B env m a (Dh B (.tup l)))
    (he : starEach [a] env = [(false, eval a env)] := by rfl) : Ev P w A B env m (.Call (.Name "len" p) [a] [] pos) (fun y => ∃ t, y = .int (l.length : Int) t) := fun E s kb hn => by
  refine wpAny_Call_Name_kw (ld_b W F kb hg W.len PySem.boot_len ?_)
  refine PyProof.Rows.callWith_builtin1 ?_ he (by rfl)
  rw [he]
  show wpAny _ _ (spliced ((false, eval a env) :: backTo pos (starEach [] env))) _ _ s
  refine Calls.spliced_cons (thn (ha E s kb hn) fun v s1 ⟨q, k⟩ => Calls.spliced_nil ?_)
  obtain ⟨t, us, rfl, ht, hz, hr⟩ := q
  have h63 := line63
  have hsz : us.toArray.size = l.length := by simp [hr.length]
  have fin : (∃ t, Value.int (us.toArray.size : Int) (s1.toks + 1) = .int (l.length : Int) t) ∧ Keeps s { s1 with toks := s1.toks + 1 + 1 } := ⟨⟨_, by rw [hsz]⟩, keeps_trans k (ks_tok _ _)⟩
  exact PyProof.Rows.len_tuple (ht.keeps (kp_trans kb (keeps_kp k))) (by simp; omega) fin
/-- isinstance(x, tuple) -/
def isTupD : Dt → Bool
  | .tup _ => true
  | _ => false
theorem ev_isi {x : Dt} (W : Wo K mg base B) (F : Fe env) (hg : env.kindOf "isinstance" = some .globalImplicit) (hg2 : env.kindOf "tuple" = some .globalImplicit) (hx : ∀ y, x ≠ .adr y) (ha : Ev P w A B env m a (Dh B x))
    (he : starEach [a, .Name "tuple" p2] env = (false, eval a env) :: starEach [.Name "tuple" p2] env := by rfl) :
    Ev P w A B env m (.Call (.Name "isinstance" p) [a, .Name "tuple" p2] [] pos) (fun y => y = .bool (isTupD x)) := fun E s kb hn => by
  refine wpAny_Call_Name_kw (ld_b W F kb hg W.isi PyProof.Rows.boot_isinstance ?_)
  refine PyProof.Rows.callWith_builtin1 ?_ he (by rfl)
  rw [he]
  show wpAny _ _ (spliced ((false, eval a env) :: (false, eval (.Name "tuple" p2) env) :: backTo pos (starEach [] env))) _ _ s
  refine Calls.spliced_cons (thn (ha E s kb hn) fun v s1 ⟨q, k⟩ => Calls.spliced_cons (ld_b W F (kp_trans kb (keeps_kp k)) hg2 W.tup ty_tuple.bt (Calls.spliced_nil ?_) ty_tuple.nn ty_tuple.nd))
  have kI : K.In s1.heap := W.mod.kin.keeps (kp_trans W.ext (kp_trans kb (keeps_kp k)))
  cases x with
  | non => cases q; exact PySem.W.kia_one PySem.W.kitx_none kI trivial (kit_ty ty_tuple.n1) (by simp) fun tk => ⟨rfl, keeps_trans k (ks_tok _ _)⟩
  | bl d => cases q; exact PySem.W.kia_one PySem.W.kitx_bool kI trivial (kit_ty ty_tuple.n2) (by simp) fun tk => ⟨rfl, keeps_trans k (ks_tok _ _)⟩
  | int i => obtain ⟨t, rfl⟩ := q; exact PySem.W.kia_one PySem.W.kitx_int kI trivial (kit_ty ty_tuple.n3) (by simp) fun tk => ⟨rfl, keeps_trans k (ks_tok _ _)⟩
  | str z => obtain ⟨t, rfl⟩ := q; exact PySem.W.kia_one PySem.W.kitx_str kI trivial (kit_ty ty_tuple.n4) (by simp) fun tk => ⟨rfl, keeps_trans k (ks_tok _ _)⟩
  | adr z => exact absurd rfl (hx z)
  | tup l =>
    obtain ⟨t, us, rfl, ht, hz, hr⟩ := q
    obtain ⟨o, ho, hc, _⟩ := ht.keeps (kp_trans kb (keeps_kp k))
    exact PySem.W.kia_one PySem.W.kitx_tuple kI ⟨o, ho, hc⟩ (kit_ty ty_tuple.n5) (by simp) fun tk => ⟨rfl, keeps_trans k (ks_tok _ _)⟩
/-- f(a), f(a, b) of one's own -/
theorem ev_call1 {nm : Str} {f : Addr} {R1 : Value → Prop} {d : Nat} (W : Wo K mg base B) (F : Fe env) (hg : env.kindOf nm = some .globalImplicit) (hm : mg nm = some (.ref f)) (hk : PySem.W.keepIn K (.ref f) = true) (ha : Ev P w A B env m a R1) (hf : ∀ u, R1 u → Fp P w B d f [u] R)
    (hd : A.depth + d ≤ recursionLimit) (hh : A.handled = none) (hdb : (nm == ("__debug__" : Str)) = false := by decide) (he : starEach [a] env = [(false, eval a env)] := by rfl) : Ev P w A B env m (.Call (.Name nm p) [a] [] pos) R := fun E s kb hn => by
  refine wpAny_Call_Name_kw (Calls.Name_function_global F.kind hg (Calls.loadGlobal_global (by rw [F.glob]; exact W.mod.glob.keeps (kp_trans W.ext kb)) hm ?_) hdb)
  refine PySem.W.callWith_K (h₀ := base) W.mod.kin hk ?_ he (by rfl)
  rw [he]
  show wpAny _ _ (spliced ((false, eval a env) :: backTo pos (starEach [] env))) _ _ s
  refine Calls.spliced_cons (thn (ha E s kb hn) fun v s1 ⟨q, k⟩ => Calls.spliced_nil ⟨W.mod.kin.keeps (kp_trans W.ext (kp_trans kb (keeps_kp k))), ?_⟩)
  exact thn (hf v q A E s1 hd hh (kp_trans kb (keeps_kp k))) fun y s2 ⟨q2, k2⟩ => ⟨q2, keeps_trans k k2⟩
theorem ev_call2 {nm : Str} {f : Addr} {R1 R2 : Value → Prop} {d : Nat} (W : Wo K mg base B) (F : Fe env) (hg : env.kindOf nm = some .globalImplicit) (hm : mg nm = some (.ref f)) (hk : PySem.W.keepIn K (.ref f) = true) (ha : Ev P w A B env m a R1) (hb : Ev P w A B env m b R2)
    (hf : ∀ u v, R1 u → R2 v → Fp P w B d f [u, v] R)
    (hd : A.depth + d ≤ recursionLimit) (hh : A.handled = none) (hdb : (nm == ("__debug__" : Str)) = false := by decide) (he : starEach [a, b] env = (false, eval a env) :: starEach [b] env := by rfl) (he2 : starEach [b] env = [(false, eval b env)] := by rfl) : Ev P w A B env m (.Call (.Name nm p) [a, b] [] pos) R := fun E s kb hn => by
  refine wpAny_Call_Name_kw (Calls.Name_function_global F.kind hg (Calls.loadGlobal_global (by rw [F.glob]; exact W.mod.glob.keeps (kp_trans W.ext kb)) hm ?_) hdb)
  refine PySem.W.callWith_K (h₀ := base) W.mod.kin hk ?_ he (by rw [he2]; rfl)
  rw [he, he2]
  show wpAny _ _ (spliced ((false, eval a env) :: (false, eval b env) :: backTo pos (starEach [] env))) _ _ s
  refine Calls.spliced_cons (thn (ha E s kb hn) fun v s1 ⟨q, k⟩ => Calls.spliced_cons (thn (hb E s1 (kp_trans kb (keeps_kp k)) (hn.keeps (keeps_kp k))) fun v2 s2 ⟨q2, k2⟩ => Calls.spliced_nil ⟨W.mod.kin.keeps (kp_trans W.ext (kp_trans kb (keeps_kp (keeps_trans k k2)))), ?_⟩))
  exact thn (hf v v2 q q2 A E s2 hd hh (kp_trans kb (keeps_kp (keeps_trans k k2)))) fun y s3 ⟨q3, k3⟩ => ⟨q3, keeps_trans (keeps_trans k k2) k3⟩
end
end H1

namespace H1
open PySem PySem.Spec PyProof.Rows L2 Fw

/-- a body that ends by return -/
def Es (P : Program) (w : World) (A : Around) (B : Heap) (env : Env) (m : Str → Option Value) (sts : List Stmt) (R : Value → Prop) : Prop :=
  ∀ (E : Value → Shared → Prop) (s₀ s : Shared), Kp B s₀.heap → InCall s₀ env.locals m s → wpAny (model P w) A (execs sts env) (fun fl s' => ∃ y, fl = .ret y ∧ R y ∧ Keeps s₀ s') E s

theorem incall_keeps {s₀ s s' : Shared} {L : Addr} {m : Str → Option Value} (x : InCall s₀ L m s) (k : Keeps s s') : InCall s₀ L m s' := by
  have kk := keeps_kp k
  obtain ⟨h', tk, rfl, k⟩ := k
  obtain ⟨h1, tk1, rfl⟩ := x.same
  exact ⟨⟨h', tk, rfl⟩, x.ns.keeps kk, fun b o e => kk b o (x.keep b o e), x.fresh⟩
theorem keeps_of {s₀ s : Shared} {L : Addr} {m : Str → Option Value} (x : InCall s₀ L m s) : Keeps s₀ s := x.done

section
variable {P : Program} {w : World} {A : Around} {K : PySem.W.Frag} {mg : Str → Option Value} {base B : Heap} {env : Env} {m : Str → Option Value} {a b c e : Expr} {p p2 pos : Pos} {R : Value → Prop} {rest sa : List Stmt}
theorem es_ret (h : Ev P w A B env m e R) : Es P w A B env m (.Return (some e) pos :: rest) R := fun E s₀ s kb x =>
  wpAny_execs_cons (wpAny_Return_some (thn (h E s (kp_trans kb x.keep) x.ns) fun y s1 ⟨q, k⟩ => ⟨y, rfl, q, keeps_trans (keeps_of x) k⟩))
theorem es_if {d : Bool} (hc : Et P w A B env m c d) (ha : d = true → Es P w A B env m sa R) (hb : d = false → Es P w A B env m rest R) : Es P w A B env m (.If c sa [] pos :: rest) R := fun E s₀ s kb x =>
  wpAny_execs_cons (wpAny_If (thn (hc E s (kp_trans kb x.keep) x.ns) fun y s1 ⟨q, k⟩ => by
    subst q
    have x1 := incall_keeps x k
    cases y with
    | true =>
      rw [if_pos rfl]
      refine thn (ha rfl E s₀ s1 kb x1) fun fl s2 ⟨y, e, q⟩ => ?_
      subst e
      exact ⟨y, rfl, q⟩
    | false =>
      rw [if_neg (by decide)]
      exact wpAny_execs_nil (hb rfl E s₀ s1 kb x1)))
theorem st_in {s₀ s : Shared} {n : Str} {v : Value} {E : Value → Shared → Prop} {Q : Unit → Shared → Prop} (F : Fe env) (x : InCall s₀ env.locals m s) (hl : env.kindOf n = some .local) (h : ∀ s', InCall s₀ env.locals (fun y => if y = n then some v else m y) s' → Q () s') :
    wpAny (model P w) A (assign (.Name n p) env v) Q E s :=
  wpAny_assign_Name (wpAny_storeName_local hl x.ns (fun h' hn' hs' => h _ ⟨(by
    obtain ⟨h₁, tk, rfl⟩ := x.same
    exact ⟨h', _, rfl⟩), hn', fun b o e => hs'.extBut b o (Nat.ne_of_lt (Nat.lt_of_lt_of_le (Heap.lt_size e) x.fresh)) (x.keep b o e), x.fresh⟩) (by simp [F.kind]))
theorem es_unp4 {n1 n2 n3 n4 : Str} {p1 p3 p4 pt : Pos} {kt : Nat} {x1 x2 x3 x4 : Dt} (F : Fe env) (hh : A.handled = none) (ha : Ev P w A B env m e (Dh B (.tup [x1, x2, x3, x4])))
    (l1 : env.kindOf n1 = some .local) (l2 : env.kindOf n2 = some .local) (l3 : env.kindOf n3 = some .local) (l4 : env.kindOf n4 = some .local) (nd : [n1, n2, n3, n4].Nodup)
    (h : ∀ m' u1 u2, Dh B x1 u1 → Dh B x2 u2 → m' n1 = some u1 → m' n2 = some u2 → (∀ x, x ∉ [n1, n2, n3, n4] → m' x = m x) → Es P w A B env m' rest R)
    (hs : swapsWithSole [.Tuple [.Name n1 p1, .Name n2 p2, .Name n3 p3, .Name n4 p4] kt pt] e pos.line env = pure false := by rfl) (hw : swappedStores [.Tuple [.Name n1 p1, .Name n2 p2, .Name n3 p3, .Name n4 p4] kt pt] e env = pure none := by rfl)
    (h1 : (assignEach [.Tuple [.Name n1 p1, .Name n2 p2, .Name n3 p3, .Name n4 p4] kt pt] env).map (·.2) = [assign (.Tuple [.Name n1 p1, .Name n2 p2, .Name n3 p3, .Name n4 p4] kt pt) env] := by rfl)
    (h2 : (assignEach [.Name n1 p1, .Name n2 p2, .Name n3 p3, .Name n4 p4] env).map (·.2) = [assign (.Name n1 p1) env, assign (.Name n2 p2) env, assign (.Name n3 p3) env, assign (.Name n4 p4) env] := by rfl)
    (hl : (assignEach [.Name n1 p1, .Name n2 p2, .Name n3 p3, .Name n4 p4] env).length = 4 := by rfl) (hst : (assignEach [.Name n1 p1, .Name n2 p2, .Name n3 p3, .Name n4 p4] env).findIdx? (·.1) = none := by rfl) :
    Es P w A B env m (.Assign [.Tuple [.Name n1 p1, .Name n2 p2, .Name n3 p3, .Name n4 p4] kt pt] e pos :: rest) R := fun E s₀ s kb x => by
  refine wpAny_execs_cons (wpAny_Assign_stores (thn (ha E s (kp_trans kb x.keep) x.ns) fun v s1 ⟨q, k⟩ => ?_) hs hw)
  rw [h1]
  obtain ⟨t, us, rfl, ht, hz, u1, r1, rfl, d1, u2, r2, rfl, d2, u3, r3, rfl, d3, u4, r4, rfl, d4, e5⟩ := q
  cases e5
  have X1 := incall_keeps x k
  show wpAny _ _ (assign (.Tuple [.Name n1 p1, .Name n2 p2, .Name n3 p3, .Name n4 p4] kt pt) env (.ref t)) _ _ _
  refine assign_Tuple_tuple hh (ht.keeps (kp_trans kb X1.keep)) (by rw [hl]; rfl) hst fun h' hx => ?_
  have X2 : InCall s₀ env.locals m { s1 with heap := h' } := incall_keeps X1 ⟨h', s1.toks, rfl, fun b o e => hx b o (Nat.ne_of_lt (Heap.lt_size e)) e⟩
  rw [h2]
  refine assignInOrder_cons (st_in F X2 l1 fun s3 X3 => assignInOrder_cons (st_in F X3 l2 fun s4 X4 => assignInOrder_cons (st_in F X4 l3 fun s5 X5 => assignInOrder_cons (st_in F X5 l4 fun s6 X6 => assignInOrder_nil ?_))))
  simp only [List.nodup_cons, List.mem_cons, List.not_mem_nil, or_false, not_or] at nd
  obtain ⟨⟨a12, a13, a14⟩, ⟨a23, a24⟩, a34, _⟩ := nd
  refine h _ u1 u2 d1 d2 ?_ ?_ ?_ E s₀ s6 kb X6
  · simp [a12, a13, a14]
  · simp [a23, a24]
  · intro y hy
    simp only [List.mem_cons, List.not_mem_nil, or_false, not_or] at hy
    simp [hy.1, hy.2.1, hy.2.2.1, hy.2.2.2]
/-- the call of a def -/
theorem fp_of {x qual : Str} {stm : Stmt} {f : Addr} {fd : FuncData} {ps : List Str} {us : List Value} {d : Nat} (Fn : Fun K x qual stm f fd) (W : Wo K mg base B) (hbind : bindArgs fd ⟨us, []⟩ = pure (ps.zip us))
    (hcell : ∀ y ∈ (defScope stm).names, y.2 ≠ .cell) (hloc : ∀ n ∈ ps, (defScope stm).names.lookup n = some .local) (hk : (defScope stm).kind = .function) (hco : (defScope stm).isCoroutine = false) (hgen : (defScope stm).isGenerator = false)
    (h : ∀ (A : Around) (L : Addr), A.depth + d ≤ recursionLimit → A.handled = none → Es P w A B (callEnv fd L f) (fun y => (ps.zip us).reverse.lookup y) (defBody stm) R) : Fp P w B (d + 1) f us R := fun A E s hd hh kb => by
  obtain ⟨oc, od, kV, doc, pm, an, cdv, ct, osl, rfl, lk, hcd⟩ := Fn.ex
  have kx : K.In s.heap := W.mod.kin.keeps (kp_trans W.ext kb)
  refine wpAny_call (codeAny_call_straight (by omega) (kx _ _ lk) rfl (W.mod.nolimit.keeps (kp_trans W.ext kb)) (PySem.W.codeRec_of kx hcd) rfl hbind hcell (fun y hy => hloc y.1 ?_) (fun s₁ X => ?_) hco hgen hk)
  · obtain ⟨n, v⟩ := y
    exact (List.of_mem_zip hy).1
  · refine thn (h (A.deeper _) s.heap.objs.size (by show A.depth + 1 + d ≤ _; omega) hh _ s s₁ kb X) fun fl s2 ⟨y, e, q⟩ => ?_
    subst e
    exact q
theorem fe_of {x qual : Str} {stm : Stmt} {f : Addr} {fd : FuncData} {L : Addr} (Fn : Fun K x qual stm f fd) (hk : (defScope stm).kind = .function) : Fe (callEnv fd L f) := by
  obtain ⟨oc, od, kV, doc, pm, an, cdv, ct, osl, rfl, lk, hcd⟩ := Fn.ex
  exact ⟨hk, rfl, rfl⟩
theorem kind_of {x qual : Str} {stm : Stmt} {f : Addr} {fd : FuncData} {L : Addr} {n : Str} {k : NameKind} (Fn : Fun K x qual stm f fd) (h : (defScope stm).names.lookup n = some k) : (callEnv fd L f).kindOf n = some k := by
  obtain ⟨oc, od, kV, doc, pm, an, cdv, ct, osl, rfl, lk, hcd⟩ := Fn.ex
  exact h
end
end H1

/-! any(f(x) for x in row), row a tuple, f whatever keeps every object: the def's code table may grow by it -/
namespace H1
open PySem PySem.Spec PyProof.Rows L2 Fw
open GxR (TabB TabG Tabbed GenS)

/-- what lies in a heap but for the object at P -/
abbrev off (h : Heap) (P : Addr) : Heap := PySem.W.hideAll h [P]
theorem off_get {h : Heap} {P b : Addr} {o : Obj} (e : h.get? b = some o) (n : b ≠ P) : (off h P).get? b = some o := PySem.W.hideAll_get _ e (by simpa using n)
theorem of_off {h : Heap} {P b : Addr} {o : Obj} (e : (off h P).get? b = some o) : h.get? b = some o ∧ b ≠ P := by
  refine ⟨PySem.W.of_hideAll _ e, fun z => ?_⟩
  have q : (off h P).get? b = none := PySem.W.hideAll_none [P] (by rw [z]; simp)
  rw [e] at q
  cases q
theorem vals_back {vs : List V} {us : List Value} {i : Nat} {u : Value} (r : Vals vs us) (e : us[i]? = some u) : ∃ v, vs[i]? = some v ∧ RelV v u := by
  have hi : i < us.length := (List.getElem?_eq_some_iff.mp e).1
  have hl := r.length
  obtain ⟨u', e2, r2⟩ := r.get (List.getElem?_eq_getElem (l := vs) (i := i) (by omega))
  rw [e] at e2
  cases e2
  exact ⟨_, List.getElem?_eq_getElem (by omega), r2⟩

/-! ### the code object -/
abbrev tabO (ps : Array Value) : Obj := { cls := .none, data := .fields ps }
/-- behind the asking for a code object: the table at P may be longer, all else stands -/
def Grown (P : Addr) (ps : Array Value) (s t : Shared) : Prop :=
  ∃ (g : Heap) (n : Nat) (qs : Array Value), t = { s with heap := g, toks := n } ∧ Heap.ExtBut P s.heap g ∧ s.heap.objs.size ≤ g.objs.size ∧ g.get? P = some (tabO (ps ++ qs)) ∧ TriplesOk (ps ++ qs).toList
theorem code_tab {M : Model} {A : Around} {E : Value → Shared → Prop} {s : Shared} {mg : Str → Option Value} {base : Heap} {env : Env} {c P : Addr} {ps : Array Value} {pos : Pos} {q : Str} {sc : Scope}
    (T : TabB base mg c P) (hc : env.code = .ref c) (kb : Kp base s.heap) (hP : s.heap.get? P = some (tabO ps)) (ok : TriplesOk ps.toList) : wpAny M A (genexprCode env pos q sc) (fun _ t => Grown P ps s t) E s := by
  have hd := T.code.keeps kb
  have known : Grown P ps s s := ⟨s.heap, s.toks, #[], rfl, Heap.ExtBut.refl _ _, Nat.le_refl _, by simpa using hP, by simpa using ok⟩
  match hf : codeAmong pos ps.toList with
  | some _ => exact wpAny_genexprCode_hit hc (hd.code hP ok) hf known
  | none =>
    exact wpAny_genexprCodeX hc (hd.code hP ok) (hd.tab hP) hf fun _ g n ext lo hi isc _ tab _ => by
      have okn : TriplesOk _ := let ⟨_, _, _, _, _, _, _, _, _, _, _, _, _, _, _, _, _, _, _, z, _⟩ := isc; z
      exact ⟨g, n, _, rfl, ext, Nat.le_of_lt (Nat.lt_of_le_of_lt lo hi), tab.2, okn⟩

section
variable {X : Cx} {pins : List (Addr × Obj)} {σ : L2.St} {H : Hp} {s : Shared}
/-- the elements' promise: over the heap but P, whatever runs around -/
def EltsOk (X : Cx) (P : Addr) (scope : Scope) (x : Str) (elt : Expr) (h : Heap) (xs : List V) (pb : Nat → Bool) : Prop :=
  ∀ (A' : Around) (L : Addr) (code : Value) (j : Nat) (v : V) (u : Value) (m : Str → Option Value), A'.handled = none → A'.depth ≤ X.A.depth + 1 → xs[j]? = some v → RelV v u → m x = some u →
    Ev X.prog X.w A' (off h P) (genEnv scope (cloFrom X.env.cells scope.names []) L code builtinsNs X.env) m elt (fun y => y = .bool (pb j))
def AnyQ (X : Cx) (P : Addr) (el : L2.St → Hp → List V → (Nat → Bool) → Prop) (Q : VK) (σ : L2.St) (v : V) (H1 : Hp) : Prop :=
  ∃ (a : Addr) (xs : List V) (pb : Nat → Bool), v = .ref a ∧ H1 a = some (.tup xs) ∧ TabG H1 P ∧ el σ H1 xs pb ∧ ∀ H2, Tabbed P H1 H2 → Q (.bl ((List.range xs.length).any pb)) H2
def tAny (X : Cx) (P : Addr) (el : L2.St → Hp → List V → (Nat → Bool) → Prop) (te : TE) : TE := fun σ H Q => te σ H fun v H1 => AnyQ X P el Q σ v H1
/-- the walked elements keep every object: what the generator's frame asks of them -/
theorem quiet_elts {P : Addr} {scope : Scope} {x : Str} {elt : Expr} {h g href : Heap} {its : List Value} {xs : List V} {pb : Nat → Bool} {code : Value} (EO : EltsOk X P scope x elt h xs pb) (rv : Vals xs its)
    (kp : ∀ b u, b ≠ P → h.get? b = some u → g.get? b = some u) (lt : h.objs.size < g.objs.size) (kr : Kp g href) (U : Nat) :
    QuietGenD X.prog X.w (genEnv scope (cloFrom X.env.cells scope.names []) g.objs.size code builtinsNs X.env) x [] elt (List.range g.objs.size) [h.objs.size] (fun i v => its.toArray[i]? = some v) (fun _ => true) (fun i y => y = .bool (pb i)) href (X.A.depth + 1) U := by
  constructor
  · intro A' E' i v t m _ _ _ _ _ _ _
    rw [List.forIn_nil]
    exact wpAny_pure ⟨rfl, ks_refl t⟩
  · intro A' E' i v t m hA dp _ hv _ ns hm kt
    obtain ⟨y, ey, ry⟩ := vals_back rv (by simpa using hv)
    refine EO A' _ code i y v m hA dp ey ry hm E' t (fun b u e => ?_) ns
    obtain ⟨e0, nb⟩ := of_off e
    have lb : b < h.objs.size := Heap.lt_size e0
    exact kt b (List.mem_range.mpr (Nat.lt_trans lb lt)) (fun z => Nat.lt_irrefl _ (List.mem_singleton.mp z ▸ lb)) u (kr b u (kp b u nb e0))
/-- the state behind the walk: only the table at P is another -/
theorem inv_walked {P : Addr} {ps qs : Array Value} {t z : Shared} {wr : List Addr} {G : Array GenState → Array GenState → Prop} (I : Inv X pins σ H s) (hP : H P = some (.tbl ps)) (ok : TriplesOk (ps ++ qs).toList)
    (k : ∀ b o, b ≠ P → s.heap.get? b = some o → t.heap.get? b = some o) (tP : t.heap.get? P = some (tabO (ps ++ qs))) (os : t.os = s.os) (nw : ∀ b ∈ wr, s.heap.objs.size ≤ b) (bare : AllBare z.gens) (mv : Moved wr G t z) :
    ∃ H2, Tabbed P H H2 ∧ Inv X pins σ H2 z := by
  have old : ∀ {b : Addr}, b < s.heap.objs.size → b ∉ wr := fun {b} lb m => Nat.lt_irrefl _ (Nat.lt_of_lt_of_le lb (nw b m))
  have pl : P < s.heap.objs.size := Heap.lt_size (I.hok P _ hP : s.heap.get? P = some (tabO ps))
  have J := GxR.inv_tab (more := qs) (h' := z.heap) (g' := z.gens) (d' := z.drawn) (t' := z.toks) I hP (fun b o nb e => mv.heap b o (old (Heap.lt_size e)) (k b o nb e)) (mv.heap P _ (old pl) tP) bare
  rw [GxR.sh_eta s z (mv.os.trans os)] at J
  exact ⟨_, ⟨⟨ps ++ qs, upd_same, ok⟩, fun b nb => upd_ne nb⟩, J⟩

/-- the generator at g stands ready: its walk tells n truth values pb, and what is behind it -/
structure Stands (X : Cx) (pins : List (Addr × Obj)) (σ : L2.St) (H : Hp) (P : Addr) (n : Nat) (pb : Nat → Bool) (g : Addr) (t : Shared) : Prop where
  ex : ∃ (fp wr : List Addr) (G : Array GenState → Array GenState → Prop) (F : Nat → Value → Prop) (St : Nat → Shared → Prop), WalksS X.prog X.w X.A.in1 g fp wr G n F St ∧ St 0 t ∧ TruthOf X.prog X.w X.A.in1 F pb ∧
    ∀ z, Moved wr G t z → ∃ H2, Tabbed P H H2 ∧ Inv X pins σ H2 z
theorem gen_tup {c P : Addr} {elt iter : Expr} {x : Str} {px gpos : Pos} {scope : Scope} {te : TE} {k : Nat} {Q : VK} {el : L2.St → Hp → List V → (Nat → Bool) → Prop}
    (hr : Room k X.A) (T : TabB X.base X.mg c P) (hc : X.env.code = .ref c) (S : GenS X.env scope x) (hi : PE X iter te)
    (hel : ∀ (s : Shared) (H : Hp) (xs : List V) (pb : Nat → Bool), Inv X pins σ H s → TabG H P → el σ H xs pb → EltsOk X P scope x elt s.heap xs pb)
    (nofold : ∀ v, genFold iter X.env v = pure v) (I : Inv X pins σ H s) (h : tAny X P el te σ H Q) :
    wpAny (model X.prog X.w) X.A (eval (.GeneratorExp elt [⟨.Name x px, iter, [], 0⟩] scope gpos) X.env)
      (fun v t => ∃ g H1 n pb, v = .ref g ∧ (∀ H2, Tabbed P H1 H2 → Q (.bl ((List.range n).any pb)) H2) ∧ Stands X pins σ H1 P n pb g t) X.xe s := by
  have dp := hr.dp
  refine wpAny_GeneratorExp_walksQD hr.hd S.co (closure_ok S.free) S.cell S.dot S.loc S.kind (by omega) (thn (hi.run pins s σ H _ I h) fun _ s1 ⟨_, H1, I1, ra, w1⟩ => ?_) nofold
  obtain ⟨a, xs, pb, rfl, ha, ⟨ps, hP, ok⟩, eo, want⟩ := w1
  cases ra
  have EO := hel s1 H1 xs pb I1 ⟨ps, hP, ok⟩ eo
  obtain ⟨_, its, rv, row⟩ := (show ObjOk X.prog X.w H1 s1.heap a (.tup xs) from I1.hok a _ ha)
  have pa : s1.heap.get? P = some (tabO ps) := I1.hok P _ hP
  have aP : a ≠ P := by
    rintro rfl
    rw [hP] at ha
    cases ha
  have al : a < s1.heap.objs.size := row.elim fun _ q => Heap.lt_size q.1
  have pl : P < s1.heap.objs.size := Heap.lt_size pa
  refine wpAny_pyIter_tuple row ⟨I1.nolimit.push _, ?_⟩
  -- the iterator lies at the heap's old end
  generalize ei : ({ cls := .type "tuple_iterator", data := .fields #[.ref a, .int 0 0] } : Obj) = oi
  have size1 := Heap.size_push s1.heap oi
  have kpush : Kp s1.heap (s1.heap.push oi) := fun _ _ e => Heap.get?_push_of_some _ e
  refine thn (code_tab T hc (fun b o e => kpush b o (I1.bk b o e)) (kpush P _ pa) ok) fun cv t ⟨g, n, qs, et, ext, le, gP, okg⟩ => ?_
  subst et
  have le : (s1.heap.push oi).objs.size ≤ g.objs.size := le
  have kg : ∀ b u, b ≠ P → s1.heap.get? b = some u → g.get? b = some u := fun b u nb e => ext b u nb (kpush b u e)
  have lt : s1.heap.objs.size < g.objs.size := by omega
  obtain ⟨lo, hns, lrest⟩ := I1.nolimit
  have cs : cStatics < s1.heap.objs.size := hns.lt
  have csP : cStatics ≠ P := by
    rintro rfl
    obtain ⟨_, _, _, e, d, _⟩ := hns
    rw [pa] at e
    cases e
    cases d
  obtain ⟨bm, om, b1, b2, _, b4, b5, b6, b7, b8⟩ := T.bm
  refine wpAny_builtinsFor (m := X.mg) (by rw [I1.ok.glob]; exact ((I1.mod.glob.keeps I1.bk).keeps kpush).extBut ext T.gP) b1 b2 (kg _ _ b4 (I1.bk _ _ b5)) b6 b7 b8 ?_
  refine ⟨_, [s1.heap.objs.size, a], [s1.heap.objs.size], its.toArray.size, fun i v => its.toArray[i]? = some v, fun i q => q.IsTupleIter s1.heap.objs.size a i ∧ q.IsTuple a its.toArray, fun _ => true, fun i y => y = .bool (pb i), rfl,
    fun A' hA => Walks.tuple hA _ _ (fun z => Nat.lt_irrefl _ (z ▸ al)) _, ⟨⟨oi, ext _ _ (fun z => Nat.lt_irrefl _ (z ▸ pl)) (Heap.get?_push_size _ (by rw [← ei]; rfl)), by rw [← ei], by rw [← ei]; rfl⟩, row.imp fun _ q => ⟨kg _ _ aP q.1, q.2⟩⟩, ?_,
    (I1.nolimit.push oi).extBut ext csP, fun z => Nat.lt_irrefl _ (List.mem_singleton.mp z ▸ cs), fun href kr => quiet_elts EO rv kg lt kr _, ?_⟩
  · intro b hb
    simp only [List.mem_cons, List.not_mem_nil, or_false] at hb
    rcases hb with rfl | rfl
    · exact lt
    · exact Nat.lt_trans al lt
  · intro gen hp tk gs gb above _ kh W st
    have en : (passing (fun _ => true) its.toArray.size 0).length = xs.length := by rw [GxR.passing_true, List.length_range, List.size_toArray, ← rv.length]
    refine ⟨gen, H1, xs.length, pb, rfl, want, ⟨⟨_, _, _, _, _, by rw [← en]; exact W.in4_1, st, ?_, fun z mv => ?_⟩⟩⟩
    · intro j y t' Qj Ej ⟨i, ij, ey⟩ q
      rw [GxR.passing_true] at ij
      have : i = j := by
        have := (List.getElem?_eq_some_iff.mp ij).2
        rw [List.getElem_range] at this
        exact this.symm
      rw [ey, this]
      exact wpAny_truthy_bool q
    · refine inv_walked (s := s1) I1 hP okg (fun b o nb e => kh b o (kg b o nb e)) (kh P _ gP) (by rfl) (fun b m => ?_) (AllBare.movedS (I1.bare.push gb) mv) mv
      simp only [List.mem_cons, List.not_mem_nil, or_false] at m
      rcases m with rfl | rfl
      · exact Nat.le_of_lt lt
      · exact Nat.le_refl _
end

section
variable {X : Cx}
theorem pe_anyT {c P : Addr} {elt iter : Expr} {x : Str} {px p pos gpos : Pos} {scope : Scope} {te : TE} {k : Nat} {el : L2.St → Hp → List V → (Nat → Bool) → Prop}
    (hr : Room k X.A) (hg : Gl X "any") (hm : X.mg "any" = none) (T : TabB X.base X.mg c P) (hc : X.env.code = .ref c) (S : GenS X.env scope x) (hi : PE X iter te)
    (hel : ∀ (pins : List (Addr × Obj)) (σ : L2.St) (s : Shared) (H : Hp) (xs : List V) (pb : Nat → Bool), Inv X pins σ H s → TabG H P → el σ H xs pb → EltsOk X P scope x elt s.heap xs pb)
    (nofold : ∀ v, genFold iter X.env v = pure v) (one : starEach [.GeneratorExp elt [⟨.Name x px, iter, [], 0⟩] scope gpos] X.env = [(false, eval (.GeneratorExp elt [⟨.Name x px, iter, [], 0⟩] scope gpos) X.env)] := by rfl) :
    PE X (.Call (.Name "any" p) [.GeneratorExp elt [⟨.Name x px, iter, [], 0⟩] scope gpos] [] pos) (tAny X P el te) := ⟨fun pins s σ H Q I h => by
  refine wpAny_Call_Name_kw (ld_blt I hg hm boot_any (PyProof.Rows.callWith_builtin1 ?_ one rfl))
  rw [one]
  refine Calls.spliced_cons (thn (gen_tup hr T hc S hi (hel pins σ) nofold I h) fun v t ⟨g, H1, n, pb, ev, want, ⟨⟨fp, wr, G, F, Sa, W, st, tr, back⟩⟩⟩ => Calls.spliced_nil ?_)
  subst ev
  exact call_any_walkS (W.self 0 _ _ _ st ⟨g, fp, wr, G, n, F, Sa, pb, rfl, W, st, tr, fun z mv => (back z mv).elim fun H2 ⟨tb, J⟩ => ⟨.bl _, H2, J, rfl, want H2 tb⟩⟩)⟩
end
end H1

namespace H1
open PySem PySem.Spec PyProof.Rows L2 Fw
open GxR (TabB TabG Tabbed GenS)

theorem tblRs {H : Hp} {ps : Array Value} : ∀ {s : Sv} {v : V} {a : Addr}, Rs H s v → Oc H s v a → H a ≠ some (.tbl ps)
  | .p _, _, _, _, oc => oc.elim
  | .l _, _, a, ⟨b, vs, e, hb, _⟩, oc => by
    subst e
    cases (show V.ref b = V.ref a from oc)
    rcases hb with hb | ⟨o, hb⟩
    · rw [hb]
      exact fun z => nomatch z
    · rw [hb]
      exact fun z => nomatch z
  | .d _, _, a, ⟨b, ws, q, h, r⟩, o => by
    rw [q] at o
    cases (show V.ref b = V.ref a from o)
    rw [h]
    exact fun z => nomatch z
  | .ll _, _, a, ⟨b, us, e, hb, _, r⟩, ⟨c, ws, e2, hc, m⟩ => by
    subst e
    cases e2
    rw [hb] at hc
    cases hc
    rcases m with m | m
    · rw [m, hb]
      exact fun z => nomatch z
    · obtain ⟨vs, h⟩ := r.mem m
      rw [h]
      exact fun z => nomatch z
  | .pl _ _, _, a, ⟨b, c, w, vs, e, hb, hc, _, _⟩, ⟨t, w2, e2, ht⟩ => by
    subst e
    cases e2
    rw [hb] at ht
    cases ht
    rw [hc]
    exact fun z => nomatch z
theorem tabNot {H : Hp} {P : Addr} (J : TabG H P) {s : Sv} {v : V} (r : Rs H s v) : ∀ a, Oc H s v a → ¬ a = P := fun a oc z => by
  obtain ⟨ps, hP, _⟩ := J
  rw [← z] at hP
  exact tblRs r oc hP
theorem tabSame {H H' : Hp} {P : Addr} (J : TabG H P) (e : Same H H') : TabG H' P := by
  obtain ⟨ps, hP, t⟩ := J
  exact ⟨ps, e P _ hP, t⟩
theorem tabButP {H H' : Hp} {P : Addr} (J : TabG H P) (e : Tabbed P H H') : ButP (fun b => b = P) H H' :=
  ⟨fun b o n h => by rw [e.2 b n]; exact h, fun a ea xs z => by
    obtain ⟨ps, hP, t⟩ := J
    rw [ea, hP] at z
    cases z⟩
section
variable {L M : List Nat} {F : Fr} {σ : L2.St} {H H' : Hp} {ρ : En} {P : Addr}
theorem renv_tab (I : Renv L M F σ H ρ) (mP : F.mp P) (J : TabG H P) (e : Tabbed P H H') : Renv L M F σ H' ρ := by
  have B := tabButP J e
  have nt : ∀ {i : Nat} {t : Sl} {u : V}, ρ[i]? = some (some t) → σ[i]? = some (some u) → ∀ a, Oc H t.s u a → ¬ a = P := fun h1 h2 => tabNot J (I.at h1 h2)
  refine ⟨fun a o q n => ?_, fun a q => ?_, ⟨I.slots.len, fun i t q => ?_⟩, fun i s v q1 q2 => (I.ro i s v q1 q2).butP B (nt q1 q2), fun i s v a q1 hM q2 oc => I.own i s v a q1 hM q2 (Oc.butP B (I.at q1 q2) (nt q1 q2) oc),
    fun i j s t v u a ij q1 q2 q3 q4 oc oc2 => I.sep i j s t v u a ij q1 q2 q3 q4 (Oc.butP B (I.at q1 q3) (nt q1 q3) oc) (Oc.butP B (I.at q2 q4) (nt q2 q4) oc2), I.fix⟩
  · rw [e.2 a fun z => n (z ▸ mP)]
    exact I.keep a o q n
  · by_cases z : a = P
    · obtain ⟨ps, hP, _⟩ := e.1
      rw [z, hP] at q
      cases q
    · rw [e.2 a z] at q
      exact I.alive a q
  · obtain ⟨v, h1, h2⟩ := I.slots.get i t q
    exact ⟨v, h1, h2.butP B (nt q h1)⟩
end

/-- what a statement comes to, where the table may grow -/
def imp (J : Hp → Prop) (D : Ends) : Ends := ⟨fun σ H => J H → D.nx σ H, fun v H => J H → D.rt v H, fun σ H => J H → D.bk σ H, fun σ H => J H → D.ct σ H⟩
def tP (P : Addr) (C : Cn) (L M : List Nat) (x : XS) : TS := fun D σ H => TabG H P ∧ ∃ F ρ, Renv L M F σ H ρ ∧ F.mp P ∧ OutP C L M F (imp (fun H => TabG H P) D) (x ρ)
def tTP (P : Addr) (c : XT) : TT := fun σ H Q => TabG H P ∧ ∃ ρ, Slots σ H ρ ∧ (c ρ).P (fun _ => False) fun b => ∀ H', Tabbed P H H' → Q b H'

section
variable {X : Cx} {C : Cn} {L M : List Nat} {P : Addr} {x y z : XE} {c d : XT} {xs : XA} {u w : XS} {a b e tg : Expr} {es : List Expr} {pos p : Pos} {st : Stmt} {rest sa sb : List Stmt}
/-- the frame of a statement that leaves the table as it is -/
theorem lift_out {F : Fr} {σ : L2.St} {H : Hp} {ρ : En} {D : Ends} (I : Renv L M F σ H ρ) (J : TabG H P) : ∀ {o : Out}, OutP C L M F (imp (fun H => TabG H P) D) o → OutP C L M (loopF M F σ H ρ) D o := by
  have ht : ∀ {σ' : L2.St} {H' : Hp} {ρ' : En}, Renv L M (loopF M F σ H ρ) σ' H' ρ' → TabG H' P := fun {σ' H' ρ'} I' => by
    obtain ⟨ps, hP, t⟩ := J
    refine ⟨ps, I'.keep P _ hP ?_, t⟩
    rintro ⟨i, s, v, q, hM, hv, oc⟩
    exact tblRs (I.at (t := .o s) q hv) oc hP
  intro o h
  cases o with
  | stuck => exact h
  | exc _ _ => exact fun σ' H' J' => h σ' H' (loop_out I J')
  | nx _ => exact fun σ' H' J' => h σ' H' (loop_out I J') (ht J')
  | bk _ => exact fun σ' H' J' => h σ' H' (loop_out I J') (ht J')
  | ct _ => exact fun σ' H' J' => h σ' H' (loop_out I J') (ht J')
  | rt _ _ => exact fun σ' H' v J' r oc sp => h σ' H' v (loop_out I J') r (fun a oa => loop_mp I (oc a oa)) sp (ht J')
theorem p_lift (h : PS X st (tS C L M u)) : PS X st (tP P C L M u) := impS h fun D σ H ⟨J, F, ρ, I, m, q⟩ => ⟨loopF M F σ H ρ, ρ, loop_in I, lift_out I J q⟩
theorem p_lifts (h : PSs X rest (tS C L M u)) : PSs X rest (tP P C L M u) := impSs h fun D σ H ⟨J, F, ρ, I, m, q⟩ => ⟨loopF M F σ H ρ, ρ, loop_in I, lift_out I J q⟩
theorem p_cons (h1 : PS X st (tP P C L M u)) (h2 : PSs X rest (tP P C L M w)) : PSs X (st :: rest) (tP P C L M (sSeq u w)) := impSs (pss_cons h1 h2) fun D σ H ⟨J, F, ρ, I, m, q⟩ => ⟨J, F, ρ, I, m, by
  unfold sSeq at q
  cases hu : u ρ with
  | nx ρ' =>
    rw [hu] at q
    exact fun σ' H' I' J' => ⟨J', F, ρ', I', m, q⟩
  | stuck => rw [hu] at q; exact q
  | exc c ρ' => rw [hu] at q; exact q
  | bk ρ' => rw [hu] at q; exact q
  | ct ρ' => rw [hu] at q; exact q
  | rt s ρ' => rw [hu] at q; exact q⟩
theorem p_one (h1 : PS X st (tP P C L M u)) : PSs X [st] (tP P C L M u) := pss_one h1
theorem p_if (hc : PT X a (tTP P c)) (ha : PSs X sa (tP P C L M u)) (hb : PSs X sb (tP P C L M w)) (noexc : ∀ ρ k, c ρ ≠ .exc k) : PS X (.If a sa sb pos) (tP P C L M (sIf c u w)) := impS (ps_if hc ha hb) fun D σ H ⟨J, F, ρ, I, m, q⟩ =>
  ⟨J, ρ, I.slots, by
    unfold sIf ofR at q
    cases hc : c ρ with
    | stuck => rw [hc] at q; exact q
    | exc k => exact (noexc ρ k hc).elim
    | ok b =>
      rw [hc] at q
      intro H' e
      cases b with
      | true => exact ⟨e.1, F, ρ, renv_tab I m J e, m, q⟩
      | false => exact ⟨e.1, F, ρ, renv_tab I m J e, m, q⟩⟩
theorem p_frz (i : Nat) (h : PS X st (tP P C L M u)) : PS X st (tP P C L M (sFrz i u)) := impS h fun D σ H ⟨J, F, ρ, I, m, q⟩ => ⟨J, F, frz i ρ, I.frz i, m, q⟩
/-- the frame of a loop that may let the table grow -/
def loopP (P : Addr) (M : List Nat) (F : Fr) (σ : L2.St) (H : Hp) (ρ : En) : Fr := ⟨H, fun a => a = P ∨ (loopF M F σ H ρ).mp a, F.fix⟩
section
variable {F : Fr} {σ σ' : L2.St} {H H0 H' : Hp} {ρ ρ' : En}
theorem loopP_in (I : Renv L M F σ H ρ) : Renv L M (loopP P M F σ H ρ) σ H ρ :=
  ⟨fun a o q _ => q, fun a q => q, I.slots, I.ro, fun i s v a q hM h oc => .inr (.inr ⟨i, s, v, q, hM, h, oc⟩), I.sep, I.fix⟩
theorem loopP_mp (I : Renv L M F σ H ρ) (m : F.mp P) {a : Addr} (h : (loopP P M F σ H ρ).base a = none ∨ (loopP P M F σ H ρ).mp a) : F.base a = none ∨ F.mp a := by
  rcases h with h | h | ⟨i, s, v, q, hM, h, oc⟩
  · exact .inl (I.alive a h)
  · exact .inr (h ▸ m)
  · exact I.own i s v a q hM h oc
theorem loopP_out (I : Renv L M F σ H ρ) (m : F.mp P) (J : Renv L M (loopP P M F σ H ρ) σ' H' ρ') : Renv L M F σ' H' ρ' := by
  refine ⟨fun a o q n => ?_, fun a q => I.alive a (J.alive a q), J.slots, J.ro, fun i s v a q hM h oc => loopP_mp I m (J.own i s v a q hM h oc), J.sep, J.fix⟩
  refine J.keep a o (I.keep a o q n) fun z => ?_
  rcases loopP_mp I m (.inr z) with z | z
  · rw [z] at q; cases q
  · exact n z
theorem loopP_ends (I : Renv L M F σ H ρ) (m : F.mp P) {D : Ends} : ∀ {o : Out}, OutP C L M F D o → OutP C L M (loopP P M F σ H ρ) D o
  | .stuck, h => h
  | .exc _ _, h => fun σ' H' J => h σ' H' (loopP_out I m J)
  | .nx _, h => fun σ' H' J => h σ' H' (loopP_out I m J)
  | .bk _, h => fun σ' H' J => h σ' H' (loopP_out I m J)
  | .ct _, h => fun σ' H' J => h σ' H' (loopP_out I m J)
  | .rt _ _, h => fun σ' H' v J r oc sp => h σ' H' v (loopP_out I m J) r (fun a oa => loopP_mp I m (oc a oa)) sp
theorem loopP_tx (I : Renv L M F σ H ρ) (T : TabG H P) (J : Renv L M (loopP P M F σ H ρ) σ' H' ρ') : Tx H H' := fun a ys h => J.keep a _ h fun z => by
  rcases z with z | ⟨i, s, v, q, _, hv, oc⟩
  · obtain ⟨ps, hP, _⟩ := T
    rw [z, hP] at h
    cases h
  · exact (I.ro i s v q hv).noT oc ys h
theorem loopP_kept (I : Renv L M F σ H ρ) (T0 : TabG H0 P) (T : TabG H P) (J : Renv L M (loopP P M F σ H ρ) σ' H' ρ') {a : Addr} {o : HO} (e : Same H0 H) (I0 : Renv L M F σ H0 ρ) (lp : LP ρ σ H a ∨ H0 a = none) (h : H a = some o) : H' a = some o := by
  refine J.keep a _ h fun z => ?_
  rcases z with z | ⟨i, s, v, q, _, hv, oc⟩
  · rcases lp with ⟨j, t, w, q2, h2, oc2⟩ | lp
    · exact tabNot T (I.at q2 h2) a oc2 z
    · obtain ⟨ps, hP, _⟩ := T0
      rw [z, hP] at lp
      cases lp
  · rcases lp with ⟨j, t, w, q2, h2, oc2⟩ | z
    · exact I.sep i j s (.v t) v w a (fun z => by rw [z, q2] at q; cases q) q q2 hv h2 oc oc2
    · exact I0.fresh (t := .o s) q hv (Oc.mono e (I0.at q hv) oc) z
end
theorem p_for {body : List Stmt} {src : XI} {t : Tg} {iter : Expr} (hp : PassesOwn (model X.prog X.w) X.A X.env X.xe) (hc : X.calm = true) (hi : PI X tg iter (tI C src)) (hg : PG X tg (tGs C L M t)) (hb : PSs X body (tP P C L M u))
    (hs : ∀ x, foldedSetIterable iter X.env x = pure x := by intro _; rfl) : PS X (.For tg iter body [] pos) (tP P C L M (sFor src t u)) := impS (ps_for hp hc hi hg hb hs) fun D σ H ⟨T0, F, ρ, I0, mp0, q⟩ =>
  ⟨ρ, I0.slots, Rz.P_mono (ofR_P q I0) (fun _ k => k) fun xs _ k J Lp H1 e1 wd lp => by
    have I := I0.mono e1
    have T := tabSame T0 e1
    have k := loopP_ends (P := P) I mp0 k
    generalize hF : loopP P M F σ H1 ρ = F' at k
    have mP' : F'.mp P := by rw [← hF]; exact .inl rfl
    refine ⟨fun i m σ' H' => i ≤ xs.length ∧ m = xs.length - i ∧ ∃ ρ', Renv L M F' σ' H' ρ' ∧ TabG H' P ∧ OutP C L M F' (imp (fun H => TabG H P) D) (forD t u (xs.drop i) ρ'), ⟨xs.length, Nat.zero_le _, by simp, ρ, hF ▸ loopP_in I, T, by simpa using k⟩, ?_⟩
    rintro i m σ' H' ⟨hi, rfl, ρ', I', T', q'⟩
    obtain ⟨w1, w2⟩ := wd.run H' (loopP_tx (P := P) I T (hF ▸ I')) fun a o la h => loopP_kept (P := P) I T0 T (hF ▸ I') e1 I0 (lp a la) h
    by_cases hlt : i < xs.length
    · have hx : xs[i]? = some xs[i] := by simp [hlt]
      obtain ⟨go, yd⟩ := w1 i _ hx
      refine .inr ⟨go, fun σ' H' => i + 1 ≤ xs.length ∧ ∃ ρ', Renv L M F' σ' H' ρ' ∧ TabG H' P ∧ OutP C L M F' (imp (fun H => TabG H P) D) (forD t u (xs.drop (i + 1)) ρ'), fun σ2 H2 ⟨a1, a2⟩ => ⟨xs.length - (i + 1), by omega, a1, rfl, a2⟩, fun v H2 yy => ?_⟩
      obtain ⟨e3, rv⟩ := yd v H2 yy
      have ed : xs.drop i = xs[i] :: xs.drop (i + 1) := List.drop_eq_getElem_cons hlt
      rw [ed] at q'
      unfold forD at q'
      refine ⟨F', ρ', xs[i], I'.mono e3, rv, ?_⟩
      cases ht : t xs[i] ρ' with
      | stuck => rw [ht] at q'; exact q'.elim
      | exc c => rw [ht] at q'; exact q'.elim
      | ok ρ1 =>
        rw [ht] at q'
        simp only at q'
        intro σ2 I2
        refine ⟨tabSame T' e3, F', ρ1, I2, mP', ?_⟩
        cases hu : u ρ1 with
        | stuck => rw [hu] at q'; exact q'.elim
        | exc c ρ2 => rw [hu] at q'; exact q'
        | nx ρ2 => rw [hu] at q'; exact fun σ3 H3 I3 T3 => ⟨hlt, ρ2, I3, T3, q'⟩
        | ct ρ2 => rw [hu] at q'; exact fun σ3 H3 I3 T3 => ⟨hlt, ρ2, I3, T3, q'⟩
        | bk ρ2 => rw [hu] at q'; exact q'
        | rt s ρ2 => rw [hu] at q'; exact q'
    · have e : i = xs.length := by omega
      subst e
      rw [List.drop_length] at q'
      exact .inl ⟨w2, q' σ' H' I' T'⟩⟩
end
end H1

namespace Kp
open PySem PySem.Spec PyProof.Rows L2 Fw H1
open GxR (TabB TabG Tabbed GenS)

section
variable {P : Program} {w : World} {K : PySem.W.Frag} {mg : Str → Option Value} {base B : Heap}
theorem fp_points {f : Addr} {fd : FuncData} (Fn : Fun K "points_young" "points_young" spoints_young f fd) (W : Wo K mg base B) {x : Dt} {u : Value} (hx : Vx x = true) (hu : Dh B x u) : Fp P w B 1 f [u] (fun y => y = .bool (pyB x)) := by
  refine fp_of (ps := ["value"]) Fn W (by obtain ⟨oc, od, kV, doc, pm, an, cdv, ct, osl, rfl, lk, hcd⟩ := Fn.ex; rfl) (by decide +kernel) (by decide +kernel) rfl rfl rfl fun A L hd hh => ?_
  have Fe := fe_of (L := L) Fn rfl
  have na : ∀ y, x ≠ .adr y := fun y z => by rw [z] at hx; cases hx
  have e : pyB x = (isTupD x && pyB x) := by
    cases x <;> rfl
  rw [e]
  refine es_ret (ev_and (ev_isi W Fe (kind_of Fn rfl) (kind_of Fn rfl) na (ev_var Fe (kind_of Fn rfl) rfl hu)) fun ht => ev_one ?_)
  have : ∃ h i, x = .tup [.str h, .int i] := by
    unfold Vx at hx
    split at hx
    · cases ht
    · cases ht
    · exact ⟨_, _, rfl⟩
    · cases hx
  obtain ⟨h, i, rfl⟩ := this
  obtain ⟨t, ht2⟩ := W.yg
  exact ev_eqs (ev_ix (i := 0) (ev_var Fe (kind_of Fn rfl) rfl hu) rfl (by decide)) (ev_glob W Fe (kind_of Fn rfl) ht2 ⟨t, rfl⟩)
structure Own (K : PySem.W.Frag) (mg : Str → Option Value) (nm : Str) (stm : Stmt) (f : Addr) (fd : FuncData) : Prop where
  fn : Fun K nm nm stm f fd
  g : mg nm = some (.ref f)
  k : PySem.W.keepIn K (.ref f) = true
theorem fp_half {f f1 : Addr} {fd fd1 : FuncData} (O : Own K mg "half_of" shalf_of f fd) (O1 : Own K mg "points_young" spoints_young f1 fd1) (W : Wo K mg base B) {hx x : Dt} {y o : List Dt} {r b : Dt} {u v : Value} (hh : hx = .tup [.tup y, .tup o, r, b]) (hx0 : Vx x = true) (hv : Dh B hx v) (hu : Dh B x u) :
    Fp P w B 2 f [v, u] (Dh B (.tup (halfB hx (pyB x)))) := by
  subst hh
  refine fp_of (ps := ["heap", "pointer"]) O.fn W (by obtain ⟨oc, od, kV, doc, pm, an, cdv, ct, osl, rfl, lk, hcd⟩ := O.fn.ex; rfl) (by decide +kernel) (by decide +kernel) rfl rfl rfl fun A L hd hh => ?_
  have Fe := fe_of (L := L) O.fn rfl
  refine es_unp4 Fe hh (ev_var Fe (kind_of O.fn rfl) rfl hv) (kind_of O.fn rfl) (kind_of O.fn rfl) (kind_of O.fn rfl) (kind_of O.fn rfl) (by decide) fun m' u1 u2 d1 d2 e1 e2 e3 => ?_
  have ep : m' "pointer" = some u := (e3 "pointer" (by decide)).trans rfl
  refine es_ret (ev_ife (d := pyB x) (et_val (ev_call1 (d := 1) W Fe (kind_of O.fn rfl) O1.g O1.k (ev_var (R := fun z => z = u) Fe (kind_of O.fn rfl) ep rfl) (fun z hz => by rw [hz]; exact fp_points O1.fn W hx0 hu) hd hh)) (fun hb => ?_) fun hb => ?_)
  · rw [hb]
    exact ev_var Fe (kind_of O.fn rfl) e1 d1
  · rw [hb]
    exact ev_var Fe (kind_of O.fn rfl) e2 d2
theorem fp_stray {f f1 f2 : Addr} {fd fd1 fd2 : FuncData} (O : Own K mg "stray" sstray f fd) (O1 : Own K mg "points_young" spoints_young f1 fd1) (O2 : Own K mg "half_of" shalf_of f2 fd2) (W : Wo K mg base B) {hx x : Dt} {y o : List Dt} {r b : Dt} {u v : Value} (hh : hx = .tup [.tup y, .tup o, r, b]) (hx0 : Vx x = true) (hv : Dh B hx v) (hu : Dh B x u) :
    Fp P w B 3 f [v, u] (fun z => z = .bool (strayB hx x)) := by
  refine fp_of (ps := ["heap", "value"]) O.fn W (by obtain ⟨oc, od, kV, doc, pm, an, cdv, ct, osl, rfl, lk, hcd⟩ := O.fn.ex; rfl) (by decide +kernel) (by decide +kernel) rfl rfl rfl fun A L hd hhd => ?_
  have Fe := fe_of (L := L) O.fn rfl
  have na : ∀ y, x ≠ .adr y := fun y z => by rw [z] at hx0; cases hx0
  refine es_if (et_not (et_val (ev_isi W Fe (kind_of O.fn rfl) (kind_of O.fn rfl) na (ev_var Fe (kind_of O.fn rfl) rfl hu)))) (fun ht => es_ret ?_) fun ht => es_ret ?_
  · have e : strayB hx x = false := by
      cases x <;> first | rfl | (cases ht)
    rw [e]
    exact ev_bl
  · have : ∃ h i, x = .tup [.str h, .int i] := by
      unfold Vx at hx0
      split at hx0
      · cases ht
      · cases ht
      · exact ⟨_, _, rfl⟩
      · cases hx0
    obtain ⟨h, i, rfl⟩ := this
    exact ev_not (ev_ch ev_int (ev_ix (i := 1) (ev_var Fe (kind_of O.fn rfl) rfl hu) rfl (by decide)) fun hle => ev_len W Fe (kind_of O.fn rfl) (ev_call2 (d := 2) W Fe (kind_of O.fn rfl) O2.g O2.k (ev_var (R := fun z => z = v) Fe (kind_of O.fn rfl) rfl rfl) (ev_var (R := fun z => z = u) Fe (kind_of O.fn rfl) rfl rfl)
      (fun z z2 hz hz2 => by rw [hz, hz2]; exact fp_half O2 O1 W hh hx0 hv hu) hd hhd))
end

/-- what the element's test is told of the heap and the row -/
def elS (σ : L2.St) (H : Hp) (xs : List V) (pb : Nat → Bool) : Prop :=
  ∃ (hx : Dt) (hv : V) (l : List Dt), okH hx = true ∧ l.all Vx = true ∧ σ[0]? = some (some hv) ∧ Rp H hx hv ∧ Rps H l xs ∧ ∀ j y, l[j]? = some y → pb j = strayB hx y
theorem okH_eq {hx : Dt} (h : okH hx = true) : ∃ y o r b, hx = .tup [.tup y, .tup o, r, b] := by
  unfold okH at h
  split at h
  · exact ⟨_, _, _, _, rfl⟩
  · cases h
theorem range_any {α : Type} (l : List α) (f : α → Bool) (pb : Nat → Bool) (h : ∀ j y, l[j]? = some y → pb j = f y) : (List.range l.length).any pb = l.any f := by
  rw [Bool.eq_iff_iff, List.any_eq_true, List.any_eq_true]
  constructor
  · intro ⟨j, hj, e⟩
    have hj' := List.mem_range.mp hj
    refine ⟨l[j], List.getElem_mem hj', ?_⟩
    rw [← h j _ (List.getElem?_eq_getElem hj')]
    exact e
  · intro ⟨y, hy, e⟩
    obtain ⟨j, hj, ej⟩ := List.getElem_of_mem hy
    refine ⟨j, List.mem_range.mpr hj, ?_⟩
    rw [h j y (by rw [List.getElem?_eq_getElem hj, ej])]
    exact e
theorem rps_back {H : Hp} : ∀ {l : List Dt} {xs : List V} {j : Nat} {v : V}, Rps H l xs → xs[j]? = some v → ∃ y, l[j]? = some y ∧ Rp H y v
  | [], _, j, v, r, e => by
    cases r
    simp at e
  | x :: l, _, 0, v, r, e => by
    obtain ⟨u, r', rfl, h1, h2⟩ := r
    have e : u = v := Option.some.inj e
    subst e
    exact ⟨x, rfl, h1⟩
  | x :: l, _, j + 1, v, r, e => by
    obtain ⟨u, r', rfl, h1, h2⟩ := r
    exact rps_back (j := j) h2 e
theorem wo_off {X : Cx} {pins : List (Addr × Obj)} {σ : L2.St} {H : Hp} {s : Shared} {P : Addr} (I : Inv X pins σ H s) (J : TabG H P) (W : Wo X.K X.mg X.base X.base) : Wo X.K X.mg X.base (off s.heap P) :=
  ⟨W.mod, (fun b o e => off_get (I.bk b o e) fun z => by
    obtain ⟨ps, hP, _⟩ := J
    have q := (I.bs b o e).2
    rw [z, hP] at q
    cases q), W.isi, W.tup, W.len, W.yg⟩
theorem tok_off {P' : Program} {w : World} {H : Hp} {h : Heap} {P : Addr} (ok : HOk P' w H h) (J : TabG H P) : TOk H (off h P) := fun a vs e => by
  obtain ⟨hz, its, rv, o, ho, r⟩ := (show ObjOk P' w H h a (.tup vs) from ok a _ e)
  refine ⟨hz, its, rv, o, off_get ho fun z => ?_, r⟩
  obtain ⟨ps, hP, _⟩ := J
  rw [z, hP] at e
  cases e
section
variable {X : Cx} {C : Cn} {P c : Addr} {k : Nat} {scope : Scope} {f f1 f2 : Addr} {fd fd1 fd2 : FuncData} {p1 p2 p3 p4 p5 p6 p7 gpos pos : Pos}
theorem c_any (hr : Room (k + 2) X.A) (hg : Gl X "any") (hm : X.mg "any" = none) (TB : TabB X.base X.mg c P) (hcode : X.env.code = .ref c) (bi : X.mg "isinstance" = none) (bt : X.mg "tuple" = none) (bl : X.mg "len" = none) (by_ : ∃ t, X.mg "YOUNG" = some (.str "young" t))
    (O : Own X.K X.mg "stray" sstray f fd) (O1 : Own X.K X.mg "points_young" spoints_young f1 fd1) (O2 : Own X.K X.mg "half_of" shalf_of f2 fd2) (sk : scope.kind = .function) (sco : scope.isCoroutine = false) (sce : ∀ y ∈ scope.names, y.2 ≠ .cell) (sdot : scope.names.lookup (".0" : Str) = some NameKind.local) (sloc : scope.names.lookup ("value" : Str) = some .local)
    (snf : ∀ y ∈ scope.names, y.2 = .free → y.1 = ("heap" : Str)) (hcl : ∃ ca, X.env.cells.lookup ("heap" : Str) = some ca)
    (hN0 : X.N[0]? = some ("heap" : Str)) (hN2 : X.N[2]? = some ("row" : Str)) (hv0 : X.env.scope.names.lookup ("heap" : Str) = some .cell) (hv2 : Vis X.env.scope "row")
    (hclo : (cloFrom X.env.cells scope.names []).lookup ("heap" : Str) = some ((X.env.cells.lookup ("heap" : Str)).getD 0)) (hfr : scope.names.lookup ("heap" : Str) = some .free) (hst : scope.names.lookup ("stray" : Str) = some .globalImplicit)
    (hs : ∀ v, genFold (.Name "row" p7) X.env v = pure v)
    (he : starEach [.GeneratorExp (.Call (.Name "stray" p2) [.Name "heap" p3, .Name "value" p4] [] p5) [⟨.Name "value" p6, .Name "row" p7, [], 0⟩] scope gpos] X.env = (false, eval (.GeneratorExp (.Call (.Name "stray" p2) [.Name "heap" p3, .Name "value" p4] [] p5) [⟨.Name "value" p6, .Name "row" p7, [], 0⟩] scope gpos) X.env) :: starEach [] X.env := by rfl) :
    PT X (.Call (.Name "any" p1) [.GeneratorExp (.Call (.Name "stray" p2) [.Name "heap" p3, .Name "value" p4] [] p5) [⟨.Name "value" p6, .Name "row" p7, [], 0⟩] scope gpos] [] pos)
      (tTP P (xTst blB (xL (chk 2 many_stray) (xCons (xVar 0) (xCons (xVar 2) xNil))))) := by
  have S : GenS X.env scope "value" := ⟨sk, sco, sce, sdot, sloc, fun y hy hf => by rw [snf y hy hf]; exact hcl⟩
  have hel : ∀ (pins : List (Addr × Obj)) (σ : L2.St) (s : Shared) (H : Hp) (xs : List V) (pb : Nat → Bool), Inv X pins σ H s → TabG H P → elS σ H xs pb → EltsOk X P scope "value" (.Call (.Name "stray" p2) [.Name "heap" p3, .Name "value" p4] [] p5) s.heap xs pb := by
    intro pins σ s H xs pb I J ⟨hx, hv, l, oh, al, h0, rh, rl, hpb⟩ A' L code j v u m hA hdp hj ru hmu
    obtain ⟨y, ely, ry⟩ := rps_back rl hj
    have vy : Vx y = true := List.all_eq_true.mp al y (List.mem_of_getElem? ely)
    obtain ⟨yy, oo, r, b, eh⟩ := okH_eq oh
    have W' := wo_off I J ⟨I.mod, fun _ _ e => e, bi, bt, bl, by_⟩
    have T := tok_off I.hok J
    obtain ⟨mm, hns, hloc⟩ := I.loc
    obtain ⟨uh, rvh, lk⟩ := hloc 0 "heap" hv hN0 h0 (.inr (.inl hv0))
    rcases lk with ⟨z, _⟩ | ⟨_, ca, eca, hcell⟩
    · rw [show X.env.kindOf ("heap" : Str) = X.env.scope.names.lookup ("heap" : Str) from rfl, hv0] at z
      cases z
    have hcP : ca ≠ P := fun z => by
      obtain ⟨ps, hP, _⟩ := J
      have q := I.freeC _ _ eca
      rw [z, hP] at q
      cases q
    have hcell2 : (off s.heap P).IsCell ca (some uh) := by
      obtain ⟨o, ho, rest⟩ := hcell
      exact ⟨o, off_get ho hcP, rest⟩
    rw [hpb j y ely]
    have FE : Fe (genEnv scope (cloFrom X.env.cells scope.names []) L code builtinsNs X.env) := ⟨S.kind, I.ok.glob, rfl⟩
    refine ev_call2 (d := 3) W' FE hst O.g O.k (ev_free (R := fun z => z = uh) FE hfr (by rw [show (genEnv scope (cloFrom X.env.cells scope.names []) L code builtinsNs X.env).cells = cloFrom X.env.cells scope.names [] from rfl, hclo, eca]; rfl) hcell2 rfl)
      (ev_var (R := fun z => z = u) FE S.loc hmu rfl) (fun z z2 hz hz2 => ?_) (by have := hr.dp; omega) hA
    rw [hz, hz2]
    exact fp_stray O O1 O2 W' eh vy (dh_of T rh rvh) (dh_of T ry ru)
  have h := pt_val (pe_anyT (p := p1) (pos := pos) (k := k + 2) hr hg hm TB hcode S (pe_var (i := 2) hN2 hv2) hel hs he)
  refine ⟨fun pins s σ H Q I q => h.run pins s σ H Q I ?_⟩
  obtain ⟨J, ρ, Sl, q⟩ := q
  show tAny X P elS (tVar 2) σ H fun x H1 => ∃ c, x = .bl c ∧ Q c H1
  unfold xTst xL xCons xNil xVar at q
  cases e0 : ρ[0]? with
  | none => rw [e0] at q; exact q.elim
  | some o0 =>
    cases o0 with
    | none => rw [e0] at q; exact q.elim
    | some s0 =>
      cases e2 : ρ[2]? with
      | none => rw [e0, e2] at q; exact q.elim
      | some o2 =>
        cases o2 with
        | none => rw [e0, e2] at q; exact q.elim
        | some s2 =>
          rw [e0, e2] at q
          simp only [Rz.bind_ok, chk, List.length_cons, List.length_nil, if_true] at q
          obtain ⟨hv, g0, r0⟩ := Sl.get 0 s0 e0
          obtain ⟨rv, g2, r2⟩ := Sl.get 2 s2 e2
          unfold many_stray at q
          split at q
          · rename_i hx l heq
            obtain ⟨q0, q2⟩ : s0.s = .p hx ∧ s2.s = .p (.tup l) := by
              simp only [List.cons.injEq, and_true] at heq
              exact heq
            rw [q0] at r0
            rw [q2] at r2
            split at q
            · rename_i hok
              rw [Bool.and_eq_true] at hok
              obtain ⟨a, vs, ea, ha, hrl⟩ := r2
              refine ⟨rv, g2, a, vs, fun j => ((l[j]?).map (strayB hx)).getD false, ea, ha, J, ⟨hx, hv, l, hok.1, hok.2, g0, r0, hrl, (fun j y ey => by show ((l[j]?).map (strayB hx)).getD false = _; rw [ey]; rfl)⟩, fun H2 e => ?_⟩
              have hl := hrl.length
              rw [hl, range_any l (strayB hx) _ fun j y ey => by show ((l[j]?).map (strayB hx)).getD false = _; rw [ey]; rfl]
              exact ⟨_, rfl, q H2 e⟩
            · exact q.elim
          · exact q.elim
end

theorem noexc (ρ : En) (k : Nat) : xTst blB (xL (chk 2 many_stray) (xCons (xVar 0) (xCons (xVar 2) xNil))) ρ ≠ .exc k := by
  unfold xTst xL xCons xNil xVar
  cases e0 : ρ[0]? with
  | none => exact fun h => nomatch h
  | some o0 =>
    cases o0 with
    | none => exact fun h => nomatch h
    | some s0 =>
      cases e2 : ρ[2]? with
      | none => exact fun h => nomatch h
      | some o2 =>
        cases o2 with
        | none => exact fun h => nomatch h
        | some s2 =>
          simp only [Rz.bind_ok, chk, List.length_cons, List.length_nil, if_true]
          unfold many_stray
          split
          · split
            · exact fun h => nomatch h
            · exact fun h => nomatch h
          · exact fun h => nomatch h
def spTab (Pt : Addr) (n : Nat) (m : List Sv → Rz Sv) : Sp := fun vs H Q _ => TabG H Pt ∧ ∃ ss, ss.length = n ∧ Rss H ss vs ∧ (m ss).P (fun _ => False) fun s =>
  ∀ H' v, TabG H' Pt → (∀ b o, b ≠ Pt → H b = some o → H' b = some o) → (∀ b, H' b = none → H b = none) → Ro H' s v → (∀ a, Oc H' s v a → H a = none) → Q v H'
theorem renv_mp {L M : List Nat} {b : Hp} {mp mp' : Addr → Prop} {fx : List (Nat × V)} {σ : L2.St} {H : Hp} {ρ : En} (I : Renv L M ⟨b, mp, fx⟩ σ H ρ) (h : ∀ a, mp a → mp' a) : Renv L M ⟨b, mp', fx⟩ σ H ρ :=
  ⟨fun a o q n => I.keep a o q fun z => n (h a z), I.alive, I.slots, I.ro, fun i s v a q hM w oc => (I.own i s v a q hM w oc).imp id (h a), I.sep, I.fix⟩
theorem fn_tab {P : Program} {w : World} {K : PySem.W.Frag} {mg : Str → Option Value} {base : Heap} {nm : Str} {stm : Stmt} {f : Addr} {N ps : List Str} {j n k : Nat} {cl : Nat → Addr} {s : XS} {kV doc pm cdv ct oc : Value} {an od : Option Addr} {osl : Array (Option Value)} {Pt : Addr}
    (lk : K.lookup f = some ⟨oc, od, .func (PySem.W.fnOf nm nm (defArgs stm) (defBody stm) (defScope stm) .none kV doc pm an cdv ct), osl⟩) (hcd : PySem.W.codeIn K cdv nm = true) (S : FnScope N ps (defScope stm)) (hk : N.length = k) (hn : ps.length = n)
    (hbody : ∀ (A : Around) (outer : List Env) (s0 : Shared) (H : Hp) (E : XK), Room j (A.deeper (PyProof.Rows.envOfC nm (defScope stm) s0.heap.objs.size f cdv)) →
      PSs (cxOf (L2.CX P w) P w K mg base N nm (defScope stm) f cdv A outer s0 H E) (defBody stm) (tP Pt (E1 cl E) [] [] s)) :
    FnOk P w K mg base (L2.CX P w) (j + 1) f (PySem.W.fnOf nm nm (defArgs stm) (defBody stm) (defScope stm) .none kV doc pm an cdv ct) ps (spTab Pt n (runD n k s)) := by
  refine fn_of lk hcd S (fun vs H Q E ⟨_, ss, hl, hr, _⟩ => by rw [hr.length, hl, hn]) fun A outer s0 H vs Q E hr ⟨J, ss, hl, hs, q⟩ =>
    ⟨tP Pt (E1 cl E) [] [] s, hbody A outer s0 H E hr, J, ⟨H, fun a => a = Pt, []⟩, initE n k ss, renv_mp (init_renv hk hl hs) (fun _ z => z.elim), rfl, ?_⟩
  unfold runD at q
  rw [if_pos hl] at q
  cases hu : s (initE n k ss) with
  | stuck => rw [hu] at q; exact q.elim
  | exc c ρ' => rw [hu] at q; exact q.elim
  | nx ρ' => rw [hu] at q; exact fun σ' H' I J' => q H' .non J' (fun b o nb e => I.keep b o e nb) I.alive rfl fun a z => z.elim
  | bk ρ' => rw [hu] at q; exact q.elim
  | ct ρ' => rw [hu] at q; exact q.elim
  | rt r ρ' =>
    rw [hu] at q
    exact fun σ' H' v I ro oc _ J' => q H' v J' (fun b o nb e => I.keep b o e nb) I.alive ro fun a oa => (oc a oa).elim (fun z => z) fun z => by
      obtain ⟨ps, hP, _⟩ := J'
      have z : a = Pt := z
      rw [← z] at hP
      exact (tblRs ro.rs oa hP).elim
theorem oksound {P : Program} {w : World} {K : PySem.W.Frag} {mg : Str → Option Value} {base : Heap} {cl : Nat → Addr} {f c Pt : Addr} {kV doc pm ct oc : Value} {an od : Option Addr} {osl : Array (Option Value)}
    (lk : K.lookup f = some ⟨oc, od, .func (PySem.W.fnOf "sound" "sound" (defArgs ssound) (defBody ssound) (defScope ssound) .none kV doc pm an (.ref c) ct), osl⟩) (hcd : PySem.W.codeIn K (.ref c) "sound" = true) (T : Tx K mg cl) (TB : TabB base mg c Pt)
    {f0 f1 f2 : Addr} {fd0 fd1 fd2 : FuncData} (O : Own K mg "stray" sstray f0 fd0) (O1 : Own K mg "points_young" spoints_young f1 fd1) (O2 : Own K mg "half_of" shalf_of f2 fd2)
    {f_whole_book : Addr} {fd_whole_book : FuncData} (D_whole_book : Dn P w K mg base 3 "whole_book" f_whole_book fd_whole_book ["old"] (spM cl 1 mwhole_book)) :
    FnOk P w K mg base (L2.CX P w) 5 f (PySem.W.fnOf "sound" "sound" (defArgs ssound) (defBody ssound) (defScope ssound) .none kV doc pm an (.ref c) ct) ["heap"] (spTab Pt 1 msound) :=
  fn_tab lk hcd scsound rfl rfl fun A outer s0 H E hr => (p_cons (p_lift (st_unp [3, 4, 5, 6] (n := 4) rfl rfl (e_var 0) (pg_tup rfl (pgs_cons (pg_name (i := 3) scsound.nd rfl (Or.inl rfl)) (pgs_cons (pg_name (i := 4) scsound.nd rfl (Or.inl rfl)) (pgs_cons (pg_name (i := 5) scsound.nd rfl (Or.inl rfl)) (pgs_cons (pg_name (i := 6) scsound.nd rfl (Or.inl rfl)) pgs_nil)))))))
(p_cons (p_lift (st_new true 1 scsound.nd rfl (Or.inl rfl) rfl (e_lst (a_cons (e_var 5) a_nil))))
(p_cons (p_lift (st_ext 1 rfl rfl (Or.inl rfl) (e_lc (own := [("_", 7), ("fields", 8)]) rfl scsound.nd (i_var 3) (blkOk_by (N := Nsound) (sc := defScope ssound) (by decide +kernel)) (fun _ _ _ _ _ => (gc_tup rfl (by decide) (pg_tup rfl (pgs_cons (pg_name (i := 7) scsound.nd rfl (Or.inl rfl)) (pgs_cons (pg_name (i := 8) scsound.nd rfl (Or.inl rfl)) pgs_nil))))) (fun _ _ _ _ _ => ts_nil) (fun _ _ _ _ _ => (e_var 8)))))
(p_cons (p_lift (st_ext 1 rfl rfl (Or.inl rfl) (e_lc (own := [("_", 7), ("fields", 8)]) rfl scsound.nd (i_var 4) (blkOk_by (N := Nsound) (sc := defScope ssound) (by decide +kernel)) (fun _ _ _ _ _ => (gc_tup rfl (by decide) (pg_tup rfl (pgs_cons (pg_name (i := 7) scsound.nd rfl (Or.inl rfl)) (pgs_cons (pg_name (i := 8) scsound.nd rfl (Or.inl rfl)) pgs_nil))))) (fun _ _ _ _ _ => ts_nil) (fun _ _ _ _ _ => (e_var 8)))))
(p_cons (p_frz 1 (p_for (passes_of rfl) rfl (i_var 1) (gs_name rfl (pg_name (i := 2) scsound.nd rfl (Or.inl rfl)))
(p_one (p_if (c_any (k := 2) hr rfl T.b_any TB rfl T.b_isinstance T.b_tuple T.b_len T.c_YOUNG O O1 O2 rfl rfl (by decide +kernel) rfl rfl (by decide +kernel) (cell_has rfl) rfl rfl rfl (Or.inl rfl) rfl rfl rfl (fun _ => rfl))
(p_lifts (st_one (st_ret e_bl)))
(p_lifts st_nil) (fun ρ k => noexc ρ k)))))
(p_one (p_lift (st_ret (e_cp (c_eq hr.units) (e_var 6) (tE_of_tF (e_call D_whole_book.ok (hr.mono (by decide)) rfl D_whole_book.g D_whole_book.k D_whole_book.b takesE (a_cons (e_var 4) a_nil))))))))))))
end Kp

namespace Kp
open PySem PySem.Spec PyProof.Rows L2 Fw H1
open GxR (TabB TabG Tabbed GenS)

theorem renv_tabG {L M : List Nat} {F : Fr} {σ : L2.St} {H H' : Hp} {ρ : En} {P : Addr} (I : Renv L M F σ H ρ) (mP : F.mp P) (J : TabG H P) (k : ∀ b o, b ≠ P → H b = some o → H' b = some o) (al : ∀ b, H' b = none → H b = none) : Renv L M F σ H' ρ := by
  have B : ButP (fun b => b = P) H H' := ⟨fun b o n h => k b o n h, fun a ea xs z => by
    obtain ⟨ps, hP, t⟩ := J
    rw [ea, hP] at z
    cases z⟩
  have nt : ∀ {i : Nat} {t : Sl} {u : V}, ρ[i]? = some (some t) → σ[i]? = some (some u) → ∀ a, Oc H t.s u a → ¬ a = P := fun h1 h2 => tabNot J (I.at h1 h2)
  refine ⟨fun a o q n => k a o (fun z => n (z ▸ mP)) (I.keep a o q n), fun a q => I.alive a (al a q), ⟨I.slots.len, fun i t q => ?_⟩, fun i s v q1 q2 => (I.ro i s v q1 q2).butP B (nt q1 q2), fun i s v a q1 hM q2 oc => I.own i s v a q1 hM q2 (Oc.butP B (I.at q1 q2) (nt q1 q2) oc),
    fun i j s t v u a ij q1 q2 q3 q4 oc oc2 => I.sep i j s t v u a ij q1 q2 q3 q4 (Oc.butP B (I.at q1 q3) (nt q1 q3) oc) (Oc.butP B (I.at q2 q4) (nt q2 q4) oc2), I.fix⟩
  obtain ⟨v, h1, h2⟩ := I.slots.get i t q
  exact ⟨v, h1, h2.butP B (nt q h1)⟩
structure Dq (P : Program) (w : World) (K : PySem.W.Frag) (mg : Str → Option Value) (base : Heap) (k : Nat) (nm : Str) (f : Addr) (fd : FuncData) (ps : List Str) (sp : Sp) : Prop where
  ok : FnOk P w K mg base (L2.CX P w) k f fd ps sp
  g : mg nm = some (.ref f)
section
variable {X : Cx} {C : Cn} {L M : List Nat} {P : Addr} {e : Expr} {pos p cpos pos' : Pos}
theorem p_asgTab {m : List Sv → Rz Sv} {f : Addr} {fd : FuncData} {k : Nat} {nm n pn : Str} (i j : Nat) (F : FnOk X.prog X.w X.K X.mg X.base (L2.CX X.prog X.w) k f fd [pn] (spTab P 1 m)) (hr : Room k X.A) (hg : Gl X nm) (hm : X.mg nm = some (.ref f)) (hk : PySem.W.keepIn X.K (.ref f) = true) (hb : Binds X.K fd [pn] [])
    (ha : PA X [e] (tA C (xCons (xVar j) xNil))) (hN : X.N.Nodup) (hi : X.N[i]? = some n) (hx : Loc X.env.scope n) (hL : L.contains i = false) (hs : swapsWith (.Call (.Name nm p) [e] [] cpos) (some (.Name n pos')) pos.line X.env = pure false := by rfl)
    (hf : X.fn n = true ∨ X.env.scope.names.lookup n = some .local := by first | exact .inl rfl | exact .inr rfl | assumption) (hdb : (nm == ("__debug__" : Str)) = false := by decide) (he : starEach [e] X.env = (false, eval e X.env) :: starEach [] X.env := by rfl) :
    PS X (.Assign [.Name n pos'] (.Call (.Name nm p) [e] [] cpos) pos) (tP P C L M (sAsg i (xL (chk 1 (noX m)) (xCons (xVar j) xNil)))) := by
  have hp : Passes (L2.CX X.prog X.w) X (fun _ _ _ => False) := fun _ _ _ _ _ _ _ z => by
    obtain ⟨_, _, _, _, _, _, _, _, _, _, _, _, z⟩ := z
    exact z.elim
  refine impS (ps_set hN hi hx (pe_call (dvs := []) (ds := []) F hr hg hm hk hb .nil hp ha hdb he) hs hf) fun D σ H ⟨J, F0, ρ, I, mP, q⟩ => ?_
  unfold sAsg ofR xL xCons xNil xVar at q
  refine ⟨ρ, I.slots, ?_⟩
  unfold xCons xNil xVar
  cases e0 : ρ[j]? with
  | none => rw [e0] at q; exact q.elim
  | some o0 =>
    cases o0 with
    | none => rw [e0] at q; exact q.elim
    | some s0 =>
      rw [e0] at q
      simp only [Rz.bind_ok, chk, List.length_cons, List.length_nil, if_true, noX] at q
      intro H1 vs e1 rs
      have I1 := I.mono e1
      have J1 := tabSame J e1
      refine ⟨J1, [s0.s], rfl, by simpa using rs, ?_⟩
      cases hms : m [s0.s] with
      | stuck => rw [hms] at q; exact q.elim
      | exc c => rw [hms] at q; exact q.elim
      | ok r =>
        rw [hms] at q
        intro H' v J' kp al ro oc
        cases r with
        | p x => exact q _ H' ((renv_tabG I1 mP J1 kp al).setV ro fun z => by rw [List.contains_iff_mem.mpr z] at hL; cases hL) J'
        | l _ => exact q.elim
        | d _ => exact q.elim
        | ll _ => exact q.elim
        | pl _ _ => exact q.elim
end
theorem oklaw {P : Program} {w : World} {K : PySem.W.Frag} {mg : Str → Option Value} {base : Heap} {cl : Nat → Addr} {f Pt : Addr} {kV doc pm cdv ct oc : Value} {an od : Option Addr} {osl : Array (Option Value)}
    (lk : K.lookup f = some ⟨oc, od, .func (PySem.W.fnOf "law" "law" (defArgs slaw) (defBody slaw) (defScope slaw) .none kV doc pm an cdv ct), osl⟩) (hcd : PySem.W.codeIn K cdv "law" = true) (T : Tx K mg cl) {f__law_cell_at : Addr} {fd__law_cell_at : FuncData} (D__law_cell_at : Dn P w K mg base 1 "_law_cell_at" f__law_cell_at fd__law_cell_at ["_law_script", "_law_k"] (spM cl 2 m_law_cell_at)) {f__law_due_of : Addr} {fd__law_due_of : FuncData} (D__law_due_of : Dn P w K mg base 2 "_law_due_of" f__law_due_of fd__law_due_of ["_law_heap"] (spM cl 1 m_law_due_of)) {f__law_heap_by : Addr} {fd__law_heap_by : FuncData} (D__law_heap_by : Dn P w K mg base 4 "_law_heap_by" f__law_heap_by fd__law_heap_by ["_law_script"] (spM cl 1 m_law_heap_by)) {f__law_pointer_by : Addr} {fd__law_pointer_by : FuncData} (D__law_pointer_by : Dn P w K mg base 1 "_law_pointer_by" f__law_pointer_by fd__law_pointer_by ["_law_cell", "_law_heap", "_law_far"] (spM cl 3 m_law_pointer_by)) {f__law_spoilt_book : Addr} {fd__law_spoilt_book : FuncData} (D__law_spoilt_book : Dn P w K mg base 1 "_law_spoilt_book" f__law_spoilt_book fd__law_spoilt_book ["_law_heap", "_law_cell"] (spM cl 2 m_law_spoilt_book)) {f__law_spoilt_value : Addr} {fd__law_spoilt_value : FuncData} (D__law_spoilt_value : Dn P w K mg base 1 "_law_spoilt_value" f__law_spoilt_value fd__law_spoilt_value ["_law_heap", "_law_cell", "_law_odd"] (spM cl 3 m_law_spoilt_value)) {f_sound : Addr} {fd_sound : FuncData} (D_sound : Dn P w K mg base 5 "sound" f_sound fd_sound ["heap"] (spTab Pt 1 msound)) :
    FnOk P w K mg base (L2.CX P w) 6 f (PySem.W.fnOf "law" "law" (defArgs slaw) (defBody slaw) (defScope slaw) .none kV doc pm an cdv ct) ["_law_script"] (spTab Pt 1 mlaw) :=
  fn_tab lk hcd sclaw rfl rfl fun A outer s0 H E hr => (p_cons (p_lift (st_asg 1 sclaw.nd rfl (Or.inl rfl) rfl (tE_of_tF (e_call D__law_heap_by.ok (hr.mono (by decide)) rfl D__law_heap_by.g D__law_heap_by.k D__law_heap_by.b takesE (a_cons (e_var 0) a_nil)))))
(p_cons (p_lift (st_asg 2 sclaw.nd rfl (Or.inl rfl) rfl (e_mod (tE_of_tF (e_call D__law_cell_at.ok (hr.mono (by decide)) rfl D__law_cell_at.g D__law_cell_at.k D__law_cell_at.b takesE (a_cons (e_var 0) (a_cons e_int a_nil)))) e_int)))
(p_cons (p_lift (st_if (t_cp (c_lt hr.units0) (e_var 2) e_int)
(st_cons (st_asg 4 sclaw.nd rfl (Or.inl rfl) rfl (e_mod (tE_of_tF (e_call D__law_cell_at.ok (hr.mono (by decide)) rfl D__law_cell_at.g D__law_cell_at.k D__law_cell_at.b takesE (a_cons (e_var 0) (a_cons e_int a_nil)))) (e_sub (e_pow e_int e_int) e_int)))
(st_cons (st_asg 5 sclaw.nd rfl (Or.inl rfl) rfl (tE_of_tF (e_call D__law_pointer_by.ok (hr.mono (by decide)) rfl D__law_pointer_by.g D__law_pointer_by.k D__law_pointer_by.b takesE (a_cons (tE_of_tF (e_call D__law_cell_at.ok (hr.mono (by decide)) rfl D__law_cell_at.g D__law_cell_at.k D__law_cell_at.b takesE (a_cons (e_var 0) (a_cons e_int a_nil)))) (a_cons (e_var 1) (a_cons (e_var 4) a_nil))))))
(st_one (st_asg 1 sclaw.nd rfl (Or.inl rfl) rfl (tE_of_tF (e_call D__law_spoilt_value.ok (hr.mono (by decide)) rfl D__law_spoilt_value.g D__law_spoilt_value.k D__law_spoilt_value.b takesE (a_cons (e_var 1) (a_cons (tE_of_tF (e_call D__law_cell_at.ok (hr.mono (by decide)) rfl D__law_cell_at.g D__law_cell_at.k D__law_cell_at.b takesE (a_cons (e_var 0) (a_cons e_int a_nil)))) (a_cons (e_var 5) a_nil)))))))))
st_nil))
(p_cons (p_lift (st_if (t_cp c_gt (e_var 2) e_int)
(st_cons (st_asg 6 sclaw.nd rfl (Or.inl rfl) rfl (tE_of_tF (e_call D__law_spoilt_book.ok (hr.mono (by decide)) rfl D__law_spoilt_book.g D__law_spoilt_book.k D__law_spoilt_book.b takesE (a_cons (e_var 1) (a_cons (tE_of_tF (e_call D__law_cell_at.ok (hr.mono (by decide)) rfl D__law_cell_at.g D__law_cell_at.k D__law_cell_at.b takesE (a_cons (e_var 0) (a_cons e_int a_nil)))) a_nil)))))
(st_one (st_asg 1 sclaw.nd rfl (Or.inl rfl) rfl (e_tup (a_cons (e_ix (e_var 1) e_int) (a_cons (e_ix (e_var 1) e_int) (a_cons (e_ix (e_var 1) e_int) (a_cons (e_var 6) a_nil))))))))
st_nil))
(p_cons (p_asgTab 3 1 D_sound.ok (hr.mono (by decide)) rfl D_sound.g D_sound.k D_sound.b (a_cons (e_var 1) a_nil) sclaw.nd rfl (Or.inl rfl) rfl)
(p_one (p_lift (st_ret (e_and (e_isi ty_bool rfl T.b_isinstance rfl T.b_bool (e_var 3)) (e_one (e_cp (c_eq hr.units) (e_var 3) (tE_of_tF (e_call D__law_due_of.ok (hr.mono (by decide)) rfl D__law_due_of.g D__law_due_of.k D__law_due_of.b takesE (a_cons (e_var 1) a_nil))))))))))))))
end Kp

/-! Data of heaps. -/
namespace Ma
open PySem L2 Fw
inductive Vl where
  | non | int (i : Int) | ptr (y : Bool) (k : Int)
  deriving DecidableEq
structure Th where
  age : Int
  fs : List Vl
structure Hq where
  young : List Th
  old : List Th
  roots : List Vl
  book : List (Int × Int)
abbrev sY : Str := "young"
abbrev sO : Str := "old"
def wd (y : Bool) : Str := if y = true then "young" else "old"
def enc : Vl → Dt
  | .non => .non
  | .int i => .int i
  | .ptr y k => .tup [.str (wd y), .int k]
def encT (t : Th) : Dt := .tup [.int t.age, .tup (t.fs.map enc)]
def encP (p : Int × Int) : Dt := .tup [.int p.1, .int p.2]
def encH (h : Hq) : Dt := .tup [.tup (h.young.map encT), .tup (h.old.map encT), .tup (h.roots.map enc), .tup (h.book.map encP)]

/-! equality -/
@[simp] theorem eq_int (i j : Int) : eqD (.p (.int i)) (.p (.int j)) = .ok (.p (.bl (i == j))) := rfl
@[simp] theorem ne_int (i j : Int) : neD (.p (.int i)) (.p (.int j)) = .ok (.p (.bl (!(i == j)))) := rfl
@[simp] theorem eq_bl (i j : Bool) : eqD (.p (.bl i)) (.p (.bl j)) = .ok (.p (.bl (i == j))) := rfl
@[simp] theorem ne_bl (i j : Bool) : neD (.p (.bl i)) (.p (.bl j)) = .ok (.p (.bl (!(i == j)))) := rfl
theorem eq_str {s t : Str} (hs : PyData.strOk s = true) (ht : PyData.strOk t = true) : eqD (.p (.str s)) (.p (.str t)) = .ok (.p (.bl (s == t))) := by
  show (if SeqAt.shaped (.str s) = true ∧ SeqAt.shaped (.str t) = true then Rz.ok (Sv.p (.bl (PyData.eqv (.str s) (.str t)))) else .stuck) = _
  rw [if_pos ⟨by simp [SeqAt.shaped, PyData.canLay0, PyData.depth, hs], by simp [SeqAt.shaped, PyData.canLay0, PyData.depth, ht]⟩]
  rfl
theorem ne_str {s t : Str} (hs : PyData.strOk s = true) (ht : PyData.strOk t = true) : neD (.p (.str s)) (.p (.str t)) = .ok (.p (.bl (!(s == t)))) := by
  show (if SeqAt.shaped (.str s) = true ∧ SeqAt.shaped (.str t) = true then Rz.ok (Sv.p (.bl (!PyData.eqv (.str s) (.str t)))) else .stuck) = _
  rw [if_pos ⟨by simp [SeqAt.shaped, PyData.canLay0, PyData.depth, hs], by simp [SeqAt.shaped, PyData.canLay0, PyData.depth, ht]⟩]
  rfl
theorem ok_wd (y : Bool) : PyData.strOk (wd y) = true := by cases y <;> decide +kernel
theorem ok_y : PyData.strOk sY = true := by decide +kernel
theorem ok_o : PyData.strOk sO = true := by decide +kernel
@[simp] theorem wd_y (y : Bool) : (wd y == sY) = y := by cases y <;> decide +kernel
@[simp] theorem wd_o (y : Bool) : (wd y == sO) = !y := by cases y <;> decide +kernel
@[simp] theorem eq_wy (y : Bool) : eqD (.p (.str (wd y))) (.p (.str sY)) = .ok (.p (.bl y)) := by rw [eq_str (ok_wd y) ok_y, wd_y]
@[simp] theorem eq_wo (y : Bool) : eqD (.p (.str (wd y))) (.p (.str sO)) = .ok (.p (.bl (!y))) := by rw [eq_str (ok_wd y) ok_o, wd_o]
theorem wd_t : wd true = sY := rfl
theorem wd_f : wd false = sO := rfl
end Ma

namespace Kp
open PySem L2 Fw Ma
theorem fmod_lt (i j : Int) (hj : 0 < j) : 0 ≤ i.fmod j ∧ i.fmod j < j := ⟨Int.fmod_nonneg_of_pos i hj, Int.fmod_lt_of_pos i hj⟩
theorem cell_at_ok (ns : List Int) (k : Nat) : m_law_cell_at [.l (ns.map Dt.int), .p (.int k)] = .ok (.p (.int (ns.getD k 0))) := by
  unfold m_law_cell_at
  by_cases h : k < ns.length
  · have e : (ns.map Dt.int)[k]? = some (.int ns[k]) := by simp [h]
    simp [run_1, run_2, run_3, run_4, run_5, ev_C, ev_U, ev_B, ev_nil, ev_cons, ev_L, ev_tst, ev_and, ev_or, ev_not, ev_V, ev_if, ev_ch, ev_var0, ev_varS, ev_seq, ev_sif, ev_asg, ev_new, ev_unp, ev_ret, ev_retF, ev_drop, ev_snil, ev_raise, ev_for, sv_0, sv_S, setVs, op_mul_i, op_mod_i, op_div_i, op_p60, h, ix_ln e]
  · simp [run_1, run_2, run_3, run_4, run_5, ev_C, ev_U, ev_B, ev_nil, ev_cons, ev_L, ev_tst, ev_and, ev_or, ev_not, ev_V, ev_if, ev_ch, ev_var0, ev_varS, ev_seq, ev_sif, ev_asg, ev_new, ev_unp, ev_ret, ev_retF, ev_drop, ev_snil, ev_raise, ev_for, sv_0, sv_S, setVs, op_mul_i, op_mod_i, op_div_i, op_p60, h]
theorem cell_at_i (ns : List Int) (j : Int) (h : 0 ≤ j) : m_law_cell_at [.l (ns.map Dt.int), .p (.int j)] = .ok (.p (.int (ns.getD j.toNat 0))) := by
  obtain ⟨n, rfl⟩ : ∃ n : Nat, j = n := ⟨j.toNat, by omega⟩
  rw [cell_at_ok]
  simp
def cellK (ns : List Int) (k : Int) : Int := if 0 < ns.length then ns.getD (k.fmod ns.length).toNat 0 else 0
def mixed (ns : List Int) (k : Int) : Int := ((cellK ns k + 7919 * k) * 48271).fmod 2147483647
theorem mixed_lt (ns : List Int) (k : Int) : 0 ≤ mixed ns k ∧ mixed ns k < 2147483647 := fmod_lt _ _ (by decide)
theorem mixed_ok (ns : List Int) (k : Int) : m_law_mixed [.l (ns.map Dt.int), .p (.int k)] = .ok (.p (.int (mixed ns k))) := by
  unfold m_law_mixed mixed cellK
  by_cases h : ns.length = 0
  · simp [run_1, run_2, run_3, run_4, run_5, ev_C, ev_U, ev_B, ev_nil, ev_cons, ev_L, ev_tst, ev_and, ev_or, ev_not, ev_V, ev_if, ev_ch, ev_var0, ev_varS, ev_seq, ev_sif, ev_asg, ev_new, ev_unp, ev_ret, ev_retF, ev_drop, ev_snil, ev_raise, ev_for, sv_0, sv_S, setVs, op_mul_i, op_mod_i, op_div_i, op_p60, h]
  · have hp : 0 < ns.length := by omega
    obtain ⟨h1, h2⟩ := fmod_lt k ns.length (by omega)
    have h3 : (k.fmod ns.length).toNat < ns.length := by omega
    have h4 : (ns.map Dt.int)[(k.fmod ns.length).toNat]? = some (.int (ns.getD (k.fmod ns.length).toNat 0)) := by simp [h3]
    have hn : ns ≠ [] := fun z => by rw [z] at h; exact h rfl
    simp [run_1, run_2, run_3, run_4, run_5, ev_C, ev_U, ev_B, ev_nil, ev_cons, ev_L, ev_tst, ev_and, ev_or, ev_not, ev_V, ev_if, ev_ch, ev_var0, ev_varS, ev_seq, ev_sif, ev_asg, ev_new, ev_unp, ev_ret, ev_retF, ev_drop, ev_snil, ev_raise, ev_for, sv_0, sv_S, setVs, op_mul_i, op_mod_i, op_div_i, op_p60, hp, hn, ix_l h1 h4]
def vOk (a b : Int) : Vl → Prop
  | .ptr true p => 0 ≤ p ∧ p < a
  | .ptr false p => 0 ≤ p ∧ p < b
  | _ => True
theorem two_cases (i : Int) : i.fmod 2 = 0 ∨ i.fmod 2 = 1 := by
  have := fmod_lt i 2 (by decide)
  omega
abbrev szs (a b : Int) (r : List Int) : Sv := .l (Dt.int a :: Dt.int b :: r.map Dt.int)
/-- the number that is read by a place and cut -/
theorem num_ok (ns : List Int) (k : Int) : ∃ c : Int, m_law_cell_at [.l (ns.map Dt.int), .p (.int (k.fmod (if 1 < (ns.length : Int) then (ns.length : Int) else 1)))] = .ok (.p (.int c)) := ⟨_, cell_at_i ns _ (fmod_lt _ _ (by split <;> omega)).1⟩
theorem bqF {i j : Int} (h : ¬ i = j) : (i == j) = false := by simp [h]
theorem max_mod (n : Nat) (k : Int) : modD (.p (.int k)) (.p (.int (if 1 < (n : Int) then (n : Int) else 1))) = .ok (.p (.int (k.fmod (if 1 < (n : Int) then (n : Int) else 1)))) := op_mod_i (by split <;> omega)
theorem value_by_ok (ns : List Int) (k a b : Int) (r : List Int) (ha : 0 ≤ a) (hb : 0 ≤ b) : ∃ v, vOk a b v ∧ m_law_value_by [.l (ns.map Dt.int), .p (.int k), szs a b r] = .ok (.p (enc v)) := by
  unfold m_law_value_by
  have hm := mixed_ok ns k
  generalize mixed ns k = m at hm
  have h2 := two_cases (m.fdiv 8)
  obtain ⟨c, hc⟩ := num_ok ns k
  have hd := max_mod ns.length k
  by_cases c0 : m.fmod 8 = 0
  · exact ⟨.non, trivial, by simp [run_1, run_2, run_3, run_4, run_5, ev_C, ev_U, ev_B, ev_nil, ev_cons, ev_L, ev_tst, ev_and, ev_or, ev_not, ev_V, ev_if, ev_ch, ev_var0, ev_varS, ev_seq, ev_sif, ev_asg, ev_new, ev_unp, ev_ret, ev_retF, ev_drop, ev_snil, ev_raise, ev_for, sv_0, sv_S, setVs, op_mul_i, op_mod_i, op_div_i, op_p60, hm, c0, enc]⟩
  by_cases c1 : m.fmod 8 = 1
  · rcases h2 with h2 | h2
    · refine ⟨.int (c.fmod (10 ^ 60) * 1), trivial, ?_⟩
      simp [run_1, run_2, run_3, run_4, run_5, ev_C, ev_U, ev_B, ev_nil, ev_cons, ev_L, ev_tst, ev_and, ev_or, ev_not, ev_V, ev_if, ev_ch, ev_var0, ev_varS, ev_seq, ev_sif, ev_asg, ev_new, ev_unp, ev_ret, ev_retF, ev_drop, ev_snil, ev_raise, ev_for, sv_0, sv_S, setVs, op_mul_i, op_mod_i, op_div_i, op_p60, hm, c1, h2, hd, hc, enc]
    · refine ⟨.int (c.fmod (10 ^ 60) * -1), trivial, ?_⟩
      simp [run_1, run_2, run_3, run_4, run_5, ev_C, ev_U, ev_B, ev_nil, ev_cons, ev_L, ev_tst, ev_and, ev_or, ev_not, ev_V, ev_if, ev_ch, ev_var0, ev_varS, ev_seq, ev_sif, ev_asg, ev_new, ev_unp, ev_ret, ev_retF, ev_drop, ev_snil, ev_raise, ev_for, sv_0, sv_S, setVs, op_mul_i, op_mod_i, op_div_i, op_p60, hm, c1, h2, hd, hc, enc]
  by_cases c2 : m.fmod 8 < 6 ∧ 0 < a
  · have := fmod_lt (m.fdiv 8) a c2.2
    exact ⟨.ptr true ((m.fdiv 8).fmod a), this, by simp [run_1, run_2, run_3, run_4, run_5, ev_C, ev_U, ev_B, ev_nil, ev_cons, ev_L, ev_tst, ev_and, ev_or, ev_not, ev_V, ev_if, ev_ch, ev_var0, ev_varS, ev_seq, ev_sif, ev_asg, ev_new, ev_unp, ev_ret, ev_retF, ev_drop, ev_snil, ev_raise, ev_for, sv_0, sv_S, setVs, op_mul_i, op_mod_i, op_div_i, op_p60, hm, bqF c0, bqF c1, c2, enc, wd, show a ≠ 0 by omega]⟩
  by_cases c3 : 4 < m.fmod 8 ∧ 0 < b
  · have := fmod_lt (m.fdiv 8) b c3.2
    refine ⟨.ptr false ((m.fdiv 8).fmod b), this, ?_⟩
    by_cases c4 : m.fmod 8 < 6
    · have c5 : ¬ 0 < a := fun z => c2 ⟨c4, z⟩
      simp [run_1, run_2, run_3, run_4, run_5, ev_C, ev_U, ev_B, ev_nil, ev_cons, ev_L, ev_tst, ev_and, ev_or, ev_not, ev_V, ev_if, ev_ch, ev_var0, ev_varS, ev_seq, ev_sif, ev_asg, ev_new, ev_unp, ev_ret, ev_retF, ev_drop, ev_snil, ev_raise, ev_for, sv_0, sv_S, setVs, op_mul_i, op_mod_i, op_div_i, op_p60, hm, bqF c0, bqF c1, c4, c5, c3, enc, wd, show b ≠ 0 by omega]
    · simp [run_1, run_2, run_3, run_4, run_5, ev_C, ev_U, ev_B, ev_nil, ev_cons, ev_L, ev_tst, ev_and, ev_or, ev_not, ev_V, ev_if, ev_ch, ev_var0, ev_varS, ev_seq, ev_sif, ev_asg, ev_new, ev_unp, ev_ret, ev_retF, ev_drop, ev_snil, ev_raise, ev_for, sv_0, sv_S, setVs, op_mul_i, op_mod_i, op_div_i, op_p60, hm, bqF c0, bqF c1, c4, c3, enc, wd, show b ≠ 0 by omega]
  · refine ⟨.int ((m.fdiv 8).fmod 7 - 3), trivial, ?_⟩
    by_cases c4 : m.fmod 8 < 6 <;> by_cases c5 : 0 < a <;> by_cases c6 : 4 < m.fmod 8 <;> by_cases c7 : 0 < b <;> first | (exfalso; first | exact c2 ⟨c4, c5⟩ | exact c3 ⟨c6, c7⟩) | simp [run_1, run_2, run_3, run_4, run_5, ev_C, ev_U, ev_B, ev_nil, ev_cons, ev_L, ev_tst, ev_and, ev_or, ev_not, ev_V, ev_if, ev_ch, ev_var0, ev_varS, ev_seq, ev_sif, ev_asg, ev_new, ev_unp, ev_ret, ev_retF, ev_drop, ev_snil, ev_raise, ev_for, sv_0, sv_S, setVs, op_mul_i, op_mod_i, op_div_i, op_p60, hm, bqF c0, bqF c1, c4, c5, c6, c7, enc]
end Kp

namespace Kp
open PySem L2 Fw Ma
theorem lcD_rel {tg : Tg} {t : XT} {el : XE} {R : Dt → Prop} : ∀ {xs : List Dt} {ρ : En}, (∀ x ∈ xs, ∃ y, R y ∧ ∃ ρ1, tg x ρ = .ok ρ1 ∧ t ρ1 = .ok true ∧ el ρ1 = .ok (.p y)) → ∃ ys, lcD tg t el xs ρ = .ok ys ∧ ys.length = xs.length ∧ ∀ y ∈ ys, R y
  | [], ρ, _ => ⟨[], rfl, rfl, fun y h => by cases h⟩
  | x :: xs, ρ, h => by
    obtain ⟨y, hy, ρ1, h1, h2, h3⟩ := h x List.mem_cons_self
    obtain ⟨ys, e, hl, hr⟩ := lcD_rel (xs := xs) (ρ := ρ) fun x hx => h x (List.mem_cons_of_mem _ hx)
    refine ⟨y :: ys, ?_, by simp [hl], fun z hz => ?_⟩
    · unfold lcD
      rw [h1, Rz.bind_ok, h2, Rz.bind_ok, if_pos rfl, h3, Rz.bind_ok]
      show (lcD tg t el xs ρ).bind _ = _
      rw [e]
      rfl
    · cases hz with
      | head => exact hy
      | tail _ hz => exact hr z hz
theorem unmap {α : Type} {f : α → Dt} {P : α → Prop} : ∀ {ys : List Dt}, (∀ y ∈ ys, ∃ v, P v ∧ y = f v) → ∃ vs : List α, ys = vs.map f ∧ ∀ v ∈ vs, P v
  | [], _ => ⟨[], rfl, fun v h => by cases h⟩
  | y :: ys, h => by
    obtain ⟨v, hv, rfl⟩ := h y List.mem_cons_self
    obtain ⟨vs, rfl, hs⟩ := unmap (f := f) (P := P) (ys := ys) fun z hz => h z (List.mem_cons_of_mem _ hz)
    refine ⟨v :: vs, rfl, fun z hz => ?_⟩
    cases hz with
    | head => exact hv
    | tail _ hz => exact hs z hz
/-- a comprehension over a range -/
theorem lc_rng {α : Type} {f : α → Dt} {P : α → Prop} {x : XE} {j : Nat} {el : XE} {ρ : En} {n : Int} (hx : x ρ = .ok (.p (.int n))) (h0 : 0 ≤ n) (h1 : n ≤ 1000) (h : ∀ i : Nat, (i : Int) < n → ∃ v, P v ∧ el (setV j (.int i) (wipeE ρ [j])) = .ok (.p (f v))) :
    ∃ vs : List α, xLc (srcR1 x) (tgN j) tYesD el [j] ρ = .ok (.l (List.map f vs)) ∧ vs.length = n.toNat ∧ ∀ v ∈ vs, P v := by
  have hs : srcR1 x ρ = .ok ((List.range n.toNat).map fun (i : Nat) => Dt.int (i : Int)) := by
    unfold srcR1
    rw [hx]
    show rngI (.p (.int 0)) (.p (.int n)) = _
    unfold rngI
    refine (if_pos (by omega)).trans ?_
    congr 1
    simp
  obtain ⟨ys, e, hl, hr⟩ := lcD_rel (tg := tgN j) (t := tYesD) (el := el) (R := fun y => ∃ v, P v ∧ y = f v) (xs := (List.range n.toNat).map fun (i : Nat) => Dt.int (i : Int)) (ρ := wipeE ρ [j]) fun x hx => by
    obtain ⟨i, hi, rfl⟩ := List.mem_map.mp hx
    rw [List.mem_range] at hi
    obtain ⟨v, hv, he⟩ := h i (by omega)
    exact ⟨f v, ⟨v, hv, rfl⟩, _, rfl, rfl, he⟩
  obtain ⟨vs, rfl, hv⟩ := unmap hr
  refine ⟨vs, ?_, by simpa using hl, hv⟩
  unfold xLc
  rw [hs, Rz.bind_ok, e]
  exact if_pos (by rw [List.length_map, List.length_map, List.length_range] at *; omega)
abbrev pI (i : Int) : Option Sl := some (.v (.p (.int i)))
theorem thing_vals (ns : List Int) (k a b : Int) (r : List Int) (ha : 0 ≤ a) (hb : 0 ≤ b) (n : Int) (h0 : 0 ≤ n) (h1 : n ≤ 100) (x3 x5 : Option Sl) :
    ∃ vs : List Vl, xLc (srcR1 (xVar 4)) (tgN 6) tYesD (xL (chk 3 (noX m_law_value_by)) (xCons (xVar 0) (xCons (xB addD (xB addD (xVar 1) (xC (.int 1))) (xVar 6)) (xCons (xVar 2) xNil)))) [6]
      [some (.v (.l (ns.map Dt.int))), pI k, some (.v (szs a b r)), x3, pI n, x5, none] = .ok (.l (vs.map enc)) ∧ vs.length = n.toNat ∧ ∀ v ∈ vs, vOk a b v := by
  refine lc_rng (n := n) rfl h0 (by omega) fun i hi => ?_
  obtain ⟨v, hv, e⟩ := value_by_ok ns (k + 1 + i) a b r ha hb
  refine ⟨v, hv, ?_⟩
  have e : m_law_value_by [.l (ns.map Dt.int), .p (.int (k + 1 + i)), szs a b r] = .ok (.p (enc v)) := e
  simp [run_1, run_2, run_3, run_4, run_5, ev_C, ev_U, ev_B, ev_nil, ev_cons, ev_L, ev_tst, ev_and, ev_or, ev_not, ev_V, ev_if, ev_ch, ev_var0, ev_varS, ev_seq, ev_sif, ev_asg, ev_new, ev_unp, ev_ret, ev_retF, ev_drop, ev_snil, ev_raise, ev_for, sv_0, sv_S, setVs, op_mul_i, op_mod_i, op_div_i, op_p60, wipeE, nx_ok e]
theorem thing_by_ok (ns : List Int) (k a b : Int) (r : List Int) (ha : 0 ≤ a) (hb : 0 ≤ b) : ∃ t : Th, t.fs.length ≤ 99 ∧ (∀ v ∈ t.fs, vOk a b v) ∧ m_law_thing_by [.l (ns.map Dt.int), .p (.int k), szs a b r] = .ok (.p (encT t)) := by
  unfold m_law_thing_by
  have hm := mixed_ok ns k
  generalize mixed ns k = m at hm
  have b1 := fmod_lt m 4 (by decide)
  have b2 := fmod_lt (m.fdiv 128) 100 (by decide)
  obtain ⟨c, hc⟩ := num_ok ns k
  have hd := max_mod ns.length k
  have main : ∀ (many age : Int), 0 ≤ many → many ≤ 99 → ∃ vs : List Vl, vs.length ≤ 99 ∧ (∀ v ∈ vs, vOk a b v) ∧ xLc (srcR1 (xVar 4)) (tgN 6) tYesD (xL (chk 3 (noX m_law_value_by)) (xCons (xVar 0) (xCons (xB addD (xB addD (xVar 1) (xC (.int 1))) (xVar 6)) (xCons (xVar 2) xNil)))) [6]
      [some (.v (.l (ns.map Dt.int))), pI k, some (.v (szs a b r)), pI m, pI many, pI age, none] = .ok (.l (vs.map enc)) := fun many age h0 h1 => by
    obtain ⟨vs, e, hl, hv⟩ := thing_vals ns k a b r ha hb many h0 (by omega) (pI m) (pI age)
    exact ⟨vs, by rw [hl]; omega, hv, e⟩
  by_cases c1 : (m.fdiv 4).fmod 32 = 3 <;> by_cases c2 : (m.fdiv 51200).fmod 8 = 1
  · obtain ⟨vs, hl, hv, e⟩ := main ((m.fdiv 128).fmod 100) (c.fmod 1000000000000000000000000000000000000000000000000000000000000) b2.1 (by omega)
    refine ⟨⟨c.fmod 1000000000000000000000000000000000000000000000000000000000000, vs⟩, hl, hv, ?_⟩
    simp [run_1, run_2, run_3, run_4, run_5, ev_C, ev_U, ev_B, ev_nil, ev_cons, ev_L, ev_tst, ev_and, ev_or, ev_not, ev_V, ev_if, ev_ch, ev_var0, ev_varS, ev_seq, ev_sif, ev_asg, ev_new, ev_unp, ev_ret, ev_retF, ev_drop, ev_snil, ev_raise, ev_for, sv_0, sv_S, setVs, op_mul_i, op_mod_i, op_div_i, op_p60, hm, c1, c2, hd, hc, e, encT]
  · obtain ⟨vs, hl, hv, e⟩ := main ((m.fdiv 128).fmod 100) ((m.fdiv 12800).fmod 4) b2.1 (by omega)
    refine ⟨⟨(m.fdiv 12800).fmod 4, vs⟩, hl, hv, ?_⟩
    simp [run_1, run_2, run_3, run_4, run_5, ev_C, ev_U, ev_B, ev_nil, ev_cons, ev_L, ev_tst, ev_and, ev_or, ev_not, ev_V, ev_if, ev_ch, ev_var0, ev_varS, ev_seq, ev_sif, ev_asg, ev_new, ev_unp, ev_ret, ev_retF, ev_drop, ev_snil, ev_raise, ev_for, sv_0, sv_S, setVs, op_mul_i, op_mod_i, op_div_i, op_p60, hm, c1, bqF c2, e, encT]
  · obtain ⟨vs, hl, hv, e⟩ := main (m.fmod 4) (c.fmod 1000000000000000000000000000000000000000000000000000000000000) b1.1 (by omega)
    refine ⟨⟨c.fmod 1000000000000000000000000000000000000000000000000000000000000, vs⟩, hl, hv, ?_⟩
    simp [run_1, run_2, run_3, run_4, run_5, ev_C, ev_U, ev_B, ev_nil, ev_cons, ev_L, ev_tst, ev_and, ev_or, ev_not, ev_V, ev_if, ev_ch, ev_var0, ev_varS, ev_seq, ev_sif, ev_asg, ev_new, ev_unp, ev_ret, ev_retF, ev_drop, ev_snil, ev_raise, ev_for, sv_0, sv_S, setVs, op_mul_i, op_mod_i, op_div_i, op_p60, hm, bqF c1, c2, hd, hc, e, encT]
  · obtain ⟨vs, hl, hv, e⟩ := main (m.fmod 4) ((m.fdiv 12800).fmod 4) b1.1 (by omega)
    refine ⟨⟨(m.fdiv 12800).fmod 4, vs⟩, hl, hv, ?_⟩
    simp [run_1, run_2, run_3, run_4, run_5, ev_C, ev_U, ev_B, ev_nil, ev_cons, ev_L, ev_tst, ev_and, ev_or, ev_not, ev_V, ev_if, ev_ch, ev_var0, ev_varS, ev_seq, ev_sif, ev_asg, ev_new, ev_unp, ev_ret, ev_retF, ev_drop, ev_snil, ev_raise, ev_for, sv_0, sv_S, setVs, op_mul_i, op_mod_i, op_div_i, op_p60, hm, bqF c1, bqF c2, e, encT]
end Kp

namespace Kp
open PySem L2 Fw Ma
def rgD (i m : Nat) : List Dt := (List.range' i m).map fun (j : Nat) => Dt.int (j : Int)
theorem rg_0 {i : Nat} : rgD i 0 = [] := rfl
theorem rg_S {i m : Nat} : rgD i (m + 1) = Dt.int i :: rgD (i + 1) m := rfl
theorem ev_src1 {x : XE} {ρ : En} : srcR1 x ρ = r1 (rngI (.p (.int 0))) (x ρ) := rfl
theorem op_rng {n : Nat} (h : n ≤ 1000000) : rngI (.p (.int 0)) (.p (.int n)) = .ok (rgD 0 n) := by
  unfold rngI
  refine (if_pos (by omega)).trans ?_
  unfold rgD
  rw [List.range_eq_range']
  congr 1
  simp
theorem op_rng3 : rngI (.p (.int 0)) (.p (.int 3)) = .ok (rgD 0 3) := op_rng (n := 3) (by omega)
/-- a loop over a range, with an invariant -/
theorem forD_inv {tg : Tg} {u : XS} {I : Nat → En → Prop} : ∀ (m i : Nat) (ρ : En), I i ρ → (∀ j ρ, i ≤ j → j < i + m → I j ρ → ∃ ρ1 ρ2, tg (.int j) ρ = .ok ρ1 ∧ u ρ1 = .nx ρ2 ∧ I (j + 1) ρ2) → ∃ ρ', forD tg u (rgD i m) ρ = .nx ρ' ∧ I (i + m) ρ'
  | 0, i, ρ, h, _ => ⟨ρ, rfl, h⟩
  | m + 1, i, ρ, h, hs => by
    obtain ⟨ρ1, ρ2, h1, h2, h3⟩ := hs i ρ (by omega) (by omega) h
    obtain ⟨ρ', e, h4⟩ := forD_inv m (i + 1) ρ2 h3 fun j ρ a b => hs j ρ (by omega) (by omega)
    refine ⟨ρ', ?_, by rw [show i + (m + 1) = i + 1 + m by omega]; exact h4⟩
    rw [rg_S]
    unfold forD
    rw [h1]
    show goOn (u ρ1) _ = _
    rw [h2]
    exact e
def ptY : Vl → Bool
  | .ptr true _ => true
  | _ => false
def rowFrom (i : Nat) : Nat → List Vl → List (Int × Int)
  | _, [] => []
  | k, v :: vs => if ptY v = true then ((i : Int), (k : Int)) :: rowFrom i (k + 1) vs else rowFrom i (k + 1) vs
def bookFrom : Nat → List Th → List (Int × Int)
  | _, [] => []
  | i, t :: ts => rowFrom i 0 t.fs ++ bookFrom (i + 1) ts
theorem rowFrom_c {i k : Nat} {v : Vl} {vs : List Vl} : rowFrom i k (v :: vs) = if ptY v = true then ((i : Int), (k : Int)) :: rowFrom i (k + 1) vs else rowFrom i (k + 1) vs := rfl
theorem bookFrom_c {i : Nat} {t : Th} {ts : List Th} : bookFrom i (t :: ts) = rowFrom i 0 t.fs ++ bookFrom (i + 1) ts := rfl
theorem rowFrom_app (i : Nat) : ∀ (k : Nat) (a b : List Vl), rowFrom i k (a ++ b) = rowFrom i k a ++ rowFrom i (k + a.length) b
  | k, [], b => rfl
  | k, v :: vs, b => by
    rw [List.cons_append, rowFrom_c, rowFrom_c]
    rw [rowFrom_app i (k + 1) vs b, show k + 1 + vs.length = k + (v :: vs).length by simp; omega]
    split <;> rfl
theorem bookFrom_app : ∀ (i : Nat) (a b : List Th), bookFrom i (a ++ b) = bookFrom i a ++ bookFrom (i + a.length) b
  | i, [], b => rfl
  | i, t :: ts, b => by
    rw [List.cons_append, bookFrom_c, bookFrom_c]
    rw [bookFrom_app (i + 1) ts b, show i + 1 + ts.length = i + (t :: ts).length by simp; omega, List.append_assoc]
theorem rowFrom_len (i : Nat) : ∀ (k : Nat) (a : List Vl), (rowFrom i k a).length ≤ a.length
  | k, [] => Nat.le_refl _
  | k, v :: vs => by
    have := rowFrom_len i (k + 1) vs
    unfold rowFrom
    split <;> simp <;> omega
theorem bookFrom_len : ∀ (i : Nat) (a : List Th), (∀ t ∈ a, t.fs.length ≤ 100) → (bookFrom i a).length ≤ 100 * a.length
  | i, [], _ => Nat.le_refl _
  | i, t :: ts, h => by
    have h1 := bookFrom_len (i + 1) ts fun t ht => h t (List.mem_cons_of_mem _ ht)
    have h2 := rowFrom_len i 0 t.fs
    have h3 := h t List.mem_cons_self
    unfold bookFrom
    simp
    omega
theorem take_S {α : Type} {l : List α} {j : Nat} {x : α} (h : l[j]? = some x) : l.take (j + 1) = l.take j ++ [x] := by
  rw [List.take_add_one, h]
  rfl
theorem app_ok {i : Nat} {x : XE} {ρ : En} {l : List Dt} {y : Dt} (hi : ρ[i]? = some (some (.o (.l l)))) (hx : x ρ = .ok (.p y)) (hl : l.length < 1000000) : sApp i x ρ = .nx (ρ.set i (some (.o (.l (l ++ [y]))))) := by
  unfold sApp
  rw [hi]
  show ofR (x ρ) ρ _ = _
  rw [hx]
  exact if_pos hl
theorem isT_enc (v : Vl) : ∃ b : Bool, isD "tuple" (.p (enc v)) = .ok (.p (.bl b)) ∧ (b = true ↔ ∃ y k, v = .ptr y k) := by
  cases v with
  | non => exact ⟨false, rfl, by simp⟩
  | int i => exact ⟨false, rfl, by simp⟩
  | ptr y k => exact ⟨true, rfl, by simp⟩
def bkI : XS := (sSeq (sAsg 4 (xB ixD (xB ixD (xB ixD (xVar 0) (xVar 2)) (xC (.int 1))) (xVar 3)))
    (sIf (xAnd (xTst blB (xU (isD "tuple") (xVar 4))) (xTst blB (xB eqD (xB ixD (xVar 4) (xC (.int 0))) (xC (.str "young"))))) (sApp 1 (xL tupD (xCons (xVar 2) (xCons (xVar 3) xNil)))) sNil))
def bkO : XS := (sFor (srcR1 (xL lenD (xCons (xB ixD (xB ixD (xVar 0) (xVar 2)) (xC (.int 1))) xNil))) (tgN 3) bkI)
theorem bkI_ok (o : List Th) (acc : List Dt) (i j : Nat) (t : Th) (v : Vl) (x4 : Option Sl) (ht : o[i]? = some t) (hv : t.fs[j]? = some v) (hl : acc.length < 1000000) :
    bkI [some (.v (.p (.tup (o.map encT)))), some (.o (.l acc)), pI i, pI j, x4] = .nx [some (.v (.p (.tup (o.map encT)))), some (.o (.l (acc ++ if ptY v = true then [encP ((i : Int), (j : Int))] else []))), pI i, pI j, some (.v (.p (enc v)))] := by
  unfold bkI
  have e1 : (o.map encT)[i]? = some (encT t) := by simp [ht]
  have e2 : (t.fs.map enc)[j]? = some (enc v) := by simp [hv]
  cases v with
  | non => simp [run_1, run_2, run_3, run_4, run_5, ev_C, ev_U, ev_B, ev_nil, ev_cons, ev_L, ev_tst, ev_and, ev_or, ev_not, ev_V, ev_if, ev_ch, ev_var0, ev_varS, ev_seq, ev_sif, ev_asg, ev_new, ev_unp, ev_ret, ev_retF, ev_drop, ev_snil, ev_raise, ev_for, sv_0, sv_S, setVs, op_mul_i, op_mod_i, op_div_i, op_p60, ix_tn e1, encT, ix_tn e2, enc, ptY]
  | int i => simp [run_1, run_2, run_3, run_4, run_5, ev_C, ev_U, ev_B, ev_nil, ev_cons, ev_L, ev_tst, ev_and, ev_or, ev_not, ev_V, ev_if, ev_ch, ev_var0, ev_varS, ev_seq, ev_sif, ev_asg, ev_new, ev_unp, ev_ret, ev_retF, ev_drop, ev_snil, ev_raise, ev_for, sv_0, sv_S, setVs, op_mul_i, op_mod_i, op_div_i, op_p60, ix_tn e1, encT, ix_tn e2, enc, ptY]
  | ptr y k =>
    cases y with
    | true =>
      have e3 : eqD (.p (.str (wd true))) (.p (.str "young")) = .ok (.p (.bl true)) := eq_wy true
      simp [run_1, run_2, run_3, run_4, run_5, ev_C, ev_U, ev_B, ev_nil, ev_cons, ev_L, ev_tst, ev_and, ev_or, ev_not, ev_V, ev_if, ev_ch, ev_var0, ev_varS, ev_seq, ev_sif, ev_asg, ev_new, ev_unp, ev_ret, ev_retF, ev_drop, ev_snil, ev_raise, ev_for, sv_0, sv_S, setVs, op_mul_i, op_mod_i, op_div_i, op_p60, ix_tn e1, encT, ix_tn e2, enc, ptY, e3]
      rw [app_ok (l := acc) (y := encP ((i : Int), (j : Int))) rfl (by simp [run_1, run_2, run_3, run_4, run_5, ev_C, ev_U, ev_B, ev_nil, ev_cons, ev_L, ev_tst, ev_and, ev_or, ev_not, ev_V, ev_if, ev_ch, ev_var0, ev_varS, ev_seq, ev_sif, ev_asg, ev_new, ev_unp, ev_ret, ev_retF, ev_drop, ev_snil, ev_raise, ev_for, sv_0, sv_S, setVs, op_mul_i, op_mod_i, op_div_i, op_p60, encP]) hl]
      rfl
    | false =>
      have e3 : eqD (.p (.str (wd false))) (.p (.str "young")) = .ok (.p (.bl false)) := eq_wy false
      simp [run_1, run_2, run_3, run_4, run_5, ev_C, ev_U, ev_B, ev_nil, ev_cons, ev_L, ev_tst, ev_and, ev_or, ev_not, ev_V, ev_if, ev_ch, ev_var0, ev_varS, ev_seq, ev_sif, ev_asg, ev_new, ev_unp, ev_ret, ev_retF, ev_drop, ev_snil, ev_raise, ev_for, sv_0, sv_S, setVs, op_mul_i, op_mod_i, op_div_i, op_p60, ix_tn e1, encT, ix_tn e2, enc, ptY, e3]
theorem bkO_ok (o : List Th) (acc : List (Int × Int)) (i : Nat) (t : Th) (x3 x4 : Option Sl) (ht : o[i]? = some t) (ht2 : t.fs.length ≤ 100) (hl : acc.length < 900000) :
    ∃ y3 y4, bkO [some (.v (.p (.tup (o.map encT)))), some (.o (.l (acc.map encP))), pI i, x3, x4] = .nx [some (.v (.p (.tup (o.map encT)))), some (.o (.l ((acc ++ rowFrom i 0 t.fs).map encP))), pI i, y3, y4] := by
  obtain ⟨ρ', e, x3', x4', hI⟩ := forD_inv (tg := tgN 3) (u := bkI) (I := fun j ρ => ∃ y3 y4, ρ = [some (.v (.p (.tup (o.map encT)))), some (.o (.l ((acc ++ rowFrom i 0 (t.fs.take j)).map encP))), pI i, y3, y4]) t.fs.length 0 [some (.v (.p (.tup (o.map encT)))), some (.o (.l (acc.map encP))), pI i, x3, x4] ⟨x3, x4, by simp [rowFrom]⟩ fun j ρ h0 h1 ⟨y3, y4, hρ⟩ => by
    have hj : j < t.fs.length := by omega
    have hv : t.fs[j]? = some t.fs[j] := List.getElem?_eq_getElem hj
    have hr := rowFrom_len i 0 (t.fs.take j)
    have hr2 : (t.fs.take j).length ≤ 100 := by simp; omega
    subst hρ
    refine ⟨_, _, rfl, bkI_ok o _ i j t t.fs[j] y4 ht hv (by simp; omega), pI j, some (.v (.p (enc t.fs[j]))), ?_⟩
    rw [take_S hv, rowFrom_app, Nat.zero_add, show (t.fs.take j).length = j by simp; omega]
    cases hp : ptY t.fs[j] <;> simp [rowFrom, hp]
  refine ⟨x3', x4', ?_⟩
  have e1 : (o.map encT)[i]? = some (encT t) := by simp [ht]
  unfold bkO
  rw [Nat.zero_add, List.take_length] at hI
  subst hI
  simp only [run_1, run_2, run_3, run_4, run_5, ev_C, ev_U, ev_B, ev_nil, ev_cons, ev_L, ev_tst, ev_and, ev_or, ev_not, ev_V, ev_if, ev_ch, ev_var0, ev_varS, ev_seq, ev_sif, ev_asg, ev_new, ev_unp, ev_ret, ev_retF, ev_drop, ev_snil, ev_raise, ev_for, sv_0, sv_S, setVs, op_mul_i, op_mod_i, op_div_i, op_p60, ev_src1, ix_tn e1, sl_v, sl_o, r2_ok, encT, ix_t1, rC_ok, r1_ok, op_len_t, List.length_map, op_rng (n := t.fs.length) (by omega), fr_ok]
  exact e
theorem book_of_ok (o : List Th) (h1 : o.length ≤ 2000) (h2 : ∀ t ∈ o, t.fs.length ≤ 100) : m_law_book_of [.p (.tup (o.map encT))] = .ok (.p (.tup ((bookFrom 0 o).map encP))) := by
  obtain ⟨ρ', e, y2, y3, y4, hI⟩ := forD_inv (tg := tgN 2) (u := bkO) (I := fun j ρ => ∃ y2 y3 y4, ρ = [some (.v (.p (.tup (o.map encT)))), some (.o (.l ((bookFrom 0 (o.take j)).map encP))), y2, y3, y4]) o.length 0 [some (.v (.p (.tup (o.map encT)))), some (.o (.l [])), none, none, none] ⟨none, none, none, rfl⟩ fun j ρ h0 h3 ⟨y2, y3, y4, hρ⟩ => by
    have hj : j < o.length := by omega
    have ht : o[j]? = some o[j] := List.getElem?_eq_getElem hj
    have hb := bookFrom_len 0 (o.take j) fun t ht => h2 t (List.mem_of_mem_take ht)
    have hb2 : (o.take j).length ≤ 2000 := by simp; omega
    subst hρ
    obtain ⟨z3, z4, e⟩ := bkO_ok o (bookFrom 0 (o.take j)) j o[j] y3 y4 ht (h2 _ (List.getElem_mem hj)) (by omega)
    refine ⟨_, _, rfl, e, pI j, z3, z4, ?_⟩
    rw [take_S ht, bookFrom_app, Nat.zero_add, show (o.take j).length = j by simp; omega]
    simp [bookFrom]
  rw [Nat.zero_add, List.take_length] at hI
  subst hI
  unfold m_law_book_of
  simp only [run_1, run_2, run_3, run_4, run_5, ev_C, ev_U, ev_B, ev_nil, ev_cons, ev_L, ev_tst, ev_and, ev_or, ev_not, ev_V, ev_if, ev_ch, ev_var0, ev_varS, ev_seq, ev_sif, ev_asg, ev_new, ev_unp, ev_ret, ev_retF, ev_drop, ev_snil, ev_raise, ev_for, sv_0, sv_S, setVs, op_mul_i, op_mod_i, op_div_i, op_p60, ev_src1, List.replicate, sl_v, sl_o, rC_ok, r1_ok, op_len_t, List.length_map, op_rng (n := o.length) (by omega), fr_ok, l0, nw_o, sq_nx, List.set]
  have e : forD (tgN 2) bkO (rgD 0 o.length) _ = _ := e
  unfold bkO bkI at e
  rw [e]
  simp [run_1, run_2, run_3, run_4, run_5, ev_C, ev_U, ev_B, ev_nil, ev_cons, ev_L, ev_tst, ev_and, ev_or, ev_not, ev_V, ev_if, ev_ch, ev_var0, ev_varS, ev_seq, ev_sif, ev_asg, ev_new, ev_unp, ev_ret, ev_retF, ev_drop, ev_snil, ev_raise, ev_for, sv_0, sv_S, setVs, op_mul_i, op_mod_i, op_div_i, op_p60]
end Kp

namespace Kp
open PySem L2 Fw Ma
def nxt (y : Bool) (k a b : Int) : Vl := if (if y = true then k else k + 1) < (if y = true then b else a) then .ptr (!y) (if y = true then k else k + 1) else if k + 1 < (if y = true then a else b) then .ptr y (k + 1) else .int 7
theorem nxt_vOk {y : Bool} {k a b : Int} (h : 0 ≤ k) : vOk a b (nxt y k a b) := by
  unfold nxt
  cases y <;> simp <;> split <;> (try split) <;> simp [vOk] <;> omega
theorem eq_yy : eqD (.p (.str "young")) (.p (.str "young")) = .ok (.p (.bl true)) := eq_wy true
theorem eq_yo : eqD (.p (.str "young")) (.p (.str "old")) = .ok (.p (.bl false)) := eq_wo true
theorem eq_oy : eqD (.p (.str "old")) (.p (.str "young")) = .ok (.p (.bl false)) := eq_wy false
theorem eq_oo : eqD (.p (.str "old")) (.p (.str "old")) = .ok (.p (.bl true)) := eq_wo false
theorem next_ok (y : Bool) (k a b : Int) (r : List Int) : m_law_next [.p (.str (wd y)), .p (.int k), szs a b r] = .ok (.p (enc (nxt y k a b))) := by
  unfold m_law_next nxt
  cases y with
  | true =>
    by_cases h1 : k < b <;> by_cases h2 : k + 1 < a <;> simp [run_1, run_2, run_3, run_4, run_5, ev_C, ev_U, ev_B, ev_nil, ev_cons, ev_L, ev_tst, ev_and, ev_or, ev_not, ev_V, ev_if, ev_ch, ev_var0, ev_varS, ev_seq, ev_sif, ev_asg, ev_new, ev_unp, ev_ret, ev_retF, ev_drop, ev_snil, ev_raise, ev_for, sv_0, sv_S, setVs, op_mul_i, op_mod_i, op_div_i, op_p60, wd, eq_yy, eq_yo, eq_oy, eq_oo, h1, h2, enc]
  | false =>
    by_cases h1 : k + 1 < a <;> by_cases h2 : k + 1 < b <;> simp [run_1, run_2, run_3, run_4, run_5, ev_C, ev_U, ev_B, ev_nil, ev_cons, ev_L, ev_tst, ev_and, ev_or, ev_not, ev_V, ev_if, ev_ch, ev_var0, ev_varS, ev_seq, ev_sif, ev_asg, ev_new, ev_unp, ev_ret, ev_retF, ev_drop, ev_snil, ev_raise, ev_for, sv_0, sv_S, setVs, op_mul_i, op_mod_i, op_div_i, op_p60, wd, eq_yy, eq_yo, eq_oy, eq_oo, h1, h2, enc]
def chn (y : Bool) (a b : Int) : Nat → List Th → List Th
  | _, [] => []
  | i, t :: ts => ⟨t.age, t.fs ++ [nxt y i a b]⟩ :: chn y a b (i + 1) ts
theorem chn_app (y : Bool) (a b : Int) : ∀ (i : Nat) (s t : List Th), chn y a b i (s ++ t) = chn y a b i s ++ chn y a b (i + s.length) t
  | i, [], t => rfl
  | i, x :: s, t => by
    show _ :: chn y a b (i + 1) (s ++ t) = _ :: (chn y a b (i + 1) s ++ _)
    rw [chn_app y a b (i + 1) s t, show i + 1 + s.length = i + (x :: s).length by simp; omega]
theorem chn_len (y : Bool) (a b : Int) : ∀ (i : Nat) (s : List Th), (chn y a b i s).length = s.length
  | i, [] => rfl
  | i, x :: s => by
    show (chn y a b (i + 1) s).length + 1 = s.length + 1
    rw [chn_len y a b (i + 1) s]
theorem chn_mem {y : Bool} {a b : Int} : ∀ {i : Nat} {s : List Th} {t : Th}, t ∈ chn y a b i s → ∃ t0 ∈ s, ∃ k : Nat, t.fs = t0.fs ++ [nxt y k a b]
  | i, [], t, h => by cases h
  | i, x :: s, t, h => by
    cases h with
    | head => exact ⟨x, List.mem_cons_self, i, rfl⟩
    | tail _ h =>
      obtain ⟨t0, h0, k, e⟩ := chn_mem h
      exact ⟨t0, List.mem_cons_of_mem _ h0, k, e⟩
def chI : XS := (sApp 3 (xL tupD (xCons (xB ixD (xB ixD (xVar 0) (xVar 4)) (xC (.int 0))) (xCons (xB addD (xB ixD (xB ixD (xVar 0) (xVar 4)) (xC (.int 1))) (xL tupD (xCons (xL (chk 3 m_law_next) (xCons (xVar 1) (xCons (xVar 4) (xCons (xVar 2) xNil)))) xNil))) xNil))))
theorem chained_ok (h : List Th) (y : Bool) (a b : Int) (r : List Int) (h1 : h.length ≤ 2000) (h2 : ∀ t ∈ h, t.fs.length ≤ 100) : m_law_chained [.p (.tup (h.map encT)), .p (.str (wd y)), szs a b r] = .ok (.p (.tup ((chn y a b 0 h).map encT))) := by
  obtain ⟨ρ', e, y4, hI⟩ := forD_inv (tg := tgN 4) (u := chI) (I := fun j ρ => ∃ y4, ρ = [some (.v (.p (.tup (h.map encT)))), some (.v (.p (.str (wd y)))), some (.v (szs a b r)), some (.o (.l ((chn y a b 0 (h.take j)).map encT))), y4]) h.length 0 [some (.v (.p (.tup (h.map encT)))), some (.v (.p (.str (wd y)))), some (.v (szs a b r)), some (.o (.l [])), none] ⟨none, rfl⟩ fun j ρ h0 h3 ⟨y4, hρ⟩ => by
    have hj : j < h.length := by omega
    have ht : h[j]? = some h[j] := List.getElem?_eq_getElem hj
    have hf := h2 _ (List.getElem_mem hj)
    generalize h[j] = t at ht hf
    have e1 : (h.map encT)[j]? = some (encT t) := by simp [ht]
    subst hρ
    refine ⟨_, _, rfl, app_ok (l := (chn y a b 0 (h.take j)).map encT) (y := encT ⟨t.age, t.fs ++ [nxt y j a b]⟩) rfl ?_ ?_, ⟨pI j, ?_⟩⟩
    · have e2 : addD (.p (.tup (t.fs.map enc))) (.p (.tup [enc (nxt y j a b)])) = .ok (.p (.tup (t.fs.map enc ++ [enc (nxt y j a b)]))) := op_add_t (by simp; omega)
      have e3 : m_law_next [.p (.str (wd y)), .p (.int j), szs a b r] = _ := next_ok y j a b r
      simp [run_1, run_2, run_3, run_4, run_5, ev_C, ev_U, ev_B, ev_nil, ev_cons, ev_L, ev_tst, ev_and, ev_or, ev_not, ev_V, ev_if, ev_ch, ev_var0, ev_varS, ev_seq, ev_sif, ev_asg, ev_new, ev_unp, ev_ret, ev_retF, ev_drop, ev_snil, ev_raise, ev_for, sv_0, sv_S, setVs, op_mul_i, op_mod_i, op_div_i, op_p60, ix_tn e1, encT, e3, e2]
    · rw [List.length_map, chn_len, List.length_take]
      omega
    · rw [take_S ht, chn_app, Nat.zero_add, show (h.take j).length = j by simp; omega]
      simp [chn, setV, pI]
  rw [Nat.zero_add, List.take_length] at hI
  subst hI
  unfold m_law_chained
  simp only [run_1, run_2, run_3, run_4, run_5, ev_C, ev_U, ev_B, ev_nil, ev_cons, ev_L, ev_tst, ev_and, ev_or, ev_not, ev_V, ev_if, ev_ch, ev_var0, ev_varS, ev_seq, ev_sif, ev_asg, ev_new, ev_unp, ev_ret, ev_retF, ev_drop, ev_snil, ev_raise, ev_for, sv_0, sv_S, setVs, op_mul_i, op_mod_i, op_div_i, op_p60, ev_src1, List.replicate, sl_v, sl_o, rC_ok, r1_ok, op_len_t, List.length_map, op_rng (n := h.length) (by omega), fr_ok, l0, nw_o, sq_nx, List.set]
  have e : forD (tgN 4) chI (rgD 0 h.length) _ = _ := e
  unfold chI at e
  rw [e]
  simp [run_1, run_2, run_3, run_4, run_5, ev_C, ev_U, ev_B, ev_nil, ev_cons, ev_L, ev_tst, ev_and, ev_or, ev_not, ev_V, ev_if, ev_ch, ev_var0, ev_varS, ev_seq, ev_sif, ev_asg, ev_new, ev_unp, ev_ret, ev_retF, ev_drop, ev_snil, ev_raise, ev_for, sv_0, sv_S, setVs, op_mul_i, op_mod_i, op_div_i, op_p60]
end Kp

namespace Kp
open PySem L2 Fw Ma
theorem cut_1 (l : List Dt) : cutD l (some 1) none = l.drop 1 := by
  unfold cutD
  have h1 : HT.sIx l.length 0 (some 1) = min 1 l.length := HT.sIx_nat _ _ 1
  rw [h1, HT.sIx_none]
  cases l with
  | nil => rfl
  | cons a l => simp
theorem ev_sl {f : Sv → Option Int → Option Int → Rz Sv} {x : XE} {lo hi : XO} {ρ : En} : xSl f x lo hi ρ = (x ρ).bind fun s => (lo ρ).bind fun l => (hi ρ).bind fun u => f s l u := rfl
theorem tail1 {x : XE} {ρ : En} {l : List Dt} (h : x ρ = .ok (.p (.tup l))) : xSl slD x (oAt (xC (.int 1))) oNo ρ = .ok (.p (.tup (l.drop 1))) := by
  rw [ev_sl, h]
  show Rz.ok (Sv.p (.tup (cutD l (some 1) none))) = _
  rw [cut_1]
def szI : XS := (sIf (xTst blB (xB eqD (xB modD (xB divD (xL (chk 2 m_law_cell_at) (xCons (xVar 0) (xCons (xVar 2) xNil))) (xC (.int 6))) (xC (.int 6))) (xC (.int 1)))) (sSetL 1 (xVar 2) (xB modD (xB modD (xB mulD (xL (chk 2 m_law_cell_at) (xCons (xVar 0) (xCons (xVar 2) xNil))) (xC (.int 48271))) (xC (.int 2147483647))) (xC (.int 71)))) sNil)
def szE (ns : List Int) (a b c : Int) (y : Option Sl) : En := [some (.v (.l (ns.map Dt.int))), some (.o (.l [.int a, .int b, .int c])), y, none, none, none]
theorem setl_ok {i : Nat} {k x : XE} {ρ : En} {l : List Dt} {y : Dt} {j m : Nat} (hi : ρ[i]? = some (some (.o (.l l)))) (hx : x ρ = .ok (.p y)) (hk : k ρ = .ok (.p (.int j))) (hm : ixN l.length j = some m) : sSetL i k x ρ = .nx (ρ.set i (some (.o (.l (l.set m y))))) := by
  unfold sSetL
  rw [hi]
  show ofR (x ρ) ρ _ = _
  rw [hx]
  show ofR (k ρ) ρ _ = _
  rw [hk]
  show (match ixN l.length (j : Int) with | some m => Out.nx _ | none => Out.stuck) = _
  rw [hm]
theorem szI_ok (ns : List Int) (a b c : Int) (y : Option Sl) (j : Nat) (hj : j < 3) (ha : 0 ≤ a ∧ a ≤ 70) (hb : 0 ≤ b ∧ b ≤ 70) (hc : 0 ≤ c ∧ c ≤ 70) : ∃ a' b' c' : Int, (0 ≤ a' ∧ a' ≤ 70) ∧ (0 ≤ b' ∧ b' ≤ 70) ∧ (0 ≤ c' ∧ c' ≤ 70) ∧ szI (setV 2 (.int j) (szE ns a b c y)) = .nx (szE ns a' b' c' (pI j)) := by
  have hn := cell_at_ok ns j
  generalize ns.getD j 0 = n at hn
  unfold szI
  by_cases h : (n.fdiv 6).fmod 6 = 1
  · have b1 := fmod_lt ((n * 48271).fmod 2147483647) 71 (by decide)
    have go : ∀ m : Nat, ixN 3 j = some m → ∀ l, [Dt.int a, Dt.int b, Dt.int c].set m (Dt.int (((n * 48271).fmod 2147483647).fmod 71)) = l → szI (setV 2 (.int j) (szE ns a b c y)) = .nx [some (.v (.l (ns.map Dt.int))), some (.o (.l l)), pI j, none, none, none] := fun m hm l hl => by
      unfold szI szE
      have e := setl_ok (i := 1) (k := xVar 2) (x := (xB modD (xB modD (xB mulD (xL (chk 2 m_law_cell_at) (xCons (xVar 0) (xCons (xVar 2) xNil))) (xC (.int 48271))) (xC (.int 2147483647))) (xC (.int 71)))) (ρ := szE ns a b c (pI j)) (l := [.int a, .int b, .int c]) (y := Dt.int (((n * 48271).fmod 2147483647).fmod 71)) (j := j) rfl (by unfold szE; simp [run_1, run_2, run_3, run_4, run_5, ev_C, ev_U, ev_B, ev_nil, ev_cons, ev_L, ev_tst, ev_and, ev_or, ev_not, ev_V, ev_if, ev_ch, ev_var0, ev_varS, ev_seq, ev_sif, ev_asg, ev_new, ev_unp, ev_ret, ev_retF, ev_drop, ev_snil, ev_raise, ev_for, sv_0, sv_S, setVs, op_mul_i, op_mod_i, op_div_i, op_p60, hn]) rfl hm
      simp [run_1, run_2, run_3, run_4, run_5, ev_C, ev_U, ev_B, ev_nil, ev_cons, ev_L, ev_tst, ev_and, ev_or, ev_not, ev_V, ev_if, ev_ch, ev_var0, ev_varS, ev_seq, ev_sif, ev_asg, ev_new, ev_unp, ev_ret, ev_retF, ev_drop, ev_snil, ev_raise, ev_for, sv_0, sv_S, setVs, op_mul_i, op_mod_i, op_div_i, op_p60, hn, h]
      unfold szE pI at e
      rw [e, hl]
      rfl
    unfold szI at go
    match j, hj with
    | 0, _ => exact ⟨_, b, c, ⟨b1.1, by omega⟩, hb, hc, go 0 rfl _ rfl⟩
    | 1, _ => exact ⟨a, _, c, ha, ⟨b1.1, by omega⟩, hc, go 1 rfl _ rfl⟩
    | 2, _ => exact ⟨a, b, _, ha, hb, ⟨b1.1, by omega⟩, go 2 rfl _ rfl⟩
  · refine ⟨a, b, c, ha, hb, hc, ?_⟩
    unfold szE
    simp [run_1, run_2, run_3, run_4, run_5, ev_C, ev_U, ev_B, ev_nil, ev_cons, ev_L, ev_tst, ev_and, ev_or, ev_not, ev_V, ev_if, ev_ch, ev_var0, ev_varS, ev_seq, ev_sif, ev_asg, ev_new, ev_unp, ev_ret, ev_retF, ev_drop, ev_snil, ev_raise, ev_for, sv_0, sv_S, setVs, op_mul_i, op_mod_i, op_div_i, op_p60, hn, bqF h]
theorem sizes_ok (ns : List Int) (a b c : Int) (ha : 0 ≤ a ∧ a ≤ 70) (hb : 0 ≤ b ∧ b ≤ 70) (hc : 0 ≤ c ∧ c ≤ 70) : ∃ (a' b' c' : Int) (y : Option Sl), (0 ≤ a' ∧ a' ≤ 70) ∧ (0 ≤ b' ∧ b' ≤ 70) ∧ (0 ≤ c' ∧ c' ≤ 70) ∧ forD (tgN 2) szI (rgD 0 3) (szE ns a b c none) = .nx (szE ns a' b' c' y) := by
  obtain ⟨ρ', e, a', b', c', y, h1, h2, h3, rfl⟩ := forD_inv (tg := tgN 2) (u := szI) (I := fun j ρ => ∃ (a b c : Int) (y : Option Sl), (0 ≤ a ∧ a ≤ 70) ∧ (0 ≤ b ∧ b ≤ 70) ∧ (0 ≤ c ∧ c ≤ 70) ∧ ρ = szE ns a b c y) 3 0 (szE ns a b c none) ⟨a, b, c, none, ha, hb, hc, rfl⟩ fun j ρ h0 h3 ⟨a, b, c, y, ha, hb, hc, hρ⟩ => by
    subst hρ
    obtain ⟨a', b', c', ha', hb', hc', e⟩ := szI_ok ns a b c y j (by omega) ha hb hc
    exact ⟨_, _, rfl, e, a', b', c', pI j, ha', hb', hc', rfl⟩
  exact ⟨a', b', c', y, h1, h2, h3, e⟩
end Kp

namespace Kp
open PySem L2 Fw Ma
structure Gd (h : Hq) : Prop where
  ly : h.young.length ≤ 70
  lo : h.old.length ≤ 70
  lr : h.roots.length ≤ 71
  fy : ∀ t ∈ h.young, t.fs.length ≤ 100
  fo : ∀ t ∈ h.old, t.fs.length ≤ 100
  vy : ∀ t ∈ h.young, ∀ v ∈ t.fs, vOk h.young.length h.old.length v
  vo : ∀ t ∈ h.old, ∀ v ∈ t.fs, vOk h.young.length h.old.length v
  vr : ∀ v ∈ h.roots, vOk h.young.length h.old.length v
  bk : h.book = bookFrom 0 h.old
abbrev hpE (ns : List Int) (a b c : Int) (x2 x3 x4 x5 : Option Sl) : En := [some (.v (.l (ns.map Dt.int))), some (.o (szs a b [c])), x2, x3, x4, x5]
theorem young_ok (ns : List Int) (a b c : Int) (x2 x3 x4 x5 : Option Sl) (ha : 0 ≤ a) (hb : 0 ≤ b) (h1 : a ≤ 70) : ∃ ts : List Th, xLc (srcR1 (xB ixD (xVar 1) (xC (.int 0)))) (tgN 2) tYesD (xL (chk 3 (noX m_law_thing_by)) (xCons (xVar 0) (xCons (xB mulD (xC (.int 100)) (xVar 2)) (xCons (xVar 1) xNil)))) [2] (hpE ns a b c x2 x3 x4 x5) = .ok (.l (ts.map encT)) ∧ ts.length = a.toNat ∧ ∀ t ∈ ts, t.fs.length ≤ 99 ∧ ∀ v ∈ t.fs, vOk a b v :=
  lc_rng (n := a) (by simp [run_1, run_2, run_3, run_4, run_5, ev_C, ev_U, ev_B, ev_nil, ev_cons, ev_L, ev_tst, ev_and, ev_or, ev_not, ev_V, ev_if, ev_ch, ev_var0, ev_varS, ev_seq, ev_sif, ev_asg, ev_new, ev_unp, ev_ret, ev_retF, ev_drop, ev_snil, ev_raise, ev_for, sv_0, sv_S, setVs, op_mul_i, op_mod_i, op_div_i, op_p60]) ha (by omega) fun i hi => by
    obtain ⟨t, h1, h2, e⟩ := thing_by_ok ns (100 * i) a b [c] ha hb
    have e : m_law_thing_by [.l (ns.map Dt.int), .p (.int (100 * i)), szs a b [c]] = .ok (.p (encT t)) := e
    exact ⟨t, ⟨h1, h2⟩, by simp [run_1, run_2, run_3, run_4, run_5, ev_C, ev_U, ev_B, ev_nil, ev_cons, ev_L, ev_tst, ev_and, ev_or, ev_not, ev_V, ev_if, ev_ch, ev_var0, ev_varS, ev_seq, ev_sif, ev_asg, ev_new, ev_unp, ev_ret, ev_retF, ev_drop, ev_snil, ev_raise, ev_for, sv_0, sv_S, setVs, op_mul_i, op_mod_i, op_div_i, op_p60, wipeE, nx_ok e]⟩
theorem old_ok (ns : List Int) (a b c : Int) (x2 x3 x4 x5 : Option Sl) (ha : 0 ≤ a) (hb : 0 ≤ b) (h1 : b ≤ 70) : ∃ ts : List Th, xLc (srcR1 (xB ixD (xVar 1) (xC (.int 1)))) (tgN 2) tYesD (xL (chk 3 (noX m_law_thing_by)) (xCons (xVar 0) (xCons (xB addD (xC (.int 10000)) (xB mulD (xC (.int 100)) (xVar 2))) (xCons (xVar 1) xNil)))) [2] (hpE ns a b c x2 x3 x4 x5) = .ok (.l (ts.map encT)) ∧ ts.length = b.toNat ∧ ∀ t ∈ ts, t.fs.length ≤ 99 ∧ ∀ v ∈ t.fs, vOk a b v :=
  lc_rng (n := b) (by simp [run_1, run_2, run_3, run_4, run_5, ev_C, ev_U, ev_B, ev_nil, ev_cons, ev_L, ev_tst, ev_and, ev_or, ev_not, ev_V, ev_if, ev_ch, ev_var0, ev_varS, ev_seq, ev_sif, ev_asg, ev_new, ev_unp, ev_ret, ev_retF, ev_drop, ev_snil, ev_raise, ev_for, sv_0, sv_S, setVs, op_mul_i, op_mod_i, op_div_i, op_p60]) hb (by omega) fun i hi => by
    obtain ⟨t, h1, h2, e⟩ := thing_by_ok ns (10000 + 100 * i) a b [c] ha hb
    have e : m_law_thing_by [.l (ns.map Dt.int), .p (.int (10000 + 100 * i)), szs a b [c]] = .ok (.p (encT t)) := e
    exact ⟨t, ⟨h1, h2⟩, by simp [run_1, run_2, run_3, run_4, run_5, ev_C, ev_U, ev_B, ev_nil, ev_cons, ev_L, ev_tst, ev_and, ev_or, ev_not, ev_V, ev_if, ev_ch, ev_var0, ev_varS, ev_seq, ev_sif, ev_asg, ev_new, ev_unp, ev_ret, ev_retF, ev_drop, ev_snil, ev_raise, ev_for, sv_0, sv_S, setVs, op_mul_i, op_mod_i, op_div_i, op_p60, wipeE, nx_ok e]⟩
theorem roots_ok (ns : List Int) (a b c : Int) (x2 x3 x4 x5 : Option Sl) (ha : 0 ≤ a) (hb : 0 ≤ b) (hc : 0 ≤ c) (h1 : c ≤ 70) : ∃ vs : List Vl, xLc (srcR1 (xB ixD (xVar 1) (xC (.int 2)))) (tgN 2) tYesD (xL (chk 3 (noX m_law_value_by)) (xCons (xVar 0) (xCons (xB addD (xC (.int 20000)) (xVar 2)) (xCons (xVar 1) xNil)))) [2] (hpE ns a b c x2 x3 x4 x5) = .ok (.l (vs.map enc)) ∧ vs.length = c.toNat ∧ ∀ v ∈ vs, vOk a b v :=
  lc_rng (n := c) (by simp [run_1, run_2, run_3, run_4, run_5, ev_C, ev_U, ev_B, ev_nil, ev_cons, ev_L, ev_tst, ev_and, ev_or, ev_not, ev_V, ev_if, ev_ch, ev_var0, ev_varS, ev_seq, ev_sif, ev_asg, ev_new, ev_unp, ev_ret, ev_retF, ev_drop, ev_snil, ev_raise, ev_for, sv_0, sv_S, setVs, op_mul_i, op_mod_i, op_div_i, op_p60]; rfl) hc (by omega) fun i hi => by
    obtain ⟨v, h2, e⟩ := value_by_ok ns (20000 + i) a b [c] ha hb
    have e : m_law_value_by [.l (ns.map Dt.int), .p (.int (20000 + i)), szs a b [c]] = .ok (.p (enc v)) := e
    exact ⟨v, h2, by simp [run_1, run_2, run_3, run_4, run_5, ev_C, ev_U, ev_B, ev_nil, ev_cons, ev_L, ev_tst, ev_and, ev_or, ev_not, ev_V, ev_if, ev_ch, ev_var0, ev_varS, ev_seq, ev_sif, ev_asg, ev_new, ev_unp, ev_ret, ev_retF, ev_drop, ev_snil, ev_raise, ev_for, sv_0, sv_S, setVs, op_mul_i, op_mod_i, op_div_i, op_p60, wipeE, nx_ok e]⟩
theorem vOk_len {a b : Int} {y o : List Th} (ha : 0 ≤ a) (hb : 0 ≤ b) (h1 : y.length = a.toNat) (h2 : o.length = b.toNat) {v : Vl} (h : vOk a b v) : vOk y.length o.length v := by
  rw [h1, h2, Int.toNat_of_nonneg ha, Int.toNat_of_nonneg hb]
  exact h
theorem heap_by_ok (ns : List Int) : ∃ h : Hq, Gd h ∧ m_law_heap_by [.l (ns.map Dt.int)] = .ok (.p (encH h)) := by
  have hc0 := cell_at_i ns 0 (by decide)
  have hc1 := cell_at_i ns 1 (by decide)
  have hc2 := cell_at_i ns 2 (by decide)
  generalize ns.getD (Int.toNat 0) 0 = c0 at hc0
  generalize ns.getD (Int.toNat 1) 0 = c1 at hc1
  generalize ns.getD (Int.toNat 2) 0 = c2 at hc2
  have b0 := fmod_lt c0 6 (by decide)
  have b1 := fmod_lt c1 6 (by decide)
  have b2 := fmod_lt c2 5 (by decide)
  obtain ⟨a, b, c, y2, ha, hb, hc, e⟩ := sizes_ok ns (c0.fmod 6) (c1.fmod 6) (c2.fmod 5) ⟨b0.1, by omega⟩ ⟨b1.1, by omega⟩ ⟨b2.1, by omega⟩
  unfold szI szE at e
  obtain ⟨Y, eY, lY, gY⟩ := young_ok ns a b c y2 none none none ha.1 hb.1 ha.2
  obtain ⟨O, eO, lO, gO⟩ := old_ok ns a b c y2 (some (.v (.p (.tup (Y.map encT))))) none none ha.1 hb.1 hb.2
  obtain ⟨R, eR, lR, gR⟩ := roots_ok ns a b c y2 (some (.v (.p (.tup (Y.map encT))))) (some (.v (.p (.tup (O.map encT))))) none ha.1 hb.1 hc.1 hc.2
  simp only [hpE, szs, List.map_cons, List.map_nil] at eY eO eR
  have m1 : Y.length ≤ 70 := by rw [lY]; omega
  have m2 : O.length ≤ 70 := by rw [lO]; omega
  have m3 : R.length ≤ 70 := by rw [lR]; omega
  have pre : ∀ x, outD ((sSeq (sIf (xOr (xTst blB (xB eqD (xB modD (xB divD (xL (chk 2 m_law_cell_at) (xCons (xVar 0) (xCons (xC (.int 2)) xNil))) (xC (.int 2556))) (xC (.int 8))) (xC (.int 1)))) (xTst blB (xB eqD (xB modD (xL (chk 2 m_law_cell_at) (xCons (xVar 0) (xCons (xC (.int 2)) xNil))) (xC (.int 11))) (xC (.int 3))))) (sSeq (sAsg 3 (xL (chk 3 m_law_chained) (xCons (xVar 3) (xCons (xC (.str "young")) (xCons (xVar 1) xNil)))))
    (sSeq (sAsg 4 (xL (chk 3 m_law_chained) (xCons (xVar 4) (xCons (xC (.str "old")) (xCons (xVar 1) xNil)))))
    (sIf (xTst blB (xB (cmpD fun i j => decide (j < i)) (xB ixD (xVar 1) (xC (.int 0))) (xC (.int 0)))) (sAsg 5 (xB addD (xL tupD (xCons (xL tupD (xCons (xC (.str "young")) (xCons (xC (.int 0)) xNil))) xNil)) (xSl slD (xVar 5) (oAt (xC (.int 1))) oNo))) sNil))) sNil)
    (sRet (xL tupD (xCons (xVar 3) (xCons (xVar 4) (xCons (xVar 5) (xCons (xL (chk 1 m_law_book_of) (xCons (xVar 4) xNil)) xNil))))))) [some (.v (.l (ns.map Dt.int))), some (.o (.l [.int a, .int b, .int c])), y2, some (.v (.p (.tup (Y.map encT)))), some (.v (.p (.tup (O.map encT)))), some (.v (.p (.tup (R.map enc))))]) = x → m_law_heap_by [.l (ns.map Dt.int)] = x := fun x hx => by
    rw [← hx]
    unfold m_law_heap_by
    simp only [run_1, run_2, run_3, run_4, run_5, ev_C, ev_U, ev_B, ev_nil, ev_cons, ev_L, ev_tst, ev_and, ev_or, ev_not, ev_V, ev_if, ev_ch, ev_var0, ev_varS, ev_seq, ev_sif, ev_asg, ev_new, ev_unp, ev_ret, ev_retF, ev_drop, ev_snil, ev_raise, ev_for, sv_0, sv_S, setVs, op_mul_i, op_mod_i, op_div_i, op_p60, ev_src1, List.replicate, sl_v, sl_o, rC_ok, r1_ok, r2_ok, chk_2, hc0, hc1, hc2, op_mod_i (show (6 : Int) ≠ 0 by decide), op_mod_i (show (5 : Int) ≠ 0 by decide), l3, nw_o, sq_nx, List.set, op_rng3, fr_ok, e, eY, eO, eR, op_tup_l, ag_ok]
  have plain : Gd ⟨Y, O, R, bookFrom 0 O⟩ := ⟨m1, m2, by show R.length ≤ 71; omega, fun t h => by have := (gY t h).1; omega, fun t h => by have := (gO t h).1; omega, fun t h v hv => vOk_len ha.1 hb.1 lY lO ((gY t h).2 v hv), fun t h v hv => vOk_len ha.1 hb.1 lY lO ((gO t h).2 v hv), fun v hv => vOk_len ha.1 hb.1 lY lO (gR v hv), rfl⟩
  have kY : (chn true a b 0 Y).length = Y.length := chn_len _ _ _ _ _
  have kO : (chn false a b 0 O).length = O.length := chn_len _ _ _ _ _
  have chained : ∀ R' : List Vl, R'.length ≤ 71 → (∀ v ∈ R', vOk a b v) → Gd ⟨chn true a b 0 Y, chn false a b 0 O, R', bookFrom 0 (chn false a b 0 O)⟩ := fun R' h1 h2 => by
    have kf : ∀ y X, (∀ t ∈ X, t.fs.length ≤ 99 ∧ ∀ v ∈ t.fs, vOk a b v) → ∀ t ∈ chn y a b 0 X, t.fs.length ≤ 100 ∧ ∀ v ∈ t.fs, vOk a b v := fun y X g t h => by
      obtain ⟨t0, h0, k, e⟩ := chn_mem h
      obtain ⟨g1, g2⟩ := g t0 h0
      refine ⟨by rw [e]; simp; omega, fun v hv => ?_⟩
      rw [e, List.mem_append] at hv
      rcases hv with hv | hv
      · exact g2 v hv
      · rw [List.mem_singleton.mp hv]
        exact nxt_vOk (by omega)
    have lY' : (chn true a b 0 Y).length = a.toNat := by rw [kY, lY]
    have lO' : (chn false a b 0 O).length = b.toNat := by rw [kO, lO]
    exact ⟨by show (chn true a b 0 Y).length ≤ 70; omega, by show (chn false a b 0 O).length ≤ 70; omega, h1, fun t h => (kf true Y gY t h).1, fun t h => (kf false O gO t h).1, fun t h v hv => vOk_len ha.1 hb.1 lY' lO' ((kf true Y gY t h).2 v hv), fun t h v hv => vOk_len ha.1 hb.1 lY' lO' ((kf false O gO t h).2 v hv), fun v hv => vOk_len ha.1 hb.1 lY' lO' (h2 v hv), rfl⟩
  have eB := book_of_ok O (by omega) fun t h => by have := (gO t h).1; omega
  have eB2 := book_of_ok (chn false a b 0 O) (by omega) (chained [] (by simp) (fun v h => by cases h)).fo
  have eC1 : m_law_chained [.p (.tup (Y.map encT)), .p (.str "young"), .l [.int a, .int b, .int c]] = _ := chained_ok Y true a b [c] (by omega) fun t h => by have := (gY t h).1; omega
  have eC2 : m_law_chained [.p (.tup (O.map encT)), .p (.str "old"), .l [.int a, .int b, .int c]] = _ := chained_ok O false a b [c] (by omega) fun t h => by have := (gO t h).1; omega
  have eT : xSl slD (xVar 5) (oAt (xC (.int 1))) oNo [some (.v (.l (ns.map Dt.int))), some (.o (.l [.int a, .int b, .int c])), y2, some (.v (.p (.tup ((chn true a b 0 Y).map encT)))), some (.v (.p (.tup ((chn false a b 0 O).map encT)))), some (.v (.p (.tup (R.map enc))))] = .ok (.p (.tup ((R.drop 1).map enc))) := by
    rw [tail1 (l := R.map enc) rfl, List.map_drop]
  have eA : addD (.p (.tup [.tup [.str "young", .int 0]])) (.p (.tup ((R.drop 1).map enc))) = .ok (.p (.tup ((Vl.ptr true 0 :: R.drop 1).map enc))) := op_add_t (by simp; omega)
  have yes : ((c2.fdiv 2556).fmod 8 = 1 ∨ ¬ (c2.fdiv 2556).fmod 8 = 1 ∧ c2.fmod 11 = 3) → ∃ h : Hq, Gd h ∧ m_law_heap_by [.l (ns.map Dt.int)] = .ok (.p (encH h)) := fun d => by
    by_cases d3 : 0 < a
    · refine ⟨⟨chn true a b 0 Y, chn false a b 0 O, Vl.ptr true 0 :: R.drop 1, bookFrom 0 (chn false a b 0 O)⟩, chained _ (by simp; omega) ?_, pre _ ?_⟩
      · intro v hv
        cases hv with
        | head => exact ⟨by omega, d3⟩
        | tail _ hv => exact gR v (List.mem_of_mem_drop hv)
      · rcases d with d | ⟨d1, d2⟩
        · simp only [run_1, run_2, run_3, run_4, run_5, ev_C, ev_U, ev_B, ev_nil, ev_cons, ev_L, ev_tst, ev_and, ev_or, ev_not, ev_V, ev_if, ev_ch, ev_var0, ev_varS, ev_seq, ev_sif, ev_asg, ev_new, ev_unp, ev_ret, ev_retF, ev_drop, ev_snil, ev_raise, ev_for, sv_0, sv_S, setVs, op_mul_i, op_mod_i, op_div_i, op_p60, sl_v, sl_o, rC_ok, r1_ok, r2_ok, chk_1, chk_2, chk_3, hc2, op_mod_i (show (8 : Int) ≠ 0 by decide), op_div_i (show (2556 : Int) ≠ 0 ∧ (2556 : Int).natAbs < 1073741824 by decide), d, eq_int, beq_self_eq_true, op_blB, rOr_t, cd_t, sq_nx, eC1, eC2, ag_ok, ix_l0, op_cmp_i, d3, decide_true, t2, t1, eT, eA, eB2, t4, rt_ok, od_rt]
          rfl
        · simp only [run_1, run_2, run_3, run_4, run_5, ev_C, ev_U, ev_B, ev_nil, ev_cons, ev_L, ev_tst, ev_and, ev_or, ev_not, ev_V, ev_if, ev_ch, ev_var0, ev_varS, ev_seq, ev_sif, ev_asg, ev_new, ev_unp, ev_ret, ev_retF, ev_drop, ev_snil, ev_raise, ev_for, sv_0, sv_S, setVs, op_mul_i, op_mod_i, op_div_i, op_p60, sl_v, sl_o, rC_ok, r1_ok, r2_ok, chk_1, chk_2, chk_3, hc2, op_mod_i (show (8 : Int) ≠ 0 by decide), op_mod_i (show (11 : Int) ≠ 0 by decide), op_div_i (show (2556 : Int) ≠ 0 ∧ (2556 : Int).natAbs < 1073741824 by decide), bqF d1, d2, eq_int, beq_self_eq_true, op_blB, rOr_t, rOr_f, cd_t, sq_nx, eC1, eC2, ag_ok, ix_l0, op_cmp_i, d3, decide_true, t2, t1, eT, eA, eB2, t4, rt_ok, od_rt]
          rfl
    · refine ⟨⟨chn true a b 0 Y, chn false a b 0 O, R, bookFrom 0 (chn false a b 0 O)⟩, chained _ (by omega) gR, pre _ ?_⟩
      rcases d with d | ⟨d1, d2⟩
      · simp only [run_1, run_2, run_3, run_4, run_5, ev_C, ev_U, ev_B, ev_nil, ev_cons, ev_L, ev_tst, ev_and, ev_or, ev_not, ev_V, ev_if, ev_ch, ev_var0, ev_varS, ev_seq, ev_sif, ev_asg, ev_new, ev_unp, ev_ret, ev_retF, ev_drop, ev_snil, ev_raise, ev_for, sv_0, sv_S, setVs, op_mul_i, op_mod_i, op_div_i, op_p60, sl_v, sl_o, rC_ok, r1_ok, r2_ok, chk_1, chk_2, chk_3, hc2, op_mod_i (show (8 : Int) ≠ 0 by decide), op_div_i (show (2556 : Int) ≠ 0 ∧ (2556 : Int).natAbs < 1073741824 by decide), d, eq_int, beq_self_eq_true, op_blB, rOr_t, cd_t, cd_f, sq_nx, eC1, eC2, ag_ok, ix_l0, op_cmp_i, d3, decide_false, t2, t1, eT, eA, eB2, t4, rt_ok, od_rt]
        rfl
      · simp only [run_1, run_2, run_3, run_4, run_5, ev_C, ev_U, ev_B, ev_nil, ev_cons, ev_L, ev_tst, ev_and, ev_or, ev_not, ev_V, ev_if, ev_ch, ev_var0, ev_varS, ev_seq, ev_sif, ev_asg, ev_new, ev_unp, ev_ret, ev_retF, ev_drop, ev_snil, ev_raise, ev_for, sv_0, sv_S, setVs, op_mul_i, op_mod_i, op_div_i, op_p60, sl_v, sl_o, rC_ok, r1_ok, r2_ok, chk_1, chk_2, chk_3, hc2, op_mod_i (show (8 : Int) ≠ 0 by decide), op_mod_i (show (11 : Int) ≠ 0 by decide), op_div_i (show (2556 : Int) ≠ 0 ∧ (2556 : Int).natAbs < 1073741824 by decide), bqF d1, d2, eq_int, beq_self_eq_true, op_blB, rOr_t, rOr_f, cd_t, cd_f, sq_nx, eC1, eC2, ag_ok, ix_l0, op_cmp_i, d3, decide_false, t2, t1, eT, eA, eB2, t4, rt_ok, od_rt]
        rfl
  by_cases d1 : (c2.fdiv 2556).fmod 8 = 1
  · exact yes (.inl d1)
  by_cases d2 : c2.fmod 11 = 3
  · exact yes (.inr ⟨d1, d2⟩)
  refine ⟨_, plain, pre _ ?_⟩
  simp only [run_1, run_2, run_3, run_4, run_5, ev_C, ev_U, ev_B, ev_nil, ev_cons, ev_L, ev_tst, ev_and, ev_or, ev_not, ev_V, ev_if, ev_ch, ev_var0, ev_varS, ev_seq, ev_sif, ev_asg, ev_new, ev_unp, ev_ret, ev_retF, ev_drop, ev_snil, ev_raise, ev_for, sv_0, sv_S, setVs, op_mul_i, op_mod_i, op_div_i, op_p60, sl_v, sl_o, rC_ok, r1_ok, r2_ok, chk_1, chk_2, chk_3, hc2, op_mod_i (show (8 : Int) ≠ 0 by decide), op_mod_i (show (11 : Int) ≠ 0 by decide), op_div_i (show (2556 : Int) ≠ 0 ∧ (2556 : Int).natAbs < 1073741824 by decide), bqF d1, bqF d2, eq_int, op_blB, rOr_f, cd_f, sq_nx, eB, t4, rt_ok, od_rt]
  rfl
end Kp

namespace Kp
open PySem L2 Fw Ma
def half (h : Hq) (y : Bool) : List Th := if y = true then h.young else h.old
def isP : Vl → Bool
  | .ptr _ _ => true
  | _ => false
def led (h : Hq) : Vl → Option Th
  | .ptr y k => if 0 ≤ k then (half h y)[k.toNat]? else none
  | _ => none
theorem led_no {h : Hq} {y : Bool} {k : Int} (g : ¬ (0 ≤ k ∧ k < (half h y).length)) : led h (.ptr y k) = none := by
  show (if 0 ≤ k then (half h y)[k.toNat]? else none) = none
  by_cases h0 : 0 ≤ k
  · rw [if_pos h0]
    exact List.getElem?_eq_none (by omega)
  · rw [if_neg h0]
theorem led_yes {h : Hq} {y : Bool} {k : Int} (h0 : 0 ≤ k) (h1 : k < (half h y).length) : ∃ t, led h (.ptr y k) = some t ∧ (half h y)[k.toNat]? = some t := by
  have hk : k.toNat < (half h y).length := by omega
  exact ⟨(half h y)[k.toNat], by show (if 0 ≤ k then _ else none) = _; rw [if_pos h0]; exact List.getElem?_eq_getElem hk, List.getElem?_eq_getElem hk⟩
theorem points_young_ok (v : Vl) : mpoints_young [.p (enc v)] = .ok (.p (.bl (ptY v))) := by
  unfold mpoints_young
  cases v with
  | non => simp [run_1, run_2, run_3, run_4, run_5, ev_C, ev_U, ev_B, ev_nil, ev_cons, ev_L, ev_tst, ev_and, ev_or, ev_not, ev_V, ev_if, ev_ch, ev_var0, ev_varS, ev_seq, ev_sif, ev_asg, ev_new, ev_unp, ev_ret, ev_retF, ev_drop, ev_snil, ev_raise, ev_for, sv_0, sv_S, setVs, op_mul_i, op_mod_i, op_div_i, op_p60, enc, ptY]
  | int i => simp [run_1, run_2, run_3, run_4, run_5, ev_C, ev_U, ev_B, ev_nil, ev_cons, ev_L, ev_tst, ev_and, ev_or, ev_not, ev_V, ev_if, ev_ch, ev_var0, ev_varS, ev_seq, ev_sif, ev_asg, ev_new, ev_unp, ev_ret, ev_retF, ev_drop, ev_snil, ev_raise, ev_for, sv_0, sv_S, setVs, op_mul_i, op_mod_i, op_div_i, op_p60, enc, ptY]
  | ptr y k =>
    have e3 : eqD (.p (.str (wd y))) (.p (.str "young")) = .ok (.p (.bl y)) := eq_wy y
    cases y <;> simp [run_1, run_2, run_3, run_4, run_5, ev_C, ev_U, ev_B, ev_nil, ev_cons, ev_L, ev_tst, ev_and, ev_or, ev_not, ev_V, ev_if, ev_ch, ev_var0, ev_varS, ev_seq, ev_sif, ev_asg, ev_new, ev_unp, ev_ret, ev_retF, ev_drop, ev_snil, ev_raise, ev_for, sv_0, sv_S, setVs, op_mul_i, op_mod_i, op_div_i, op_p60, enc, ptY, e3]
theorem half_of_ok (h : Hq) (v : Vl) : mhalf_of [.p (encH h), .p (enc v)] = .ok (.p (.tup ((half h (ptY v)).map encT))) := by
  unfold mhalf_of half
  have e := points_young_ok v
  cases hp : ptY v <;> simp [run_1, run_2, run_3, run_4, run_5, ev_C, ev_U, ev_B, ev_nil, ev_cons, ev_L, ev_tst, ev_and, ev_or, ev_not, ev_V, ev_if, ev_ch, ev_var0, ev_varS, ev_seq, ev_sif, ev_asg, ev_new, ev_unp, ev_ret, ev_retF, ev_drop, ev_snil, ev_raise, ev_for, sv_0, sv_S, setVs, op_mul_i, op_mod_i, op_div_i, op_p60, encH, e, hp]
theorem ptY_ptr {y : Bool} {k : Int} : ptY (.ptr y k) = y := by cases y <;> rfl
theorem stray_ok (h : Hq) (v : Vl) : mstray [.p (encH h), .p (enc v)] = .ok (.p (.bl (isP v && (led h v).isNone))) := by
  unfold mstray
  cases v with
  | non => simp [run_1, run_2, run_3, run_4, run_5, ev_C, ev_U, ev_B, ev_nil, ev_cons, ev_L, ev_tst, ev_and, ev_or, ev_not, ev_V, ev_if, ev_ch, ev_var0, ev_varS, ev_seq, ev_sif, ev_asg, ev_new, ev_unp, ev_ret, ev_retF, ev_drop, ev_snil, ev_raise, ev_for, sv_0, sv_S, setVs, op_mul_i, op_mod_i, op_div_i, op_p60, enc, isP]
  | int i => simp [run_1, run_2, run_3, run_4, run_5, ev_C, ev_U, ev_B, ev_nil, ev_cons, ev_L, ev_tst, ev_and, ev_or, ev_not, ev_V, ev_if, ev_ch, ev_var0, ev_varS, ev_seq, ev_sif, ev_asg, ev_new, ev_unp, ev_ret, ev_retF, ev_drop, ev_snil, ev_raise, ev_for, sv_0, sv_S, setVs, op_mul_i, op_mod_i, op_div_i, op_p60, enc, isP]
  | ptr y k =>
    have e := half_of_ok h (.ptr y k)
    rw [ptY_ptr] at e
    unfold enc at e
    by_cases h0 : 0 ≤ k
    · by_cases h1 : k < (half h y).length
      · obtain ⟨t, ht, _⟩ := led_yes h0 h1
        simp [run_1, run_2, run_3, run_4, run_5, ev_C, ev_U, ev_B, ev_nil, ev_cons, ev_L, ev_tst, ev_and, ev_or, ev_not, ev_V, ev_if, ev_ch, ev_var0, ev_varS, ev_seq, ev_sif, ev_asg, ev_new, ev_unp, ev_ret, ev_retF, ev_drop, ev_snil, ev_raise, ev_for, sv_0, sv_S, setVs, op_mul_i, op_mod_i, op_div_i, op_p60, enc, isP, e, h0, h1, ht]
      · have ht : led h (.ptr y k) = none := led_no fun z => h1 z.2
        simp [run_1, run_2, run_3, run_4, run_5, ev_C, ev_U, ev_B, ev_nil, ev_cons, ev_L, ev_tst, ev_and, ev_or, ev_not, ev_V, ev_if, ev_ch, ev_var0, ev_varS, ev_seq, ev_sif, ev_asg, ev_new, ev_unp, ev_ret, ev_retF, ev_drop, ev_snil, ev_raise, ev_for, sv_0, sv_S, setVs, op_mul_i, op_mod_i, op_div_i, op_p60, enc, isP, e, h0, h1, ht]
    · have ht : led h (.ptr y k) = none := led_no fun z => h0 z.1
      simp [run_1, run_2, run_3, run_4, run_5, ev_C, ev_U, ev_B, ev_nil, ev_cons, ev_L, ev_tst, ev_and, ev_or, ev_not, ev_V, ev_if, ev_ch, ev_var0, ev_varS, ev_seq, ev_sif, ev_asg, ev_new, ev_unp, ev_ret, ev_retF, ev_drop, ev_snil, ev_raise, ev_for, sv_0, sv_S, setVs, op_mul_i, op_mod_i, op_div_i, op_p60, enc, isP, e, h0, ht]
theorem led_ptr {h : Hq} {v : Vl} {t : Th} (g : led h v = some t) : ∃ y k, v = .ptr y k ∧ 0 ≤ k ∧ (half h y)[k.toNat]? = some t := by
  cases v with
  | non => cases g
  | int i => cases g
  | ptr y k =>
    have g : (if 0 ≤ k then (half h y)[k.toNat]? else none) = some t := g
    by_cases h0 : 0 ≤ k
    · rw [if_pos h0] at g
      exact ⟨y, k, rfl, h0, g⟩
    · rw [if_neg h0] at g
      cases g
theorem leads_ok (h : Hq) (y : Bool) (k : Int) : m_law_leads [.p (encH h), .p (enc (.ptr y k))] = .ok (.p (.bl (led h (.ptr y k)).isSome)) := by
  unfold m_law_leads
  have e3 : eqD (.p (.str (wd y))) (.p (.str "old")) = .ok (.p (.bl (!y))) := eq_wo y
  by_cases h0 : 0 ≤ k
  · by_cases h1 : k < (half h y).length
    · obtain ⟨t, ht, _⟩ := led_yes h0 h1
      cases y <;> simp [half] at h1 <;> simp [run_1, run_2, run_3, run_4, run_5, ev_C, ev_U, ev_B, ev_nil, ev_cons, ev_L, ev_tst, ev_and, ev_or, ev_not, ev_V, ev_if, ev_ch, ev_var0, ev_varS, ev_seq, ev_sif, ev_asg, ev_new, ev_unp, ev_ret, ev_retF, ev_drop, ev_snil, ev_raise, ev_for, sv_0, sv_S, setVs, op_mul_i, op_mod_i, op_div_i, op_p60, enc, encH, e3, h0, h1, ht]
    · have ht : led h (.ptr y k) = none := led_no fun z => h1 z.2
      cases y <;> simp [half] at h1 <;> simp [run_1, run_2, run_3, run_4, run_5, ev_C, ev_U, ev_B, ev_nil, ev_cons, ev_L, ev_tst, ev_and, ev_or, ev_not, ev_V, ev_if, ev_ch, ev_var0, ev_varS, ev_seq, ev_sif, ev_asg, ev_new, ev_unp, ev_ret, ev_retF, ev_drop, ev_snil, ev_raise, ev_for, sv_0, sv_S, setVs, op_mul_i, op_mod_i, op_div_i, op_p60, enc, encH, e3, h0, Int.not_lt.mpr h1, ht]
  · have ht : led h (.ptr y k) = none := led_no fun z => h0 z.1
    cases y <;> simp [run_1, run_2, run_3, run_4, run_5, ev_C, ev_U, ev_B, ev_nil, ev_cons, ev_L, ev_tst, ev_and, ev_or, ev_not, ev_V, ev_if, ev_ch, ev_var0, ev_varS, ev_seq, ev_sif, ev_asg, ev_new, ev_unp, ev_ret, ev_retF, ev_drop, ev_snil, ev_raise, ev_for, sv_0, sv_S, setVs, op_mul_i, op_mod_i, op_div_i, op_p60, enc, encH, e3, h0, ht]
theorem whole_ok (i : Int) : m_law_whole [.p (.int i)] = .ok (.p (.bl true)) := by
  unfold m_law_whole
  simp [run_1, run_2, run_3, run_4, run_5, ev_C, ev_U, ev_B, ev_nil, ev_cons, ev_L, ev_tst, ev_and, ev_or, ev_not, ev_V, ev_if, ev_ch, ev_var0, ev_varS, ev_seq, ev_sif, ev_asg, ev_new, ev_unp, ev_ret, ev_retF, ev_drop, ev_snil, ev_raise, ev_for, sv_0, sv_S, setVs, op_mul_i, op_mod_i, op_div_i, op_p60]
theorem thing_at_ok (h : Hq) (v : Vl) (t : Th) (g : led h v = some t) : mthing_at [.p (encH h), .p (enc v)] = .ok (.p (encT t)) := by
  obtain ⟨y, j, rfl, h0, ht⟩ := led_ptr g
  have e2 := half_of_ok h (.ptr y j)
  rw [ptY_ptr] at e2
  unfold enc at e2
  have e3 : ((half h y).map encT)[j.toNat]? = some (encT t) := by simp [ht]
  unfold mthing_at
  simp [run_1, run_2, run_3, run_4, run_5, ev_C, ev_U, ev_B, ev_nil, ev_cons, ev_L, ev_tst, ev_and, ev_or, ev_not, ev_V, ev_if, ev_ch, ev_var0, ev_varS, ev_seq, ev_sif, ev_asg, ev_new, ev_unp, ev_ret, ev_retF, ev_drop, ev_snil, ev_raise, ev_for, sv_0, sv_S, setVs, op_mul_i, op_mod_i, op_div_i, op_p60, enc, e2, ix_t h0 e3]
theorem no_root_ok (h : Hq) (k : Int) : mrefuse_no_root [.p (encH h), .p (.int k)] = if 0 ≤ k ∧ k < h.roots.length then .ok (.p .non) else .exc 2 := by
  unfold mrefuse_no_root encH
  by_cases k0 : 0 ≤ k
  · by_cases k1 : k < h.roots.length
    · simp [run_1, run_2, run_3, run_4, run_5, ev_C, ev_U, ev_B, ev_nil, ev_cons, ev_L, ev_tst, ev_and, ev_or, ev_not, ev_V, ev_if, ev_ch, ev_var0, ev_varS, ev_seq, ev_sif, ev_asg, ev_new, ev_unp, ev_ret, ev_retF, ev_drop, ev_snil, ev_raise, ev_for, sv_0, sv_S, setVs, op_mul_i, op_mod_i, op_div_i, op_p60, k0, k1]
    · simp [run_1, run_2, run_3, run_4, run_5, ev_C, ev_U, ev_B, ev_nil, ev_cons, ev_L, ev_tst, ev_and, ev_or, ev_not, ev_V, ev_if, ev_ch, ev_var0, ev_varS, ev_seq, ev_sif, ev_asg, ev_new, ev_unp, ev_ret, ev_retF, ev_drop, ev_snil, ev_raise, ev_for, sv_0, sv_S, setVs, op_mul_i, op_mod_i, op_div_i, op_p60, k0, k1]
  · simp [run_1, run_2, run_3, run_4, run_5, ev_C, ev_U, ev_B, ev_nil, ev_cons, ev_L, ev_tst, ev_and, ev_or, ev_not, ev_V, ev_if, ev_ch, ev_var0, ev_varS, ev_seq, ev_sif, ev_asg, ev_new, ev_unp, ev_ret, ev_retF, ev_drop, ev_snil, ev_raise, ev_for, sv_0, sv_S, setVs, op_mul_i, op_mod_i, op_div_i, op_p60, k0]
end Kp

namespace Kp
open PySem L2 Fw Ma
theorem shp_s {s : Str} (h : PyData.strOk s = true) : SeqAt.shaped (.str s) = true := by simp [SeqAt.shaped, PyData.canLay0, PyData.depth, h]
theorem eq_ptr (y : Bool) (k : Int) : eqD (.p (.tup [.str (wd y), .int k])) (.p (.tup [.str (wd y), .int k])) = .ok (.p (.bl true)) := by
  have hs : SeqAt.shaped (.tuple [.str (wd y), .int k]) = true := by simp [SeqAt.shaped, PyData.canLay0, PyData.canLayAll0, PyData.depth, PyData.depthAll, ok_wd]
  show (if SeqAt.shaped (.tuple [.str (wd y), .int k]) = true ∧ SeqAt.shaped (.tuple [.str (wd y), .int k]) = true then Rz.ok (Sv.p (.bl (PyData.eqv (.tuple [.str (wd y), .int k]) (.tuple [.str (wd y), .int k])))) else .stuck) = _
  rw [if_pos ⟨hs, hs⟩]
  congr 3
  exact SeqAt.eqv_refl _ (SeqAt.canLay_of_shaped hs)
theorem alike_ok (v : Vl) : m_law_alike [.p (enc v), .p (enc v)] = .ok (.p (.bl true)) := by
  unfold m_law_alike
  cases v with
  | non => simp [run_1, run_2, run_3, run_4, run_5, ev_C, ev_U, ev_B, ev_nil, ev_cons, ev_L, ev_tst, ev_and, ev_or, ev_not, ev_V, ev_if, ev_ch, ev_var0, ev_varS, ev_seq, ev_sif, ev_asg, ev_new, ev_unp, ev_ret, ev_retF, ev_drop, ev_snil, ev_raise, ev_for, sv_0, sv_S, setVs, op_mul_i, op_mod_i, op_div_i, op_p60, enc]
  | int i => simp [run_1, run_2, run_3, run_4, run_5, ev_C, ev_U, ev_B, ev_nil, ev_cons, ev_L, ev_tst, ev_and, ev_or, ev_not, ev_V, ev_if, ev_ch, ev_var0, ev_varS, ev_seq, ev_sif, ev_asg, ev_new, ev_unp, ev_ret, ev_retF, ev_drop, ev_snil, ev_raise, ev_for, sv_0, sv_S, setVs, op_mul_i, op_mod_i, op_div_i, op_p60, enc, whole_ok]
  | ptr y k => simp [run_1, run_2, run_3, run_4, run_5, ev_C, ev_U, ev_B, ev_nil, ev_cons, ev_L, ev_tst, ev_and, ev_or, ev_not, ev_V, ev_if, ev_ch, ev_var0, ev_varS, ev_seq, ev_sif, ev_asg, ev_new, ev_unp, ev_ret, ev_retF, ev_drop, ev_snil, ev_raise, ev_for, sv_0, sv_S, setVs, op_mul_i, op_mod_i, op_div_i, op_p60, enc, whole_ok, eq_ptr]
theorem tryAs_ex {u : XS} {p : Nat → Bool} {i c : Nat} {f : Nat → En → Rz Sv} {ρ ρ' : En} {r : Sv} (h : u ρ = .exc c ρ') (hp : p c = true) (hi : i < ρ'.length) (hf : f c ρ' = .ok r) : sTryAs u p i f ρ = .rt r (ρ'.set i none) := by
  unfold sTryAs
  rw [h]
  show (if p c = true then _ else _) = _
  rw [if_pos hp, if_pos hi, hf]
def tyO (o : Out) (hs : List ((Nat → Bool) × XS)) : Out := match o with
  | .exc c ρ' => pickD hs c ρ'
  | o => o
theorem ev_try {u : XS} {hs : List ((Nat → Bool) × XS)} {ρ : En} : sTry u hs ρ = tyO (u ρ) hs := rfl
@[simp] theorem ty_nx {ρ : En} {hs : List ((Nat → Bool) × XS)} : tyO (.nx ρ) hs = .nx ρ := rfl
@[simp] theorem ty_ex {ρ : En} {c : Nat} {hs : List ((Nat → Bool) × XS)} : tyO (.exc c ρ) hs = pickD hs c ρ := rfl
theorem pk_S {p : Nat → Bool} {s : XS} {r : List ((Nat → Bool) × XS)} {c : Nat} {ρ : En} : pickD ((p, s) :: r) c ρ = if p c = true then s ρ else pickD r c ρ := rfl
theorem eq_s {s t : Str} {b : Bool} (hs : PyData.strOk s = true) (ht : PyData.strOk t = true) (h : (s == t) = b) : eqD (.p (.str s)) (.p (.str t)) = .ok (.p (.bl b)) := by rw [eq_str hs ht, h]
theorem ne_s {s t : Str} {b : Bool} (hs : PyData.strOk s = true) (ht : PyData.strOk t = true) (h : (!(s == t)) = b) : neD (.p (.str s)) (.p (.str t)) = .ok (.p (.bl b)) := by rw [ne_str hs ht, h]
theorem ee : eqD (.p (.str "")) (.p (.str "")) = .ok (.p (.bl true)) := eq_s (by decide +kernel) (by decide +kernel) (by decide +kernel)
theorem ne_tt : neD (.p (.str "thing")) (.p (.str "thing")) = .ok (.p (.bl false)) := ne_s (by decide +kernel) (by decide +kernel) (by decide +kernel)
theorem ne_ff : neD (.p (.str "field")) (.p (.str "field")) = .ok (.p (.bl false)) := ne_s (by decide +kernel) (by decide +kernel) (by decide +kernel)
def ixO (a : Rz Sv) (b : Rz Sv) : Rz Sv := a.bind fun s => match s with
  | .l l => b.bind fun t => indexD (.l l) t
  | _ => .stuck
theorem ev_idx {x y : XE} {ρ : En} : xIdx x y ρ = ixO (x ρ) (y ρ) := rfl
theorem ixO_ok {l : List Dt} {t : Sv} : ixO (.ok (.l l)) (.ok t) = indexD (.l l) t := rfl
theorem idx_w (y : Bool) : indexD (.l [.str "young", .str "old"]) (.p (.str (wd y))) = .ok (.p (.int (if y = true then 0 else 1))) := by cases y <;> rfl
theorem pointer_by_ok (c far : Int) (h : Hq) (G : Gd h) : ∃ p : Vl, m_law_pointer_by [.p (.int c), .p (encH h), .p (.int far)] = .ok (.p (enc p)) := by
  unfold m_law_pointer_by
  by_cases d0 : c.fmod 9 = 0
  · exact ⟨.non, by simp [run_1, run_2, run_3, run_4, run_5, ev_C, ev_U, ev_B, ev_nil, ev_cons, ev_L, ev_tst, ev_and, ev_or, ev_not, ev_V, ev_if, ev_ch, ev_var0, ev_varS, ev_seq, ev_sif, ev_asg, ev_new, ev_unp, ev_ret, ev_retF, ev_drop, ev_snil, ev_raise, ev_for, sv_0, sv_S, setVs, op_mul_i, op_mod_i, op_div_i, op_p60, d0, enc]⟩
  by_cases d1 : c.fmod 9 = 1
  · exact ⟨.int ((c.fdiv 9).fmod 5 - 1), by simp [run_1, run_2, run_3, run_4, run_5, ev_C, ev_U, ev_B, ev_nil, ev_cons, ev_L, ev_tst, ev_and, ev_or, ev_not, ev_V, ev_if, ev_ch, ev_var0, ev_varS, ev_seq, ev_sif, ev_asg, ev_new, ev_unp, ev_ret, ev_retF, ev_drop, ev_snil, ev_raise, ev_for, sv_0, sv_S, setVs, op_mul_i, op_mod_i, op_div_i, op_p60, d1, enc]⟩
  have go : ∀ y : Bool, (c.fmod 9).fmod 2 = (if y = true then 0 else 1) → ∃ p : Vl, m_law_pointer_by [.p (.int c), .p (encH h), .p (.int far)] = .ok (.p (enc p)) := fun y hy => by
    have e4 : ixD (.p (encH h)) (.p (.int (if y = true then 0 else 1))) = .ok (.p (.tup ((half h y).map encT))) := by
      unfold half encH
      cases y <;> simp
    have e6 : ixD (.l [.str "young", .str "old"]) (.p (.int (if y = true then 0 else 1))) = .ok (.p (.str (wd y))) := by cases y <;> simp [wd]
    have d5 : ((half h y).length : Int) + 4 ≠ 0 := by omega
    have l1 := G.ly
    have l2 := G.lo
    have d7 : (half h y).length ≤ 70 := by unfold half; split <;> assumption
    have d6 : (((half h y).length : Int) + 4).natAbs < 1073741824 := by omega
    unfold m_law_pointer_by
    by_cases d2 : (c.fdiv 9).fmod ((half h y).length + 4) - 2 = (half h y).length + 1
    · rcases two_cases (((c.fdiv 9).fdiv ((half h y).length + 4))) with d8 | d8
      · refine ⟨.ptr y far, ?_⟩
        simp [run_1, run_2, run_3, run_4, run_5, ev_C, ev_U, ev_B, ev_nil, ev_cons, ev_L, ev_tst, ev_and, ev_or, ev_not, ev_V, ev_if, ev_ch, ev_var0, ev_varS, ev_seq, ev_sif, ev_asg, ev_new, ev_unp, ev_ret, ev_retF, ev_drop, ev_snil, ev_raise, ev_for, sv_0, sv_S, setVs, op_mul_i, op_mod_i, op_div_i, op_p60, bqF d0, bqF d1, hy, e4, e6, d5, d6, d2, d8, enc]
      · refine ⟨.ptr y (-1 - far), ?_⟩
        simp [run_1, run_2, run_3, run_4, run_5, ev_C, ev_U, ev_B, ev_nil, ev_cons, ev_L, ev_tst, ev_and, ev_or, ev_not, ev_V, ev_if, ev_ch, ev_var0, ev_varS, ev_seq, ev_sif, ev_asg, ev_new, ev_unp, ev_ret, ev_retF, ev_drop, ev_snil, ev_raise, ev_for, sv_0, sv_S, setVs, op_mul_i, op_mod_i, op_div_i, op_p60, bqF d0, bqF d1, hy, e4, e6, d5, d6, d2, d8, enc]
    · refine ⟨.ptr y ((c.fdiv 9).fmod ((half h y).length + 4) - 2), ?_⟩
      simp [run_1, run_2, run_3, run_4, run_5, ev_C, ev_U, ev_B, ev_nil, ev_cons, ev_L, ev_tst, ev_and, ev_or, ev_not, ev_V, ev_if, ev_ch, ev_var0, ev_varS, ev_seq, ev_sif, ev_asg, ev_new, ev_unp, ev_ret, ev_retF, ev_drop, ev_snil, ev_raise, ev_for, sv_0, sv_S, setVs, op_mul_i, op_mod_i, op_div_i, op_p60, bqF d0, bqF d1, hy, e4, e6, d5, bqF d2, enc]
  rcases two_cases (c.fmod 9) with d | d
  · exact go true d
  · exact go false d
end Kp

namespace Kp
open PySem L2 Fw Ma
def lpR : XS := (sIf (xNot (xTst blB (xL (chk 2 m_law_alike) (xCons (xB ixD (xVar 0) (xVar 2)) (xCons (xB ixD (xVar 1) (xVar 2)) xNil))))) (sRet (xC (.bl false))) sNil)
def lpH : XS := (sSeq (sIf (xOr (xNot (xTst blB (xU (isD "tuple") (xB ixD (xVar 0) (xVar 2))))) (xTst blB (xB neD (xL lenD (xCons (xB ixD (xVar 0) (xVar 2)) xNil)) (xC (.int 2))))) (sRet (xC (.bl false))) sNil)
    (sSeq (sIf (xOr (xNot (xTst blB (xL (chk 1 m_law_whole) (xCons (xB ixD (xB ixD (xVar 0) (xVar 2)) (xC (.int 0))) xNil)))) (xTst blB (xB neD (xB ixD (xB ixD (xVar 0) (xVar 2)) (xC (.int 0))) (xB ixD (xB ixD (xVar 1) (xVar 2)) (xC (.int 0)))))) (sRet (xC (.bl false))) sNil)
    (sIf (xNot (xTst blB (xL (chk 2 m_law_row_alike) (xCons (xB ixD (xB ixD (xVar 0) (xVar 2)) (xC (.int 1))) (xCons (xB ixD (xB ixD (xVar 1) (xVar 2)) (xC (.int 1))) xNil))))) (sRet (xC (.bl false))) sNil)))
def lpB : XS := (sSeq (sIf (xOr (xNot (xTst blB (xU (isD "tuple") (xB ixD (xVar 0) (xVar 2))))) (xTst blB (xB neD (xL lenD (xCons (xB ixD (xVar 0) (xVar 2)) xNil)) (xC (.int 2))))) (sRet (xC (.bl false))) sNil)
    (sSeq (sIf (xOr (xNot (xTst blB (xL (chk 1 m_law_whole) (xCons (xB ixD (xB ixD (xVar 0) (xVar 2)) (xC (.int 0))) xNil)))) (xNot (xTst blB (xL (chk 1 m_law_whole) (xCons (xB ixD (xB ixD (xVar 0) (xVar 2)) (xC (.int 1))) xNil))))) (sRet (xC (.bl false))) sNil)
    (sIf (xTst blB (xB neD (xB ixD (xVar 0) (xVar 2)) (xB ixD (xVar 1) (xVar 2)))) (sRet (xC (.bl false))) sNil)))
theorem lp_all {u : XS} {a b : Option Sl} (n : Nat) (h : ∀ (j : Nat) (y : Option Sl), j < n → u [a, b, pI j] = .nx [a, b, pI j]) : ∃ y, forD (tgN 2) u (rgD 0 n) [a, b, none] = .nx [a, b, y] := by
  obtain ⟨ρ', e, y, rfl⟩ := forD_inv (tg := tgN 2) (u := u) (I := fun j ρ => ∃ y, ρ = [a, b, y]) n 0 [a, b, none] ⟨none, rfl⟩ fun j ρ h0 h1 ⟨y, hρ⟩ => by
    subst hρ
    exact ⟨_, _, rfl, h j y (by omega), pI j, rfl⟩
  exact ⟨y, e⟩
theorem row_alike_ok (vs : List Vl) (hn : vs.length ≤ 1000000) : m_law_row_alike [.p (.tup (vs.map enc)), .p (.tup (vs.map enc))] = .ok (.p (.bl true)) := by
  obtain ⟨y, e⟩ := lp_all (u := lpR) (a := some (.v (.p (.tup (vs.map enc))))) (b := some (.v (.p (.tup (vs.map enc))))) vs.length fun j y hj => by
    have e1 : (vs.map enc)[j]? = some (enc vs[j]) := by simp [hj]
    unfold lpR
    simp [run_1, run_2, run_3, run_4, run_5, ev_C, ev_U, ev_B, ev_nil, ev_cons, ev_L, ev_tst, ev_and, ev_or, ev_not, ev_V, ev_if, ev_ch, ev_var0, ev_varS, ev_seq, ev_sif, ev_asg, ev_new, ev_unp, ev_ret, ev_retF, ev_drop, ev_snil, ev_raise, ev_for, sv_0, sv_S, setVs, op_mul_i, op_mod_i, op_div_i, op_p60, ix_tn e1, alike_ok]
  unfold m_law_row_alike
  unfold lpR at e
  simp [run_1, run_2, run_3, run_4, run_5, ev_C, ev_U, ev_B, ev_nil, ev_cons, ev_L, ev_tst, ev_and, ev_or, ev_not, ev_V, ev_if, ev_ch, ev_var0, ev_varS, ev_seq, ev_sif, ev_asg, ev_new, ev_unp, ev_ret, ev_retF, ev_drop, ev_snil, ev_raise, ev_for, sv_0, sv_S, setVs, op_mul_i, op_mod_i, op_div_i, op_p60, ev_src1, op_rng hn, e]
theorem half_alike_ok (ts : List Th) (hn : ts.length ≤ 1000000) (hf : ∀ t ∈ ts, t.fs.length ≤ 1000000) : m_law_half_alike [.p (.tup (ts.map encT)), .p (.tup (ts.map encT))] = .ok (.p (.bl true)) := by
  obtain ⟨y, e⟩ := lp_all (u := lpH) (a := some (.v (.p (.tup (ts.map encT))))) (b := some (.v (.p (.tup (ts.map encT))))) ts.length fun j y hj => by
    have e1 : (ts.map encT)[j]? = some (.tup [.int ts[j].age, .tup (ts[j].fs.map enc)]) := by simp [hj, encT]
    have e2 := row_alike_ok ts[j].fs (hf _ (List.getElem_mem hj))
    unfold lpH
    simp [run_1, run_2, run_3, run_4, run_5, ev_C, ev_U, ev_B, ev_nil, ev_cons, ev_L, ev_tst, ev_and, ev_or, ev_not, ev_V, ev_if, ev_ch, ev_var0, ev_varS, ev_seq, ev_sif, ev_asg, ev_new, ev_unp, ev_ret, ev_retF, ev_drop, ev_snil, ev_raise, ev_for, sv_0, sv_S, setVs, op_mul_i, op_mod_i, op_div_i, op_p60, ix_tn e1, e2, whole_ok]
  unfold m_law_half_alike
  unfold lpH at e
  simp [run_1, run_2, run_3, run_4, run_5, ev_C, ev_U, ev_B, ev_nil, ev_cons, ev_L, ev_tst, ev_and, ev_or, ev_not, ev_V, ev_if, ev_ch, ev_var0, ev_varS, ev_seq, ev_sif, ev_asg, ev_new, ev_unp, ev_ret, ev_retF, ev_drop, ev_snil, ev_raise, ev_for, sv_0, sv_S, setVs, op_mul_i, op_mod_i, op_div_i, op_p60, ev_src1, op_rng hn, e]
theorem ne_pair (i j : Int) : neD (.p (.tup [.int i, .int j])) (.p (.tup [.int i, .int j])) = .ok (.p (.bl false)) := by
  have hs : SeqAt.shaped (.tuple [.int i, .int j]) = true := by simp [SeqAt.shaped, PyData.canLay0, PyData.canLayAll0, PyData.depth, PyData.depthAll]
  show (if SeqAt.shaped (.tuple [.int i, .int j]) = true ∧ SeqAt.shaped (.tuple [.int i, .int j]) = true then Rz.ok (Sv.p (.bl (!PyData.eqv (.tuple [.int i, .int j]) (.tuple [.int i, .int j])))) else .stuck) = _
  rw [if_pos ⟨hs, hs⟩, SeqAt.eqv_refl _ (SeqAt.canLay_of_shaped hs)]
  rfl
theorem book_alike_ok (ps : List (Int × Int)) (hn : ps.length ≤ 1000000) : m_law_book_alike [.p (.tup (ps.map encP)), .p (.tup (ps.map encP))] = .ok (.p (.bl true)) := by
  obtain ⟨y, e⟩ := lp_all (u := lpB) (a := some (.v (.p (.tup (ps.map encP))))) (b := some (.v (.p (.tup (ps.map encP))))) ps.length fun j y hj => by
    have e1 : (ps.map encP)[j]? = some (.tup [.int ps[j].1, .int ps[j].2]) := by simp [hj, encP]
    unfold lpB
    simp [run_1, run_2, run_3, run_4, run_5, ev_C, ev_U, ev_B, ev_nil, ev_cons, ev_L, ev_tst, ev_and, ev_or, ev_not, ev_V, ev_if, ev_ch, ev_var0, ev_varS, ev_seq, ev_sif, ev_asg, ev_new, ev_unp, ev_ret, ev_retF, ev_drop, ev_snil, ev_raise, ev_for, sv_0, sv_S, setVs, op_mul_i, op_mod_i, op_div_i, op_p60, ix_tn e1, whole_ok, ne_pair]
  unfold m_law_book_alike
  unfold lpB at e
  simp [run_1, run_2, run_3, run_4, run_5, ev_C, ev_U, ev_B, ev_nil, ev_cons, ev_L, ev_tst, ev_and, ev_or, ev_not, ev_V, ev_if, ev_ch, ev_var0, ev_varS, ev_seq, ev_sif, ev_asg, ev_new, ev_unp, ev_ret, ev_retF, ev_drop, ev_snil, ev_raise, ev_for, sv_0, sv_S, setVs, op_mul_i, op_mod_i, op_div_i, op_p60, ev_src1, op_rng hn, e]
/-- a heap that is not too big to be looked at -/
structure Sz (h : Hq) : Prop where
  ly : h.young.length ≤ 1000000
  lo : h.old.length ≤ 1000000
  lr : h.roots.length ≤ 1000000
  lb : h.book.length ≤ 1000000
  fy : ∀ t ∈ h.young, t.fs.length ≤ 1000000
  fo : ∀ t ∈ h.old, t.fs.length ≤ 1000000
theorem heap_alike_ok (h : Hq) (G : Sz h) : m_law_heap_alike [.p (encH h), .p (encH h)] = .ok (.p (.bl true)) := by
  unfold m_law_heap_alike encH
  simp [run_1, run_2, run_3, run_4, run_5, ev_C, ev_U, ev_B, ev_nil, ev_cons, ev_L, ev_tst, ev_and, ev_or, ev_not, ev_V, ev_if, ev_ch, ev_var0, ev_varS, ev_seq, ev_sif, ev_asg, ev_new, ev_unp, ev_ret, ev_retF, ev_drop, ev_snil, ev_raise, ev_for, sv_0, sv_S, setVs, op_mul_i, op_mod_i, op_div_i, op_p60, half_alike_ok _ G.ly G.fy, half_alike_ok _ G.lo G.fo, row_alike_ok _ G.lr, book_alike_ok _ G.lb]
theorem Gd.sz {h : Hq} (G : Gd h) : Sz h := by
  have l1 := G.ly
  have l2 := G.lo
  have l3 := G.lr
  have l4 := bookFrom_len 0 h.old G.fo
  refine ⟨by omega, by omega, by omega, by rw [G.bk]; omega, fun t ht => ?_, fun t ht => ?_⟩
  · have := G.fy t ht
    omega
  · have := G.fo t ht
    omega
/-- a value that leads nowhere though it is a pointer -/
def isStray (h : Hq) (v : Vl) : Bool := isP v && (led h v).isNone
theorem refuse_stray_ok (h : Hq) (v : Vl) : mrefuse_stray [.p (encH h), .p (enc v)] = if isStray h v = true then .exc 0 else .ok (.p .non) := by
  have e := stray_ok h v
  change _ = Rz.ok (Sv.p (.bl (isStray h v))) at e
  unfold mrefuse_stray
  cases hs : isStray h v
  · rw [hs] at e
    simp [run_1, run_2, run_3, run_4, run_5, ev_C, ev_U, ev_B, ev_nil, ev_cons, ev_L, ev_tst, ev_and, ev_or, ev_not, ev_V, ev_if, ev_ch, ev_var0, ev_varS, ev_seq, ev_sif, ev_asg, ev_new, ev_unp, ev_ret, ev_retF, ev_drop, ev_snil, ev_raise, ev_for, sv_0, sv_S, setVs, op_mul_i, op_mod_i, op_div_i, op_p60, e]
  · rw [hs] at e
    simp [run_1, run_2, run_3, run_4, run_5, ev_C, ev_U, ev_B, ev_nil, ev_cons, ev_L, ev_tst, ev_and, ev_or, ev_not, ev_V, ev_if, ev_ch, ev_var0, ev_varS, ev_seq, ev_sif, ev_asg, ev_new, ev_unp, ev_ret, ev_retF, ev_drop, ev_snil, ev_raise, ev_for, sv_0, sv_S, setVs, op_mul_i, op_mod_i, op_div_i, op_p60, e]

/-! slices -/
theorem cut_to (l : List Dt) (j : Int) (h : 0 ≤ j) : cutD l none (some j) = l.take j.toNat := by
  obtain ⟨n, rfl⟩ : ∃ n : Nat, j = n := ⟨j.toNat, by omega⟩
  unfold cutD
  rw [HT.sIx_none, HT.sIx_nat, Int.toNat_natCast]
  simp
theorem cut_from (l : List Dt) (j : Int) (h : 0 ≤ j) : cutD l (some j) none = l.drop j.toNat := by
  obtain ⟨n, rfl⟩ : ∃ n : Nat, j = n := ⟨j.toNat, by omega⟩
  unfold cutD
  rw [HT.sIx_none, HT.sIx_nat, Int.toNat_natCast]
  by_cases g : n ≤ l.length
  · rw [Nat.min_eq_left g, List.take_of_length_le (by simp)]
  · rw [Nat.min_eq_right (by omega), List.drop_of_length_le (Nat.le_refl _), List.drop_of_length_le (by omega)]
    simp
theorem sl_to {x k : XE} {ρ : En} {l : List Dt} {j : Int} (hx : x ρ = .ok (.p (.tup l))) (hk : k ρ = .ok (.p (.int j))) (h : 0 ≤ j) : xSl slD x oNo (oAt k) ρ = .ok (.p (.tup (l.take j.toNat))) := by
  rw [ev_sl, hx]
  show ((k ρ).bind intO).bind (fun u => slD (.p (.tup l)) none u) = _
  rw [hk]
  show Rz.ok (Sv.p (.tup (cutD l none (some j)))) = _
  rw [cut_to l j h]
theorem sl_from {x k : XE} {ρ : En} {l : List Dt} {j : Int} (hx : x ρ = .ok (.p (.tup l))) (hk : k ρ = .ok (.p (.int j))) (h : 0 ≤ j) : xSl slD x (oAt k) oNo ρ = .ok (.p (.tup (l.drop j.toNat))) := by
  rw [ev_sl, hx]
  show ((k ρ).bind intO).bind (fun u => slD (.p (.tup l)) u none) = _
  rw [hk]
  show Rz.ok (Sv.p (.tup (cutD l (some j) none))) = _
  rw [cut_from l j h]
/-! heaps that are good -/
theorem ok_notStray {h : Hq} {v : Vl} (g : vOk h.young.length h.old.length v) : isStray h v = false := by
  unfold isStray
  cases v with
  | non => rfl
  | int i => rfl
  | ptr y k =>
    have hl : 0 ≤ k ∧ k < (half h y).length := by
      cases y
      · exact g
      · exact g
    obtain ⟨t, e, _⟩ := led_yes hl.1 hl.2
    simp [isP, e]
end Kp

namespace Kp
open PySem L2 Fw Ma
def putAt (rs : List Vl) (k : Nat) (v : Vl) : List Vl := rs.take k ++ v :: rs.drop (k + 1)
theorem replaced_ok (row : List Dt) (k : Int) (x : Dt) (h : 0 ≤ k) (hl : row.length ≤ 400000) : mreplaced [.p (.tup row), .p (.int k), .p x] = .ok (.p (.tup (row.take k.toNat ++ x :: row.drop (k.toNat + 1)))) := by
  have e1 : ∀ ρ : En, xVar 0 ρ = .ok (.p (.tup row)) → xVar 1 ρ = .ok (.p (.int k)) → xSl slD (xVar 0) oNo (oAt (xVar 1)) ρ = .ok (.p (.tup (row.take k.toNat))) := fun ρ a c => sl_to a c h
  have e2 : ∀ ρ : En, xVar 0 ρ = .ok (.p (.tup row)) → xVar 1 ρ = .ok (.p (.int k)) → xSl slD (xVar 0) (oAt (xB addD (xVar 1) (xC (.int 1)))) oNo ρ = .ok (.p (.tup (row.drop (k + 1).toNat))) := fun ρ a c => sl_from (j := k + 1) a (by rw [ev_B, c]; rfl) (by omega)
  have a1 : addD (.p (.tup (row.take k.toNat))) (.p (.tup [x])) = .ok (.p (.tup (row.take k.toNat ++ [x]))) := op_add_t (by simp; omega)
  have a2 : addD (.p (.tup (row.take k.toNat ++ [x]))) (.p (.tup (row.drop (k + 1).toNat))) = .ok (.p (.tup (row.take k.toNat ++ [x] ++ row.drop (k + 1).toNat))) := op_add_t (by simp; omega)
  have e3 : (k + 1).toNat = k.toNat + 1 := by omega
  unfold mreplaced
  rw [run_3, ev_ret, ev_B, ev_B, e1 _ rfl rfl, e2 _ rfl rfl]
  simp [run_1, run_2, run_3, run_4, run_5, ev_C, ev_U, ev_B, ev_nil, ev_cons, ev_L, ev_tst, ev_and, ev_or, ev_not, ev_V, ev_if, ev_ch, ev_var0, ev_varS, ev_seq, ev_sif, ev_asg, ev_new, ev_unp, ev_ret, ev_retF, ev_drop, ev_snil, ev_raise, ev_for, sv_0, sv_S, setVs, op_mul_i, op_mod_i, op_div_i, op_p60, a1, a2]
  rw [e3]
theorem putAt_enc {α : Type} (f : α → Dt) (rs : List α) (k : Nat) (v : α) : (rs.map f).take k ++ f v :: (rs.map f).drop (k + 1) = (rs.take k ++ v :: rs.drop (k + 1)).map f := by simp
theorem eq_rr : eqD (.p (.str "root")) (.p (.str "root")) = .ok (.p (.bl true)) := eq_s (by decide +kernel) (by decide +kernel) (by decide +kernel)
theorem eq_hh : eqD (.p (.str "thing")) (.p (.str "thing")) = .ok (.p (.bl true)) := eq_s (by decide +kernel) (by decide +kernel) (by decide +kernel)
theorem eq_hr : eqD (.p (.str "thing")) (.p (.str "root")) = .ok (.p (.bl false)) := eq_s (by decide +kernel) (by decide +kernel) (by decide +kernel)
theorem ne_re : neD (.p (.str "root")) (.p (.str "")) = .ok (.p (.bl true)) := ne_s (by decide +kernel) (by decide +kernel) (by decide +kernel)
theorem ne_he : neD (.p (.str "thing")) (.p (.str "")) = .ok (.p (.bl true)) := ne_s (by decide +kernel) (by decide +kernel) (by decide +kernel)
theorem ne_ee : neD (.p (.str "")) (.p (.str "")) = .ok (.p (.bl false)) := ne_s (by decide +kernel) (by decide +kernel) (by decide +kernel)
theorem isT_isP (p : Vl) : isD "tuple" (.p (enc p)) = .ok (.p (.bl (isP p))) := by cases p <;> rfl
theorem leads_st (h : Hq) (p : Vl) (g : isP p = true) : m_law_leads [.p (encH h), .p (enc p)] = .ok (.p (.bl (!isStray h p))) := by
  obtain ⟨y, j, rfl⟩ : ∃ y j, p = .ptr y j := by
    cases p with
    | non => cases g
    | int i => cases g
    | ptr y j => exact ⟨y, j, rfl⟩
  rw [leads_ok]
  unfold isStray isP
  cases led h (.ptr y j) <;> rfl
end Kp

namespace Kp
open PySem L2 Fw Ma
theorem thing_with_0 (h : Hq) (v : Vl) (k : Int) (g : led h v = none) : mthing_with [.p (encH h), .p (enc v), .p (.int k)] = .exc 0 := by
  unfold mthing_with
  have e := stray_ok h v
  cases v with
  | non => simp [run_1, run_2, run_3, run_4, run_5, ev_C, ev_U, ev_B, ev_nil, ev_cons, ev_L, ev_tst, ev_and, ev_or, ev_not, ev_V, ev_if, ev_ch, ev_var0, ev_varS, ev_seq, ev_sif, ev_asg, ev_new, ev_unp, ev_ret, ev_retF, ev_drop, ev_snil, ev_raise, ev_for, sv_0, sv_S, setVs, op_mul_i, op_mod_i, op_div_i, op_p60, enc]
  | int i => simp [run_1, run_2, run_3, run_4, run_5, ev_C, ev_U, ev_B, ev_nil, ev_cons, ev_L, ev_tst, ev_and, ev_or, ev_not, ev_V, ev_if, ev_ch, ev_var0, ev_varS, ev_seq, ev_sif, ev_asg, ev_new, ev_unp, ev_ret, ev_retF, ev_drop, ev_snil, ev_raise, ev_for, sv_0, sv_S, setVs, op_mul_i, op_mod_i, op_div_i, op_p60, enc]
  | ptr y j =>
    rw [g] at e
    unfold enc isP at e
    simp [run_1, run_2, run_3, run_4, run_5, ev_C, ev_U, ev_B, ev_nil, ev_cons, ev_L, ev_tst, ev_and, ev_or, ev_not, ev_V, ev_if, ev_ch, ev_var0, ev_varS, ev_seq, ev_sif, ev_asg, ev_new, ev_unp, ev_ret, ev_retF, ev_drop, ev_snil, ev_raise, ev_for, sv_0, sv_S, setVs, op_mul_i, op_mod_i, op_div_i, op_p60, enc, e]
theorem thing_with_1 (h : Hq) (v : Vl) (k : Int) (t : Th) (g : led h v = some t) (hk : ¬ (0 ≤ k ∧ k < t.fs.length)) : mthing_with [.p (encH h), .p (enc v), .p (.int k)] = .exc 1 := by
  have e := stray_ok h v
  obtain ⟨y, j, rfl, h0, ht⟩ := led_ptr g
  have eA := thing_at_ok h _ t g
  rw [g] at e
  unfold enc isP at e
  unfold enc at eA
  unfold mthing_with
  by_cases k0 : 0 ≤ k
  · have k1 : ¬ k < t.fs.length := fun z => hk ⟨k0, z⟩
    simp [run_1, run_2, run_3, run_4, run_5, ev_C, ev_U, ev_B, ev_nil, ev_cons, ev_L, ev_tst, ev_and, ev_or, ev_not, ev_V, ev_if, ev_ch, ev_var0, ev_varS, ev_seq, ev_sif, ev_asg, ev_new, ev_unp, ev_ret, ev_retF, ev_drop, ev_snil, ev_raise, ev_for, sv_0, sv_S, setVs, op_mul_i, op_mod_i, op_div_i, op_p60, enc, e, eA, encT, k0, k1]
  · simp [run_1, run_2, run_3, run_4, run_5, ev_C, ev_U, ev_B, ev_nil, ev_cons, ev_L, ev_tst, ev_and, ev_or, ev_not, ev_V, ev_if, ev_ch, ev_var0, ev_varS, ev_seq, ev_sif, ev_asg, ev_new, ev_unp, ev_ret, ev_retF, ev_drop, ev_snil, ev_raise, ev_for, sv_0, sv_S, setVs, op_mul_i, op_mod_i, op_div_i, op_p60, enc, e, eA, encT, k0]
theorem thing_with_2 (h : Hq) (v : Vl) (k : Int) (t : Th) (g : led h v = some t) (k0 : 0 ≤ k) (k1 : k < t.fs.length) : mthing_with [.p (encH h), .p (enc v), .p (.int k)] = .ok (.p (encT t)) := by
  have e := stray_ok h v
  obtain ⟨y, j, rfl, h0, ht⟩ := led_ptr g
  have eA := thing_at_ok h _ t g
  rw [g] at e
  unfold enc isP at e
  unfold enc at eA
  unfold mthing_with
  simp [run_1, run_2, run_3, run_4, run_5, ev_C, ev_U, ev_B, ev_nil, ev_cons, ev_L, ev_tst, ev_and, ev_or, ev_not, ev_V, ev_if, ev_ch, ev_var0, ev_varS, ev_seq, ev_sif, ev_asg, ev_new, ev_unp, ev_ret, ev_retF, ev_drop, ev_snil, ev_raise, ev_for, sv_0, sv_S, setVs, op_mul_i, op_mod_i, op_div_i, op_p60, enc, e, eA, encT, k0, k1]
end Kp

/-! More rules of evaluation: effects on slots, dicts by pointers. -/
namespace Fw
open PySem L2
/-! ### loops -/
theorem forD_c' {tg : Tg} {u : XS} {x : Dt} {xs : List Dt} {ρ ρ1 ρ2 : En} (h : tg x ρ = .ok ρ1) (h2 : u ρ1 = .nx ρ2) : forD tg u (x :: xs) ρ = forD tg u xs ρ2 := by
  show (match tg x ρ with
    | .ok ρ1 => goOn (u ρ1) (forD tg u xs)
    | _ => .stuck) = _
  rw [h]
  show goOn (u ρ1) _ = _
  rw [h2]
  rfl
/-- a loop over a list, by what holds behind each part of it -/
theorem forD_list {α : Type} {f : α → Dt} {tg : Tg} {u : XS} (I : List α → En → Prop) : ∀ (xs pre : List α) (ρ : En), (∀ (p s : List α) (x : α) (ρ : En), pre ++ xs = p ++ x :: s → I p ρ → ∃ ρ1 ρ2, tg (f x) ρ = .ok ρ1 ∧ u ρ1 = .nx ρ2 ∧ I (p ++ [x]) ρ2) → I pre ρ → ∃ ρ', forD tg u (xs.map f) ρ = .nx ρ' ∧ I (pre ++ xs) ρ'
  | [], pre, ρ, _, h => ⟨ρ, rfl, by simpa using h⟩
  | x :: xs, pre, ρ, st, h => by
    obtain ⟨ρ1, ρ2, h1, h2, h3⟩ := st pre xs x ρ rfl h
    obtain ⟨ρ', e, h4⟩ := forD_list I xs (pre ++ [x]) ρ2 (fun p s y ρ hp => st p s y ρ (by rw [← hp]; simp)) h3
    refine ⟨ρ', ?_, by simpa using h4⟩
    rw [List.map_cons, forD_c' h1 h2]
    exact e
/-- a while loop with a measure -/
theorem whileD_run {c : XT} {u : XS} {I : Nat → En → Prop} {P : En → Prop} (st : ∀ n ρ, I n ρ → (c ρ = .ok false ∧ P ρ) ∨ (c ρ = .ok true ∧ ∃ m ρ', m < n ∧ u ρ = .nx ρ' ∧ I m ρ')) : ∀ (n : Nat) (ρ : En) (k : Nat), I n ρ → n < k → ∃ ρ', whileD c u k ρ = .nx ρ' ∧ P ρ'
  | n, ρ, 0, _, h => by omega
  | n, ρ, k + 1, hi, hk => by
    unfold whileD
    rcases st n ρ hi with ⟨h1, h2⟩ | ⟨h1, m, ρ', hm, h2, h3⟩
    · rw [h1]
      exact ⟨ρ, rfl, h2⟩
    · rw [h1]
      obtain ⟨ρ2, e, h4⟩ := whileD_run st m ρ' k h3 (by omega)
      refine ⟨ρ2, ?_, h4⟩
      show goOn (u ρ) _ = _
      rw [h2]
      exact e
/-! ### effects -/
theorem ev_whl {c : XT} {u : XS} {ρ : En} : sWhile c u ρ = whileD c u 1000000 ρ := rfl
def nmO (o : Bool) (i : Nat) (r : Rz (Sv × En)) : Out := match r with
  | .ok (s, ρ') => .nx (ρ'.set i (some (if o = true then .o s else .v s)))
  | _ => .stuck
def amO (i : Nat) (r : Rz (Sv × En)) : Out := match r with
  | .ok (.p x, ρ') => .nx (setV i x ρ')
  | _ => .stuck
def umO (is : List Nat) (r : Rz (Sv × En)) : Out := match r with
  | .ok (.p (.tup l), ρ') => if l.length = is.length then .nx (setVs is l ρ') else .stuck
  | _ => .stuck
def dmO (r : Rz (Sv × En)) : Out := match r with
  | .ok r => .nx r.2
  | _ => .stuck
def rmO (r : Rz (Sv × En)) : Out := match r with
  | .ok (s, ρ') => .rt s ρ'
  | _ => .stuck
def slO (x : Option (Option Sl)) (ρ : En) (i : Nat) (ys : List Dt) : Out := match x with
  | some (some (.o (.l l))) => if l.length + ys.length ≤ 1000000 then .nx (ρ.set i (some (.o (.l (l ++ ys))))) else .stuck
  | _ => .stuck
def emO (b : Bool) (i : Nat) (r : Rz (Sv × En)) : Out := if b = true then (match r with
  | .ok (.l ys, ρ') => slO ρ'[i]? ρ' i ys
  | _ => .stuck) else .stuck
theorem ev_nwM {o : Bool} {i : Nat} {m : XM} {ρ : En} : sNewM o i m ρ = nmO o i (m ρ) := rfl
theorem ev_agM {i : Nat} {m : XM} {ρ : En} : sAsgM i m ρ = amO i (m ρ) := rfl
theorem ev_unM {is : List Nat} {m : XM} {ρ : En} : sUnpM is m ρ = umO is (m ρ) := rfl
theorem ev_exM {i : Nat} {m : XM} {ρ : En} : sExtM i m ρ = emO (isOl ρ[i]?) i (m ρ) := rfl
theorem ev_drM {m : XM} {ρ : En} : sDropM m ρ = dmO (m ρ) := rfl
theorem ev_rtM {m : XM} {ρ : En} : sRetM m ρ = rmO (m ρ) := rfl
def apO (b : Bool) (i : Nat) (r : Rz (Sv × En)) : Out := if b = true then (match r with
  | .ok (.p y, ρ') => match ρ'[i]? with
    | some (some (.o (.l l))) => if l.length < 1000000 then .nx (ρ'.set i (some (.o (.l (l ++ [y]))))) else .stuck
    | _ => .stuck
  | _ => .stuck) else .stuck
theorem ev_apM {i : Nat} {m : XM} {ρ : En} : sAppM i m ρ = apO (isOl ρ[i]?) i (m ρ) := rfl
def tmO (r : Rz (Sv × En)) : Rz (Bool × En) := match r with
  | .ok (.p (.bl b), ρ') => .ok (b, ρ')
  | _ => .stuck
def ntO (r : Rz (Bool × En)) : Rz (Bool × En) := match r with
  | .ok (b, ρ') => .ok (!b, ρ')
  | _ => .stuck
def imO (r : Rz (Bool × En)) (u w : XS) : Out := match r with
  | .ok (b, ρ') => if b = true then u ρ' else w ρ'
  | _ => .stuck
theorem ev_tM {m : XM} {ρ : En} : xTM m ρ = tmO (m ρ) := rfl
theorem ev_nM {m : XMT} {ρ : En} : xNM m ρ = ntO (m ρ) := rfl
theorem ev_ifM {t : XMT} {u w : XS} {ρ : En} : sIfM t u w ρ = imO (t ρ) u w := rfl
@[simp] theorem nm_o {i : Nat} {s : Sv} {ρ : En} : nmO true i (.ok (s, ρ)) = .nx (ρ.set i (some (.o s))) := rfl
@[simp] theorem nm_v {i : Nat} {s : Sv} {ρ : En} : nmO false i (.ok (s, ρ)) = .nx (ρ.set i (some (.v s))) := rfl
@[simp] theorem am_ok {i : Nat} {x : Dt} {ρ : En} : amO i (.ok (.p x, ρ)) = .nx (setV i x ρ) := rfl
@[simp] theorem um_ok {is : List Nat} {l : List Dt} {ρ : En} : umO is (.ok (.p (.tup l), ρ)) = if l.length = is.length then .nx (setVs is l ρ) else .stuck := rfl
@[simp] theorem dm_ok {r : Sv × En} : dmO (.ok r) = .nx r.2 := rfl
@[simp] theorem rm_ok {s : Sv} {ρ : En} : rmO (.ok (s, ρ)) = .rt s ρ := rfl
@[simp] theorem em_ok {i : Nat} {ys : List Dt} {ρ : En} : emO true i (.ok (.l ys, ρ)) = slO ρ[i]? ρ i ys := rfl
theorem sl_ok {l ys : List Dt} {ρ : En} {i : Nat} (h : l.length + ys.length ≤ 1000000) : slO (some (some (.o (.l l)))) ρ i ys = .nx (ρ.set i (some (.o (.l (l ++ ys))))) := if_pos h
@[simp] theorem tm_ok {b : Bool} {ρ : En} : tmO (.ok (.p (.bl b), ρ)) = .ok (b, ρ) := rfl
@[simp] theorem nt_okM {b : Bool} {ρ : En} : ntO (.ok (b, ρ)) = .ok (!b, ρ) := rfl
@[simp] theorem im_t {u w : XS} {ρ : En} : imO (.ok (true, ρ)) u w = u ρ := rfl
@[simp] theorem im_f {u w : XS} {ρ : En} : imO (.ok (false, ρ)) u w = w ρ := rfl
@[simp] theorem isOl_l {l : List Dt} : isOl (some (some (.o (.l l)))) = true := rfl
theorem callM_ok {n : Nat} {ms is : List Nat} {m : List Sv → Rz (Sv × List Sv)} {as : List Ag} {ρ : En} {ss : List Sv} {x : Sv} {os : List Sv} (h1 : evAM as ρ = .ok ss) (h2 : ss.length = n ∧ okAM [] ms as ρ = true ∧ datAM as ss = true ∧ ms.map (slotOf as) = is.map some) (h3 : m ss = .ok (x, os)) :
    xCallM [] n ms is m as ρ = .ok (x, storeO ρ is os) := by
  unfold xCallM
  rw [h1]
  show (if ss.length = n ∧ okAM [] ms as ρ = true ∧ datAM as ss = true ∧ ms.map (slotOf as) = is.map some then _ else _) = _
  rw [if_pos h2, h3]
/-- d[k] = e -/
def ddO (x : Option (Option Sl)) (s t : Rz Sv) (i : Nat) (ρ : En) : Out := match x with
  | some (some (.o (.d kvs))) => ofR s ρ fun s => ofR t ρ fun t => match s, t with
    | .p y, .p (.tup l) => match keysOf l with
      | some ks => if kvs.length < 1000000 then .nx (ρ.set i (some (.o (.d (dput kvs ks y))))) else .stuck
      | none => .stuck
    | _, _ => .stuck
  | _ => .stuck
theorem ev_dpt {i : Nat} {k x : XE} {ρ : En} : sDput i k x ρ = ddO ρ[i]? (x ρ) (k ρ) i ρ := rfl
def roO (x : Option (Option Sl)) (ρ : En) : Out := match x with
  | some (some (.o s)) => .rt s ρ
  | _ => .stuck
theorem ev_rtO {i : Nat} {ρ : En} : sRetO i ρ = roO ρ[i]? ρ := rfl
@[simp] theorem ro_ok {s : Sv} {ρ : En} : roO (some (some (.o s))) ρ = .rt s ρ := rfl
def svI (x : Option (Option Sl)) : Rz (List Dt) := match x with
  | some (some (.v (.l xs))) => .ok xs
  | some (some (.v (.p (.tup xs)))) => .ok xs
  | some (some (.o (.p (.tup xs)))) => .ok xs
  | _ => .stuck
theorem ev_srcV0 {a : Option Sl} {r : En} : srcV 0 (a :: r) = svI (some a) := rfl
theorem ev_srcVS {i : Nat} {a : Option Sl} {r : En} : srcV (i + 1) (a :: r) = srcV i r := rfl
@[simp] theorem svI_l {xs : List Dt} : svI (some (some (.v (.l xs)))) = .ok xs := rfl
@[simp] theorem svI_t {xs : List Dt} : svI (some (some (.v (.p (.tup xs))))) = .ok xs := rfl
theorem ev_srcT {x : XE} {ρ : En} : srcT x ρ = r1 tupI (x ρ) := rfl
@[simp] theorem tupI_t {l : List Dt} : tupI (.p (.tup l)) = .ok l := rfl
def aqO (x : Option (Option Sl)) (r : Rz Sv) (i : Nat) (ρ : En) : Out := match x with
  | some (some (.o (.l l))) => ofR r ρ fun s => match s with
    | .p y => if l.length < 1000000 then .nx (ρ.set i (some (.o (.l (l ++ [y]))))) else .stuck
    | _ => .stuck
  | _ => .stuck
theorem ev_app {i : Nat} {x : XE} {ρ : En} : sApp i x ρ = aqO ρ[i]? (x ρ) i ρ := rfl
theorem aq_ok {l : List Dt} {y : Dt} {i : Nat} {ρ : En} (h : l.length < 1000000) : aqO (some (some (.o (.l l)))) (.ok (.p y)) i ρ = .nx (ρ.set i (some (.o (.l (l ++ [y]))))) := if_pos h
def stO (x : Option (Option Sl)) (r k : Rz Sv) (i : Nat) (ρ : En) : Out := match x with
  | some (some (.o (.l l))) => ofR r ρ fun s => ofR k ρ fun t => match s, t with
    | .p y, .p (.int j) => match ixN l.length j with
      | some m => .nx (ρ.set i (some (.o (.l (l.set m y)))))
      | none => .stuck
    | _, _ => .stuck
  | _ => .stuck
theorem ev_set {i : Nat} {k x : XE} {ρ : En} : sSetL i k x ρ = stO ρ[i]? (x ρ) (k ρ) i ρ := rfl
theorem ixN_nat {n : Nat} {i : Int} (h : 0 ≤ i) (h2 : i < n) : ixN n i = some i.toNat := by
  unfold ixN
  rw [if_pos h, if_pos h2]
theorem stO_ok {l : List Dt} {y : Dt} {i : Nat} {j : Int} {ρ : En} (h : 0 ≤ j) (h2 : j < l.length) : stO (some (some (.o (.l l)))) (.ok (.p y)) (.ok (.p (.int j))) i ρ = .nx (ρ.set i (some (.o (.l (l.set j.toNat y))))) := by
  show (match ixN l.length j with
    | some m => Out.nx (ρ.set i (some (.o (.l (l.set m y)))))
    | none => .stuck) = _
  rw [ixN_nat h h2]
def auO (x : Option (Option Sl)) (r : Rz Sv) (i : Nat) (ρ : En) : Out := match x with
  | some (some sl) => ofR r ρ fun t => match sl.s, t with
    | .p (.int a), .p (.int b) => .nx (setV i (.int (a + b)) ρ)
    | _, _ => .stuck
  | _ => .stuck
theorem ev_aug {i : Nat} {x : XE} {ρ : En} : sAug i x ρ = auO ρ[i]? (x ρ) i ρ := rfl
@[simp] theorem au_ok {a b : Int} {i : Nat} {ρ : En} : auO (some (some (.v (.p (.int a))))) (.ok (.p (.int b))) i ρ = .nx (setV i (.int (a + b)) ρ) := rfl
theorem ev_slc {f : Sv → Option Int → Option Int → Rz Sv} {x : XE} {lo hi : XO} {ρ : En} : xSl f x lo hi ρ = (x ρ).bind fun s => (lo ρ).bind fun l => (hi ρ).bind fun u => f s l u := rfl
theorem ev_sl0 {ρ : En} : oNo ρ = .ok none := rfl
theorem ev_sl1 {x : XE} {ρ : En} : oAt x ρ = (x ρ).bind intO := rfl
theorem seq_nx {u w : XS} {ρ ρ' : En} (h : u ρ = .nx ρ') : sSeq u w ρ = w ρ' := by
  unfold sSeq
  rw [h]
theorem seq_rt {u w : XS} {ρ ρ' : En} {s : Sv} (h : u ρ = .rt s ρ') : sSeq u w ρ = .rt s ρ' := by
  unfold sSeq
  rw [h]
@[simp] theorem oM_rt {ms : List Nat} {s : Sv} {ρ : En} {os : List Sv} (h : takeO ρ ms = some os) : outM ms (.rt s ρ) = .ok (s, os) := by
  show (match takeO ρ ms with
    | some os => Rz.ok (s, os)
    | none => .stuck) = _
  rw [h]
theorem oM_nx {ms : List Nat} {ρ : En} {os : List Sv} (h : takeO ρ ms = some os) : outM ms (.nx ρ) = .ok (.p .non, os) := by
  show (match takeO ρ ms with
    | some os => Rz.ok (Sv.p .non, os)
    | none => .stuck) = _
  rw [h]
end Fw
namespace Ma
open PySem L2 Fw
/-! ### dicts by pointers -/
def keyV : Vl → List Key
  | .non => [.inl 0]
  | .int i => [.inl 1, .inl i]
  | .ptr y k => [.inr (wd y), .inl k]
theorem wd_inj {a b : Bool} (h : wd a = wd b) : a = b := by
  have h1 := wd_y a
  have h2 := wd_y b
  rw [h, h2] at h1
  exact h1.symm
theorem keyV_inj {v w : Vl} (h : keyV v = keyV w) : v = w := by
  cases v <;> cases w <;> simp [keyV] at h <;> try rfl
  · exact congrArg _ h
  · obtain ⟨h1, h2⟩ := h
    rw [wd_inj h1, h2]
/-- a list of pairs, asked for the first of a kind -/
def lk {β : Type} : List (Vl × β) → Vl → Option β
  | [], _ => none
  | p :: r, v => if p.1 = v then some p.2 else lk r v
def pt {β : Type} (l : List (Vl × β)) (v : Vl) (x : β) : List (Vl × β) := if (lk l v).isSome = true then l.map (fun p => if p.1 = v then (p.1, x) else p) else l ++ [(v, x)]
def mpD {β : Type} (f : β → Dt) (l : List (Vl × β)) : List (List Key × Dt) := l.map fun p => (keyV p.1, f p.2)
theorem dval_mp {β : Type} {f : β → Dt} {v : Vl} : ∀ {l : List (Vl × β)}, dval (mpD f l) (keyV v) = (lk l v).map f
  | [] => rfl
  | p :: r => by
    show (if keyV p.1 = keyV v then some (f p.2) else dval (mpD f r) (keyV v)) = _
    by_cases h : p.1 = v
    · rw [if_pos (by rw [h])]
      show _ = (if p.1 = v then some p.2 else lk r v).map f
      rw [if_pos h]
      rfl
    · rw [if_neg fun z => h (keyV_inj z), dval_mp]
      show _ = (if p.1 = v then some p.2 else lk r v).map f
      rw [if_neg h]
theorem dput_mp {β : Type} {f : β → Dt} {v : Vl} {x : β} {l : List (Vl × β)} : dput (mpD f l) (keyV v) (f x) = mpD f (pt l v x) := by
  unfold dput pt
  rw [dval_mp, Option.isSome_map]
  split
  · unfold mpD
    rw [List.map_map, List.map_map]
    congr 1
    funext p
    show (if keyV p.1 = keyV v then (keyV p.1, f x) else (keyV p.1, f p.2)) = _
    by_cases h : p.1 = v
    · rw [if_pos (by rw [h])]
      show _ = (keyV (if p.1 = v then (p.1, x) else p).1, f (if p.1 = v then (p.1, x) else p).2)
      rw [if_pos h]
    · rw [if_neg fun z => h (keyV_inj z)]
      show _ = (keyV (if p.1 = v then (p.1, x) else p).1, f (if p.1 = v then (p.1, x) else p).2)
      rw [if_neg h]
  · unfold mpD
    rw [List.map_append]
    rfl
theorem pt_new {β : Type} {l : List (Vl × β)} {v : Vl} {x : β} (h : lk l v = none) : pt l v x = l ++ [(v, x)] := by
  unfold pt
  rw [h]
  rfl
theorem lk_app {β : Type} {v : Vl} : ∀ {l m : List (Vl × β)}, lk (l ++ m) v = (lk l v).or (lk m v)
  | [], m => by simp [lk]
  | p :: r, m => by
    show (if p.1 = v then some p.2 else lk (r ++ m) v) = (if p.1 = v then some p.2 else lk r v).or _
    split
    · rfl
    · exact lk_app
theorem keysOf_ptr (y : Bool) (k : Int) : keysOf [.str (wd y), .int k] = some (keyV (.ptr y k)) := rfl
def isP' : Vl → Bool
  | .ptr _ _ => true
  | _ => false
theorem din_mp {β : Type} {f : β → Dt} (neg : Bool) (v : Vl) (l : List (Vl × β)) (h : isP' v = false → lk l v = none) : dinD neg (.p (enc v)) (.d (mpD f l)) = .ok (.p (.bl (if neg = true then !(lk l v).isSome else (lk l v).isSome))) := by
  cases v with
  | non =>
    rw [h rfl]
    cases neg <;> rfl
  | int i =>
    rw [h rfl]
    cases neg <;> rfl
  | ptr y k =>
    show Rz.ok (Sv.p (.bl (if neg = true then !(dval (mpD f l) (keyV (.ptr y k))).isSome else (dval (mpD f l) (keyV (.ptr y k))).isSome))) = _
    rw [dval_mp, Option.isSome_map]
theorem dix_mp {β : Type} {f : β → Dt} {y : Bool} {k : Int} {l : List (Vl × β)} {x : β} (h : lk l (.ptr y k) = some x) : dixD (.d (mpD f l)) (.p (enc (.ptr y k))) = .ok (.p (f x)) := by
  show (match dval (mpD f l) (keyV (.ptr y k)) with
    | some x => Rz.ok (Sv.p x)
    | none => .stuck) = _
  rw [dval_mp, h]
  rfl
theorem mpD_len {β : Type} {f : β → Dt} {l : List (Vl × β)} : (mpD f l).length = l.length := List.length_map _
theorem ddO_ok {β : Type} {f : β → Dt} {l : List (Vl × β)} {y : Bool} {k : Int} {x : β} {i : Nat} {ρ : En} (hl : l.length < 1000000) : ddO (some (some (.o (.d (mpD f l))))) (.ok (.p (f x))) (.ok (.p (enc (.ptr y k)))) i ρ = .nx (ρ.set i (some (.o (.d (mpD f (pt l (.ptr y k) x)))))) := by
  show (if (mpD f l).length < 1000000 then Out.nx (ρ.set i (some (.o (.d (dput (mpD f l) (keyV (.ptr y k)) (f x)))))) else .stuck) = _
  rw [if_pos (by rw [mpD_len]; exact hl), dput_mp]
/-- now.get(value, value) -/
theorem dget_mp {β : Type} {f : β → Dt} {l : List (Vl × β)} {v : Vl} {z : Dt} (h : isP' v = false → lk l v = none) : dgetD (mpD f l) (.p (enc v)) (.p z) = .ok (.p (((lk l v).map f).getD z)) := by
  cases v with
  | non =>
    rw [h rfl]
    rfl
  | int i =>
    rw [h rfl]
    rfl
  | ptr y k =>
    show Rz.ok (Sv.p ((dval (mpD f l) (keyV (.ptr y k))).getD z)) = _
    rw [dval_mp]
end Ma

/-! What is come to: plain lists of pointers. -/
namespace Kp
open PySem L2 Fw Ma
structure So (h : Hq) : Prop where
  ly : h.young.length ≤ 2000
  lo : h.old.length ≤ 2000
  lr : h.roots.length ≤ 200
  fy : ∀ t ∈ h.young, t.fs.length ≤ 200
  fo : ∀ t ∈ h.old, t.fs.length ≤ 200
  vy : ∀ t ∈ h.young, ∀ v ∈ t.fs, vOk h.young.length h.old.length v
  vo : ∀ t ∈ h.old, ∀ v ∈ t.fs, vOk h.young.length h.old.length v
  vr : ∀ v ∈ h.roots, vOk h.young.length h.old.length v
  bk : h.book = bookFrom 0 h.old
theorem Gd.so {h : Hq} (G : Gd h) : So h := by
  have l1 := G.ly
  have l2 := G.lo
  have l3 := G.lr
  refine ⟨by omega, by omega, by omega, fun t ht => ?_, fun t ht => ?_, G.vy, G.vo, G.vr, G.bk⟩
  · have := G.fy t ht
    omega
  · have := G.fo t ht
    omega
/-- the values to which a value's thing leads -/
def kids (h : Hq) (v : Vl) : List Vl := match led h v with
  | some t => t.fs
  | none => []
theorem vOk_led {h : Hq} {v : Vl} (g : vOk h.young.length h.old.length v) (p : isP' v = true) : (led h v).isSome = true := by
  cases v with
  | non => cases p
  | int i => cases p
  | ptr y k =>
    cases y
    · obtain ⟨t, e, _⟩ := led_yes (h := h) (y := false) g.1 g.2
      rw [e]
      rfl
    · obtain ⟨t, e, _⟩ := led_yes (h := h) (y := true) g.1 g.2
      rw [e]
      rfl
theorem led_mem {h : Hq} {v : Vl} {t : Th} (g : led h v = some t) : (∃ k, v = .ptr true k ∧ t ∈ h.young) ∨ ∃ k, v = .ptr false k ∧ t ∈ h.old := by
  obtain ⟨y, k, rfl, h0, ht⟩ := led_ptr g
  cases y
  · exact .inr ⟨k, rfl, List.mem_of_getElem? ht⟩
  · exact .inl ⟨k, rfl, List.mem_of_getElem? ht⟩
theorem So.vk {h : Hq} (G : So h) {u v : Vl} (m : v ∈ kids h u) : vOk h.young.length h.old.length v := by
  unfold kids at m
  cases e : led h u with
  | none => rw [e] at m; cases m
  | some t =>
    rw [e] at m
    rcases led_mem e with ⟨k, _, ht⟩ | ⟨k, _, ht⟩
    · exact G.vy t ht v m
    · exact G.vo t ht v m
theorem So.fk {h : Hq} (G : So h) (u : Vl) : (kids h u).length ≤ 200 := by
  unfold kids
  cases e : led h u with
  | none => exact Nat.zero_le _
  | some t =>
    rcases led_mem e with ⟨k, _, ht⟩ | ⟨k, _, ht⟩
    · exact G.fy t ht
    · exact G.fo t ht
/-- those that are new, in order -/
def newF (p : Vl → Bool) : List Vl → List Vl → List Vl
  | _, [] => []
  | kn, v :: vs => if isP' v = true ∧ p v = true ∧ v ∉ kn then v :: newF p (kn ++ [v]) vs else newF p kn vs
theorem newF_yes {p : Vl → Bool} {kn vs : List Vl} {v : Vl} (h : isP' v = true ∧ p v = true ∧ v ∉ kn) : newF p kn (v :: vs) = v :: newF p (kn ++ [v]) vs := if_pos h
theorem newF_no {p : Vl → Bool} {kn vs : List Vl} {v : Vl} (h : ¬ (isP' v = true ∧ p v = true ∧ v ∉ kn)) : newF p kn (v :: vs) = newF p kn vs := if_neg h
theorem newF_len {p : Vl → Bool} : ∀ {vs kn : List Vl}, (newF p kn vs).length ≤ vs.length
  | [], kn => Nat.le_refl _
  | v :: vs, kn => by
    by_cases c : isP' v = true ∧ p v = true ∧ v ∉ kn
    · rw [newF_yes c]
      exact Nat.succ_le_succ newF_len
    · rw [newF_no c]
      exact Nat.le_succ_of_le newF_len
theorem newF_mem {p : Vl → Bool} {u : Vl} : ∀ {vs kn : List Vl}, u ∈ newF p kn vs → u ∈ vs ∧ isP' u = true ∧ p u = true ∧ u ∉ kn
  | [], kn, m => by cases m
  | v :: vs, kn, m => by
    by_cases c : isP' v = true ∧ p v = true ∧ v ∉ kn
    · rw [newF_yes c] at m
      rcases List.mem_cons.mp m with rfl | m
      · exact ⟨List.mem_cons_self, c⟩
      · obtain ⟨h1, h2, h3, h4⟩ := newF_mem m
        exact ⟨List.mem_cons_of_mem _ h1, h2, h3, fun z => h4 (List.mem_append_left _ z)⟩
    · rw [newF_no c] at m
      obtain ⟨h1, h2⟩ := newF_mem m
      exact ⟨List.mem_cons_of_mem _ h1, h2⟩
theorem newF_all {p : Vl → Bool} {u : Vl} : ∀ {vs kn : List Vl}, u ∈ vs → isP' u = true → p u = true → u ∈ kn ∨ u ∈ newF p kn vs
  | [], kn, m, _, _ => by cases m
  | v :: vs, kn, m, h1, h2 => by
    by_cases c : isP' v = true ∧ p v = true ∧ v ∉ kn
    · rw [newF_yes c]
      rcases List.mem_cons.mp m with rfl | m
      · exact .inr List.mem_cons_self
      · rcases newF_all (kn := kn ++ [v]) m h1 h2 with z | z
        · rcases List.mem_append.mp z with z | z
          · exact .inl z
          · rw [List.mem_singleton.mp z]
            exact .inr List.mem_cons_self
        · exact .inr (List.mem_cons_of_mem _ z)
    · rw [newF_no c]
      rcases List.mem_cons.mp m with rfl | m
      · by_cases k : u ∈ kn
        · exact .inl k
        · exact absurd ⟨h1, h2, k⟩ c
      · exact newF_all m h1 h2
theorem newF_nodup {p : Vl → Bool} : ∀ {vs kn : List Vl}, kn.Nodup → (kn ++ newF p kn vs).Nodup
  | [], kn, h => by
    show (kn ++ []).Nodup
    rw [List.append_nil]
    exact h
  | v :: vs, kn, h => by
    by_cases c : isP' v = true ∧ p v = true ∧ v ∉ kn
    · rw [newF_yes c]
      have h2 : (kn ++ [v]).Nodup := List.nodup_append.mpr ⟨h, by simp, fun a ha b hb => by rw [List.mem_singleton.mp hb]; exact fun z => c.2.2 (z ▸ ha)⟩
      have := newF_nodup (p := p) (vs := vs) h2
      rw [List.append_assoc] at this
      exact this
    · rw [newF_no c]
      exact newF_nodup h
/-- all that is met, broad first -/
def bfs (h : Hq) (p : Vl → Bool) : Nat → Nat → List Vl → List Vl
  | 0, _, o => o
  | n + 1, i, o => match o[i]? with
    | some v => bfs h p n (i + 1) (o ++ newF p o (kids h v))
    | none => o
def many (h : Hq) : Nat := h.young.length + h.old.length
def metL (h : Hq) (p : Vl → Bool) (firsts : List Vl) : List Vl := bfs h p (many h + 1) 0 (newF p [] firsts)
/-- what one comes to from S by things that p takes -/
inductive Rch (h : Hq) (p : Vl → Bool) (S : List Vl) : Vl → Prop
  | base {v : Vl} : v ∈ S → isP' v = true → p v = true → Rch h p S v
  | step {u v : Vl} : Rch h p S u → v ∈ kids h u → isP' v = true → p v = true → Rch h p S v
theorem Rch.p {h : Hq} {p : Vl → Bool} {S : List Vl} {v : Vl} (r : Rch h p S v) : isP' v = true ∧ p v = true := by
  cases r with
  | base _ h1 h2 => exact ⟨h1, h2⟩
  | step _ _ h1 h2 => exact ⟨h1, h2⟩
theorem Rch.ok {h : Hq} (G : So h) {p : Vl → Bool} {S : List Vl} (hS : ∀ v ∈ S, vOk h.young.length h.old.length v) {v : Vl} (r : Rch h p S v) : vOk h.young.length h.old.length v := by
  cases r with
  | base m _ _ => exact hS v m
  | step _ m _ _ => exact G.vk m
/-- a place for each thing -/
def num (h : Hq) : Vl → Nat
  | .ptr true k => k.toNat
  | .ptr false k => h.young.length + k.toNat
  | _ => 0
theorem num_lt {h : Hq} {v : Vl} (g : vOk h.young.length h.old.length v) (p : isP' v = true) : num h v < many h := by
  cases v with
  | non => cases p
  | int i => cases p
  | ptr y k =>
    unfold many
    cases y
    · obtain ⟨h0, h1⟩ : 0 ≤ k ∧ k < h.old.length := g
      show h.young.length + k.toNat < _
      omega
    · obtain ⟨h0, h1⟩ : 0 ≤ k ∧ k < h.young.length := g
      show k.toNat < _
      omega
theorem num_inj {h : Hq} {u v : Vl} (gu : vOk h.young.length h.old.length u) (pu : isP' u = true) (gv : vOk h.young.length h.old.length v) (pv : isP' v = true) (e : num h u = num h v) : u = v := by
  cases u with
  | non => cases pu
  | int i => cases pu
  | ptr y k =>
    cases v with
    | non => cases pv
    | int i => cases pv
    | ptr z j =>
      cases y <;> cases z <;> simp only [num] at e <;> obtain ⟨a0, a1⟩ := (show 0 ≤ k ∧ _ from gu) <;> obtain ⟨b0, b1⟩ := (show 0 ≤ j ∧ _ from gv)
      · congr 1
        omega
      · omega
      · omega
      · congr 1
        omega
theorem few {h : Hq} {o : List Vl} (nd : o.Nodup) (g : ∀ v ∈ o, vOk h.young.length h.old.length v ∧ isP' v = true) : o.length ≤ many h := by
  have h1 : (o.map (num h)).Nodup := by
    refine List.pairwise_map.mpr (List.Pairwise.imp_of_mem (fun {a b} ha hb ne e => ne ?_) nd)
    exact num_inj (g a ha).1 (g a ha).2 (g b hb).1 (g b hb).2 e
  have h2 := List.Nodup.length_le_of_subset h1 (l₂ := List.range (many h)) fun n hn => ?_
  · simpa using h2
  · obtain ⟨v, hv, rfl⟩ := List.mem_map.mp hn
    exact List.mem_range.mpr (num_lt (g v hv).1 (g v hv).2)
/-- what is met is what one comes to -/
structure Met (h : Hq) (p : Vl → Bool) (S o : List Vl) : Prop where
  nd : o.Nodup
  mem : ∀ v, v ∈ o ↔ Rch h p S v
/-- .. on the way -/
structure Way (h : Hq) (p : Vl → Bool) (S : List Vl) (i : Nat) (o : List Vl) : Prop where
  nd : o.Nodup
  rch : ∀ v ∈ o, Rch h p S v
  firsts : ∀ v ∈ S, isP' v = true → p v = true → v ∈ o
  closed : ∀ j u, j < i → o[j]? = some u → ∀ v ∈ kids h u, isP' v = true → p v = true → v ∈ o
  le : i ≤ o.length
theorem Way.few {h : Hq} (G : So h) {p : Vl → Bool} {S : List Vl} (hS : ∀ v ∈ S, vOk h.young.length h.old.length v) {i : Nat} {o : List Vl} (w : Way h p S i o) : o.length ≤ many h := Kp.few w.nd fun v hv => ⟨(w.rch v hv).ok G hS, (w.rch v hv).p.1⟩
theorem Way.met {h : Hq} {p : Vl → Bool} {S : List Vl} {o : List Vl} (w : Way h p S o.length o) : Met h p S o := ⟨w.nd, fun v => ⟨w.rch v, fun r => by
  induction r with
  | base m h1 h2 => exact w.firsts _ m h1 h2
  | step r m h1 h2 ih =>
    obtain ⟨j, hj⟩ := List.mem_iff_getElem?.mp ih
    exact w.closed j _ (List.getElem?_eq_some_iff.mp hj).1 hj _ m h1 h2⟩⟩
theorem Way.start (h : Hq) (p : Vl → Bool) (S : List Vl) : Way h p S 0 (newF p [] S) := by
  refine ⟨by simpa using newF_nodup (p := p) (vs := S) (kn := []) List.nodup_nil, fun v m => ?_, fun v m h1 h2 => ?_, fun j u hj => absurd hj (by omega), Nat.zero_le _⟩
  · obtain ⟨h1, h2, h3, _⟩ := newF_mem m
    exact .base h1 h2 h3
  · rcases newF_all (kn := []) m h1 h2 with z | z
    · cases z
    · exact z
theorem Way.next {h : Hq} {p : Vl → Bool} {S : List Vl} {i : Nat} {o : List Vl} {v : Vl} (w : Way h p S i o) (e : o[i]? = some v) : Way h p S (i + 1) (o ++ newF p o (kids h v)) := by
  have lt := (List.getElem?_eq_some_iff.mp e).1
  refine ⟨newF_nodup w.nd, fun u m => ?_, fun u m h1 h2 => List.mem_append_left _ (w.firsts u m h1 h2), fun j u hj hu x m h1 h2 => ?_, by rw [List.length_append]; omega⟩
  · rcases List.mem_append.mp m with m | m
    · exact w.rch u m
    · obtain ⟨h1, h2, h3, _⟩ := newF_mem m
      exact .step (w.rch v (List.mem_of_getElem? e)) h1 h2 h3
  · rw [List.getElem?_append_left (by omega)] at hu
    by_cases hji : j = i
    · rw [hji, e] at hu
      cases hu
      rcases newF_all (kn := o) m h1 h2 with z | z
      · exact List.mem_append_left _ z
      · exact List.mem_append_right _ z
    · exact List.mem_append_left _ (w.closed j u (by omega) hu x m h1 h2)
theorem bfs_way {h : Hq} (G : So h) {p : Vl → Bool} {S : List Vl} (hS : ∀ v ∈ S, vOk h.young.length h.old.length v) : ∀ (n i : Nat) (o : List Vl), Way h p S i o → many h < n + i → Way h p S (bfs h p n i o).length (bfs h p n i o)
  | 0, i, o, w, hn => by
    have := w.few G hS
    have := w.le
    omega
  | n + 1, i, o, w, hn => by
    unfold bfs
    cases e : o[i]? with
    | none =>
      have h1 := List.getElem?_eq_none_iff.mp e
      have h2 := w.le
      have h3 : i = o.length := by omega
      subst h3
      exact w
    | some v => exact bfs_way G hS n (i + 1) _ (w.next e) (by omega)
theorem metL_met {h : Hq} (G : So h) {p : Vl → Bool} {S : List Vl} (hS : ∀ v ∈ S, vOk h.young.length h.old.length v) : Met h p S (metL h p S) := (bfs_way G hS (many h + 1) 0 _ (Way.start h p S) (by omega)).met
theorem Met.few {h : Hq} (G : So h) {p : Vl → Bool} {S o : List Vl} (hS : ∀ v ∈ S, vOk h.young.length h.old.length v) (m : Met h p S o) : o.length ≤ many h := Kp.few m.nd fun v hv => ⟨((m.mem v).mp hv).ok G hS, ((m.mem v).mp hv).p.1⟩
end Kp

namespace Kp
open PySem L2 Fw Ma
/-- pointers as a dict's keys -/
def knP (kn : List Vl) : List (Vl × Bool) := kn.map fun v => (v, true)
abbrev knD (kn : List Vl) : List (List Key × Dt) := mpD Dt.bl (knP kn)
theorem lk_kn {v : Vl} : ∀ {kn : List Vl}, (lk (knP kn) v).isSome = decide (v ∈ kn)
  | [] => rfl
  | u :: r => by
    show (if u = v then some true else lk (knP r) v).isSome = _
    by_cases h : u = v
    · rw [if_pos h]
      simp [h]
    · have h2 : ¬ v = u := fun z => h z.symm
      rw [if_neg h, lk_kn]
      simp [h2]
theorem lk_kn_no {kn : List Vl} {v : Vl} (h : v ∉ kn) : lk (knP kn) v = none := by
  have := lk_kn (v := v) (kn := kn)
  cases e : lk (knP kn) v with
  | none => rfl
  | some x =>
    rw [e] at this
    simp [h] at this
theorem kn_pt {kn : List Vl} {v : Vl} (h : v ∉ kn) : pt (knP kn) v true = knP (kn ++ [v]) := by
  rw [pt_new (lk_kn_no h)]
  unfold knP
  rw [List.map_append]
  rfl
theorem din_kn (neg : Bool) (v : Vl) (kn : List Vl) (hk : ∀ u ∈ kn, isP' u = true) : dinD neg (.p (enc v)) (.d (knD kn)) = .ok (.p (.bl (if neg = true then !decide (v ∈ kn) else decide (v ∈ kn)))) := by
  have hn : isP' v = false → lk (knP kn) v = none := fun z => lk_kn_no fun m => by
    rw [hk v m] at z
    cases z
  rw [din_mp neg v (knP kn) hn, lk_kn]
theorem isT_enc' (v : Vl) : isD "tuple" (.p (enc v)) = .ok (.p (.bl (isP' v))) := by cases v <;> rfl
theorem knP_len {kn : List Vl} : (knP kn).length = kn.length := List.length_map _
/-! fresh -/
abbrev yes : Vl → Bool := fun _ => true
def frB : XS := (sIf (xAnd (xTst blB (xB (dinD true) (xVar 3) (xVar 1))) (xTst blB (xU (isD "tuple") (xVar 3)))) (sSeq (sDput 1 (xVar 3) (xC (.bl true))) (sApp 2 (xVar 3))) sNil)
theorem frB_ok (a0 : Option Sl) (kn acc : List Vl) (v : Vl) (hk : ∀ u ∈ kn, isP' u = true) (h1 : kn.length < 500000) (h2 : acc.length < 500000) :
    frB [a0, some (.o (.d (knD kn))), some (.o (.l (acc.map enc))), some (.v (.p (enc v)))] =
      if isP' v = true ∧ yes v = true ∧ v ∉ kn then .nx [a0, some (.o (.d (knD (kn ++ [v])))), some (.o (.l ((acc ++ [v]).map enc))), some (.v (.p (enc v)))] else .nx [a0, some (.o (.d (knD kn))), some (.o (.l (acc.map enc))), some (.v (.p (enc v)))] := by
  have e := din_kn true v kn hk
  have e2 := isT_enc' v
  unfold frB
  by_cases g : v ∈ kn
  · rw [if_neg fun z => z.2.2 g]
    simp [run_1, run_2, run_3, run_4, run_5, ev_C, ev_U, ev_B, ev_nil, ev_cons, ev_L, ev_tst, ev_and, ev_or, ev_not, ev_V, ev_if, ev_ch, ev_var0, ev_varS, ev_seq, ev_sif, ev_asg, ev_new, ev_unp, ev_ret, ev_retF, ev_drop, ev_snil, ev_raise, ev_for, sv_0, sv_S, setVs, op_mul_i, op_mod_i, op_div_i, op_p60, ev_whl, ev_nwM, ev_agM, ev_unM, ev_exM, ev_apM, ev_drM, ev_rtM, ev_ifM, ev_tM, ev_nM, ev_dpt, ev_rtO, ev_srcV0, ev_srcVS, ev_srcT, ev_app, ev_set, ev_aug, ev_slc, ev_sl0, ev_sl1, e, g]
  · by_cases p : isP' v = true
    · rw [if_pos ⟨p, rfl, g⟩]
      cases v with
      | non => cases p
      | int i => cases p
      | ptr y k =>
        have e3 : ddO (some (some (.o (.d (knD kn))))) (.ok (.p (.bl true))) (.ok (.p (enc (.ptr y k)))) 1 [a0, some (.o (.d (knD kn))), some (.o (.l (acc.map enc))), some (.v (.p (enc (.ptr y k))))] = .nx [a0, some (.o (.d (knD (kn ++ [.ptr y k])))), some (.o (.l (acc.map enc))), some (.v (.p (enc (.ptr y k))))] := by
          rw [ddO_ok (f := Dt.bl) (l := knP kn) (x := true) (by rw [knP_len]; omega), kn_pt g]
          rfl
        simp [run_1, run_2, run_3, run_4, run_5, ev_C, ev_U, ev_B, ev_nil, ev_cons, ev_L, ev_tst, ev_and, ev_or, ev_not, ev_V, ev_if, ev_ch, ev_var0, ev_varS, ev_seq, ev_sif, ev_asg, ev_new, ev_unp, ev_ret, ev_retF, ev_drop, ev_snil, ev_raise, ev_for, sv_0, sv_S, setVs, op_mul_i, op_mod_i, op_div_i, op_p60, ev_whl, ev_nwM, ev_agM, ev_unM, ev_exM, ev_apM, ev_drM, ev_rtM, ev_ifM, ev_tM, ev_nM, ev_dpt, ev_rtO, ev_srcV0, ev_srcVS, ev_srcT, ev_app, ev_set, ev_aug, ev_slc, ev_sl0, ev_sl1, e, e2, g, p, e3, aq_ok (show (acc.map enc).length < 1000000 by simp; omega)]
    · rw [if_neg fun z => p z.1]
      have p : isP' v = false := by simpa using p
      simp [run_1, run_2, run_3, run_4, run_5, ev_C, ev_U, ev_B, ev_nil, ev_cons, ev_L, ev_tst, ev_and, ev_or, ev_not, ev_V, ev_if, ev_ch, ev_var0, ev_varS, ev_seq, ev_sif, ev_asg, ev_new, ev_unp, ev_ret, ev_retF, ev_drop, ev_snil, ev_raise, ev_for, sv_0, sv_S, setVs, op_mul_i, op_mod_i, op_div_i, op_p60, ev_whl, ev_nwM, ev_agM, ev_unM, ev_exM, ev_apM, ev_drM, ev_rtM, ev_ifM, ev_tM, ev_nM, ev_dpt, ev_rtO, ev_srcV0, ev_srcVS, ev_srcT, ev_app, ev_set, ev_aug, ev_slc, ev_sl0, ev_sl1, e, e2, g, p]
theorem fresh_loop (a0 : Option Sl) : ∀ (vs kn acc : List Vl) (x3 : Option Sl), (∀ u ∈ kn, isP' u = true) → kn.length + vs.length < 500000 → acc.length + vs.length < 500000 →
    ∃ y, forD (tgN 3) frB (vs.map enc) [a0, some (.o (.d (knD kn))), some (.o (.l (acc.map enc))), x3] = .nx [a0, some (.o (.d (knD (kn ++ newF yes kn vs)))), some (.o (.l ((acc ++ newF yes kn vs).map enc))), y]
  | [], kn, acc, x3, _, _, _ => ⟨x3, by simp [forD, newF]⟩
  | v :: vs, kn, acc, x3, hk, h1, h2 => by
    have eB := frB_ok a0 kn acc v hk (by simp at h1; omega) (by simp at h2; omega)
    simp only [List.length_cons] at h1 h2
    by_cases c : isP' v = true ∧ yes v = true ∧ v ∉ kn
    · rw [if_pos c] at eB
      obtain ⟨y, e⟩ := fresh_loop a0 vs (kn ++ [v]) (acc ++ [v]) (some (.v (.p (enc v)))) (fun u hu => by
        rcases List.mem_append.mp hu with hu | hu
        · exact hk u hu
        · rw [List.mem_singleton.mp hu]
          exact c.1) (by rw [List.length_append, List.length_singleton]; omega) (by rw [List.length_append, List.length_singleton]; omega)
      refine ⟨y, ?_⟩
      rw [List.map_cons, forD_c' (show tgN 3 (enc v) [a0, some (.o (.d (knD kn))), some (.o (.l (acc.map enc))), x3] = .ok [a0, some (.o (.d (knD kn))), some (.o (.l (acc.map enc))), some (.v (.p (enc v)))] from rfl) eB, e, newF_yes c]
      simp
    · rw [if_neg c] at eB
      obtain ⟨y, e⟩ := fresh_loop a0 vs kn acc (some (.v (.p (enc v)))) hk (by omega) (by omega)
      refine ⟨y, ?_⟩
      rw [List.map_cons, forD_c' (show tgN 3 (enc v) [a0, some (.o (.d (knD kn))), some (.o (.l (acc.map enc))), x3] = .ok [a0, some (.o (.d (knD kn))), some (.o (.l (acc.map enc))), some (.v (.p (enc v)))] from rfl) eB, e, newF_no c]
theorem fresh_of (s : Sv) (vs kn : List Vl) (hs : s = .p (.tup (vs.map enc)) ∨ s = .l (vs.map enc)) (hk : ∀ u ∈ kn, isP' u = true) (h1 : kn.length + vs.length < 500000) : mfresh [s, .d (knD kn)] = .ok (.l ((newF yes kn vs).map enc), [.d (knD (kn ++ newF yes kn vs))]) := by
  obtain ⟨y, e⟩ := fresh_loop (some (.v s)) vs kn [] none hk h1 (by simp; omega)
  have es : svI (some (some (.v s))) = .ok (vs.map enc) := by rcases hs with rfl | rfl <;> rfl
  show outM [1] _ = _
  have e1 : (sSeq (sNew true 2 (xL lstD xNil)) (sSeq (sFor (srcV 0) (tgN 3) frB) (sRetO 2))) [some (.v s), some (.o (.d (knD kn))), none, none] = .rt (.l ((newF yes kn vs).map enc)) [some (.v s), some (.o (.d (knD (kn ++ newF yes kn vs)))), some (.o (.l ((newF yes kn vs).map enc))), y] := by
    simp only [List.map_nil, List.nil_append] at e
    simp [run_1, run_2, run_3, run_4, run_5, ev_C, ev_U, ev_B, ev_nil, ev_cons, ev_L, ev_tst, ev_and, ev_or, ev_not, ev_V, ev_if, ev_ch, ev_var0, ev_varS, ev_seq, ev_sif, ev_asg, ev_new, ev_unp, ev_ret, ev_retF, ev_drop, ev_snil, ev_raise, ev_for, sv_0, sv_S, setVs, op_mul_i, op_mod_i, op_div_i, op_p60, ev_whl, ev_nwM, ev_agM, ev_unM, ev_exM, ev_apM, ev_drM, ev_rtM, ev_ifM, ev_tM, ev_nM, ev_dpt, ev_rtO, ev_srcV0, ev_srcVS, ev_srcT, ev_app, ev_set, ev_aug, ev_slc, ev_sl0, ev_sl1, es, e]
  refine Eq.trans (congrArg (outM [1]) e1) ?_
  exact oM_rt rfl
/-! met -/
abbrev mtE (h : Hq) (o : List Vl) (i : Int) (x8 x9 : Option Sl) : En := [some (.v (.p (encH h))), some (.o (.d (knD o))), some (.o (.l (o.map enc))), some (.v (.p (.int i))), some (.v (.p (.tup (h.young.map encT)))), some (.v (.p (.tup (h.old.map encT)))), some (.v (.p (.tup (h.roots.map enc)))), some (.v (.p (.tup (h.book.map encP)))), x8, x9]
def mtU : XS := (sSeq (sUnp [8, 9] (xL (chk 2 mthing_at) (xCons (xVar 0) (xCons (xB ixD (xVar 2) (xVar 3)) xNil))))
    (sSeq (sExtM 2 (xCallM [] 2 [1] [1] mfresh [.d (xVar 9), .s 1]))
    (sAug 3 (xC (.int 1)))))
def mtC : XT := (xTst blB (xB ltD (xVar 3) (xL lenD (xCons (xVar 2) xNil))))
theorem kids_led {h : Hq} {v : Vl} {t : Th} (g : led h v = some t) : kids h v = t.fs := by
  unfold kids
  rw [g]
theorem mtU_ok (h : Hq) (o : List Vl) (i : Nat) (v : Vl) (t : Th) (x8 x9 : Option Sl) (e : o[i]? = some v) (g : led h v = some t) (hk : ∀ u ∈ o, isP' u = true) (h1 : o.length ≤ 10000) (h2 : t.fs.length ≤ 10000) :
    ∃ y8 y9, mtU (mtE h o i x8 x9) = .nx (mtE h (o ++ newF yes o (kids h v)) (i + 1) y8 y9) := by
  have e1 : (o.map enc)[i]? = some (enc v) := by simp [e]
  have e2 : mthing_at [.p (encH h), .p (enc v)] = .ok (.p (.tup [.int t.age, .tup (t.fs.map enc)])) := thing_at_ok h v t g
  have e3 := fresh_of (.p (.tup (t.fs.map enc))) t.fs o (.inl rfl) hk (by omega)
  have hl := newF_len (p := yes) (vs := t.fs) (kn := o)
  refine ⟨some (.v (.p (.int t.age))), some (.v (.p (.tup (t.fs.map enc)))), ?_⟩
  unfold mtU
  rw [seq_nx (ρ' := mtE h o i (some (.v (.p (.int t.age)))) (some (.v (.p (.tup (t.fs.map enc)))))) (by simp [run_1, run_2, run_3, run_4, run_5, ev_C, ev_U, ev_B, ev_nil, ev_cons, ev_L, ev_tst, ev_and, ev_or, ev_not, ev_V, ev_if, ev_ch, ev_var0, ev_varS, ev_seq, ev_sif, ev_asg, ev_new, ev_unp, ev_ret, ev_retF, ev_drop, ev_snil, ev_raise, ev_for, sv_0, sv_S, setVs, op_mul_i, op_mod_i, op_div_i, op_p60, ev_whl, ev_nwM, ev_agM, ev_unM, ev_exM, ev_apM, ev_drM, ev_rtM, ev_ifM, ev_tM, ev_nM, ev_dpt, ev_rtO, ev_srcV0, ev_srcVS, ev_srcT, ev_app, ev_set, ev_aug, ev_slc, ev_sl0, ev_sl1, ix_ln e1, e2])]
  have e4 : xCallM [] 2 [1] [1] mfresh [.d (xVar 9), .s 1] (mtE h o i (some (.v (.p (.int t.age)))) (some (.v (.p (.tup (t.fs.map enc)))))) = .ok (.l ((newF yes o t.fs).map enc), storeO (mtE h o i (some (.v (.p (.int t.age)))) (some (.v (.p (.tup (t.fs.map enc)))))) [1] [.d (knD (o ++ newF yes o t.fs))]) :=
    callM_ok (ss := [.p (.tup (t.fs.map enc)), .d (knD o)]) rfl ⟨rfl, rfl, rfl, rfl⟩ e3
  rw [seq_nx (ρ' := mtE h (o ++ newF yes o t.fs) i (some (.v (.p (.int t.age)))) (some (.v (.p (.tup (t.fs.map enc)))))) (by
    rw [ev_exM, e4]
    show emO true 2 _ = _
    rw [em_ok]
    refine (sl_ok (by simp; omega)).trans ?_
    rw [← List.map_append]
    rfl)]
  rw [kids_led g]
  rfl
theorem mtC_ok (h : Hq) (o : List Vl) (i : Nat) (x8 x9 : Option Sl) : mtC (mtE h o i x8 x9) = .ok (decide (i < o.length)) := by
  unfold mtC
  simp [run_1, run_2, run_3, run_4, run_5, ev_C, ev_U, ev_B, ev_nil, ev_cons, ev_L, ev_tst, ev_and, ev_or, ev_not, ev_V, ev_if, ev_ch, ev_var0, ev_varS, ev_seq, ev_sif, ev_asg, ev_new, ev_unp, ev_ret, ev_retF, ev_drop, ev_snil, ev_raise, ev_for, sv_0, sv_S, setVs, op_mul_i, op_mod_i, op_div_i, op_p60, ev_whl, ev_nwM, ev_agM, ev_unM, ev_exM, ev_apM, ev_drM, ev_rtM, ev_ifM, ev_tM, ev_nM, ev_dpt, ev_rtO, ev_srcV0, ev_srcVS, ev_srcT, ev_app, ev_set, ev_aug, ev_slc, ev_sl0, ev_sl1]
theorem many_le {h : Hq} (G : So h) : many h ≤ 4000 := by
  have := G.ly
  have := G.lo
  unfold many
  omega
theorem Rch.led {h : Hq} (G : So h) {p : Vl → Bool} {S : List Vl} (hS : ∀ v ∈ S, vOk h.young.length h.old.length v) {v : Vl} (r : Rch h p S v) : ∃ t, led h v = some t ∧ t.fs.length ≤ 200 := by
  have := vOk_led (r.ok G hS) r.p.1
  cases e : Kp.led h v with
  | none => rw [e] at this; cases this
  | some t =>
    refine ⟨t, rfl, ?_⟩
    have := G.fk v
    rw [kids_led e] at this
    exact this
theorem met_loop (h : Hq) (G : So h) (S : List Vl) (hS : ∀ v ∈ S, vOk h.young.length h.old.length v) (x8 x9 : Option Sl) : ∃ i y8 y9, whileD mtC mtU 1000000 (mtE h (newF yes [] S) (0 : Nat) x8 x9) = .nx (mtE h (metL h yes S) i y8 y9) := by
  obtain ⟨ρ', e, i, y8, y9, rfl⟩ := whileD_run (c := mtC) (u := mtU) (I := fun n ρ => ∃ (i : Nat) (o : List Vl) (y8 y9 : Option Sl), ρ = mtE h o i y8 y9 ∧ Way h yes S i o ∧ bfs h yes (n + 1) i o = metL h yes S ∧ n + i = many h) (P := fun ρ => ∃ (i : Int) (y8 y9 : Option Sl), ρ = mtE h (metL h yes S) i y8 y9) (fun n ρ ⟨i, o, y8, y9, er, w, eb, en⟩ => by
    subst er
    have fw := w.few G hS
    have ml := many_le G
    by_cases lt : i < o.length
    · right
      have ei : o[i]? = some o[i] := List.getElem?_eq_getElem lt
      obtain ⟨t, g, gl⟩ := Rch.led G hS (w.rch o[i] (List.getElem_mem lt))
      obtain ⟨z8, z9, eu⟩ := mtU_ok h o i o[i] t y8 y9 ei g (fun u hu => (w.rch u hu).p.1) (by omega) (by omega)
      have w2 := w.next ei
      have f2 := w2.few G hS
      have l2 := w2.le
      refine ⟨by rw [mtC_ok, decide_eq_true lt], n - 1, _, by omega, eu, i + 1, _, z8, z9, rfl, w2, ?_, by omega⟩
      rw [← eb, show n - 1 + 1 = n by omega]
      show _ = (match o[i]? with
        | some v => bfs h yes n (i + 1) (o ++ newF yes o (kids h v))
        | none => o)
      rw [ei]
    · left
      refine ⟨by rw [mtC_ok, decide_eq_false lt], i, y8, y9, ?_⟩
      have eo : metL h yes S = o := by
        rw [← eb]
        show (match o[i]? with
          | some v => bfs h yes n (i + 1) (o ++ newF yes o (kids h v))
          | none => o) = o
        rw [List.getElem?_eq_none (by omega)]
      rw [eo]) (many h) (mtE h (newF yes [] S) (0 : Nat) x8 x9) 1000000 ⟨0, _, x8, x9, rfl, Way.start h yes S, rfl, by omega⟩ (by have := many_le G; omega)
  exact ⟨i, y8, y9, e⟩
theorem met_ok (h : Hq) (G : So h) : mmet [.p (encH h)] = .ok (.l ((metL h yes h.roots).map enc)) := by
  have lr := G.lr
  have e3 := fresh_of (.p (.tup (h.roots.map enc))) h.roots [] (.inl rfl) (fun u hu => by cases hu) (by simp; omega)
  obtain ⟨i, y8, y9, e⟩ := met_loop h G h.roots G.vr none none
  show outD _ = _
  have e4 : xCallM [] 2 [1] [1] mfresh [.d (xVar 6), .s 1] [some (.v (.p (encH h))), some (.o (.d [])), none, none, some (.v (.p (.tup (h.young.map encT)))), some (.v (.p (.tup (h.old.map encT)))), some (.v (.p (.tup (h.roots.map enc)))), some (.v (.p (.tup (h.book.map encP)))), none, none] = .ok (.l ((newF yes [] h.roots).map enc), storeO [some (.v (.p (encH h))), some (.o (.d [])), none, none, some (.v (.p (.tup (h.young.map encT)))), some (.v (.p (.tup (h.old.map encT)))), some (.v (.p (.tup (h.roots.map enc)))), some (.v (.p (.tup (h.book.map encP)))), none, none] [1] [.d (knD (newF yes [] h.roots))]) :=
    callM_ok (ss := [.p (.tup (h.roots.map enc)), .d []]) rfl ⟨rfl, rfl, rfl, rfl⟩ e3
  have e1 : (sSeq (sUnp [4, 5, 6, 7] (xVar 0)) (sSeq (sNew true 1 xDnew) (sSeq (sNewM true 2 (xCallM [] 2 [1] [1] mfresh [.d (xVar 6), .s 1])) (sSeq (sAsg 3 (xC (.int 0))) (sSeq (sWhile mtC mtU) (sRetO 2)))))) (initE 1 10 [.p (encH h)]) = .rt (.l ((metL h yes h.roots).map enc)) (mtE h (metL h yes h.roots) i y8 y9) := by
    rw [seq_nx (ρ' := [some (.v (.p (encH h))), none, none, none, some (.v (.p (.tup (h.young.map encT)))), some (.v (.p (.tup (h.old.map encT)))), some (.v (.p (.tup (h.roots.map enc)))), some (.v (.p (.tup (h.book.map encP)))), none, none]) (by rfl)]
    rw [seq_nx (ρ' := [some (.v (.p (encH h))), some (.o (.d [])), none, none, some (.v (.p (.tup (h.young.map encT)))), some (.v (.p (.tup (h.old.map encT)))), some (.v (.p (.tup (h.roots.map enc)))), some (.v (.p (.tup (h.book.map encP)))), none, none]) (by rfl)]
    rw [seq_nx (ρ' := [some (.v (.p (encH h))), some (.o (.d (knD (newF yes [] h.roots)))), some (.o (.l ((newF yes [] h.roots).map enc))), none, some (.v (.p (.tup (h.young.map encT)))), some (.v (.p (.tup (h.old.map encT)))), some (.v (.p (.tup (h.roots.map enc)))), some (.v (.p (.tup (h.book.map encP)))), none, none]) (by rw [ev_nwM, e4]; rfl)]
    rw [seq_nx (ρ' := mtE h (newF yes [] h.roots) (0 : Nat) none none) (by rfl)]
    rw [seq_nx (ρ' := mtE h (metL h yes h.roots) i y8 y9) (by rw [ev_whl]; exact e)]
    rfl
  exact congrArg outD e1
end Kp

namespace Kp
open PySem L2 Fw Ma
theorem lcD_fm {α : Type} {f : α → Dt} {tg : Tg} {t : XT} {el : XE} {ρ : En} (g : α → Option Dt) : ∀ {xs : List α}, (∀ x ∈ xs, ∃ ρ1, tg (f x) ρ = .ok ρ1 ∧ ((∃ y, g x = some y ∧ t ρ1 = .ok true ∧ el ρ1 = .ok (.p y)) ∨ (g x = none ∧ t ρ1 = .ok false))) → lcD tg t el (xs.map f) ρ = .ok (xs.filterMap g)
  | [], _ => rfl
  | x :: xs, h => by
    obtain ⟨ρ1, h1, h2⟩ := h x List.mem_cons_self
    have ih := lcD_fm g (xs := xs) fun y hy => h y (List.mem_cons_of_mem _ hy)
    rw [List.map_cons]
    unfold lcD
    rw [h1, Rz.bind_ok]
    rcases h2 with ⟨y, h3, h4, h5⟩ | ⟨h3, h4⟩
    · rw [h4, Rz.bind_ok, if_pos rfl, h5, Rz.bind_ok]
      show (lcD tg t el (xs.map f) ρ).bind _ = _
      rw [ih, Rz.bind_ok, List.filterMap_cons_some h3]
    · rw [h4, Rz.bind_ok, if_neg (by decide), ih, List.filterMap_cons_none h3]
theorem lcD_map {α : Type} {f : α → Dt} {tg : Tg} {el : XE} {ρ : En} (g : α → Dt) {xs : List α} (h : ∀ x ∈ xs, ∃ ρ1, tg (f x) ρ = .ok ρ1 ∧ el ρ1 = .ok (.p (g x))) : lcD tg tYesD el (xs.map f) ρ = .ok (xs.map g) := by
  rw [lcD_fm (fun x => some (g x)) fun x hx => ?_]
  · simp
  · obtain ⟨ρ1, h1, h2⟩ := h x hx
    exact ⟨ρ1, h1, .inl ⟨g x, rfl, rfl, h2⟩⟩
theorem xLc_ok {src : XI} {tg : Tg} {t : XT} {el : XE} {vs : List Nat} {ρ : En} {xs ys : List Dt} (h : src ρ = .ok xs) (h2 : lcD tg t el xs (wipeE ρ vs) = .ok ys) (hl : ys.length ≤ 1000000) : xLc src tg t el vs ρ = .ok (.l ys) := by
  unfold xLc
  rw [h, Rz.bind_ok, h2]
  exact if_pos hl
/-! the places of a half -/
def plc (y : Bool) (ps : List Vl) (n : Nat) : List Int := ((List.range n).filter fun (k : Nat) => decide (Vl.ptr y (k : Int) ∈ ps)).map fun (k : Nat) => (k : Int)
def plG (y : Bool) : Vl → Option Int
  | .ptr z k => if z = y then some k else none
  | _ => none
theorem plc_mem {y : Bool} {ps : List Vl} {n : Nat} {i : Int} : i ∈ plc y ps n ↔ 0 ≤ i ∧ i < n ∧ Vl.ptr y i ∈ ps := by
  unfold plc
  rw [List.mem_map]
  constructor
  · rintro ⟨k, hk, rfl⟩
    obtain ⟨h1, h2⟩ := List.mem_filter.mp hk
    exact ⟨by omega, by have := List.mem_range.mp h1; omega, of_decide_eq_true h2⟩
  · rintro ⟨h0, h1, h2⟩
    refine ⟨i.toNat, List.mem_filter.mpr ⟨List.mem_range.mpr (by omega), ?_⟩, by omega⟩
    rw [show ((i.toNat : Nat) : Int) = i by omega]
    exact decide_eq_true h2
theorem plc_rise (y : Bool) (ps : List Vl) (n : Nat) : (plc y ps n).Pairwise (· < ·) := by
  unfold plc
  refine List.pairwise_map.mpr ?_
  refine List.Pairwise.imp (R := fun a b : Nat => a < b) (fun {a b} h => by omega) ?_
  exact List.pairwise_lt_range.filter _
theorem plc_len (y : Bool) (ps : List Vl) (n : Nat) : (plc y ps n).length ≤ n := by
  unfold plc
  rw [List.length_map]
  have := List.length_filter_le (fun (k : Nat) => decide (Vl.ptr y (k : Int) ∈ ps)) (List.range n)
  rw [List.length_range] at this
  exact this
theorem plc_congr {y : Bool} {ps qs : List Vl} {n : Nat} (h : ∀ k : Int, Vl.ptr y k ∈ ps ↔ Vl.ptr y k ∈ qs) : plc y ps n = plc y qs n := by
  unfold plc
  congr 1
  refine List.filter_congr fun k _ => ?_
  rw [decide_eq_decide]
  exact h k
theorem plG_mem {y : Bool} {ps : List Vl} {i : Int} : i ∈ ps.filterMap (plG y) ↔ Vl.ptr y i ∈ ps := by
  rw [List.mem_filterMap]
  constructor
  · rintro ⟨v, hv, h⟩
    cases v with
    | non => cases h
    | int j => cases h
    | ptr z k =>
      simp only [plG] at h
      split at h
      · rename_i e
        subst e
        cases h
        exact hv
      · cases h
  · intro h
    exact ⟨_, h, if_pos rfl⟩
theorem plG_nodup {y : Bool} {ps : List Vl} (nd : ps.Nodup) : (ps.filterMap (plG y)).Nodup := by
  refine List.Pairwise.filterMap (R := fun a b => a ≠ b) (plG y) (fun a b ne i hi j hj e => ?_) nd
  subst e
  cases a with
  | non => cases hi
  | int _ => cases hi
  | ptr z k =>
    cases b with
    | non => cases hj
    | int _ => cases hj
    | ptr z' k' =>
      simp only [plG] at hi hj
      split at hi
      · split at hj
        · rename_i e1 e2
          subst e1 e2
          cases hi
          cases hj
          exact ne rfl
        · cases hj
      · cases hi
theorem srt_eq {l m : List Int} (nd : l.Nodup) (hm : m.Pairwise (· < ·)) (h : ∀ i, i ∈ l ↔ i ∈ m) : srtI l = m := by
  have nd' : (srtI l).Nodup := (srtI_perm l).nodup_iff.mpr nd
  exact rise_uniq (lt_of_le_nodup _ (srtI_rise l) nd') hm fun j => ((srtI_perm l).mem_iff).trans (h j)
theorem eq_ww (z y : Bool) : eqD (.p (.str (wd z))) (.p (.str (wd y))) = .ok (.p (.bl (decide (z = y)))) := by
  rw [eq_str (ok_wd z) (ok_wd y)]
  have : (wd z == wd y) = decide (z = y) := by cases z <;> cases y <;> decide +kernel
  rw [this]
def inH (h : Hq) (v : Vl) : Prop := vOk h.young.length h.old.length v
theorem places_in_ok (y : Bool) (ps : List Vl) (n : Nat) (nd : ps.Nodup) (hp : ∀ v ∈ ps, isP' v = true) (hn : ∀ k : Int, Vl.ptr y k ∈ ps → 0 ≤ k ∧ k < n) (hl : ps.length ≤ 100000) : mplaces_in [.p (.str (wd y)), .l (ps.map enc)] = .ok (.p (.tup ((plc y ps n).map Dt.int))) := by
  have e1 : lcD (tgT [2, 3]) (xTst blB (xB eqD (xVar 2) (xVar 0))) (xVar 3) (ps.map enc) [some (.v (.p (.str (wd y)))), some (.v (.l (ps.map enc))), none, none] = .ok ((ps.filterMap (plG y)).map Dt.int) := by
    rw [lcD_fm (fun v => (plG y v).map Dt.int) fun v hv => ?_, List.map_filterMap]
    have := hp v hv
    cases v with
    | non => cases this
    | int i => cases this
    | ptr z k =>
      refine ⟨[some (.v (.p (.str (wd y)))), some (.v (.l (ps.map enc))), some (.v (.p (.str (wd z)))), some (.v (.p (.int k)))], rfl, ?_⟩
      have e2 := eq_ww z y
      rcases Decidable.em (z = y) with rfl | g
      · refine .inl ⟨.int k, by simp [plG], ?_, rfl⟩
        simp [run_1, run_2, run_3, run_4, run_5, ev_C, ev_U, ev_B, ev_nil, ev_cons, ev_L, ev_tst, ev_and, ev_or, ev_not, ev_V, ev_if, ev_ch, ev_var0, ev_varS, ev_seq, ev_sif, ev_asg, ev_new, ev_unp, ev_ret, ev_retF, ev_drop, ev_snil, ev_raise, ev_for, sv_0, sv_S, setVs, op_mul_i, op_mod_i, op_div_i, op_p60, ev_whl, ev_nwM, ev_agM, ev_unM, ev_exM, ev_apM, ev_drM, ev_rtM, ev_ifM, ev_tM, ev_nM, ev_dpt, ev_rtO, ev_srcV0, ev_srcVS, ev_srcT, ev_app, ev_set, ev_aug, ev_slc, ev_sl0, ev_sl1, e2]
      · refine .inr ⟨by simp [plG, g], ?_⟩
        simp [run_1, run_2, run_3, run_4, run_5, ev_C, ev_U, ev_B, ev_nil, ev_cons, ev_L, ev_tst, ev_and, ev_or, ev_not, ev_V, ev_if, ev_ch, ev_var0, ev_varS, ev_seq, ev_sif, ev_asg, ev_new, ev_unp, ev_ret, ev_retF, ev_drop, ev_snil, ev_raise, ev_for, sv_0, sv_S, setVs, op_mul_i, op_mod_i, op_div_i, op_p60, ev_whl, ev_nwM, ev_agM, ev_unM, ev_exM, ev_apM, ev_drM, ev_rtM, ev_ifM, ev_tM, ev_nM, ev_dpt, ev_rtO, ev_srcV0, ev_srcVS, ev_srcT, ev_app, ev_set, ev_aug, ev_slc, ev_sl0, ev_sl1, e2, g]
  have e3 : xLc (srcV 1) (tgT [2, 3]) (xTst blB (xB eqD (xVar 2) (xVar 0))) (xVar 3) [2, 3] [some (.v (.p (.str (wd y)))), some (.v (.l (ps.map enc))), none, none] = .ok (.l ((ps.filterMap (plG y)).map Dt.int)) :=
    xLc_ok rfl e1 (by rw [List.length_map]; have := List.length_filterMap_le (plG y) ps; omega)
  have e4 : srtI (ps.filterMap (plG y)) = plc y ps n := srt_eq (plG_nodup nd) (plc_rise y ps n) fun i => by
    rw [plG_mem, plc_mem]
    exact ⟨fun m => ⟨(hn i m).1, (hn i m).2, m⟩, fun m => m.2.2⟩
  unfold mplaces_in
  simp [run_1, run_2, run_3, run_4, run_5, ev_C, ev_U, ev_B, ev_nil, ev_cons, ev_L, ev_tst, ev_and, ev_or, ev_not, ev_V, ev_if, ev_ch, ev_var0, ev_varS, ev_seq, ev_sif, ev_asg, ev_new, ev_unp, ev_ret, ev_retF, ev_drop, ev_snil, ev_raise, ev_for, sv_0, sv_S, setVs, op_mul_i, op_mod_i, op_div_i, op_p60, ev_whl, ev_nwM, ev_agM, ev_unM, ev_exM, ev_apM, ev_drM, ev_rtM, ev_ifM, ev_tM, ev_nM, ev_dpt, ev_rtO, ev_srcV0, ev_srcVS, ev_srcT, ev_app, ev_set, ev_aug, ev_slc, ev_sl0, ev_sl1, e3, srtL, intsOf_map, e4]
theorem places_met {h : Hq} (G : So h) {p : Vl → Bool} {S o : List Vl} (hS : ∀ v ∈ S, vOk h.young.length h.old.length v) (m : Met h p S o) (y : Bool) : mplaces_in [.p (.str (wd y)), .l (o.map enc)] = .ok (.p (.tup ((plc y o (half h y).length).map Dt.int))) := by
  refine places_in_ok y o _ m.nd (fun v hv => ((m.mem v).mp hv).p.1) (fun k hk => ?_) ?_
  · have := ((m.mem _).mp hk).ok G hS
    cases y <;> exact this
  · have := m.few G hS
    have := many_le G
    omega
theorem come_both_ok (h : Hq) (G : So h) : mcome_both [.p (encH h)] = .ok (.p (.tup [.tup ((plc true (metL h yes h.roots) h.young.length).map Dt.int), .tup ((plc false (metL h yes h.roots) h.old.length).map Dt.int)])) := by
  have m := metL_met G (p := yes) G.vr
  have e1 := places_met G G.vr m true
  have e2 := places_met G G.vr m false
  have e3 := met_ok h G
  change _ = Rz.ok (Sv.p (.tup ((plc true _ h.young.length).map Dt.int))) at e1
  change _ = Rz.ok (Sv.p (.tup ((plc false _ h.old.length).map Dt.int))) at e2
  change mplaces_in [.p (.str "young"), _] = _ at e1
  change mplaces_in [.p (.str "old"), _] = _ at e2
  unfold mcome_both
  simp [run_1, run_2, run_3, run_4, run_5, ev_C, ev_U, ev_B, ev_nil, ev_cons, ev_L, ev_tst, ev_and, ev_or, ev_not, ev_V, ev_if, ev_ch, ev_var0, ev_varS, ev_seq, ev_sif, ev_asg, ev_new, ev_unp, ev_ret, ev_retF, ev_drop, ev_snil, ev_raise, ev_for, sv_0, sv_S, setVs, op_mul_i, op_mod_i, op_div_i, op_p60, ev_whl, ev_nwM, ev_agM, ev_unM, ev_exM, ev_apM, ev_drM, ev_rtM, ev_ifM, ev_tM, ev_nM, ev_dpt, ev_rtO, ev_srcV0, ev_srcVS, ev_srcT, ev_app, ev_set, ev_aug, ev_slc, ev_sl0, ev_sl1, e3, e1, e2]
end Kp

namespace Kp
open PySem L2 Fw Ma
/-! the values of the book -/
theorem rowFrom_at {i : Nat} {p : Int × Int} : ∀ {k : Nat} {l : List Vl}, p ∈ rowFrom i k l → ∃ j : Nat, ∃ v : Vl, p = ((i : Int), ((k + j : Nat) : Int)) ∧ l[j]? = some v ∧ ptY v = true
  | k, [], h => by cases h
  | k, v :: l, h => by
    rw [rowFrom_c] at h
    by_cases c : ptY v = true
    · rw [if_pos c] at h
      rcases List.mem_cons.mp h with rfl | h
      · exact ⟨0, v, rfl, rfl, c⟩
      · obtain ⟨j, w, rfl, h1, h2⟩ := rowFrom_at h
        exact ⟨j + 1, w, by rw [show k + 1 + j = k + (j + 1) by omega], h1, h2⟩
    · rw [if_neg c] at h
      obtain ⟨j, w, rfl, h1, h2⟩ := rowFrom_at h
      exact ⟨j + 1, w, by rw [show k + 1 + j = k + (j + 1) by omega], h1, h2⟩
theorem rowFrom_in {i : Nat} : ∀ {k j : Nat} {l : List Vl} {v : Vl}, l[j]? = some v → ptY v = true → ((i : Int), ((k + j : Nat) : Int)) ∈ rowFrom i k l
  | k, j, [], v, h, _ => by simp at h
  | k, 0, u :: l, v, h, c => by
    cases h
    rw [rowFrom_c, if_pos c]
    exact List.mem_cons_self
  | k, j + 1, u :: l, v, h, c => by
    have := rowFrom_in (i := i) (k := k + 1) (j := j) (l := l) h c
    rw [show k + 1 + j = k + (j + 1) by omega] at this
    rw [rowFrom_c]
    split
    · exact List.mem_cons_of_mem _ this
    · exact this
theorem bookFrom_at {p : Int × Int} : ∀ {i : Nat} {l : List Th}, p ∈ bookFrom i l → ∃ (j k : Nat) (t : Th) (v : Vl), p = (((i + j : Nat) : Int), (k : Int)) ∧ l[j]? = some t ∧ t.fs[k]? = some v ∧ ptY v = true
  | i, [], h => by cases h
  | i, t :: l, h => by
    rw [bookFrom_c] at h
    rcases List.mem_append.mp h with h | h
    · obtain ⟨k, v, rfl, h1, h2⟩ := rowFrom_at h
      exact ⟨0, k, t, v, by simp, rfl, h1, h2⟩
    · obtain ⟨j, k, t', v, rfl, h1, h2, h3⟩ := bookFrom_at h
      exact ⟨j + 1, k, t', v, by rw [show i + 1 + j = i + (j + 1) by omega], h1, h2, h3⟩
theorem bookFrom_in : ∀ {i j k : Nat} {l : List Th} {t : Th} {v : Vl}, l[j]? = some t → t.fs[k]? = some v → ptY v = true → (((i + j : Nat) : Int), (k : Int)) ∈ bookFrom i l
  | i, j, k, [], t, v, h, _, _ => by simp at h
  | i, 0, k, u :: l, t, v, h, h2, c => by
    cases h
    have := rowFrom_in (i := i) (k := 0) h2 c
    rw [Nat.zero_add] at this
    rw [bookFrom_c]
    exact List.mem_append_left _ this
  | i, j + 1, k, u :: l, t, v, h, h2, c => by
    have := bookFrom_in (i := i + 1) (j := j) (k := k) (l := l) h h2 c
    rw [show i + 1 + j = i + (j + 1) by omega] at this
    rw [bookFrom_c]
    exact List.mem_append_right _ this
def bkV (h : Hq) (p : Int × Int) : Vl := ((h.old[p.1.toNat]?).bind fun t => t.fs[p.2.toNat]?).getD .non
def bkVs (h : Hq) : List Vl := h.book.map (bkV h)
theorem So.book {h : Hq} (G : So h) {p : Int × Int} (m : p ∈ h.book) : ∃ (j k : Nat) (t : Th) (v : Vl), p = ((j : Int), (k : Int)) ∧ h.old[j]? = some t ∧ t.fs[k]? = some v ∧ ptY v = true ∧ bkV h p = v := by
  rw [G.bk] at m
  obtain ⟨j, k, t, v, rfl, h1, h2, h3⟩ := bookFrom_at m
  rw [Nat.zero_add]
  refine ⟨j, k, t, v, rfl, h1, h2, h3, ?_⟩
  unfold bkV
  simp [h1, h2]
theorem So.vb {h : Hq} (G : So h) : ∀ v ∈ bkVs h, vOk h.young.length h.old.length v := fun v m => by
  obtain ⟨p, hp, rfl⟩ := List.mem_map.mp m
  obtain ⟨j, k, t, v, rfl, h1, h2, h3, h4⟩ := G.book hp
  rw [h4]
  exact G.vo t (List.mem_of_getElem? h1) v (List.mem_of_getElem? h2)
theorem ptY_p {v : Vl} (h : ptY v = true) : isP' v = true := by
  cases v with
  | non => cases h
  | int i => cases h
  | ptr y k => rfl
theorem ptY_ptr' {v : Vl} (h : ptY v = true) : ∃ k, v = .ptr true k := by
  cases v with
  | non => cases h
  | int i => cases h
  | ptr y k =>
    cases y
    · cases h
    · exact ⟨k, rfl⟩
/-! come_young -/
structure Dfs (h : Hq) (S : List Vl) (kn st : List Vl) : Prop where
  nd : kn.Nodup
  isp : ∀ v ∈ kn, isP' v = true ∧ vOk h.young.length h.old.length v
  rch : ∀ v ∈ kn, ptY v = true → Rch h ptY S v
  sub : ∀ v ∈ st, v ∈ kn
  firsts : ∀ v ∈ S, isP' v = true → v ∈ kn
  closed : ∀ u ∈ kn, u ∉ st → ptY u = true → ∀ v ∈ kids h u, isP' v = true → v ∈ kn
theorem Dfs.few {h : Hq} {S kn st : List Vl} (d : Dfs h S kn st) : kn.length ≤ many h := Kp.few d.nd fun v hv => ⟨(d.isp v hv).2, (d.isp v hv).1⟩
theorem Dfs.done {h : Hq} {S kn : List Vl} (d : Dfs h S kn []) (v : Vl) (c : ptY v = true) : v ∈ kn ↔ Rch h ptY S v := ⟨fun m => d.rch v m c, fun r => by
  induction r with
  | base m h1 h2 => exact d.firsts _ m h1
  | step r m h1 h2 ih => exact d.closed _ (ih r.p.2) (by simp) r.p.2 _ m h1⟩
/-- one is taken off the stack -/
theorem Dfs.pop {h : Hq} (G : So h) {S kn st : List Vl} {u : Vl} (d : Dfs h S kn (st ++ [u])) (hy : ptY u = true) : Dfs h S (kn ++ newF yes kn (kids h u)) (st ++ newF yes kn (kids h u)) := by
  have mu : u ∈ kn := d.sub u (by simp)
  refine ⟨newF_nodup d.nd, fun v m => ?_, fun v m c => ?_, fun v m => ?_, fun v m p => List.mem_append_left _ (d.firsts v m p), fun x mx nx cx v mv pv => ?_⟩
  · rcases List.mem_append.mp m with m | m
    · exact d.isp v m
    · obtain ⟨h1, h2, _⟩ := newF_mem m
      exact ⟨h2, G.vk h1⟩
  · rcases List.mem_append.mp m with m | m
    · exact d.rch v m c
    · obtain ⟨h1, h2, _⟩ := newF_mem m
      exact .step (d.rch u mu hy) h1 h2 c
  · rcases List.mem_append.mp m with m | m
    · exact List.mem_append_left _ (d.sub v (List.mem_append_left _ m))
    · exact List.mem_append_right _ m
  · rcases List.mem_append.mp mx with mx | mx
    · by_cases e : x = u
      · subst e
        rcases newF_all (p := yes) (kn := kn) mv pv rfl with z | z
        · exact List.mem_append_left _ z
        · exact List.mem_append_right _ z
      · refine List.mem_append_left _ (d.closed x mx (fun z => ?_) cx v mv pv)
        rcases List.mem_append.mp z with z | z
        · exact nx (List.mem_append_left _ z)
        · exact e (List.mem_singleton.mp z)
    · exact absurd (List.mem_append_right _ mx) nx
theorem Dfs.skip {h : Hq} {S kn st : List Vl} {u : Vl} (d : Dfs h S kn (st ++ [u])) (hy : ptY u = false) : Dfs h S kn st := by
  refine ⟨d.nd, d.isp, d.rch, fun v m => d.sub v (List.mem_append_left _ m), d.firsts, fun x mx nx cx v mv pv => d.closed x mx (fun z => ?_) cx v mv pv⟩
  rcases List.mem_append.mp z with z | z
  · exact nx z
  · rw [List.mem_singleton.mp z, hy] at cx
    cases cx
theorem Dfs.start {h : Hq} (G : So h) : Dfs h (h.roots ++ bkVs h) (newF yes [] h.roots ++ newF yes (newF yes [] h.roots) (bkVs h)) (newF yes [] h.roots ++ newF yes (newF yes [] h.roots) (bkVs h)) := by
  have nd1 : (newF yes [] h.roots).Nodup := by simpa using newF_nodup (p := yes) (vs := h.roots) (kn := []) List.nodup_nil
  have mem : ∀ v, v ∈ newF yes [] h.roots ++ newF yes (newF yes [] h.roots) (bkVs h) → v ∈ h.roots ++ bkVs h ∧ isP' v = true := fun v m => by
    rcases List.mem_append.mp m with m | m
    · obtain ⟨h1, h2, _⟩ := newF_mem m
      exact ⟨List.mem_append_left _ h1, h2⟩
    · obtain ⟨h1, h2, _⟩ := newF_mem m
      exact ⟨List.mem_append_right _ h1, h2⟩
  refine ⟨newF_nodup nd1, fun v m => ⟨(mem v m).2, ?_⟩, fun v m c => .base (mem v m).1 (mem v m).2 c, fun v m => m, fun v m p => ?_, fun u mu nu => absurd mu nu⟩
  · rcases List.mem_append.mp (mem v m).1 with z | z
    · exact G.vr v z
    · exact G.vb v z
  · rcases List.mem_append.mp m with m | m
    · rcases newF_all (p := yes) (kn := []) m p rfl with z | z
      · cases z
      · exact List.mem_append_left _ z
    · rcases newF_all (p := yes) (kn := newF yes [] h.roots) m p rfl with z | z
      · exact List.mem_append_left _ z
      · exact List.mem_append_right _ z
abbrev cyE (h : Hq) (kn st : List Vl) (x7 x8 x9 : Option Sl) : En := [some (.v (.p (encH h))), some (.o (.d (knD kn))), some (.o (.l (st.map enc))), some (.v (.p (.tup (h.young.map encT)))), some (.v (.p (.tup (h.old.map encT)))), some (.v (.p (.tup (h.roots.map enc)))), some (.v (.p (.tup (h.book.map encP)))), x7, x8, x9]
def cyU : XS := (sSeq (sUnpM [7, 8] (xPop 2))
    (sIf (xTst blB (xB eqD (xVar 7) (xC (.str "young")))) (sExtM 2 (xCallM [] 2 [1] [1] mfresh [.d (xB ixD (xB ixD (xVar 3) (xVar 8)) (xC (.int 1))), .s 1])) sNil))
theorem pop_ok {i : Nat} {ρ : En} {l : List Dt} {y : Dt} (h : ρ[i]? = some (some (.o (.l (l ++ [y]))))) : xPop i ρ = .ok (.p y, ρ.set i (some (.o (.l l)))) := by
  unfold xPop
  rw [h]
  simp
theorem cyU_0 (h : Hq) (kn st : List Vl) (u : Vl) (x7 x8 x9 : Option Sl) (pu : isP' u = true) (hy : ptY u = false) : ∃ y7 y8, cyU (cyE h kn (st ++ [u]) x7 x8 x9) = .nx (cyE h kn st y7 y8 x9) := by
  cases u with
  | non => cases pu
  | int i => cases pu
  | ptr y k =>
    cases y
    · refine ⟨some (.v (.p (.str (wd false)))), some (.v (.p (.int k))), ?_⟩
      have e1 := pop_ok (i := 2) (ρ := cyE h kn (st ++ [.ptr false k]) x7 x8 x9) (l := st.map enc) (y := enc (.ptr false k)) (by simp)
      unfold cyU
      rw [seq_nx (ρ' := cyE h kn st (some (.v (.p (.str (wd false))))) (some (.v (.p (.int k)))) x9) (by rw [ev_unM, e1]; rfl)]
      have e2 : eqD (.p (.str (wd false))) (.p (.str "young")) = .ok (.p (.bl false)) := eq_wy false
      simp [run_1, run_2, run_3, run_4, run_5, ev_C, ev_U, ev_B, ev_nil, ev_cons, ev_L, ev_tst, ev_and, ev_or, ev_not, ev_V, ev_if, ev_ch, ev_var0, ev_varS, ev_seq, ev_sif, ev_asg, ev_new, ev_unp, ev_ret, ev_retF, ev_drop, ev_snil, ev_raise, ev_for, sv_0, sv_S, setVs, op_mul_i, op_mod_i, op_div_i, op_p60, ev_whl, ev_nwM, ev_agM, ev_unM, ev_exM, ev_apM, ev_drM, ev_rtM, ev_ifM, ev_tM, ev_nM, ev_dpt, ev_rtO, ev_srcV0, ev_srcVS, ev_srcT, ev_app, ev_set, ev_aug, ev_slc, ev_sl0, ev_sl1, e2]
    · cases hy
theorem cyU_1 (h : Hq) (G : So h) (kn st : List Vl) (u : Vl) (x7 x8 x9 : Option Sl) (hk : ∀ v ∈ kn, isP' v = true) (h1 : kn.length ≤ 10000) (h2 : st.length ≤ 10000) (ok : vOk h.young.length h.old.length u) (hy : ptY u = true) : ∃ y7 y8, cyU (cyE h kn (st ++ [u]) x7 x8 x9) = .nx (cyE h (kn ++ newF yes kn (kids h u)) (st ++ newF yes kn (kids h u)) y7 y8 x9) := by
  obtain ⟨k, rfl⟩ := ptY_ptr' hy
  obtain ⟨k0, k1⟩ : 0 ≤ k ∧ k < h.young.length := ok
  obtain ⟨t, g, ht⟩ := led_yes (h := h) (y := true) k0 k1
  have ht : h.young[k.toNat]? = some t := ht
  have fl := G.fy t (List.mem_of_getElem? ht)
  refine ⟨some (.v (.p (.str (wd true)))), some (.v (.p (.int k))), ?_⟩
  have e1 := pop_ok (i := 2) (ρ := cyE h kn (st ++ [.ptr true k]) x7 x8 x9) (l := st.map enc) (y := enc (.ptr true k)) (by simp)
  have e2 : eqD (.p (.str (wd true))) (.p (.str "young")) = .ok (.p (.bl true)) := eq_wy true
  have e3 : (h.young.map encT)[k.toNat]? = some (.tup [.int t.age, .tup (t.fs.map enc)]) := by simp [ht, encT]
  have e4 := fresh_of (.p (.tup (t.fs.map enc))) t.fs kn (.inl rfl) hk (by omega)
  have hl := newF_len (p := yes) (vs := t.fs) (kn := kn)
  unfold cyU
  rw [seq_nx (ρ' := cyE h kn st (some (.v (.p (.str (wd true))))) (some (.v (.p (.int k)))) x9) (by rw [ev_unM, e1]; rfl)]
  have e5 : xCallM [] 2 [1] [1] mfresh [.d (xB ixD (xB ixD (xVar 3) (xVar 8)) (xC (.int 1))), .s 1] (cyE h kn st (some (.v (.p (.str (wd true))))) (some (.v (.p (.int k)))) x9) = .ok (.l ((newF yes kn t.fs).map enc), storeO (cyE h kn st (some (.v (.p (.str (wd true))))) (some (.v (.p (.int k)))) x9) [1] [.d (knD (kn ++ newF yes kn t.fs))]) := by
    refine callM_ok (ss := [.p (.tup (t.fs.map enc)), .d (knD kn)]) ?_ ⟨rfl, rfl, rfl, rfl⟩ e4
    have e6 : (xB ixD (xB ixD (xVar 3) (xVar 8)) (xC (.int 1))) (cyE h kn st (some (.v (.p (.str (wd true))))) (some (.v (.p (.int k)))) x9) = .ok (.p (.tup (t.fs.map enc))) := by
      simp [run_1, run_2, run_3, run_4, run_5, ev_C, ev_U, ev_B, ev_nil, ev_cons, ev_L, ev_tst, ev_and, ev_or, ev_not, ev_V, ev_if, ev_ch, ev_var0, ev_varS, ev_seq, ev_sif, ev_asg, ev_new, ev_unp, ev_ret, ev_retF, ev_drop, ev_snil, ev_raise, ev_for, sv_0, sv_S, setVs, op_mul_i, op_mod_i, op_div_i, op_p60, ev_whl, ev_nwM, ev_agM, ev_unM, ev_exM, ev_apM, ev_drM, ev_rtM, ev_ifM, ev_tM, ev_nM, ev_dpt, ev_rtO, ev_srcV0, ev_srcVS, ev_srcT, ev_app, ev_set, ev_aug, ev_slc, ev_sl0, ev_sl1, ix_t k0 e3]
    show ((xB ixD (xB ixD (xVar 3) (xVar 8)) (xC (.int 1))) (cyE h kn st (some (.v (.p (.str (wd true))))) (some (.v (.p (.int k)))) x9)).bind _ = _
    rw [e6]
    rfl
  rw [kids_led g]
  have e7 : (sExtM 2 (xCallM [] 2 [1] [1] mfresh [.d (xB ixD (xB ixD (xVar 3) (xVar 8)) (xC (.int 1))), .s 1])) (cyE h kn st (some (.v (.p (.str (wd true))))) (some (.v (.p (.int k)))) x9) = .nx (cyE h (kn ++ newF yes kn t.fs) (st ++ newF yes kn t.fs) (some (.v (.p (.str (wd true))))) (some (.v (.p (.int k)))) x9) := by
    rw [ev_exM, e5]
    show emO true 2 _ = _
    rw [em_ok]
    refine (sl_ok (by simp; omega)).trans ?_
    rw [← List.map_append]
    rfl
  rw [ev_exM] at e7
  simp [run_1, run_2, run_3, run_4, run_5, ev_C, ev_U, ev_B, ev_nil, ev_cons, ev_L, ev_tst, ev_and, ev_or, ev_not, ev_V, ev_if, ev_ch, ev_var0, ev_varS, ev_seq, ev_sif, ev_asg, ev_new, ev_unp, ev_ret, ev_retF, ev_drop, ev_snil, ev_raise, ev_for, sv_0, sv_S, setVs, op_mul_i, op_mod_i, op_div_i, op_p60, ev_whl, ev_nwM, ev_agM, ev_unM, ev_exM, ev_apM, ev_drM, ev_rtM, ev_ifM, ev_tM, ev_nM, ev_dpt, ev_rtO, ev_srcV0, ev_srcVS, ev_srcT, ev_app, ev_set, ev_aug, ev_slc, ev_sl0, ev_sl1, e2]
  exact e7
end Kp

namespace Kp
open PySem L2 Fw Ma
theorem xL_of {f : List Sv → Rz Sv} {as : En → Rz (List Sv)} {ρ : En} {ss : List Sv} {r : Rz Sv} (h : as ρ = .ok ss) (h2 : f ss = r) : xL f as ρ = r := by
  unfold xL
  rw [h, Rz.bind_ok, h2]
theorem xC_of {x : XE} {as : En → Rz (List Sv)} {ρ : En} {s : Sv} {ss : List Sv} (h : x ρ = .ok s) (h2 : as ρ = .ok ss) : xCons x as ρ = .ok (s :: ss) := by
  unfold xCons
  rw [h, Rz.bind_ok, h2, Rz.bind_ok]
theorem bk_len {h : Hq} (G : So h) : h.book.length ≤ 400000 := by
  have h1 : ∀ {i : Nat} {k : Nat} {l : List Vl}, (rowFrom i k l).length ≤ l.length := by
    intro i k l
    induction l generalizing k with
    | nil => exact Nat.le_refl _
    | cons v l ih =>
      rw [rowFrom_c]
      have := @ih (k + 1)
      split <;> simp <;> omega
  have h2 : ∀ {l : List Th} {i : Nat}, (∀ t ∈ l, t.fs.length ≤ 200) → (bookFrom i l).length ≤ 200 * l.length := by
    intro l
    induction l with
    | nil => intro i _; exact Nat.le_refl _
    | cons t l ih =>
      intro i g
      rw [bookFrom_c, List.length_append, List.length_cons]
      have a := @ih (i + 1) fun t m => g t (List.mem_cons_of_mem _ m)
      have b := @h1 i 0 t.fs
      have c := g t List.mem_cons_self
      omega
  rw [G.bk]
  have := @h2 h.old 0 G.fo
  have := G.lo
  omega
theorem bk_comp (h : Hq) (G : So h) (ρ : En) (e4 : ρ[4]? = some (some (.v (.p (.tup (h.old.map encT)))))) (e6 : ρ[6]? = some (some (.v (.p (.tup (h.book.map encP)))))) (hl : ρ.length = 10) :
    xLc (srcV 6) (tgT [8, 9]) tYesD (xB ixD (xB ixD (xB ixD (xVar 4) (xVar 8)) (xC (.int 1))) (xVar 9)) [8, 9] ρ = .ok (.l ((bkVs h).map enc)) := by
  match ρ, hl with
  | [a0, a1, a2, a3, a4, a5, a6, a7, a8, a9], _ =>
  cases e4
  cases e6
  have e5 := lcD_map (tg := tgT [8, 9]) (el := (xB ixD (xB ixD (xB ixD (xVar 4) (xVar 8)) (xC (.int 1))) (xVar 9))) (ρ := wipeE [a0, a1, a2, a3, some (.v (.p (.tup (h.old.map encT)))), a5, some (.v (.p (.tup (h.book.map encP)))), a7, a8, a9] [8, 9]) (f := encP) (fun p => enc (bkV h p)) (xs := h.book) (fun p hp => by
    obtain ⟨j, k, t, v, rfl, h1, h2, h3, h4⟩ := G.book hp
    refine ⟨[a0, a1, a2, a3, some (.v (.p (.tup (h.old.map encT)))), a5, some (.v (.p (.tup (h.book.map encP)))), a7, some (.v (.p (.int j))), some (.v (.p (.int k)))], rfl, ?_⟩
    have f1 : (h.old.map encT)[((j : Int)).toNat]? = some (.tup [.int t.age, .tup (t.fs.map enc)]) := by simp [h1, encT]
    have f2 : (t.fs.map enc)[((k : Int)).toNat]? = some (enc v) := by simp [h2]
    rw [h4]
    simp [run_1, run_2, run_3, run_4, run_5, ev_C, ev_U, ev_B, ev_nil, ev_cons, ev_L, ev_tst, ev_and, ev_or, ev_not, ev_V, ev_if, ev_ch, ev_var0, ev_varS, ev_seq, ev_sif, ev_asg, ev_new, ev_unp, ev_ret, ev_retF, ev_drop, ev_snil, ev_raise, ev_for, sv_0, sv_S, setVs, op_mul_i, op_mod_i, op_div_i, op_p60, ev_whl, ev_nwM, ev_agM, ev_unM, ev_exM, ev_apM, ev_drM, ev_rtM, ev_ifM, ev_tM, ev_nM, ev_dpt, ev_rtO, ev_srcV0, ev_srcVS, ev_srcT, ev_app, ev_set, ev_aug, ev_slc, ev_sl0, ev_sl1, ix_t (Int.natCast_nonneg j) f1, ix_t (Int.natCast_nonneg k) f2])
  have e7 : (bkVs h).map enc = h.book.map fun p => enc (bkV h p) := by
    unfold bkVs
    rw [List.map_map]
    rfl
  rw [e7]
  refine xLc_ok rfl e5 ?_
  have := bk_len G
  simp
  omega
def cyC : XT := (xTst lstB (xVar 2))
theorem cyC_ok (h : Hq) (kn st : List Vl) (x7 x8 x9 : Option Sl) : cyC (cyE h kn st x7 x8 x9) = .ok (!st.isEmpty) := by
  unfold cyC
  cases st <;> rfl
theorem cy_loop (h : Hq) (G : So h) (S kn st : List Vl) (d : Dfs h S kn st) (hst : st.length ≤ kn.length) (x7 x8 x9 : Option Sl) : ∃ kn' y7 y8 y9, whileD cyC cyU 1000000 (cyE h kn st x7 x8 x9) = .nx (cyE h kn' [] y7 y8 y9) ∧ Dfs h S kn' [] := by
  obtain ⟨ρ', e, kn', y7, y8, y9, rfl, d'⟩ := whileD_run (c := cyC) (u := cyU) (I := fun n ρ => ∃ (kn st : List Vl) (y7 y8 y9 : Option Sl), ρ = cyE h kn st y7 y8 y9 ∧ Dfs h S kn st ∧ n = 2 * (many h - kn.length) + st.length ∧ st.length ≤ kn.length) (P := fun ρ => ∃ (kn : List Vl) (y7 y8 y9 : Option Sl), ρ = cyE h kn [] y7 y8 y9 ∧ Dfs h S kn []) (fun n ρ ⟨kn, st, y7, y8, y9, er, d, en, ls⟩ => by
    subst er
    have fw := d.few
    have ml := many_le G
    rw [cyC_ok]
    rcases List.eq_nil_or_concat st with rfl | ⟨st, u, rfl⟩
    · exact .inl ⟨rfl, kn, y7, y8, y9, rfl, d⟩
    · rw [List.concat_eq_append] at *
      right
      refine ⟨by simp, ?_⟩
      have mu := d.isp u (d.sub u (by simp))
      simp at en ls
      rcases hy : ptY u
      · obtain ⟨z7, z8, e⟩ := cyU_0 h kn st u y7 y8 y9 mu.1 hy
        exact ⟨n - 1, _, by omega, e, kn, st, z7, z8, y9, rfl, d.skip hy, by omega, by omega⟩
      · obtain ⟨z7, z8, e⟩ := cyU_1 h G kn st u y7 y8 y9 (fun v m => (d.isp v m).1) (by omega) (by omega) mu.2 hy
        have d2 := d.pop G hy
        have f2 := d2.few
        rw [List.length_append] at f2
        exact ⟨2 * (many h - (kn.length + (newF yes kn (kids h u)).length)) + (st.length + (newF yes kn (kids h u)).length), _, by omega, e, _, _, z7, z8, y9, rfl, d2, by simp, by simp; omega⟩) _ (cyE h kn st x7 x8 x9) 1000000 ⟨kn, st, x7, x8, x9, rfl, d, rfl, hst⟩ (by have := many_le G; have := d.few; omega)
  exact ⟨kn', y7, y8, y9, e, d'⟩
theorem come_young_ok (h : Hq) (G : So h) : mcome_young [.p (encH h)] = .ok (.p (.tup ((plc true (metL h ptY (h.roots ++ bkVs h)) h.young.length).map Dt.int))) := by
  have lr := G.lr
  have lb := bk_len G
  have S0 := Dfs.start G
  obtain ⟨kn, y7, y8, y9, e, d⟩ := cy_loop h G _ _ _ S0 (Nat.le_refl _) none none none
  have hS : ∀ v ∈ h.roots ++ bkVs h, vOk h.young.length h.old.length v := fun v m => by
    rcases List.mem_append.mp m with m | m
    · exact G.vr v m
    · exact G.vb v m
  have mm := metL_met G (p := ptY) hS
  have few := d.few
  have ml := many_le G
  have e1 := fresh_of (.p (.tup (h.roots.map enc))) h.roots [] (.inl rfl) (fun u hu => by cases hu) (by simp; omega)
  have k1 : ∀ u ∈ newF yes [] h.roots, isP' u = true := fun u m => (newF_mem m).2.1
  have l1 := newF_len (p := yes) (vs := h.roots) (kn := [])
  have l2 := newF_len (p := yes) (vs := bkVs h) (kn := newF yes [] h.roots)
  have lv : (bkVs h).length = h.book.length := List.length_map _
  have e2 := fresh_of (.l ((bkVs h).map enc)) (bkVs h) (newF yes [] h.roots) (.inr rfl) k1 (by omega)
  have ek : keyTs (knD kn) = kn.map enc := by
    unfold knD mpD knP keyTs
    rw [List.map_map, List.map_map]
    refine List.map_congr_left fun v m => ?_
    have := d.isp v m
    cases v with
    | non => cases this.1
    | int i => cases this.1
    | ptr y k => rfl
  have e3 : mplaces_in [.p (.str (wd true)), .l (kn.map enc)] = .ok (.p (.tup ((plc true kn h.young.length).map Dt.int))) := places_in_ok true kn _ d.nd (fun v m => (d.isp v m).1) (fun k m => (d.isp _ m).2) (by omega)
  rw [plc_congr (qs := metL h ptY (h.roots ++ bkVs h)) (fun k => (d.done _ rfl).trans (mm.mem _).symm)] at e3
  show outD _ = _
  let P : En := [some (.v (.p (encH h))), none, none, some (.v (.p (.tup (h.young.map encT)))), some (.v (.p (.tup (h.old.map encT)))), some (.v (.p (.tup (h.roots.map enc)))), some (.v (.p (.tup (h.book.map encP)))), none, none, none]
  let P1 : En := P.set 1 (some (.o (.d [])))
  have e4 : xCallM [] 2 [1] [1] mfresh [.d (xVar 5), .s 1] P1 = .ok (.l ((newF yes [] h.roots).map enc), storeO P1 [1] [.d (knD (newF yes [] h.roots))]) := callM_ok (ss := [.p (.tup (h.roots.map enc)), .d []]) rfl ⟨rfl, rfl, rfl, rfl⟩ e1
  have e5 : xCallM [] 2 [1] [1] mfresh [.f (xLc (srcV 6) (tgT [8, 9]) tYesD (xB ixD (xB ixD (xB ixD (xVar 4) (xVar 8)) (xC (.int 1))) (xVar 9)) [8, 9]), .s 1] (cyE h (newF yes [] h.roots) (newF yes [] h.roots) none none none) = .ok (.l ((newF yes (newF yes [] h.roots) (bkVs h)).map enc), storeO (cyE h (newF yes [] h.roots) (newF yes [] h.roots) none none none) [1] [.d (knD (newF yes [] h.roots ++ newF yes (newF yes [] h.roots) (bkVs h)))]) := by
    refine callM_ok (ss := [.l ((bkVs h).map enc), .d (knD (newF yes [] h.roots))]) ?_ ⟨rfl, rfl, rfl, rfl⟩ e2
    have f := bk_comp h G (cyE h (newF yes [] h.roots) (newF yes [] h.roots) none none none) rfl rfl rfl
    show ((xLc (srcV 6) (tgT [8, 9]) tYesD (xB ixD (xB ixD (xB ixD (xVar 4) (xVar 8)) (xC (.int 1))) (xVar 9)) [8, 9]) _).bind _ = _
    rw [f]
    rfl
  refine congrArg outD (a₂ := .rt (.p (.tup ((plc true (metL h ptY (h.roots ++ bkVs h)) h.young.length).map Dt.int))) (cyE h kn [] y7 y8 y9)) ?_
  rw [seq_nx (ρ' := P) (by rfl), seq_nx (ρ' := P1) (by rfl)]
  rw [seq_nx (ρ' := cyE h (newF yes [] h.roots) (newF yes [] h.roots) none none none) (by rw [ev_nwM, e4]; rfl)]
  rw [seq_nx (ρ' := cyE h (newF yes [] h.roots ++ newF yes (newF yes [] h.roots) (bkVs h)) (newF yes [] h.roots ++ newF yes (newF yes [] h.roots) (bkVs h)) none none none) (by
    rw [ev_exM, e5]
    show emO true 2 _ = _
    rw [em_ok]
    refine (sl_ok (by simp; omega)).trans ?_
    rw [← List.map_append]
    rfl)]
  rw [seq_nx (ρ' := cyE h kn [] y7 y8 y9) (by rw [ev_whl]; exact e)]
  have e6 : (xL (chk 2 mplaces_in) (xCons (xC (.str "young")) (xCons (xL lkeysD (xCons (xVar 1) xNil)) xNil))) (cyE h kn [] y7 y8 y9) = .ok (.p (.tup ((plc true (metL h ptY (h.roots ++ bkVs h)) h.young.length).map Dt.int))) := by
    have e7 : (xL lkeysD (xCons (xVar 1) xNil)) (cyE h kn [] y7 y8 y9) = .ok (.l (kn.map enc)) := by rw [← ek]; rfl
    exact xL_of (xC_of rfl (xC_of e7 rfl)) e3
  show ofR _ _ _ = _
  rw [e6]
  rfl
end Kp

namespace Kp
open PySem L2 Fw Ma
/-! the pointers as the things moved -/
def mv (l : List (Vl × Vl)) (v : Vl) : Vl := (lk l v).getD v
def ptrK (l : List (Vl × Vl)) : Prop := ∀ v, isP' v = false → lk l v = none
theorem lk_map {v w x : Vl} : ∀ {l : List (Vl × Vl)}, lk (l.map fun p => if p.1 = v then (p.1, x) else p) w = if w = v then (if (lk l v).isSome = true then some x else none) else lk l w
  | [] => by simp [lk]
  | p :: r => by
    have ih := lk_map (v := v) (w := w) (x := x) (l := r)
    rw [List.map_cons]
    show (if (if p.1 = v then (p.1, x) else p).1 = w then some (if p.1 = v then (p.1, x) else p).2 else lk _ w) = _
    rw [ih]
    by_cases h : p.1 = v
    · rw [if_pos h]
      by_cases h2 : w = v
      · subst h2
        rw [if_pos h, if_pos rfl]
        show _ = if (if p.1 = w then some p.2 else lk r w).isSome = true then some x else none
        rw [if_pos h]
        rfl
      · rw [if_neg (fun z => h2 (z.symm.trans h)), if_neg h2, if_neg h2]
        show _ = if p.1 = w then some p.2 else lk r w
        rw [if_neg (fun z => h2 (z.symm.trans h))]
    · rw [if_neg h]
      by_cases h2 : w = v
      · subst h2
        rw [if_neg h, if_pos rfl, if_pos rfl]
        show _ = if (if p.1 = w then some p.2 else lk r w).isSome = true then some x else none
        rw [if_neg h]
      · rw [if_neg h2, if_neg h2]
        rfl
theorem lk_pt {l : List (Vl × Vl)} {v x w : Vl} : lk (pt l v x) w = if w = v then some x else lk l w := by
  unfold pt
  split
  · rename_i h
    rw [lk_map, if_pos h]
  · rename_i h
    rw [lk_app]
    by_cases h2 : w = v
    · subst h2
      rw [if_pos rfl]
      cases g : lk l w with
      | none => simp [lk]
      | some z => rw [g] at h; exact absurd rfl h
    · rw [if_neg h2]
      have : lk [(v, x)] w = none := if_neg fun z => h2 z.symm
      rw [this]
      simp
theorem ptrK_nil : ptrK [] := fun _ _ => rfl
theorem ptrK_pt {l : List (Vl × Vl)} {v x : Vl} (h : ptrK l) (p : isP' v = true) : ptrK (pt l v x) := fun w hw => by
  rw [lk_pt, if_neg fun z => by rw [z, p] at hw; cases hw]
  exact h w hw
theorem pt_len {l : List (Vl × Vl)} {v x : Vl} : (pt l v x).length ≤ l.length + 1 := by
  unfold pt
  split <;> simp
def posI : List Int → Int → Option Nat
  | [], _ => none
  | a :: l, k => if a = k then some 0 else (posI l k).map (· + 1)
theorem posI_none {l : List Int} {k : Int} : posI l k = none ↔ k ∉ l := by
  induction l with
  | nil => simp [posI]
  | cons a l ih =>
    unfold posI
    by_cases h : a = k
    · subst h
      simp
    · rw [if_neg h, Option.map_eq_none_iff, ih, List.mem_cons, not_or]
      exact ⟨fun z => ⟨fun y => h y.symm, z⟩, fun z => z.2⟩
theorem posI_get {l : List Int} {k : Int} {i : Nat} (h : posI l k = some i) : l[i]? = some k := by
  induction l generalizing i with
  | nil => cases h
  | cons a l ih =>
    unfold posI at h
    by_cases g : a = k
    · rw [if_pos g] at h
      cases h
      rw [g]
      rfl
    · rw [if_neg g, Option.map_eq_some_iff] at h
      obtain ⟨j, hj, rfl⟩ := h
      exact ih hj
theorem posI_of {l : List Int} (nd : l.Nodup) {k : Int} {i : Nat} (h : l[i]? = some k) : posI l k = some i := by
  induction l generalizing i with
  | nil => cases h
  | cons a l ih =>
    unfold posI
    cases i with
    | zero =>
      cases h
      rw [if_pos rfl]
    | succ i =>
      have h : l[i]? = some k := h
      have m := List.mem_of_getElem? h
      rw [if_neg (fun z : a = k => (List.nodup_cons.mp nd).1 (z ▸ m)), ih (List.nodup_cons.mp nd).2 h]
      rfl
/-- the map that follow makes -/
def fol (y z : Bool) : Int → List Int → List (Vl × Vl) → List (Vl × Vl)
  | _, [], l => l
  | f, k :: ks, l => fol y z (f + 1) ks (if Vl.ptr z f = Vl.ptr y k then l else pt l (.ptr y k) (.ptr z f))
/-- what is put, whether it moves or not -/
def folL (y z : Bool) : Int → List Int → List (Vl × Vl) → List (Vl × Vl)
  | _, [], l => l
  | f, k :: ks, l => folL y z (f + 1) ks (pt l (.ptr y k) (.ptr z f))
def mvF (y z : Bool) (f : Int) (ks : List Int) (g : Vl → Vl) : Vl → Vl
  | .ptr x k => if x = y then (match posI ks k with
    | some i => .ptr z (f + i)
    | none => g (.ptr x k)) else g (.ptr x k)
  | v => g v
theorem fol_ptrK {y z : Bool} : ∀ {ks : List Int} {f : Int} {l : List (Vl × Vl)}, ptrK l → ptrK (fol y z f ks l)
  | [], f, l, h => h
  | k :: ks, f, l, h => by
    unfold fol
    split
    · exact fol_ptrK h
    · exact fol_ptrK (ptrK_pt h rfl)
theorem folL_ptrK {y z : Bool} : ∀ {ks : List Int} {f : Int} {l : List (Vl × Vl)}, ptrK l → ptrK (folL y z f ks l)
  | [], f, l, h => h
  | k :: ks, f, l, h => by
    unfold folL
    exact folL_ptrK (ptrK_pt h rfl)
theorem fol_len {y z : Bool} : ∀ {ks : List Int} {f : Int} {l : List (Vl × Vl)}, (fol y z f ks l).length ≤ l.length + ks.length
  | [], f, l => Nat.le_refl _
  | k :: ks, f, l => by
    unfold fol
    have h1 := fol_len (y := y) (z := z) (ks := ks) (f := f + 1) (l := l)
    have h2 := fol_len (y := y) (z := z) (ks := ks) (f := f + 1) (l := pt l (.ptr y k) (.ptr z f))
    have h3 := pt_len (l := l) (v := .ptr y k) (x := .ptr z f)
    rw [List.length_cons]
    split <;> omega
theorem folL_len {y z : Bool} : ∀ {ks : List Int} {f : Int} {l : List (Vl × Vl)}, (folL y z f ks l).length ≤ l.length + ks.length
  | [], f, l => Nat.le_refl _
  | k :: ks, f, l => by
    unfold folL
    have h2 := folL_len (y := y) (z := z) (ks := ks) (f := f + 1) (l := pt l (.ptr y k) (.ptr z f))
    have h3 := pt_len (l := l) (v := .ptr y k) (x := .ptr z f)
    rw [List.length_cons]
    omega
theorem fol_lk {y z : Bool} {v : Vl} : ∀ {ks : List Int} {f : Int} {l : List (Vl × Vl)}, (∀ k ∈ ks, v ≠ .ptr y k) → lk (fol y z f ks l) v = lk l v
  | [], f, l, h => rfl
  | k :: ks, f, l, h => by
    unfold fol
    rw [fol_lk fun j m => h j (List.mem_cons_of_mem _ m)]
    split
    · rfl
    · rw [lk_pt, if_neg (h k List.mem_cons_self)]
theorem folL_lk {y z : Bool} {v : Vl} : ∀ {ks : List Int} {f : Int} {l : List (Vl × Vl)}, (∀ k ∈ ks, v ≠ .ptr y k) → lk (folL y z f ks l) v = lk l v
  | [], f, l, h => rfl
  | k :: ks, f, l, h => by
    unfold folL
    rw [folL_lk fun j m => h j (List.mem_cons_of_mem _ m), lk_pt, if_neg (h k List.mem_cons_self)]
theorem mvF_y {y z : Bool} {f k : Int} {ks : List Int} {g : Vl → Vl} {i : Nat} (h : posI ks k = some i) : mvF y z f ks g (.ptr y k) = .ptr z (f + i) := by
  show (if y = y then (match posI ks k with
    | some i => Vl.ptr z (f + i)
    | none => g (.ptr y k)) else g (.ptr y k)) = _
  rw [if_pos rfl, h]
theorem mvF_n {y z : Bool} {f k : Int} {ks : List Int} {g : Vl → Vl} (h : posI ks k = none) : mvF y z f ks g (.ptr y k) = g (.ptr y k) := by
  show (if y = y then (match posI ks k with
    | some i => Vl.ptr z (f + i)
    | none => g (.ptr y k)) else g (.ptr y k)) = _
  rw [if_pos rfl, h]
theorem mvF_x {x y z : Bool} {f k : Int} {ks : List Int} {g : Vl → Vl} (h : x ≠ y) : mvF y z f ks g (.ptr x k) = g (.ptr x k) := if_neg h
theorem mvF_g {y z : Bool} {f : Int} {ks : List Int} {g g' : Vl → Vl} {v : Vl} (e : g v = g' v) : mvF y z f ks g v = mvF y z f ks g' v := by
  cases v with
  | non => exact e
  | int i => exact e
  | ptr x j =>
    unfold mvF
    simp only [e]
theorem mvF_c {y z : Bool} {f : Int} {k : Int} {ks : List Int} {g : Vl → Vl} (hk : k ∉ ks) (v : Vl) : mvF y z f (k :: ks) g v = if v = .ptr y k then .ptr z f else mvF y z (f + 1) ks g v := by
  cases v with
  | non => rfl
  | int i => rfl
  | ptr x j =>
    by_cases hx : x = y
    · subst hx
      by_cases hj : k = j
      · subst hj
        rw [if_pos rfl, mvF_y (i := 0) (by unfold posI; rw [if_pos rfl])]
        simp
      · have e2 : posI (k :: ks) j = (posI ks j).map (· + 1) := if_neg hj
        rw [if_neg (by intro z; cases z; exact hj rfl)]
        cases e : posI ks j with
        | none => rw [mvF_n e, mvF_n (by rw [e2, e]; rfl)]
        | some i =>
          rw [mvF_y e, mvF_y (i := i + 1) (by rw [e2, e]; rfl)]
          congr 1
          omega
    · rw [mvF_x hx, mvF_x hx, if_neg (by intro z; cases z; exact hx rfl)]
theorem folL_mv {y z : Bool} : ∀ {ks : List Int} {f : Int} {l : List (Vl × Vl)}, ks.Nodup → ∀ v, mv (folL y z f ks l) v = mvF y z f ks (mv l) v
  | [], f, l, _, v => by
    cases v <;> simp [folL, mvF, posI]
  | k :: ks, f, l, nd, v => by
    obtain ⟨h1, h2⟩ := List.nodup_cons.mp nd
    unfold folL
    rw [folL_mv h2, mvF_c h1]
    by_cases hv : v = .ptr y k
    · subst hv
      rw [if_pos rfl, mvF_n (posI_none.mpr h1)]
      unfold mv
      rw [lk_pt, if_pos rfl]
      rfl
    · rw [if_neg hv]
      have e : mv (pt l (.ptr y k) (.ptr z f)) v = mv l v := by
        unfold mv
        rw [lk_pt, if_neg hv]
      exact mvF_g e
theorem fol_mv {y z : Bool} : ∀ {ks : List Int} {f : Int} {l : List (Vl × Vl)}, ks.Nodup → (∀ k ∈ ks, lk l (.ptr y k) = none) → ∀ v, mv (fol y z f ks l) v = mvF y z f ks (mv l) v
  | [], f, l, _, _, v => by
    cases v <;> simp [fol, mvF, posI]
  | k :: ks, f, l, nd, hl, v => by
    obtain ⟨h1, h2⟩ := List.nodup_cons.mp nd
    unfold fol
    rw [mvF_c h1]
    by_cases hs : Vl.ptr z f = Vl.ptr y k
    · rw [if_pos hs, fol_mv h2 fun j m => hl j (List.mem_cons_of_mem _ m)]
      by_cases hv : v = .ptr y k
      · subst hv
        rw [if_pos rfl, hs, mvF_n (posI_none.mpr h1)]
        unfold mv
        rw [hl k List.mem_cons_self]
        rfl
      · rw [if_neg hv]
    · rw [if_neg hs, fol_mv h2 fun j m => by
        rw [lk_pt, if_neg (by intro e; cases e; exact h1 m)]
        exact hl j (List.mem_cons_of_mem _ m)]
      by_cases hv : v = .ptr y k
      · subst hv
        rw [if_pos rfl, mvF_n (posI_none.mpr h1)]
        unfold mv
        rw [lk_pt, if_pos rfl]
        rfl
      · rw [if_neg hv]
        have e : mv (pt l (.ptr y k) (.ptr z f)) v = mv l v := by
          unfold mv
          rw [lk_pt, if_neg hv]
        exact mvF_g e
end Kp

namespace Kp
open PySem L2 Fw Ma
theorem noX_of {m : List Sv → Rz Sv} {ss : List Sv} {s : Sv} (h : m ss = .ok s) : noX m ss = .ok s := by
  unfold noX
  rw [h]
theorem xGet_of {ρ : En} {i j : Nat} {l : List (Vl × Vl)} {v : Vl} (hk : ptrK l) (h1 : xVar i ρ = .ok (.d (mpD enc l))) (h2 : xVar j ρ = .ok (.p (enc v))) : xGet (xVar i) (xVar j) (xVar j) ρ = .ok (.p (enc (mv l v))) := by
  unfold xGet
  rw [h1, Rz.bind_ok]
  show ((xVar j ρ).bind fun t => (xVar j ρ).bind fun v => dgetD (mpD enc l) t v) = _
  rw [h2, Rz.bind_ok, Rz.bind_ok, dget_mp (hk v)]
  unfold mv
  cases lk l v <;> rfl
theorem get_comp {ρ : En} {src : XI} {i j : Nat} {l : List (Vl × Vl)} {vs : List Vl} (hk : ptrK l) (hs : src ρ = .ok (vs.map enc)) (hl : vs.length ≤ 1000000) (ht : ∀ v, ∃ ρ1, tgN j (enc v) (wipeE ρ [j]) = .ok ρ1 ∧ xVar i ρ1 = .ok (.d (mpD enc l)) ∧ xVar j ρ1 = .ok (.p (enc v))) :
    xLc src (tgN j) tYesD (xGet (xVar i) (xVar j) (xVar j)) [j] ρ = .ok (.l ((vs.map (mv l)).map enc)) := by
  refine xLc_ok (ys := (vs.map (mv l)).map enc) hs ?_ (by simp; exact hl)
  rw [List.map_map]
  refine lcD_map _ fun v hv => ?_
  obtain ⟨ρ1, h1, h2, h3⟩ := ht v
  exact ⟨ρ1, h1, xGet_of hk h2 h3⟩
theorem mled_ok (vs : List Vl) (l : List (Vl × Vl)) (hk : ptrK l) (hl : vs.length ≤ 1000000) : mled [.p (.tup (vs.map enc)), .d (mpD enc l)] = .ok (.p (.tup ((vs.map (mv l)).map enc))) := by
  have e := get_comp (ρ := [some (.v (.p (.tup (vs.map enc)))), some (.v (.d (mpD enc l))), none]) (src := srcV 0) (i := 1) (j := 2) hk rfl hl fun v => ⟨_, rfl, rfl, rfl⟩
  cases l with
  | nil =>
    have e2 : vs.map (mv []) = vs := by
      rw [show mv [] = id from rfl]
      simp
    rw [e2]
    rfl
  | cons p l =>
    refine congrArg outD (a₂ := .rt (.p (.tup ((vs.map (mv (p :: l))).map enc))) [some (.v (.p (.tup (vs.map enc)))), some (.v (.d (mpD enc (p :: l)))), none]) ?_
    rw [seq_nx (ρ' := [some (.v (.p (.tup (vs.map enc)))), some (.v (.d (mpD enc (p :: l)))), none]) (by rfl)]
    show ofR _ _ _ = _
    rw [xL_of (ss := [.l ((vs.map (mv (p :: l))).map enc)]) (r := .ok (.p (.tup ((vs.map (mv (p :: l))).map enc)))) (xC_of e rfl) rfl]
    rfl
/-! carried -/
def thAt (ts : List Th) (k : Int) : Th := ts.getD k.toNat ⟨0, []⟩
def mvT (g : Vl → Vl) (a : Int) (t : Th) : Th := ⟨t.age + a, t.fs.map g⟩
theorem thAt_e {ts : List Th} {k : Int} (h0 : 0 ≤ k) (h1 : k < ts.length) : (ts.map encT)[k.toNat]? = some (.tup [.int (thAt ts k).age, .tup ((thAt ts k).fs.map enc)]) := by
  have : k.toNat < ts.length := by omega
  unfold thAt
  simp [this, encT]
theorem thAt_m {ts : List Th} {k : Int} (h0 : 0 ≤ k) (h1 : k < ts.length) : thAt ts k ∈ ts := by
  have : k.toNat < ts.length := by omega
  unfold thAt
  simp [this]
theorem svI_of {s : Sv} {xs : List Dt} (hs : s = .p (.tup xs) ∨ s = .l xs) : svI (some (some (.v s))) = .ok xs := by
  rcases hs with rfl | rfl <;> rfl
theorem carried_ok (ts : List Th) (ps : List Int) (l : List (Vl × Vl)) (a : Int) (s : Sv) (hs : s = .p (.tup (ps.map Dt.int)) ∨ s = .l (ps.map Dt.int)) (hk : ptrK l) (hp : ∀ k ∈ ps, 0 ≤ k ∧ k < ts.length) (hl : ps.length ≤ 1000000) (hf : ∀ t ∈ ts, t.fs.length ≤ 1000000) :
    mcarried [.p (.tup (ts.map encT)), s, .d (mpD enc l), .p (.int a)] = .ok (.p (.tup ((ps.map fun k => mvT (mv l) a (thAt ts k)).map encT))) := by
  have e := lcD_map (tg := tgN 4) (el := (xL tupD (xCons (xB addD (xB ixD (xB ixD (xVar 0) (xVar 4)) (xC (.int 0))) (xVar 3)) (xCons (xL (chk 2 (noX mled)) (xCons (xB ixD (xB ixD (xVar 0) (xVar 4)) (xC (.int 1))) (xCons (xVar 2) xNil))) xNil)))) (ρ := [some (.v (.p (.tup (ts.map encT)))), some (.v s), some (.v (.d (mpD enc l))), some (.v (.p (.int a))), none]) (f := Dt.int) (fun k => encT (mvT (mv l) a (thAt ts k))) (xs := ps) fun k m => by
    obtain ⟨h0, h1⟩ := hp k m
    have e1 := thAt_e h0 h1
    have e2 := noX_of (mled_ok (thAt ts k).fs l hk (hf _ (thAt_m h0 h1)))
    refine ⟨[some (.v (.p (.tup (ts.map encT)))), some (.v s), some (.v (.d (mpD enc l))), some (.v (.p (.int a))), some (.v (.p (.int k)))], rfl, ?_⟩
    simp only [List.map_map] at e2
    simp [run_1, run_2, run_3, run_4, run_5, ev_C, ev_U, ev_B, ev_nil, ev_cons, ev_L, ev_tst, ev_and, ev_or, ev_not, ev_V, ev_if, ev_ch, ev_var0, ev_varS, ev_seq, ev_sif, ev_asg, ev_new, ev_unp, ev_ret, ev_retF, ev_drop, ev_snil, ev_raise, ev_for, sv_0, sv_S, setVs, op_mul_i, op_mod_i, op_div_i, op_p60, ev_whl, ev_nwM, ev_agM, ev_unM, ev_exM, ev_apM, ev_drM, ev_rtM, ev_ifM, ev_tM, ev_nM, ev_dpt, ev_rtO, ev_srcV0, ev_srcVS, ev_srcT, ev_app, ev_set, ev_aug, ev_slc, ev_sl0, ev_sl1, ix_t h0 e1, e2, encT, mvT]
  have e2 := xLc_ok (src := srcV 1) (vs := [4]) (ρ := [some (.v (.p (.tup (ts.map encT)))), some (.v s), some (.v (.d (mpD enc l))), some (.v (.p (.int a))), none]) (svI_of hs) e (by simp; exact hl)
  rw [List.map_map]
  show outD (ofR _ _ _) = _
  rw [show initE 4 5 [.p (.tup (ts.map encT)), s, .d (mpD enc l), .p (.int a)] = [some (.v (.p (.tup (ts.map encT)))), some (.v s), some (.v (.d (mpD enc l))), some (.v (.p (.int a))), none] from rfl]
  rw [xL_of (xC_of e2 rfl) (r := .ok (.p (.tup (ps.map fun k => encT (mvT (mv l) a (thAt ts k)))))) rfl]
  rfl
/-! follow -/
theorem enumD_c {i : Nat} {x : Dt} {r : List Dt} : enumD i (x :: r) = .tup [.int i, x] :: enumD (i + 1) r := rfl
theorem fol_c {y z : Bool} {f k : Int} {ks : List Int} {l : List (Vl × Vl)} : fol y z f (k :: ks) l = fol y z (f + 1) ks (if Vl.ptr z f = Vl.ptr y k then l else pt l (.ptr y k) (.ptr z f)) := rfl
def foU : XS := (sSeq (sAsg 7 (xL tupD (xCons (xVar 3) (xCons (xB addD (xVar 4) (xVar 5)) xNil))))
    (sIf (xTst blB (xB neD (xVar 7) (xL tupD (xCons (xVar 1) (xCons (xVar 6) xNil))))) (sDput 0 (xL tupD (xCons (xVar 1) (xCons (xVar 6) xNil))) (xVar 7)) sNil))
abbrev foE (l : List (Vl × Vl)) (y z : Bool) (s : Option Sl) (f : Int) (x5 x6 x7 : Option Sl) : En := [some (.o (.d (mpD enc l))), some (.v (.p (.str (wd y)))), s, some (.v (.p (.str (wd z)))), some (.v (.p (.int f))), x5, x6, x7]
theorem ne_ptr (u v : Vl) (pu : isP' u = true) (pv : isP' v = true) : neD (.p (enc u)) (.p (enc v)) = .ok (.p (.bl (!decide (u = v)))) := by
  cases u with
  | non => cases pu
  | int i => cases pu
  | ptr y k =>
    cases v with
    | non => cases pv
    | int i => cases pv
    | ptr z j =>
      have e1 : PyData.eqv (.tuple [.str (wd y), .int k]) (.tuple [.str (wd z), .int j]) = decide (Vl.ptr y k = Vl.ptr z j) := by
        have e2 : PyData.eqv (.tuple [.str (wd y), .int k]) (.tuple [.str (wd z), .int j]) = ((wd y == wd z) && (k == j)) := by simp [PyData.eqv, PyData.eqvAll]
        rw [e2]
        by_cases h : Vl.ptr y k = Vl.ptr z j
        · cases h
          simp
        · rw [decide_eq_false h]
          by_cases h2 : wd y = wd z
          · have h3 : k ≠ j := fun e => h (by rw [e, wd_inj h2])
            simp [h3]
          · simp [h2]
      have hs : ∀ (y : Bool) (k : Int), SeqAt.shaped (.tuple [.str (wd y), .int k]) = true := fun y k => by simp [SeqAt.shaped, PyData.canLay0, PyData.canLayAll0, PyData.depth, PyData.depthAll, ok_wd]
      show (if SeqAt.shaped (.tuple [.str (wd y), .int k]) = true ∧ SeqAt.shaped (.tuple [.str (wd z), .int j]) = true then Rz.ok (Sv.p (.bl (!PyData.eqv (.tuple [.str (wd y), .int k]) (.tuple [.str (wd z), .int j])))) else .stuck) = _
      rw [if_pos ⟨hs y k, hs z j⟩, e1]
theorem foU_ok (l : List (Vl × Vl)) (y z : Bool) (s : Option Sl) (f : Int) (i : Nat) (k : Int) (x7 : Option Sl) (hl : l.length < 900000) : ∃ y7, foU (foE l y z s f (some (.v (.p (.int i)))) (some (.v (.p (.int k)))) x7) = .nx (foE (if Vl.ptr z (f + i) = Vl.ptr y k then l else pt l (.ptr y k) (.ptr z (f + i))) y z s f (some (.v (.p (.int i)))) (some (.v (.p (.int k)))) y7) := by
  refine ⟨some (.v (.p (enc (.ptr z (f + i))))), ?_⟩
  have e1 := ne_ptr (.ptr z (f + i)) (.ptr y k) rfl rfl
  have e2 : ddO (some (some (.o (.d (mpD enc l))))) (.ok (.p (enc (.ptr z (f + i))))) (.ok (.p (enc (.ptr y k)))) 0 (foE l y z s f (some (.v (.p (.int i)))) (some (.v (.p (.int k)))) (some (.v (.p (enc (.ptr z (f + i))))))) = .nx (foE (pt l (.ptr y k) (.ptr z (f + i))) y z s f (some (.v (.p (.int i)))) (some (.v (.p (.int k)))) (some (.v (.p (enc (.ptr z (f + i))))))) := by
    rw [ddO_ok (f := enc) (by omega)]
    rfl
  unfold foU
  rw [seq_nx (ρ' := foE l y z s f (some (.v (.p (.int i)))) (some (.v (.p (.int k)))) (some (.v (.p (enc (.ptr z (f + i))))))) (by rfl)]
  by_cases c : Vl.ptr z (f + i) = Vl.ptr y k
  · rw [if_pos c]
    rw [decide_eq_true c] at e1
    unfold enc at e1
    simp [run_1, run_2, run_3, run_4, run_5, ev_C, ev_U, ev_B, ev_nil, ev_cons, ev_L, ev_tst, ev_and, ev_or, ev_not, ev_V, ev_if, ev_ch, ev_var0, ev_varS, ev_seq, ev_sif, ev_asg, ev_new, ev_unp, ev_ret, ev_retF, ev_drop, ev_snil, ev_raise, ev_for, sv_0, sv_S, setVs, op_mul_i, op_mod_i, op_div_i, op_p60, ev_whl, ev_nwM, ev_agM, ev_unM, ev_exM, ev_apM, ev_drM, ev_rtM, ev_ifM, ev_tM, ev_nM, ev_dpt, ev_rtO, ev_srcV0, ev_srcVS, ev_srcT, ev_app, ev_set, ev_aug, ev_slc, ev_sl0, ev_sl1, enc, e1]
  · rw [if_neg c]
    rw [decide_eq_false c] at e1
    unfold enc at e1 e2
    simp [run_1, run_2, run_3, run_4, run_5, ev_C, ev_U, ev_B, ev_nil, ev_cons, ev_L, ev_tst, ev_and, ev_or, ev_not, ev_V, ev_if, ev_ch, ev_var0, ev_varS, ev_seq, ev_sif, ev_asg, ev_new, ev_unp, ev_ret, ev_retF, ev_drop, ev_snil, ev_raise, ev_for, sv_0, sv_S, setVs, op_mul_i, op_mod_i, op_div_i, op_p60, ev_whl, ev_nwM, ev_agM, ev_unM, ev_exM, ev_apM, ev_drM, ev_rtM, ev_ifM, ev_tM, ev_nM, ev_dpt, ev_rtO, ev_srcV0, ev_srcVS, ev_srcT, ev_app, ev_set, ev_aug, ev_slc, ev_sl0, ev_sl1, enc, e1]
    exact e2
theorem fo_loop (y z : Bool) (s : Option Sl) (f : Int) : ∀ (ks : List Int) (i : Nat) (l : List (Vl × Vl)) (x5 x6 x7 : Option Sl), l.length + ks.length < 900000 → ∃ y5 y6 y7, forD (tgT [5, 6]) foU (enumD i (ks.map Dt.int)) (foE l y z s f x5 x6 x7) = .nx (foE (fol y z (f + i) ks l) y z s f y5 y6 y7)
  | [], i, l, x5, x6, x7, _ => ⟨x5, x6, x7, rfl⟩
  | k :: ks, i, l, x5, x6, x7, h => by
    rw [List.length_cons] at h
    obtain ⟨z7, e⟩ := foU_ok l y z s f i k x7 (by omega)
    obtain ⟨y5, y6, y7, e2⟩ := fo_loop y z s f ks (i + 1) (if Vl.ptr z (f + i) = Vl.ptr y k then l else pt l (.ptr y k) (.ptr z (f + i))) (some (.v (.p (.int i)))) (some (.v (.p (.int k)))) z7 (by
      have := pt_len (l := l) (v := .ptr y k) (x := .ptr z (f + i))
      split <;> omega)
    refine ⟨y5, y6, y7, ?_⟩
    rw [List.map_cons, enumD_c, forD_c' (show tgT [5, 6] _ (foE l y z s f x5 x6 x7) = .ok (foE l y z s f (some (.v (.p (.int i)))) (some (.v (.p (.int k)))) x7) from rfl) e, e2]
    rw [fol_c, show f + ((i + 1 : Nat) : Int) = f + i + 1 by omega]
theorem follow_ok (l : List (Vl × Vl)) (y z : Bool) (s : Sv) (ps : List Int) (f : Int) (hs : s = .p (.tup (ps.map Dt.int)) ∨ s = .l (ps.map Dt.int)) (hl : l.length + ps.length < 900000) : mfollow [.d (mpD enc l), .p (.str (wd y)), s, .p (.str (wd z)), .p (.int f)] = .ok (.p .non, [.d (mpD enc (fol y z f ps l))]) := by
  obtain ⟨y5, y6, y7, e⟩ := fo_loop y z (some (.v s)) f ps 0 l none none none hl
  rw [show f + ((0 : Nat) : Int) = f by omega] at e
  have es : srcE 2 (foE l y z (some (.v s)) f none none none) = .ok (enumD 0 (ps.map Dt.int)) := by rcases hs with rfl | rfl <;> rfl
  show outM [0] _ = _
  have e1 : (sFor (srcE 2) (tgT [5, 6]) foU) (foE l y z (some (.v s)) f none none none) = .nx (foE (fol y z f ps l) y z (some (.v s)) f y5 y6 y7) := by
    show ofR _ _ _ = _
    rw [es]
    exact e
  refine Eq.trans (congrArg (outM [0]) e1) ?_
  exact oM_nx rfl
end Kp

namespace Kp
open PySem L2 Fw Ma
/-! pairs -/
theorem lc2D_fm {α β : Type} {f : α → Dt} {f2 : β → Dt} {tg : Tg} {t : XT} {src1 : XI} {tg1 : Tg} {t1 : XT} {el : XE} {vs1 : List Nat} {ρ : En} (g : α → List β) : ∀ {xs : List α}, (∀ x ∈ xs, ∃ ρ1 ys, tg (f x) ρ = .ok ρ1 ∧ t ρ1 = .ok true ∧ src1 ρ1 = .ok ys ∧ lcD tg1 t1 el ys (wipeE ρ1 vs1) = .ok ((g x).map f2)) → lc2D tg t src1 tg1 t1 el vs1 (xs.map f) ρ = .ok ((xs.flatMap g).map f2)
  | [], _ => rfl
  | x :: xs, h => by
    obtain ⟨ρ1, ys, h1, h2, h3, h4⟩ := h x List.mem_cons_self
    have ih := lc2D_fm g (xs := xs) fun y hy => h y (List.mem_cons_of_mem _ hy)
    rw [List.map_cons, List.flatMap_cons, List.map_append]
    unfold lc2D
    rw [h1, Rz.bind_ok, h2, Rz.bind_ok, if_pos rfl, h3, Rz.bind_ok, h4, Rz.bind_ok, ih, Rz.bind_ok]
def rowOf (ts : List Th) (k : Int) : List (Int × Int) := rowFrom k.toNat 0 (thAt ts k).fs
theorem row_comp (i : Int) (h0 : 0 ≤ i) (a0 a1 : Option Sl) : ∀ (vs : List Vl) (k : Nat) (a3 a4 : Option Sl), lcD (tgT [3, 4]) (xTst blB (xL (chk 1 (noX mpoints_young)) (xCons (xVar 4) xNil))) (xL tupD (xCons (xVar 2) (xCons (xVar 3) xNil))) (enumD k (vs.map enc)) [a0, a1, some (.v (.p (.int i))), a3, a4] = .ok ((rowFrom i.toNat k vs).map encP)
  | [], k, a3, a4 => rfl
  | v :: vs, k, a3, a4 => by
    have ih := row_comp i h0 a0 a1 vs (k + 1) a3 a4
    have e := noX_of (points_young_ok v)
    rw [List.map_cons, enumD_c, rowFrom_c]
    unfold lcD
    rw [show tgT [3, 4] (Dt.tup [.int k, enc v]) [a0, a1, some (.v (.p (.int i))), a3, a4] = .ok [a0, a1, some (.v (.p (.int i))), some (.v (.p (.int k))), some (.v (.p (enc v)))] from rfl, Rz.bind_ok]
    have e2 : (xTst blB (xL (chk 1 (noX mpoints_young)) (xCons (xVar 4) xNil))) [a0, a1, some (.v (.p (.int i))), some (.v (.p (.int k))), some (.v (.p (enc v)))] = .ok (ptY v) := by
      simp [run_1, run_2, run_3, run_4, run_5, ev_C, ev_U, ev_B, ev_nil, ev_cons, ev_L, ev_tst, ev_and, ev_or, ev_not, ev_V, ev_if, ev_ch, ev_var0, ev_varS, ev_seq, ev_sif, ev_asg, ev_new, ev_unp, ev_ret, ev_retF, ev_drop, ev_snil, ev_raise, ev_for, sv_0, sv_S, setVs, op_mul_i, op_mod_i, op_div_i, op_p60, ev_whl, ev_nwM, ev_agM, ev_unM, ev_exM, ev_apM, ev_drM, ev_rtM, ev_ifM, ev_tM, ev_nM, ev_dpt, ev_rtO, ev_srcV0, ev_srcVS, ev_srcT, ev_app, ev_set, ev_aug, ev_slc, ev_sl0, ev_sl1, e]
    rw [e2, Rz.bind_ok, ih]
    cases ptY v
    · rfl
    · show Rz.ok _ = Rz.ok _
      congr 1
      show Dt.tup [.int i, .int k] :: _ = encP _ :: _
      unfold encP
      rw [show ((i.toNat : Nat) : Int) = i by omega]
theorem rowFrom_len' (i : Nat) : ∀ (k : Nat) (l : List Vl), (rowFrom i k l).length ≤ l.length
  | k, [] => Nat.le_refl _
  | k, v :: l => by
    have := rowFrom_len' i (k + 1) l
    rw [rowFrom_c]
    split <;> simp <;> omega
theorem pairs_ok (ts : List Th) (ps : List Int) (s : Sv) (hs : s = .p (.tup (ps.map Dt.int)) ∨ s = .l (ps.map Dt.int)) (hp : ∀ k ∈ ps, 0 ≤ k ∧ k < ts.length) (hl : (ps.flatMap (rowOf ts)).length ≤ 1000000) (hf : ∀ t ∈ ts, t.fs.length ≤ 1000000) :
    mpairs [.p (.tup (ts.map encT)), s] = .ok (.p (.tup ((ps.flatMap (rowOf ts)).map encP))) := by
  have e := lc2D_fm (f := Dt.int) (f2 := encP) (tg := tgN 2) (t := tYesD) (src1 := (srcET (xB ixD (xB ixD (xVar 0) (xVar 2)) (xC (.int 1))))) (tg1 := tgT [3, 4]) (t1 := (xTst blB (xL (chk 1 (noX mpoints_young)) (xCons (xVar 4) xNil)))) (el := (xL tupD (xCons (xVar 2) (xCons (xVar 3) xNil)))) (vs1 := [3, 4]) (ρ := [some (.v (.p (.tup (ts.map encT)))), some (.v s), none, none, none]) (rowOf ts) (xs := ps) fun k m => by
    obtain ⟨h0, h1⟩ := hp k m
    have e1 := ix_t h0 (thAt_e h0 h1)
    refine ⟨[some (.v (.p (.tup (ts.map encT)))), some (.v s), some (.v (.p (.int k))), none, none], enumD 0 ((thAt ts k).fs.map enc), rfl, rfl, ?_, row_comp k h0 _ _ _ 0 none none⟩
    unfold srcET
    have e2 : (xB ixD (xB ixD (xVar 0) (xVar 2)) (xC (.int 1))) [some (.v (.p (.tup (ts.map encT)))), some (.v s), some (.v (.p (.int k))), none, none] = .ok (.p (.tup ((thAt ts k).fs.map enc))) := by
      simp [run_1, run_2, run_3, run_4, run_5, ev_C, ev_U, ev_B, ev_nil, ev_cons, ev_L, ev_tst, ev_and, ev_or, ev_not, ev_V, ev_if, ev_ch, ev_var0, ev_varS, ev_seq, ev_sif, ev_asg, ev_new, ev_unp, ev_ret, ev_retF, ev_drop, ev_snil, ev_raise, ev_for, sv_0, sv_S, setVs, op_mul_i, op_mod_i, op_div_i, op_p60, ev_whl, ev_nwM, ev_agM, ev_unM, ev_exM, ev_apM, ev_drM, ev_rtM, ev_ifM, ev_tM, ev_nM, ev_dpt, ev_rtO, ev_srcV0, ev_srcVS, ev_srcT, ev_app, ev_set, ev_aug, ev_slc, ev_sl0, ev_sl1, e1]
    rw [e2]
    rfl
  have e3 : xLc2 (srcV 1) (tgN 2) tYesD (srcET (xB ixD (xB ixD (xVar 0) (xVar 2)) (xC (.int 1)))) (tgT [3, 4]) (xTst blB (xL (chk 1 (noX mpoints_young)) (xCons (xVar 4) xNil))) (xL tupD (xCons (xVar 2) (xCons (xVar 3) xNil))) [2, 3, 4] [3, 4] [some (.v (.p (.tup (ts.map encT)))), some (.v s), none, none, none] = .ok (.l ((ps.flatMap (rowOf ts)).map encP)) := by
    unfold xLc2
    rw [show srcV 1 [some (.v (.p (.tup (ts.map encT)))), some (.v s), none, none, none] = Rz.ok (ps.map Dt.int) from svI_of hs, Rz.bind_ok]
    refine (congrArg lcR e).trans ?_
    exact if_pos (by rw [List.length_map]; exact hl)
  show outD (ofR _ _ _) = _
  rw [show initE 2 5 [.p (.tup (ts.map encT)), s] = [some (.v (.p (.tup (ts.map encT)))), some (.v s), none, none, none] from rfl]
  rw [xL_of (xC_of e3 rfl) (r := .ok (.p (.tup ((ps.flatMap (rowOf ts)).map encP)))) rfl]
  rfl
theorem flat_len {ts : List Th} {n : Nat} (hf : ∀ t ∈ ts, t.fs.length ≤ n) : ∀ {ps : List Int}, (∀ k ∈ ps, 0 ≤ k ∧ k < ts.length) → (ps.flatMap (rowOf ts)).length ≤ n * ps.length
  | [], _ => Nat.le_refl _
  | k :: ps, h => by
    have ih := flat_len hf (ps := ps) fun j m => h j (List.mem_cons_of_mem _ m)
    obtain ⟨h0, h1⟩ := h k List.mem_cons_self
    have := rowFrom_len' k.toNat 0 (thAt ts k).fs
    have := hf _ (thAt_m h0 h1)
    rw [List.flatMap_cons, List.length_append, List.length_cons, Nat.mul_succ]
    unfold rowOf at *
    omega
theorem fm_congr {α β : Type} {f g : α → List β} : ∀ {l : List α}, (∀ x ∈ l, f x = g x) → l.flatMap f = l.flatMap g
  | [], _ => rfl
  | x :: l, h => by rw [List.flatMap_cons, List.flatMap_cons, h x List.mem_cons_self, fm_congr fun y m => h y (List.mem_cons_of_mem _ m)]
theorem book_flat : ∀ (ts : List Th) (i : Nat), bookFrom i ts = (List.range ts.length).flatMap fun j => rowFrom (i + j) 0 (ts.getD j ⟨0, []⟩).fs
  | [], i => rfl
  | t :: ts, i => by
    rw [bookFrom_c, book_flat ts (i + 1), List.length_cons, List.range_succ_eq_map, List.flatMap_cons, List.flatMap_map]
    congr 1
    refine fm_congr fun j _ => ?_
    rw [show i + 1 + j = i + (j + 1) by omega]
    rfl
def nX' (n : Nat) : List Int := (List.range n).map fun (i : Nat) => (i : Int)
theorem nX'_mem {n : Nat} {i : Int} : i ∈ nX' n ↔ 0 ≤ i ∧ i < n := by
  unfold nX'
  rw [List.mem_map]
  constructor
  · rintro ⟨k, hk, rfl⟩
    have := List.mem_range.mp hk
    omega
  · rintro ⟨h0, h1⟩
    exact ⟨i.toNat, List.mem_range.mpr (by omega), by omega⟩
theorem nX'_rise (n : Nat) : (nX' n).Pairwise (· < ·) := by
  refine List.pairwise_map.mpr ?_
  exact List.Pairwise.imp (R := fun a b : Nat => a < b) (fun {a b} h => by omega) List.pairwise_lt_range
theorem book_nX (ts : List Th) : bookFrom 0 ts = (nX' ts.length).flatMap (rowOf ts) := by
  rw [book_flat]
  unfold nX'
  rw [List.flatMap_map]
  refine fm_congr fun j _ => ?_
  rw [Nat.zero_add]
  rfl
theorem flat_filter {β : Type} {r : Int → List β} {p : Int → Bool} : ∀ {M : List Int}, (∀ x ∈ M, p x = false → r x = []) → (M.filter p).flatMap r = M.flatMap r
  | [], _ => rfl
  | x :: M, h => by
    have ih := flat_filter (p := p) (M := M) fun y m => h y (List.mem_cons_of_mem _ m)
    rw [List.filter_cons, List.flatMap_cons]
    cases e : p x
    · rw [if_neg (by decide), ih, h x List.mem_cons_self e]
      rfl
    · rw [if_pos rfl, List.flatMap_cons, ih]
theorem flat_pick {β : Type} {r : Int → List β} {L M : List Int} (hL : L.Pairwise (· < ·)) (hM : M.Pairwise (· < ·)) (h1 : ∀ x ∈ L, x ∈ M) (h2 : ∀ x ∈ M, x ∉ L → r x = []) : L.flatMap r = M.flatMap r := by
  have : L = M.filter fun x => decide (x ∈ L) := rise_uniq hL (hM.filter _) fun j => by
    rw [List.mem_filter]
    exact ⟨fun m => ⟨h1 j m, decide_eq_true m⟩, fun m => of_decide_eq_true m.2⟩
  rw [this]
  exact flat_filter fun x m e => h2 x m (of_decide_eq_false e)
theorem whole_book_ok (ts : List Th) (hl : ts.length ≤ 2000) (hf : ∀ t ∈ ts, t.fs.length ≤ 200) : mwhole_book [.p (.tup (ts.map encT))] = .ok (.p (.tup ((bookFrom 0 ts).map encP))) := by
  have hp : ∀ k ∈ nX' ts.length, 0 ≤ k ∧ k < ts.length := fun k m => nX'_mem.mp m
  have ln : (nX' ts.length).length = ts.length := by simp [nX']
  have e := pairs_ok ts (nX' ts.length) (.l ((nX' ts.length).map Dt.int)) (.inr rfl) hp (by have := flat_len hf hp; rw [ln] at this; omega) (fun t m => by have := hf t m; omega)
  rw [← book_nX] at e
  have e2 : xLRg (srcR1 (xL lenD (xCons (xVar 0) xNil))) [some (.v (.p (.tup (ts.map encT))))] = .ok (.l ((nX' ts.length).map Dt.int)) := by
    have e3 : srcR1 (xL lenD (xCons (xVar 0) xNil)) [some (.v (.p (.tup (ts.map encT))))] = .ok (rgD 0 ts.length) := by
      simp only [run_1, run_2, run_3, run_4, run_5, ev_C, ev_U, ev_B, ev_nil, ev_cons, ev_L, ev_tst, ev_and, ev_or, ev_not, ev_V, ev_if, ev_ch, ev_var0, ev_varS, ev_seq, ev_sif, ev_asg, ev_new, ev_unp, ev_ret, ev_retF, ev_drop, ev_snil, ev_raise, ev_for, sv_0, sv_S, setVs, op_mul_i, op_mod_i, op_div_i, op_p60, ev_whl, ev_nwM, ev_agM, ev_unM, ev_exM, ev_apM, ev_drM, ev_rtM, ev_ifM, ev_tM, ev_nM, ev_dpt, ev_rtO, ev_srcV0, ev_srcVS, ev_srcT, ev_app, ev_set, ev_aug, ev_slc, ev_sl0, ev_sl1, ev_src1, sl_v, sl_o, rC_ok, r1_ok, op_len_t, List.length_map]
      exact op_rng (by omega)
    unfold xLRg
    rw [e3, Rz.bind_ok]
    unfold rgD nX'
    rw [List.map_map, List.range_eq_range']
    congr 3
  show outD (ofR _ _ _) = _
  rw [show initE 1 1 [.p (.tup (ts.map encT))] = [some (.v (.p (.tup (ts.map encT))))] from rfl]
  rw [xL_of (f := chk 2 mpairs) (xC_of (s := .p (.tup (ts.map encT))) (by rfl) (xC_of e2 rfl)) (r := .ok (.p (.tup ((bookFrom 0 ts).map encP)))) e]
  rfl
end Kp

namespace Kp
open PySem L2 Fw Ma
/-! relinked -/
def rl (g : Vl → Vl) (p : List Int) (ts : List Th) : List Th := ts.mapIdx fun i t => if (i : Int) ∈ p then mvT g 0 t else t
theorem rl_nil {g : Vl → Vl} {ts : List Th} : rl g [] ts = ts := by
  refine List.ext_getElem? fun i => ?_
  unfold rl
  rw [List.getElem?_mapIdx]
  cases ts[i]? with
  | none => rfl
  | some t => exact congrArg some (if_neg (by simp))
theorem rl_len {g : Vl → Vl} {p : List Int} {ts : List Th} : (rl g p ts).length = ts.length := by simp [rl]
theorem rl_set {g : Vl → Vl} {p : List Int} {ts : List Th} {k : Int} (h0 : 0 ≤ k) (h1 : k < ts.length) : ((rl g p ts).map encT).set k.toNat (encT (mvT g 0 (thAt ts k))) = (rl g (p ++ [k]) ts).map encT := by
  refine List.ext_getElem? fun i => ?_
  rw [List.getElem?_set]
  unfold rl
  by_cases hi : k.toNat = i
  · rw [if_pos hi]
    subst hi
    have : k.toNat < ts.length := by omega
    rw [if_pos (by simp; omega)]
    have hk : ((k.toNat : Nat) : Int) = k := by omega
    unfold thAt
    simp [this, hk]
  · rw [if_neg hi]
    have e : (i : Int) ≠ k := by omega
    simp [e]
theorem rl_all {g : Vl → Vl} {p : List Int} {ts : List Th} (h : ∀ (i : Nat) (t : Th), ts[i]? = some t → (i : Int) ∉ p → ∀ v ∈ t.fs, g v = v) : rl g p ts = ts.map (mvT g 0) := by
  refine List.ext_getElem? fun i => ?_
  unfold rl
  rw [List.getElem?_mapIdx, List.getElem?_map]
  cases e : ts[i]? with
  | none => rfl
  | some t =>
    show some _ = some _
    congr 1
    split
    · rfl
    · rename_i c
      unfold mvT
      have : t.fs.map g = t.fs.map id := List.map_congr_left (h i t e c)
      rw [this]
      simp
def reU : XS := (sSeq (sUnp [5, 6] (xB ixD (xVar 0) (xVar 4)))
    (sSetL 3 (xVar 4) (xL tupD (xCons (xVar 5) (xCons (xL (chk 2 mled) (xCons (xVar 6) (xCons (xVar 2) xNil))) xNil)))))
theorem relinked_ok (ts : List Th) (ps : List Int) (l : List (Vl × Vl)) (s : Sv) (hs : s = .p (.tup (ps.map Dt.int)) ∨ s = .l (ps.map Dt.int)) (hk : ptrK l) (hp : ∀ k ∈ ps, 0 ≤ k ∧ k < ts.length) (hl : ts.length ≤ 1000000) (hf : ∀ t ∈ ts, t.fs.length ≤ 1000000) :
    mrelinked [.p (.tup (ts.map encT)), s, .d (mpD enc l)] = .ok (.p (.tup ((rl (mv l) ps ts).map encT))) := by
  let E (p : List Int) (x4 x5 x6 : Option Sl) : En := [some (.v (.p (.tup (ts.map encT)))), some (.v s), some (.v (.d (mpD enc l))), some (.o (.l ((rl (mv l) p ts).map encT))), x4, x5, x6]
  obtain ⟨ρ', e, x4, x5, x6, rfl⟩ := forD_list (f := Dt.int) (tg := tgN 4) (u := reU) (I := fun p ρ => ∃ x4 x5 x6, ρ = E p x4 x5 x6) ps [] (E [] none none none) (fun p q k ρ es ⟨x4, x5, x6, er⟩ => by
    subst er
    rw [List.nil_append] at es
    obtain ⟨h0, h1⟩ := hp k (by rw [es]; simp)
    have e1 := ix_t h0 (thAt_e h0 h1)
    have e2 := mled_ok (thAt ts k).fs l hk (hf _ (thAt_m h0 h1))
    refine ⟨E p (some (.v (.p (.int k)))) x5 x6, E (p ++ [k]) (some (.v (.p (.int k)))) (some (.v (.p (.int (thAt ts k).age)))) (some (.v (.p (.tup ((thAt ts k).fs.map enc))))), rfl, ?_, _, _, _, rfl⟩
    have e3 : stO (some (some (.o (.l ((rl (mv l) p ts).map encT))))) (.ok (.p (encT (mvT (mv l) 0 (thAt ts k))))) (.ok (.p (.int k))) 3 (E p (some (.v (.p (.int k)))) (some (.v (.p (.int (thAt ts k).age)))) (some (.v (.p (.tup ((thAt ts k).fs.map enc)))))) = .nx (E (p ++ [k]) (some (.v (.p (.int k)))) (some (.v (.p (.int (thAt ts k).age)))) (some (.v (.p (.tup ((thAt ts k).fs.map enc)))))) := by
      rw [stO_ok h0 (by rw [List.length_map, rl_len]; exact h1), rl_set h0 h1]
      rfl
    unfold reU
    rw [seq_nx (ρ' := E p (some (.v (.p (.int k)))) (some (.v (.p (.int (thAt ts k).age)))) (some (.v (.p (.tup ((thAt ts k).fs.map enc)))))) (by simp [run_1, run_2, run_3, run_4, run_5, ev_C, ev_U, ev_B, ev_nil, ev_cons, ev_L, ev_tst, ev_and, ev_or, ev_not, ev_V, ev_if, ev_ch, ev_var0, ev_varS, ev_seq, ev_sif, ev_asg, ev_new, ev_unp, ev_ret, ev_retF, ev_drop, ev_snil, ev_raise, ev_for, sv_0, sv_S, setVs, op_mul_i, op_mod_i, op_div_i, op_p60, ev_whl, ev_nwM, ev_agM, ev_unM, ev_exM, ev_apM, ev_drM, ev_rtM, ev_ifM, ev_tM, ev_nM, ev_dpt, ev_rtO, ev_srcV0, ev_srcVS, ev_srcT, ev_app, ev_set, ev_aug, ev_slc, ev_sl0, ev_sl1, e1, E])]
    have e4 : encT (mvT (mv l) 0 (thAt ts k)) = .tup [.int (thAt ts k).age, .tup ((thAt ts k).fs.map (enc ∘ mv l))] := by
      unfold encT mvT
      simp
    rw [e4] at e3
    rw [List.map_map] at e2
    simp only [E] at e3
    simp [run_1, run_2, run_3, run_4, run_5, ev_C, ev_U, ev_B, ev_nil, ev_cons, ev_L, ev_tst, ev_and, ev_or, ev_not, ev_V, ev_if, ev_ch, ev_var0, ev_varS, ev_seq, ev_sif, ev_asg, ev_new, ev_unp, ev_ret, ev_retF, ev_drop, ev_snil, ev_raise, ev_for, sv_0, sv_S, setVs, op_mul_i, op_mod_i, op_div_i, op_p60, ev_whl, ev_nwM, ev_agM, ev_unM, ev_exM, ev_apM, ev_drM, ev_rtM, ev_ifM, ev_tM, ev_nM, ev_dpt, ev_rtO, ev_srcV0, ev_srcVS, ev_srcT, ev_app, ev_set, ev_aug, ev_slc, ev_sl0, ev_sl1, e2, E]
    exact e3) ⟨none, none, none, rfl⟩
  rw [List.nil_append] at e
  have e0 : E [] none none none = [some (.v (.p (.tup (ts.map encT)))), some (.v s), some (.v (.d (mpD enc l))), some (.o (.l (ts.map encT))), none, none, none] := by
    simp only [E, rl_nil]
  refine congrArg outD (a₂ := .rt (.p (.tup ((rl (mv l) ps ts).map encT))) (E ps x4 x5 x6)) ?_
  rw [seq_nx (ρ' := E [] none none none) (by rw [e0]; rfl)]
  rw [seq_nx (ρ' := E ps x4 x5 x6) (by
    show ofR _ _ _ = _
    rw [show srcV 1 (E [] none none none) = .ok (ps.map Dt.int) from svI_of hs]
    exact e)]
  rfl
/-! a set, sorted -/
theorem fill_set {ρ : En} {n : Nat} : ∀ (ps : List (Int × Int)) (s : List Int), s.Nodup → (∀ i ∈ s, 0 ≤ i ∧ i < n) → (∀ p ∈ ps, 0 ≤ p.1 ∧ p.1 < n) → n < 4000 → (∀ p : Int × Int, ∃ ρ1, tgT [14, 15] (encP p) ρ = .ok ρ1 ∧ xVar 14 ρ1 = .ok (.p (.int p.1))) →
    ∃ r, fillD (tgT [14, 15]) tYesD (stSet (xVar 14)) (ps.map encP) ρ s = .ok r ∧ ∀ i, i ∈ r ↔ i ∈ s ∨ i ∈ ps.map (·.1)
  | [], s, _, _, _, _, _ => ⟨s, rfl, by simp⟩
  | p :: ps, s, nd, hs, hp, hn, ht => by
    obtain ⟨ρ1, h1, h2⟩ := ht p
    have hl : s.length ≤ n := by
      have h4 : (s.map fun i => i.toNat).Nodup := by
        refine List.pairwise_map.mpr (List.Pairwise.imp_of_mem (fun {a b} ma mb ne e => ne ?_) nd)
        have := hs a ma
        have := hs b mb
        omega
      have h5 : (s.map fun i => i.toNat) ⊆ List.range n := fun x m => by
        obtain ⟨i, hi, rfl⟩ := List.mem_map.mp m
        have := hs i hi
        exact List.mem_range.mpr (by omega)
      have h6 := List.Nodup.length_le_of_subset h4 h5
      simpa using h6
    have nd2 : (addU s p.1).Nodup := by
      unfold addU
      split
      · exact nd
      · rename_i c
        exact List.nodup_append.mpr ⟨nd, by simp, fun a ma b mb e => c (by rw [List.mem_singleton.mp mb] at e; rw [← e]; exact ma)⟩
    have mem : ∀ i, i ∈ addU s p.1 ↔ i ∈ s ∨ i = p.1 := fun i => by
      unfold addU
      split
      · rename_i c
        exact ⟨.inl, fun m => m.elim id fun e => e ▸ c⟩
      · simp
    obtain ⟨r, e, hr⟩ := fill_set ps (addU s p.1) nd2 (fun i m => by
      rcases (mem i).mp m with m | rfl
      · exact hs i m
      · exact hp p List.mem_cons_self) (fun q m => hp q (List.mem_cons_of_mem _ m)) hn ht
    refine ⟨r, ?_, fun i => by rw [hr, mem, List.map_cons, List.mem_cons, or_assoc]⟩
    rw [List.map_cons]
    unfold fillD
    rw [h1, Rz.bind_ok, show tYesD ρ1 = .ok true from rfl, Rz.bind_ok, if_pos rfl]
    have e2 : stSet (xVar 14) ρ1 s = .ok (addU s p.1) := by
      unfold stSet
      rw [h2, Rz.bind_ok]
      show (Rz.ok p.1).bind _ = _
      rw [Rz.bind_ok]
      exact if_pos (by omega)
    rw [e2, Rz.bind_ok]
    exact e
theorem filt_comp {ρ : En} {src : XI} {j : Nat} {t : XT} {ps : List Int} {c : Int → Bool} (hs : src ρ = .ok (ps.map Dt.int)) (hl : ps.length ≤ 1000000) (ht : ∀ k ∈ ps, ∃ ρ1, tgN j (.int k) (wipeE ρ [j]) = .ok ρ1 ∧ t ρ1 = .ok (c k) ∧ xVar j ρ1 = .ok (.p (.int k))) :
    xLc src (tgN j) t (xVar j) [j] ρ = .ok (.l ((ps.filter c).map Dt.int)) := by
  have e : (ps.filter c).map Dt.int = ps.filterMap fun k => if c k = true then some (Dt.int k) else none := by
    clear hl hs ht
    induction ps with
    | nil => rfl
    | cons a ps ih =>
      rw [List.filter_cons, List.filterMap_cons]
      cases h : c a
      · simpa using ih
      · simp [ih]
  refine xLc_ok hs ?_ (by rw [List.length_map]; have := List.length_filter_le c ps; omega)
  rw [e]
  refine lcD_fm (f := Dt.int) _ fun k hk => ?_
  obtain ⟨ρ1, h1, h2, h3⟩ := ht k hk
  refine ⟨ρ1, h1, ?_⟩
  cases h : c k
  · exact .inr ⟨by simp, by rw [h2, h]⟩
  · exact .inl ⟨_, by simp, by rw [h2, h], h3⟩
end Kp

namespace Kp
open PySem L2 Fw Ma
/-! the heap when its young half is gone through -/
def cmY (h : Hq) : List Int := plc true (metL h ptY (h.roots ++ bkVs h)) h.young.length
def stayM (h : Hq) (pat : Int) : List Int := (cmY h).filter fun k => decide ((thAt h.young k).age < pat)
def leaveM (h : Hq) (pat : Int) : List Int := (cmY h).filter fun k => decide (pat ≤ (thAt h.young k).age)
def phiM (h : Hq) (pat : Int) : Vl → Vl := mvF true false h.old.length (leaveM h pat) (mvF true true 0 (stayM h pat) id)
def oldM (h : Hq) (pat : Int) : List Th := h.old.map (mvT (phiM h pat) 0) ++ (leaveM h pat).map fun k => mvT (phiM h pat) 0 (thAt h.young k)
def minorH (h : Hq) (pat : Int) : Hq := ⟨(stayM h pat).map fun k => mvT (phiM h pat) 1 (thAt h.young k), oldM h pat, h.roots.map (phiM h pat), bookFrom 0 (oldM h pat)⟩
theorem cmY_in {h : Hq} {k : Int} (m : k ∈ cmY h) : 0 ≤ k ∧ k < h.young.length := ⟨(plc_mem.mp m).1, (plc_mem.mp m).2.1⟩
theorem cmY_nd (h : Hq) : (cmY h).Nodup := (plc_rise _ _ _).imp fun {a b} l => by omega
theorem stay_nd (h : Hq) (pat : Int) : (stayM h pat).Nodup := (cmY_nd h).filter _
theorem leave_nd (h : Hq) (pat : Int) : (leaveM h pat).Nodup := (cmY_nd h).filter _
theorem stay_in {h : Hq} {pat k : Int} (m : k ∈ stayM h pat) : 0 ≤ k ∧ k < h.young.length := cmY_in (List.mem_filter.mp m).1
theorem leave_in {h : Hq} {pat k : Int} (m : k ∈ leaveM h pat) : 0 ≤ k ∧ k < h.young.length := cmY_in (List.mem_filter.mp m).1
theorem stay_not {h : Hq} {pat k : Int} (m : k ∈ leaveM h pat) : k ∉ stayM h pat := fun m2 => by
  have h1 := of_decide_eq_true (List.mem_filter.mp m).2
  have h2 := of_decide_eq_true (List.mem_filter.mp m2).2
  omega
theorem cm_len (h : Hq) : (cmY h).length ≤ h.young.length := plc_len _ _ _
theorem stay_len (h : Hq) (pat : Int) : (stayM h pat).length ≤ h.young.length := Nat.le_trans (List.length_filter_le _ _) (cm_len h)
theorem leave_len (h : Hq) (pat : Int) : (leaveM h pat).length ≤ h.young.length := Nat.le_trans (List.length_filter_le _ _) (cm_len h)
def nowM (h : Hq) (pat : Int) : List (Vl × Vl) := fol true false h.old.length (leaveM h pat) (fol true true 0 (stayM h pat) [])
theorem nowM_k (h : Hq) (pat : Int) : ptrK (nowM h pat) := fol_ptrK (fol_ptrK ptrK_nil)
theorem nowM_mv (h : Hq) (pat : Int) : mv (nowM h pat) = phiM h pat := by
  funext v
  unfold nowM phiM
  rw [fol_mv (leave_nd h pat) fun k m => by
    rw [fol_lk fun j mj e => by cases e; exact stay_not m mj]
    rfl]
  exact mvF_g (fol_mv (stay_nd h pat) (fun _ _ => rfl) v)
theorem phiM_np {h : Hq} {pat : Int} {v : Vl} (hv : ptY v = false) : phiM h pat v = v := by
  cases v with
  | non => rfl
  | int i => rfl
  | ptr y k =>
    cases y
    · unfold phiM
      rw [mvF_x (by decide), mvF_x (by decide)]
      rfl
    · cases hv
theorem srng2 {x y : XE} {ρ : En} {a b : Nat} (hx : x ρ = .ok (.p (.int a))) (hy : y ρ = .ok (.p (.int b))) (ha : a ≤ 1000000) (hb : b ≤ 1000000) : srcR2 x y ρ = .ok ((rgD a (b - a))) := by
  unfold srcR2
  rw [hx, Rz.bind_ok, hy, Rz.bind_ok]
  unfold rngI
  refine (if_pos (by omega)).trans ?_
  unfold rgD
  congr 1
  rw [show ((b : Int) - (a : Int)).toNat = b - a by omega, List.range'_eq_map_range, List.map_map]
  congr 1
def lookM (h : Hq) (told : List Int) (n : Nat) : List Int := told ++ (List.range' h.old.length (n - h.old.length)).map fun (i : Nat) => (i : Int)
theorem old_len (h : Hq) (pat : Int) : (oldM h pat).length = h.old.length + (leaveM h pat).length := by simp [oldM]
theorem old_fs {h : Hq} (G : So h) (pat : Int) : ∀ t ∈ oldM h pat, t.fs.length ≤ 200 := fun t m => by
  unfold oldM at m
  rcases List.mem_append.mp m with m | m
  · obtain ⟨u, mu, rfl⟩ := List.mem_map.mp m
    have := G.fo u mu
    simpa [mvT] using this
  · obtain ⟨k, mk, rfl⟩ := List.mem_map.mp m
    have := G.fy _ (thAt_m (leave_in mk).1 (leave_in mk).2)
    simpa [mvT] using this
theorem look_flat {h : Hq} (G : So h) (pat : Int) {told : List Int} (hr : told.Pairwise (· < ·)) (hm : ∀ i, i ∈ told ↔ i ∈ h.book.map (·.1)) : (∀ k ∈ lookM h told (oldM h pat).length, 0 ≤ k ∧ k < (oldM h pat).length) ∧ (lookM h told (oldM h pat).length).flatMap (rowOf (oldM h pat)) = bookFrom 0 (oldM h pat) := by
  have ln := old_len h pat
  have told_in : ∀ i ∈ told, 0 ≤ i ∧ i < h.old.length := fun i m => by
    obtain ⟨p, mp, rfl⟩ := List.mem_map.mp ((hm i).mp m)
    obtain ⟨j, k, t, v, rfl, h1, h2, h3, h4⟩ := G.book mp
    have := (List.getElem?_eq_some_iff.mp h1).1
    simp
    omega
  have hin : ∀ k ∈ lookM h told (oldM h pat).length, 0 ≤ k ∧ k < (oldM h pat).length := fun k m => by
    unfold lookM at m
    rcases List.mem_append.mp m with m | m
    · have := told_in k m
      omega
    · obtain ⟨i, mi, rfl⟩ := List.mem_map.mp m
      obtain ⟨j, hj, rfl⟩ := List.mem_range'.mp mi
      omega
  refine ⟨hin, ?_⟩
  rw [book_nX]
  refine flat_pick ?_ (nX'_rise _) (fun k m => nX'_mem.mpr (hin k m)) fun k m nm => ?_
  · unfold lookM
    refine List.pairwise_append.mpr ⟨hr, ?_, fun a ma b mb => ?_⟩
    · refine List.pairwise_map.mpr ?_
      exact List.Pairwise.imp (R := fun a b : Nat => a < b) (fun {a b} h => by omega) List.pairwise_lt_range'
    · obtain ⟨i, mi, rfl⟩ := List.mem_map.mp mb
      obtain ⟨j, hj, rfl⟩ := List.mem_range'.mp mi
      have := told_in a ma
      omega
  · obtain ⟨k0, k1⟩ := nX'_mem.mp m
    unfold lookM at nm
    have n1 : k ∉ told := fun z => nm (List.mem_append_left _ z)
    have kl : k < h.old.length := by
      by_cases c : k < h.old.length
      · exact c
      · exact absurd (List.mem_append_right _ (List.mem_map.mpr ⟨k.toNat, List.mem_range'.mpr ⟨k.toNat - h.old.length, by omega, by omega⟩, by omega⟩)) nm
    have e1 : thAt (oldM h pat) k = mvT (phiM h pat) 0 (thAt h.old k) := by
      have : k.toNat < h.old.length := by omega
      unfold thAt oldM
      rw [List.getD_eq_getElem?_getD, List.getD_eq_getElem?_getD, List.getElem?_append_left (by simpa using this), List.getElem?_map]
      simp [this]
    have e2 : ∀ v ∈ (thAt h.old k).fs, ptY v = false := fun v mv => by
      cases c : ptY v
      · rfl
      · refine absurd ((hm k).mpr ?_) n1
        obtain ⟨i, hi, e⟩ := List.mem_iff_getElem.mp mv
        have : k.toNat < h.old.length := by omega
        have := bookFrom_in (i := 0) (j := k.toNat) (k := i) (l := h.old) (t := thAt h.old k) (v := v) (by unfold thAt; simp [this]) (by rw [List.getElem?_eq_getElem hi, e]) c
        rw [Nat.zero_add, ← G.bk] at this
        exact List.mem_map.mpr ⟨_, this, by simp; omega⟩
    unfold rowOf
    rw [e1]
    have e3 : (mvT (phiM h pat) 0 (thAt h.old k)).fs = (thAt h.old k).fs := by
      show (thAt h.old k).fs.map (phiM h pat) = _
      have : (thAt h.old k).fs.map (phiM h pat) = (thAt h.old k).fs.map id := List.map_congr_left fun v mv => phiM_np (e2 v mv)
      rw [this]
      simp
    rw [e3]
    have e4 : ∀ (l : List Vl) (i j : Nat), (∀ v ∈ l, ptY v = false) → rowFrom i j l = [] := by
      intro l
      induction l with
      | nil => intro i j _; rfl
      | cons a l ih =>
        intro i j hl
        rw [rowFrom_c, hl a List.mem_cons_self, if_neg (by decide)]
        exact ih i (j + 1) fun v mv => hl v (List.mem_cons_of_mem _ mv)
    exact e4 _ _ _ e2
theorem am_d {x : XE} {r : List Ag} {ρ : En} {s : Sv} {ss : List Sv} (h : x ρ = .ok s) (h2 : evAM r ρ = .ok ss) : evAM (.d x :: r) ρ = .ok (s :: ss) := by
  unfold evAM
  rw [h, Rz.bind_ok, h2, Rz.bind_ok]
theorem am_f {x : XE} {r : List Ag} {ρ : En} {s : Sv} {ss : List Sv} (h : x ρ = .ok s) (h2 : evAM r ρ = .ok ss) : evAM (.f x :: r) ρ = .ok (s :: ss) := by
  unfold evAM
  rw [h, Rz.bind_ok, h2, Rz.bind_ok]
theorem am_s {i : Nat} {r : List Ag} {ρ : En} {s : Sv} {ss : List Sv} (h : xVar i ρ = .ok s) (h2 : evAM r ρ = .ok ss) : evAM (.s i :: r) ρ = .ok (s :: ss) := by
  unfold evAM
  rw [h, Rz.bind_ok, h2, Rz.bind_ok]
theorem minor_ok (h : Hq) (G : So h) (pat : Int) : mminor [.p (encH h), .p (.int pat)] = .ok (.p (encH (minorH h pat))) := by
  have ly := G.ly
  have lo := G.lo
  have lr := G.lr
  have lb := bk_len G
  have lc := cm_len h
  have ls := stay_len h pat
  have ll := leave_len h pat
  have ln := old_len h pat
  have E0 := come_young_ok h G
  change mcome_young _ = .ok (.p (.tup ((cmY h).map Dt.int))) at E0
  -- the set of the book's places
  obtain ⟨r, er, hr⟩ := fill_set (ρ := [some (.v (.p (encH h))), some (.v (.p (.int pat))), some (.v (.p (.tup ((cmY h).map Dt.int)))), some (.v (.l ((leaveM h pat).map Dt.int))), some (.v (.l ((stayM h pat).map Dt.int))), some (.o (.d (mpD enc (nowM h pat)))), none, none, none, none, some (.v (.p (.tup (h.young.map encT)))), some (.v (.p (.tup (h.old.map encT)))), some (.v (.p (.tup (h.roots.map enc)))), some (.v (.p (.tup (h.book.map encP)))), none, none]) (n := h.old.length) h.book [] List.nodup_nil (fun i m => by cases m) (fun p mp => by
    obtain ⟨j, k, t, v, rfl, h1, h2, h3, h4⟩ := G.book mp
    have := (List.getElem?_eq_some_iff.mp h1).1
    simp
    omega) (by omega) (fun p => ⟨_, rfl, rfl⟩)
  have hm : ∀ i, i ∈ incr r ↔ i ∈ h.book.map (·.1) := fun i => by rw [incr_mem, hr]; simp
  obtain ⟨L1, L2⟩ := look_flat G pat (incr_rise r) hm
  have told_in : ∀ i ∈ incr r, 0 ≤ i ∧ i < h.old.length := fun i m => by
    obtain ⟨p, mp, rfl⟩ := List.mem_map.mp ((hm i).mp m)
    obtain ⟨j, k, t, v, rfl, h1, h2, h3, h4⟩ := G.book mp
    have := (List.getElem?_eq_some_iff.mp h1).1
    simp
    omega
  have told_len : (incr r).length ≤ 2000 := by
    have nd : (incr r).Nodup := (incr_rise r).imp fun {a b} l => by omega
    have h4 : ((incr r).map fun i => i.toNat).Nodup := by
      refine List.pairwise_map.mpr (List.Pairwise.imp_of_mem (fun {a b} ma mb ne e => ne ?_) nd)
      have := told_in a ma
      have := told_in b mb
      omega
    have h5 : ((incr r).map fun i => i.toNat) ⊆ List.range h.old.length := fun x m => by
      obtain ⟨i, hi, rfl⟩ := List.mem_map.mp m
      have := told_in i hi
      exact List.mem_range.mpr (by omega)
    have h6 := List.Nodup.length_le_of_subset h4 h5
    simp at h6
    omega
  let B (x2 x3 x4 x5 x6 x7 x8 x9 : Option Sl) : En := [some (.v (.p (encH h))), some (.v (.p (.int pat))), x2, x3, x4, x5, x6, x7, x8, x9, some (.v (.p (.tup (h.young.map encT)))), some (.v (.p (.tup (h.old.map encT)))), some (.v (.p (.tup (h.roots.map enc)))), some (.v (.p (.tup (h.book.map encP)))), none, none]
  let c2 : Option Sl := some (.v (.p (.tup ((cmY h).map Dt.int))))
  let c3 : Option Sl := some (.v (.l ((leaveM h pat).map Dt.int)))
  let c4 : Option Sl := some (.v (.l ((stayM h pat).map Dt.int)))
  let d1 := fol true true 0 (stayM h pat) []
  let c6 : Option Sl := some (.v (.l ((incr r).map Dt.int)))
  let B2 (x3 : Option Sl) (k : Int) : En := [some (.v (.p (encH h))), some (.v (.p (.int pat))), c2, x3, none, none, none, none, none, none, some (.v (.p (.tup (h.young.map encT)))), some (.v (.p (.tup (h.old.map encT)))), some (.v (.p (.tup (h.roots.map enc)))), some (.v (.p (.tup (h.book.map encP)))), some (.v (.p (.int k))), none]
  have age : ∀ k ∈ cmY h, ∀ x3, (xB ixD (xB ixD (xVar 10) (xVar 14)) (xC (.int 0))) (B2 x3 k) = .ok (.p (.int (thAt h.young k).age)) := fun k mk x3 => by
    have e := ix_t (cmY_in mk).1 (thAt_e (cmY_in mk).1 (cmY_in mk).2)
    simp [run_1, run_2, run_3, run_4, run_5, ev_C, ev_U, ev_B, ev_nil, ev_cons, ev_L, ev_tst, ev_and, ev_or, ev_not, ev_V, ev_if, ev_ch, ev_var0, ev_varS, ev_seq, ev_sif, ev_asg, ev_new, ev_unp, ev_ret, ev_retF, ev_drop, ev_snil, ev_raise, ev_for, sv_0, sv_S, setVs, op_mul_i, op_mod_i, op_div_i, op_p60, ev_whl, ev_nwM, ev_agM, ev_unM, ev_exM, ev_apM, ev_drM, ev_rtM, ev_ifM, ev_tM, ev_nM, ev_dpt, ev_rtO, ev_srcV0, ev_srcVS, ev_srcT, ev_app, ev_set, ev_aug, ev_slc, ev_sl0, ev_sl1, e, B2]
  have F1 : xLc (srcV 2) (tgN 14) (xTst blB (xB (cmpD fun i j => decide (j ≤ i)) (xB ixD (xB ixD (xVar 10) (xVar 14)) (xC (.int 0))) (xVar 1))) (xVar 14) [14] (B c2 none none none none none none none) = .ok (.l ((leaveM h pat).map Dt.int)) :=
    filt_comp (ps := cmY h) rfl (by omega) fun k mk => ⟨B2 none k, rfl, by
      show (((xB ixD (xB ixD (xVar 10) (xVar 14)) (xC (.int 0))) (B2 none k)).bind fun s => (xVar 1 (B2 none k)).bind fun b => cmpD (fun i j => decide (j ≤ i)) s b).bind blB = _
      rw [age k mk none]
      rfl, rfl⟩
  have F2 : xLc (srcV 2) (tgN 14) (xTst blB (xB ltD (xB ixD (xB ixD (xVar 10) (xVar 14)) (xC (.int 0))) (xVar 1))) (xVar 14) [14] (B c2 c3 none none none none none none) = .ok (.l ((stayM h pat).map Dt.int)) :=
    filt_comp (ps := cmY h) rfl (by omega) fun k mk => ⟨B2 c3 k, rfl, by
      show (((xB ixD (xB ixD (xVar 10) (xVar 14)) (xC (.int 0))) (B2 c3 k)).bind fun s => (xVar 1 (B2 c3 k)).bind fun b => ltD s b).bind blB = _
      rw [age k mk c3]
      rfl, rfl⟩
  have f1 := follow_ok [] true true (.l ((stayM h pat).map Dt.int)) (stayM h pat) 0 (.inr rfl) (by simp; omega)
  have l1 : d1.length ≤ (stayM h pat).length := by simpa using fol_len (y := true) (z := true) (ks := stayM h pat) (f := 0) (l := [])
  have f2 := follow_ok d1 true false (.l ((leaveM h pat).map Dt.int)) (leaveM h pat) h.old.length (.inr rfl) (by omega)
  change mfollow _ = .ok (.p .non, [.d (mpD enc (nowM h pat))]) at f2
  have C1 : xCallM [] 5 [0] [5] mfollow [.s 5, .d (xC (.str "young")), .s 4, .d (xC (.str "young")), .d (xC (.int 0))] (B c2 c3 c4 (some (.o (.d []))) none none none none) = .ok (.p .non, B c2 c3 c4 (some (.o (.d (mpD enc d1)))) none none none none) :=
    callM_ok (ss := [.d [], .p (.str "young"), .l ((stayM h pat).map Dt.int), .p (.str "young"), .p (.int 0)]) rfl ⟨rfl, rfl, rfl, rfl⟩ f1
  have len11 : ∀ x5 x6 x7 x8, (xL lenD (xCons (xVar 11) xNil)) (B c2 c3 c4 x5 x6 x7 x8 none) = .ok (.p (.int h.old.length)) := fun x5 x6 x7 x8 => by simp [run_1, run_2, run_3, run_4, run_5, ev_C, ev_U, ev_B, ev_nil, ev_cons, ev_L, ev_tst, ev_and, ev_or, ev_not, ev_V, ev_if, ev_ch, ev_var0, ev_varS, ev_seq, ev_sif, ev_asg, ev_new, ev_unp, ev_ret, ev_retF, ev_drop, ev_snil, ev_raise, ev_for, sv_0, sv_S, setVs, op_mul_i, op_mod_i, op_div_i, op_p60, ev_whl, ev_nwM, ev_agM, ev_unM, ev_exM, ev_apM, ev_drM, ev_rtM, ev_ifM, ev_tM, ev_nM, ev_dpt, ev_rtO, ev_srcV0, ev_srcVS, ev_srcT, ev_app, ev_set, ev_aug, ev_slc, ev_sl0, ev_sl1, B]
  have C2 : xCallM [] 5 [0] [5] mfollow [.s 5, .d (xC (.str "young")), .s 3, .d (xC (.str "old")), .d (xL lenD (xCons (xVar 11) xNil))] (B c2 c3 c4 (some (.o (.d (mpD enc d1)))) none none none none) = .ok (.p .non, B c2 c3 c4 (some (.o (.d (mpD enc (nowM h pat))))) none none none none) :=
    callM_ok (ss := [.d (mpD enc d1), .p (.str "young"), .l ((leaveM h pat).map Dt.int), .p (.str "old"), .p (.int h.old.length)]) (am_s rfl (am_d rfl (am_s rfl (am_d rfl (am_d (len11 _ _ _ _) rfl))))) ⟨rfl, rfl, rfl, rfl⟩ f2
  let c5 : Option Sl := some (.o (.d (mpD enc (nowM h pat))))
  have S6 : xSrtSc (srcV 13) (tgT [14, 15]) tYesD (xVar 14) [14, 15] (B c2 c3 c4 c5 none none none none) = .ok (.l ((incr r).map Dt.int)) := by
    unfold xSrtSc
    rw [show srcV 13 (B c2 c3 c4 c5 none none none none) = .ok (h.book.map encP) from rfl, Rz.bind_ok]
    rw [show fillD (tgT [14, 15]) tYesD (stSet (xVar 14)) (h.book.map encP) (wipeE (B c2 c3 c4 c5 none none none none) [14, 15]) [] = .ok r from er]
  have fy : ∀ t ∈ h.young, t.fs.length ≤ 1000000 := fun t m => by have := G.fy t m; omega
  have fo : ∀ t ∈ h.old, t.fs.length ≤ 1000000 := fun t m => by have := G.fo t m; omega
  have k7 := carried_ok h.young (stayM h pat) (nowM h pat) 1 (.l ((stayM h pat).map Dt.int)) (.inr rfl) (nowM_k h pat) (fun k m => stay_in m) (by omega) fy
  have k8 := carried_ok h.young (leaveM h pat) (nowM h pat) 0 (.l ((leaveM h pat).map Dt.int)) (.inr rfl) (nowM_k h pat) (fun k m => leave_in m) (by omega) fy
  have r8 := relinked_ok h.old (incr r) (nowM h pat) (.l ((incr r).map Dt.int)) (.inr rfl) (nowM_k h pat) told_in (by omega) fo
  have ra : rl (mv (nowM h pat)) (incr r) h.old = h.old.map (mvT (mv (nowM h pat)) 0) := rl_all fun i t e ni v mv => by
    rw [nowM_mv]
    refine phiM_np ?_
    cases c : ptY v
    · rfl
    · obtain ⟨k, hk, ek⟩ := List.mem_iff_getElem.mp mv
      have := bookFrom_in (i := 0) (j := i) (k := k) (l := h.old) e (by rw [List.getElem?_eq_getElem hk, ek]) c
      rw [Nat.zero_add, ← G.bk] at this
      exact absurd ((hm i).mpr (List.mem_map.mpr ⟨_, this, rfl⟩)) ni
  rw [ra] at r8
  have m12 := mled_ok h.roots (nowM h pat) (nowM_k h pat) (by omega)
  rw [nowM_mv] at k7 k8 r8 m12
  let Y2 := (stayM h pat).map fun k => mvT (phiM h pat) 1 (thAt h.young k)
  have a8 : addD (.p (.tup ((h.old.map (mvT (phiM h pat) 0)).map encT))) (.p (.tup (((leaveM h pat).map fun k => mvT (phiM h pat) 0 (thAt h.young k)).map encT))) = .ok (.p (.tup ((oldM h pat).map encT))) := by
    have := op_add_t (a := (h.old.map (mvT (phiM h pat) 0)).map encT) (b := ((leaveM h pat).map fun k => mvT (phiM h pat) 0 (thAt h.young k)).map encT) (by simp; omega)
    rw [this]
    unfold oldM
    rw [List.map_append]
  let c7 : Option Sl := some (.v (.p (.tup (Y2.map encT))))
  let c8 : Option Sl := some (.v (.p (.tup ((oldM h pat).map encT))))
  have X9 : (xB catD (xVar 6) (xLRg (srcR2 (xL lenD (xCons (xVar 11) xNil)) (xL lenD (xCons (xVar 8) xNil))))) (B c2 c3 c4 c5 c6 c7 c8 none) = .ok (.l ((lookM h (incr r) (oldM h pat).length).map Dt.int)) := by
    have e := srng2 (x := xL lenD (xCons (xVar 11) xNil)) (y := xL lenD (xCons (xVar 8) xNil)) (ρ := B c2 c3 c4 c5 c6 c7 c8 none) (a := h.old.length) (b := (oldM h pat).length) (len11 _ _ _ _) (by simp [run_1, run_2, run_3, run_4, run_5, ev_C, ev_U, ev_B, ev_nil, ev_cons, ev_L, ev_tst, ev_and, ev_or, ev_not, ev_V, ev_if, ev_ch, ev_var0, ev_varS, ev_seq, ev_sif, ev_asg, ev_new, ev_unp, ev_ret, ev_retF, ev_drop, ev_snil, ev_raise, ev_for, sv_0, sv_S, setVs, op_mul_i, op_mod_i, op_div_i, op_p60, ev_whl, ev_nwM, ev_agM, ev_unM, ev_exM, ev_apM, ev_drM, ev_rtM, ev_ifM, ev_tM, ev_nM, ev_dpt, ev_rtO, ev_srcV0, ev_srcVS, ev_srcT, ev_app, ev_set, ev_aug, ev_slc, ev_sl0, ev_sl1, B, c8]) (by omega) (by omega)
    show ((Rz.ok (.l ((incr r).map Dt.int)) : Rz Sv).bind fun s => ((srcR2 (xL lenD (xCons (xVar 11) xNil)) (xL lenD (xCons (xVar 8) xNil)) (B c2 c3 c4 c5 c6 c7 c8 none)).bind fun xs => Rz.ok (Sv.l xs)).bind fun t => catD s t) = _
    rw [e, Rz.bind_ok, Rz.bind_ok, Rz.bind_ok]
    unfold lookM
    rw [List.map_append]
    refine (if_pos ?_).trans ?_
    · simp [rgD]
      omega
    · unfold rgD
      rw [List.map_map]
      rfl
  let c9 : Option Sl := some (.v (.l ((lookM h (incr r) (oldM h pat).length).map Dt.int)))
  have p9 := pairs_ok (oldM h pat) (lookM h (incr r) (oldM h pat).length) (.l ((lookM h (incr r) (oldM h pat).length).map Dt.int)) (.inr rfl) L1 (by
    have := flat_len (old_fs G pat) L1
    have l9 : (lookM h (incr r) (oldM h pat).length).length ≤ 4000 := by
      unfold lookM
      simp
      omega
    omega) (fun t m => by have := old_fs G pat t m; omega)
  rw [L2] at p9
  refine congrArg outD (a₂ := .rt (.p (encH (minorH h pat))) (B c2 c3 c4 c5 c6 c7 c8 c9)) ?_
  rw [seq_nx (ρ' := B none none none none none none none none) (by rfl)]
  rw [seq_nx (ρ' := B c2 none none none none none none none) (by simp [run_1, run_2, run_3, run_4, run_5, ev_C, ev_U, ev_B, ev_nil, ev_cons, ev_L, ev_tst, ev_and, ev_or, ev_not, ev_V, ev_if, ev_ch, ev_var0, ev_varS, ev_seq, ev_sif, ev_asg, ev_new, ev_unp, ev_ret, ev_retF, ev_drop, ev_snil, ev_raise, ev_for, sv_0, sv_S, setVs, op_mul_i, op_mod_i, op_div_i, op_p60, ev_whl, ev_nwM, ev_agM, ev_unM, ev_exM, ev_apM, ev_drM, ev_rtM, ev_ifM, ev_tM, ev_nM, ev_dpt, ev_rtO, ev_srcV0, ev_srcVS, ev_srcT, ev_app, ev_set, ev_aug, ev_slc, ev_sl0, ev_sl1, E0, B, c2])]
  rw [seq_nx (ρ' := B c2 c3 none none none none none none) (by rw [ev_new, F1]; rfl)]
  rw [seq_nx (ρ' := B c2 c3 c4 none none none none none) (by rw [ev_new, F2]; rfl)]
  rw [seq_nx (ρ' := B c2 c3 c4 (some (.o (.d []))) none none none none) (by rfl)]
  rw [seq_nx (ρ' := B c2 c3 c4 (some (.o (.d (mpD enc d1)))) none none none none) (by rw [ev_drM, C1]; rfl)]
  rw [seq_nx (ρ' := B c2 c3 c4 c5 none none none none) (by rw [ev_drM, C2]; rfl)]
  rw [seq_nx (ρ' := B c2 c3 c4 c5 c6 none none none) (by rw [ev_new, S6]; rfl)]
  rw [seq_nx (ρ' := B c2 c3 c4 c5 c6 c7 none none) (by
    rw [ev_asg, xL_of (f := chk 4 mcarried) (xC_of (s := .p (.tup (h.young.map encT))) (by rfl) (xC_of (s := .l ((stayM h pat).map Dt.int)) (by rfl) (xC_of (s := .d (mpD enc (nowM h pat))) (by rfl) (xC_of (s := .p (.int 1)) (by rfl) (by rfl))))) k7]
    rfl)]
  rw [seq_nx (ρ' := B c2 c3 c4 c5 c6 c7 c8 none) (by
    rw [ev_asg]
    have z1 : (xL (chk 3 mrelinked) (xCons (xVar 11) (xCons (xVar 6) (xCons (xVar 5) xNil)))) (B c2 c3 c4 c5 c6 c7 none none) = _ := xL_of (f := chk 3 mrelinked) (xC_of (s := .p (.tup (h.old.map encT))) (by rfl) (xC_of (s := .l ((incr r).map Dt.int)) (by rfl) (xC_of (s := .d (mpD enc (nowM h pat))) (by rfl) (by rfl)))) r8
    have z2 : (xL (chk 4 mcarried) (xCons (xVar 10) (xCons (xVar 3) (xCons (xVar 5) (xCons (xC (.int 0)) xNil))))) (B c2 c3 c4 c5 c6 c7 none none) = _ := xL_of (f := chk 4 mcarried) (xC_of (s := .p (.tup (h.young.map encT))) (by rfl) (xC_of (s := .l ((leaveM h pat).map Dt.int)) (by rfl) (xC_of (s := .d (mpD enc (nowM h pat))) (by rfl) (xC_of (s := .p (.int 0)) (by rfl) (by rfl))))) k8
    rw [ev_B, z1, z2]
    rw [r2_ok, a8]
    rfl)]
  rw [seq_nx (ρ' := B c2 c3 c4 c5 c6 c7 c8 c9) (by rw [ev_new, X9]; rfl)]
  have z1 : (xL (chk 2 mled) (xCons (xVar 12) (xCons (xVar 5) xNil))) (B c2 c3 c4 c5 c6 c7 c8 c9) = _ := xL_of (f := chk 2 mled) (xC_of (s := .p (.tup (h.roots.map enc))) (by rfl) (xC_of (s := .d (mpD enc (nowM h pat))) (by rfl) (by rfl))) m12
  have z2 : (xL (chk 2 mpairs) (xCons (xVar 8) (xCons (xVar 9) xNil))) (B c2 c3 c4 c5 c6 c7 c8 c9) = _ := xL_of (f := chk 2 mpairs) (xC_of (s := .p (.tup ((oldM h pat).map encT))) (by rfl) (xC_of (s := .l ((lookM h (incr r) (oldM h pat).length).map Dt.int)) (by rfl) (by rfl))) p9
  have z3 : (xL tupD (xCons (xVar 7) (xCons (xVar 8) (xCons (xL (chk 2 mled) (xCons (xVar 12) (xCons (xVar 5) xNil))) (xCons (xL (chk 2 mpairs) (xCons (xVar 8) (xCons (xVar 9) xNil))) xNil))))) (B c2 c3 c4 c5 c6 c7 c8 c9) = .ok (.p (encH (minorH h pat))) :=
    xL_of (xC_of (s := .p (.tup (Y2.map encT))) (by rfl) (xC_of (s := .p (.tup ((oldM h pat).map encT))) (by rfl) (xC_of z1 (xC_of z2 (by rfl))))) (by rfl)
  rw [ev_ret, z3]
  rfl
end Kp

namespace Kp
open PySem L2 Fw Ma
/-! the heap when both halves are gone through -/
def cjY (h : Hq) : List Int := plc true (metL h yes h.roots) h.young.length
def cjO (h : Hq) : List Int := plc false (metL h yes h.roots) h.old.length
def phiJ (h : Hq) : Vl → Vl := mvF false false 0 (cjO h) (mvF true true 0 (cjY h) id)
def oldJ (h : Hq) : List Th := (cjO h).map fun k => mvT (phiJ h) 0 (thAt h.old k)
def majorH (h : Hq) : Hq := ⟨(cjY h).map fun k => mvT (phiJ h) 0 (thAt h.young k), oldJ h, h.roots.map (phiJ h), bookFrom 0 (oldJ h)⟩
theorem cjY_in {h : Hq} {k : Int} (m : k ∈ cjY h) : 0 ≤ k ∧ k < h.young.length := ⟨(plc_mem.mp m).1, (plc_mem.mp m).2.1⟩
theorem cjO_in {h : Hq} {k : Int} (m : k ∈ cjO h) : 0 ≤ k ∧ k < h.old.length := ⟨(plc_mem.mp m).1, (plc_mem.mp m).2.1⟩
theorem cjY_nd (h : Hq) : (cjY h).Nodup := (plc_rise _ _ _).imp fun {a b} l => by omega
theorem cjO_nd (h : Hq) : (cjO h).Nodup := (plc_rise _ _ _).imp fun {a b} l => by omega
theorem cjY_len (h : Hq) : (cjY h).length ≤ h.young.length := plc_len _ _ _
theorem cjO_len (h : Hq) : (cjO h).length ≤ h.old.length := plc_len _ _ _
def nowJ (h : Hq) : List (Vl × Vl) := fol false false 0 (cjO h) (fol true true 0 (cjY h) [])
theorem nowJ_k (h : Hq) : ptrK (nowJ h) := fol_ptrK (fol_ptrK ptrK_nil)
theorem nowJ_mv (h : Hq) : mv (nowJ h) = phiJ h := by
  funext v
  unfold nowJ phiJ
  rw [fol_mv (cjO_nd h) fun k m => by
    rw [fol_lk fun j mj e => by cases e]
    rfl]
  exact mvF_g (fol_mv (cjY_nd h) (fun _ _ => rfl) v)
theorem oldJ_len (h : Hq) : (oldJ h).length = (cjO h).length := by simp [oldJ]
theorem oldJ_fs {h : Hq} (G : So h) : ∀ t ∈ oldJ h, t.fs.length ≤ 200 := fun t m => by
  obtain ⟨k, mk, rfl⟩ := List.mem_map.mp m
  have := G.fo _ (thAt_m (cjO_in mk).1 (cjO_in mk).2)
  simpa [mvT] using this
theorem major_ok (h : Hq) (G : So h) : mmajor [.p (encH h)] = .ok (.p (encH (majorH h))) := by
  have ly := G.ly
  have lo := G.lo
  have lr := G.lr
  have lc := cjY_len h
  have ld := cjO_len h
  have ln := oldJ_len h
  have E0 := come_both_ok h G
  change mcome_both _ = .ok (.p (.tup [.tup ((cjY h).map Dt.int), .tup ((cjO h).map Dt.int)])) at E0
  let B (x1 x2 x7 x8 : Option Sl) : En := [some (.v (.p (encH h))), x1, x2, some (.v (.p (.tup (h.young.map encT)))), some (.v (.p (.tup (h.old.map encT)))), some (.v (.p (.tup (h.roots.map enc)))), some (.v (.p (.tup (h.book.map encP)))), x7, x8]
  let c7 : Option Sl := some (.v (.p (.tup ((cjY h).map Dt.int))))
  let c8 : Option Sl := some (.v (.p (.tup ((cjO h).map Dt.int))))
  let d1 := fol true true 0 (cjY h) []
  let c1 : Option Sl := some (.o (.d (mpD enc (nowJ h))))
  let c2 : Option Sl := some (.v (.p (.tup ((oldJ h).map encT))))
  have f1 := follow_ok [] true true (.p (.tup ((cjY h).map Dt.int))) (cjY h) 0 (.inl rfl) (by simp; omega)
  have l1 : d1.length ≤ (cjY h).length := by simpa using fol_len (y := true) (z := true) (ks := cjY h) (f := 0) (l := [])
  have f2 := follow_ok d1 false false (.p (.tup ((cjO h).map Dt.int))) (cjO h) 0 (.inl rfl) (by omega)
  change mfollow _ = .ok (.p .non, [.d (mpD enc (nowJ h))]) at f2
  have C1 : xCallM [] 5 [0] [1] mfollow [.s 1, .d (xC (.str "young")), .d (xVar 7), .d (xC (.str "young")), .d (xC (.int 0))] (B (some (.o (.d []))) none c7 c8) = .ok (.p .non, B (some (.o (.d (mpD enc d1)))) none c7 c8) :=
    callM_ok (ss := [.d [], .p (.str "young"), .p (.tup ((cjY h).map Dt.int)), .p (.str "young"), .p (.int 0)]) rfl ⟨rfl, rfl, rfl, rfl⟩ f1
  have C2 : xCallM [] 5 [0] [1] mfollow [.s 1, .d (xC (.str "old")), .d (xVar 8), .d (xC (.str "old")), .d (xC (.int 0))] (B (some (.o (.d (mpD enc d1)))) none c7 c8) = .ok (.p .non, B c1 none c7 c8) :=
    callM_ok (ss := [.d (mpD enc d1), .p (.str "old"), .p (.tup ((cjO h).map Dt.int)), .p (.str "old"), .p (.int 0)]) rfl ⟨rfl, rfl, rfl, rfl⟩ f2
  have fy : ∀ t ∈ h.young, t.fs.length ≤ 1000000 := fun t m => by have := G.fy t m; omega
  have fo : ∀ t ∈ h.old, t.fs.length ≤ 1000000 := fun t m => by have := G.fo t m; omega
  have k7 := carried_ok h.young (cjY h) (nowJ h) 0 (.p (.tup ((cjY h).map Dt.int))) (.inl rfl) (nowJ_k h) (fun k m => cjY_in m) (by omega) fy
  have k8 := carried_ok h.old (cjO h) (nowJ h) 0 (.p (.tup ((cjO h).map Dt.int))) (.inl rfl) (nowJ_k h) (fun k m => cjO_in m) (by omega) fo
  have m5 := mled_ok h.roots (nowJ h) (nowJ_k h) (by omega)
  rw [nowJ_mv] at k7 k8 m5
  have w2 := whole_book_ok (oldJ h) (by omega) (oldJ_fs G)
  refine congrArg outD (a₂ := .rt (.p (encH (majorH h))) (B c1 c2 c7 c8)) ?_
  rw [seq_nx (ρ' := B none none none none) (by rfl)]
  rw [seq_nx (ρ' := B none none c7 c8) (by simp [run_1, run_2, run_3, run_4, run_5, ev_C, ev_U, ev_B, ev_nil, ev_cons, ev_L, ev_tst, ev_and, ev_or, ev_not, ev_V, ev_if, ev_ch, ev_var0, ev_varS, ev_seq, ev_sif, ev_asg, ev_new, ev_unp, ev_ret, ev_retF, ev_drop, ev_snil, ev_raise, ev_for, sv_0, sv_S, setVs, op_mul_i, op_mod_i, op_div_i, op_p60, ev_whl, ev_nwM, ev_agM, ev_unM, ev_exM, ev_apM, ev_drM, ev_rtM, ev_ifM, ev_tM, ev_nM, ev_dpt, ev_rtO, ev_srcV0, ev_srcVS, ev_srcT, ev_app, ev_set, ev_aug, ev_slc, ev_sl0, ev_sl1, E0, B, c7, c8])]
  rw [seq_nx (ρ' := B (some (.o (.d []))) none c7 c8) (by rfl)]
  rw [seq_nx (ρ' := B (some (.o (.d (mpD enc d1)))) none c7 c8) (by rw [ev_drM, C1]; rfl)]
  rw [seq_nx (ρ' := B c1 none c7 c8) (by rw [ev_drM, C2]; rfl)]
  rw [seq_nx (ρ' := B c1 c2 c7 c8) (by
    rw [ev_asg, xL_of (f := chk 4 mcarried) (xC_of (s := .p (.tup (h.old.map encT))) (by rfl) (xC_of (s := .p (.tup ((cjO h).map Dt.int))) (by rfl) (xC_of (s := .d (mpD enc (nowJ h))) (by rfl) (xC_of (s := .p (.int 0)) (by rfl) (by rfl))))) k8]
    rfl)]
  have z0 : (xL (chk 4 mcarried) (xCons (xVar 3) (xCons (xVar 7) (xCons (xVar 1) (xCons (xC (.int 0)) xNil))))) (B c1 c2 c7 c8) = _ := xL_of (f := chk 4 mcarried) (xC_of (s := .p (.tup (h.young.map encT))) (by rfl) (xC_of (s := .p (.tup ((cjY h).map Dt.int))) (by rfl) (xC_of (s := .d (mpD enc (nowJ h))) (by rfl) (xC_of (s := .p (.int 0)) (by rfl) (by rfl))))) k7
  have z1 : (xL (chk 2 mled) (xCons (xVar 5) (xCons (xVar 1) xNil))) (B c1 c2 c7 c8) = _ := xL_of (f := chk 2 mled) (xC_of (s := .p (.tup (h.roots.map enc))) (by rfl) (xC_of (s := .d (mpD enc (nowJ h))) (by rfl) (by rfl))) m5
  have z2 : (xL (chk 1 mwhole_book) (xCons (xVar 2) xNil)) (B c1 c2 c7 c8) = _ := xL_of (f := chk 1 mwhole_book) (xC_of (s := .p (.tup ((oldJ h).map encT))) (by rfl) (by rfl)) w2
  rw [ev_ret, xL_of (f := tupD) (xC_of z0 (xC_of (s := .p (.tup ((oldJ h).map encT))) (by rfl) (xC_of z1 (xC_of z2 (by rfl))))) (by rfl)]
  rfl
end Kp

namespace Kp
open PySem L2 Fw Ma
theorem law_fields_ok (h : Hq) (v : Vl) (t : Th) (g : led h v = some t) : m_law_fields [.p (encH h), .p (enc v)] = .ok (.p (.tup (t.fs.map enc))) := by
  obtain ⟨y, k, rfl, k0, ht⟩ := led_ptr g
  have e1 := eq_ww y true
  change eqD _ (.p (.str "young")) = _ at e1
  have e3 : ((half h y).map encT)[k.toNat]? = some (.tup [.int t.age, .tup (t.fs.map enc)]) := by simp [ht, encT]
  have e4 : ixD (.p (encH h)) (.p (.int (if y = true then 0 else 1))) = .ok (.p (.tup ((half h y).map encT))) := by
    unfold half encH
    cases y <;> simp
  have e5 := ix_t k0 e3
  unfold m_law_fields
  cases y <;> simp at e4 <;> simp [run_1, run_2, run_3, run_4, run_5, ev_C, ev_U, ev_B, ev_nil, ev_cons, ev_L, ev_tst, ev_and, ev_or, ev_not, ev_V, ev_if, ev_ch, ev_var0, ev_varS, ev_seq, ev_sif, ev_asg, ev_new, ev_unp, ev_ret, ev_retF, ev_drop, ev_snil, ev_raise, ev_for, sv_0, sv_S, setVs, op_mul_i, op_mod_i, op_div_i, op_p60, ev_whl, ev_nwM, ev_agM, ev_unM, ev_exM, ev_apM, ev_drM, ev_rtM, ev_ifM, ev_tM, ev_nM, ev_dpt, ev_rtO, ev_srcV0, ev_srcVS, ev_srcT, ev_app, ev_set, ev_aug, ev_slc, ev_sl0, ev_sl1, enc, e1, e4, e5]
theorem whileD_c {c : XT} {u : XS} {ρ ρ' : En} {k : Nat} (h : c ρ = .ok true) (h2 : u ρ = .nx ρ') : whileD c u (k + 1) ρ = whileD c u k ρ' := by
  rw [whileD, h]
  show (if true = true then goOn (u ρ) (whileD c u k) else Out.nx ρ) = _
  rw [if_pos rfl, h2]
  rfl
theorem op_cat {a b : List Dt} (h : a.length + b.length ≤ 1000000) : catD (.l a) (.l b) = .ok (.l (a ++ b)) := if_pos h
theorem src_rng {x : XE} {ρ : En} {n : Nat} (h : x ρ = .ok (.p (.int n))) (hn : n ≤ 1000000) : srcR1 x ρ = .ok ((List.range n).map fun (i : Nat) => Dt.int (i : Int)) := by
  unfold srcR1
  rw [h]
  show rngI (.p (.int 0)) (.p (.int n)) = _
  unfold rngI
  refine (if_pos (by omega)).trans ?_
  congr 1
  simp
theorem plc_fm (y : Bool) (ps : List Vl) (n : Nat) : (List.range n).filterMap (fun (k : Nat) => if Vl.ptr y (k : Int) ∈ ps then some (Dt.int (k : Int)) else none) = (plc y ps n).map Dt.int := by
  unfold plc
  generalize List.range n = l
  induction l with
  | nil => rfl
  | cons a l ih =>
    rw [List.filterMap_cons, List.filter_cons]
    by_cases c : Vl.ptr y (a : Int) ∈ ps
    · rw [if_pos c, if_pos (decide_eq_true c)]
      simp [ih]
    · rw [if_neg c, if_neg (by simpa using c)]
      exact ih
theorem plc_comp {ρ : En} {y : Bool} {o : List Vl} {n : Nat} {x : XE} {d j : Nat} (hk : ∀ u ∈ o, isP' u = true) (hn : n ≤ 1000000) (hx : x ρ = .ok (.p (.int n)))
    (ht : ∀ k : Nat, ∃ ρ1, tgN j (.int (k : Int)) (wipeE ρ [j]) = .ok ρ1 ∧ xVar j ρ1 = .ok (.p (.int k)) ∧ xVar d ρ1 = .ok (.d (knD o))) :
    xLc (srcR1 x) (tgN j) (xTst blB (xB (dinD false) (xL tupD (xCons (xC (.str (wd y))) (xCons (xVar j) xNil))) (xVar d))) (xVar j) [j] ρ = .ok (.l ((plc y o n).map Dt.int)) := by
  rw [← plc_fm]
  refine xLc_ok (src_rng hx hn) (lcD_fm (f := fun (i : Nat) => Dt.int (i : Int)) (fun (k : Nat) => if Vl.ptr y (k : Int) ∈ o then some (Dt.int (k : Int)) else none) fun k hk2 => ?_) ?_
  · obtain ⟨ρ1, h1, h2, h3⟩ := ht k
    refine ⟨ρ1, h1, ?_⟩
    have e := din_kn false (.ptr y k) o hk
    change dinD false (.p (.tup [.str (wd y), .int k])) _ = .ok (.p (.bl (decide (Vl.ptr y (k : Int) ∈ o)))) at e
    have e2 : (xTst blB (xB (dinD false) (xL tupD (xCons (xC (.str (wd y))) (xCons (xVar j) xNil))) (xVar d))) ρ1 = .ok (decide (Vl.ptr y (k : Int) ∈ o)) := by
      have e3 : xL tupD (xCons (xC (.str (wd y))) (xCons (xVar j) xNil)) ρ1 = .ok (.p (.tup [.str (wd y), .int k])) := xL_of (xC_of rfl (xC_of h2 rfl)) rfl
      show (((xL tupD (xCons (xC (.str (wd y))) (xCons (xVar j) xNil))) ρ1).bind fun s => (xVar d ρ1).bind fun t => dinD false s t).bind blB = _
      rw [e3, Rz.bind_ok, h3, Rz.bind_ok, e]
      rfl
    rw [e2]
    by_cases c : Vl.ptr y (k : Int) ∈ o
    · exact .inl ⟨_, if_pos c, by rw [decide_eq_true c], h2⟩
    · exact .inr ⟨if_neg c, by rw [decide_eq_false c]⟩
  · have := List.length_filterMap_le (fun (k : Nat) => if Vl.ptr y (k : Int) ∈ o then some (Dt.int (k : Int)) else none) (List.range n)
    rw [List.length_range] at this
    omega
theorem plc_all {y : Bool} {ps : List Vl} {n : Nat} (h : ∀ k : Nat, k < n → Vl.ptr y (k : Int) ∈ ps) : plc y ps n = nX' n := by
  unfold plc nX'
  congr 1
  exact List.filter_eq_self.mpr fun k hk => decide_eq_true (h k (List.mem_range.mp hk))
/-! a long chain -/
def chn' (m : Nat) (a : Int) : Hq := ⟨(List.range m).map (fun i => ⟨a, [.ptr true ((i : Int) + 1)]⟩) ++ [⟨a, [.non]⟩], [], [.non, .ptr true 0], []⟩
theorem chn'_len (m : Nat) (a : Int) : (chn' m a).young.length = m + 1 := by simp [chn']
theorem chn'_so {m : Nat} {a : Int} (hm : m ≤ 1500) : So (chn' m a) := by
  have key : ∀ t ∈ (chn' m a).young, ∃ v, t.fs = [v] ∧ vOk (chn' m a).young.length (chn' m a).old.length v := fun t ht => by
    rw [chn'_len]
    unfold chn' at ht
    rcases List.mem_append.mp ht with ht | ht
    · obtain ⟨i, hi, rfl⟩ := List.mem_map.mp ht
      rw [List.mem_range] at hi
      refine ⟨_, rfl, ?_⟩
      show 0 ≤ _ ∧ _
      omega
    · rw [List.mem_singleton.mp ht]
      exact ⟨.non, rfl, trivial⟩
  refine ⟨by rw [chn'_len]; omega, by simp [chn'], by simp [chn'], fun t ht => ?_, fun t ht => (by cases ht), fun t ht v hv => ?_, fun t ht => (by cases ht), fun v hv => ?_, rfl⟩
  · obtain ⟨v, e, _⟩ := key t ht
    rw [e]
    simp
  · obtain ⟨w, e, g⟩ := key t ht
    rw [e] at hv
    rw [List.mem_singleton.mp hv]
    exact g
  · rw [chn'_len]
    unfold chn' at hv
    simp at hv
    rcases hv with rfl | rfl
    · trivial
    · show 0 ≤ _ ∧ _
      omega
theorem chn'_rch {m : Nat} {a : Int} (p : Vl → Bool) (hp : ∀ k, p (.ptr true k) = true) (S : List Vl) (hS : .ptr true 0 ∈ S) : ∀ k : Nat, k < m + 1 → Rch (chn' m a) p S (.ptr true k)
  | 0, _ => .base hS rfl (hp _)
  | k + 1, h => by
    have ih := chn'_rch (m := m) (a := a) p hp S hS k (by omega)
    refine .step ih (?_ : Vl.ptr true ((k + 1 : Nat) : Int) ∈ _) rfl (hp _)
    have g : led (chn' m a) (.ptr true (k : Int)) = some ⟨a, [.ptr true ((k : Int) + 1)]⟩ := by
      obtain ⟨t, g, e⟩ := led_yes (h := chn' m a) (y := true) (k := (k : Int)) (by omega) (by show (k : Int) < (chn' m a).young.length; rw [chn'_len]; omega)
      rw [g, ← e]
      show (chn' m a).young[k]? = _
      unfold chn'
      rw [List.getElem?_append_left (by simp; omega)]
      rw [List.getElem?_map, List.getElem?_range (by omega)]
      rfl
    rw [kids_led g]
    simp
theorem chn'_all {m : Nat} {a : Int} (hm : m ≤ 1500) : plc true (metL (chn' m a) yes (chn' m a).roots) (chn' m a).young.length = nX' (m + 1) ∧ plc true (metL (chn' m a) ptY ((chn' m a).roots ++ bkVs (chn' m a))) (chn' m a).young.length = nX' (m + 1) := by
  have G := chn'_so (a := a) hm
  have M1 := metL_met G (p := yes) G.vr
  have hS : ∀ v ∈ (chn' m a).roots ++ bkVs (chn' m a), vOk (chn' m a).young.length (chn' m a).old.length v := fun v mv => by
    rcases List.mem_append.mp mv with mv | mv
    · exact G.vr v mv
    · exact G.vb v mv
  have M2 := metL_met G (p := ptY) hS
  rw [chn'_len]
  exact ⟨plc_all fun k hk => (M1.mem _).mpr (chn'_rch yes (fun _ => rfl) _ (by simp [chn']) k hk), plc_all fun k hk => (M2.mem _).mpr (chn'_rch ptY (fun _ => rfl) _ (by simp [chn']) k hk)⟩
theorem long_by_ok (m : Nat) (a : Int) (hm : m ≤ 1500) : m_law_long_by [.p (.int (m + 1 : Nat)), .p (.int a)] = .ok (.p (encH (chn' m a))) := by
  let E (x : Option Sl) : En := [some (.v (.p (.int (m + 1 : Nat)))), some (.v (.p (.int a))), x, none]
  have s1 : srcR1 (xB subD (xVar 0) (xC (.int 1))) (E none) = .ok ((List.range m).map fun (i : Nat) => Dt.int (i : Int)) := src_rng (by simp [run_1, run_2, run_3, run_4, run_5, ev_C, ev_U, ev_B, ev_nil, ev_cons, ev_L, ev_tst, ev_and, ev_or, ev_not, ev_V, ev_if, ev_ch, ev_var0, ev_varS, ev_seq, ev_sif, ev_asg, ev_new, ev_unp, ev_ret, ev_retF, ev_drop, ev_snil, ev_raise, ev_for, sv_0, sv_S, setVs, op_mul_i, op_mod_i, op_div_i, op_p60, ev_whl, ev_nwM, ev_agM, ev_unM, ev_exM, ev_apM, ev_drM, ev_rtM, ev_ifM, ev_tM, ev_nM, ev_dpt, ev_rtO, ev_srcV0, ev_srcVS, ev_srcT, ev_app, ev_set, ev_aug, ev_slc, ev_sl0, ev_sl1, E]) (by omega)
  have s2 := lcD_map (tg := tgN 3) (el := (xL tupD (xCons (xVar 1) (xCons (xL tupD (xCons (xL tupD (xCons (xC (.str "young")) (xCons (xB addD (xVar 3) (xC (.int 1))) xNil))) xNil)) xNil)))) (ρ := wipeE (E none) [3]) (f := fun (i : Nat) => Dt.int (i : Int)) (fun i => encT ⟨a, [.ptr true ((i : Int) + 1)]⟩) (xs := List.range m) (fun i hi => ⟨[some (.v (.p (.int (m + 1 : Nat)))), some (.v (.p (.int a))), none, some (.v (.p (.int i)))], rfl, rfl⟩)
  have s3 := xLc_ok s1 s2 (by simp; omega)
  have s4 := op_cat (a := (List.range m).map fun (i : Nat) => encT ⟨a, [.ptr true ((i : Int) + 1)]⟩) (b := [encT ⟨a, [.non]⟩]) (by simp; omega)
  have s5 : ((List.range m).map fun (i : Nat) => encT ⟨a, [.ptr true ((i : Int) + 1)]⟩) ++ [encT ⟨a, [.non]⟩] = (chn' m a).young.map encT := by
    unfold chn'
    rw [List.map_append, List.map_map]
    rfl
  rw [s5] at s4
  refine congrArg outD (a₂ := .rt (.p (encH (chn' m a))) (E (some (.v (.p (.tup ((chn' m a).young.map encT))))))) ?_
  rw [seq_nx (ρ' := E (some (.v (.p (.tup ((chn' m a).young.map encT)))))) (by
    have e : (xL tupleD (xCons (xB catD (xLc (srcR1 (xB subD (xVar 0) (xC (.int 1)))) (tgN 3) tYesD (xL tupD (xCons (xVar 1) (xCons (xL tupD (xCons (xL tupD (xCons (xC (.str "young")) (xCons (xB addD (xVar 3) (xC (.int 1))) xNil))) xNil)) xNil))) [3]) (xL lstD (xCons (xL tupD (xCons (xVar 1) (xCons (xL tupD (xCons (xC .non) xNil)) xNil))) xNil))) xNil)) (E none) = .ok (.p (.tup ((chn' m a).young.map encT))) := by
      refine xL_of (xC_of (s := .l ((chn' m a).young.map encT)) ?_ rfl) rfl
      show Rz.bind _ _ = _
      rw [s3, Rz.bind_ok]
      exact s4
    show ofR ((xL tupleD _) (E none)) _ _ = _
    rw [e]
    rfl)]
  rfl
/-! what the laws put together -/
theorem folL_snoc {y z : Bool} : ∀ {ks : List Int} {f k : Int} {l : List (Vl × Vl)}, folL y z f (ks ++ [k]) l = pt (folL y z f ks l) (.ptr y k) (.ptr z (f + ks.length))
  | [], f, k, l => by simp [folL]
  | a :: ks, f, k, l => by
    show folL y z (f + 1) (ks ++ [k]) _ = pt (folL y z (f + 1) ks _) _ _
    rw [folL_snoc, List.length_cons, show f + ((ks.length + 1 : Nat) : Int) = f + 1 + ks.length by omega]
theorem take_snoc {l : List Int} {j : Nat} (h : j < l.length) : l.take (j + 1) = l.take j ++ [l[j]] := by
  rw [List.take_succ, List.getElem?_eq_getElem h]
  rfl
theorem bookFrom_len2 : ∀ (i : Nat) (a : List Th), (∀ t ∈ a, t.fs.length ≤ 200) → (bookFrom i a).length ≤ 200 * a.length
  | i, [], _ => Nat.le_refl _
  | i, t :: ts, h => by
    have h1 := bookFrom_len2 (i + 1) ts fun t ht => h t (List.mem_cons_of_mem _ ht)
    have h2 := rowFrom_len i 0 t.fs
    have h3 := h t List.mem_cons_self
    rw [bookFrom_c, List.length_append, List.length_cons]
    omega
theorem bkI_l (o : List Th) (acc : List Dt) (i j : Nat) (t : Th) (v : Vl) (x4 : Option Sl) (ht : o[i]? = some t) (hv : t.fs[j]? = some v) (hl : acc.length < 1000000) :
    bkI [some (.v (.l (o.map encT))), some (.o (.l acc)), pI i, pI j, x4] = .nx [some (.v (.l (o.map encT))), some (.o (.l (acc ++ if ptY v = true then [encP ((i : Int), (j : Int))] else []))), pI i, pI j, some (.v (.p (enc v)))] := by
  unfold bkI
  have e1 : (o.map encT)[i]? = some (encT t) := by simp [ht]
  have e2 : (t.fs.map enc)[j]? = some (enc v) := by simp [hv]
  cases v with
  | non => simp [run_1, run_2, run_3, run_4, run_5, ev_C, ev_U, ev_B, ev_nil, ev_cons, ev_L, ev_tst, ev_and, ev_or, ev_not, ev_V, ev_if, ev_ch, ev_var0, ev_varS, ev_seq, ev_sif, ev_asg, ev_new, ev_unp, ev_ret, ev_retF, ev_drop, ev_snil, ev_raise, ev_for, sv_0, sv_S, setVs, op_mul_i, op_mod_i, op_div_i, op_p60, ev_whl, ev_nwM, ev_agM, ev_unM, ev_exM, ev_apM, ev_drM, ev_rtM, ev_ifM, ev_tM, ev_nM, ev_dpt, ev_rtO, ev_srcV0, ev_srcVS, ev_srcT, ev_app, ev_set, ev_aug, ev_slc, ev_sl0, ev_sl1, ix_ln e1, encT, ix_tn e2, enc, ptY]
  | int i => simp [run_1, run_2, run_3, run_4, run_5, ev_C, ev_U, ev_B, ev_nil, ev_cons, ev_L, ev_tst, ev_and, ev_or, ev_not, ev_V, ev_if, ev_ch, ev_var0, ev_varS, ev_seq, ev_sif, ev_asg, ev_new, ev_unp, ev_ret, ev_retF, ev_drop, ev_snil, ev_raise, ev_for, sv_0, sv_S, setVs, op_mul_i, op_mod_i, op_div_i, op_p60, ev_whl, ev_nwM, ev_agM, ev_unM, ev_exM, ev_apM, ev_drM, ev_rtM, ev_ifM, ev_tM, ev_nM, ev_dpt, ev_rtO, ev_srcV0, ev_srcVS, ev_srcT, ev_app, ev_set, ev_aug, ev_slc, ev_sl0, ev_sl1, ix_ln e1, encT, ix_tn e2, enc, ptY]
  | ptr y k =>
    cases y with
    | true =>
      have e3 : eqD (.p (.str (wd true))) (.p (.str "young")) = .ok (.p (.bl true)) := eq_wy true
      simp [run_1, run_2, run_3, run_4, run_5, ev_C, ev_U, ev_B, ev_nil, ev_cons, ev_L, ev_tst, ev_and, ev_or, ev_not, ev_V, ev_if, ev_ch, ev_var0, ev_varS, ev_seq, ev_sif, ev_asg, ev_new, ev_unp, ev_ret, ev_retF, ev_drop, ev_snil, ev_raise, ev_for, sv_0, sv_S, setVs, op_mul_i, op_mod_i, op_div_i, op_p60, ev_whl, ev_nwM, ev_agM, ev_unM, ev_exM, ev_apM, ev_drM, ev_rtM, ev_ifM, ev_tM, ev_nM, ev_dpt, ev_rtO, ev_srcV0, ev_srcVS, ev_srcT, ev_app, ev_set, ev_aug, ev_slc, ev_sl0, ev_sl1, ix_ln e1, encT, ix_tn e2, enc, ptY, e3]
      exact aq_ok hl
    | false =>
      have e3 : eqD (.p (.str (wd false))) (.p (.str "young")) = .ok (.p (.bl false)) := eq_wy false
      simp [run_1, run_2, run_3, run_4, run_5, ev_C, ev_U, ev_B, ev_nil, ev_cons, ev_L, ev_tst, ev_and, ev_or, ev_not, ev_V, ev_if, ev_ch, ev_var0, ev_varS, ev_seq, ev_sif, ev_asg, ev_new, ev_unp, ev_ret, ev_retF, ev_drop, ev_snil, ev_raise, ev_for, sv_0, sv_S, setVs, op_mul_i, op_mod_i, op_div_i, op_p60, ev_whl, ev_nwM, ev_agM, ev_unM, ev_exM, ev_apM, ev_drM, ev_rtM, ev_ifM, ev_tM, ev_nM, ev_dpt, ev_rtO, ev_srcV0, ev_srcVS, ev_srcT, ev_app, ev_set, ev_aug, ev_slc, ev_sl0, ev_sl1, ix_ln e1, encT, ix_tn e2, enc, ptY, e3]
theorem bkO_l (o : List Th) (acc : List (Int × Int)) (i : Nat) (t : Th) (x3 x4 : Option Sl) (ht : o[i]? = some t) (ht2 : t.fs.length ≤ 200) (hl : acc.length < 900000) :
    ∃ y3 y4, bkO [some (.v (.l (o.map encT))), some (.o (.l (acc.map encP))), pI i, x3, x4] = .nx [some (.v (.l (o.map encT))), some (.o (.l ((acc ++ rowFrom i 0 t.fs).map encP))), pI i, y3, y4] := by
  obtain ⟨ρ', e, x3', x4', hI⟩ := forD_inv (tg := tgN 3) (u := bkI) (I := fun j ρ => ∃ y3 y4, ρ = [some (.v (.l (o.map encT))), some (.o (.l ((acc ++ rowFrom i 0 (t.fs.take j)).map encP))), pI i, y3, y4]) t.fs.length 0 [some (.v (.l (o.map encT))), some (.o (.l (acc.map encP))), pI i, x3, x4] ⟨x3, x4, by simp [rowFrom]⟩ fun j ρ h0 h1 ⟨y3, y4, hρ⟩ => by
    have hj : j < t.fs.length := by omega
    have hv : t.fs[j]? = some t.fs[j] := List.getElem?_eq_getElem hj
    have hr := rowFrom_len i 0 (t.fs.take j)
    have hr2 : (t.fs.take j).length ≤ 200 := by simp; omega
    subst hρ
    refine ⟨_, _, rfl, bkI_l o _ i j t t.fs[j] y4 ht hv (by simp; omega), pI j, some (.v (.p (enc t.fs[j]))), ?_⟩
    rw [take_S hv, rowFrom_app, Nat.zero_add, show (t.fs.take j).length = j by simp; omega]
    cases hp : ptY t.fs[j] <;> simp [rowFrom, hp]
  refine ⟨x3', x4', ?_⟩
  have e1 : (o.map encT)[i]? = some (encT t) := by simp [ht]
  unfold bkO
  rw [Nat.zero_add, List.take_length] at hI
  subst hI
  simp only [run_1, run_2, run_3, run_4, run_5, ev_C, ev_U, ev_B, ev_nil, ev_cons, ev_L, ev_tst, ev_and, ev_or, ev_not, ev_V, ev_if, ev_ch, ev_var0, ev_varS, ev_seq, ev_sif, ev_asg, ev_new, ev_unp, ev_ret, ev_retF, ev_drop, ev_snil, ev_raise, ev_for, sv_0, sv_S, setVs, op_mul_i, op_mod_i, op_div_i, op_p60, ev_whl, ev_nwM, ev_agM, ev_unM, ev_exM, ev_apM, ev_drM, ev_rtM, ev_ifM, ev_tM, ev_nM, ev_dpt, ev_rtO, ev_srcV0, ev_srcVS, ev_srcT, ev_app, ev_set, ev_aug, ev_slc, ev_sl0, ev_sl1, ev_src1, ix_ln e1, sl_v, sl_o, r2_ok, encT, ix_t1, rC_ok, r1_ok, op_len_t, op_len_l, List.length_map, op_rng (n := t.fs.length) (by omega), fr_ok]
  exact e
theorem book_of_l (o : List Th) (h1 : o.length ≤ 4000) (h2 : ∀ t ∈ o, t.fs.length ≤ 200) : m_law_book_of [.l (o.map encT)] = .ok (.p (.tup ((bookFrom 0 o).map encP))) := by
  obtain ⟨ρ', e, y2, y3, y4, hI⟩ := forD_inv (tg := tgN 2) (u := bkO) (I := fun j ρ => ∃ y2 y3 y4, ρ = [some (.v (.l (o.map encT))), some (.o (.l ((bookFrom 0 (o.take j)).map encP))), y2, y3, y4]) o.length 0 [some (.v (.l (o.map encT))), some (.o (.l [])), none, none, none] ⟨none, none, none, rfl⟩ fun j ρ h0 h3 ⟨y2, y3, y4, hρ⟩ => by
    have hj : j < o.length := by omega
    have ht : o[j]? = some o[j] := List.getElem?_eq_getElem hj
    have hb := bookFrom_len2 0 (o.take j) fun t ht => h2 t (List.mem_of_mem_take ht)
    have hb2 : (o.take j).length ≤ 4000 := by simp; omega
    subst hρ
    obtain ⟨z3, z4, e⟩ := bkO_l o (bookFrom 0 (o.take j)) j o[j] y3 y4 ht (h2 _ (List.getElem_mem hj)) (by omega)
    refine ⟨_, _, rfl, e, pI j, z3, z4, ?_⟩
    rw [take_S ht, bookFrom_app, Nat.zero_add, show (o.take j).length = j by simp; omega]
    simp [bookFrom]
  rw [Nat.zero_add, List.take_length] at hI
  subst hI
  unfold m_law_book_of
  simp only [run_1, run_2, run_3, run_4, run_5, ev_C, ev_U, ev_B, ev_nil, ev_cons, ev_L, ev_tst, ev_and, ev_or, ev_not, ev_V, ev_if, ev_ch, ev_var0, ev_varS, ev_seq, ev_sif, ev_asg, ev_new, ev_unp, ev_ret, ev_retF, ev_drop, ev_snil, ev_raise, ev_for, sv_0, sv_S, setVs, op_mul_i, op_mod_i, op_div_i, op_p60, ev_whl, ev_nwM, ev_agM, ev_unM, ev_exM, ev_apM, ev_drM, ev_rtM, ev_ifM, ev_tM, ev_nM, ev_dpt, ev_rtO, ev_srcV0, ev_srcVS, ev_srcT, ev_app, ev_set, ev_aug, ev_slc, ev_sl0, ev_sl1, ev_src1, List.replicate, sl_v, sl_o, rC_ok, r1_ok, op_len_t, op_len_l, List.length_map, op_rng (n := o.length) (by omega), fr_ok, l0, nw_o, sq_nx, List.set]
  have e : forD (tgN 2) bkO (rgD 0 o.length) _ = _ := e
  unfold bkO bkI at e
  rw [e]
  simp [run_1, run_2, run_3, run_4, run_5, ev_C, ev_U, ev_B, ev_nil, ev_cons, ev_L, ev_tst, ev_and, ev_or, ev_not, ev_V, ev_if, ev_ch, ev_var0, ev_varS, ev_seq, ev_sif, ev_asg, ev_new, ev_unp, ev_ret, ev_retF, ev_drop, ev_snil, ev_raise, ev_for, sv_0, sv_S, setVs, op_mul_i, op_mod_i, op_div_i, op_p60, ev_whl, ev_nwM, ev_agM, ev_unM, ev_exM, ev_apM, ev_drM, ev_rtM, ev_ifM, ev_tM, ev_nM, ev_dpt, ev_rtO, ev_srcV0, ev_srcVS, ev_srcT, ev_app, ev_set, ev_aug, ev_slc, ev_sl0, ev_sl1]
end Kp

namespace Kp
open PySem L2 Fw Ma
/-- one row, of any shape of names -/
theorem new_run {tg : Tg} {B : XS} {p : Vl → Bool} (F : List Vl → Option Sl → En)
    (hB : ∀ o v x, (∀ u ∈ o, isP' u = true) → o.length < 500000 → ∃ ρ1 y, tg (enc v) (F o x) = .ok ρ1 ∧ B ρ1 = .nx (F (if isP' v = true ∧ p v = true ∧ v ∉ o then o ++ [v] else o) y)) :
    ∀ (vs o : List Vl) (x : Option Sl), (∀ u ∈ o, isP' u = true) → o.length + vs.length < 500000 → ∃ y, forD tg B (vs.map enc) (F o x) = .nx (F (o ++ newF p o vs) y)
  | [], o, x, _, _ => ⟨x, by simp [forD, newF]⟩
  | v :: vs, o, x, hk, h1 => by
    simp only [List.length_cons] at h1
    obtain ⟨ρ1, z, et, eB⟩ := hB o v x hk (by omega)
    by_cases c : isP' v = true ∧ p v = true ∧ v ∉ o
    · rw [if_pos c] at eB
      obtain ⟨y, e⟩ := new_run F hB vs (o ++ [v]) z (fun u hu => by
        rcases List.mem_append.mp hu with hu | hu
        · exact hk u hu
        · rw [List.mem_singleton.mp hu]
          exact c.1) (by rw [List.length_append, List.length_singleton]; omega)
      refine ⟨y, ?_⟩
      rw [List.map_cons, forD_c' et eB, e, newF_yes c]
      simp
    · rw [if_neg c] at eB
      obtain ⟨y, e⟩ := new_run F hB vs o z hk (by omega)
      refine ⟨y, ?_⟩
      rw [List.map_cons, forD_c' et eB, e, newF_no c]
/-- going from one to the next, of any shape of names -/
theorem bfs_run {h : Hq} (G : So h) {C : XT} {U : XS} {p : Vl → Bool} {S : List Vl} (hS : ∀ v ∈ S, vOk h.young.length h.old.length v) {X : Type} (E : X → List Vl → Int → En)
    (hC : ∀ x o i, C (E x o i) = .ok (decide (i < o.length)))
    (hU : ∀ x o (i : Nat) v t, o[i]? = some v → led h v = some t → (∀ u ∈ o, isP' u = true) → o.length ≤ 10000 → t.fs.length ≤ 10000 → ∃ y, U (E x o i) = .nx (E y (o ++ newF p o t.fs) (i + 1)))
    (x : X) (k : Nat) (hk : 5000 < k) : ∃ i y, whileD C U k (E x (newF p [] S) 0) = .nx (E y (metL h p S) i) := by
  obtain ⟨ρ', e, i, y, rfl⟩ := whileD_run (c := C) (u := U) (I := fun n ρ => ∃ (i : Nat) (o : List Vl) (y : X), ρ = E y o i ∧ Way h p S i o ∧ bfs h p (n + 1) i o = metL h p S ∧ n + i = many h) (P := fun ρ => ∃ (i : Int) (y : X), ρ = E y (metL h p S) i) (fun n ρ ⟨i, o, y8, er, w, eb, en⟩ => by
    subst er
    have fw := w.few G hS
    have ml := many_le G
    by_cases lt : i < o.length
    · right
      have ei : o[i]? = some o[i] := List.getElem?_eq_getElem lt
      obtain ⟨t, g, gl⟩ := Rch.led G hS (w.rch o[i] (List.getElem_mem lt))
      obtain ⟨z8, eu⟩ := hU y8 o i o[i] t ei g (fun u hu => (w.rch u hu).p.1) (by omega) (by omega)
      have w2 := w.next ei
      have f2 := w2.few G hS
      have l2 := w2.le
      refine ⟨by rw [hC]; simp; omega, n - 1, _, by omega, eu, i + 1, _, z8, by rw [kids_led g]; rfl, w2, ?_, by omega⟩
      rw [← eb, show n - 1 + 1 = n by omega]
      show _ = (match o[i]? with
        | some v => bfs h p n (i + 1) (o ++ newF p o (kids h v))
        | none => o)
      rw [ei]
    · left
      refine ⟨by rw [hC]; simp; omega, i, y8, ?_⟩
      have eo : metL h p S = o := by
        rw [← eb]
        show (match o[i]? with
          | some v => bfs h p n (i + 1) (o ++ newF p o (kids h v))
          | none => o) = o
        rw [List.getElem?_eq_none (by omega)]
      rw [eo]) (many h) (E x (newF p [] S) (0 : Nat)) k ⟨0, _, x, rfl, Way.start h p S, rfl, by omega⟩ (by have := many_le G; omega)
  exact ⟨i, y, e⟩
end Kp

namespace Kp
open PySem L2 Fw Ma
def oN (o : List Vl) (v : Vl) : List Vl := if isP' v = true ∧ yes v = true ∧ v ∉ o then o ++ [v] else o
theorem oN_c {o vs : List Vl} {v : Vl} : o ++ newF yes o (v :: vs) = oN o v ++ newF yes (oN o v) vs := by
  unfold oN
  by_cases c : isP' v = true ∧ yes v = true ∧ v ∉ o
  · rw [if_pos c, newF_yes c]
    simp
  · rw [if_neg c, newF_no c]
theorem oN_mem {o : List Vl} {u v : Vl} (m : u ∈ oN o v) : u ∈ o ∨ (u = v ∧ isP' v = true) := by
  unfold oN at m
  split at m
  · rename_i c
    rcases List.mem_append.mp m with m | m
    · exact .inl m
    · exact .inr ⟨List.mem_singleton.mp m, c.1⟩
  · exact .inl m
theorem newF_app {o : List Vl} : ∀ {a b : List Vl}, o ++ newF yes o (a ++ b) = (o ++ newF yes o a) ++ newF yes (o ++ newF yes o a) b
  | [], b => by simp [newF]
  | v :: a, b => by
    rw [List.cons_append, oN_c, oN_c, newF_app]
theorem newF_snoc {o a : List Vl} {v : Vl} : o ++ newF yes o (a ++ [v]) = oN (o ++ newF yes o a) v := by
  rw [newF_app, oN_c]
  simp [newF]
/-! one heap beside another -/
def thL (g : Vl → Vl) (o : List Vl) : List (Vl × Vl) := o.map fun v => (v, g v)
theorem thL_lk {g : Vl → Vl} {v : Vl} : ∀ {o : List Vl}, lk (thL g o) v = if v ∈ o then some (g v) else none
  | [] => rfl
  | u :: o => by
    show (if u = v then some (g u) else lk (thL g o) v) = _
    by_cases c : u = v
    · subst c
      rw [if_pos rfl, if_pos List.mem_cons_self]
    · rw [if_neg c, thL_lk]
      by_cases d : v ∈ o
      · rw [if_pos d, if_pos (List.mem_cons_of_mem _ d)]
      · rw [if_neg d, if_neg fun z => (List.mem_cons.mp z).elim (fun e => c e.symm) d]
theorem thL_len {g : Vl → Vl} {o : List Vl} : (thL g o).length = o.length := List.length_map _
theorem thL_pt {g : Vl → Vl} {o : List Vl} {v : Vl} (h : v ∉ o) : pt (thL g o) v (g v) = thL g (o ++ [v]) := by
  rw [pt_new (by rw [thL_lk, if_neg h])]
  unfold thL
  rw [List.map_append]
  rfl
abbrev thR (g : Vl → Vl) (o : List Vl) : List (List Key × Dt) := mpD enc (thL g o)
theorem din_th (g : Vl → Vl) (v : Vl) (o : List Vl) (hk : ∀ u ∈ o, isP' u = true) : dinD false (.p (enc v)) (.d (thR g o)) = .ok (.p (.bl (decide (v ∈ o)))) := by
  rw [din_mp false v (thL g o) fun hv => by rw [thL_lk, if_neg fun m => by rw [hk v m] at hv; cases hv], if_neg (by decide), thL_lk]
  by_cases c : v ∈ o
  · rw [if_pos c, decide_eq_true c]
    rfl
  · rw [if_neg c, decide_eq_false c]
    rfl
theorem dix_th {g : Vl → Vl} {v : Vl} {o : List Vl} (p : isP' v = true) (m : v ∈ o) : dixD (.d (thR g o)) (.p (enc v)) = .ok (.p (enc (g v))) := by
  cases v with
  | non => cases p
  | int i => cases p
  | ptr y k => exact dix_mp (by rw [thL_lk, if_pos m])
/-- what keeps the ways of a heap in another -/
structure Sim (h g : Hq) (f : Vl → Vl) (R : Vl → Prop) : Prop where
  np : ∀ v, isP' v = false → f v = v
  pp : ∀ v, isP' v = true → isP' (f v) = true
  inj : ∀ u v, R u → R v → f u = f v → u = v
  led : ∀ v t, R v → led h v = some t → ∃ a, led g (f v) = some ⟨a, t.fs.map f⟩
  len : ∀ v, R v → isP' v = true
abbrev maE (f : Vl → Vl) (o : List Vl) (v : Vl) : En := [some (.v (.p (enc v))), some (.v (.p (enc (f v)))), some (.o (.d (thR f o))), some (.o (.d (knD (o.map f)))), some (.o (.l (o.map enc)))]
theorem matched_ok {h g : Hq} {f : Vl → Vl} {R : Vl → Prop} (S : Sim h g f R) (o : List Vl) (v : Vl) (ho : ∀ u ∈ o, R u) (hv : isP' v = true → R v) (hl : o.length ≤ 100000) :
    m_law_matched [.p (enc v), .p (enc (f v)), .d (thR f o), .d (knD (o.map f)), .l (o.map enc)] = .ok (.p (.bl true), [.d (thR f (oN o v)), .d (knD ((oN o v).map f)), .l ((oN o v).map enc)]) := by
  have ho' : ∀ u ∈ o, isP' u = true := fun u m => S.len u (ho u m)
  have hof : ∀ u ∈ o.map f, isP' u = true := fun u m => by
    obtain ⟨w, mw, rfl⟩ := List.mem_map.mp m
    exact S.pp w (ho' w mw)
  have e1 := isT_enc' v
  have e2 := alike_ok (f v)
  have fin : ∀ {s : XS}, s (maE f o v) = .rt (.p (.bl true)) (maE f (oN o v) v) → runM 5 5 [2, 3, 4] s [.p (enc v), .p (enc (f v)), .d (thR f o), .d (knD (o.map f)), .l (o.map enc)] = .ok (.p (.bl true), [.d (thR f (oN o v)), .d (knD ((oN o v).map f)), .l ((oN o v).map enc)]) := fun {s} e => (congrArg (outM [2, 3, 4]) e).trans rfl
  refine fin ?_
  cases hp : isP' v
  · have fv := S.np v hp
    rw [hp] at e1
    rw [fv] at e2
    have on : oN o v = o := if_neg fun z => by rw [hp] at z; cases z.1
    rw [on]
    simp [run_1, run_2, run_3, run_4, run_5, ev_C, ev_U, ev_B, ev_nil, ev_cons, ev_L, ev_tst, ev_and, ev_or, ev_not, ev_V, ev_if, ev_ch, ev_var0, ev_varS, ev_seq, ev_sif, ev_asg, ev_new, ev_unp, ev_ret, ev_retF, ev_drop, ev_snil, ev_raise, ev_for, sv_0, sv_S, setVs, op_mul_i, op_mod_i, op_div_i, op_p60, ev_whl, ev_nwM, ev_agM, ev_unM, ev_exM, ev_apM, ev_drM, ev_rtM, ev_ifM, ev_tM, ev_nM, ev_dpt, ev_rtO, ev_srcV0, ev_srcVS, ev_srcT, ev_app, ev_set, ev_aug, ev_slc, ev_sl0, ev_sl1, e1, e2, fv]
  · have Rv := hv hp
    rw [hp] at e1
    have e3 := din_th f v o ho'
    by_cases c : v ∈ o
    · rw [show oN o v = o from if_neg fun z => z.2.2 c]
      rw [decide_eq_true c] at e3
      have e4 := dix_th (g := f) hp c
      simp [run_1, run_2, run_3, run_4, run_5, ev_C, ev_U, ev_B, ev_nil, ev_cons, ev_L, ev_tst, ev_and, ev_or, ev_not, ev_V, ev_if, ev_ch, ev_var0, ev_varS, ev_seq, ev_sif, ev_asg, ev_new, ev_unp, ev_ret, ev_retF, ev_drop, ev_snil, ev_raise, ev_for, sv_0, sv_S, setVs, op_mul_i, op_mod_i, op_div_i, op_p60, ev_whl, ev_nwM, ev_agM, ev_unM, ev_exM, ev_apM, ev_drM, ev_rtM, ev_ifM, ev_tM, ev_nM, ev_dpt, ev_rtO, ev_srcV0, ev_srcVS, ev_srcT, ev_app, ev_set, ev_aug, ev_slc, ev_sl0, ev_sl1, e1, e3, e4, e2]
    · rw [show oN o v = o ++ [v] from if_pos ⟨hp, rfl, c⟩]
      rw [decide_eq_false c] at e3
      have nb : f v ∉ o.map f := fun m => by
        obtain ⟨w, mw, ew⟩ := List.mem_map.mp m
        exact c (S.inj w v (ho w mw) Rv ew ▸ mw)
      have e5 := din_kn false (f v) (o.map f) hof
      rw [if_neg (by decide), decide_eq_false nb] at e5
      have pf := S.pp v hp
      obtain ⟨z, j, ez⟩ : ∃ z j, f v = .ptr z j := by
        cases e : f v with
        | non => rw [e] at pf; cases pf
        | int i => rw [e] at pf; cases pf
        | ptr z j => exact ⟨z, j, rfl⟩
      obtain ⟨y, k, ev⟩ : ∃ y k, v = .ptr y k := by
        cases v with
        | non => cases hp
        | int i => cases hp
        | ptr y k => exact ⟨y, k, rfl⟩
      have n1 : ninD (.p (.str (wd z))) (.l [.str "young", .str "old"]) = .ok (.p (.bl false)) := by cases z <;> rfl
      have s1 : ddO (some (some (.o (.d (thR f o))))) (.ok (.p (enc (f v)))) (.ok (.p (enc v))) 2 (maE f o v) = .nx [some (.v (.p (enc v))), some (.v (.p (enc (f v)))), some (.o (.d (thR f (o ++ [v])))), some (.o (.d (knD (o.map f)))), some (.o (.l (o.map enc)))] := by
        rw [ev, ddO_ok (f := enc) (l := thL f o) (x := f (.ptr y k)) (by rw [thL_len]; omega), ← ev, thL_pt c]
        rfl
      have s2 : ddO (some (some (.o (.d (knD (o.map f)))))) (.ok (.p (.bl true))) (.ok (.p (enc (f v)))) 3 [some (.v (.p (enc v))), some (.v (.p (enc (f v)))), some (.o (.d (thR f (o ++ [v])))), some (.o (.d (knD (o.map f)))), some (.o (.l (o.map enc)))] = .nx [some (.v (.p (enc v))), some (.v (.p (enc (f v)))), some (.o (.d (thR f (o ++ [v])))), some (.o (.d (knD ((o ++ [v]).map f)))), some (.o (.l (o.map enc)))] := by
        rw [ez] at nb ⊢
        rw [ddO_ok (f := Dt.bl) (l := knP (o.map f)) (x := true) (by rw [knP_len]; simp; omega), kn_pt nb, List.map_append, List.map_singleton, ez]
        rfl
      have s3 := aq_ok (l := o.map enc) (y := enc v) (i := 4) (ρ := [some (.v (.p (enc v))), some (.v (.p (enc (f v)))), some (.o (.d (thR f (o ++ [v])))), some (.o (.d (knD ((o ++ [v]).map f)))), some (.o (.l (o.map enc)))]) (by simp; omega)
      have ef : enc (f v) = .tup [.str (wd z), .int j] := by rw [ez]; rfl
      rw [seq_nx (ρ' := maE f o v) (by simp [run_1, run_2, run_3, run_4, run_5, ev_C, ev_U, ev_B, ev_nil, ev_cons, ev_L, ev_tst, ev_and, ev_or, ev_not, ev_V, ev_if, ev_ch, ev_var0, ev_varS, ev_seq, ev_sif, ev_asg, ev_new, ev_unp, ev_ret, ev_retF, ev_drop, ev_snil, ev_raise, ev_for, sv_0, sv_S, setVs, op_mul_i, op_mod_i, op_div_i, op_p60, ev_whl, ev_nwM, ev_agM, ev_unM, ev_exM, ev_apM, ev_drM, ev_rtM, ev_ifM, ev_tM, ev_nM, ev_dpt, ev_rtO, ev_srcV0, ev_srcVS, ev_srcT, ev_app, ev_set, ev_aug, ev_slc, ev_sl0, ev_sl1, e1])]
      rw [seq_nx (ρ' := maE f o v) (by simp [run_1, run_2, run_3, run_4, run_5, ev_C, ev_U, ev_B, ev_nil, ev_cons, ev_L, ev_tst, ev_and, ev_or, ev_not, ev_V, ev_if, ev_ch, ev_var0, ev_varS, ev_seq, ev_sif, ev_asg, ev_new, ev_unp, ev_ret, ev_retF, ev_drop, ev_snil, ev_raise, ev_for, sv_0, sv_S, setVs, op_mul_i, op_mod_i, op_div_i, op_p60, ev_whl, ev_nwM, ev_agM, ev_unM, ev_exM, ev_apM, ev_drM, ev_rtM, ev_ifM, ev_tM, ev_nM, ev_dpt, ev_rtO, ev_srcV0, ev_srcVS, ev_srcT, ev_app, ev_set, ev_aug, ev_slc, ev_sl0, ev_sl1, e3])]
      rw [seq_nx (ρ' := maE f o v) (by
        simp only [maE, ef]
        simp [run_1, run_2, run_3, run_4, run_5, ev_C, ev_U, ev_B, ev_nil, ev_cons, ev_L, ev_tst, ev_and, ev_or, ev_not, ev_V, ev_if, ev_ch, ev_var0, ev_varS, ev_seq, ev_sif, ev_asg, ev_new, ev_unp, ev_ret, ev_retF, ev_drop, ev_snil, ev_raise, ev_for, sv_0, sv_S, setVs, op_mul_i, op_mod_i, op_div_i, op_p60, ev_whl, ev_nwM, ev_agM, ev_unM, ev_exM, ev_apM, ev_drM, ev_rtM, ev_ifM, ev_tM, ev_nM, ev_dpt, ev_rtO, ev_srcV0, ev_srcVS, ev_srcT, ev_app, ev_set, ev_aug, ev_slc, ev_sl0, ev_sl1, whole_ok])]
      rw [seq_nx (ρ' := maE f o v) (by
        rw [ef] at e5
        simp only [maE, ef]
        simp [run_1, run_2, run_3, run_4, run_5, ev_C, ev_U, ev_B, ev_nil, ev_cons, ev_L, ev_tst, ev_and, ev_or, ev_not, ev_V, ev_if, ev_ch, ev_var0, ev_varS, ev_seq, ev_sif, ev_asg, ev_new, ev_unp, ev_ret, ev_retF, ev_drop, ev_snil, ev_raise, ev_for, sv_0, sv_S, setVs, op_mul_i, op_mod_i, op_div_i, op_p60, ev_whl, ev_nwM, ev_agM, ev_unM, ev_exM, ev_apM, ev_drM, ev_rtM, ev_ifM, ev_tM, ev_nM, ev_dpt, ev_rtO, ev_srcV0, ev_srcVS, ev_srcT, ev_app, ev_set, ev_aug, ev_slc, ev_sl0, ev_sl1, n1, e5])]
      rw [seq_nx (by exact s1)]
      rw [seq_nx (by exact s2)]
      rw [seq_nx (ρ' := maE f (o ++ [v]) v) (by
        refine Eq.trans s3 ?_
        simp)]
      rfl
/-- a row, one after another -/
theorem mat_run {h g : Hq} {f : Vl → Vl} {R : Vl → Prop} (S : Sim h g f R) {j : Nat} {U : XS} (E : List Vl → Option Sl → En) (vs : List Vl) (hR : ∀ v ∈ vs, isP' v = true → R v)
    (ht : ∀ o x (k : Nat), tgN j (.int (k : Int)) (E o x) = .ok (E o (pI k)))
    (hU : ∀ o (k : Nat) v, vs[k]? = some v → (∀ u ∈ o, R u) → o.length ≤ 100000 → U (E o (pI k)) = .nx (E (oN o v) (pI k)))
    (o : List Vl) (x : Option Sl) (ho : ∀ u ∈ o, R u) (hl : o.length + vs.length ≤ 100000) : ∃ y, forD (tgN j) U (rgD 0 vs.length) (E o x) = .nx (E (o ++ newF yes o vs) y) := by
  obtain ⟨ρ', e, y, rfl, _⟩ := forD_inv (tg := tgN j) (u := U) (I := fun k ρ => ∃ y, ρ = E (o ++ newF yes o (vs.take k)) y ∧ ∀ u ∈ o ++ newF yes o (vs.take k), R u) vs.length 0 (E o x) ⟨x, by simp [newF], by simpa [newF] using ho⟩ fun k ρ h0 h1 ⟨y, er, hr⟩ => by
    subst er
    have hk : k < vs.length := by omega
    have ek : vs[k]? = some vs[k] := List.getElem?_eq_getElem hk
    have ln := newF_len (p := yes) (vs := vs.take k) (kn := o)
    have lt : (vs.take k).length = k := by simp; omega
    refine ⟨_, _, ht _ _ k, hU _ k vs[k] ek hr (by rw [List.length_append]; omega), pI k, ?_, ?_⟩
    · rw [take_S ek, newF_snoc]
    · rw [take_S ek, newF_snoc]
      intro u mu
      rcases oN_mem mu with mu | ⟨rfl, p⟩
      · exact hr u mu
      · exact hR _ (List.getElem_mem hk) p
  rw [Nat.zero_add, List.take_length] at e
  exact ⟨y, e⟩
end Kp

namespace Kp
open PySem L2 Fw Ma
/-! what minor does, as a way from one heap to another -/
def olds (h : Hq) : List Vl := (List.range h.old.length).map fun (k : Nat) => Vl.ptr false (k : Int)
theorem olds_mem {h : Hq} {v : Vl} : v ∈ olds h ↔ ∃ k : Int, v = .ptr false k ∧ 0 ≤ k ∧ k < h.old.length := by
  unfold olds
  rw [List.mem_map]
  constructor
  · rintro ⟨k, mk, rfl⟩
    have := List.mem_range.mp mk
    exact ⟨k, rfl, by omega, by omega⟩
  · rintro ⟨k, rfl, h0, h1⟩
    exact ⟨k.toNat, List.mem_range.mpr (by omega), by congr 1; omega⟩
theorem SM_ok {h : Hq} (G : So h) : ∀ v ∈ olds h ++ h.roots, vOk h.young.length h.old.length v := fun v m => by
  rcases List.mem_append.mp m with m | m
  · obtain ⟨k, rfl, h0, h1⟩ := olds_mem.mp m
    exact ⟨h0, h1⟩
  · exact G.vr v m
theorem SY_ok {h : Hq} (G : So h) : ∀ v ∈ h.roots ++ bkVs h, vOk h.young.length h.old.length v := fun v m => by
  rcases List.mem_append.mp m with m | m
  · exact G.vr v m
  · exact G.vb v m
abbrev RM (h : Hq) (v : Vl) : Prop := Rch h yes (olds h ++ h.roots) v
theorem RM_young {h : Hq} (G : So h) {v : Vl} (r : RM h v) : ptY v = true → Rch h ptY (h.roots ++ bkVs h) v := by
  induction r with
  | base m h1 h2 =>
    intro c
    rcases List.mem_append.mp m with m | m
    · obtain ⟨k, rfl, _⟩ := olds_mem.mp m
      cases c
    · exact .base (List.mem_append_left _ m) h1 c
  | @step u v r m h1 h2 ih =>
    intro c
    cases hu : ptY u
    · have pu := r.p.1
      have ok := r.ok G (SM_ok G)
      cases u with
      | non => cases pu
      | int i => cases pu
      | ptr y k =>
        cases y
        · obtain ⟨k0, k1⟩ : 0 ≤ k ∧ k < h.old.length := ok
          obtain ⟨t, g, ht⟩ := led_yes (h := h) (y := false) k0 k1
          rw [kids_led g] at m
          obtain ⟨i, hi, ei⟩ := List.mem_iff_getElem.mp m
          have := bookFrom_in (i := 0) (j := k.toNat) (k := i) (l := h.old) (t := t) (v := v) ht (by rw [List.getElem?_eq_getElem hi, ei]) c
          rw [Nat.zero_add, ← G.bk] at this
          refine .base (List.mem_append_right _ (List.mem_map.mpr ⟨_, this, ?_⟩)) h1 c
          unfold bkV
          have ht : h.old[k.toNat]? = some t := ht
          have hk : ((k.toNat : Nat) : Int).toNat = k.toNat := by omega
          show ((h.old[((k.toNat : Nat) : Int).toNat]?).bind fun t => t.fs[((i : Nat) : Int).toNat]?).getD .non = v
          rw [hk, ht]
          simp [hi, ei]
        · cases hu
    · exact .step (ih hu) m h1 c
theorem young_RM {h : Hq} (G : So h) {v : Vl} (r : Rch h ptY (h.roots ++ bkVs h) v) : RM h v := by
  induction r with
  | base m h1 h2 =>
    rcases List.mem_append.mp m with m | m
    · exact .base (List.mem_append_right _ m) h1 rfl
    · obtain ⟨p, mp, rfl⟩ := List.mem_map.mp m
      obtain ⟨j, k, t, v, rfl, e1, e2, e3, e4⟩ := G.book mp
      have lt := (List.getElem?_eq_some_iff.mp e1).1
      have b : RM h (.ptr false j) := .base (List.mem_append_left _ (olds_mem.mpr ⟨j, rfl, by omega, by omega⟩)) rfl rfl
      refine .step b ?_ h1 rfl
      obtain ⟨t', g, ht⟩ := led_yes (h := h) (y := false) (k := (j : Int)) (by omega) (by show (j : Int) < h.old.length; omega)
      have ht : h.old[j]? = some t' := ht
      rw [e1] at ht
      cases ht
      rw [kids_led g, e4]
      exact List.mem_of_getElem? e2
  | step r m h1 h2 ih => exact .step ih m h1 rfl
theorem cmY_RM {h : Hq} (G : So h) {k : Int} : k ∈ cmY h ↔ RM h (.ptr true k) := by
  have M := metL_met G (p := ptY) (SY_ok G)
  constructor
  · intro m
    exact young_RM G ((M.mem _).mp (plc_mem.mp m).2.2)
  · intro r
    obtain ⟨k0, k1⟩ : 0 ≤ k ∧ k < h.young.length := r.ok G (SM_ok G)
    exact plc_mem.mpr ⟨k0, k1, (M.mem _).mpr (RM_young G r rfl)⟩
theorem mem_posI {l : List Int} {k : Int} (m : k ∈ l) : ∃ i, posI l k = some i ∧ l[i]? = some k ∧ i < l.length := by
  cases e : posI l k with
  | none => exact absurd m (posI_none.mp e)
  | some i => exact ⟨i, rfl, posI_get e, (List.getElem?_eq_some_iff.mp (posI_get e)).1⟩
inductive PhM (h : Hq) (pat : Int) : Vl → Vl → Prop
  | old (k : Int) (h0 : 0 ≤ k) (h1 : k < h.old.length) : PhM h pat (.ptr false k) (.ptr false k)
  | stay (k : Int) (i : Nat) (m : k ∈ stayM h pat) (e : posI (stayM h pat) k = some i) : PhM h pat (.ptr true k) (.ptr true i)
  | leave (k : Int) (i : Nat) (m : k ∈ leaveM h pat) (e : posI (leaveM h pat) k = some i) : PhM h pat (.ptr true k) (.ptr false (h.old.length + i))
theorem phM {h : Hq} (G : So h) (pat : Int) {v : Vl} (r : RM h v) : PhM h pat v (phiM h pat v) := by
  have p := r.p.1
  have ok := r.ok G (SM_ok G)
  cases v with
  | non => cases p
  | int i => cases p
  | ptr y k =>
    cases y
    · rw [phiM_np rfl]
      exact .old k ok.1 ok.2
    · have mc := (cmY_RM G).mpr r
      by_cases c : (thAt h.young k).age < pat
      · have ms : k ∈ stayM h pat := List.mem_filter.mpr ⟨mc, decide_eq_true c⟩
        have nl : k ∉ leaveM h pat := fun z => stay_not z ms
        obtain ⟨i, e, _, _⟩ := mem_posI ms
        unfold phiM
        rw [mvF_n (posI_none.mpr nl), mvF_y e, Int.zero_add]
        exact .stay k i ms e
      · have ml : k ∈ leaveM h pat := List.mem_filter.mpr ⟨mc, decide_eq_true (by omega)⟩
        obtain ⟨i, e, _, _⟩ := mem_posI ml
        unfold phiM
        rw [mvF_y e]
        exact .leave k i ml e
theorem led_at {h : Hq} {y : Bool} {k : Int} {t : Th} (h0 : 0 ≤ k) (e : (half h y)[k.toNat]? = some t) : led h (.ptr y k) = some t := by
  have := (List.getElem?_eq_some_iff.mp e).1
  obtain ⟨t', g, e2⟩ := led_yes (h := h) (y := y) h0 (by omega)
  rw [e] at e2
  cases e2
  exact g
theorem led_thAt {h : Hq} {y : Bool} {k : Int} {t : Th} (g : led h (.ptr y k) = some t) : thAt (half h y) k = t := by
  obtain ⟨y', k', e, h0, ht⟩ := led_ptr g
  cases e
  unfold thAt
  rw [List.getD_eq_getElem?_getD, ht]
  rfl
/-- the age that is due -/
def ageM (pat : Int) (v : Vl) (t : Th) : Int := if ptY v = true ∧ t.age < pat then t.age + 1 else t.age
theorem led_minor {h : Hq} (G : So h) (pat : Int) {v : Vl} {t : Th} (r : RM h v) (g : led h v = some t) : led (minorH h pat) (phiM h pat v) = some ⟨ageM pat v t, t.fs.map (phiM h pat)⟩ := by
  have q := phM G pat r
  generalize hw : phiM h pat v = w at q
  cases q with
  | old k h0 h1 =>
    have e := led_thAt g
    refine led_at h0 ?_
    show (oldM h pat)[k.toNat]? = _
    unfold oldM
    rw [List.getElem?_append_left (by simp; omega), List.getElem?_map]
    have : h.old[k.toNat]? = some t := by
      obtain ⟨y', k', e', _, ht⟩ := led_ptr g
      cases e'
      exact ht
    rw [this]
    show some _ = some _
    congr 1
    unfold mvT ageM
    rw [if_neg (fun z => by cases z.1), Int.add_zero]
  | stay k i m e =>
    have et := led_thAt g
    have hi := posI_get e
    refine led_at (by omega) ?_
    show ((stayM h pat).map _)[((i : Int)).toNat]? = _
    rw [show ((i : Int)).toNat = i by omega, List.getElem?_map, hi]
    show some _ = some _
    congr 1
    have lt := of_decide_eq_true (List.mem_filter.mp m).2
    change thAt h.young k = t at et
    show mvT (phiM h pat) 1 (thAt h.young k) = _
    rw [et] at lt ⊢
    unfold mvT ageM
    rw [if_pos ⟨rfl, lt⟩]
  | leave k i m e =>
    have et := led_thAt g
    have hi := posI_get e
    refine led_at (by omega) ?_
    show (oldM h pat)[(((h.old.length : Int) + (i : Int))).toNat]? = _
    unfold oldM
    rw [show ((h.old.length : Int) + (i : Int)).toNat = h.old.length + i by omega, List.getElem?_append_right (by simp), List.length_map, Nat.add_sub_cancel_left, List.getElem?_map, hi]
    show some _ = some _
    congr 1
    have lt := of_decide_eq_true (List.mem_filter.mp m).2
    change thAt h.young k = t at et
    show mvT (phiM h pat) 0 (thAt h.young k) = _
    rw [et] at lt ⊢
    unfold mvT ageM
    rw [if_neg (fun z => by omega), Int.add_zero]
theorem mvF_p {y z : Bool} {f : Int} {ks : List Int} {g : Vl → Vl} (hg : ∀ v, isP' v = true → isP' (g v) = true) : ∀ v, isP' v = true → isP' (mvF y z f ks g v) = true := fun v p => by
  cases v with
  | non => cases p
  | int i => cases p
  | ptr x k =>
    by_cases c : x = y
    · subst c
      cases e : posI ks k with
      | none => rw [mvF_n e]; exact hg _ p
      | some i => rw [mvF_y e]; rfl
    · rw [mvF_x c]
      exact hg _ p
theorem simM {h : Hq} (G : So h) (pat : Int) : Sim h (minorH h pat) (phiM h pat) (RM h) where
  np v hv := phiM_np (by cases v <;> first | rfl | cases hv)
  pp := mvF_p (mvF_p fun v p => p)
  inj u v ru rv e := by
    have qu := phM G pat ru
    have qv := phM G pat rv
    rw [← e] at qv
    generalize phiM h pat u = w at qu qv
    cases qu with
    | old k h0 h1 =>
      generalize hw : Vl.ptr false k = w at qv
      cases qv with
      | old k' _ _ => rfl
      | stay k' i _ _ => cases hw
      | leave k' i _ _ => cases hw; omega
    | stay k i m e1 =>
      generalize hw : Vl.ptr true (i : Int) = w at qv
      cases qv with
      | old k' _ _ => cases hw
      | stay k' i' m' e2 =>
        cases hw
        have a := posI_get e1
        have b := posI_get e2
        rw [a] at b
        cases b
        rfl
      | leave k' i' _ _ => cases hw
    | leave k i m e1 =>
      generalize hw : Vl.ptr false ((h.old.length : Int) + (i : Int)) = w at qv
      cases qv with
      | old k' _ _ => cases hw; omega
      | stay k' i' _ _ => cases hw
      | leave k' i' m' e2 =>
        injection hw with _ hw
        have : i = i' := by omega
        subst this
        have a := posI_get e1
        have b := posI_get e2
        rw [a] at b
        cases b
        rfl
  led v t r g := ⟨_, led_minor G pat r g⟩
  len v r := r.p.1
/-- nothing else lies behind -/
theorem surM {h : Hq} (G : So h) (pat : Int) {z : Bool} {j : Int} (h0 : 0 ≤ j) (h1 : j < (half (minorH h pat) z).length) : ∃ v, RM h v ∧ phiM h pat v = .ptr z j := by
  cases z
  · have h1 : j < (oldM h pat).length := h1
    rw [old_len] at h1
    by_cases c : j < h.old.length
    · exact ⟨.ptr false j, .base (List.mem_append_left _ (olds_mem.mpr ⟨j, rfl, h0, c⟩)) rfl rfl, phiM_np rfl⟩
    · have lt : (j - h.old.length).toNat < (leaveM h pat).length := by omega
      have e := List.getElem?_eq_getElem lt
      have m := List.mem_of_getElem? e
      refine ⟨.ptr true (leaveM h pat)[(j - h.old.length).toNat], (cmY_RM G).mp (List.mem_filter.mp m).1, ?_⟩
      unfold phiM
      rw [mvF_y (posI_of (leave_nd h pat) e)]
      congr 1
      omega
  · have h1 : j < ((stayM h pat).map fun k => mvT (phiM h pat) 1 (thAt h.young k)).length := h1
    rw [List.length_map] at h1
    have lt : j.toNat < (stayM h pat).length := by omega
    have e := List.getElem?_eq_getElem lt
    have m := List.mem_of_getElem? e
    refine ⟨.ptr true (stayM h pat)[j.toNat], (cmY_RM G).mp (List.mem_filter.mp m).1, ?_⟩
    unfold phiM
    rw [mvF_n (posI_none.mpr fun z => stay_not z m), mvF_y (posI_of (stay_nd h pat) e)]
    congr 1
    omega
end Kp

namespace Kp
open PySem L2 Fw Ma
def isZ (z : Bool) : Vl → Bool
  | .ptr y _ => y == z
  | _ => false
def ixV : Vl → Nat
  | .ptr _ k => k.toNat
  | _ => 0
theorem count_ok {g : Hq} {f : Vl → Vl} {o : List Vl} (nd : o.Nodup) (inj : ∀ u ∈ o, ∀ v ∈ o, f u = f v → u = v) (into : ∀ v ∈ o, ∃ t, led g (f v) = some t) (sur : ∀ (z : Bool) (j : Int), 0 ≤ j → j < (half g z).length → ∃ v ∈ o, f v = .ptr z j) (z : Bool) : (o.filter fun v => isZ z (f v)).length = (half g z).length := by
  let L : List Nat := (o.filter fun v => isZ z (f v)).map fun v => ixV (f v)
  have key : ∀ v ∈ o.filter (fun v => isZ z (f v)), ∃ k : Int, f v = .ptr z k ∧ 0 ≤ k ∧ k < (half g z).length ∧ v ∈ o := fun v m => by
    obtain ⟨mo, c⟩ := List.mem_filter.mp m
    obtain ⟨t, e⟩ := into v mo
    obtain ⟨y, k, ev, h0, ht⟩ := led_ptr e
    rw [ev] at c
    have hy : y = z := by simpa [isZ] using c
    subst hy
    have := (List.getElem?_eq_some_iff.mp ht).1
    exact ⟨k, ev, h0, by omega, mo⟩
  have ndL : L.Nodup := by
    refine List.pairwise_map.mpr (List.Pairwise.imp_of_mem (fun {a b} ma mb ne e => ne ?_) (nd.filter _))
    obtain ⟨k, ek, k0, k1, mo⟩ := key a ma
    obtain ⟨j, ej, j0, j1, mo'⟩ := key b mb
    rw [ek, ej] at e
    have e : k.toNat = j.toNat := e
    refine inj a mo b mo' ?_
    rw [ek, ej]
    congr 1
    omega
  have sub1 : L ⊆ List.range (half g z).length := fun x m => by
    obtain ⟨v, mv, rfl⟩ := List.mem_map.mp m
    obtain ⟨k, ek, k0, k1, _⟩ := key v mv
    rw [ek]
    exact List.mem_range.mpr (by show k.toNat < _; omega)
  have sub2 : List.range (half g z).length ⊆ L := fun x m => by
    have := List.mem_range.mp m
    obtain ⟨v, mv, e⟩ := sur z (x : Int) (by omega) (by omega)
    refine List.mem_map.mpr ⟨v, List.mem_filter.mpr ⟨mv, by rw [e]; simp [isZ]⟩, ?_⟩
    rw [e]
    show ((x : Int)).toNat = x
    omega
  have l1 := List.Nodup.length_le_of_subset ndL sub1
  have l2 := List.Nodup.length_le_of_subset List.nodup_range sub2
  simp only [L, List.length_map, List.length_range] at l1 l2
  omega
/-! what major does -/
abbrev RJ (h : Hq) (v : Vl) : Prop := Rch h yes h.roots v
theorem cjY_R {h : Hq} (G : So h) {k : Int} : k ∈ cjY h ↔ RJ h (.ptr true k) := by
  have M := metL_met G (p := yes) G.vr
  constructor
  · intro m
    exact (M.mem _).mp (plc_mem.mp m).2.2
  · intro r
    obtain ⟨k0, k1⟩ : 0 ≤ k ∧ k < h.young.length := r.ok G G.vr
    exact plc_mem.mpr ⟨k0, k1, (M.mem _).mpr r⟩
theorem cjO_R {h : Hq} (G : So h) {k : Int} : k ∈ cjO h ↔ RJ h (.ptr false k) := by
  have M := metL_met G (p := yes) G.vr
  constructor
  · intro m
    exact (M.mem _).mp (plc_mem.mp m).2.2
  · intro r
    obtain ⟨k0, k1⟩ : 0 ≤ k ∧ k < h.old.length := r.ok G G.vr
    exact plc_mem.mpr ⟨k0, k1, (M.mem _).mpr r⟩
inductive PhJ (h : Hq) : Vl → Vl → Prop
  | young (k : Int) (i : Nat) (m : k ∈ cjY h) (e : posI (cjY h) k = some i) : PhJ h (.ptr true k) (.ptr true i)
  | old (k : Int) (i : Nat) (m : k ∈ cjO h) (e : posI (cjO h) k = some i) : PhJ h (.ptr false k) (.ptr false i)
theorem phJ {h : Hq} (G : So h) {v : Vl} (r : RJ h v) : PhJ h v (phiJ h v) := by
  have p := r.p.1
  cases v with
  | non => cases p
  | int i => cases p
  | ptr y k =>
    cases y
    · have m := (cjO_R G).mpr r
      obtain ⟨i, e, _, _⟩ := mem_posI m
      unfold phiJ
      rw [mvF_y e, Int.zero_add]
      exact .old k i m e
    · have m := (cjY_R G).mpr r
      obtain ⟨i, e, _, _⟩ := mem_posI m
      unfold phiJ
      rw [mvF_x (by decide), mvF_y e, Int.zero_add]
      exact .young k i m e
theorem led_major {h : Hq} (G : So h) {v : Vl} {t : Th} (r : RJ h v) (g : led h v = some t) : led (majorH h) (phiJ h v) = some ⟨t.age, t.fs.map (phiJ h)⟩ := by
  have q := phJ G r
  generalize hw : phiJ h v = w at q
  cases q with
  | young k i m e =>
    have et := led_thAt g
    have hi := posI_get e
    refine led_at (by omega) ?_
    show ((cjY h).map _)[((i : Int)).toNat]? = _
    rw [show ((i : Int)).toNat = i by omega, List.getElem?_map, hi]
    show some (mvT (phiJ h) 0 (thAt h.young k)) = some _
    change thAt h.young k = t at et
    rw [et]
    unfold mvT
    rw [Int.add_zero]
  | old k i m e =>
    have et := led_thAt g
    have hi := posI_get e
    refine led_at (by omega) ?_
    show (oldJ h)[((i : Int)).toNat]? = _
    unfold oldJ
    rw [show ((i : Int)).toNat = i by omega, List.getElem?_map, hi]
    show some (mvT (phiJ h) 0 (thAt h.old k)) = some _
    change thAt h.old k = t at et
    rw [et]
    unfold mvT
    rw [Int.add_zero]
theorem mvF_np {y z : Bool} {f : Int} {ks : List Int} {g : Vl → Vl} {v : Vl} (h : isP' v = false) : mvF y z f ks g v = g v := by
  cases v with
  | non => rfl
  | int i => rfl
  | ptr x k => cases h
theorem simJ {h : Hq} (G : So h) : Sim h (majorH h) (phiJ h) (RJ h) where
  np v hv := by
    unfold phiJ
    rw [mvF_np hv, mvF_np hv]
    rfl
  pp := mvF_p (mvF_p fun v p => p)
  inj u v ru rv e := by
    have qu := phJ G ru
    have qv := phJ G rv
    rw [← e] at qv
    generalize phiJ h u = w at qu qv
    cases qu with
    | young k i m e1 =>
      generalize hw : Vl.ptr true (i : Int) = w at qv
      cases qv with
      | young k' i' m' e2 =>
        cases hw
        have a := posI_get e1
        have b := posI_get e2
        rw [a] at b
        cases b
        rfl
      | old k' i' _ _ => cases hw
    | old k i m e1 =>
      generalize hw : Vl.ptr false (i : Int) = w at qv
      cases qv with
      | young k' i' _ _ => cases hw
      | old k' i' m' e2 =>
        cases hw
        have a := posI_get e1
        have b := posI_get e2
        rw [a] at b
        cases b
        rfl
  led v t r g := ⟨_, led_major G r g⟩
  len v r := r.p.1
theorem surJ {h : Hq} (G : So h) {z : Bool} {j : Int} (h0 : 0 ≤ j) (h1 : j < (half (majorH h) z).length) : ∃ v, RJ h v ∧ phiJ h v = .ptr z j := by
  cases z
  · have h1 : j < (oldJ h).length := h1
    rw [oldJ_len] at h1
    have lt : j.toNat < (cjO h).length := by omega
    have e := List.getElem?_eq_getElem lt
    refine ⟨.ptr false (cjO h)[j.toNat], (cjO_R G).mp (List.mem_of_getElem? e), ?_⟩
    unfold phiJ
    rw [mvF_y (posI_of (cjO_nd h) e)]
    congr 1
    omega
  · have h1 : j < ((cjY h).map fun k => mvT (phiJ h) 0 (thAt h.young k)).length := h1
    rw [List.length_map] at h1
    have lt : j.toNat < (cjY h).length := by omega
    have e := List.getElem?_eq_getElem lt
    refine ⟨.ptr true (cjY h)[j.toNat], (cjY_R G).mp (List.mem_of_getElem? e), ?_⟩
    unfold phiJ
    rw [mvF_x (by decide), mvF_y (posI_of (cjY_nd h) e)]
    congr 1
    omega
/-! a heap of the right form -/
def riB : XS := (sSeq (sIf (xOr (xNot (xTst blB (xU (isD "tuple") (xVar 3)))) (xTst blB (xB neD (xL lenD (xCons (xVar 3) xNil)) (xC (.int 2))))) (sRet (xC (.bl false))) sNil)
    (sIf (xOr (xNot (xTst blB (xL (chk 1 m_law_whole) (xCons (xB ixD (xVar 3) (xC (.int 0))) xNil)))) (xNot (xTst blB (xU (isD "tuple") (xB ixD (xVar 3) (xC (.int 1))))))) (sRet (xC (.bl false))) sNil))
theorem ri_row (a0 a1 a2 : Option Sl) (ts : List Th) (x3 : Option Sl) : ∃ y, forD (tgN 3) riB (ts.map encT) [a0, a1, a2, x3] = .nx [a0, a1, a2, y] := by
  obtain ⟨ρ', e, y, rfl⟩ := forD_list (f := encT) (tg := tgN 3) (u := riB) (I := fun p ρ => ∃ y, ρ = [a0, a1, a2, y]) ts [] [a0, a1, a2, x3] (fun p q t ρ es ⟨y, er⟩ => by
    subst er
    refine ⟨[a0, a1, a2, some (.v (.p (encT t)))], [a0, a1, a2, some (.v (.p (encT t)))], rfl, ?_, _, rfl⟩
    unfold riB encT
    simp [run_1, run_2, run_3, run_4, run_5, ev_C, ev_U, ev_B, ev_nil, ev_cons, ev_L, ev_tst, ev_and, ev_or, ev_not, ev_V, ev_if, ev_ch, ev_var0, ev_varS, ev_seq, ev_sif, ev_asg, ev_new, ev_unp, ev_ret, ev_retF, ev_drop, ev_snil, ev_raise, ev_for, sv_0, sv_S, setVs, op_mul_i, op_mod_i, op_div_i, op_p60, ev_whl, ev_nwM, ev_agM, ev_unM, ev_exM, ev_apM, ev_drM, ev_rtM, ev_ifM, ev_tM, ev_nM, ev_dpt, ev_rtO, ev_srcV0, ev_srcVS, ev_srcT, ev_app, ev_set, ev_aug, ev_slc, ev_sl0, ev_sl1, whole_ok]) ⟨x3, rfl⟩
  exact ⟨y, e⟩
theorem right_ok (g : Hq) : m_law_right [.p (encH g)] = .ok (.p (.bl true)) := by
  have a0 : (some (Sl.v (Sv.p (encH g))) : Option Sl) = some (.v (.p (.tup [.tup (g.young.map encT), .tup (g.old.map encT), .tup (g.roots.map enc), .tup (g.book.map encP)]))) := rfl
  obtain ⟨y, e1⟩ := ri_row (some (.v (.p (encH g)))) (some (.v (.p (.tup (g.book.map encP))))) (some (.v (.p (.tup (g.young.map encT))))) g.young none
  obtain ⟨z, e2⟩ := ri_row (some (.v (.p (encH g)))) (some (.v (.p (.tup (g.book.map encP))))) (some (.v (.p (.tup (g.old.map encT))))) g.old y
  let B : XS := sFor (srcV 2) (tgN 3) riB
  refine congrArg outD (a₂ := .rt (.p (.bl true)) [some (.v (.p (encH g))), some (.v (.p (.tup (g.book.map encP)))), some (.v (.p (.tup (g.old.map encT)))), z]) ?_
  rw [show initE 1 4 [.p (encH g)] = [some (.v (.p (encH g))), none, none, none] from rfl]
  rw [seq_nx (ρ' := [some (.v (.p (encH g))), none, none, none]) (by rfl)]
  rw [seq_nx (ρ' := [some (.v (.p (encH g))), some (.v (.p (.tup (g.book.map encP)))), none, none]) (by rfl)]
  rw [seq_nx (ρ' := [some (.v (.p (encH g))), some (.v (.p (.tup (g.book.map encP)))), some (.v (.p (.tup (g.old.map encT)))), z]) (by
    show forD (tgN 2) B [.tup (g.young.map encT), .tup (g.old.map encT)] _ = _
    rw [forD_c' (tg := tgN 2) (u := B) (ρ1 := [some (.v (.p (encH g))), some (.v (.p (.tup (g.book.map encP)))), some (.v (.p (.tup (g.young.map encT)))), none]) (ρ2 := [some (.v (.p (encH g))), some (.v (.p (.tup (g.book.map encP)))), some (.v (.p (.tup (g.young.map encT)))), y]) (by rfl) (by exact e1)]
    rw [forD_c' (tg := tgN 2) (u := B) (ρ1 := [some (.v (.p (encH g))), some (.v (.p (.tup (g.book.map encP)))), some (.v (.p (.tup (g.old.map encT)))), y]) (ρ2 := [some (.v (.p (encH g))), some (.v (.p (.tup (g.book.map encP)))), some (.v (.p (.tup (g.old.map encT)))), z]) (by rfl) (by exact e2)]
    rfl)]
  rfl
theorem bfs_run2 {h : Hq} (G : So h) {C : XT} {U : XS} {p : Vl → Bool} {S : List Vl} (hS : ∀ v ∈ S, vOk h.young.length h.old.length v) {X : Type} (E : X → List Vl → Int → En)
    (hC : ∀ x o i, C (E x o i) = .ok (decide (i < o.length)))
    (hU : ∀ x o (i : Nat) v t, o[i]? = some v → led h v = some t → (∀ u ∈ o, Rch h p S u) → o.length ≤ 10000 → t.fs.length ≤ 10000 → ∃ y, U (E x o i) = .nx (E y (o ++ newF p o t.fs) (i + 1)))
    (x : X) (k : Nat) (hk : 5000 < k) : ∃ i y, whileD C U k (E x (newF p [] S) 0) = .nx (E y (metL h p S) i) := by
  obtain ⟨ρ', e, i, y, rfl⟩ := whileD_run (c := C) (u := U) (I := fun n ρ => ∃ (i : Nat) (o : List Vl) (y : X), ρ = E y o i ∧ Way h p S i o ∧ bfs h p (n + 1) i o = metL h p S ∧ n + i = many h) (P := fun ρ => ∃ (i : Int) (y : X), ρ = E y (metL h p S) i) (fun n ρ ⟨i, o, y8, er, w, eb, en⟩ => by
    subst er
    have fw := w.few G hS
    have ml := many_le G
    by_cases lt : i < o.length
    · right
      have ei : o[i]? = some o[i] := List.getElem?_eq_getElem lt
      obtain ⟨t, g, gl⟩ := Rch.led G hS (w.rch o[i] (List.getElem_mem lt))
      obtain ⟨z8, eu⟩ := hU y8 o i o[i] t ei g (fun u hu => w.rch u hu) (by omega) (by omega)
      have w2 := w.next ei
      have f2 := w2.few G hS
      have l2 := w2.le
      refine ⟨by rw [hC]; simp; omega, n - 1, _, by omega, eu, i + 1, _, z8, by rw [kids_led g]; rfl, w2, ?_, by omega⟩
      rw [← eb, show n - 1 + 1 = n by omega]
      show _ = (match o[i]? with
        | some v => bfs h p n (i + 1) (o ++ newF p o (kids h v))
        | none => o)
      rw [ei]
    · left
      refine ⟨by rw [hC]; simp; omega, i, y8, ?_⟩
      have eo : metL h p S = o := by
        rw [← eb]
        show (match o[i]? with
          | some v => bfs h p n (i + 1) (o ++ newF p o (kids h v))
          | none => o) = o
        rw [List.getElem?_eq_none (by omega)]
      rw [eo]) (many h) (E x (newF p [] S) (0 : Nat)) k ⟨0, _, x, rfl, Way.start h p S, rfl, by omega⟩ (by have := many_le G; omega)
  exact ⟨i, y, e⟩
theorem oIf_nx {m : XM} {ρ ρ' : En} {w : XS} (h : m ρ = .ok (.p (.bl true), ρ')) : sIfM (xNM (xTM m)) w sNil ρ = .nx ρ' := by
  rw [ev_ifM, ev_nM, ev_tM, h]
  rfl
end Kp

namespace Kp
open PySem L2 Fw Ma
theorem shp_l2 (a b : Int) : SeqAt.shaped (.list [.int a, .int b]) = true := by simp [SeqAt.shaped, PyData.canLay0, PyData.canLayAll0, PyData.depth, PyData.depthAll]
theorem eq_l2 (a b : Int) : eqD (.l [.int a, .int b]) (.l [.int a, .int b]) = .ok (.p (.bl true)) := by
  show (if SeqAt.shaped (.list [.int a, .int b]) = true ∧ SeqAt.shaped (.list [.int a, .int b]) = true then Rz.ok (Sv.p (.bl (PyData.eqv (.list [.int a, .int b]) (.list [.int a, .int b])))) else .stuck) = _
  rw [if_pos ⟨shp_l2 a b, shp_l2 a b⟩]
  congr 3
  exact SeqAt.eqv_refl _ (SeqAt.canLay_of_shaped (shp_l2 a b))
theorem ne_l2 (a b : Int) : neD (.l [.int a, .int b]) (.l [.int a, .int b]) = .ok (.p (.bl false)) := by
  show (if SeqAt.shaped (.list [.int a, .int b]) = true ∧ SeqAt.shaped (.list [.int a, .int b]) = true then Rz.ok (Sv.p (.bl (!PyData.eqv (.list [.int a, .int b]) (.list [.int a, .int b])))) else .stuck) = _
  rw [if_pos ⟨shp_l2 a b, shp_l2 a b⟩, SeqAt.eqv_refl _ (SeqAt.canLay_of_shaped (shp_l2 a b))]
  rfl
theorem ne_wd (z : Bool) : neD (.p (.str (wd z))) (.p (.str (wd z))) = .ok (.p (.bl false)) := by
  have hs := shp_s (ok_wd z)
  show (if SeqAt.shaped (.str (wd z)) = true ∧ SeqAt.shaped (.str (wd z)) = true then Rz.ok (Sv.p (.bl (!PyData.eqv (.str (wd z)) (.str (wd z))))) else .stuck) = _
  rw [if_pos ⟨hs, hs⟩, SeqAt.eqv_refl _ (SeqAt.canLay_of_shaped hs)]
  rfl
def ofB (y : Bool) : Int := if y = true then 0 else 1
theorem h_half (h : Hq) (y : Bool) : ixD (.p (encH h)) (.p (.int (ofB y))) = .ok (.p (.tup ((half h y).map encT))) := by
  unfold half ofB encH
  cases y <;> simp
theorem w_ofB (y : Bool) : ixD (.l [.str "young", .str "old"]) (.p (.int (ofB y))) = .ok (.p (.str (wd y))) := by
  cases y <;> rfl
theorem i_ofB (y : Bool) : indexD (.l [.str "young", .str "old"]) (.p (.str (wd y))) = .ok (.p (.int (ofB y))) := by cases y <;> rfl
/-- as one more is counted -/
def cnt (z : Bool) (a b : Int) : List Dt := if z = true then [.int (a + 1), .int b] else [.int a, .int (b + 1)]
theorem minor_sz' {h : Hq} (G : So h) (pat : Int) : Sz (minorH h pat) := by
  have ly := G.ly
  have lo := G.lo
  have lr := G.lr
  have ls := stay_len h pat
  have ll := leave_len h pat
  have ln := old_len h pat
  refine ⟨by simp [minorH]; omega, by show (oldM h pat).length ≤ _; omega, by simp [minorH]; omega, ?_, fun t m => ?_, fun t m => by have := old_fs G pat t m; omega⟩
  · have := bookFrom_len2 0 (oldM h pat) (old_fs G pat)
    show (bookFrom 0 (oldM h pat)).length ≤ _
    omega
  · obtain ⟨k, mk, rfl⟩ := List.mem_map.mp m
    have := G.fy _ (thAt_m (stay_in mk).1 (stay_in mk).2)
    show (List.map _ _).length ≤ _
    simp
    omega
end Kp

namespace Kp
open PySem L2 Fw Ma
theorem field_0 (h : Hq) (v : Vl) (k : Int) (g : led h v = none) : mfield [.p (encH h), .p (enc v), .p (.int k)] = .exc 0 := by
  unfold mfield
  simp [run_1, run_2, run_3, run_4, run_5, ev_C, ev_U, ev_B, ev_nil, ev_cons, ev_L, ev_tst, ev_and, ev_or, ev_not, ev_V, ev_if, ev_ch, ev_var0, ev_varS, ev_seq, ev_sif, ev_asg, ev_new, ev_unp, ev_ret, ev_retF, ev_drop, ev_snil, ev_raise, ev_for, sv_0, sv_S, setVs, op_mul_i, op_mod_i, op_div_i, op_p60, thing_with_0 h v k g]
theorem field_1 (h : Hq) (v : Vl) (k : Int) (t : Th) (g : led h v = some t) (hk : ¬ (0 ≤ k ∧ k < t.fs.length)) : mfield [.p (encH h), .p (enc v), .p (.int k)] = .exc 1 := by
  unfold mfield
  simp [run_1, run_2, run_3, run_4, run_5, ev_C, ev_U, ev_B, ev_nil, ev_cons, ev_L, ev_tst, ev_and, ev_or, ev_not, ev_V, ev_if, ev_ch, ev_var0, ev_varS, ev_seq, ev_sif, ev_asg, ev_new, ev_unp, ev_ret, ev_retF, ev_drop, ev_snil, ev_raise, ev_for, sv_0, sv_S, setVs, op_mul_i, op_mod_i, op_div_i, op_p60, thing_with_1 h v k t g hk]
theorem field_2 (h : Hq) (v : Vl) (k : Int) (t : Th) (w : Vl) (g : led h v = some t) (k0 : 0 ≤ k) (hw : t.fs[k.toNat]? = some w) : mfield [.p (encH h), .p (enc v), .p (.int k)] = .ok (.p (enc w)) := by
  have k1 : k < t.fs.length := by
    have := (List.getElem?_eq_some_iff.mp hw).1
    omega
  have e := thing_with_2 h v k t g k0 k1
  have e3 : (t.fs.map enc)[k.toNat]? = some (enc w) := by simp [hw]
  unfold encT at e
  unfold mfield
  simp [run_1, run_2, run_3, run_4, run_5, ev_C, ev_U, ev_B, ev_nil, ev_cons, ev_L, ev_tst, ev_and, ev_or, ev_not, ev_V, ev_if, ev_ch, ev_var0, ev_varS, ev_seq, ev_sif, ev_asg, ev_new, ev_unp, ev_ret, ev_retF, ev_drop, ev_snil, ev_raise, ev_for, sv_0, sv_S, setVs, op_mul_i, op_mod_i, op_div_i, op_p60, e, ix_t k0 e3]
def held (h : Hq) (k : Nat) (v : Vl) : Hq := ⟨h.young, h.old, putAt h.roots k v, h.book⟩
theorem hold_2 (h : Hq) (k : Int) (v : Vl) (g : ¬ (0 ≤ k ∧ k < h.roots.length)) : mhold [.p (encH h), .p (.int k), .p (enc v)] = .exc 2 := by
  have e := no_root_ok h k
  rw [if_neg g] at e
  unfold mhold
  simp [run_1, run_2, run_3, run_4, run_5, ev_C, ev_U, ev_B, ev_nil, ev_cons, ev_L, ev_tst, ev_and, ev_or, ev_not, ev_V, ev_if, ev_ch, ev_var0, ev_varS, ev_seq, ev_sif, ev_asg, ev_new, ev_unp, ev_ret, ev_retF, ev_drop, ev_snil, ev_raise, ev_for, sv_0, sv_S, setVs, op_mul_i, op_mod_i, op_div_i, op_p60, e]
theorem hold_0 (h : Hq) (k : Int) (v : Vl) (k0 : 0 ≤ k) (k1 : k < h.roots.length) (hs : isStray h v = true) : mhold [.p (encH h), .p (.int k), .p (enc v)] = .exc 0 := by
  have e0 := no_root_ok h k
  rw [if_pos ⟨k0, k1⟩] at e0
  have e := refuse_stray_ok h v
  rw [if_pos hs] at e
  unfold mhold
  simp [run_1, run_2, run_3, run_4, run_5, ev_C, ev_U, ev_B, ev_nil, ev_cons, ev_L, ev_tst, ev_and, ev_or, ev_not, ev_V, ev_if, ev_ch, ev_var0, ev_varS, ev_seq, ev_sif, ev_asg, ev_new, ev_unp, ev_ret, ev_retF, ev_drop, ev_snil, ev_raise, ev_for, sv_0, sv_S, setVs, op_mul_i, op_mod_i, op_div_i, op_p60, e0, e]
theorem hold_ok (h : Hq) (k : Int) (v : Vl) (hl : h.roots.length ≤ 400000) (k0 : 0 ≤ k) (k1 : k < h.roots.length) (hs : isStray h v = false) : mhold [.p (encH h), .p (.int k), .p (enc v)] = .ok (.p (encH (held h k.toNat v))) := by
  have e0 := no_root_ok h k
  rw [if_pos ⟨k0, k1⟩] at e0
  have e := refuse_stray_ok h v
  rw [hs, if_neg (by decide)] at e
  have e2 := replaced_ok (h.roots.map enc) k (enc v) k0 (by simpa using hl)
  rw [putAt_enc] at e2
  unfold mhold
  simp only [run_1, run_2, run_3, run_4, run_5, ev_C, ev_U, ev_B, ev_nil, ev_cons, ev_L, ev_tst, ev_and, ev_or, ev_not, ev_V, ev_if, ev_ch, ev_var0, ev_varS, ev_seq, ev_sif, ev_asg, ev_new, ev_unp, ev_ret, ev_retF, ev_drop, ev_snil, ev_raise, ev_for, sv_0, sv_S, setVs, op_mul_i, op_mod_i, op_div_i, op_p60, List.replicate, sl_v, sl_o, rC_ok, r1_ok, chk_2, chk_3, e0, e, dp_ok, sq_nx]
  unfold encH
  simp only [run_1, run_2, run_3, run_4, run_5, ev_C, ev_U, ev_B, ev_nil, ev_cons, ev_L, ev_tst, ev_and, ev_or, ev_not, ev_V, ev_if, ev_ch, ev_var0, ev_varS, ev_seq, ev_sif, ev_asg, ev_new, ev_unp, ev_ret, ev_retF, ev_drop, ev_snil, ev_raise, ev_for, sv_0, sv_S, setVs, op_mul_i, op_mod_i, op_div_i, op_p60, sl_v, sl_o, up_ok, List.length_cons, List.length_nil, if_pos, sq_nx, rC_ok, r1_ok, chk_3, e2, t4, rt_ok, od_rt]
  rfl
theorem flat_rep (n : Nat) : (List.replicate n [Dt.non]).flatten = (List.replicate n Vl.non).map enc := by
  induction n with
  | zero => rfl
  | succ n ih =>
    rw [List.replicate_succ, List.flatten_cons, ih, List.replicate_succ, List.map_cons]
    rfl
theorem op_rep {n : Int} (h0 : 0 ≤ n) (h1 : n ≤ 1000) : repD (.p (.tup [.non])) (.p (.int n)) = .ok (.p (.tup ((List.replicate n.toNat Vl.non).map enc))) := by
  rw [← flat_rep]
  exact if_pos ⟨by simp, by omega, h1, by simp⟩
theorem started_ok (n : Int) (h0 : 0 ≤ n) (h1 : n ≤ 1000) : mstarted [.p (.int n)] = .ok (.p (encH ⟨[], [], List.replicate n.toNat .non, []⟩)) := by
  unfold mstarted
  simp [run_1, run_2, run_3, run_4, run_5, ev_C, ev_U, ev_B, ev_nil, ev_cons, ev_L, ev_tst, ev_and, ev_or, ev_not, ev_V, ev_if, ev_ch, ev_var0, ev_varS, ev_seq, ev_sif, ev_asg, ev_new, ev_unp, ev_ret, ev_retF, ev_drop, ev_snil, ev_raise, ev_for, sv_0, sv_S, setVs, op_mul_i, op_mod_i, op_div_i, op_p60, op_rep h0 h1]
  simp [encH]
def mdB : XS := (sDrop (xL (chk 2 mrefuse_stray) (xCons (xVar 0) (xCons (xVar 2) xNil))))
theorem forD_c {tg : Tg} {u : XS} {x : Dt} {xs : List Dt} {ρ ρ1 : En} (h : tg x ρ = .ok ρ1) : forD tg u (x :: xs) ρ = goOn (u ρ1) (forD tg u xs) := by
  show (match tg x ρ with | .ok ρ1 => goOn (u ρ1) (forD tg u xs) | _ => .stuck) = _
  rw [h]
abbrev mdE (h : Hq) (b y : Option Sl) : En := [some (.v (.p (encH h))), b, y, none, none, none, none, none]
theorem made_loop (h : Hq) (b : Option Sl) : ∀ (fs : List Vl) (y : Option Sl), ∃ z, forD (tgN 2) mdB (fs.map enc) (mdE h b y) = if fs.any (isStray h) = true then .exc 0 (mdE h b z) else .nx (mdE h b z)
  | [], y => ⟨y, rfl⟩
  | v :: vs, y => by
    have e := refuse_stray_ok h v
    rw [List.map_cons, forD_c (ρ1 := mdE h b (some (.v (.p (enc v))))) rfl]
    cases hs : isStray h v with
    | true =>
      rw [hs] at e
      refine ⟨some (.v (.p (enc v))), ?_⟩
      have e2 : mdB (mdE h b (some (.v (.p (enc v))))) = .exc 0 (mdE h b (some (.v (.p (enc v))))) := by
        unfold mdB
        simp [run_1, run_2, run_3, run_4, run_5, ev_C, ev_U, ev_B, ev_nil, ev_cons, ev_L, ev_tst, ev_and, ev_or, ev_not, ev_V, ev_if, ev_ch, ev_var0, ev_varS, ev_seq, ev_sif, ev_asg, ev_new, ev_unp, ev_ret, ev_retF, ev_drop, ev_snil, ev_raise, ev_for, sv_0, sv_S, setVs, op_mul_i, op_mod_i, op_div_i, op_p60, e]
      rw [e2, if_pos (by simp [hs])]
      rfl
    | false =>
      rw [hs] at e
      obtain ⟨z, ez⟩ := made_loop h b vs (some (.v (.p (enc v))))
      have e2 : mdB (mdE h b (some (.v (.p (enc v))))) = .nx (mdE h b (some (.v (.p (enc v))))) := by
        unfold mdB
        simp [run_1, run_2, run_3, run_4, run_5, ev_C, ev_U, ev_B, ev_nil, ev_cons, ev_L, ev_tst, ev_and, ev_or, ev_not, ev_V, ev_if, ev_ch, ev_var0, ev_varS, ev_seq, ev_sif, ev_asg, ev_new, ev_unp, ev_ret, ev_retF, ev_drop, ev_snil, ev_raise, ev_for, sv_0, sv_S, setVs, op_mul_i, op_mod_i, op_div_i, op_p60, e]
      refine ⟨z, ?_⟩
      rw [e2]
      show forD (tgN 2) mdB (vs.map enc) (mdE h b (some (.v (.p (enc v))))) = _
      rw [ez]
      simp [hs]
def grown (h : Hq) (fs : List Vl) : Hq := ⟨h.young ++ [⟨0, fs⟩], h.old, h.roots, h.book⟩
theorem ev_srcV1 {a : Option Sl} {l : List Dt} {r : En} : srcV 1 (a :: some (.v (.p (.tup l))) :: r) = .ok l := rfl
theorem made_ok (h : Hq) (fs : List Vl) (hl : h.young.length ≤ 900000) (g : fs.any (isStray h) = false) : mmade [.p (encH h), .p (.tup (fs.map enc))] = .ok (.p (.tup [encH (grown h fs), enc (.ptr true h.young.length)])) := by
  obtain ⟨z, e⟩ := made_loop h (some (.v (.p (.tup (fs.map enc))))) fs none
  rw [g, if_neg (by decide)] at e
  unfold mdE mdB at e
  have ea : addD (.p (.tup (h.young.map encT))) (.p (.tup [.tup [.int 0, .tup (fs.map enc)]])) = .ok (.p (.tup (h.young.map encT ++ [.tup [.int 0, .tup (fs.map enc)]]))) := op_add_t (by simp; omega)
  unfold mmade
  simp [run_1, run_2, run_3, run_4, run_5, ev_C, ev_U, ev_B, ev_nil, ev_cons, ev_L, ev_tst, ev_and, ev_or, ev_not, ev_V, ev_if, ev_ch, ev_var0, ev_varS, ev_seq, ev_sif, ev_asg, ev_new, ev_unp, ev_ret, ev_retF, ev_drop, ev_snil, ev_raise, ev_for, sv_0, sv_S, setVs, op_mul_i, op_mod_i, op_div_i, op_p60, ev_srcV1, e]
  unfold encH
  simp [run_1, run_2, run_3, run_4, run_5, ev_C, ev_U, ev_B, ev_nil, ev_cons, ev_L, ev_tst, ev_and, ev_or, ev_not, ev_V, ev_if, ev_ch, ev_var0, ev_varS, ev_seq, ev_sif, ev_asg, ev_new, ev_unp, ev_ret, ev_retF, ev_drop, ev_snil, ev_raise, ev_for, sv_0, sv_S, setVs, op_mul_i, op_mod_i, op_div_i, op_p60, ea]
  simp [grown, encT, enc, wd]
theorem made_ex (h : Hq) (fs : List Vl) (g : fs.any (isStray h) = true) : mmade [.p (encH h), .p (.tup (fs.map enc))] = .exc 0 := by
  obtain ⟨z, e⟩ := made_loop h (some (.v (.p (.tup (fs.map enc))))) fs none
  rw [if_pos g] at e
  unfold mdE mdB at e
  unfold mmade
  simp [run_1, run_2, run_3, run_4, run_5, ev_C, ev_U, ev_B, ev_nil, ev_cons, ev_L, ev_tst, ev_and, ev_or, ev_not, ev_V, ev_if, ev_ch, ev_var0, ev_varS, ev_seq, ev_sif, ev_asg, ev_new, ev_unp, ev_ret, ev_retF, ev_drop, ev_snil, ev_raise, ev_for, sv_0, sv_S, setVs, op_mul_i, op_mod_i, op_div_i, op_p60, ev_srcV1, e]
theorem rowFrom_mem {i : Nat} {p : Int × Int} : ∀ {k : Nat} {l : List Vl}, p ∈ rowFrom i k l → p.1 = i ∧ (k : Int) ≤ p.2 ∧ p.2 < k + l.length
  | k, [], h => by cases h
  | k, v :: vs, h => by
    rw [rowFrom_c] at h
    have go : p ∈ rowFrom i (k + 1) vs → p.1 = i ∧ (k : Int) ≤ p.2 ∧ p.2 < k + (v :: vs).length := fun h => by
      have := rowFrom_mem h
      simp at this ⊢
      omega
    split at h
    · rcases List.mem_cons.mp h with rfl | h
      · simp
        omega
      · exact go h
    · exact go h
theorem bookFrom_mem {p : Int × Int} : ∀ {i : Nat} {l : List Th}, p ∈ bookFrom i l → (i : Int) ≤ p.1 ∧ p.1 < i + l.length
  | i, [], h => by cases h
  | i, t :: ts, h => by
    rw [bookFrom_c] at h
    rcases List.mem_append.mp h with h | h
    · have := rowFrom_mem h
      simp
      omega
    · have := bookFrom_mem h
      simp at this ⊢
      omega
def ltP (p q : Int × Int) : Bool := HT.lexLt [p.1, p.2] [q.1, q.2]
theorem ltP_iff {p q : Int × Int} : ltP p q = true ↔ p.1 < q.1 ∨ (p.1 = q.1 ∧ p.2 < q.2) := by
  unfold ltP
  simp only [HT.lexLt]
  by_cases h : p.1 = q.1
  · by_cases g : p.2 = q.2
    · simp [h, g]
    · simp [h, g]
  · simp [h]
theorem lt_pair (p q : Int × Int) : ltD (.p (encP p)) (.p (encP q)) = .ok (.p (.bl (ltP p q))) := rfl
theorem mid_eq (a b : Nat) : ((a : Int) + b).fdiv 2 = ((a + b) / 2 : Nat) := by
  rw [Int.fdiv_eq_ediv_of_nonneg _ (by decide)]
  omega
def mbC : XT := (xTst blB (xB ltD (xVar 2) (xVar 3)))
def mbU : XS := (sSeq (sAsg 4 (xB divD (xB addD (xVar 2) (xVar 3)) (xC (.int 2))))
    (sIf (xTst blB (xB ltD (xB ixD (xVar 0) (xVar 4)) (xVar 1))) (sAsg 2 (xB addD (xVar 4) (xC (.int 1)))) (sAsg 3 (xVar 4))))
theorem many_loop (bk : List (Int × Int)) (q : Int × Int) (n : Nat) (hn : n ≤ bk.length) (h1 : ∀ (i : Nat) (p : Int × Int), i < n → bk[i]? = some p → ltP p q = true) (h2 : ∀ (i : Nat) (p : Int × Int), n ≤ i → bk[i]? = some p → ltP p q = false) :
    ∀ (m N lo hi : Nat) (y : Option Sl), hi - lo = m → m < N → lo ≤ n → n ≤ hi → hi ≤ bk.length →
      ∃ z, whileD mbC mbU N [some (.v (.p (.tup (bk.map encP)))), some (.v (.p (encP q))), pI lo, pI hi, y] = .nx [some (.v (.p (.tup (bk.map encP)))), some (.v (.p (encP q))), pI n, pI n, z] := by
  intro m
  induction m using Nat.strongRecOn with
  | ind m ih =>
    intro N lo hi y hm hN h3 h4 h5
    cases N with
    | zero => omega
    | succ N =>
      unfold whileD
      by_cases g : lo < hi
      · have ec : mbC [some (.v (.p (.tup (bk.map encP)))), some (.v (.p (encP q))), pI lo, pI hi, y] = .ok true := by
          unfold mbC
          simp [run_1, run_2, run_3, run_4, run_5, ev_C, ev_U, ev_B, ev_nil, ev_cons, ev_L, ev_tst, ev_and, ev_or, ev_not, ev_V, ev_if, ev_ch, ev_var0, ev_varS, ev_seq, ev_sif, ev_asg, ev_new, ev_unp, ev_ret, ev_retF, ev_drop, ev_snil, ev_raise, ev_for, sv_0, sv_S, setVs, op_mul_i, op_mod_i, op_div_i, op_p60, g]
        rw [ec]
        show ∃ z, goOn (mbU _) (whileD mbC mbU N) = Out.nx [some (.v (.p (.tup (bk.map encP)))), some (.v (.p (encP q))), pI n, pI n, z]
        have hk : (lo + hi) / 2 < bk.length := by omega
        have e1 : (bk.map encP)[(lo + hi) / 2]? = some (encP bk[(lo + hi) / 2]) := by simp [hk]
        have e2 : bk[(lo + hi) / 2]? = some bk[(lo + hi) / 2] := List.getElem?_eq_getElem hk
        generalize bk[(lo + hi) / 2] = p at e1 e2
        have e3 := mid_eq lo hi
        by_cases d : (lo + hi) / 2 < n
        · have e4 := h1 _ _ d e2
          have eu : mbU [some (.v (.p (.tup (bk.map encP)))), some (.v (.p (encP q))), pI lo, pI hi, y] = .nx [some (.v (.p (.tup (bk.map encP)))), some (.v (.p (encP q))), pI ((lo + hi) / 2 + 1 : Nat), pI hi, pI ((lo + hi) / 2 : Nat)] := by
            unfold mbU
            simp only [run_1, run_2, run_3, run_4, run_5, ev_C, ev_U, ev_B, ev_nil, ev_cons, ev_L, ev_tst, ev_and, ev_or, ev_not, ev_V, ev_if, ev_ch, ev_var0, ev_varS, ev_seq, ev_sif, ev_asg, ev_new, ev_unp, ev_ret, ev_retF, ev_drop, ev_snil, ev_raise, ev_for, sv_0, sv_S, setVs, op_mul_i, op_mod_i, op_div_i, op_p60, sl_v, r2_ok, op_add_i, op_div_i (show (2 : Int) ≠ 0 ∧ (2 : Int).natAbs < 1073741824 by decide), e3, ag_ok, sq_nx, ix_tn e1, lt_pair, e4, r1_ok, op_blB, cd_t]
            rfl
          rw [eu]
          exact ih (hi - ((lo + hi) / 2 + 1)) (by omega) N _ _ _ rfl (by omega) (by omega) h4 h5
        · have e4 := h2 _ _ (by omega) e2
          have eu : mbU [some (.v (.p (.tup (bk.map encP)))), some (.v (.p (encP q))), pI lo, pI hi, y] = .nx [some (.v (.p (.tup (bk.map encP)))), some (.v (.p (encP q))), pI lo, pI ((lo + hi) / 2 : Nat), pI ((lo + hi) / 2 : Nat)] := by
            unfold mbU
            simp only [run_1, run_2, run_3, run_4, run_5, ev_C, ev_U, ev_B, ev_nil, ev_cons, ev_L, ev_tst, ev_and, ev_or, ev_not, ev_V, ev_if, ev_ch, ev_var0, ev_varS, ev_seq, ev_sif, ev_asg, ev_new, ev_unp, ev_ret, ev_retF, ev_drop, ev_snil, ev_raise, ev_for, sv_0, sv_S, setVs, op_mul_i, op_mod_i, op_div_i, op_p60, sl_v, r2_ok, op_add_i, op_div_i (show (2 : Int) ≠ 0 ∧ (2 : Int).natAbs < 1073741824 by decide), e3, ag_ok, sq_nx, ix_tn e1, lt_pair, e4, r1_ok, op_blB, cd_f]
          rw [eu]
          exact ih ((lo + hi) / 2 - lo) (by omega) N _ _ _ rfl (by omega) h3 (by omega) (by omega)
      · have ec : mbC [some (.v (.p (.tup (bk.map encP)))), some (.v (.p (encP q))), pI lo, pI hi, y] = .ok false := by
          unfold mbC
          simp [run_1, run_2, run_3, run_4, run_5, ev_C, ev_U, ev_B, ev_nil, ev_cons, ev_L, ev_tst, ev_and, ev_or, ev_not, ev_V, ev_if, ev_ch, ev_var0, ev_varS, ev_seq, ev_sif, ev_asg, ev_new, ev_unp, ev_ret, ev_retF, ev_drop, ev_snil, ev_raise, ev_for, sv_0, sv_S, setVs, op_mul_i, op_mod_i, op_div_i, op_p60, g]
        rw [ec]
        have a1 : lo = n := by omega
        have a2 : hi = n := by omega
        subst a1 a2
        exact ⟨y, rfl⟩
theorem many_below_ok (bk : List (Int × Int)) (q : Int × Int) (n : Nat) (hn : n ≤ bk.length) (hl : bk.length ≤ 900000) (h1 : ∀ (i : Nat) (p : Int × Int), i < n → bk[i]? = some p → ltP p q = true) (h2 : ∀ (i : Nat) (p : Int × Int), n ≤ i → bk[i]? = some p → ltP p q = false) : mmany_below [.p (.tup (bk.map encP)), .p (encP q)] = .ok (.p (.int n)) := by
  obtain ⟨z, e⟩ := many_loop bk q n hn h1 h2 bk.length 1000000 0 bk.length none (by omega) (by omega) (by omega) hn (Nat.le_refl _)
  have e : sWhile mbC mbU [some (.v (.p (.tup (bk.map encP)))), some (.v (.p (encP q))), pI 0, pI bk.length, none] = _ := e
  unfold mbC mbU at e
  unfold mmany_below
  simp [run_1, run_2, run_3, run_4, run_5, ev_C, ev_U, ev_B, ev_nil, ev_cons, ev_L, ev_tst, ev_and, ev_or, ev_not, ev_V, ev_if, ev_ch, ev_var0, ev_varS, ev_seq, ev_sif, ev_asg, ev_new, ev_unp, ev_ret, ev_retF, ev_drop, ev_snil, ev_raise, ev_for, sv_0, sv_S, setVs, op_mul_i, op_mod_i, op_div_i, op_p60, e]
theorem cut_one (l : List Dt) (n : Nat) : cutD l (some n) (some (n + 1 : Int)) = (l.drop n).take 1 := by
  have e : ((n : Int) + 1) = ((n + 1 : Nat) : Int) := by omega
  unfold cutD
  rw [e, HT.sIx_nat, HT.sIx_nat]
  by_cases g : n < l.length
  · rw [Nat.min_eq_left (by omega), Nat.min_eq_left (by omega), show n + 1 - n = 1 by omega]
  · rw [Nat.min_eq_right (by omega), Nat.min_eq_right (by omega), List.drop_of_length_le (Nat.le_refl _), List.drop_of_length_le (by omega)]
    simp
theorem sl_one {x k : XE} {ρ : En} {l : List Dt} {n : Nat} (hx : x ρ = .ok (.p (.tup l))) (hk : k ρ = .ok (.p (.int n))) : xSl slD x (oAt k) (oAt (xB addD k (xC (.int 1)))) ρ = .ok (.p (.tup ((l.drop n).take 1))) := by
  rw [ev_sl, hx]
  show ((k ρ).bind intO).bind (fun a => ((xB addD k (xC (.int 1)) ρ).bind intO).bind fun u => slD (.p (.tup l)) a u) = _
  rw [ev_B, hk]
  show Rz.ok (Sv.p (.tup (cutD l (some n) (some (n + 1 : Int))))) = _
  rw [cut_one]
theorem eq_one (p q : Int × Int) : eqD (.p (.tup [encP p])) (.p (.tup [encP q])) = .ok (.p (.bl (p == q))) := by
  have hs : ∀ p : Int × Int, SeqAt.shaped (.tuple [.tuple [.int p.1, .int p.2]]) = true := fun p => by simp [SeqAt.shaped, PyData.canLay0, PyData.canLayAll0, PyData.depth, PyData.depthAll]
  show (if SeqAt.shaped (.tuple [.tuple [.int p.1, .int p.2]]) = true ∧ SeqAt.shaped (.tuple [.tuple [.int q.1, .int q.2]]) = true then Rz.ok (Sv.p (.bl (PyData.eqv (.tuple [.tuple [.int p.1, .int p.2]]) (.tuple [.tuple [.int q.1, .int q.2]])))) else .stuck) = _
  rw [if_pos ⟨hs p, hs q⟩]
  congr 3
  simp [PyData.eqv, PyData.eqvAll]
  rfl
theorem eq_zero (q : Int × Int) : eqD (.p (.tup [])) (.p (.tup [encP q])) = .ok (.p (.bl false)) := by
  have hs : SeqAt.shaped (.tuple [.tuple [.int q.1, .int q.2]]) = true := by simp [SeqAt.shaped, PyData.canLay0, PyData.canLayAll0, PyData.depth, PyData.depthAll]
  have h0 : SeqAt.shaped (.tuple []) = true := by simp [SeqAt.shaped, PyData.canLay0, PyData.canLayAll0, PyData.depth, PyData.depthAll]
  show (if SeqAt.shaped (.tuple []) = true ∧ SeqAt.shaped (.tuple [.tuple [.int q.1, .int q.2]]) = true then Rz.ok (Sv.p (.bl (PyData.eqv (.tuple []) (.tuple [.tuple [.int q.1, .int q.2]])))) else .stuck) = _
  rw [if_pos ⟨h0, hs⟩]
  rfl
theorem rebooked_ok (A B : List (Int × Int)) (q : Int × Int) (m w : Bool) (hA : ∀ p ∈ A, ltP p q = true) (hB : ∀ p ∈ B, ltP q p = true) (hl : A.length + B.length ≤ 400000) :
    mrebooked [.p (.tup ((A ++ (if m = true then [q] else []) ++ B).map encP)), .p (encP q), .p (.bl w)] = .ok (.p (.tup ((A ++ (if w = true then [q] else []) ++ B).map encP))) := by
  have hBn : ∀ p ∈ B, ltP p q = false ∧ (p == q) = false := fun p hp => by
    have h1 := ltP_iff.mp (hB p hp)
    refine ⟨?_, ?_⟩
    · cases h : ltP p q
      · rfl
      · have := ltP_iff.mp h
        omega
    · rw [beq_eq_false_iff_ne]
      intro e
      subst e
      omega
  have hqq : ltP q q = false := by
    cases h : ltP q q
    · rfl
    · have := ltP_iff.mp h
      omega
  generalize hL : A ++ (if m = true then [q] else []) ++ B = L
  have hlen : L.length ≤ 400001 := by
    rw [← hL]
    cases m <;> simp <;> omega
  have eM := many_below_ok L q A.length (by rw [← hL]; simp) (by omega) (fun i p hi hp => by
    rw [← hL, List.append_assoc, List.getElem?_append_left hi] at hp
    exact hA p (List.mem_of_getElem? hp)) (fun i p hi hp => by
    rw [← hL, List.append_assoc, List.getElem?_append_right hi] at hp
    have := List.mem_of_getElem? hp
    rcases List.mem_append.mp this with h | h
    · cases m
      · simp at h
      · simp at h
        rw [h]
        exact hqq
    · exact (hBn p h).1)
  have eD : (L.map encP).drop A.length = ((if m = true then [q] else []) ++ B).map encP := by
    rw [← hL, List.append_assoc, List.map_append]
    simp
  have eC : eqD (.p (.tup (((L.map encP).drop A.length).take 1))) (.p (.tup [encP q])) = .ok (.p (.bl m)) := by
    rw [eD]
    cases m with
    | true => simpa using eq_one q q
    | false =>
      cases B with
      | nil => exact eq_zero q
      | cons b r =>
        have := eq_one b q
        rw [(hBn b List.mem_cons_self).2] at this
        exact this
  have e1 : ∀ ρ : En, xVar 0 ρ = .ok (.p (.tup (L.map encP))) → xVar 3 ρ = .ok (.p (.int A.length)) → xSl slD (xVar 0) (oAt (xVar 3)) (oAt (xB addD (xVar 3) (xC (.int 1)))) ρ = .ok (.p (.tup (((L.map encP).drop A.length).take 1))) := fun ρ a c => sl_one a c
  have e2 : ∀ ρ : En, xVar 0 ρ = .ok (.p (.tup (L.map encP))) → xVar 3 ρ = .ok (.p (.int A.length)) → xSl slD (xVar 0) oNo (oAt (xVar 3)) ρ = .ok (.p (.tup ((L.map encP).take A.length))) := fun ρ a c => by
    rw [sl_to a c (by omega), Int.toNat_natCast]
  have e3 : ∀ (ρ : En) (j : Nat), xVar 0 ρ = .ok (.p (.tup (L.map encP))) → xVar 4 ρ = .ok (.p (.int j)) → xSl slD (xVar 0) (oAt (xVar 4)) oNo ρ = .ok (.p (.tup ((L.map encP).drop j))) := fun ρ j a c => by
    rw [sl_from a c (by omega), Int.toNat_natCast]
  have eT : (L.map encP).take A.length = A.map encP := by
    rw [← hL, List.append_assoc, List.map_append]
    simp
  have eB : (L.map encP).drop (A.length + if m = true then 1 else 0) = B.map encP := by
    rw [← List.drop_drop, eD]
    cases m <;> simp
  have a1 : addD (.p (.tup (A.map encP))) (.p (.tup (if w = true then [encP q] else []))) = .ok (.p (.tup (A.map encP ++ if w = true then [encP q] else []))) := op_add_t (by cases w <;> simp <;> omega)
  have a2 : addD (.p (.tup (A.map encP ++ if w = true then [encP q] else []))) (.p (.tup (B.map encP))) = .ok (.p (.tup (A.map encP ++ (if w = true then [encP q] else []) ++ B.map encP))) := op_add_t (by cases w <;> simp <;> omega)
  have fin : A.map encP ++ (if w = true then [encP q] else []) ++ B.map encP = (A ++ (if w = true then [q] else []) ++ B).map encP := by
    cases w <;> simp
  have fin2 : ∀ ρ, outD (rtO (r2 addD (r2 addD (.ok (.p (.tup ((L.map encP).take A.length)))) (.ok (.p (.tup (if w = true then [encP q] else []))))) (.ok (.p (.tup ((L.map encP).drop (A.length + if m = true then 1 else 0)))))) ρ) = .ok (.p (.tup ((A ++ (if w = true then [q] else []) ++ B).map encP))) := fun ρ => by
    rw [eT, eB, r2_ok, a1, r2_ok, a2, fin]
    rfl
  unfold mrebooked
  simp only [run_1, run_2, run_3, run_4, run_5, ev_C, ev_U, ev_B, ev_nil, ev_cons, ev_L, ev_tst, ev_and, ev_or, ev_not, ev_V, ev_if, ev_ch, ev_var0, ev_varS, ev_seq, ev_sif, ev_asg, ev_new, ev_unp, ev_ret, ev_retF, ev_drop, ev_snil, ev_raise, ev_for, sv_0, sv_S, setVs, op_mul_i, op_mod_i, op_div_i, op_p60, List.replicate, sl_v, sl_o, rC_ok, r1_ok, chk_2, eM, ag_ok, sq_nx]
  rw [e1 _ rfl rfl]
  simp only [run_1, run_2, run_3, run_4, run_5, ev_C, ev_U, ev_B, ev_nil, ev_cons, ev_L, ev_tst, ev_and, ev_or, ev_not, ev_V, ev_if, ev_ch, ev_var0, ev_varS, ev_seq, ev_sif, ev_asg, ev_new, ev_unp, ev_ret, ev_retF, ev_drop, ev_snil, ev_raise, ev_for, sv_0, sv_S, setVs, op_mul_i, op_mod_i, op_div_i, op_p60, sl_v, rC_ok, r1_ok, t1, r2_ok, eC, op_blB]
  cases m with
  | false =>
    cases w <;> simp only [run_1, run_2, run_3, run_4, run_5, ev_C, ev_U, ev_B, ev_nil, ev_cons, ev_L, ev_tst, ev_and, ev_or, ev_not, ev_V, ev_if, ev_ch, ev_var0, ev_varS, ev_seq, ev_sif, ev_asg, ev_new, ev_unp, ev_ret, ev_retF, ev_drop, ev_snil, ev_raise, ev_for, sv_0, sv_S, setVs, op_mul_i, op_mod_i, op_div_i, op_p60, sl_v, rC_ok, r1_ok, t0, t1, r2_ok, op_blB, rIte_t, rIte_f, op_add_i, ag_ok, sq_nx] <;> rw [e2 _ rfl rfl, e3 _ A.length rfl rfl] <;> exact fin2 _
  | true =>
    cases w <;> simp only [run_1, run_2, run_3, run_4, run_5, ev_C, ev_U, ev_B, ev_nil, ev_cons, ev_L, ev_tst, ev_and, ev_or, ev_not, ev_V, ev_if, ev_ch, ev_var0, ev_varS, ev_seq, ev_sif, ev_asg, ev_new, ev_unp, ev_ret, ev_retF, ev_drop, ev_snil, ev_raise, ev_for, sv_0, sv_S, setVs, op_mul_i, op_mod_i, op_div_i, op_p60, sl_v, rC_ok, r1_ok, t0, t1, r2_ok, op_blB, rIte_t, rIte_f, op_add_i, ag_ok, sq_nx] <;> rw [e2 _ rfl rfl, e3 _ (A.length + 1) rfl rfl] <;> exact fin2 _
def putF (t : Th) (k : Nat) (v : Vl) : Th := ⟨t.age, t.fs.take k ++ v :: t.fs.drop (k + 1)⟩
def putL (o : List Th) (j : Nat) (t : Th) : List Th := o.take j ++ t :: o.drop (j + 1)
def putH (h : Hq) (y : Bool) (j k : Nat) (t : Th) (v : Vl) : Hq :=
  if y = true then ⟨putL h.young j (putF t k v), h.old, h.roots, bookFrom 0 h.old⟩ else ⟨h.young, putL h.old j (putF t k v), h.roots, bookFrom 0 (putL h.old j (putF t k v))⟩
theorem book_split (o1 o2 : List Th) (a : Int) (f1 f2 : List Vl) (w : Vl) :
    bookFrom 0 (o1 ++ ⟨a, f1 ++ w :: f2⟩ :: o2) = (bookFrom 0 o1 ++ rowFrom o1.length 0 f1) ++ (if ptY w = true then [((o1.length : Int), (f1.length : Int))] else []) ++ (rowFrom o1.length (f1.length + 1) f2 ++ bookFrom (o1.length + 1) o2) := by
  rw [bookFrom_app, bookFrom_c, rowFrom_app, rowFrom_c, Nat.zero_add, Nat.zero_add]
  split <;> simp
theorem split_at {α : Type} {l : List α} {j : Nat} {x : α} (h : l[j]? = some x) : l = l.take j ++ x :: l.drop (j + 1) ∧ (l.take j).length = j := by
  obtain ⟨hj, e⟩ := List.getElem?_eq_some_iff.mp h
  subst e
  refine ⟨?_, by simp; omega⟩
  rw [← List.drop_eq_getElem_cons hj, List.take_append_drop]
theorem put_0 (h : Hq) (p : Vl) (k : Int) (v : Vl) (g : led h p = none) : mput [.p (encH h), .p (enc p), .p (.int k), .p (enc v)] = .exc 0 := by
  unfold mput
  simp [run_1, run_2, run_3, run_4, run_5, ev_C, ev_U, ev_B, ev_nil, ev_cons, ev_L, ev_tst, ev_and, ev_or, ev_not, ev_V, ev_if, ev_ch, ev_var0, ev_varS, ev_seq, ev_sif, ev_asg, ev_new, ev_unp, ev_ret, ev_retF, ev_drop, ev_snil, ev_raise, ev_for, sv_0, sv_S, setVs, op_mul_i, op_mod_i, op_div_i, op_p60, thing_with_0 h p k g]
theorem put_1 (h : Hq) (p : Vl) (k : Int) (v : Vl) (t : Th) (g : led h p = some t) (hk : ¬ (0 ≤ k ∧ k < t.fs.length)) : mput [.p (encH h), .p (enc p), .p (.int k), .p (enc v)] = .exc 1 := by
  unfold mput
  simp [run_1, run_2, run_3, run_4, run_5, ev_C, ev_U, ev_B, ev_nil, ev_cons, ev_L, ev_tst, ev_and, ev_or, ev_not, ev_V, ev_if, ev_ch, ev_var0, ev_varS, ev_seq, ev_sif, ev_asg, ev_new, ev_unp, ev_ret, ev_retF, ev_drop, ev_snil, ev_raise, ev_for, sv_0, sv_S, setVs, op_mul_i, op_mod_i, op_div_i, op_p60, thing_with_1 h p k t g hk]
theorem put_s (h : Hq) (p : Vl) (k : Int) (v : Vl) (t : Th) (g : led h p = some t) (k0 : 0 ≤ k) (k1 : k < t.fs.length) (hs : isStray h v = true) : mput [.p (encH h), .p (enc p), .p (.int k), .p (enc v)] = .exc 0 := by
  have e := thing_with_2 h p k t g k0 k1
  have e2 := refuse_stray_ok h v
  rw [if_pos hs] at e2
  unfold encT at e
  unfold mput
  simp [run_1, run_2, run_3, run_4, run_5, ev_C, ev_U, ev_B, ev_nil, ev_cons, ev_L, ev_tst, ev_and, ev_or, ev_not, ev_V, ev_if, ev_ch, ev_var0, ev_varS, ev_seq, ev_sif, ev_asg, ev_new, ev_unp, ev_ret, ev_retF, ev_drop, ev_snil, ev_raise, ev_for, sv_0, sv_S, setVs, op_mul_i, op_mod_i, op_div_i, op_p60, e, e2]
theorem put_ok (h : Hq) (G : So h) (y : Bool) (j k : Int) (v : Vl) (t : Th) (g : led h (.ptr y j) = some t) (k0 : 0 ≤ k) (k1 : k < t.fs.length) (hs : isStray h v = false) : mput [.p (encH h), .p (enc (.ptr y j)), .p (.int k), .p (enc v)] = .ok (.p (encH (putH h y j.toNat k.toNat t v))) := by
  have e := thing_with_2 h _ k t g k0 k1
  have e2 := refuse_stray_ok h v
  rw [hs, if_neg (by decide)] at e2
  obtain ⟨y', j', he, j0, ht⟩ := led_ptr g
  cases he
  have l1 := G.ly
  have l2 := G.lo
  have hf : t.fs.length ≤ 200 := by
    cases y
    · exact G.fo t (List.mem_of_getElem? ht)
    · exact G.fy t (List.mem_of_getElem? ht)
  have e3 := replaced_ok (t.fs.map enc) k (enc v) k0 (by simp; omega)
  rw [putAt_enc] at e3
  have e4 := points_young_ok (.ptr y j)
  rw [ptY_ptr] at e4
  have e5 := points_young_ok v
  have er := fun (row : List Th) (hl : row.length ≤ 2000) => replaced_ok (row.map encT) j (encT (putF t k.toNat v)) j0 (by simp; omega)
  simp only [putAt_enc] at er
  have ed : (Dt.tup [.int t.age, .tup ((t.fs.take k.toNat ++ v :: t.fs.drop (k.toNat + 1)).map enc)]) = encT (putF t k.toNat v) := rfl
  have hh : encH h = .tup [.tup (h.young.map encT), .tup (h.old.map encT), .tup (h.roots.map enc), .tup (h.book.map encP)] := rfl
  have i1 : ixD (.p (enc (.ptr y j))) (.p (.int 1)) = .ok (.p (.int j)) := ix_t1
  unfold encT at e
  unfold mput
  rw [run_4, ev_seq, ev_unp, ev_L]
  simp only [run_1, run_2, run_3, run_4, run_5, ev_C, ev_U, ev_B, ev_nil, ev_cons, ev_L, ev_tst, ev_and, ev_or, ev_not, ev_V, ev_if, ev_ch, ev_var0, ev_varS, ev_seq, ev_sif, ev_asg, ev_new, ev_unp, ev_ret, ev_retF, ev_drop, ev_snil, ev_raise, ev_for, sv_0, sv_S, setVs, op_mul_i, op_mod_i, op_div_i, op_p60, List.replicate, sl_v, sl_o, rC_ok, r1_ok, chk_2, chk_3, e, up_ok, List.length_cons, List.length_nil, if_pos, sq_nx, e2, dp_ok]
  rw [hh]
  simp only [run_1, run_2, run_3, run_4, run_5, ev_C, ev_U, ev_B, ev_nil, ev_cons, ev_L, ev_tst, ev_and, ev_or, ev_not, ev_V, ev_if, ev_ch, ev_var0, ev_varS, ev_seq, ev_sif, ev_asg, ev_new, ev_unp, ev_ret, ev_retF, ev_drop, ev_snil, ev_raise, ev_for, sv_0, sv_S, setVs, op_mul_i, op_mod_i, op_div_i, op_p60, sl_v, up_ok, List.length_cons, List.length_nil, if_pos, sq_nx, r2_ok, i1, ag_ok, rC_ok, r1_ok, chk_3, e3, t2, ed, chk_1, e4, op_blB]
  cases y with
  | true =>
    simp only [run_1, run_2, run_3, run_4, run_5, ev_C, ev_U, ev_B, ev_nil, ev_cons, ev_L, ev_tst, ev_and, ev_or, ev_not, ev_V, ev_if, ev_ch, ev_var0, ev_varS, ev_seq, ev_sif, ev_asg, ev_new, ev_unp, ev_ret, ev_retF, ev_drop, ev_snil, ev_raise, ev_for, sv_0, sv_S, setVs, op_mul_i, op_mod_i, op_div_i, op_p60, sl_v, cd_t, rC_ok, r1_ok, chk_3, er _ l1, t4, rt_ok, sq_rt, od_rt]
    rw [G.bk]
    rfl
  | false =>
    have hk : k.toNat < t.fs.length := by omega
    have hw : t.fs[k.toNat]? = some t.fs[k.toNat] := List.getElem?_eq_getElem hk
    generalize t.fs[k.toNat] = w at hw
    have ht : h.old[j.toNat]? = some t := ht
    obtain ⟨s1, s2⟩ := split_at ht
    obtain ⟨s3, s4⟩ := split_at hw
    have b1 := book_split (h.old.take j.toNat) (h.old.drop (j.toNat + 1)) t.age (t.fs.take k.toNat) (t.fs.drop (k.toNat + 1)) w
    have b2 := book_split (h.old.take j.toNat) (h.old.drop (j.toNat + 1)) t.age (t.fs.take k.toNat) (t.fs.drop (k.toNat + 1)) v
    rw [← s3] at b1
    have b1 : bookFrom 0 (h.old.take j.toNat ++ t :: h.old.drop (j.toNat + 1)) = _ := b1
    rw [← s1] at b1
    have bl := bookFrom_len2 0 h.old G.fo
    rw [b1] at bl
    rw [s2, s4, Int.toNat_of_nonneg j0, Int.toNat_of_nonneg k0] at b1 b2
    have hA : ∀ p ∈ bookFrom 0 (h.old.take j.toNat) ++ rowFrom j.toNat 0 (t.fs.take k.toNat), ltP p (j, k) = true := fun p hp => by
      rcases List.mem_append.mp hp with hp | hp
      · have := bookFrom_mem hp
        rw [s2] at this
        exact ltP_iff.mpr (.inl (by show p.1 < j; omega))
      · have := rowFrom_mem hp
        rw [s4] at this
        exact ltP_iff.mpr (.inr ⟨by show p.1 = j; omega, by show p.2 < k; omega⟩)
    have hB : ∀ p ∈ rowFrom j.toNat (k.toNat + 1) (t.fs.drop (k.toNat + 1)) ++ bookFrom (j.toNat + 1) (h.old.drop (j.toNat + 1)), ltP (j, k) p = true := fun p hp => by
      rcases List.mem_append.mp hp with hp | hp
      · have := rowFrom_mem hp
        exact ltP_iff.mpr (.inr ⟨by show j = p.1; omega, by show k < p.2; omega⟩)
      · have := bookFrom_mem hp
        exact ltP_iff.mpr (.inl (by show j < p.1; omega))
    have eR := rebooked_ok _ _ (j, k) (ptY w) (ptY v) hA hB (by
      rw [s2, s4] at bl
      simp at bl ⊢
      omega)
    rw [← b1, ← b2, ← G.bk] at eR
    have eR : mrebooked [.p (.tup (h.book.map encP)), .p (.tup [.int j, .int k]), .p (.bl (ptY v))] = _ := eR
    simp only [run_1, run_2, run_3, run_4, run_5, ev_C, ev_U, ev_B, ev_nil, ev_cons, ev_L, ev_tst, ev_and, ev_or, ev_not, ev_V, ev_if, ev_ch, ev_var0, ev_varS, ev_seq, ev_sif, ev_asg, ev_new, ev_unp, ev_ret, ev_retF, ev_drop, ev_snil, ev_raise, ev_for, sv_0, sv_S, setVs, op_mul_i, op_mod_i, op_div_i, op_p60, sl_v, cd_f, sq_nx, rC_ok, r1_ok, chk_1, chk_3, t2, e5, eR, ag_ok, er _ l2, t4, rt_ok, od_rt]
    rfl
end Kp

namespace Kp
open PySem L2 Fw Ma
/-- a loop that may end the def at an item -/
theorem forD_ret {α : Type} {f : α → Dt} {tg : Tg} {u : XS} {I : En → Prop} {p : α → Bool} {s : Sv} : ∀ (xs : List α) (ρ : En), I ρ →
    (∀ x ∈ xs, ∀ ρ, I ρ → ∃ ρ1 ρ2, tg (f x) ρ = .ok ρ1 ∧ u ρ1 = (if p x = true then .rt s ρ2 else .nx ρ2) ∧ I ρ2) → ∃ ρ', I ρ' ∧ forD tg u (xs.map f) ρ = if xs.any p = true then .rt s ρ' else .nx ρ'
  | [], ρ, h, _ => ⟨ρ, h, rfl⟩
  | x :: xs, ρ, h, st => by
    obtain ⟨ρ1, ρ2, h1, h2, h3⟩ := st x List.mem_cons_self ρ h
    rw [List.map_cons, forD_c h1, h2, List.any_cons]
    cases hp : p x with
    | true => exact ⟨ρ2, h3, rfl⟩
    | false =>
      obtain ⟨ρ', h4, h5⟩ := forD_ret xs ρ2 h3 fun y hy => st y (List.mem_cons_of_mem _ hy)
      exact ⟨ρ', h4, h5⟩
/-! the row's test -/
theorem vx_enc (v : Vl) : Vx (enc v) = true := by cases v <;> rfl
theorem pyB_ptr (y : Bool) (k : Int) : pyB (enc (.ptr y k)) = y := by
  show ((wd y).cps.toList == ("young" : Str).cps.toList) = y
  cases y <;> decide +kernel
theorem strayB_ok (h : Hq) (v : Vl) : strayB (encH h) (enc v) = isStray h v := by
  cases v with
  | non => rfl
  | int i => rfl
  | ptr y k =>
    have e1 : strayB (encH h) (enc (.ptr y k)) = !(decide (0 ≤ k) && decide (k < ((halfB (encH h) (pyB (enc (.ptr y k)))).length : Int))) := rfl
    have e2 : (halfB (encH h) y).length = (half h y).length := by
      cases y <;> simp [halfB, encH, half]
    rw [e1, pyB_ptr, e2]
    show _ = (isP (.ptr y k) && (led h (.ptr y k)).isNone)
    by_cases g : 0 ≤ k ∧ k < (half h y).length
    · obtain ⟨t, ht, _⟩ := led_yes g.1 g.2
      rw [ht, decide_eq_true g.1, decide_eq_true g.2]
      rfl
    · rw [led_no g]
      by_cases g0 : 0 ≤ k
      · rw [decide_eq_true g0, decide_eq_false fun z => g ⟨g0, z⟩]
        rfl
      · rw [decide_eq_false g0]
        rfl
theorem any_enc (h : Hq) (vs : List Vl) : (vs.map enc).any (strayB (encH h)) = vs.any (isStray h) := by
  rw [List.any_map]
  congr 1
  funext v
  exact strayB_ok h v
theorem many_ok (h : Hq) (vs : List Vl) : many_stray [.p (encH h), .p (.tup (vs.map enc))] = .ok (.p (.bl (vs.any (isStray h)))) := by
  show (if (okH (encH h) && (vs.map enc).all Vx) = true then Rz.ok (Sv.p (.bl ((vs.map enc).any (strayB (encH h))))) else .stuck) = _
  have e : (okH (encH h) && (vs.map enc).all Vx) = true := by
    rw [Bool.and_eq_true]
    refine ⟨rfl, ?_⟩
    rw [List.all_map, List.all_eq_true]
    intro v _
    exact vx_enc v
  rw [if_pos e, any_enc]
def encR (vs : List Vl) : Dt := .tup (vs.map enc)
def rowsH (h : Hq) : List (List Vl) := h.roots :: (h.young.map Th.fs ++ h.old.map Th.fs)
def badH (h : Hq) : Bool := (rowsH h).any fun vs => vs.any (isStray h)
def bookB (h : Hq) : Bool := PyData.eqv (toPy (.tup (h.book.map encP))) (toPy (.tup ((bookFrom 0 h.old).map encP)))
def sndB (h : Hq) : Bool := if badH h = true then false else bookB h
/-- what is asked of sizes -/
structure Bd (h : Hq) : Prop where
  ly : h.young.length ≤ 2000
  lo : h.old.length ≤ 2000
  fo : ∀ t ∈ h.old, t.fs.length ≤ 100
theorem shp_book (ps : List (Int × Int)) : SeqAt.shaped (toPy (.tup (ps.map encP))) = true := by
  have c : ∀ (ps : List (Int × Int)), PyData.canLayAll0 (toPys (ps.map encP)) = true ∧ PyData.depthAll (toPys (ps.map encP)) ≤ 1 := by
    intro ps
    induction ps with
    | nil => exact ⟨rfl, Nat.zero_le _⟩
    | cons p ps ih =>
      refine ⟨?_, Nat.max_le.mpr ⟨?_, ih.2⟩⟩
      · show (PyData.canLay0 (.tuple [.int p.1, .int p.2]) && PyData.canLayAll0 (toPys (ps.map encP))) = true
        rw [ih.1]
        simp [PyData.canLay0, PyData.canLayAll0]
      · show PyData.depth (.tuple [.int p.1, .int p.2]) ≤ 1
        simp [PyData.depth, PyData.depthAll]
  obtain ⟨h1, h2⟩ := c ps
  show SeqAt.shaped (.tuple (toPys (ps.map encP))) = true
  unfold SeqAt.shaped
  rw [PyData.canLay0, PyData.depth, h1]
  simp
  omega
theorem eq_book (h : Hq) : eqD (.p (.tup (h.book.map encP))) (.p (.tup ((bookFrom 0 h.old).map encP))) = .ok (.p (.bl (bookB h))) := if_pos ⟨shp_book _, shp_book _⟩
theorem ext_ok {i : Nat} {x : XE} {ρ : En} {l m : List Dt} (hi : ρ[i]? = some (some (.o (.l l)))) (hx : x ρ = .ok (.l m)) (hl : l.length + m.length ≤ 1000000) : sExt i x ρ = .nx (ρ.set i (some (.o (.l (l ++ m))))) := by
  unfold sExt
  rw [hi]
  show ofR (x ρ) ρ _ = _
  rw [hx]
  exact if_pos hl
/-- the fields of a half, as a comprehension -/
theorem fs_comp {j : Nat} {ρ : En} {ts : List Th} (hs : srcV j ρ = .ok (ts.map encT)) (hl : ts.length ≤ 2000) (h : ∀ t : Th, ∃ ρ1, tgT [7, 8] (encT t) (wipeE ρ [7, 8]) = .ok ρ1 ∧ xVar 8 ρ1 = .ok (.p (encR t.fs))) :
    xLc (srcV j) (tgT [7, 8]) tYesD (xVar 8) [7, 8] ρ = .ok (.l ((ts.map Th.fs).map encR)) := by
  refine xLc_ok hs ?_ (by simp; omega)
  rw [List.map_map]
  exact lcD_map (fun t => encR t.fs) fun t _ => h t
theorem run_ex {n k : Nat} {s : XS} {ss : List Sv} {x : Sv} (hl : ss.length = n) (h : ∃ ρ', s (initE n k ss) = .rt x ρ') : runD n k s ss = .ok x := by
  obtain ⟨ρ', e⟩ := h
  unfold runD
  rw [if_pos hl, e]
  rfl
def sdU : XS := (sIf (xTst blB (xL (chk 2 many_stray) (xCons (xVar 0) (xCons (xVar 2) xNil)))) (sRet (xC (.bl false))) sNil)
abbrev sdE (h : Hq) (x1 x2 : Option Sl) : En := [some (.v (.p (encH h))), x1, x2, some (.v (.p (.tup (h.young.map encT)))), some (.v (.p (.tup (h.old.map encT)))), some (.v (.p (encR h.roots))), some (.v (.p (.tup (h.book.map encP)))), none, none]
theorem sd_loop (h : Hq) (x1 : Option Sl) : ∃ z, forD (tgN 2) sdU ((rowsH h).map encR) (sdE h x1 none) = if badH h = true then .rt (.p (.bl false)) (sdE h x1 z) else .nx (sdE h x1 z) := by
  obtain ⟨ρ', ⟨z, rfl⟩, e⟩ := forD_ret (f := encR) (tg := tgN 2) (u := sdU) (I := fun ρ => ∃ z, ρ = sdE h x1 z) (p := fun vs => vs.any (isStray h)) (s := .p (.bl false)) (rowsH h) (sdE h x1 none) ⟨none, rfl⟩ fun vs _ ρ ⟨z, hz⟩ => by
    subst hz
    refine ⟨sdE h x1 (some (.v (.p (encR vs)))), sdE h x1 (some (.v (.p (encR vs)))), rfl, ?_, ⟨_, rfl⟩⟩
    have m := many_ok h vs
    show ofR ((xTst blB (xL (chk 2 many_stray) (xCons (xVar 0) (xCons (xVar 2) xNil)))) (sdE h x1 (some (.v (.p (encR vs)))))) _ _ = _
    have e : (xTst blB (xL (chk 2 many_stray) (xCons (xVar 0) (xCons (xVar 2) xNil)))) (sdE h x1 (some (.v (.p (encR vs))))) = .ok (vs.any (isStray h)) := by
      show ((many_stray [.p (encH h), .p (.tup (vs.map enc))]).bind blB) = _
      rw [m]
      rfl
    rw [e]
    cases vs.any (isStray h) <;> rfl
  exact ⟨z, e⟩
theorem sound_ok (h : Hq) (B : Bd h) : msound [.p (encH h)] = .ok (.p (.bl (sndB h))) := by
  have hb := whole_book_ok h.old B.lo (fun t m => Nat.le_trans (B.fo t m) (by decide))
  have ly := B.ly
  have lo := B.lo
  have el : [encR h.roots] ++ (h.young.map Th.fs).map encR ++ (h.old.map Th.fs).map encR = (rowsH h).map encR := by simp [rowsH]
  obtain ⟨z, lp⟩ := sd_loop h (some (.v (.l ((rowsH h).map encR))))
  have s5 : sFrz 1 (sFor (srcV 1) (tgN 2) sdU) (sdE h (some (.o (.l ([encR h.roots] ++ (h.young.map Th.fs).map encR ++ (h.old.map Th.fs).map encR)))) none) =
      if badH h = true then .rt (.p (.bl false)) (sdE h (some (.v (.l ((rowsH h).map encR)))) z) else .nx (sdE h (some (.v (.l ((rowsH h).map encR)))) z) := by
    rw [el]
    exact lp
  refine run_ex rfl ⟨sdE h (some (.v (.l ((rowsH h).map encR)))) z, (seq_nx (ρ' := [some (.v (.p (encH h))), none, none, some (.v (.p (.tup (h.young.map encT)))), some (.v (.p (.tup (h.old.map encT)))), some (.v (.p (encR h.roots))), some (.v (.p (.tup (h.book.map encP)))), none, none]) rfl).trans
    ((seq_nx (ρ' := sdE h (some (.o (.l [encR h.roots]))) none) rfl).trans ((seq_nx (ρ' := sdE h (some (.o (.l ([encR h.roots] ++ (h.young.map Th.fs).map encR)))) none) (ext_ok (l := [encR h.roots]) rfl (fs_comp (ts := h.young) rfl ly fun t => ⟨_, rfl, rfl⟩) (by simp; omega))).trans
    ((seq_nx (ρ' := sdE h (some (.o (.l ([encR h.roots] ++ (h.young.map Th.fs).map encR ++ (h.old.map Th.fs).map encR)))) none) (ext_ok (l := [encR h.roots] ++ (h.young.map Th.fs).map encR) rfl (fs_comp (ts := h.old) rfl lo fun t => ⟨_, rfl, rfl⟩) (by simp; omega))).trans ?_)))⟩
  cases hc : badH h with
  | true =>
    rw [hc, if_pos rfl] at s5
    have e : sndB h = false := by unfold sndB; rw [hc]; rfl
    rw [e]
    exact seq_rt s5
  | false =>
    rw [hc, if_neg (by decide)] at s5
    have e : sndB h = bookB h := by unfold sndB; rw [hc]; rfl
    rw [e]
    refine (seq_nx s5).trans ?_
    have e6 : (xB eqD (xVar 6) (xL (chk 1 mwhole_book) (xCons (xVar 4) xNil))) (sdE h (some (.v (.l ((rowsH h).map encR)))) z) = .ok (.p (.bl (bookB h))) := by
      show (mwhole_book [.p (.tup (h.old.map encT))]).bind (fun b => eqD (.p (.tup (h.book.map encP))) b) = _
      rw [hb]
      exact eq_book h
    show ofR ((xB eqD (xVar 6) (xL (chk 1 mwhole_book) (xCons (xVar 4) xNil))) (sdE h (some (.v (.l ((rowsH h).map encR)))) z)) _ _ = _
    rw [e6]
    rfl
end Kp

namespace Kp
open PySem L2 Fw Ma
def duI : XS := (sIf (xAnd (xTst blB (xU (isD "tuple") (xVar 1))) (xNot (xTst blB (xL (chk 2 m_law_leads) (xCons (xVar 0) (xCons (xVar 1) xNil)))))) (sRet (xC (.bl false))) sNil)
abbrev duE (h : Hq) (x1 x2 x3 : Option Sl) : En := [some (.v (.p (encH h))), x1, x2, x3]
theorem duI_ok (h : Hq) (v : Vl) (x2 x3 : Option Sl) : duI (duE h (some (.v (.p (enc v)))) x2 x3) = if isStray h v = true then .rt (.p (.bl false)) (duE h (some (.v (.p (enc v)))) x2 x3) else .nx (duE h (some (.v (.p (enc v)))) x2 x3) := by
  have e : (xAnd (xTst blB (xU (isD "tuple") (xVar 1))) (xNot (xTst blB (xL (chk 2 m_law_leads) (xCons (xVar 0) (xCons (xVar 1) xNil)))))) (duE h (some (.v (.p (enc v)))) x2 x3) = .ok (isStray h v) := by
    have e1 := isT_isP v
    show ((isD "tuple" (.p (enc v))).bind blB).bind (fun b => if b = true then ((m_law_leads [.p (encH h), .p (enc v)]).bind blB).bind (fun b => .ok (!b)) else .ok false) = _
    rw [e1]
    cases hp : isP v with
    | false =>
      have : isStray h v = false := by unfold isStray; rw [hp]; rfl
      rw [this]
      rfl
    | true =>
      show ((m_law_leads [.p (encH h), .p (enc v)]).bind blB).bind (fun b => .ok (!b)) = _
      rw [leads_st h v hp]
      show Rz.ok (!!isStray h v) = _
      rw [Bool.not_not]
  show ofR ((xAnd (xTst blB (xU (isD "tuple") (xVar 1))) (xNot (xTst blB (xL (chk 2 m_law_leads) (xCons (xVar 0) (xCons (xVar 1) xNil)))))) (duE h (some (.v (.p (enc v)))) x2 x3)) _ _ = _
  rw [e]
  cases isStray h v <;> rfl
/-- a row's values -/
theorem du_row (h : Hq) (vs : List Vl) (x1 x2 x3 : Option Sl) : ∃ z, forD (tgN 1) duI (vs.map enc) (duE h x1 x2 x3) = if vs.any (isStray h) = true then .rt (.p (.bl false)) (duE h z x2 x3) else .nx (duE h z x2 x3) := by
  obtain ⟨ρ', ⟨z, rfl⟩, e⟩ := forD_ret (f := enc) (tg := tgN 1) (u := duI) (I := fun ρ => ∃ z, ρ = duE h z x2 x3) (p := isStray h) (s := .p (.bl false)) vs (duE h x1 x2 x3) ⟨x1, rfl⟩ fun v _ ρ ⟨z, hz⟩ => by
    subst hz
    exact ⟨_, _, rfl, duI_ok h v x2 x3, _, rfl⟩
  exact ⟨z, e⟩
def duT : XS := (sFor (srcT (xB ixD (xVar 3) (xC (.int 1)))) (tgN 1) duI)
def duH : XS := (sFor (srcV 2) (tgN 3) duT)
theorem du_half (h : Hq) (ts : List Th) (x1 x3 : Option Sl) : ∃ z1 z3, duH (duE h x1 (some (.v (.p (.tup (ts.map encT))))) x3) =
    if (ts.any fun t => t.fs.any (isStray h)) = true then .rt (.p (.bl false)) (duE h z1 (some (.v (.p (.tup (ts.map encT))))) z3) else .nx (duE h z1 (some (.v (.p (.tup (ts.map encT))))) z3) := by
  obtain ⟨ρ', ⟨z1, z3, rfl⟩, e⟩ := forD_ret (f := encT) (tg := tgN 3) (u := duT) (I := fun ρ => ∃ z1 z3, ρ = duE h z1 (some (.v (.p (.tup (ts.map encT))))) z3) (p := fun t => t.fs.any (isStray h)) (s := .p (.bl false)) ts (duE h x1 (some (.v (.p (.tup (ts.map encT))))) x3) ⟨x1, x3, rfl⟩ fun t _ ρ ⟨z1, z3, hz⟩ => by
    subst hz
    obtain ⟨z, e⟩ := du_row h t.fs z1 (some (.v (.p (.tup (ts.map encT))))) (some (.v (.p (encT t))))
    exact ⟨_, _, rfl, e, _, _, rfl⟩
  exact ⟨z1, z3, e⟩
theorem du_halves (h : Hq) (x1 x2 x3 : Option Sl) : ∃ z1 z2 z3, (sFor (srcL (xL lstD (xCons (xB ixD (xVar 0) (xC (.int 0))) (xCons (xB ixD (xVar 0) (xC (.int 1))) xNil)))) (tgN 2) duH) (duE h x1 x2 x3) =
    if ([h.young, h.old].any fun ts => ts.any fun t => t.fs.any (isStray h)) = true then .rt (.p (.bl false)) (duE h z1 z2 z3) else .nx (duE h z1 z2 z3) := by
  obtain ⟨ρ', ⟨z1, z2, z3, rfl⟩, e⟩ := forD_ret (f := fun ts => Dt.tup (ts.map encT)) (tg := tgN 2) (u := duH) (I := fun ρ => ∃ z1 z2 z3, ρ = duE h z1 z2 z3) (p := fun ts => ts.any fun t => t.fs.any (isStray h)) (s := .p (.bl false)) [h.young, h.old] (duE h x1 x2 x3) ⟨x1, x2, x3, rfl⟩ fun ts _ ρ ⟨z1, z2, z3, hz⟩ => by
    subst hz
    obtain ⟨y1, y3, e⟩ := du_half h ts z1 z3
    exact ⟨_, _, rfl, e, _, _, _, rfl⟩
  exact ⟨z1, z2, z3, e⟩
theorem badH_eq (h : Hq) : badH h = (h.roots.any (isStray h) || ([h.young, h.old].any fun ts => ts.any fun t => t.fs.any (isStray h))) := by
  unfold badH rowsH
  rw [List.any_cons, List.any_append, List.any_map, List.any_map]
  simp [Function.comp_def]
theorem due_ok (h : Hq) (B : Bd h) : m_law_due_of [.p (encH h)] = .ok (.p (.bl (sndB h))) := by
  have hb := book_of_ok h.old B.lo B.fo
  obtain ⟨z, s1⟩ := du_row h h.roots none none none
  obtain ⟨y1, y2, y3, s2⟩ := du_halves h z none none
  have be := badH_eq h
  have s1' : (sFor (srcT (xB ixD (xVar 0) (xC (.int 2)))) (tgN 1) duI) (duE h none none none) = if h.roots.any (isStray h) = true then .rt (.p (.bl false)) (duE h z none none) else .nx (duE h z none none) := s1
  cases hc : h.roots.any (isStray h) with
  | true =>
    rw [hc, if_pos rfl] at s1'
    have e : sndB h = false := by unfold sndB; rw [be, hc]; rfl
    rw [e]
    exact run_ex rfl ⟨_, seq_rt s1'⟩
  | false =>
    rw [hc, if_neg (by decide)] at s1'
    rw [hc, Bool.false_or] at be
    cases hd : ([h.young, h.old].any fun ts => ts.any fun t => t.fs.any (isStray h)) with
    | true =>
      rw [hd, if_pos rfl] at s2
      have e : sndB h = false := by unfold sndB; rw [be, hd]; rfl
      rw [e]
      exact run_ex rfl ⟨_, (seq_nx s1').trans (seq_rt s2)⟩
    | false =>
      rw [hd, if_neg (by decide)] at s2
      have e : sndB h = bookB h := by unfold sndB; rw [be, hd]; rfl
      rw [e]
      refine run_ex rfl ⟨duE h y1 y2 y3, (seq_nx s1').trans ((seq_nx s2).trans ?_)⟩
      have e6 : (xB eqD (xB ixD (xVar 0) (xC (.int 3))) (xL (chk 1 m_law_book_of) (xCons (xB ixD (xVar 0) (xC (.int 1))) xNil))) (duE h y1 y2 y3) = .ok (.p (.bl (bookB h))) := by
        show (m_law_book_of [.p (.tup (h.old.map encT))]).bind (fun b => eqD (.p (.tup (h.book.map encP))) b) = _
        rw [hb]
        exact eq_book h
      show ofR ((xB eqD (xB ixD (xVar 0) (xC (.int 3))) (xL (chk 1 m_law_book_of) (xCons (xB ixD (xVar 0) (xC (.int 1))) xNil))) (duE h y1 y2 y3)) _ _ = _
      rw [e6]
      rfl
end Kp

namespace Kp
open PySem L2 Fw Ma
theorem ix_at {L : List Dt} {j : Int} {x : Dt} (h0 : 0 ≤ j) (h : L[j.toNat]? = some x) : ixD (.p (.tup L)) (.p (.int j)) = .ok (.p x) := by
  have e := atI_nat h
  rw [Int.toNat_of_nonneg h0] at e
  show (match atI L j with | some x => Rz.ok (Sv.p x) | none => .stuck) = _
  rw [e]
theorem rep_x {x k w : XE} {ρ : En} {l : List Dt} {j : Int} {y : Dt} (hx : x ρ = .ok (.p (.tup l))) (hk : k ρ = .ok (.p (.int j))) (hw : w ρ = .ok (.p y)) (h0 : 0 ≤ j) (hl : l.length ≤ 400000) :
    xB addD (xB addD (xSl slD x oNo (oAt k)) (xL tupD (xCons w xNil))) (xSl slD x (oAt (xB addD k (xC (.int 1)))) oNo) ρ = .ok (.p (.tup (l.take j.toNat ++ y :: l.drop (j.toNat + 1)))) := by
  have e1 := sl_to hx hk h0
  have e2 := sl_from (x := x) (k := xB addD k (xC (.int 1))) (j := j + 1) hx (by rw [ev_B, hk]; rfl) (by omega)
  have a1 : addD (.p (.tup (l.take j.toNat))) (.p (.tup [y])) = .ok (.p (.tup (l.take j.toNat ++ [y]))) := op_add_t (by simp; omega)
  have a2 : addD (.p (.tup (l.take j.toNat ++ [y]))) (.p (.tup (l.drop (j + 1).toNat))) = .ok (.p (.tup (l.take j.toNat ++ [y] ++ l.drop (j + 1).toNat))) := op_add_t (by simp; omega)
  have e3 : (j + 1).toNat = j.toNat + 1 := by omega
  rw [ev_B, ev_B, e1, e2, ev_L, ev_cons, hw]
  simp [run_1, run_2, run_3, run_4, run_5, ev_C, ev_U, ev_B, ev_nil, ev_cons, ev_L, ev_tst, ev_and, ev_or, ev_not, ev_V, ev_if, ev_ch, ev_var0, ev_varS, ev_seq, ev_sif, ev_asg, ev_new, ev_unp, ev_ret, ev_retF, ev_drop, ev_snil, ev_raise, ev_for, sv_0, sv_S, setVs, op_mul_i, op_mod_i, op_div_i, op_p60, ev_whl, ev_nwM, ev_agM, ev_unM, ev_exM, ev_apM, ev_drM, ev_rtM, ev_ifM, ev_tM, ev_nM, ev_dpt, ev_rtO, ev_srcV0, ev_srcVS, ev_srcT, ev_app, ev_set, ev_aug, ev_slc, ev_sl0, ev_sl1, a1, a2]
  rw [e3]
def svS : XS := (sSeq (sNew true 7 (xL lstD (xCons (xB ixD (xVar 0) (xC (.int 0))) (xCons (xB ixD (xVar 0) (xC (.int 1))) (xCons (xB ixD (xVar 0) (xC (.int 2))) (xCons (xB ixD (xVar 0) (xC (.int 3))) xNil))))))
    (sSeq (sSetL 7 (xVar 3) (xB addD (xB addD (xSl slD (xVar 4) oNo (oAt (xVar 5))) (xL tupD (xCons (xVar 6) xNil))) (xSl slD (xVar 4) (oAt (xB addD (xVar 5) (xC (.int 1)))) oNo)))
    (sRet (xL tupD (xCons (xB ixD (xVar 7) (xC (.int 0))) (xCons (xB ixD (xVar 7) (xC (.int 1))) (xCons (xB ixD (xVar 7) (xC (.int 2))) (xCons (xB ixD (xVar 7) (xC (.int 3))) xNil))))))))
abbrev svE (a : Dt) (c : Int) (p : Dt) (x3 x4 x5 x6 x7 x8 x9 : Option Sl) : En := [some (.v (.p a)), pI c, some (.v (.p p)), x3, x4, x5, x6, x7, x8, x9]
abbrev pD (x : Dt) : Option Sl := some (.v (.p x))
theorem sv_end (A0 A1 A2 A3 p : Dt) (c : Int) (m : Nat) (hm : m < 3) (L : List Dt) (hl : L.length ≤ 400000) (j : Int) (h0 : 0 ≤ j) (item : Dt) (x8 x9 : Option Sl) :
    ∃ ρ', svS (svE (.tup [A0, A1, A2, A3]) c p (pI m) (pD (.tup L)) (pI j) (pD item) none x8 x9) = .rt (.p (.tup ([A0, A1, A2, A3].set m (.tup (L.take j.toNat ++ item :: L.drop (j.toNat + 1)))))) ρ' := by
  have s1 : (sNew true 7 (xL lstD (xCons (xB ixD (xVar 0) (xC (.int 0))) (xCons (xB ixD (xVar 0) (xC (.int 1))) (xCons (xB ixD (xVar 0) (xC (.int 2))) (xCons (xB ixD (xVar 0) (xC (.int 3))) xNil)))))) (svE (.tup [A0, A1, A2, A3]) c p (pI m) (pD (.tup L)) (pI j) (pD item) none x8 x9) = .nx (svE (.tup [A0, A1, A2, A3]) c p (pI m) (pD (.tup L)) (pI j) (pD item) (some (.o (.l [A0, A1, A2, A3]))) x8 x9) := rfl
  have e := rep_x (x := xVar 4) (k := xVar 5) (w := xVar 6) (ρ := svE (.tup [A0, A1, A2, A3]) c p (pI m) (pD (.tup L)) (pI j) (pD item) (some (.o (.l [A0, A1, A2, A3]))) x8 x9) (l := L) (j := j) (y := item) rfl rfl rfl h0 hl
  have s2 : (sSetL 7 (xVar 3) (xB addD (xB addD (xSl slD (xVar 4) oNo (oAt (xVar 5))) (xL tupD (xCons (xVar 6) xNil))) (xSl slD (xVar 4) (oAt (xB addD (xVar 5) (xC (.int 1)))) oNo))) (svE (.tup [A0, A1, A2, A3]) c p (pI m) (pD (.tup L)) (pI j) (pD item) (some (.o (.l [A0, A1, A2, A3]))) x8 x9) =
      .nx (svE (.tup [A0, A1, A2, A3]) c p (pI m) (pD (.tup L)) (pI j) (pD item) (some (.o (.l ([A0, A1, A2, A3].set m (.tup (L.take j.toNat ++ item :: L.drop (j.toNat + 1))))))) x8 x9) :=
    setl_ok (l := [A0, A1, A2, A3]) (j := m) (m := m) rfl e rfl (by
      rcases (by omega : m = 0 ∨ m = 1 ∨ m = 2) with z | z | z <;> subst z <;> rfl)
  refine ⟨svE (.tup [A0, A1, A2, A3]) c p (pI m) (pD (.tup L)) (pI j) (pD item) (some (.o (.l ([A0, A1, A2, A3].set m (.tup (L.take j.toNat ++ item :: L.drop (j.toNat + 1))))))) x8 x9, (seq_nx s1).trans ((seq_nx s2).trans ?_)⟩
  rcases (by omega : m = 0 ∨ m = 1 ∨ m = 2) with z | z | z <;> subst z <;> rfl

def svI : XS := (sIf (xTst blB (xB ltD (xVar 3) (xC (.int 2)))) (sSeq (sAsg 8 (xB ixD (xB ixD (xVar 4) (xVar 5)) (xC (.int 1))))
    (sSeq (sIf (xTst blB (xB eqD (xL lenD (xCons (xVar 8) xNil)) (xC (.int 0)))) (sRet (xVar 0)) sNil)
    (sSeq (sAsg 9 (xB modD (xB modD (xB mulD (xVar 1) (xC (.int 48271))) (xC (.int 2147483647))) (xL lenD (xCons (xVar 8) xNil))))
    (sAsg 6 (xL tupD (xCons (xB ixD (xB ixD (xVar 4) (xVar 5)) (xC (.int 0))) (xCons (xB addD (xB addD (xSl slD (xVar 8) oNo (oAt (xVar 9))) (xL tupD (xCons (xVar 2) xNil))) (xSl slD (xVar 8) (oAt (xB addD (xVar 9) (xC (.int 1)))) oNo)) xNil))))))) sNil)
/-- up to the item -/
theorem sv_pre (A0 A1 A2 A3 p : Dt) (c : Int) (m : Nat) (hc : c.fmod 3 = m) (L : List Dt) (hL : ixD (.p (.tup [A0, A1, A2, A3])) (.p (.int m)) = .ok (.p (.tup L))) (w : XS) (hw : w = sSeq svI svS) {s : Sv} (ρ0 : En)
    (h : L = [] → s = .p (.tup [A0, A1, A2, A3]))
    (h2 : L ≠ [] → ∃ ρ', w (svE (.tup [A0, A1, A2, A3]) c p (pI m) (pD (.tup L)) (pI ((c.fdiv 3).fmod L.length)) (pD p) none none none) = .rt s ρ') :
    m_law_spoilt_value [.p (.tup [A0, A1, A2, A3]), .p (.int c), .p p] = .ok s := by
  subst hw
  have s1 : (sAsg 3 (xB modD (xVar 1) (xC (.int 3)))) (svE (.tup [A0, A1, A2, A3]) c p none none none none none none none) = .nx (svE (.tup [A0, A1, A2, A3]) c p (pI m) none none none none none none) := by
    have e : modD (.p (.int c)) (.p (.int 3)) = .ok (.p (.int (c.fmod 3))) := op_mod_i (by decide)
    show ofR (modD (.p (.int c)) (.p (.int 3))) _ _ = _
    rw [e, hc]
    rfl
  have s2 : (sAsg 4 (xB ixD (xVar 0) (xVar 3))) (svE (.tup [A0, A1, A2, A3]) c p (pI m) none none none none none none) = .nx (svE (.tup [A0, A1, A2, A3]) c p (pI m) (pD (.tup L)) none none none none none) := by
    show ofR (ixD (.p (.tup [A0, A1, A2, A3])) (.p (.int m))) _ _ = _
    rw [hL]
    rfl
  have s3 : (sIf (xTst blB (xB eqD (xL lenD (xCons (xVar 4) xNil)) (xC (.int 0)))) (sRet (xVar 0)) sNil) (svE (.tup [A0, A1, A2, A3]) c p (pI m) (pD (.tup L)) none none none none none) =
      if ((L.length : Int) == 0) = true then .rt (.p (.tup [A0, A1, A2, A3])) (svE (.tup [A0, A1, A2, A3]) c p (pI m) (pD (.tup L)) none none none none none) else .nx (svE (.tup [A0, A1, A2, A3]) c p (pI m) (pD (.tup L)) none none none none none) := by
    show (if ((L.length : Int) == 0) = true then _ else _) = _
    cases ((L.length : Int) == 0) <;> rfl
  by_cases hn : L = []
  · rw [h hn]
    rw [if_pos (by rw [hn]; rfl)] at s3
    exact run_ex rfl ⟨_, (seq_nx s1).trans ((seq_nx s2).trans (seq_rt s3))⟩
  · obtain ⟨ρ', e⟩ := h2 hn
    have hp : 0 < L.length := List.length_pos_iff.mpr hn
    rw [if_neg (by simp; exact hn)] at s3
    have s4 : (sAsg 5 (xB modD (xB divD (xVar 1) (xC (.int 3))) (xL lenD (xCons (xVar 4) xNil)))) (svE (.tup [A0, A1, A2, A3]) c p (pI m) (pD (.tup L)) none none none none none) = .nx (svE (.tup [A0, A1, A2, A3]) c p (pI m) (pD (.tup L)) (pI ((c.fdiv 3).fmod L.length)) none none none none) := by
      have e1 : divD (.p (.int c)) (.p (.int 3)) = .ok (.p (.int (c.fdiv 3))) := op_div_i (by decide)
      have e2 : modD (.p (.int (c.fdiv 3))) (.p (.int L.length)) = .ok (.p (.int ((c.fdiv 3).fmod L.length))) := op_mod_i (by omega)
      show ofR ((divD (.p (.int c)) (.p (.int 3))).bind fun a => modD a (.p (.int L.length))) _ _ = _
      rw [e1, Rz.bind_ok, e2]
      rfl
    have s5 : (sAsg 6 (xVar 2)) (svE (.tup [A0, A1, A2, A3]) c p (pI m) (pD (.tup L)) (pI ((c.fdiv 3).fmod L.length)) none none none none) = .nx (svE (.tup [A0, A1, A2, A3]) c p (pI m) (pD (.tup L)) (pI ((c.fdiv 3).fmod L.length)) (pD p) none none none) := rfl
    exact run_ex rfl ⟨ρ', (seq_nx s1).trans ((seq_nx s2).trans ((seq_nx s3).trans ((seq_nx s4).trans ((seq_nx s5).trans e))))⟩
theorem spoilt_root (h : Hq) (G : Gd h) (c : Int) (p : Vl) (hc : c.fmod 3 = (2 : Nat)) : ∃ h', Bd h' ∧ m_law_spoilt_value [.p (encH h), .p (.int c), .p (enc p)] = .ok (.p (encH h')) := by
  have B : Bd h := ⟨Nat.le_trans G.ly (by decide), Nat.le_trans G.lo (by decide), G.fo⟩
  have lr := G.lr
  by_cases hn : h.roots = []
  · exact ⟨h, B, sv_pre _ _ _ _ (enc p) c 2 hc (h.roots.map enc) rfl _ rfl [] (fun _ => rfl) fun z => absurd (by rw [hn]; rfl) z⟩
  · have hp : 0 < h.roots.length := List.length_pos_iff.mpr hn
    have hj := fmod_lt (c.fdiv 3) h.roots.length (by omega)
    refine ⟨⟨h.young, h.old, putAt h.roots ((c.fdiv 3).fmod h.roots.length).toNat p, h.book⟩, ⟨B.ly, B.lo, B.fo⟩, sv_pre _ _ _ _ (enc p) c 2 hc (h.roots.map enc) rfl _ rfl [] (fun z => absurd (List.map_eq_nil_iff.mp z) hn) fun _ => ?_⟩
    rw [List.length_map]
    obtain ⟨ρ', e⟩ := sv_end (.tup (h.young.map encT)) (.tup (h.old.map encT)) (.tup (h.roots.map enc)) (.tup (h.book.map encP)) (enc p) c 2 (by decide) (h.roots.map enc) (by simp; omega) ((c.fdiv 3).fmod h.roots.length) hj.1 (enc p) none none
    refine ⟨ρ', (seq_nx (ρ' := svE (encH h) c (enc p) (pI 2) (pD (.tup (h.roots.map enc))) (pI ((c.fdiv 3).fmod h.roots.length)) (pD (enc p)) none none none) rfl).trans (e.trans ?_)⟩
    rw [putAt_enc enc]
    rfl
end Kp

namespace Kp
open PySem L2 Fw Ma
theorem putF_len {t : Th} {k : Nat} {v : Vl} (hk : k < t.fs.length) : (putF t k v).fs.length = t.fs.length := by
  show (t.fs.take k ++ v :: t.fs.drop (k + 1)).length = _
  simp
  omega
theorem putL_len {o : List Th} {j : Nat} {t : Th} (hj : j < o.length) : (putL o j t).length = o.length := by
  unfold putL
  simp
  omega
theorem putL_mem {o : List Th} {j : Nat} {t x : Th} (m : x ∈ putL o j t) : x = t ∨ x ∈ o := by
  unfold putL at m
  rcases List.mem_append.mp m with m | m
  · exact .inr (List.mem_of_mem_take m)
  · rcases List.mem_cons.mp m with m | m
    · exact .inl m
    · exact .inr (List.mem_of_mem_drop m)
theorem sv_item (a : Dt) (c : Int) (p : Vl) (m : Nat) (hm : m < 2) (ts : List Th) (j : Int) (t : Th) (h0 : 0 ≤ j) (ht : ts[j.toNat]? = some t) (hf : t.fs.length ≤ 100) :
    (t.fs = [] → ∃ ρ', svI (svE a c (enc p) (pI m) (pD (.tup (ts.map encT))) (pI j) (pD (enc p)) none none none) = .rt (.p a) ρ') ∧
    (t.fs ≠ [] → ∃ (k : Nat) (x8 x9 : Option Sl), k < t.fs.length ∧ svI (svE a c (enc p) (pI m) (pD (.tup (ts.map encT))) (pI j) (pD (enc p)) none none none) = .nx (svE a c (enc p) (pI m) (pD (.tup (ts.map encT))) (pI j) (pD (encT (putF t k p))) none x8 x9)) := by
  have et : ixD (.p (.tup (ts.map encT))) (.p (.int j)) = .ok (.p (encT t)) := ix_at h0 (by rw [List.getElem?_map, ht]; rfl)
  have c0 : ∀ (u w : XS), (sIf (xTst blB (xB ltD (xVar 3) (xC (.int 2)))) u w) (svE a c (enc p) (pI m) (pD (.tup (ts.map encT))) (pI j) (pD (enc p)) none none none) = u (svE a c (enc p) (pI m) (pD (.tup (ts.map encT))) (pI j) (pD (enc p)) none none none) := fun u w => by
    show (if decide ((m : Int) < 2) = true then _ else _) = _
    rw [if_pos (decide_eq_true (by omega))]
  have i1 : (sAsg 8 (xB ixD (xB ixD (xVar 4) (xVar 5)) (xC (.int 1)))) (svE a c (enc p) (pI m) (pD (.tup (ts.map encT))) (pI j) (pD (enc p)) none none none) = .nx (svE a c (enc p) (pI m) (pD (.tup (ts.map encT))) (pI j) (pD (enc p)) none (pD (encR t.fs)) none) := by
    show ofR ((ixD (.p (.tup (ts.map encT))) (.p (.int j))).bind fun a => ixD a (.p (.int 1))) _ _ = _
    rw [et]
    rfl
  have i2 : (sIf (xTst blB (xB eqD (xL lenD (xCons (xVar 8) xNil)) (xC (.int 0)))) (sRet (xVar 0)) sNil) (svE a c (enc p) (pI m) (pD (.tup (ts.map encT))) (pI j) (pD (enc p)) none (pD (encR t.fs)) none) =
      if (((t.fs.map enc).length : Int) == 0) = true then .rt (.p a) (svE a c (enc p) (pI m) (pD (.tup (ts.map encT))) (pI j) (pD (enc p)) none (pD (encR t.fs)) none) else .nx (svE a c (enc p) (pI m) (pD (.tup (ts.map encT))) (pI j) (pD (enc p)) none (pD (encR t.fs)) none) := by
    show (if (((t.fs.map enc).length : Int) == 0) = true then _ else _) = _
    cases (((t.fs.map enc).length : Int) == 0) <;> rfl
  refine ⟨fun hn => ?_, fun hn => ?_⟩
  · rw [if_pos (by rw [hn]; rfl)] at i2
    exact ⟨_, (c0 _ _).trans ((seq_nx i1).trans (seq_rt i2))⟩
  · rw [if_neg (by simp; exact hn)] at i2
    have hp : 0 < t.fs.length := List.length_pos_iff.mpr hn
    have hk := fmod_lt ((c * 48271).fmod 2147483647) t.fs.length (by omega)
    generalize hkk : ((c * 48271).fmod 2147483647).fmod t.fs.length = k at hk
    have i3 : (sAsg 9 (xB modD (xB modD (xB mulD (xVar 1) (xC (.int 48271))) (xC (.int 2147483647))) (xL lenD (xCons (xVar 8) xNil)))) (svE a c (enc p) (pI m) (pD (.tup (ts.map encT))) (pI j) (pD (enc p)) none (pD (encR t.fs)) none) = .nx (svE a c (enc p) (pI m) (pD (.tup (ts.map encT))) (pI j) (pD (enc p)) none (pD (encR t.fs)) (pI k)) := by
      have e1 : mulD (.p (.int c)) (.p (.int 48271)) = .ok (.p (.int (c * 48271))) := op_mul_i (.inr (by decide))
      have e2 : modD (.p (.int (c * 48271))) (.p (.int 2147483647)) = .ok (.p (.int ((c * 48271).fmod 2147483647))) := op_mod_i (by decide)
      have e3 : modD (.p (.int ((c * 48271).fmod 2147483647))) (.p (.int ((t.fs.map enc).length : Int))) = .ok (.p (.int k)) := by
        rw [List.length_map, ← hkk]
        exact op_mod_i (by omega)
      show ofR (((mulD (.p (.int c)) (.p (.int 48271))).bind fun a => modD a (.p (.int 2147483647))).bind fun a => modD a (.p (.int ((t.fs.map enc).length : Int)))) _ _ = _
      rw [e1, Rz.bind_ok, e2, Rz.bind_ok, e3]
      rfl
    have er := rep_x (x := xVar 8) (k := xVar 9) (w := xVar 2) (ρ := svE a c (enc p) (pI m) (pD (.tup (ts.map encT))) (pI j) (pD (enc p)) none (pD (encR t.fs)) (pI k)) (l := t.fs.map enc) (j := k) (y := enc p) rfl rfl rfl hk.1 (by simp; omega)
    rw [putAt_enc enc] at er
    have i4 : (sAsg 6 (xL tupD (xCons (xB ixD (xB ixD (xVar 4) (xVar 5)) (xC (.int 0))) (xCons (xB addD (xB addD (xSl slD (xVar 8) oNo (oAt (xVar 9))) (xL tupD (xCons (xVar 2) xNil))) (xSl slD (xVar 8) (oAt (xB addD (xVar 9) (xC (.int 1)))) oNo)) xNil)))) (svE a c (enc p) (pI m) (pD (.tup (ts.map encT))) (pI j) (pD (enc p)) none (pD (encR t.fs)) (pI k)) =
        .nx (svE a c (enc p) (pI m) (pD (.tup (ts.map encT))) (pI j) (pD (encT (putF t k.toNat p))) none (pD (encR t.fs)) (pI k)) := by
      have e5 : (xL tupD (xCons (xB ixD (xB ixD (xVar 4) (xVar 5)) (xC (.int 0))) (xCons (xB addD (xB addD (xSl slD (xVar 8) oNo (oAt (xVar 9))) (xL tupD (xCons (xVar 2) xNil))) (xSl slD (xVar 8) (oAt (xB addD (xVar 9) (xC (.int 1)))) oNo)) xNil))) (svE a c (enc p) (pI m) (pD (.tup (ts.map encT))) (pI j) (pD (enc p)) none (pD (encR t.fs)) (pI k)) = .ok (.p (encT (putF t k.toNat p))) := by
        have e4 : (xB ixD (xB ixD (xVar 4) (xVar 5)) (xC (.int 0))) (svE a c (enc p) (pI m) (pD (.tup (ts.map encT))) (pI j) (pD (enc p)) none (pD (encR t.fs)) (pI k)) = .ok (.p (.int t.age)) := by
          show (ixD (.p (.tup (ts.map encT))) (.p (.int j))).bind (fun a => ixD a (.p (.int 0))) = _
          rw [et]
          rfl
        rw [ev_L, ev_cons, ev_cons, e4, er]
        rfl
      show ofR ((xL tupD (xCons (xB ixD (xB ixD (xVar 4) (xVar 5)) (xC (.int 0))) (xCons (xB addD (xB addD (xSl slD (xVar 8) oNo (oAt (xVar 9))) (xL tupD (xCons (xVar 2) xNil))) (xSl slD (xVar 8) (oAt (xB addD (xVar 9) (xC (.int 1)))) oNo)) xNil))) (svE a c (enc p) (pI m) (pD (.tup (ts.map encT))) (pI j) (pD (enc p)) none (pD (encR t.fs)) (pI k))) _ _ = _
      rw [e5]
      rfl
    exact ⟨k.toNat, _, _, by omega, (c0 _ _).trans ((seq_nx i1).trans ((seq_nx i2).trans ((seq_nx i3).trans i4)))⟩
theorem spoilt_young (h : Hq) (G : Gd h) (c : Int) (p : Vl) (hc : c.fmod 3 = (0 : Nat)) : ∃ h', Bd h' ∧ m_law_spoilt_value [.p (encH h), .p (.int c), .p (enc p)] = .ok (.p (encH h')) := by
  have B : Bd h := ⟨Nat.le_trans G.ly (by decide), Nat.le_trans G.lo (by decide), G.fo⟩
  have ly := G.ly
  by_cases hn : h.young = []
  · exact ⟨h, B, sv_pre _ _ _ _ (enc p) c 0 hc (h.young.map encT) rfl _ rfl [] (fun _ => rfl) fun z => absurd (by rw [hn]; rfl) z⟩
  · have hp : 0 < h.young.length := List.length_pos_iff.mpr hn
    have hj := fmod_lt (c.fdiv 3) h.young.length (by omega)
    have hlt : ((c.fdiv 3).fmod h.young.length).toNat < h.young.length := by omega
    generalize hjj : (c.fdiv 3).fmod h.young.length = j at hj hlt
    obtain ⟨t, ht⟩ : ∃ t, h.young[j.toNat]? = some t := ⟨_, List.getElem?_eq_getElem hlt⟩
    have hf := G.fy t (List.mem_of_getElem? ht)
    obtain ⟨n1, n2⟩ := sv_item (encH h) c p 0 (by decide) h.young j t hj.1 ht hf
    by_cases hfs : t.fs = []
    · obtain ⟨ρ', e⟩ := n1 hfs
      refine ⟨h, B, sv_pre _ _ _ _ (enc p) c 0 hc (h.young.map encT) rfl _ rfl [] (fun z => absurd (List.map_eq_nil_iff.mp z) hn) fun _ => ?_⟩
      rw [List.length_map, hjj]
      exact ⟨ρ', seq_rt e⟩
    · obtain ⟨k, x8, x9, hk, e⟩ := n2 hfs
      refine ⟨⟨putL h.young j.toNat (putF t k p), h.old, h.roots, h.book⟩, ⟨by show (putL h.young j.toNat (putF t k p)).length ≤ 2000; rw [putL_len hlt]; exact B.ly, B.lo, B.fo⟩, sv_pre _ _ _ _ (enc p) c 0 hc (h.young.map encT) rfl _ rfl [] (fun z => absurd (List.map_eq_nil_iff.mp z) hn) fun _ => ?_⟩
      rw [List.length_map, hjj]
      obtain ⟨ρ', e2⟩ := sv_end (.tup (h.young.map encT)) (.tup (h.old.map encT)) (.tup (h.roots.map enc)) (.tup (h.book.map encP)) (enc p) c 0 (by decide) (h.young.map encT) (by simp; omega) j hj.1 (encT (putF t k p)) x8 x9
      refine ⟨ρ', (seq_nx e).trans (e2.trans ?_)⟩
      rw [putAt_enc encT]
      rfl
theorem spoilt_old (h : Hq) (G : Gd h) (c : Int) (p : Vl) (hc : c.fmod 3 = (1 : Nat)) : ∃ h', Bd h' ∧ m_law_spoilt_value [.p (encH h), .p (.int c), .p (enc p)] = .ok (.p (encH h')) := by
  have B : Bd h := ⟨Nat.le_trans G.ly (by decide), Nat.le_trans G.lo (by decide), G.fo⟩
  have lo := G.lo
  by_cases hn : h.old = []
  · exact ⟨h, B, sv_pre _ _ _ _ (enc p) c 1 hc (h.old.map encT) rfl _ rfl [] (fun _ => rfl) fun z => absurd (by rw [hn]; rfl) z⟩
  · have hp : 0 < h.old.length := List.length_pos_iff.mpr hn
    have hj := fmod_lt (c.fdiv 3) h.old.length (by omega)
    have hlt : ((c.fdiv 3).fmod h.old.length).toNat < h.old.length := by omega
    generalize hjj : (c.fdiv 3).fmod h.old.length = j at hj hlt
    obtain ⟨t, ht⟩ : ∃ t, h.old[j.toNat]? = some t := ⟨_, List.getElem?_eq_getElem hlt⟩
    have hf := G.fo t (List.mem_of_getElem? ht)
    obtain ⟨n1, n2⟩ := sv_item (encH h) c p 1 (by decide) h.old j t hj.1 ht hf
    by_cases hfs : t.fs = []
    · obtain ⟨ρ', e⟩ := n1 hfs
      refine ⟨h, B, sv_pre _ _ _ _ (enc p) c 1 hc (h.old.map encT) rfl _ rfl [] (fun z => absurd (List.map_eq_nil_iff.mp z) hn) fun _ => ?_⟩
      rw [List.length_map, hjj]
      exact ⟨ρ', seq_rt e⟩
    · obtain ⟨k, x8, x9, hk, e⟩ := n2 hfs
      refine ⟨⟨h.young, putL h.old j.toNat (putF t k p), h.roots, h.book⟩, ⟨B.ly, by show (putL h.old j.toNat (putF t k p)).length ≤ 2000; rw [putL_len hlt]; exact B.lo, fun x m => ?_⟩, sv_pre _ _ _ _ (enc p) c 1 hc (h.old.map encT) rfl _ rfl [] (fun z => absurd (List.map_eq_nil_iff.mp z) hn) fun _ => ?_⟩
      · rcases putL_mem m with z | z
        · rw [z, putF_len hk]
          exact hf
        · exact B.fo x z
      · rw [List.length_map, hjj]
        obtain ⟨ρ', e2⟩ := sv_end (.tup (h.young.map encT)) (.tup (h.old.map encT)) (.tup (h.roots.map enc)) (.tup (h.book.map encP)) (enc p) c 1 (by decide) (h.old.map encT) (by simp; omega) j hj.1 (encT (putF t k p)) x8 x9
        refine ⟨ρ', (seq_nx e).trans (e2.trans ?_)⟩
        rw [putAt_enc encT]
        rfl
theorem spoilt_value_ok (h : Hq) (G : Gd h) (c : Int) (p : Vl) : ∃ h', Bd h' ∧ m_law_spoilt_value [.p (encH h), .p (.int c), .p (enc p)] = .ok (.p (encH h')) := by
  have b := fmod_lt c 3 (by decide)
  rcases (by omega : c.fmod 3 = 0 ∨ c.fmod 3 = 1 ∨ c.fmod 3 = 2) with z | z | z
  · exact spoilt_young h G c p z
  · exact spoilt_old h G c p z
  · exact spoilt_root h G c p z
end Kp

namespace Kp
open PySem L2 Fw Ma
def cutG (xs : List (Int × Int)) (lo hi : Option Int) : List (Int × Int) := (xs.drop (HT.sIx xs.length 0 lo)).take (HT.sIx xs.length xs.length hi - HT.sIx xs.length 0 lo)
theorem cutG_map (xs : List (Int × Int)) (lo hi : Option Int) : cutD (xs.map encP) lo hi = (cutG xs lo hi).map encP := by
  unfold cutD cutG
  rw [List.length_map, List.map_take, List.map_drop]
theorem cutG_len (xs : List (Int × Int)) (lo hi : Option Int) : (cutG xs lo hi).length ≤ xs.length := by
  unfold cutG
  rw [List.length_take, List.length_drop]
  omega
/-- an expression that makes a book -/
def Bk (ρ : En) (x : XE) (n : Nat) : Prop := ∃ q : List (Int × Int), x ρ = .ok (.p (.tup (q.map encP))) ∧ q.length ≤ n
theorem bk_cut {ρ : En} {x : XE} {lo hi : XO} {b : List (Int × Int)} {l u : Option Int} (hx : x ρ = .ok (.p (.tup (b.map encP)))) (hl : lo ρ = .ok l) (hu : hi ρ = .ok u) : Bk ρ (xSl slD x lo hi) b.length := by
  refine ⟨cutG b l u, ?_, cutG_len _ _ _⟩
  rw [ev_slc, hx, Rz.bind_ok, hl, Rz.bind_ok, hu, Rz.bind_ok, ← cutG_map]
  rfl
theorem bk_add {ρ : En} {x y : XE} {n m : Nat} (hx : Bk ρ x n) (hy : Bk ρ y m) (h : n + m ≤ 1000000) : Bk ρ (xB addD x y) (n + m) := by
  obtain ⟨q, e1, l1⟩ := hx
  obtain ⟨r, e2, l2⟩ := hy
  refine ⟨q ++ r, ?_, by rw [List.length_append]; omega⟩
  rw [ev_B, e1, e2, r2_ok, op_add_t (by simp; omega), List.map_append]
theorem bk_one {ρ : En} {w : XE} {q : Int × Int} (hw : w ρ = .ok (.p (encP q))) : Bk ρ (xL tupD (xCons w xNil)) 1 := by
  refine ⟨[q], ?_, Nat.le_refl _⟩
  rw [ev_L, ev_cons, hw]
  rfl
theorem bk_var {ρ : En} {i : Nat} {q : List (Int × Int)} (h : xVar i ρ = .ok (.p (.tup (q.map encP)))) : Bk ρ (xVar i) q.length := ⟨q, h, Nat.le_refl _⟩
def Pq (o : Out) : Prop := ∃ (q : List (Int × Int)) (ρ' : En), o = .rt (.p (.tup (q.map encP))) ρ'
theorem pq_nx {u w : XS} {ρ ρ1 : En} (h : u ρ = .nx ρ1) (k : Pq (w ρ1)) : Pq (sSeq u w ρ) := by
  rw [seq_nx h]
  exact k
theorem pq_rt {u w : XS} {ρ : En} (k : Pq (u ρ)) : Pq (sSeq u w ρ) := by
  obtain ⟨q, ρ', e⟩ := k
  exact ⟨q, ρ', seq_rt e⟩
theorem pq_ret {x : XE} {ρ : En} {n : Nat} (h : Bk ρ x n) : Pq (sRet x ρ) := by
  obtain ⟨q, e, _⟩ := h
  refine ⟨q, ρ, ?_⟩
  show ofR (x ρ) _ _ = _
  rw [e]
  rfl
theorem asg_bk {i : Nat} {x : XE} {ρ : En} {n : Nat} (h : Bk ρ x n) : ∃ q : List (Int × Int), q.length ≤ n ∧ sAsg i x ρ = .nx (setV i (.tup (q.map encP)) ρ) := by
  obtain ⟨q, e, l⟩ := h
  refine ⟨q, l, ?_⟩
  show ofR (x ρ) _ _ = _
  rw [e]
  rfl
theorem asg_e {i : Nat} {x : XE} {ρ : En} {y : Dt} (e : x ρ = .ok (.p y)) : sAsg i x ρ = .nx (setV i y ρ) := by
  show ofR (x ρ) _ _ = _
  rw [e]
  rfl
theorem if_e {t : XT} {u w : XS} {ρ : En} {b : Bool} (e : t ρ = .ok b) : sIf t u w ρ = if b = true then u ρ else w ρ := by
  show ofR (t ρ) _ _ = _
  rw [e]
  rfl
abbrev sbE (a : Dt) (c : Int) (x2 x3 x4 x5 x6 x7 : Option Sl) : En := [some (.v (.p a)), pI c, x2, x3, x4, x5, x6, x7]
theorem way_e (a : Dt) (c w k : Int) (x2 x4 x5 x6 x7 : Option Sl) : (xTst blB (xB eqD (xVar 3) (xC (.int k)))) (sbE a c x2 (pI w) x4 x5 x6 x7) = .ok (w == k) := rfl
theorem run_pq {n k : Nat} {s : XS} {ss : List Sv} (hl : ss.length = n) (h : Pq (s (initE n k ss))) : ∃ q : List (Int × Int), runD n k s ss = .ok (.p (.tup (q.map encP))) := by
  obtain ⟨q, ρ', e⟩ := h
  exact ⟨q, run_ex hl ⟨ρ', e⟩⟩
theorem rnd_e (a : Dt) (c K M : Int) (hK : -(2 ^ 64) < K ∧ K < 2 ^ 64) (hM : M ≠ 0) (x2 x3 x4 x5 x6 x7 : Option Sl) : (xB modD (xB modD (xB mulD (xVar 1) (xC (.int K))) (xC (.int 2147483647))) (xC (.int M))) (sbE a c x2 x3 x4 x5 x6 x7) = .ok (.p (.int (((c * K).fmod 2147483647).fmod M))) := by
  have e1 : mulD (.p (.int c)) (.p (.int K)) = .ok (.p (.int (c * K))) := op_mul_i (.inr hK)
  have e2 : modD (.p (.int (c * K))) (.p (.int 2147483647)) = .ok (.p (.int ((c * K).fmod 2147483647))) := op_mod_i (by decide)
  have e3 : modD (.p (.int ((c * K).fmod 2147483647))) (.p (.int M)) = .ok (.p (.int (((c * K).fmod 2147483647).fmod M))) := op_mod_i hM
  show (((mulD (.p (.int c)) (.p (.int K))).bind fun a => modD a (.p (.int 2147483647))).bind fun a => modD a (.p (.int M))) = _
  rw [e1, Rz.bind_ok, e2, Rz.bind_ok, e3]
theorem spoilt_book_ok (h : Hq) (G : Gd h) (c : Int) : ∃ q : List (Int × Int), m_law_spoilt_book [.p (encH h), .p (.int c)] = .ok (.p (.tup (q.map encP))) := by
  have hb : h.book = bookFrom 0 h.old := G.bk
  have hbl : h.book.length ≤ 7000 := by
    rw [hb]
    have := bookFrom_len 0 h.old G.fo
    have := G.lo
    omega
  have hmem : ∀ q ∈ h.book, 0 ≤ q.1 ∧ q.1 < h.old.length := fun q m => by
    rw [hb] at m
    have := bookFrom_mem m
    omega
  refine run_pq rfl ?_
  refine pq_nx (ρ1 := sbE (encH h) c (pD (.tup (h.book.map encP))) none none none none none) rfl ?_
  have hw := fmod_lt c 6 (by decide)
  refine pq_nx (ρ1 := sbE (encH h) c (pD (.tup (h.book.map encP))) (pI (c.fmod 6)) none none none none) (asg_e (by
    show modD (.p (.int c)) (.p (.int 6)) = _
    exact op_mod_i (by decide))) ?_
  generalize c.fmod 6 = w at hw
  have hj := fmod_lt (c.fdiv 6) (h.book.length + 1) (by omega)
  refine pq_nx (ρ1 := sbE (encH h) c (pD (.tup (h.book.map encP))) (pI w) (pI ((c.fdiv 6).fmod (h.book.length + 1))) none none none) (asg_e (by
    have e1 : divD (.p (.int c)) (.p (.int 6)) = .ok (.p (.int (c.fdiv 6))) := op_div_i (by decide)
    show (divD (.p (.int c)) (.p (.int 6))).bind (fun a => modD a (.p (.int (((h.book.map encP).length : Int) + 1)))) = _
    rw [e1, Rz.bind_ok, List.length_map]
    exact op_mod_i (by omega))) ?_
  generalize (c.fdiv 6).fmod (h.book.length + 1) = j at hj
  by_cases w0 : w = 0
  · refine pq_rt ?_
    rw [if_e (way_e _ _ _ _ _ _ _ _ _), if_pos (by rw [w0]; rfl)]
    exact pq_ret (bk_add (bk_cut rfl rfl rfl) (bk_cut rfl rfl rfl) (by omega))
  refine pq_nx (ρ1 := sbE (encH h) c (pD (.tup (h.book.map encP))) (pI w) (pI j) none none none) (by
    rw [if_e (way_e _ _ _ _ _ _ _ _ _), if_neg (by simp [w0])]
    rfl) ?_
  by_cases w1 : w = 1
  · refine pq_rt ?_
    rw [if_e (way_e _ _ _ _ _ _ _ _ _), if_pos (by rw [w1]; rfl)]
    have ea := rnd_e (encH h) c 48271 6 (by decide) (by decide) (pD (.tup (h.book.map encP))) (pI w) (pI j) none none none
    have eb := rnd_e (encH h) c 69621 6 (by decide) (by decide) (pD (.tup (h.book.map encP))) (pI w) (pI j) none none none
    generalize ((c * 48271).fmod 2147483647).fmod 6 = u at ea
    generalize ((c * 69621).fmod 2147483647).fmod 6 = v at eb
    refine pq_nx (ρ1 := sbE (encH h) c (pD (.tup (h.book.map encP))) (pI w) (pI j) none none (pD (encP (u - 1, v - 1)))) (asg_e (by
      have pu : (xB subD (xB modD (xB modD (xB mulD (xVar 1) (xC (.int 48271))) (xC (.int 2147483647))) (xC (.int 6))) (xC (.int 1))) (sbE (encH h) c (pD (.tup (h.book.map encP))) (pI w) (pI j) none none none) = .ok (.p (.int (u - 1))) := by
        rw [ev_B, ea]
        rfl
      have pv : (xB subD (xB modD (xB modD (xB mulD (xVar 1) (xC (.int 69621))) (xC (.int 2147483647))) (xC (.int 6))) (xC (.int 1))) (sbE (encH h) c (pD (.tup (h.book.map encP))) (pI w) (pI j) none none none) = .ok (.p (.int (v - 1))) := by
        rw [ev_B, eb]
        rfl
      rw [ev_L, ev_cons, ev_cons, pu, pv]
      rfl)) ?_
    have ec := rnd_e (encH h) c 16807 2 (by decide) (by decide) (pD (.tup (h.book.map encP))) (pI w) (pI j) none none (pD (encP (u - 1, v - 1)))
    refine pq_ret (bk_add (bk_add (bk_cut rfl rfl rfl) (bk_one (q := (u - 1, v - 1)) rfl) (by omega)) (bk_cut (l := some (j + ((c * 16807).fmod 2147483647).fmod 2)) rfl (by
      rw [ev_sl1, ev_B, ec]
      rfl) rfl) (by omega))
  refine pq_nx (ρ1 := sbE (encH h) c (pD (.tup (h.book.map encP))) (pI w) (pI j) none none none) (by
    rw [if_e (way_e _ _ _ _ _ _ _ _ _), if_neg (by simp [w1])]
    rfl) ?_
  by_cases w2 : w = 2
  · refine pq_rt ?_
    rw [if_e (way_e _ _ _ _ _ _ _ _ _), if_pos (by rw [w2]; rfl)]
    exact pq_ret (bk_add (bk_add (bk_cut rfl rfl rfl) (bk_cut rfl rfl rfl) (by omega)) (bk_cut rfl rfl rfl) (by omega))
  refine pq_nx (ρ1 := sbE (encH h) c (pD (.tup (h.book.map encP))) (pI w) (pI j) none none none) (by
    rw [if_e (way_e _ _ _ _ _ _ _ _ _), if_neg (by simp [w2])]
    rfl) ?_
  obtain ⟨q5, l5, e5⟩ := asg_bk (i := 5) (ρ := sbE (encH h) c (pD (.tup (h.book.map encP))) (pI w) (pI j) none none none) (bk_add (x := xSl slD (xVar 2) oNo (oAt (xVar 4))) (y := xSl slD (xVar 2) (oAt (xB addD (xVar 4) (xC (.int 1)))) (oAt (xB addD (xVar 4) (xC (.int 2))))) (bk_cut rfl rfl rfl) (bk_cut rfl rfl rfl) (by omega))
  refine pq_nx (ρ1 := sbE (encH h) c (pD (.tup (h.book.map encP))) (pI w) (pI j) (pD (.tup (q5.map encP))) none none) e5 ?_
  obtain ⟨q6, l6, e6⟩ := asg_bk (i := 6) (ρ := sbE (encH h) c (pD (.tup (h.book.map encP))) (pI w) (pI j) (pD (.tup (q5.map encP))) none none) (bk_add (x := xSl slD (xVar 2) (oAt (xVar 4)) (oAt (xB addD (xVar 4) (xC (.int 1))))) (y := xSl slD (xVar 2) (oAt (xB addD (xVar 4) (xC (.int 2)))) oNo) (bk_cut rfl rfl rfl) (bk_cut rfl rfl rfl) (by omega))
  refine pq_nx (ρ1 := sbE (encH h) c (pD (.tup (h.book.map encP))) (pI w) (pI j) (pD (.tup (q5.map encP))) (pD (.tup (q6.map encP))) none) e6 ?_
  have e9 : (xOr (xTst blB (xB eqD (xVar 3) (xC (.int 3)))) (xTst blB (xB eqD (xVar 4) (xL lenD (xCons (xVar 2) xNil))))) (sbE (encH h) c (pD (.tup (h.book.map encP))) (pI w) (pI j) (pD (.tup (q5.map encP))) (pD (.tup (q6.map encP))) none) = .ok ((w == 3) || (j == ((h.book.map encP).length : Int))) := by
    show (if (w == 3) = true then Rz.ok true else Rz.ok (j == ((h.book.map encP).length : Int))) = _
    cases (w == 3) <;> rfl
  by_cases w9 : ((w == 3) || (j == ((h.book.map encP).length : Int))) = true
  · refine pq_rt ?_
    rw [if_e e9, if_pos w9]
    exact pq_ret (bk_add (bk_var (q := q5) rfl) (bk_var (q := q6) rfl) (by omega))
  refine pq_nx (ρ1 := sbE (encH h) c (pD (.tup (h.book.map encP))) (pI w) (pI j) (pD (.tup (q5.map encP))) (pD (.tup (q6.map encP))) none) (by
    rw [if_e e9, if_neg w9]
    rfl) ?_
  have hjn : j.toNat < h.book.length := by
    simp at w9
    omega
  obtain ⟨q, hq⟩ : ∃ q, h.book[j.toNat]? = some q := ⟨_, List.getElem?_eq_getElem hjn⟩
  have hqm := hmem q (List.mem_of_getElem? hq)
  have eq : ixD (.p (.tup (h.book.map encP))) (.p (.int j)) = .ok (.p (encP q)) := ix_at hj.1 (by rw [List.getElem?_map, hq]; rfl)
  refine pq_nx (ρ1 := sbE (encH h) c (pD (.tup (h.book.map encP))) (pI w) (pI j) (pD (.tup (q5.map encP))) (pD (.tup (q6.map encP))) (pD (encP (q.1 - ((h.old.map encT).length : Int), q.2)))) (asg_e (by
    have f0 : (xB ixD (xB ixD (xVar 2) (xVar 4)) (xC (.int 0))) (sbE (encH h) c (pD (.tup (h.book.map encP))) (pI w) (pI j) (pD (.tup (q5.map encP))) (pD (.tup (q6.map encP))) none) = .ok (.p (.int q.1)) := by
      show (ixD (.p (.tup (h.book.map encP))) (.p (.int j))).bind (fun a => ixD a (.p (.int 0))) = _
      rw [eq]
      rfl
    have f1 : (xB ixD (xB ixD (xVar 2) (xVar 4)) (xC (.int 1))) (sbE (encH h) c (pD (.tup (h.book.map encP))) (pI w) (pI j) (pD (.tup (q5.map encP))) (pD (.tup (q6.map encP))) none) = .ok (.p (.int q.2)) := by
      show (ixD (.p (.tup (h.book.map encP))) (.p (.int j))).bind (fun a => ixD a (.p (.int 1))) = _
      rw [eq]
      rfl
    rw [ev_L, ev_cons, ev_cons, ev_B, f0, f1]
    rfl)) ?_
  have fin : ∀ r : Int × Int, Pq ((sRet (xB addD (xB addD (xSl slD (xVar 2) oNo (oAt (xVar 4))) (xL tupD (xCons (xVar 7) xNil))) (xSl slD (xVar 2) (oAt (xB addD (xVar 4) (xC (.int 1)))) oNo))) (sbE (encH h) c (pD (.tup (h.book.map encP))) (pI w) (pI j) (pD (.tup (q5.map encP))) (pD (.tup (q6.map encP))) (pD (encP r)))) := fun r =>
    pq_ret (bk_add (bk_add (bk_cut rfl rfl rfl) (bk_one (q := r) rfl) (by omega)) (bk_cut rfl rfl rfl) (by omega))
  by_cases w5 : w = 5
  · have hlt : q.1.toNat < h.old.length := by omega
    obtain ⟨t, ht⟩ : ∃ t, h.old[q.1.toNat]? = some t := ⟨_, List.getElem?_eq_getElem hlt⟩
    have et : ixD (.p (.tup (h.old.map encT))) (.p (.int q.1)) = .ok (.p (encT t)) := ix_at hqm.1 (by rw [List.getElem?_map, ht]; rfl)
    refine pq_nx (ρ1 := sbE (encH h) c (pD (.tup (h.book.map encP))) (pI w) (pI j) (pD (.tup (q5.map encP))) (pD (.tup (q6.map encP))) (pD (encP (q.1, q.2 - ((t.fs.map enc).length : Int))))) (by
      rw [if_e (way_e _ _ _ _ _ _ _ _ _), if_pos (by rw [w5]; rfl)]
      refine asg_e ?_
      have f0 : (xB ixD (xB ixD (xVar 2) (xVar 4)) (xC (.int 0))) (sbE (encH h) c (pD (.tup (h.book.map encP))) (pI w) (pI j) (pD (.tup (q5.map encP))) (pD (.tup (q6.map encP))) (pD (encP (q.1 - ((h.old.map encT).length : Int), q.2)))) = .ok (.p (.int q.1)) := by
        show (ixD (.p (.tup (h.book.map encP))) (.p (.int j))).bind (fun a => ixD a (.p (.int 0))) = _
        rw [eq]
        rfl
      have f1 : (xB ixD (xB ixD (xVar 2) (xVar 4)) (xC (.int 1))) (sbE (encH h) c (pD (.tup (h.book.map encP))) (pI w) (pI j) (pD (.tup (q5.map encP))) (pD (.tup (q6.map encP))) (pD (encP (q.1 - ((h.old.map encT).length : Int), q.2)))) = .ok (.p (.int q.2)) := by
        show (ixD (.p (.tup (h.book.map encP))) (.p (.int j))).bind (fun a => ixD a (.p (.int 1))) = _
        rw [eq]
        rfl
      have f2 : (xL lenD (xCons (xB ixD (xB ixD (xB ixD (xVar 0) (xC (.int 1))) (xB ixD (xB ixD (xVar 2) (xVar 4)) (xC (.int 0)))) (xC (.int 1))) xNil)) (sbE (encH h) c (pD (.tup (h.book.map encP))) (pI w) (pI j) (pD (.tup (q5.map encP))) (pD (.tup (q6.map encP))) (pD (encP (q.1 - ((h.old.map encT).length : Int), q.2)))) = .ok (.p (.int ((t.fs.map enc).length : Int))) := by
        rw [ev_L, ev_cons, ev_B, ev_B, f0]
        show r1 lenD (rC (r2 ixD (ixD (.p (.tup (h.old.map encT))) (.p (.int q.1))) (.ok (.p (.int 1)))) (.ok [])) = _
        rw [et]
        rfl
      rw [ev_L, ev_cons, ev_cons, f0, ev_B, f1, f2]
      rfl) ?_
    exact fin _
  refine pq_nx (ρ1 := sbE (encH h) c (pD (.tup (h.book.map encP))) (pI w) (pI j) (pD (.tup (q5.map encP))) (pD (.tup (q6.map encP))) (pD (encP (q.1 - ((h.old.map encT).length : Int), q.2)))) (by
    rw [if_e (way_e _ _ _ _ _ _ _ _ _), if_neg (by simp [w5])]
    rfl) ?_
  exact fin _
end Kp

namespace Kp
open PySem L2 Fw Ma
abbrev lqE (ns : List Int) (x1 x2 x3 x4 x5 x6 : Option Sl) : En := [some (.v (.l (ns.map Dt.int))), x1, x2, x3, x4, x5, x6]
theorem lq_end (ns : List Int) (h : Hq) (B : Bd h) (x2 x3 x4 x5 x6 : Option Sl) : ∃ ρ', (sSeq (sAsg 3 (xL (chk 1 (noX msound)) (xCons (xVar 1) xNil)))
    (sRet (xV (xAnd (xTst blB (xU (isD "bool") (xVar 3))) (xTst blB (xB eqD (xVar 3) (xL (chk 1 m_law_due_of) (xCons (xVar 1) xNil)))))))) (lqE ns (pD (encH h)) x2 x3 x4 x5 x6) = .rt (.p (.bl true)) ρ' := by
  have e1 := sound_ok h B
  have e2 := due_ok h B
  generalize sndB h = b at e1 e2
  refine ⟨lqE ns (pD (encH h)) x2 (pD (.bl b)) x4 x5 x6, (seq_nx (ρ' := lqE ns (pD (encH h)) x2 (pD (.bl b)) x4 x5 x6) (asg_e (by
    show noX msound [.p (encH h)] = _
    unfold noX
    rw [e1]))).trans ?_⟩
  have e3 : (xV (xAnd (xTst blB (xU (isD "bool") (xVar 3))) (xTst blB (xB eqD (xVar 3) (xL (chk 1 m_law_due_of) (xCons (xVar 1) xNil)))))) (lqE ns (pD (encH h)) x2 (pD (.bl b)) x4 x5 x6) = .ok (.p (.bl true)) := by
    have e4 : (xTst blB (xB eqD (xVar 3) (xL (chk 1 m_law_due_of) (xCons (xVar 1) xNil)))) (lqE ns (pD (encH h)) x2 (pD (.bl b)) x4 x5 x6) = .ok true := by
      show ((m_law_due_of [.p (encH h)]).bind fun a => eqD (.p (.bl b)) a).bind blB = _
      rw [e2]
      cases b <;> rfl
    rw [ev_V, ev_and]
    show r1 vB (rAnd (.ok true) _ _) = _
    rw [rAnd_t, e4]
    rfl
  show ofR ((xV (xAnd (xTst blB (xU (isD "bool") (xVar 3))) (xTst blB (xB eqD (xVar 3) (xL (chk 1 m_law_due_of) (xCons (xVar 1) xNil)))))) (lqE ns (pD (encH h)) x2 (pD (.bl b)) x4 x5 x6)) _ _ = _
  rw [e3]
  rfl
theorem Gd.bd {h : Hq} (G : Gd h) : Bd h := ⟨Nat.le_trans G.ly (by decide), Nat.le_trans G.lo (by decide), G.fo⟩
theorem law_true (ns : List Int) : mlaw [.l (ns.map Dt.int)] = .ok (.p (.bl true)) := by
  obtain ⟨h, G, eh⟩ := heap_by_ok ns
  have c3 := cell_at_i ns 3 (by decide)
  have c4 := cell_at_i ns 4 (by decide)
  have c5 := cell_at_i ns 5 (by decide)
  have c6 := cell_at_i ns 6 (by decide)
  generalize ns.getD (Int.toNat 3) 0 = v3 at c3
  generalize ns.getD (Int.toNat 4) 0 = v4 at c4
  generalize ns.getD (Int.toNat 5) 0 = v5 at c5
  generalize ns.getD (Int.toNat 6) 0 = v6 at c6
  have hw := fmod_lt v3 6 (by decide)
  have s1 : (sAsg 1 (xL (chk 1 m_law_heap_by) (xCons (xVar 0) xNil))) (lqE ns none none none none none none) = .nx (lqE ns (pD (encH h)) none none none none none) := asg_e eh
  have s2 : (sAsg 2 (xB modD (xL (chk 2 m_law_cell_at) (xCons (xVar 0) (xCons (xC (.int 3)) xNil))) (xC (.int 6)))) (lqE ns (pD (encH h)) none none none none none) = .nx (lqE ns (pD (encH h)) (pI (v3.fmod 6)) none none none none) := asg_e (by
    have e : modD (.p (.int v3)) (.p (.int 6)) = .ok (.p (.int (v3.fmod 6))) := op_mod_i (by decide)
    show (m_law_cell_at [.l (ns.map Dt.int), .p (.int 3)]).bind (fun a => modD a (.p (.int 6))) = _
    rw [c3, Rz.bind_ok, e])
  generalize v3.fmod 6 = w at hw s2
  have t3 : ∀ (h' : Hq) (x3 x4 x5 x6 : Option Sl), (xTst blB (xB ltD (xVar 2) (xC (.int 2)))) (lqE ns (pD (encH h')) (pI w) x3 x4 x5 x6) = .ok (decide (w < 2)) := fun _ _ _ _ _ => rfl
  have t4 : ∀ (h' : Hq) (x3 x4 x5 x6 : Option Sl), (xTst blB (xB (cmpD fun i j => decide (j < i)) (xVar 2) (xC (.int 2)))) (lqE ns (pD (encH h')) (pI w) x3 x4 x5 x6) = .ok (decide (2 < w)) := fun _ _ _ _ _ => rfl
  by_cases w2 : w < 2
  · obtain ⟨p, ep⟩ := pointer_by_ok v5 (v6.fmod (10 ^ 60 - 101)) h G
    obtain ⟨h', B, ev⟩ := spoilt_value_ok h G v4 p
    have a4 : (sAsg 4 (xB modD (xL (chk 2 m_law_cell_at) (xCons (xVar 0) (xCons (xC (.int 6)) xNil))) (xB subD (xB powD (xC (.int 10)) (xC (.int 60))) (xC (.int 101))))) (lqE ns (pD (encH h)) (pI w) none none none none) = .nx (lqE ns (pD (encH h)) (pI w) none (pI (v6.fmod (10 ^ 60 - 101))) none none) := asg_e (by
      have e : modD (.p (.int v6)) (.p (.int (10 ^ 60 - 101))) = .ok (.p (.int (v6.fmod (10 ^ 60 - 101)))) := op_mod_i (by decide)
      show (m_law_cell_at [.l (ns.map Dt.int), .p (.int 6)]).bind (fun a => ((powD (.p (.int 10)) (.p (.int 60))).bind fun z => subD z (.p (.int 101))).bind fun z => modD a z) = _
      rw [c6, Rz.bind_ok, op_p60, Rz.bind_ok, op_sub_i, Rz.bind_ok, e])
    have a5 : (sAsg 5 (xL (chk 3 m_law_pointer_by) (xCons (xL (chk 2 m_law_cell_at) (xCons (xVar 0) (xCons (xC (.int 5)) xNil))) (xCons (xVar 1) (xCons (xVar 4) xNil))))) (lqE ns (pD (encH h)) (pI w) none (pI (v6.fmod (10 ^ 60 - 101))) none none) = .nx (lqE ns (pD (encH h)) (pI w) none (pI (v6.fmod (10 ^ 60 - 101))) (pD (enc p)) none) := asg_e (by
      show ((m_law_cell_at [.l (ns.map Dt.int), .p (.int 5)]).bind fun a => .ok [a, .p (encH h), .p (.int (v6.fmod (10 ^ 60 - 101)))]).bind (chk 3 m_law_pointer_by) = _
      rw [c5]
      exact ep)
    have a1 : (sAsg 1 (xL (chk 3 m_law_spoilt_value) (xCons (xVar 1) (xCons (xL (chk 2 m_law_cell_at) (xCons (xVar 0) (xCons (xC (.int 4)) xNil))) (xCons (xVar 5) xNil))))) (lqE ns (pD (encH h)) (pI w) none (pI (v6.fmod (10 ^ 60 - 101))) (pD (enc p)) none) = .nx (lqE ns (pD (encH h')) (pI w) none (pI (v6.fmod (10 ^ 60 - 101))) (pD (enc p)) none) := asg_e (by
      show (((m_law_cell_at [.l (ns.map Dt.int), .p (.int 4)]).bind fun a => .ok [a, .p (enc p)]).bind fun r => .ok (.p (encH h) :: r)).bind (chk 3 m_law_spoilt_value) = _
      rw [c4]
      exact ev)
    obtain ⟨ρ', e⟩ := lq_end ns h' B (pI w) none (pI (v6.fmod (10 ^ 60 - 101))) (pD (enc p)) none
    refine run_ex rfl ⟨ρ', (seq_nx s1).trans ((seq_nx s2).trans ((seq_nx (ρ' := lqE ns (pD (encH h')) (pI w) none (pI (v6.fmod (10 ^ 60 - 101))) (pD (enc p)) none) ?_).trans ((seq_nx (ρ' := lqE ns (pD (encH h')) (pI w) none (pI (v6.fmod (10 ^ 60 - 101))) (pD (enc p)) none) ?_).trans e)))⟩
    · rw [if_e (t3 _ _ _ _ _), if_pos (decide_eq_true w2), seq_nx a4, seq_nx a5, a1]
    · rw [if_e (t4 _ _ _ _ _), if_neg (by simp; omega)]
      rfl
  · by_cases w3 : 2 < w
    · obtain ⟨q, eq⟩ := spoilt_book_ok h G v4
      have B : Bd ⟨h.young, h.old, h.roots, q⟩ := ⟨G.bd.ly, G.bd.lo, G.bd.fo⟩
      have a6 : (sAsg 6 (xL (chk 2 m_law_spoilt_book) (xCons (xVar 1) (xCons (xL (chk 2 m_law_cell_at) (xCons (xVar 0) (xCons (xC (.int 4)) xNil))) xNil)))) (lqE ns (pD (encH h)) (pI w) none none none none) = .nx (lqE ns (pD (encH h)) (pI w) none none none (pD (.tup (q.map encP)))) := asg_e (by
        show (((m_law_cell_at [.l (ns.map Dt.int), .p (.int 4)]).bind fun a => .ok [a]).bind fun r => .ok (.p (encH h) :: r)).bind (chk 2 m_law_spoilt_book) = _
        rw [c4]
        exact eq)
      have a1 : (sAsg 1 (xL tupD (xCons (xB ixD (xVar 1) (xC (.int 0))) (xCons (xB ixD (xVar 1) (xC (.int 1))) (xCons (xB ixD (xVar 1) (xC (.int 2))) (xCons (xVar 6) xNil)))))) (lqE ns (pD (encH h)) (pI w) none none none (pD (.tup (q.map encP)))) = .nx (lqE ns (pD (encH ⟨h.young, h.old, h.roots, q⟩)) (pI w) none none none (pD (.tup (q.map encP)))) := asg_e rfl
      obtain ⟨ρ', e⟩ := lq_end ns ⟨h.young, h.old, h.roots, q⟩ B (pI w) none none none (pD (.tup (q.map encP)))
      refine run_ex rfl ⟨ρ', (seq_nx s1).trans ((seq_nx s2).trans ((seq_nx (ρ' := lqE ns (pD (encH h)) (pI w) none none none none) ?_).trans ((seq_nx (ρ' := lqE ns (pD (encH ⟨h.young, h.old, h.roots, q⟩)) (pI w) none none none (pD (.tup (q.map encP)))) ?_).trans e)))⟩
      · rw [if_e (t3 _ _ _ _ _), if_neg (by simp; omega)]
        rfl
      · rw [if_e (t4 _ _ _ _ _), if_pos (decide_eq_true w3), seq_nx a6, a1]
    · obtain ⟨ρ', e⟩ := lq_end ns h G.bd (pI w) none none none none
      refine run_ex rfl ⟨ρ', (seq_nx s1).trans ((seq_nx s2).trans ((seq_nx (ρ' := lqE ns (pD (encH h)) (pI w) none none none none) ?_).trans ((seq_nx (ρ' := lqE ns (pD (encH h)) (pI w) none none none none) ?_).trans e)))⟩
      · rw [if_e (t3 _ _ _ _ _), if_neg (by simp; omega)]
        rfl
      · rw [if_e (t4 _ _ _ _ _), if_neg (by simp; omega)]
        rfl
end Kp

namespace Kp
open PySem PySem.Spec PyProof.Rows L2 Fw H1
open GxR (TabB TabG Tabbed GenS)
def spLawT (K : PySem.W.Frag) (Pt : Addr) : Sp := fun vs H Q E => H Pt = some (.tbl #[]) ∧ spLaw K vs H Q E
theorem law_fnT {P : Program} {w : World} {K : PySem.W.Frag} {mg : Str → Option Value} {base : Heap} {k : Nat} {f Pt : Addr} {fd : FuncData} {ps : List Str} {m : List Sv → Rz Sv} (nl : noLists K = true) (F : FnOk P w K mg base (L2.CX P w) k f fd ps (spTab Pt 1 m))
    (hm : ∀ ns : List Int, ns.length ≤ 63 → m [.l (ns.map Dt.int)] = .ok (.p (.bl true))) : FnOk P w K mg base (L2.CX P w) k f fd ps (spLawT K Pt) :=
  F.imp fun vs H Q E ⟨hP, a, ns, e, hs, hl, hq⟩ => by
    subst e
    refine ⟨⟨#[], hP, trivial⟩, [.l (ns.map Dt.int)], rfl, ⟨.ref a, [], rfl, ⟨a, _, rfl, noLists_rd nl hs, Rps.of_ints ns⟩, rfl⟩, ?_⟩
    rw [hm ns hl]
    exact fun H' v _ _ _ ro _ => by
      cases (show v = V.bl true from ro)
      exact hq H'
theorem walk_lawT {l : PySem.W.OpenLaw} {k : Nat} {q : Program} {loose : List Str} {XP : (Str → Option Value) → Heap → Prop} {YP : World → Heap → Prop} {d : DefRec} {K : Params → PySem.W.Frag} {x : Str} (hn : l.most = some 63) (hdf : d.params.defaults = []) (hr : Room k callerA)
    (inK : ∀ (w : World) (g : Heap), YP w g → (K w.params).In g)
    (F : ∀ (w : World) (mg : Str → Option Value) (fa : Addr) (g : Heap), (K w.params).In g → g.Ns mainGlobals mg → mg d.name = some (.ref fa) →
      ∃ (c Pt : Addr) (fd : FuncData), PySem.W.tabIn (K w.params) "sound" = some (c, Pt) ∧ (K w.params).lookup Pt = none ∧ (∀ (s : Shared) (u : Value), BindsTo s fd ⟨[u], []⟩ [(x, u)]) ∧
        ∀ base : Heap, (K w.params).In base → base.Ns mainGlobals mg → TabB base mg c Pt → FnOk l.prog w (K w.params) mg base (L2.CX l.prog w) k fa fd [x] (spLawT (K w.params) Pt))
    (hrec : ∃ d', (recsOf q).find? (fun e => e.name == ("sound" : Str)) = some d') :
    PySem.W.WalkO q loose XP YP l.row.toRowW d [] (fun f vs => PySem.call f vs) := by
  refine Att.attach_callB hn hdf fun w _ t mg mb fa _ _ _ _ a vs ns G Y _ _ _ hmg hobj hints hlen _ hg => ?_
  have KX := inK w _ Y
  obtain ⟨c, Pt, fd, ht, nP, hb, hF⟩ := F w mg fa _ KX G.T.g hmg
  obtain ⟨d', hd'⟩ := hrec
  obtain ⟨C, hT⟩ := PySem.W.tab_of G.T KX hd' ht
  refine LamX.law_callTs (cs := [(c, Pt)]) (sp := spLawT (K w.params) Pt) (CX := L2.CX l.prog w) KX G.T.g G.T.b G.T.builtins G.T.nolimit hg (fun p hp => ?_) (fun p hp => ?_) (fun p hp => ?_) G.T.bmain hobj hints (Nat.le_trans hlen (by decide)) hr (fun base h1 h2 h3 => hF base h1 h2 ⟨(h3 (c, Pt) List.mem_cons_self).code, (h3 (c, Pt) List.mem_cons_self).bm, (h3 (c, Pt) List.mem_cons_self).gP⟩) hb
    (fun H hH hS => ⟨hH (c, Pt) List.mem_cons_self, a, ns, rfl, hS, hlen, fun _ => rfl⟩) fun H e s' z => ?_
  · rw [List.mem_singleton.mp hp]; exact hT
  · rw [List.mem_singleton.mp hp]; exact nP
  · rw [List.mem_singleton.mp hp]; exact C
  · obtain ⟨_, _, _, _, _, _, _, _, _, _, _, _, z⟩ := z
    exact z
theorem all_mk {P : Program} {w : World} {K : PySem.W.Frag} {h : Heap} {mg : Str → Option Value} {fa c Pt : Addr} (X : K.In h) (G : h.Ns mainGlobals mg) (hfa : mg "law" = some (.ref fa)) (nl : noLists K = true)
    {f_points_young : Addr} {od_points_young an_points_young : Option Addr} {sl_points_young : Array (Option Value)} {oc_points_young kV_points_young dc_points_young pm_points_young cd_points_young ct_points_young : Value}
    (a_points_young : PySem.W.nsIn K mainGlobals "points_young" = some (some (.ref f_points_young))) (l_points_young : K.lookup f_points_young = some ⟨oc_points_young, od_points_young, .func (PySem.W.fnOf "points_young" "points_young" (defArgs spoints_young) (defBody spoints_young) (defScope spoints_young) .none kV_points_young dc_points_young pm_points_young an_points_young cd_points_young ct_points_young), sl_points_young⟩) (c_points_young : PySem.W.codeIn K cd_points_young "points_young" = true) (k_points_young : PySem.W.keepIn K (.ref f_points_young) = true)
    {f__law_cell_at : Addr} {od__law_cell_at an__law_cell_at : Option Addr} {sl__law_cell_at : Array (Option Value)} {oc__law_cell_at kV__law_cell_at dc__law_cell_at pm__law_cell_at cd__law_cell_at ct__law_cell_at : Value}
    (a__law_cell_at : PySem.W.nsIn K mainGlobals "_law_cell_at" = some (some (.ref f__law_cell_at))) (l__law_cell_at : K.lookup f__law_cell_at = some ⟨oc__law_cell_at, od__law_cell_at, .func (PySem.W.fnOf "_law_cell_at" "_law_cell_at" (defArgs s_law_cell_at) (defBody s_law_cell_at) (defScope s_law_cell_at) .none kV__law_cell_at dc__law_cell_at pm__law_cell_at an__law_cell_at cd__law_cell_at ct__law_cell_at), sl__law_cell_at⟩) (c__law_cell_at : PySem.W.codeIn K cd__law_cell_at "_law_cell_at" = true) (k__law_cell_at : PySem.W.keepIn K (.ref f__law_cell_at) = true)
    {f__law_mixed : Addr} {od__law_mixed an__law_mixed : Option Addr} {sl__law_mixed : Array (Option Value)} {oc__law_mixed kV__law_mixed dc__law_mixed pm__law_mixed cd__law_mixed ct__law_mixed : Value}
    (a__law_mixed : PySem.W.nsIn K mainGlobals "_law_mixed" = some (some (.ref f__law_mixed))) (l__law_mixed : K.lookup f__law_mixed = some ⟨oc__law_mixed, od__law_mixed, .func (PySem.W.fnOf "_law_mixed" "_law_mixed" (defArgs s_law_mixed) (defBody s_law_mixed) (defScope s_law_mixed) .none kV__law_mixed dc__law_mixed pm__law_mixed an__law_mixed cd__law_mixed ct__law_mixed), sl__law_mixed⟩) (c__law_mixed : PySem.W.codeIn K cd__law_mixed "_law_mixed" = true) (k__law_mixed : PySem.W.keepIn K (.ref f__law_mixed) = true)
    {f__law_book_of : Addr} {od__law_book_of an__law_book_of : Option Addr} {sl__law_book_of : Array (Option Value)} {oc__law_book_of kV__law_book_of dc__law_book_of pm__law_book_of cd__law_book_of ct__law_book_of : Value}
    (a__law_book_of : PySem.W.nsIn K mainGlobals "_law_book_of" = some (some (.ref f__law_book_of))) (l__law_book_of : K.lookup f__law_book_of = some ⟨oc__law_book_of, od__law_book_of, .func (PySem.W.fnOf "_law_book_of" "_law_book_of" (defArgs s_law_book_of) (defBody s_law_book_of) (defScope s_law_book_of) .none kV__law_book_of dc__law_book_of pm__law_book_of an__law_book_of cd__law_book_of ct__law_book_of), sl__law_book_of⟩) (c__law_book_of : PySem.W.codeIn K cd__law_book_of "_law_book_of" = true) (k__law_book_of : PySem.W.keepIn K (.ref f__law_book_of) = true)
    {f__law_next : Addr} {od__law_next an__law_next : Option Addr} {sl__law_next : Array (Option Value)} {oc__law_next kV__law_next dc__law_next pm__law_next cd__law_next ct__law_next : Value}
    (a__law_next : PySem.W.nsIn K mainGlobals "_law_next" = some (some (.ref f__law_next))) (l__law_next : K.lookup f__law_next = some ⟨oc__law_next, od__law_next, .func (PySem.W.fnOf "_law_next" "_law_next" (defArgs s_law_next) (defBody s_law_next) (defScope s_law_next) .none kV__law_next dc__law_next pm__law_next an__law_next cd__law_next ct__law_next), sl__law_next⟩) (c__law_next : PySem.W.codeIn K cd__law_next "_law_next" = true) (k__law_next : PySem.W.keepIn K (.ref f__law_next) = true)
    {f__law_leads : Addr} {od__law_leads an__law_leads : Option Addr} {sl__law_leads : Array (Option Value)} {oc__law_leads kV__law_leads dc__law_leads pm__law_leads cd__law_leads ct__law_leads : Value}
    (a__law_leads : PySem.W.nsIn K mainGlobals "_law_leads" = some (some (.ref f__law_leads))) (l__law_leads : K.lookup f__law_leads = some ⟨oc__law_leads, od__law_leads, .func (PySem.W.fnOf "_law_leads" "_law_leads" (defArgs s_law_leads) (defBody s_law_leads) (defScope s_law_leads) .none kV__law_leads dc__law_leads pm__law_leads an__law_leads cd__law_leads ct__law_leads), sl__law_leads⟩) (c__law_leads : PySem.W.codeIn K cd__law_leads "_law_leads" = true) (k__law_leads : PySem.W.keepIn K (.ref f__law_leads) = true)
    {f__law_pointer_by : Addr} {od__law_pointer_by an__law_pointer_by : Option Addr} {sl__law_pointer_by : Array (Option Value)} {oc__law_pointer_by kV__law_pointer_by dc__law_pointer_by pm__law_pointer_by cd__law_pointer_by ct__law_pointer_by : Value}
    (a__law_pointer_by : PySem.W.nsIn K mainGlobals "_law_pointer_by" = some (some (.ref f__law_pointer_by))) (l__law_pointer_by : K.lookup f__law_pointer_by = some ⟨oc__law_pointer_by, od__law_pointer_by, .func (PySem.W.fnOf "_law_pointer_by" "_law_pointer_by" (defArgs s_law_pointer_by) (defBody s_law_pointer_by) (defScope s_law_pointer_by) .none kV__law_pointer_by dc__law_pointer_by pm__law_pointer_by an__law_pointer_by cd__law_pointer_by ct__law_pointer_by), sl__law_pointer_by⟩) (c__law_pointer_by : PySem.W.codeIn K cd__law_pointer_by "_law_pointer_by" = true) (k__law_pointer_by : PySem.W.keepIn K (.ref f__law_pointer_by) = true)
    {f__law_spoilt_value : Addr} {od__law_spoilt_value an__law_spoilt_value : Option Addr} {sl__law_spoilt_value : Array (Option Value)} {oc__law_spoilt_value kV__law_spoilt_value dc__law_spoilt_value pm__law_spoilt_value cd__law_spoilt_value ct__law_spoilt_value : Value}
    (a__law_spoilt_value : PySem.W.nsIn K mainGlobals "_law_spoilt_value" = some (some (.ref f__law_spoilt_value))) (l__law_spoilt_value : K.lookup f__law_spoilt_value = some ⟨oc__law_spoilt_value, od__law_spoilt_value, .func (PySem.W.fnOf "_law_spoilt_value" "_law_spoilt_value" (defArgs s_law_spoilt_value) (defBody s_law_spoilt_value) (defScope s_law_spoilt_value) .none kV__law_spoilt_value dc__law_spoilt_value pm__law_spoilt_value an__law_spoilt_value cd__law_spoilt_value ct__law_spoilt_value), sl__law_spoilt_value⟩) (c__law_spoilt_value : PySem.W.codeIn K cd__law_spoilt_value "_law_spoilt_value" = true) (k__law_spoilt_value : PySem.W.keepIn K (.ref f__law_spoilt_value) = true)
    {f__law_spoilt_book : Addr} {od__law_spoilt_book an__law_spoilt_book : Option Addr} {sl__law_spoilt_book : Array (Option Value)} {oc__law_spoilt_book kV__law_spoilt_book dc__law_spoilt_book pm__law_spoilt_book cd__law_spoilt_book ct__law_spoilt_book : Value}
    (a__law_spoilt_book : PySem.W.nsIn K mainGlobals "_law_spoilt_book" = some (some (.ref f__law_spoilt_book))) (l__law_spoilt_book : K.lookup f__law_spoilt_book = some ⟨oc__law_spoilt_book, od__law_spoilt_book, .func (PySem.W.fnOf "_law_spoilt_book" "_law_spoilt_book" (defArgs s_law_spoilt_book) (defBody s_law_spoilt_book) (defScope s_law_spoilt_book) .none kV__law_spoilt_book dc__law_spoilt_book pm__law_spoilt_book an__law_spoilt_book cd__law_spoilt_book ct__law_spoilt_book), sl__law_spoilt_book⟩) (c__law_spoilt_book : PySem.W.codeIn K cd__law_spoilt_book "_law_spoilt_book" = true) (k__law_spoilt_book : PySem.W.keepIn K (.ref f__law_spoilt_book) = true)
    {f_half_of : Addr} {od_half_of an_half_of : Option Addr} {sl_half_of : Array (Option Value)} {oc_half_of kV_half_of dc_half_of pm_half_of cd_half_of ct_half_of : Value}
    (a_half_of : PySem.W.nsIn K mainGlobals "half_of" = some (some (.ref f_half_of))) (l_half_of : K.lookup f_half_of = some ⟨oc_half_of, od_half_of, .func (PySem.W.fnOf "half_of" "half_of" (defArgs shalf_of) (defBody shalf_of) (defScope shalf_of) .none kV_half_of dc_half_of pm_half_of an_half_of cd_half_of ct_half_of), sl_half_of⟩) (c_half_of : PySem.W.codeIn K cd_half_of "half_of" = true) (k_half_of : PySem.W.keepIn K (.ref f_half_of) = true)
    {f_pairs : Addr} {od_pairs an_pairs : Option Addr} {sl_pairs : Array (Option Value)} {oc_pairs kV_pairs dc_pairs pm_pairs cd_pairs ct_pairs : Value}
    (a_pairs : PySem.W.nsIn K mainGlobals "pairs" = some (some (.ref f_pairs))) (l_pairs : K.lookup f_pairs = some ⟨oc_pairs, od_pairs, .func (PySem.W.fnOf "pairs" "pairs" (defArgs spairs) (defBody spairs) (defScope spairs) .none kV_pairs dc_pairs pm_pairs an_pairs cd_pairs ct_pairs), sl_pairs⟩) (c_pairs : PySem.W.codeIn K cd_pairs "pairs" = true) (k_pairs : PySem.W.keepIn K (.ref f_pairs) = true)
    {f__law_value_by : Addr} {od__law_value_by an__law_value_by : Option Addr} {sl__law_value_by : Array (Option Value)} {oc__law_value_by kV__law_value_by dc__law_value_by pm__law_value_by cd__law_value_by ct__law_value_by : Value}
    (a__law_value_by : PySem.W.nsIn K mainGlobals "_law_value_by" = some (some (.ref f__law_value_by))) (l__law_value_by : K.lookup f__law_value_by = some ⟨oc__law_value_by, od__law_value_by, .func (PySem.W.fnOf "_law_value_by" "_law_value_by" (defArgs s_law_value_by) (defBody s_law_value_by) (defScope s_law_value_by) .none kV__law_value_by dc__law_value_by pm__law_value_by an__law_value_by cd__law_value_by ct__law_value_by), sl__law_value_by⟩) (c__law_value_by : PySem.W.codeIn K cd__law_value_by "_law_value_by" = true) (k__law_value_by : PySem.W.keepIn K (.ref f__law_value_by) = true)
    {f__law_chained : Addr} {od__law_chained an__law_chained : Option Addr} {sl__law_chained : Array (Option Value)} {oc__law_chained kV__law_chained dc__law_chained pm__law_chained cd__law_chained ct__law_chained : Value}
    (a__law_chained : PySem.W.nsIn K mainGlobals "_law_chained" = some (some (.ref f__law_chained))) (l__law_chained : K.lookup f__law_chained = some ⟨oc__law_chained, od__law_chained, .func (PySem.W.fnOf "_law_chained" "_law_chained" (defArgs s_law_chained) (defBody s_law_chained) (defScope s_law_chained) .none kV__law_chained dc__law_chained pm__law_chained an__law_chained cd__law_chained ct__law_chained), sl__law_chained⟩) (c__law_chained : PySem.W.codeIn K cd__law_chained "_law_chained" = true) (k__law_chained : PySem.W.keepIn K (.ref f__law_chained) = true)
    {f__law_due_of : Addr} {od__law_due_of an__law_due_of : Option Addr} {sl__law_due_of : Array (Option Value)} {oc__law_due_of kV__law_due_of dc__law_due_of pm__law_due_of cd__law_due_of ct__law_due_of : Value}
    (a__law_due_of : PySem.W.nsIn K mainGlobals "_law_due_of" = some (some (.ref f__law_due_of))) (l__law_due_of : K.lookup f__law_due_of = some ⟨oc__law_due_of, od__law_due_of, .func (PySem.W.fnOf "_law_due_of" "_law_due_of" (defArgs s_law_due_of) (defBody s_law_due_of) (defScope s_law_due_of) .none kV__law_due_of dc__law_due_of pm__law_due_of an__law_due_of cd__law_due_of ct__law_due_of), sl__law_due_of⟩) (c__law_due_of : PySem.W.codeIn K cd__law_due_of "_law_due_of" = true) (k__law_due_of : PySem.W.keepIn K (.ref f__law_due_of) = true)
    {f_stray : Addr} {od_stray an_stray : Option Addr} {sl_stray : Array (Option Value)} {oc_stray kV_stray dc_stray pm_stray cd_stray ct_stray : Value}
    (a_stray : PySem.W.nsIn K mainGlobals "stray" = some (some (.ref f_stray))) (l_stray : K.lookup f_stray = some ⟨oc_stray, od_stray, .func (PySem.W.fnOf "stray" "stray" (defArgs sstray) (defBody sstray) (defScope sstray) .none kV_stray dc_stray pm_stray an_stray cd_stray ct_stray), sl_stray⟩) (c_stray : PySem.W.codeIn K cd_stray "stray" = true) (k_stray : PySem.W.keepIn K (.ref f_stray) = true)
    {f_whole_book : Addr} {od_whole_book an_whole_book : Option Addr} {sl_whole_book : Array (Option Value)} {oc_whole_book kV_whole_book dc_whole_book pm_whole_book cd_whole_book ct_whole_book : Value}
    (a_whole_book : PySem.W.nsIn K mainGlobals "whole_book" = some (some (.ref f_whole_book))) (l_whole_book : K.lookup f_whole_book = some ⟨oc_whole_book, od_whole_book, .func (PySem.W.fnOf "whole_book" "whole_book" (defArgs swhole_book) (defBody swhole_book) (defScope swhole_book) .none kV_whole_book dc_whole_book pm_whole_book an_whole_book cd_whole_book ct_whole_book), sl_whole_book⟩) (c_whole_book : PySem.W.codeIn K cd_whole_book "whole_book" = true) (k_whole_book : PySem.W.keepIn K (.ref f_whole_book) = true)
    {f__law_thing_by : Addr} {od__law_thing_by an__law_thing_by : Option Addr} {sl__law_thing_by : Array (Option Value)} {oc__law_thing_by kV__law_thing_by dc__law_thing_by pm__law_thing_by cd__law_thing_by ct__law_thing_by : Value}
    (a__law_thing_by : PySem.W.nsIn K mainGlobals "_law_thing_by" = some (some (.ref f__law_thing_by))) (l__law_thing_by : K.lookup f__law_thing_by = some ⟨oc__law_thing_by, od__law_thing_by, .func (PySem.W.fnOf "_law_thing_by" "_law_thing_by" (defArgs s_law_thing_by) (defBody s_law_thing_by) (defScope s_law_thing_by) .none kV__law_thing_by dc__law_thing_by pm__law_thing_by an__law_thing_by cd__law_thing_by ct__law_thing_by), sl__law_thing_by⟩) (c__law_thing_by : PySem.W.codeIn K cd__law_thing_by "_law_thing_by" = true) (k__law_thing_by : PySem.W.keepIn K (.ref f__law_thing_by) = true)
    {f__law_heap_by : Addr} {od__law_heap_by an__law_heap_by : Option Addr} {sl__law_heap_by : Array (Option Value)} {oc__law_heap_by kV__law_heap_by dc__law_heap_by pm__law_heap_by cd__law_heap_by ct__law_heap_by : Value}
    (a__law_heap_by : PySem.W.nsIn K mainGlobals "_law_heap_by" = some (some (.ref f__law_heap_by))) (l__law_heap_by : K.lookup f__law_heap_by = some ⟨oc__law_heap_by, od__law_heap_by, .func (PySem.W.fnOf "_law_heap_by" "_law_heap_by" (defArgs s_law_heap_by) (defBody s_law_heap_by) (defScope s_law_heap_by) .none kV__law_heap_by dc__law_heap_by pm__law_heap_by an__law_heap_by cd__law_heap_by ct__law_heap_by), sl__law_heap_by⟩) (c__law_heap_by : PySem.W.codeIn K cd__law_heap_by "_law_heap_by" = true) (k__law_heap_by : PySem.W.keepIn K (.ref f__law_heap_by) = true)
    {f_sound : Addr} {od_sound an_sound : Option Addr} {sl_sound : Array (Option Value)} {oc_sound kV_sound dc_sound pm_sound  ct_sound : Value}
    (a_sound : PySem.W.nsIn K mainGlobals "sound" = some (some (.ref f_sound))) (l_sound : K.lookup f_sound = some ⟨oc_sound, od_sound, .func (PySem.W.fnOf "sound" "sound" (defArgs ssound) (defBody ssound) (defScope ssound) .none kV_sound dc_sound pm_sound an_sound (.ref c) ct_sound), sl_sound⟩) (c_sound : PySem.W.codeIn K (.ref c) "sound" = true) (k_sound : PySem.W.keepIn K (.ref f_sound) = true)
    {f_law : Addr} {od_law an_law : Option Addr} {sl_law : Array (Option Value)} {oc_law kV_law dc_law pm_law cd_law ct_law : Value}
    (a_law : PySem.W.nsIn K mainGlobals "law" = some (some (.ref f_law))) (l_law : K.lookup f_law = some ⟨oc_law, od_law, .func (PySem.W.fnOf "law" "law" (defArgs slaw) (defBody slaw) (defScope slaw) .none kV_law dc_law pm_law an_law cd_law ct_law), sl_law⟩) (c_law : PySem.W.codeIn K cd_law "law" = true) (k_law : PySem.W.keepIn K (.ref f_law) = true)
    (z_any : PySem.W.nsIn K mainGlobals "any" = some none)
    (z_bool : PySem.W.nsIn K mainGlobals "bool" = some none)
    (z_enumerate : PySem.W.nsIn K mainGlobals "enumerate" = some none)
    (z_int : PySem.W.nsIn K mainGlobals "int" = some none)
    (z_isinstance : PySem.W.nsIn K mainGlobals "isinstance" = some none)
    (z_len : PySem.W.nsIn K mainGlobals "len" = some none)
    (z_list : PySem.W.nsIn K mainGlobals "list" = some none)
    (z_max : PySem.W.nsIn K mainGlobals "max" = some none)
    (z_range : PySem.W.nsIn K mainGlobals "range" = some none)
    (z_tuple : PySem.W.nsIn K mainGlobals "tuple" = some none)
    {t_YOUNG : Tok} (g_YOUNG : PySem.W.nsIn K mainGlobals "YOUNG" = some (some (.str "young" t_YOUNG)))
    (tb : PySem.W.tabIn K "sound" = some (c, Pt)) (np : K.lookup Pt = none)
    : ∃ (c Pt : Addr) (fd : FuncData), PySem.W.tabIn K "sound" = some (c, Pt) ∧ K.lookup Pt = none ∧ (∀ (s : Shared) (u : Value), BindsTo s fd ⟨[u], []⟩ [("_law_script", u)]) ∧ ∀ base : Heap, K.In base → base.Ns mainGlobals mg → TabB base mg c Pt → FnOk P w K mg base (L2.CX P w) 6 fa fd ["_law_script"] (spLawT K Pt) := by
  have e := hfa.symm.trans (PySem.W.mg_of X G a_law)
  cases e
  let cl : Nat → Addr := fun _ => 0
  have T : Tx K mg cl := { b_any := PySem.W.mg_none_of X G z_any, b_bool := PySem.W.mg_none_of X G z_bool, b_enumerate := PySem.W.mg_none_of X G z_enumerate, b_int := PySem.W.mg_none_of X G z_int, b_isinstance := PySem.W.mg_none_of X G z_isinstance, b_len := PySem.W.mg_none_of X G z_len, b_list := PySem.W.mg_none_of X G z_list, b_max := PySem.W.mg_none_of X G z_max, b_range := PySem.W.mg_none_of X G z_range, b_tuple := PySem.W.mg_none_of X G z_tuple, c_YOUNG := ⟨_, PySem.W.mg_of X G g_YOUNG⟩ }
  have F_points_young := fun_mk (st := spoints_young) l_points_young c_points_young k_points_young
  have B_points_young := F_points_young.binds (ps := ["value"]) fun _ _ _ _ _ _ us hl => match us, hl with | [_], _ => rfl
  have F__law_cell_at := fun_mk (st := s_law_cell_at) l__law_cell_at c__law_cell_at k__law_cell_at
  have B__law_cell_at := F__law_cell_at.binds (ps := ["_law_script", "_law_k"]) fun _ _ _ _ _ _ us hl => match us, hl with | [_, _], _ => rfl
  have F__law_mixed := fun_mk (st := s_law_mixed) l__law_mixed c__law_mixed k__law_mixed
  have B__law_mixed := F__law_mixed.binds (ps := ["_law_script", "_law_k"]) fun _ _ _ _ _ _ us hl => match us, hl with | [_, _], _ => rfl
  have F__law_book_of := fun_mk (st := s_law_book_of) l__law_book_of c__law_book_of k__law_book_of
  have B__law_book_of := F__law_book_of.binds (ps := ["_law_old"]) fun _ _ _ _ _ _ us hl => match us, hl with | [_], _ => rfl
  have F__law_next := fun_mk (st := s_law_next) l__law_next c__law_next k__law_next
  have B__law_next := F__law_next.binds (ps := ["_law_word", "_law_k", "_law_sizes"]) fun _ _ _ _ _ _ us hl => match us, hl with | [_, _, _], _ => rfl
  have F__law_leads := fun_mk (st := s_law_leads) l__law_leads c__law_leads k__law_leads
  have B__law_leads := F__law_leads.binds (ps := ["_law_heap", "_law_pointer"]) fun _ _ _ _ _ _ us hl => match us, hl with | [_, _], _ => rfl
  have F__law_pointer_by := fun_mk (st := s_law_pointer_by) l__law_pointer_by c__law_pointer_by k__law_pointer_by
  have B__law_pointer_by := F__law_pointer_by.binds (ps := ["_law_cell", "_law_heap", "_law_far"]) fun _ _ _ _ _ _ us hl => match us, hl with | [_, _, _], _ => rfl
  have F__law_spoilt_value := fun_mk (st := s_law_spoilt_value) l__law_spoilt_value c__law_spoilt_value k__law_spoilt_value
  have B__law_spoilt_value := F__law_spoilt_value.binds (ps := ["_law_heap", "_law_cell", "_law_odd"]) fun _ _ _ _ _ _ us hl => match us, hl with | [_, _, _], _ => rfl
  have F__law_spoilt_book := fun_mk (st := s_law_spoilt_book) l__law_spoilt_book c__law_spoilt_book k__law_spoilt_book
  have B__law_spoilt_book := F__law_spoilt_book.binds (ps := ["_law_heap", "_law_cell"]) fun _ _ _ _ _ _ us hl => match us, hl with | [_, _], _ => rfl
  have F_half_of := fun_mk (st := shalf_of) l_half_of c_half_of k_half_of
  have B_half_of := F_half_of.binds (ps := ["heap", "pointer"]) fun _ _ _ _ _ _ us hl => match us, hl with | [_, _], _ => rfl
  have F_pairs := fun_mk (st := spairs) l_pairs c_pairs k_pairs
  have B_pairs := F_pairs.binds (ps := ["old", "places"]) fun _ _ _ _ _ _ us hl => match us, hl with | [_, _], _ => rfl
  have F__law_value_by := fun_mk (st := s_law_value_by) l__law_value_by c__law_value_by k__law_value_by
  have B__law_value_by := F__law_value_by.binds (ps := ["_law_script", "_law_k", "_law_sizes"]) fun _ _ _ _ _ _ us hl => match us, hl with | [_, _, _], _ => rfl
  have F__law_chained := fun_mk (st := s_law_chained) l__law_chained c__law_chained k__law_chained
  have B__law_chained := F__law_chained.binds (ps := ["_law_half", "_law_word", "_law_sizes"]) fun _ _ _ _ _ _ us hl => match us, hl with | [_, _, _], _ => rfl
  have F__law_due_of := fun_mk (st := s_law_due_of) l__law_due_of c__law_due_of k__law_due_of
  have B__law_due_of := F__law_due_of.binds (ps := ["_law_heap"]) fun _ _ _ _ _ _ us hl => match us, hl with | [_], _ => rfl
  have F_stray := fun_mk (st := sstray) l_stray c_stray k_stray
  have B_stray := F_stray.binds (ps := ["heap", "value"]) fun _ _ _ _ _ _ us hl => match us, hl with | [_, _], _ => rfl
  have F_whole_book := fun_mk (st := swhole_book) l_whole_book c_whole_book k_whole_book
  have B_whole_book := F_whole_book.binds (ps := ["old"]) fun _ _ _ _ _ _ us hl => match us, hl with | [_], _ => rfl
  have F__law_thing_by := fun_mk (st := s_law_thing_by) l__law_thing_by c__law_thing_by k__law_thing_by
  have B__law_thing_by := F__law_thing_by.binds (ps := ["_law_script", "_law_k", "_law_sizes"]) fun _ _ _ _ _ _ us hl => match us, hl with | [_, _, _], _ => rfl
  have F__law_heap_by := fun_mk (st := s_law_heap_by) l__law_heap_by c__law_heap_by k__law_heap_by
  have B__law_heap_by := F__law_heap_by.binds (ps := ["_law_script"]) fun _ _ _ _ _ _ us hl => match us, hl with | [_], _ => rfl
  have F_sound := fun_mk (st := ssound) l_sound c_sound k_sound
  have B_sound := F_sound.binds (ps := ["heap"]) fun _ _ _ _ _ _ us hl => match us, hl with | [_], _ => rfl
  have F_law := fun_mk (st := slaw) l_law c_law k_law
  refine ⟨c, Pt, PySem.W.fnOf "law" "law" (defArgs slaw) (defBody slaw) (defScope slaw) .none kV_law dc_law pm_law an_law cd_law ct_law, tb, np, fun s u => .of_eq rfl, fun base _ _ TB => ?_⟩
  have O_points_young : Own K mg "points_young" spoints_young f_points_young _ := ⟨F_points_young, PySem.W.mg_of X G a_points_young, k_points_young⟩
  have D_points_young : Dn P w K mg base 1 "points_young" f_points_young _ ["value"] (spM cl 1 mpoints_young) := ⟨okpoints_young F_points_young T , PySem.W.mg_of X G a_points_young, k_points_young, B_points_young⟩
  have D__law_cell_at : Dn P w K mg base 1 "_law_cell_at" f__law_cell_at _ ["_law_script", "_law_k"] (spM cl 2 m_law_cell_at) := ⟨ok_law_cell_at F__law_cell_at T , PySem.W.mg_of X G a__law_cell_at, k__law_cell_at, B__law_cell_at⟩
  have D__law_mixed : Dn P w K mg base 1 "_law_mixed" f__law_mixed _ ["_law_script", "_law_k"] (spM cl 2 m_law_mixed) := ⟨ok_law_mixed F__law_mixed T , PySem.W.mg_of X G a__law_mixed, k__law_mixed, B__law_mixed⟩
  have D__law_book_of : Dn P w K mg base 1 "_law_book_of" f__law_book_of _ ["_law_old"] (spM cl 1 m_law_book_of) := ⟨ok_law_book_of F__law_book_of T , PySem.W.mg_of X G a__law_book_of, k__law_book_of, B__law_book_of⟩
  have D__law_next : Dn P w K mg base 1 "_law_next" f__law_next _ ["_law_word", "_law_k", "_law_sizes"] (spM cl 3 m_law_next) := ⟨ok_law_next F__law_next T , PySem.W.mg_of X G a__law_next, k__law_next, B__law_next⟩
  have D__law_leads : Dn P w K mg base 1 "_law_leads" f__law_leads _ ["_law_heap", "_law_pointer"] (spM cl 2 m_law_leads) := ⟨ok_law_leads F__law_leads T , PySem.W.mg_of X G a__law_leads, k__law_leads, B__law_leads⟩
  have D__law_pointer_by : Dn P w K mg base 1 "_law_pointer_by" f__law_pointer_by _ ["_law_cell", "_law_heap", "_law_far"] (spM cl 3 m_law_pointer_by) := ⟨ok_law_pointer_by F__law_pointer_by T , PySem.W.mg_of X G a__law_pointer_by, k__law_pointer_by, B__law_pointer_by⟩
  have D__law_spoilt_value : Dn P w K mg base 1 "_law_spoilt_value" f__law_spoilt_value _ ["_law_heap", "_law_cell", "_law_odd"] (spM cl 3 m_law_spoilt_value) := ⟨ok_law_spoilt_value F__law_spoilt_value T , PySem.W.mg_of X G a__law_spoilt_value, k__law_spoilt_value, B__law_spoilt_value⟩
  have D__law_spoilt_book : Dn P w K mg base 1 "_law_spoilt_book" f__law_spoilt_book _ ["_law_heap", "_law_cell"] (spM cl 2 m_law_spoilt_book) := ⟨ok_law_spoilt_book F__law_spoilt_book T , PySem.W.mg_of X G a__law_spoilt_book, k__law_spoilt_book, B__law_spoilt_book⟩
  have O_half_of : Own K mg "half_of" shalf_of f_half_of _ := ⟨F_half_of, PySem.W.mg_of X G a_half_of, k_half_of⟩
  have D_pairs : Dn P w K mg base 2 "pairs" f_pairs _ ["old", "places"] (spM cl 2 mpairs) := ⟨okpairs F_pairs T D_points_young, PySem.W.mg_of X G a_pairs, k_pairs, B_pairs⟩
  have D__law_value_by : Dn P w K mg base 2 "_law_value_by" f__law_value_by _ ["_law_script", "_law_k", "_law_sizes"] (spM cl 3 m_law_value_by) := ⟨ok_law_value_by F__law_value_by T D__law_cell_at D__law_mixed, PySem.W.mg_of X G a__law_value_by, k__law_value_by, B__law_value_by⟩
  have D__law_chained : Dn P w K mg base 2 "_law_chained" f__law_chained _ ["_law_half", "_law_word", "_law_sizes"] (spM cl 3 m_law_chained) := ⟨ok_law_chained F__law_chained T D__law_next, PySem.W.mg_of X G a__law_chained, k__law_chained, B__law_chained⟩
  have D__law_due_of : Dn P w K mg base 2 "_law_due_of" f__law_due_of _ ["_law_heap"] (spM cl 1 m_law_due_of) := ⟨ok_law_due_of F__law_due_of T D__law_book_of D__law_leads, PySem.W.mg_of X G a__law_due_of, k__law_due_of, B__law_due_of⟩
  have O_stray : Own K mg "stray" sstray f_stray _ := ⟨F_stray, PySem.W.mg_of X G a_stray, k_stray⟩
  have D_whole_book : Dn P w K mg base 3 "whole_book" f_whole_book _ ["old"] (spM cl 1 mwhole_book) := ⟨okwhole_book F_whole_book T D_pairs, PySem.W.mg_of X G a_whole_book, k_whole_book, B_whole_book⟩
  have D__law_thing_by : Dn P w K mg base 3 "_law_thing_by" f__law_thing_by _ ["_law_script", "_law_k", "_law_sizes"] (spM cl 3 m_law_thing_by) := ⟨ok_law_thing_by F__law_thing_by T D__law_cell_at D__law_mixed D__law_value_by, PySem.W.mg_of X G a__law_thing_by, k__law_thing_by, B__law_thing_by⟩
  have D__law_heap_by : Dn P w K mg base 4 "_law_heap_by" f__law_heap_by _ ["_law_script"] (spM cl 1 m_law_heap_by) := ⟨ok_law_heap_by F__law_heap_by T D__law_book_of D__law_cell_at D__law_chained D__law_thing_by D__law_value_by, PySem.W.mg_of X G a__law_heap_by, k__law_heap_by, B__law_heap_by⟩
  have D_sound : Dn P w K mg base 5 "sound" f_sound _ ["heap"] (spTab Pt 1 msound) := ⟨oksound l_sound c_sound T TB O_stray O_points_young O_half_of D_whole_book, PySem.W.mg_of X G a_sound, k_sound, B_sound⟩
  exact law_fnT nl (oklaw l_law c_law T D__law_cell_at D__law_due_of D__law_heap_by D__law_pointer_by D__law_spoilt_book D__law_spoilt_value D_sound) fun ns _ => law_true ns
end Kp
open PySem PySem.W PyProof.Rows in
set_option maxRecDepth 100000 in
set_option maxHeartbeats 0 in
theorem PySem.Challenge.cw_movecollect_k05_sound_told_holds : PySem.Challenge.rw_movecollect_k05_sound_told.Holds := by
  w_on; o_law; k_head; (case hw => w_witness2)
  k_fill
  refine Kp.walk_lawT (l := PySem.Challenge.rw_movecollect_k05_sound_told) (k := 6) (x := "_law_script") rfl rfl ⟨rfl, by decide, by decide⟩ (fun w h Y => PySem.W.kIn_of Y) ?F (Option.isSome_iff_exists.mp (by kernel_rfl))
  case F =>
    intro w mg fa h KX G hmg
    refine' Kp.all_mk KX G hmg ?nl ?a_points_young ?l_points_young ?c_points_young ?k_points_young ?a__law_cell_at ?l__law_cell_at ?c__law_cell_at ?k__law_cell_at ?a__law_mixed ?l__law_mixed ?c__law_mixed ?k__law_mixed ?a__law_book_of ?l__law_book_of ?c__law_book_of ?k__law_book_of ?a__law_next ?l__law_next ?c__law_next ?k__law_next ?a__law_leads ?l__law_leads ?c__law_leads ?k__law_leads ?a__law_pointer_by ?l__law_pointer_by ?c__law_pointer_by ?k__law_pointer_by ?a__law_spoilt_value ?l__law_spoilt_value ?c__law_spoilt_value ?k__law_spoilt_value ?a__law_spoilt_book ?l__law_spoilt_book ?c__law_spoilt_book ?k__law_spoilt_book ?a_half_of ?l_half_of ?c_half_of ?k_half_of ?a_pairs ?l_pairs ?c_pairs ?k_pairs ?a__law_value_by ?l__law_value_by ?c__law_value_by ?k__law_value_by ?a__law_chained ?l__law_chained ?c__law_chained ?k__law_chained ?a__law_due_of ?l__law_due_of ?c__law_due_of ?k__law_due_of ?a_stray ?l_stray ?c_stray ?k_stray ?a_whole_book ?l_whole_book ?c_whole_book ?k_whole_book ?a__law_thing_by ?l__law_thing_by ?c__law_thing_by ?k__law_thing_by ?a__law_heap_by ?l__law_heap_by ?c__law_heap_by ?k__law_heap_by ?a_sound ?l_sound ?c_sound ?k_sound ?a_law ?l_law ?c_law ?k_law ?z_any ?z_bool ?z_enumerate ?z_int ?z_isinstance ?z_len ?z_list ?z_max ?z_range ?z_tuple ?g_YOUNG ?tb ?np
    (case a_points_young => k_is)
    (case l_points_young => k_is)
    (case c_points_young => k_is)
    (case k_points_young => k_is)
    (case a__law_cell_at => k_is)
    (case l__law_cell_at => k_is)
    (case c__law_cell_at => k_is)
    (case k__law_cell_at => k_is)
    (case a__law_mixed => k_is)
    (case l__law_mixed => k_is)
    (case c__law_mixed => k_is)
    (case k__law_mixed => k_is)
    (case a__law_book_of => k_is)
    (case l__law_book_of => k_is)
    (case c__law_book_of => k_is)
    (case k__law_book_of => k_is)
    (case a__law_next => k_is)
    (case l__law_next => k_is)
    (case c__law_next => k_is)
    (case k__law_next => k_is)
    (case a__law_leads => k_is)
    (case l__law_leads => k_is)
    (case c__law_leads => k_is)
    (case k__law_leads => k_is)
    (case a__law_pointer_by => k_is)
    (case l__law_pointer_by => k_is)
    (case c__law_pointer_by => k_is)
    (case k__law_pointer_by => k_is)
    (case a__law_spoilt_value => k_is)
    (case l__law_spoilt_value => k_is)
    (case c__law_spoilt_value => k_is)
    (case k__law_spoilt_value => k_is)
    (case a__law_spoilt_book => k_is)
    (case l__law_spoilt_book => k_is)
    (case c__law_spoilt_book => k_is)
    (case k__law_spoilt_book => k_is)
    (case a_half_of => k_is)
    (case l_half_of => k_is)
    (case c_half_of => k_is)
    (case k_half_of => k_is)
    (case a_pairs => k_is)
    (case l_pairs => k_is)
    (case c_pairs => k_is)
    (case k_pairs => k_is)
    (case a__law_value_by => k_is)
    (case l__law_value_by => k_is)
    (case c__law_value_by => k_is)
    (case k__law_value_by => k_is)
    (case a__law_chained => k_is)
    (case l__law_chained => k_is)
    (case c__law_chained => k_is)
    (case k__law_chained => k_is)
    (case a__law_due_of => k_is)
    (case l__law_due_of => k_is)
    (case c__law_due_of => k_is)
    (case k__law_due_of => k_is)
    (case a_stray => k_is)
    (case l_stray => k_is)
    (case c_stray => k_is)
    (case k_stray => k_is)
    (case a_whole_book => k_is)
    (case l_whole_book => k_is)
    (case c_whole_book => k_is)
    (case k_whole_book => k_is)
    (case a__law_thing_by => k_is)
    (case l__law_thing_by => k_is)
    (case c__law_thing_by => k_is)
    (case k__law_thing_by => k_is)
    (case a__law_heap_by => k_is)
    (case l__law_heap_by => k_is)
    (case c__law_heap_by => k_is)
    (case k__law_heap_by => k_is)
    (case a_sound => k_is)
    (case l_sound => k_is)
    (case c_sound => k_is)
    (case k_sound => k_is)
    (case a_law => k_is)
    (case l_law => k_is)
    (case c_law => k_is)
    (case k_law => k_is)
    (case z_any => k_is)
    (case z_bool => k_is)
    (case z_enumerate => k_is)
    (case z_int => k_is)
    (case z_isinstance => k_is)
    (case z_len => k_is)
    (case z_list => k_is)
    (case z_max => k_is)
    (case z_range => k_is)
    (case z_tuple => k_is)
    (case g_YOUNG => k_is)
    (case tb => first | rfl | with_unfolding_all rfl)
    (case np => kernel_rfl)
    (case nl => kernel_rfl)


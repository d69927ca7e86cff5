import PyProof.Rows.All
import Wide.All
import OpenK.AllK
import Wide.FinOn
import HandS.ForMost
import HandS.ForExc
import HandS.OwnEq
import HandS.Property
import HandS.ClsMeth
import HandS.Star
import HandS.CallSlots
import HandS.Wide
import HandS.IsInst
import HandS.Conv
import HandS.Deep
import HandS.DeepEq
import HandS.TupAny
import HandS.Style
import HandS.Small
import PyProof.InstNe
import HandS.Defaults
import HandS.Flow
import HandS.ExcOwn
import HandS.More
import PySem.Challenge.RW_shortkeys_k02_whole_keys
set_option Elab.async false
set_option linter.all false
set_option maxRecDepth 100000
/-! A layer of plain data over the hand layer: what stands in the heap is read as a tree D, what an expression gives is a function of the slots' trees. -/
namespace Dl
open PySem PySem.Spec PyProof.Rows L2

inductive D where
  | non | bl (b : Bool) | int (i : Int) | str (x : Str)
  | tup (xs : List D) | lst (xs : List D)
  | dic (ks : List Key) (xs : List D)
  | ins (c : Nat) (ns : List Str) (xs : List D)
  | scr (ns : List Int)
  | cls (c : Nat)

/-- what there is of classes: their addresses, the errors' values and fields -/
structure Cl where
  at_ : Nat → Addr
  xv : Nat → Value
  xn : Nat → List Str

mutual
def Rep (K : PySem.W.Frag) (cl : Cl) (H : Hp) : D → V → Prop
  | .non, v => v = .non
  | .bl b, v => v = .bl b
  | .int i, v => v = .int i
  | .str x, v => v = .str x
  | .tup xs, v => ∃ a vs, v = .ref a ∧ SqT K H a vs ∧ Reps K cl H xs vs
  | .lst xs, v => ∃ a vs, v = .ref a ∧ H a = some (.lst vs) ∧ Reps K cl H xs vs
  | .dic ks xs, v => ∃ a vs, v = .ref a ∧ H a = some (.dK (ks.zip vs)) ∧ ks.length = vs.length ∧ Reps K cl H xs vs
  | .ins c ns xs, v => ∃ a dx vs, v = .ref a ∧ H a = some (.ins (cl.at_ c) dx (ns.zip vs)) ∧ ns.length = vs.length ∧ Reps K cl H xs vs
  | .scr ns, v => ∃ a, v = .ref a ∧ SqL K H a (ns.map V.int)
  | .cls c, v => v = .ref (cl.at_ c)
def Reps (K : PySem.W.Frag) (cl : Cl) (H : Hp) : List D → List V → Prop
  | [], vs => vs = []
  | x :: xs, vs => ∃ v ws, vs = v :: ws ∧ Rep K cl H x v ∧ Reps K cl H xs ws
end

section
variable {K : PySem.W.Frag} {cl : Cl} {H H' : Hp}
mutual
theorem rep_mono (e : Ext H H') : ∀ (d : D) (v : V), Rep K cl H d v → Rep K cl H' d v
  | .non, _, h => h
  | .bl _, _, h => h
  | .int _, _, h => h
  | .str _, _, h => h
  | .tup xs, _, h => by
    unfold Rep at h ⊢
    obtain ⟨a, vs, h1, h2, h3⟩ := h
    exact ⟨a, vs, h1, h2.ext e, reps_mono e xs vs h3⟩
  | .lst xs, _, h => by
    unfold Rep at h ⊢
    obtain ⟨a, vs, h1, h2, h3⟩ := h
    exact ⟨a, vs, h1, e _ _ h2, reps_mono e xs vs h3⟩
  | .dic ks xs, _, h => by
    unfold Rep at h ⊢
    obtain ⟨a, vs, h1, h2, h3, h4⟩ := h
    exact ⟨a, vs, h1, e _ _ h2, h3, reps_mono e xs vs h4⟩
  | .ins c ns xs, _, h => by
    unfold Rep at h ⊢
    obtain ⟨a, dx, vs, h1, h2, h3, h4⟩ := h
    exact ⟨a, dx, vs, h1, e _ _ h2, h3, reps_mono e xs vs h4⟩
  | .scr ns, _, h => by
    unfold Rep at h ⊢
    obtain ⟨a, h1, h2⟩ := h
    exact ⟨a, h1, h2.ext e⟩
  | .cls c, _, h => h
theorem reps_mono (e : Ext H H') : ∀ (ds : List D) (vs : List V), Reps K cl H ds vs → Reps K cl H' ds vs
  | [], _, h => h
  | x :: xs, _, h => by
    unfold Reps at h ⊢
    obtain ⟨v, ws, h1, h2, h3⟩ := h
    exact ⟨v, ws, h1, rep_mono e x v h2, reps_mono e xs ws h3⟩
end

theorem reps_len : ∀ {ds : List D} {vs : List V}, Reps K cl H ds vs → ds.length = vs.length
  | [], _, h => by unfold Reps at h; subst h; rfl
  | x :: xs, _, h => by
    unfold Reps at h
    obtain ⟨v, ws, rfl, _, h3⟩ := h
    rw [List.length_cons, List.length_cons, reps_len h3]
theorem reps_nil : Reps K cl H [] [] := by unfold Reps; rfl
theorem reps_cons {d : D} {ds : List D} {v : V} {vs : List V} (h : Rep K cl H d v) (hs : Reps K cl H ds vs) : Reps K cl H (d :: ds) (v :: vs) := by
  unfold Reps
  exact ⟨v, vs, rfl, h, hs⟩
theorem reps_get : ∀ {ds : List D} {vs : List V} {i : Nat} {d : D}, Reps K cl H ds vs → ds[i]? = some d → ∃ v, vs[i]? = some v ∧ Rep K cl H d v
  | [], _, _, _, _, e => by simp at e
  | x :: xs, _, 0, d, h, e => by
    unfold Reps at h
    obtain ⟨v, ws, rfl, h2, _⟩ := h
    simp at e
    subst e
    exact ⟨v, rfl, h2⟩
  | x :: xs, _, i + 1, d, h, e => by
    unfold Reps at h
    obtain ⟨v, ws, rfl, _, h3⟩ := h
    obtain ⟨u, h4, h5⟩ := reps_get (i := i) h3 (by simpa using e)
    exact ⟨u, by simpa using h4, h5⟩
theorem reps_get' : ∀ {ds : List D} {vs : List V} {i : Nat} {v : V}, Reps K cl H ds vs → vs[i]? = some v → ∃ d, ds[i]? = some d ∧ Rep K cl H d v := fun {ds vs i v} h e => by
  have hl := reps_len h
  have hi : i < vs.length := (List.getElem?_eq_some_iff.mp e).1
  obtain ⟨u, h1, h2⟩ := reps_get (i := i) h (List.getElem?_eq_getElem (by omega))
  rw [e] at h1
  cases h1
  exact ⟨_, List.getElem?_eq_getElem (by omega), h2⟩
theorem reps_app : ∀ {ds es : List D} {vs ws : List V}, Reps K cl H ds vs → Reps K cl H es ws → Reps K cl H (ds ++ es) (vs ++ ws)
  | [], _, _, _, h, k => by unfold Reps at h; subst h; exact k
  | x :: xs, _, _, _, h, k => by
    unfold Reps at h
    obtain ⟨v, us, rfl, h2, h3⟩ := h
    exact reps_cons h2 (reps_app h3 k)
theorem reps_take : ∀ {ds : List D} {vs : List V} (n : Nat), Reps K cl H ds vs → Reps K cl H (ds.take n) (vs.take n)
  | _, _, 0, _ => by simpa using reps_nil
  | [], _, n + 1, h => by unfold Reps at h; subst h; simpa using reps_nil
  | x :: xs, _, n + 1, h => by
    unfold Reps at h
    obtain ⟨v, us, rfl, h2, h3⟩ := h
    exact reps_cons h2 (reps_take n h3)
theorem reps_drop : ∀ {ds : List D} {vs : List V} (n : Nat), Reps K cl H ds vs → Reps K cl H (ds.drop n) (vs.drop n)
  | _, _, 0, h => h
  | [], _, n + 1, h => by unfold Reps at h; subst h; simpa using reps_nil
  | x :: xs, _, n + 1, h => by
    unfold Reps at h
    obtain ⟨v, us, rfl, h2, h3⟩ := h
    exact reps_drop n h3
theorem reps_rev : ∀ {ds : List D} {vs : List V}, Reps K cl H ds vs → Reps K cl H ds.reverse vs.reverse
  | [], _, h => by unfold Reps at h; subst h; exact reps_nil
  | x :: xs, _, h => by
    unfold Reps at h
    obtain ⟨v, us, rfl, h2, h3⟩ := h
    rw [List.reverse_cons, List.reverse_cons]
    exact reps_app (reps_rev h3) (reps_cons h2 reps_nil)
theorem reps_of_get {ds : List D} {vs : List V} (hl : ds.length = vs.length) (h : ∀ (i : Nat) d v, ds[i]? = some d → vs[i]? = some v → Rep K cl H d v) : Reps K cl H ds vs := by
  induction ds generalizing vs with
  | nil => cases vs with
    | nil => exact reps_nil
    | cons _ _ => simp at hl
  | cons x xs ih => cases vs with
    | nil => simp at hl
    | cons v vs => exact reps_cons (h 0 x v rfl rfl) (ih (by simpa using hl) fun i d v h1 h2 => h (i + 1) d v (by simpa using h1) (by simpa using h2))
theorem rep_tup {xs : List D} {vs : List V} {a : Addr} (h : SqT K H a vs) (r : Reps K cl H xs vs) : Rep K cl H (.tup xs) (.ref a) := by
  unfold Rep
  exact ⟨a, vs, rfl, h, r⟩
theorem rep_lst {xs : List D} {vs : List V} {a : Addr} (h : H a = some (.lst vs)) (r : Reps K cl H xs vs) : Rep K cl H (.lst xs) (.ref a) := by
  unfold Rep
  exact ⟨a, vs, rfl, h, r⟩
end

/-! ### the addresses that are owned are hidden -/
def hide (O : List Addr) (H : Hp) : Hp := fun a => if a ∈ O then none else H a
theorem hide_in {O : List Addr} {H : Hp} {a : Addr} (h : a ∈ O) : hide O H a = none := if_pos h
theorem hide_out {O : List Addr} {H : Hp} {a : Addr} (h : a ∉ O) : hide O H a = H a := if_neg h
theorem hide_sub {O : List Addr} {H : Hp} : Ext (hide O H) H := fun a o e => by
  unfold hide at e
  split at e
  · cases e
  · exact e
theorem hide_ext {O : List Addr} {H H' : Hp} (x : Ext H H') : Ext (hide O H) (hide O H') := fun a o e => by
  unfold hide at e ⊢
  split at e
  · cases e
  · rename_i h
    rw [if_neg h]
    exact x a o e
theorem hide_less {O O' : List Addr} {H : Hp} (h : ∀ a ∈ O', a ∈ O) : Ext (hide O H) (hide O' H) := fun a o e => by
  unfold hide at e ⊢
  split at e
  · cases e
  · rename_i n
    rw [if_neg fun z => n (h a z)]
    exact e
theorem hide_upd_in {O : List Addr} {H : Hp} {a : Addr} {o : HO} (h : a ∈ O) : hide O (upd H a o) = hide O H := by
  funext b
  unfold hide
  split
  · rfl
  · rename_i n
    rw [upd_ne fun z => n (by rw [z]; exact h)]

/-! ### slots -/
inductive Own where
  | lst (xs : List D) | dic (ks : List Key) (xs : List D) | ins (c : Nat) (ns : List Str) (xs : List D)
inductive Sl where
  | no | sh (d : D) | ow (o : Own)
abbrev En := List Sl

/-- what the activation begins with: the class table, the heap that is kept, the addresses that callers own -/
structure Cc where
  cl : Cl
  H0 : Hp
  O0 : List Addr
  /-- the instance that is being made -/
  me : Addr := 0

def OwnAt (K : PySem.W.Frag) (cl : Cl) (Hh H : Hp) (a : Addr) : Own → Prop
  | .lst xs => ∃ vs, H a = some (.lst vs) ∧ Reps K cl Hh xs vs
  | .dic ks xs => ∃ vs, H a = some (.dK (ks.zip vs)) ∧ ks.length = vs.length ∧ Reps K cl Hh xs vs
  | .ins c ns xs => ∃ dx vs, H a = some (.ins (cl.at_ c) dx (ns.zip vs)) ∧ ns.length = vs.length ∧ Reps K cl Hh xs vs

structure Rl (K : PySem.W.Frag) (c : Cc) (O : List Addr) (env : En) (σ : L2.St) (H : Hp) : Prop where
  len : env.length = σ.length
  ext : Ext c.H0 H
  sub : ∀ a ∈ c.O0, a ∈ O
  dom : ∀ a ∈ O, ∃ o, H a = some o
  sh : ∀ (i : Nat) d, env[i]? = some (.sh d) → ∃ v, σ[i]? = some (some v) ∧ Rep K c.cl (hide O H) d v
  ow : ∀ (i : Nat) o, env[i]? = some (.ow o) → ∃ a, σ[i]? = some (some (.ref a)) ∧ a ∈ O ∧ c.H0 a = none ∧ a ∉ c.O0 ∧ OwnAt K c.cl (hide O H) H a o
  me : ∀ (i : Nat) k ns xs, env[i]? = some (.ow (.ins k ns xs)) → σ[i]? = some (some (.ref c.me))
  inj : ∀ (i j : Nat) o u a, env[i]? = some (.ow o) → env[j]? = some (.ow u) → σ[i]? = some (some (.ref a)) → σ[j]? = some (some (.ref a)) → i = j

theorem OwnAt.mono {K : PySem.W.Frag} {cl : Cl} {Hh Hh' H H' : Hp} {a : Addr} {o : Own} (h : OwnAt K cl Hh H a o) (x : Ext Hh Hh') (y : Ext H H') : OwnAt K cl Hh' H' a o := by
  cases o with
  | lst xs => obtain ⟨vs, h1, h2⟩ := h; exact ⟨vs, y _ _ h1, reps_mono x _ _ h2⟩
  | dic ks xs => obtain ⟨vs, h1, h2, h3⟩ := h; exact ⟨vs, y _ _ h1, h2, reps_mono x _ _ h3⟩
  | ins c ns xs => obtain ⟨dx, vs, h1, h2, h3⟩ := h; exact ⟨dx, vs, y _ _ h1, h2, reps_mono x _ _ h3⟩

section
variable {K : PySem.W.Frag} {c : Cc} {O : List Addr} {env : En} {σ : L2.St} {H H' : Hp}
theorem Rl.mono (r : Rl K c O env σ H) (x : Ext H H') : Rl K c O env σ H' where
  len := r.len
  ext := r.ext.trans x
  sub := r.sub
  dom := fun a h => let ⟨o, e⟩ := r.dom a h; ⟨o, x _ _ e⟩
  sh := fun i d e => let ⟨v, h1, h2⟩ := r.sh i d e; ⟨v, h1, rep_mono (hide_ext x) d v h2⟩
  ow := fun i o e => let ⟨a, h1, h2, h3, h4, h5⟩ := r.ow i o e; ⟨a, h1, h2, h3, h4, h5.mono (hide_ext x) x⟩
  me := r.me
  inj := r.inj
theorem Rl.new (r : Rl K c O env σ H) {p : Addr} (h : H p = none) : p ∉ O := fun z => by
  obtain ⟨o, e⟩ := r.dom p z
  rw [h] at e
  cases e
theorem hide_new {p : Addr} {o : HO} (h : p ∉ O) : hide O (upd H p o) p = some o := by rw [hide_out h, upd_same]
theorem getE_set {env : En} {i j : Nat} {s u : Sl} (h : (env.set i s)[j]? = some u) : (j = i ∧ u = s) ∨ (j ≠ i ∧ env[j]? = some u) := by
  by_cases e : i = j
  · subst e
    rw [List.getElem?_set] at h
    simp at h
    exact .inl ⟨rfl, h.2.symm⟩
  · rw [List.getElem?_set_ne e] at h
    exact .inr ⟨fun z => e z.symm, h⟩
/-- a slot takes a tree -/
theorem Rl.set (r : Rl K c O env σ H) {i : Nat} {d : D} {v : V} (h : Rep K c.cl (hide O H) d v) (hi : i < env.length) : Rl K c O (env.set i (.sh d)) (σ.set i (some v)) H where
  len := by rw [List.length_set, List.length_set, r.len]
  ext := r.ext
  sub := r.sub
  dom := r.dom
  sh := fun j u e => by
    rcases getE_set e with ⟨rfl, q⟩ | ⟨n, e⟩
    · cases q
      exact ⟨v, List.getElem?_set_self (by rw [← r.len]; exact hi), h⟩
    · obtain ⟨w, h1, h2⟩ := r.sh j u e
      exact ⟨w, by rw [List.getElem?_set_ne (Ne.symm n)]; exact h1, h2⟩
  ow := fun j u e => by
    rcases getE_set e with ⟨rfl, q⟩ | ⟨n, e⟩
    · cases q
    · obtain ⟨w, h1, h2⟩ := r.ow j u e
      exact ⟨w, by rw [List.getElem?_set_ne (Ne.symm n)]; exact h1, h2⟩
  me := fun j k ns xs e => by
    rcases getE_set e with ⟨rfl, q⟩ | ⟨n, e⟩
    · cases q
    · rw [List.getElem?_set_ne (Ne.symm n)]
      exact r.me j k ns xs e
  inj := fun j k o u a e1 e2 e3 e4 => by
    rcases getE_set e1 with ⟨rfl, q1⟩ | ⟨n1, e1⟩
    · cases q1
    · rcases getE_set e2 with ⟨rfl, q2⟩ | ⟨n2, e2⟩
      · cases q2
      · rw [List.getElem?_set_ne (Ne.symm n1)] at e3
        rw [List.getElem?_set_ne (Ne.symm n2)] at e4
        exact r.inj j k o u a e1 e2 e3 e4
/-- slots may be forgotten, and the frame's values too -/
theorem Rl.weak {env' : En} {σ' : L2.St} (r : Rl K c O env σ H) (hl : env'.length = σ'.length) (he : ∀ (i : Nat) s, env'[i]? = some s → s ≠ .no → env[i]? = some s) (hs : ∀ (i : Nat) s v, env'[i]? = some s → s ≠ .no → σ[i]? = some (some v) → σ'[i]? = some (some v)) : Rl K c O env' σ' H where
  len := hl
  ext := r.ext
  sub := r.sub
  dom := r.dom
  sh := fun j u e => by
    obtain ⟨w, h1, h2⟩ := r.sh j u (he j _ e (fun z => nomatch z))
    exact ⟨w, hs j _ w e (fun z => nomatch z) h1, h2⟩
  ow := fun j u e => by
    obtain ⟨a, h1, h2⟩ := r.ow j u (he j _ e (fun z => nomatch z))
    exact ⟨a, hs j _ _ e (fun z => nomatch z) h1, h2⟩
  me := fun j k ns xs e => hs j _ _ e (fun z => nomatch z) (r.me j k ns xs (he j _ e (fun z => nomatch z)))
  inj := fun i j o u a e1 e2 e3 e4 => by
    obtain ⟨a1, h1, _⟩ := r.ow i o (he i _ e1 (fun z => nomatch z))
    obtain ⟨a2, h2, _⟩ := r.ow j u (he j _ e2 (fun z => nomatch z))
    have q1 := hs i _ _ e1 (fun z => nomatch z) h1
    have q2 := hs j _ _ e2 (fun z => nomatch z) h2
    rw [e3] at q1
    rw [e4] at q2
    cases q1
    cases q2
    exact r.inj i j o u a (he i _ e1 (fun z => nomatch z)) (he j _ e2 (fun z => nomatch z)) h1 h2
/-- the content of an owned object changes -/
theorem Rl.own_set (r : Rl K c O env σ H) {i : Nat} {o o' : Own} {a : Addr} {ho : HO} (e : env[i]? = some (.ow o)) (ha : σ[i]? = some (some (.ref a))) (h : OwnAt K c.cl (hide O H) (upd H a ho) a o') (hm : ∀ k ns xs, o' = .ins k ns xs → ∃ k' ns' xs', o = .ins k' ns' xs') :
    Rl K c O (env.set i (.ow o')) σ (upd H a ho) := by
  obtain ⟨b, hb, h1, h2, h3, h4⟩ := r.ow i o e
  rw [ha] at hb
  cases hb
  have hi : i < env.length := (List.getElem?_eq_some_iff.mp e).1
  have hh : hide O (upd H a ho) = hide O H := hide_upd_in h1
  refine ⟨by rw [List.length_set]; exact r.len, fun b u eb => ?_, r.sub, fun b hb => ?_, fun j d ed => ?_, fun j u eu => ?_, fun j k ns xs ej => ?_, fun j k u u' b e1 e2 e3 e4 => ?_⟩
  · rw [upd_ne (ne_of_none eb h2)]; exact r.ext b u eb
  · by_cases q : b = a
    · subst q; exact ⟨_, upd_same⟩
    · rw [upd_ne q]; exact r.dom b hb
  · rw [hh]
    rcases getE_set ed with ⟨_, q⟩ | ⟨_, q⟩
    · cases q
    · exact r.sh j d q
  · rw [hh]
    rcases getE_set eu with ⟨rfl, q⟩ | ⟨n, q⟩
    · cases q
      exact ⟨a, ha, h1, h2, h3, h⟩
    · obtain ⟨b, g1, g2, g3, g4, g5⟩ := r.ow j u q
      have nb : b ≠ a := fun z => n (r.inj j i u o b q e g1 (by rw [z]; exact ha))
      refine ⟨b, g1, g2, g3, g4, ?_⟩
      cases u with
      | lst xs => obtain ⟨vs, k1, k2⟩ := g5; exact ⟨vs, by rw [upd_ne nb]; exact k1, k2⟩
      | dic ks xs => obtain ⟨vs, k1, k2⟩ := g5; exact ⟨vs, by rw [upd_ne nb]; exact k1, k2⟩
      | ins k ns xs => obtain ⟨dx, vs, k1, k2⟩ := g5; exact ⟨dx, vs, by rw [upd_ne nb]; exact k1, k2⟩
  · rcases getE_set ej with ⟨rfl, q⟩ | ⟨_, q⟩
    · cases q
      obtain ⟨k', ns', xs', e'⟩ := hm k ns xs rfl
      subst e'
      exact r.me j _ _ _ e
    · exact r.me j k ns xs q
  · rcases getE_set e1 with ⟨z1, q1⟩ | ⟨n1, q1⟩
    · rcases getE_set e2 with ⟨z2, q2⟩ | ⟨n2, q2⟩
      · rw [z1, z2]
      · rw [z1] at e3 ⊢
        exact r.inj i k o u' b e q2 e3 e4
    · rcases getE_set e2 with ⟨z2, q2⟩ | ⟨n2, q2⟩
      · rw [z2] at e4 ⊢
        exact r.inj j i u o b q1 e e3 e4
      · exact r.inj j k u u' b q1 q2 e3 e4
end
end Dl
namespace Dl
open PySem PySem.Spec PyProof.Rows L2

/-! ### results -/
inductive Res (α : Type) where
  | ok (a : α) | ex (e : Nat) (p : List D) | bad
namespace Res
def bind {α β : Type} : Res α → (α → Res β) → Res β
  | .ok a, k => k a
  | .ex e p, _ => .ex e p
  | .bad, _ => .bad
def alt {α : Type} : Res α → Res α → Res α
  | .bad, r => r
  | r, _ => r
def map {α β : Type} (f : α → β) : Res α → Res β
  | .ok a => .ok (f a)
  | .ex e p => .ex e p
  | .bad => .bad
@[simp] theorem bind_ok {α β : Type} (a : α) (k : α → Res β) : (Res.ok a).bind k = k a := rfl
@[simp] theorem bind_ex {α β : Type} (e : Nat) (p : List D) (k : α → Res β) : (Res.ex e p : Res α).bind k = .ex e p := rfl
@[simp] theorem bind_bad {α β : Type} (k : α → Res β) : (Res.bad : Res α).bind k = .bad := rfl
@[simp] theorem alt_bad {α : Type} (r : Res α) : (Res.bad).alt r = r := rfl
@[simp] theorem alt_ok {α : Type} (a : α) (r : Res α) : (Res.ok a).alt r = .ok a := rfl
@[simp] theorem alt_ex {α : Type} (e : Nat) (p : List D) (r : Res α) : (Res.ex e p).alt r = .ex e p := rfl
end Res

/-- what is wished of an error -/
def Rz (K : PySem.W.Frag) (c : Cc) (W : WX) (e : Nat) (p : List D) (σ : L2.St) (H : Hp) : Prop :=
  match p with
  | [] => W (c.cl.xv e) none σ H
  | _ => ∀ dx vs, H dx = some (.xd ((c.cl.xn e).zip vs)) → Reps K c.cl (hide c.O0 H) p vs → W (c.cl.xv e) (some dx) σ H

def Post {α β : Type} (K : PySem.W.Frag) (c : Cc) (W : WX) (σ : L2.St) (H : Hp) (P : Hp → α → β → Prop) (r : Res α) (Q : β → Hp → Prop) : Prop :=
  match r with
  | .ok a => ∀ b H', Ext H H' → P H' a b → Q b H'
  | .ex e p => ∀ H', Ext H H' → Rz K c W e p σ H'
  | .bad => False
section
variable {α β α' β' : Type} {K : PySem.W.Frag} {c : Cc} {W : WX} {σ : L2.St} {H H1 : Hp} {P : Hp → α → β → Prop} {P' : Hp → α' → β' → Prop} {r : Res α'} {k : α' → Res α} {Q : β → Hp → Prop} {Q' : β' → Hp → Prop}
theorem post_mono {r : Res α} (x : Ext H H1) (h : Post K c W σ H P r Q) : Post K c W σ H1 P r Q := by
  cases r with
  | ok a => exact fun b H' e p => h b H' (x.trans e) p
  | ex e p => exact fun H' e => h H' (x.trans e)
  | bad => exact h
theorem post_bind (h : Post K c W σ H P (r.bind k) Q) (step : ∀ a b H1, Ext H H1 → P' H1 a b → Post K c W σ H1 P (k a) Q → Q' b H1) : Post K c W σ H P' r Q' := by
  cases r with
  | ok a => exact fun b H1 e p => step a b H1 e p (post_mono e h)
  | ex e p => exact h
  | bad => exact h
theorem post_ok {a : α} {b : β} (h : Post K c W σ H P (.ok a) Q) (x : Ext H H1) (p : P H1 a b) : Q b H1 := h b H1 x p
theorem post_now {a : α} {b : β} (h : Post K c W σ H P (.ok a) Q) (p : P H a b) : Q b H := h b H Ext.rfl' p
end

/-! ### trees and values -/
def Own.toD : Own → D
  | .lst xs => .lst xs
  | .dic ks xs => .dic ks xs
  | .ins c ns xs => .ins c ns xs
def RepS (K : PySem.W.Frag) (c : Cc) (O : List Addr) (H : Hp) (d : D) (v : V) : Prop := Rep K c.cl (hide O H) d v
def RepsS (K : PySem.W.Frag) (c : Cc) (O : List Addr) (H : Hp) (d : List D) (v : List V) : Prop := Reps K c.cl (hide O H) d v
def RepW (K : PySem.W.Frag) (c : Cc) (O : List Addr) (H : Hp) (d : D) (v : V) : Prop := RepS K c O H d v ∨ ∃ o a, v = .ref a ∧ OwnAt K c.cl (hide O H) H a o ∧ d = o.toD ∧ a ∉ c.O0
def RepB (_ : Hp) (a b : Bool) : Prop := a = b
section
variable {K : PySem.W.Frag} {c : Cc} {O : List Addr} {H H1 : Hp} {d : D} {v : V}
theorem RepS.mono (h : RepS K c O H d v) (x : Ext H H1) : RepS K c O H1 d v := rep_mono (hide_ext x) d v h
theorem RepW.mono (h : RepW K c O H d v) (x : Ext H H1) : RepW K c O H1 d v := by
  rcases h with h | ⟨o, a, h1, h2, h3, hn⟩
  · exact .inl (RepS.mono h x)
  · exact .inr ⟨o, a, h1, h2.mono (hide_ext x) x, h3, hn⟩
theorem RepW.lst {xs : List D} (h : RepW K c O H (.lst xs) v) : ∃ a vs, v = .ref a ∧ H a = some (.lst vs) ∧ Reps K c.cl (hide O H) xs vs := by
  rcases h with h | ⟨o, a, h1, h2, h3, hn⟩
  · unfold RepS Rep at h
    obtain ⟨a, vs, h1, h2, h3⟩ := h
    exact ⟨a, vs, h1, hide_sub _ _ h2, h3⟩
  · cases o with
    | lst ys => cases h3; obtain ⟨vs, h4, h5⟩ := h2; exact ⟨a, vs, h1, h4, h5⟩
    | dic _ _ => cases h3
    | ins _ _ _ => cases h3
theorem RepW.dic {ks : List Key} {xs : List D} (h : RepW K c O H (.dic ks xs) v) : ∃ a vs, v = .ref a ∧ H a = some (.dK (ks.zip vs)) ∧ ks.length = vs.length ∧ Reps K c.cl (hide O H) xs vs := by
  rcases h with h | ⟨o, a, h1, h2, h3, hn⟩
  · unfold RepS Rep at h
    obtain ⟨a, vs, h1, h2, h3⟩ := h
    exact ⟨a, vs, h1, hide_sub _ _ h2, h3⟩
  · cases o with
    | lst _ => cases h3
    | dic _ _ => cases h3; obtain ⟨vs, h4, h5⟩ := h2; exact ⟨a, vs, h1, h4, h5⟩
    | ins _ _ _ => cases h3
theorem RepW.ins {k : Nat} {ns : List Str} {xs : List D} (h : RepW K c O H (.ins k ns xs) v) : ∃ a dx vs, v = .ref a ∧ H a = some (.ins (c.cl.at_ k) dx (ns.zip vs)) ∧ ns.length = vs.length ∧ Reps K c.cl (hide O H) xs vs := by
  rcases h with h | ⟨o, a, h1, h2, h3, hn⟩
  · unfold RepS Rep at h
    obtain ⟨a, dx, vs, h1, h2, h3⟩ := h
    exact ⟨a, dx, vs, h1, hide_sub _ _ h2, h3⟩
  · cases o with
    | lst _ => cases h3
    | dic _ _ => cases h3
    | ins _ _ _ => cases h3; obtain ⟨dx, vs, h4, h5⟩ := h2; exact ⟨a, dx, vs, h1, h4, h5⟩
theorem SqT.sub {K : PySem.W.Frag} {a : Addr} {xs : List V} (h : SqT K (hide O H) a xs) : SqT K H a xs := h.ext hide_sub
theorem RepW.tup {xs : List D} (h : RepW K c O H (.tup xs) v) : ∃ a vs, v = .ref a ∧ SqT K H a vs ∧ Reps K c.cl (hide O H) xs vs := by
  rcases h with h | ⟨o, a, h1, h2, h3, hn⟩
  · unfold RepS Rep at h
    obtain ⟨a, vs, h1, h2, h3⟩ := h
    exact ⟨a, vs, h1, SqT.sub h2, h3⟩
  · cases o <;> cases h3
theorem RepW.int {i : Int} (h : RepW K c O H (.int i) v) : v = .int i := by
  rcases h with h | ⟨o, a, h1, h2, h3, hn⟩
  · unfold RepS Rep at h; exact h
  · cases o <;> cases h3
theorem RepW.bl {i : Bool} (h : RepW K c O H (.bl i) v) : v = .bl i := by
  rcases h with h | ⟨o, a, h1, h2, h3, hn⟩
  · unfold RepS Rep at h; exact h
  · cases o <;> cases h3
theorem RepW.str {i : Str} (h : RepW K c O H (.str i) v) : v = .str i := by
  rcases h with h | ⟨o, a, h1, h2, h3, hn⟩
  · unfold RepS Rep at h; exact h
  · cases o <;> cases h3
theorem RepW.non (h : RepW K c O H .non v) : v = .non := by
  rcases h with h | ⟨o, a, h1, h2, h3, hn⟩
  · unfold RepS Rep at h; exact h
  · cases o <;> cases h3
theorem RepW.scr {ns : List Int} (h : RepW K c O H (.scr ns) v) : ∃ a, v = .ref a ∧ SqL K H a (ns.map V.int) := by
  rcases h with h | ⟨o, a, h1, h2, h3, hn⟩
  · unfold RepS Rep at h
    obtain ⟨a, h1, h2⟩ := h
    exact ⟨a, h1, h2.ext hide_sub⟩
  · cases o <;> cases h3
theorem repS_int {i : Int} : RepS K c O H (.int i) (.int i) := by unfold RepS Rep; rfl
theorem repS_bl {i : Bool} : RepS K c O H (.bl i) (.bl i) := by unfold RepS Rep; rfl
theorem repS_str {i : Str} : RepS K c O H (.str i) (.str i) := by unfold RepS Rep; rfl
theorem repS_non : RepS K c O H .non .non := by unfold RepS Rep; rfl
theorem repS_newL {xs : List D} {vs : List V} {p : Addr} (hp : p ∉ O) (n : H p = none) (r : Reps K c.cl (hide O H) xs vs) : RepS K c O (upd H p (.lst vs)) (.lst xs) (.ref p) :=
  rep_lst (hide_new hp) (reps_mono (hide_ext (Ext.upd n)) _ _ r)
theorem repS_newT {xs : List D} {vs : List V} {p : Addr} (hp : p ∉ O) (n : H p = none) (r : Reps K c.cl (hide O H) xs vs) : RepS K c O (upd H p (.tup vs)) (.tup xs) (.ref p) :=
  rep_tup (Or.inl (Or.inl (hide_new hp))) (reps_mono (hide_ext (Ext.upd n)) _ _ r)
end

/-! ### the judgements -/
def tEP (P : List Addr → Hp → D → V → Prop) (K : PySem.W.Frag) (c : Cc) (W : WX) (f : En → Res D) : TE := fun σ H Q => ∃ env O, Rl K c O env σ H ∧ Post K c W σ H (P O) (f env) Q
abbrev tE (K : PySem.W.Frag) (c : Cc) (W : WX) (f : En → Res D) : TE := tEP (RepS K c) K c W f
abbrev tEW (K : PySem.W.Frag) (c : Cc) (W : WX) (f : En → Res D) : TE := tEP (RepW K c) K c W f
def tA (K : PySem.W.Frag) (c : Cc) (W : WX) (f : En → Res (List D)) : TA := fun σ H Q => ∃ env O, Rl K c O env σ H ∧ Post K c W σ H (RepsS K c O) (f env) Q
def tTt (K : PySem.W.Frag) (c : Cc) (W : WX) (f : En → Res Bool) : TT := fun σ H Q => ∃ env O, Rl K c O env σ H ∧ Post K c W σ H RepB (f env) Q
/-- an expression gives a tree | .. a tree, or what a slot owns | arguments | a test -/
abbrev DE (X : Cx) (c : Cc) (W : WX) (e : Expr) (f : En → Res D) : Prop := PE X e (tE X.K c W f)
abbrev DW (X : Cx) (c : Cc) (W : WX) (e : Expr) (f : En → Res D) : Prop := PE X e (tEW X.K c W f)
abbrev DA (X : Cx) (c : Cc) (W : WX) (es : List Expr) (f : En → Res (List D)) : Prop := PA X es (tA X.K c W f)
abbrev DT (X : Cx) (c : Cc) (W : WX) (e : Expr) (f : En → Res Bool) : Prop := PT X e (tTt X.K c W f)
abbrev DTw (X : Cx) (c : Cc) (W : WX) (e : Expr) (f : En → Res Bool) : Prop := PW X e (tTt X.K c W f)

theorem pe_imp {X : Cx} {e : Expr} {t t' : TE} (h : PE X e t) (k : ∀ σ H Q, t' σ H Q → t σ H Q) : PE X e t' := ⟨fun pins s σ H Q I q => h.run pins s σ H Q I (k σ H Q q)⟩
theorem pt_imp {X : Cx} {e : Expr} {t t' : TT} (h : PT X e t) (k : ∀ σ H Q, t' σ H Q → t σ H Q) : PT X e t' := ⟨fun pins s σ H Q I q => h.run pins s σ H Q I (k σ H Q q)⟩
theorem pw_imp {X : Cx} {e : Expr} {t t' : TT} (h : PW X e t) (k : ∀ σ H Q, t' σ H Q → t σ H Q) : PW X e t' := ⟨fun whole pins s σ H Q I q => h.run whole pins s σ H Q I (k σ H Q q)⟩
theorem pa_imp {X : Cx} {es : List Expr} {t t' : TA} (h : PA X es t) (k : ∀ σ H Q, t' σ H Q → t σ H Q) : PA X es t' := ⟨fun pos pins s σ H Q I q => h.run pos pins s σ H Q I (k σ H Q q)⟩

section
variable {X : Cx} {c : Cc} {W : WX} {a b e t : Expr} {es : List Expr} {fa fb fe : En → Res D} {fs : En → Res (List D)} {ft fu : En → Res Bool} {pos : Pos}
theorem DE.w (h : DE X c W e fe) : DW X c W e fe := pe_imp h fun σ H Q ⟨env, O, R, p⟩ => ⟨env, O, R, by
  cases q : fe env with
  | ok d => rw [q] at p; exact fun v H' x r => p v H' x (.inl r)
  | ex e l => rw [q] at p; exact p
  | bad => rw [q] at p; exact p⟩

def eVar (i : Nat) : En → Res D := fun env => match env[i]? with
  | some (.sh d) => .ok d
  | _ => .bad
def eOwn (i : Nat) : En → Res D := fun env => match env[i]? with
  | some (.sh d) => .ok d
  | some (.ow o) => .ok o.toD
  | _ => .bad
theorem de_var (i : Nat) {x : Str} (hN : X.N[i]? = some x := by rfl) (hv : Vis X.env.scope x := by first | exact Or.inl rfl | exact Or.inr (Or.inl rfl) | exact Or.inr (Or.inr rfl)) (hd : (x == ("__debug__" : Str)) = false := by decide)
    (hcd : (x == ("__classdict__" : Str)) = false := by decide) : DE X c W (.Name x pos) (eVar i) := pe_imp (pe_var hN hv hd hcd) fun σ H Q ⟨env, O, R, p⟩ => by
  unfold eVar at p
  split at p
  · rename_i d h
    obtain ⟨v, h1, h2⟩ := R.sh i d h
    exact ⟨v, h1, post_now p h2⟩
  · exact p.elim
theorem dw_own (i : Nat) {x : Str} (hN : X.N[i]? = some x := by rfl) (hv : Vis X.env.scope x := by first | exact Or.inl rfl | exact Or.inr (Or.inl rfl) | exact Or.inr (Or.inr rfl)) (hd : (x == ("__debug__" : Str)) = false := by decide)
    (hcd : (x == ("__classdict__" : Str)) = false := by decide) : DW X c W (.Name x pos) (eOwn i) := pe_imp (pe_var hN hv hd hcd) fun σ H Q ⟨env, O, R, p⟩ => by
  unfold eOwn at p
  split at p
  · rename_i d h
    obtain ⟨v, h1, h2⟩ := R.sh i d h
    exact ⟨v, h1, post_now p (.inl h2)⟩
  · rename_i o h
    obtain ⟨a, h1, _, _, h4, h5⟩ := R.ow i o h
    exact ⟨_, h1, post_now p (.inr ⟨o, a, rfl, h5, rfl, h4⟩)⟩
  · exact p.elim
def eC (d : D) : En → Res D := fun _ => .ok d
theorem de_c {v : V} {d : D} (h : PE X e (tC v)) (r : ∀ O H, RepS X.K c O H d v) : DE X c W e (eC d) := pe_imp h fun σ H Q ⟨env, O, R, p⟩ => post_now p (r O H)
theorem de_int {i : Int} {j} : DE X c W (.Constant (.int i) j pos) (eC (.int i)) := de_c pe_int fun _ _ => repS_int
theorem de_bl {i : Bool} {j} : DE X c W (.Constant (.bool i) j pos) (eC (.bl i)) := de_c pe_bl fun _ _ => repS_bl
theorem de_str {i : Str} {j} : DE X c W (.Constant (.str i) j pos) (eC (.str i)) := de_c pe_str fun _ _ => repS_str
theorem de_non {j} : DE X c W (.Constant .none j pos) (eC .non) := de_c pe_non fun _ _ => repS_non
/-- a constant of the module -/
theorem de_glob {x : Str} {v : V} {u : Value} {d : D} (hm : X.mg x = some u) (r : RelV v u) (rd : ∀ O H, RepS X.K c O H d v) (hg : Gl X x := by rfl) (hd : (x == ("__debug__" : Str)) = false := by decide) : DE X c W (.Name x pos) (eC d) :=
  de_c (pe_glob hg hm r hd) rd

def aNil : En → Res (List D) := fun _ => .ok []
def aCons (fe : En → Res D) (fs : En → Res (List D)) : En → Res (List D) := fun env => (fe env).bind fun d => (fs env).bind fun ds => .ok (d :: ds)
theorem da_nil : DA X c W [] aNil := pa_imp pa_nil fun σ H Q ⟨env, O, R, p⟩ => post_now p (show Reps _ _ _ _ _ from reps_nil)
theorem da_cons (h : DE X c W e fe) (hs : DA X c W es fs) (hst : starEach (e :: es) X.env = (false, eval e X.env) :: starEach es X.env := by rfl) : DA X c W (e :: es) (aCons fe fs) :=
  pa_imp (pa_cons h hs hst) fun σ H Q ⟨env, O, R, p⟩ => ⟨env, O, R, post_bind p fun d v H1 x1 r1 p1 => ⟨env, O, R.mono x1, post_bind p1 fun ds vs H2 x2 r2 p2 => post_now p2 (reps_cons (rep_mono (hide_ext x2) _ _ r1) r2)⟩⟩
def eTup (fs : En → Res (List D)) : En → Res D := fun env => (fs env).bind fun ds => if ds.length ≤ 100000 then .ok (.tup ds) else .bad
def eLst (fs : En → Res (List D)) : En → Res D := fun env => (fs env).bind fun ds => if ds.length ≤ 100000 then .ok (.lst ds) else .bad
theorem line100 {n : Nat} (h : n ≤ 100000) : n ≤ sizeLine := Nat.le_trans h (by decide)
theorem de_tup {k} (h : DA X c W es fs) : DE X c W (.Tuple es k pos) (eTup fs) := pe_imp (pe_tup h) fun σ H Q ⟨env, O, R, p⟩ => ⟨env, O, R, post_bind p fun ds vs H1 x1 r1 p1 => by
  split at p1
  · rename_i hl
    refine ⟨by rw [← reps_len r1]; exact line100 hl, fun q hq => post_ok p1 (Ext.upd hq) (repS_newT ((R.mono x1).new hq) hq r1)⟩
  · exact p1.elim⟩
theorem de_lst (h : DA X c W es fs) : DE X c W (.List es pos) (eLst fs) := pe_imp (pe_lst h) fun σ H Q ⟨env, O, R, p⟩ => ⟨env, O, R, post_bind p fun ds vs H1 x1 r1 p1 => by
  split at p1
  · rename_i hl
    refine ⟨by rw [← reps_len r1]; exact line100 hl, fun q hq => post_ok p1 (Ext.upd hq) (repS_newL ((R.mono x1).new hq) hq r1)⟩
  · exact p1.elim⟩

/-! ### operators by values -/
/-- an operator of two values, at every state of the body -/
def OpW (X : Cx) (c : Cc) (W : WX) (f : Value → Value → Sem Value) (g : D → D → Res D) : Prop :=
  ∀ (pins : List (Addr × Obj)) (s : Shared) (σ : L2.St) (H : Hp) (O : List Addr) (env : En) (x y : D) (v u : Value) (vx vy : V) (Q : VK), Inv X pins σ H s → Rl X.K c O env σ H → RelV vx v → RelV vy u → RepW X.K c O H x vx → RepW X.K c O H y vy →
    Post X.K c W σ H (RepS X.K c O) (g x y) Q → wpAny (model X.prog X.w) X.A (f v u) (EP X pins σ Q) X.xe s
def gAlt (g g' : D → D → Res D) : D → D → Res D := fun x y => (g x y).alt (g' x y)
/-- .. by a rule of the hand layer -/
theorem opW_of {f : Value → Value → Sem Value} {g : D → D → Res D} {r : R2} (h : OpR X f r)
    (k : ∀ (σ : L2.St) (H : Hp) (O : List Addr) (env : En) (x y : D) (vx vy : V) (Q : VK), Rl X.K c O env σ H → RepW X.K c O H x vx → RepW X.K c O H y vy → Post X.K c W σ H (RepS X.K c O) (g x y) Q → r vx vy H Q) : OpW X c W f g :=
  fun pins s σ H O env x y v u vx vy Q I R rx ry px py p => h pins s σ H vx vy v u Q I rx ry (k σ H O env x y vx vy Q R px py p)
theorem OpW.alt {f : Value → Value → Sem Value} {g g' : D → D → Res D} (h : OpW X c W f g) (h' : OpW X c W f g') : OpW X c W f (gAlt g g') :=
  fun pins s σ H O env x y v u vx vy Q I R rx ry px py p => by
    unfold gAlt at p
    cases q : g x y with
    | ok d => rw [q] at p; exact h pins s σ H O env x y v u vx vy Q I R rx ry px py (by rw [q]; exact p)
    | ex e l => rw [q] at p; exact h pins s σ H O env x y v u vx vy Q I R rx ry px py (by rw [q]; exact p)
    | bad => rw [q] at p; exact h' pins s σ H O env x y v u vx vy Q I R rx ry px py p
def eBin (g : D → D → Res D) (fa fb : En → Res D) : En → Res D := fun env => (fa env).bind fun x => (fb env).bind fun y => g x y
theorem binW {g : D → D → Res D} {f : Value → Value → Sem Value} (ho : OpW X c W f g) (ha : DW X c W a fa) (hb : DW X c W b fb) {pins : List (Addr × Obj)} {s : Shared} {σ : L2.St} {H : Hp} {Q : VK} (I : Inv X pins σ H s) (h : tE X.K c W (eBin g fa fb) σ H Q) :
    wpAny (model X.prog X.w) X.A (eval a X.env) (fun v s₁ => wpAny (model X.prog X.w) X.A (eval b X.env) (fun u s₂ => wpAny (model X.prog X.w) X.A (f v u) (EP X pins σ Q) X.xe s₂) X.xe s₁) X.xe s := by
  obtain ⟨env, O, R, p⟩ := h
  refine bin (R := fun vx vy H2 => ∃ x y, Rl X.K c O env σ H2 ∧ RepW X.K c O H2 x vx ∧ RepW X.K c O H2 y vy ∧ Post X.K c W σ H2 (RepS X.K c O) (g x y) Q) ha hb I ?_ fun v u s2 vx vy H2 I2 rx ry ⟨x, y, R2, px, py, q⟩ => ho pins s2 σ H2 O env x y v u vx vy Q I2 R2 rx ry px py q
  exact ⟨env, O, R, post_bind p fun x vx H1 x1 r1 p1 => ⟨env, O, R.mono x1, post_bind p1 fun y vy H2 x2 r2 p2 => ⟨x, y, (R.mono x1).mono x2, r1.mono x2, r2, p2⟩⟩⟩
theorem de_bin {op : Operator} {g : D → D → Res D} (ho : OpW X c W (binaryOp op) g) (ha : DW X c W a fa) (hb : DW X c W b fb) : DE X c W (.BinOp a op b pos) (eBin g fa fb) :=
  ⟨fun pins s σ H Q I h => wpAny_BinOp (binW ho ha hb I h)⟩
theorem dc_of {op : CmpOp} {g : D → D → Res D} (ho : OpW X c W (compareOp op) g) (ha : DW X c W a fa) (hb : DW X c W b fb) : PC X op a b (tE X.K c W (eBin g fa fb)) :=
  ⟨fun pins s σ H Q I h => binW ho ha hb I h⟩
theorem de_cmp {op : CmpOp} {g : D → D → Res D} (ho : OpW X c W (compareOp op) g) (ha : DW X c W a fa) (hb : DW X c W b fb) (hm : behindInMarks op b = false := by first | exact nobehind _ (by decide) (by decide) | rfl) : DE X c W (.Compare a [op] [b] pos) (eBin g fa fb) :=
  pe_cmp (dc_of ho ha hb) hm

/-! ### tests -/
def bOf (r : Res D) : Res Bool := r.bind fun d => match d with
  | .bl k => .ok k
  | _ => .bad
def eB (fe : En → Res D) : En → Res Bool := fun env => bOf (fe env)
theorem dt_val (h : DE X c W e fe) (he : ∀ whole, isTrue e X.env whole = (do let v ← whole; standAt e.pos; holding [v] (truthy v)) := by intro _; rfl) : DT X c W e (eB fe) := pt_imp (pt_val h he) fun σ H Q ⟨env, O, R, p⟩ =>
  ⟨env, O, R, post_bind p fun d v H1 x1 r1 p1 => by
    cases d with
    | bl k => exact ⟨k, RepW.bl (.inl r1), post_now p1 rfl⟩
    | _ => exact p1.elim⟩
theorem dt_cmp {op : CmpOp} {g : D → D → Res D} (ho : OpW X c W (compareOp op) g) (ha : DW X c W a fa) (hb : DW X c W b fb) (hm : behindInMarks op b = false := by first | exact nobehind _ (by decide) (by decide) | rfl) : DT X c W (.Compare a [op] [b] pos) (eB (eBin g fa fb)) :=
  pt_imp (pt_cmp (dc_of ho ha hb) hm) fun σ H Q ⟨env, O, R, p⟩ => ⟨env, O, R, post_bind p fun d v H1 x1 r1 p1 => by
    cases d with
    | bl k => exact ⟨k, RepW.bl (.inl r1), post_now p1 rfl⟩
    | _ => exact p1.elim⟩
end
end Dl
namespace Dl
open PySem PySem.Spec PyProof.Rows L2
section
variable {X : Cx} {c : Cc} {W : WX} {a b e t : Expr} {es rest : List Expr} {fa fb fe : En → Res D} {fs : En → Res (List D)} {ft fu : En → Res Bool} {pos : Pos}

/-! ### and, or, not, if -/
def eAnd (fa fb : En → Res D) : En → Res D := fun env => (fa env).bind fun d => match d with
  | .bl true => fb env
  | .bl false => .ok (.bl false)
  | _ => .bad
def eOr (fa fb : En → Res D) : En → Res D := fun env => (fa env).bind fun d => match d with
  | .bl false => fb env
  | .bl true => .ok (.bl true)
  | _ => .bad
def eNot (fa : En → Res D) : En → Res D := fun env => (fa env).bind fun d => match d with
  | .bl k => .ok (.bl (!k))
  | _ => .bad
theorem de_one {op} (h : DE X c W a fa) : DE X c W (.BoolOp op [a] pos) fa := pe_one h
theorem de_and (ha : DE X c W a fa) (hb : DE X c W (.BoolOp .And (b :: rest) pos) fb) : DE X c W (.BoolOp .And (a :: b :: rest) pos) (eAnd fa fb) := pe_imp (pe_and ha hb) fun σ H Q ⟨env, O, R, p⟩ =>
  ⟨env, O, R, post_bind p fun d v H1 x1 r1 p1 => by
    cases d with
    | bl k =>
      refine ⟨k, RepW.bl (.inl r1), ?_⟩
      cases k with
      | true => exact iteT ⟨env, O, R.mono x1, p1⟩
      | false => exact iteF (post_now p1 repS_bl)
    | _ => exact p1.elim⟩
theorem de_or (ha : DE X c W a fa) (hb : DE X c W (.BoolOp .Or (b :: rest) pos) fb) : DE X c W (.BoolOp .Or (a :: b :: rest) pos) (eOr fa fb) := pe_imp (pe_or ha hb) fun σ H Q ⟨env, O, R, p⟩ =>
  ⟨env, O, R, post_bind p fun d v H1 x1 r1 p1 => by
    cases d with
    | bl k =>
      refine ⟨k, RepW.bl (.inl r1), ?_⟩
      cases k with
      | false => exact iteF ⟨env, O, R.mono x1, p1⟩
      | true => exact iteT (post_now p1 repS_bl)
    | _ => exact p1.elim⟩
theorem de_not (ha : DE X c W a fa) : DE X c W (.UnaryOp .Not a pos) (eNot fa) := pe_imp (pe_not ha) fun σ H Q ⟨env, O, R, p⟩ =>
  ⟨env, O, R, post_bind p fun d v H1 x1 r1 p1 => by
    cases d with
    | bl k => exact ⟨k, RepW.bl (.inl r1), post_now p1 repS_bl⟩
    | _ => exact p1.elim⟩
def eIf (ft : En → Res Bool) (fa fb : En → Res D) : En → Res D := fun env => (ft env).bind fun k => if k = true then fa env else fb env
theorem de_if (ht : DT X c W t ft) (ha : DE X c W a fa) (hb : DE X c W b fb) : DE X c W (.IfExp t a b pos) (eIf ft fa fb) := pe_imp (pe_ifExp ht ha hb) fun σ H Q ⟨env, O, R, p⟩ =>
  ⟨env, O, R, post_bind p fun k k' H1 x1 r1 p1 => by
    have r1 : k = k' := r1
    subst r1
    cases k with
    | true => exact ⟨env, O, R.mono x1, p1⟩
    | false => exact ⟨env, O, R.mono x1, p1⟩⟩
def bAnd (ft fu : En → Res Bool) : En → Res Bool := fun env => (ft env).bind fun k => if k = true then fu env else .ok false
def bOr (ft fu : En → Res Bool) : En → Res Bool := fun env => (ft env).bind fun k => if k = true then .ok true else fu env
def bNot (ft : En → Res Bool) : En → Res Bool := fun env => (ft env).bind fun k => .ok (!k)
theorem dt_and1 (h : DT X c W a ft) : DTw X c W (.BoolOp .And [a] pos) ft := pw_and1 h
theorem dt_or1 (h : DT X c W a ft) : DTw X c W (.BoolOp .Or [a] pos) ft := pw_or1 h
theorem dt_and (ha : DT X c W a ft) (hb : DTw X c W (.BoolOp .And (b :: rest) pos) fu) : DTw X c W (.BoolOp .And (a :: b :: rest) pos) (bAnd ft fu) := pw_imp (pw_and ha hb) fun σ H Q ⟨env, O, R, p⟩ =>
  ⟨env, O, R, post_bind p fun k k' H1 x1 r1 p1 => by
    have r1 : k = k' := r1
    subst r1
    cases k with
    | true => exact ⟨env, O, R.mono x1, p1⟩
    | false => exact post_now p1 rfl⟩
theorem dt_or (ha : DT X c W a ft) (hb : DTw X c W (.BoolOp .Or (b :: rest) pos) fu) : DTw X c W (.BoolOp .Or (a :: b :: rest) pos) (bOr ft fu) := pw_imp (pw_or ha hb) fun σ H Q ⟨env, O, R, p⟩ =>
  ⟨env, O, R, post_bind p fun k k' H1 x1 r1 p1 => by
    have r1 : k = k' := r1
    subst r1
    cases k with
    | true => exact post_now p1 rfl
    | false => exact ⟨env, O, R.mono x1, p1⟩⟩
theorem dt_pt (h : DTw X c W a ft) : DT X c W a ft := h.pt
theorem dt_not (h : DT X c W a ft) : DT X c W (.UnaryOp .Not a pos) (bNot ft) := pt_imp (pt_not h) fun σ H Q ⟨env, O, R, p⟩ =>
  ⟨env, O, R, post_bind p fun k k' H1 x1 r1 p1 => by
    have r1 : k = k' := r1
    subst r1
    exact post_now p1 rfl⟩

/-! ### truth -/
def truD : D → Res Bool
  | .non => .ok false
  | .bl b => .ok b
  | .int i => .ok (i != 0)
  | .str x => if x.length ≤ 100000 then .ok ((x.length : Int) != 0) else .bad
  | .lst xs => .ok (!xs.isEmpty)
  | .tup xs => .ok (!xs.isEmpty)
  | .scr ns => .ok (!ns.isEmpty)
  | .dic ks _ => .ok (!ks.isEmpty)
  | _ => .bad
theorem tru_noex (d : D) {e : Nat} {l : List D} : truD d ≠ .ex e l := by
  cases d with
  | str x =>
    intro h
    have h' : (if x.length ≤ 100000 then Res.ok ((x.length : Int) != 0) else Res.bad) = Res.ex e l := h
    by_cases q : x.length ≤ 100000
    · rw [if_pos q] at h'; cases h'
    · rw [if_neg q] at h'; cases h'
  | _ => intro h; cases h
theorem isEmpty_len {α β : Type} {xs : List α} {ys : List β} (h : xs.length = ys.length) : xs.isEmpty = ys.isEmpty := by cases xs <;> cases ys <;> first | rfl | simp at h
theorem zip_empty {α β : Type} {xs : List α} {ys : List β} (h : xs.length = ys.length) : (xs.zip ys).isEmpty = xs.isEmpty := by cases xs <;> cases ys <;> first | rfl | simp at h
theorem tru_repW {K : PySem.W.Frag} {O : List Addr} {H : Hp} {d : D} {v : V} {k : Bool} (h : RepW K c O H d v) (e : truD d = .ok k) : TruV K v H k := by
  cases d with
  | non => rw [RepW.non h]; cases e; rfl
  | bl b => rw [RepW.bl h]; cases e; rfl
  | int i => rw [RepW.int h]; cases e; rfl
  | str x =>
    rw [RepW.str h]
    have e' : (if x.length ≤ 100000 then Res.ok ((x.length : Int) != 0) else Res.bad) = Res.ok k := e
    by_cases q : x.length ≤ 100000
    · rw [if_pos q] at e'; cases e'; exact ⟨line100 q, rfl⟩
    · rw [if_neg q] at e'; cases e'
  | lst xs =>
    obtain ⟨a, vs, rfl, h1, h2⟩ := RepW.lst h
    cases e
    exact .inl ⟨vs, Or.inl (Or.inl h1), congrArg not (isEmpty_len (reps_len h2))⟩
  | tup xs =>
    obtain ⟨a, vs, rfl, h1, h2⟩ := RepW.tup h
    cases e
    exact .inr (.inl ⟨vs, h1, congrArg not (isEmpty_len (reps_len h2))⟩)
  | scr ns =>
    obtain ⟨a, rfl, h1⟩ := RepW.scr h
    cases e
    exact .inl ⟨_, h1, congrArg not (isEmpty_len (List.length_map ..).symm)⟩
  | dic ks xs =>
    obtain ⟨a, vs, rfl, h1, h2, h3⟩ := RepW.dic h
    cases e
    exact .inr (.inr ⟨_, h1, congrArg not (zip_empty h2).symm⟩)
  | _ => cases e
def eTru (fe : En → Res D) : En → Res Bool := fun env => (fe env).bind truD
theorem dt_tru (h : DW X c W e fe) (he : ∀ whole, isTrue e X.env whole = (do let v ← whole; standAt e.pos; holding [v] (truthy v)) := by intro _; rfl) : DT X c W e (eTru fe) := pt_imp (pt_truth h he) fun σ H Q ⟨env, O, R, p⟩ =>
  ⟨env, O, R, post_bind p fun d v H1 x1 r1 p1 => by
    cases q : truD d with
    | ok k => rw [q] at p1; exact ⟨k, tru_repW r1 q, post_now p1 rfl⟩
    | ex e l => exact absurd q (tru_noex d)
    | bad => rw [q] at p1; exact p1.elim⟩

/-! ### operators -/
def gI (g : Int → Int → Res D) : D → D → Res D
  | .int i, .int j => g i j
  | _, _ => .bad
theorem opW_I {f : Value → Value → Sem Value} {C : Int → Int → Prop} [∀ i j, Decidable (C i j)] {g : Int → Int → V} {g' : Int → Int → D} (h : OpR X f (rI C g)) (hg : ∀ O H i j, RepS X.K c O H (g' i j) (g i j)) : OpW X c W f (gI fun i j => if C i j then .ok (g' i j) else .bad) :=
  opW_of h fun σ H O env x y vx vy Q R px py p => by
    cases x with
    | int i => cases y with
      | int j =>
        unfold gI at p
        dsimp only at p
        split at p
        · rename_i hc
          exact ⟨i, j, RepW.int px, RepW.int py, hc, post_now p (hg O H i j)⟩
        · exact p.elim
      | _ => exact p.elim
    | _ => exact p.elim
theorem opW_I0 {f : Value → Value → Sem Value} {g : Int → Int → V} {g' : Int → Int → D} (h : OpR X f (rI0 g)) (hg : ∀ O H i j, RepS X.K c O H (g' i j) (g i j)) : OpW X c W f (gI fun i j => .ok (g' i j)) :=
  opW_of h fun σ H O env x y vx vy Q R px py p => by
    cases x with
    | int i => cases y with
      | int j => exact ⟨i, j, RepW.int px, RepW.int py, post_now p (hg O H i j)⟩
      | _ => exact p.elim
    | _ => exact p.elim
def gAddI := gI fun i j => .ok (.int (i + j))
def gSubI := gI fun i j => .ok (.int (i - j))
def gMulI := gI fun i j => if i.natAbs.log2 + j.natAbs.log2 < 1000000 then .ok (.int (i * j)) else .bad
def gDivI := gI fun i j => if 0 < j ∧ j.natAbs.log2 < 9000 then .ok (.int (i / j)) else .bad
def gModI := gI fun i j => if 0 < j then .ok (.int (i % j)) else .bad
def gLtI := gI fun i j => .ok (.bl (decide (i < j)))
def gLeI := gI fun i j => .ok (.bl (decide (i ≤ j)))
def gGtI := gI fun i j => .ok (.bl (decide (j < i)))
def gGeI := gI fun i j => .ok (.bl (decide (j ≤ i)))
theorem ow_addI : OpW X c W (binaryOp .Add) gAddI := opW_I0 op_add fun _ _ _ _ => repS_int
theorem ow_subI : OpW X c W (binaryOp .Sub) gSubI := opW_I0 op_sub fun _ _ _ _ => repS_int
instance {i j : Int} : Decidable (CMulW i j) := inferInstanceAs (Decidable (_ < _))
instance {i j : Int} : Decidable (CDivW i j) := inferInstanceAs (Decidable (_ ∧ _))
theorem ow_mulI : OpW X c W (binaryOp .Mult) gMulI := opW_I (C := CMulW) op_mulW fun _ _ _ _ => repS_int
theorem ow_divI : OpW X c W (binaryOp .FloorDiv) gDivI := opW_I (C := CDivW) op_fdivW fun _ _ _ _ => repS_int
theorem ow_modI : OpW X c W (binaryOp .Mod) gModI := opW_I (C := fun _ j => 0 < j) op_mod fun _ _ _ _ => repS_int
theorem ow_ltI : OpW X c W (compareOp .Lt) gLtI := opW_I0 op_lt fun _ _ _ _ => repS_bl
theorem ow_leI : OpW X c W (compareOp .LtE) gLeI := opW_I0 op_le fun _ _ _ _ => repS_bl
theorem ow_gtI : OpW X c W (compareOp .Gt) gGtI := opW_I0 op_gt fun _ _ _ _ => repS_bl
theorem ow_geI : OpW X c W (compareOp .GtE) gGeI := opW_I0 op_ge fun _ _ _ _ => repS_bl
/-- list + list -/
def gCat : D → D → Res D
  | .lst xs, .lst ys => if xs.length + ys.length ≤ 100000 then .ok (.lst (xs ++ ys)) else .bad
  | _, _ => .bad
theorem ow_cat : OpW X c W (binaryOp .Add) gCat := opW_of op_cat fun σ H O env x y vx vy Q R px py p => by
  cases x with
  | lst xs => cases y with
    | lst ys =>
      obtain ⟨a, vs, rfl, h1, h2⟩ := RepW.lst px
      obtain ⟨b, ws, rfl, h3, h4⟩ := RepW.lst py
      unfold gCat at p
      dsimp only at p
      split at p
      · rename_i hl
        exact ⟨a, b, vs, ws, rfl, rfl, h1, h3, by rw [← reps_len h2, ← reps_len h4]; exact line100 hl, fun q hq => post_ok p (Ext.upd hq) (repS_newL (R.new hq) hq (reps_app h2 h4))⟩
      · exact p.elim
    | _ => exact p.elim
  | _ => exact p.elim
/-- text + text -/
def gCatS : D → D → Res D
  | .str x, .str y => if x.length + y.length ≤ 100000 then .ok (.str (x ++ y)) else .bad
  | _, _ => .bad
theorem ow_catS : OpW X c W (binaryOp .Add) gCatS := opW_of op_add_str fun σ H O env x y vx vy Q R px py p => by
  cases x with
  | str xs => cases y with
    | str ys =>
      unfold gCatS at p
      dsimp only at p
      split at p
      · rename_i hl
        exact ⟨xs, ys, RepW.str px, RepW.str py, line100 hl, post_now p repS_str⟩
      · exact p.elim
    | _ => exact p.elim
  | _ => exact p.elim

/-! ### is None -/
def isNon : D → Bool
  | .non => true
  | _ => false
theorem isNon_W {K : PySem.W.Frag} {O : List Addr} {H : Hp} {d : D} {v : V} (h : RepW K c O H d v) : decide (v = .non) = isNon d := by
  rcases h with h | ⟨o, a, rfl, _, rfl, _⟩
  · cases d <;> unfold RepS Rep at h
    case non => subst h; rfl
    case bl => subst h; rfl
    case int => subst h; rfl
    case str => subst h; rfl
    case tup => obtain ⟨a, vs, rfl, _⟩ := h; rfl
    case lst => obtain ⟨a, vs, rfl, _⟩ := h; rfl
    case dic => obtain ⟨a, vs, rfl, _⟩ := h; rfl
    case ins => obtain ⟨a, dx, vs, rfl, _⟩ := h; rfl
    case scr => obtain ⟨a, rfl, _⟩ := h; rfl
    case cls => subst h; rfl
  · cases o <;> rfl
def gIsN : D → D → Res D
  | x, .non => .ok (.bl (isNon x))
  | _, _ => .bad
def gNotN : D → D → Res D
  | x, .non => .ok (.bl (!isNon x))
  | _, _ => .bad
theorem ow_isN : OpW X c W (compareOp .Is) gIsN := opW_of op_isN fun σ H O env x y vx vy Q R px py p => by
  cases y with
  | non => exact ⟨RepW.non py, by rw [isNon_W px]; exact post_now (a := D.bl (isNon x)) p repS_bl⟩
  | _ => cases x <;> exact p.elim
theorem ow_notN : OpW X c W (compareOp .IsNot) gNotN := opW_of op_notN fun σ H O env x y vx vy Q R px py p => by
  cases y with
  | non => exact ⟨RepW.non py, by rw [isNon_W px]; exact post_now (a := D.bl (!isNon x)) p repS_bl⟩
  | _ => cases x <;> exact p.elim

/-! ### == of plain data -/
mutual
def toPy : D → Option PyData
  | .non => some .none
  | .bl b => some (.bool b)
  | .int i => some (.int i)
  | .str x => some (.str x)
  | .tup xs => (toPys xs).map .tuple
  | .lst xs => (toPys xs).map .list
  | .scr ns => some (.list (ns.map .int))
  | _ => none
def toPys : List D → Option (List PyData)
  | [] => some []
  | x :: xs => (toPy x).bind fun d => (toPys xs).map fun ds => d :: ds
end
theorem dpAll_ints {K : PySem.W.Frag} {H : Hp} : ∀ (ns : List Int), DpAll K H (ns.map V.int) (ns.map PyData.int)
  | [] => .nil
  | n :: ns => .cons (.int n) (dpAll_ints ns)
mutual
theorem dp_rep {K : PySem.W.Frag} {cl : Cl} {H : Hp} : ∀ (d : D) (v : V) (q : PyData), Rep K cl H d v → toPy d = some q → Dp K H v q
  | .non, _, _, h, e => by unfold Rep at h; subst h; unfold toPy at e; cases e; exact .non
  | .bl b, _, _, h, e => by unfold Rep at h; subst h; unfold toPy at e; cases e; exact .bl b
  | .int i, _, _, h, e => by unfold Rep at h; subst h; unfold toPy at e; cases e; exact .int i
  | .str x, _, _, h, e => by unfold Rep at h; subst h; unfold toPy at e; cases e; exact .str x
  | .tup xs, _, _, h, e => by
    unfold Rep at h
    obtain ⟨a, vs, rfl, h2, h3⟩ := h
    unfold toPy at e
    cases q : toPys xs with
    | none => rw [q] at e; cases e
    | some qs => rw [q] at e; cases e; exact .tup h2 (dpAll_rep xs vs qs h3 q)
  | .lst xs, _, _, h, e => by
    unfold Rep at h
    obtain ⟨a, vs, rfl, h2, h3⟩ := h
    unfold toPy at e
    cases q : toPys xs with
    | none => rw [q] at e; cases e
    | some qs => rw [q] at e; cases e; exact .lst (Or.inl (Or.inl h2)) (dpAll_rep xs vs qs h3 q)
  | .scr ns, _, _, h, e => by
    unfold Rep at h
    obtain ⟨a, rfl, h2⟩ := h
    unfold toPy at e
    cases e
    exact .lst h2 (dpAll_ints ns)
  | .dic _ _, _, _, _, e => by unfold toPy at e; cases e
  | .ins _ _ _, _, _, _, e => by unfold toPy at e; cases e
  | .cls _, _, _, _, e => by unfold toPy at e; cases e
theorem dpAll_rep {K : PySem.W.Frag} {cl : Cl} {H : Hp} : ∀ (ds : List D) (vs : List V) (qs : List PyData), Reps K cl H ds vs → toPys ds = some qs → DpAll K H vs qs
  | [], _, _, h, e => by unfold Reps at h; subst h; unfold toPys at e; cases e; exact .nil
  | x :: xs, _, _, h, e => by
    unfold Reps at h
    obtain ⟨v, ws, rfl, h2, h3⟩ := h
    unfold toPys at e
    cases q1 : toPy x with
    | none => rw [q1] at e; cases e
    | some q =>
      rw [q1] at e
      cases q2 : toPys xs with
      | none => rw [q2] at e; cases e
      | some qs => rw [q2] at e; cases e; exact .cons (dp_rep x v q h2 q1) (dpAll_rep xs ws qs h3 q2)
end
theorem dp_W {K : PySem.W.Frag} {O : List Addr} {H : Hp} {d : D} {v : V} {q : PyData} (h : RepW K c O H d v) (e : toPy d = some q) : Dp K H v q := by
  rcases h with h | ⟨o, a, rfl, h2, rfl, _⟩
  · exact dp_rep d v q (rep_mono hide_sub d v h) e
  · cases o with
    | lst xs =>
      obtain ⟨vs, h3, h4⟩ := h2
      exact dp_rep (cl := c.cl) (.lst xs) _ q (rep_lst h3 (reps_mono hide_sub _ _ h4)) e
    | dic _ _ => unfold Own.toD toPy at e; cases e
    | ins _ _ _ => unfold Own.toD toPy at e; cases e
def gEq (neg : Bool) : D → D → Res D := fun x y => match toPy x, toPy y with
  | some d, some e => if SeqAt.shaped d = true ∧ SeqAt.shaped e = true then .ok (.bl (if neg then !PyData.eqv d e else PyData.eqv d e)) else .bad
  | _, _ => .bad
theorem ow_eq (hu : X.A.units + 64 < cLine) : OpW X c W (compareOp .Eq) (gEq false) := opW_of (op_eqD hu) fun σ H O env x y vx vy Q R px py p => by
  unfold gEq at p
  split at p
  · rename_i d e h1 h2
    split at p
    · rename_i hs
      exact ⟨d, e, dp_W px h1, dp_W py h2, hs.1, hs.2, post_now p repS_bl⟩
    · exact p.elim
  · exact p.elim
theorem ow_ne (hu : X.A.units + 64 < cLine) : OpW X c W (compareOp .NotEq) (gEq true) := opW_of (op_neD hu) fun σ H O env x y vx vy Q R px py p => by
  unfold gEq at p
  split at p
  · rename_i d e h1 h2
    split at p
    · rename_i hs
      exact ⟨d, e, dp_W px h1, dp_W py h2, hs.1, hs.2, post_now p repS_bl⟩
    · exact p.elim
  · exact p.elim

/-! ### in, of flat items -/
def flatD : D → Option V
  | .non => some .non
  | .bl b => some (.bl b)
  | .int i => some (.int i)
  | .str x => some (.str x)
  | _ => none
def flatDs : List D → Option (List V)
  | [] => some []
  | x :: xs => (flatD x).bind fun v => (flatDs xs).map fun vs => v :: vs
theorem flat_rep {K : PySem.W.Frag} {cl : Cl} {H : Hp} {d : D} {v w : V} (h : Rep K cl H d v) (e : flatD d = some w) : v = w ∧ flatV w = true := by
  cases d <;> unfold Rep at h <;> unfold flatD at e
  case non => cases e; exact ⟨h, rfl⟩
  case bl => cases e; exact ⟨h, rfl⟩
  case int => cases e; exact ⟨h, rfl⟩
  case str => cases e; exact ⟨h, rfl⟩
  all_goals cases e
theorem flats_rep {K : PySem.W.Frag} {cl : Cl} {H : Hp} : ∀ {ds : List D} {vs ws : List V}, Reps K cl H ds vs → flatDs ds = some ws → vs = ws ∧ ws.all flatV = true
  | [], _, _, h, e => by unfold Reps at h; unfold flatDs at e; cases e; exact ⟨h, rfl⟩
  | x :: xs, _, _, h, e => by
    unfold Reps at h
    obtain ⟨v, us, rfl, h2, h3⟩ := h
    unfold flatDs at e
    cases q1 : flatD x with
    | none => rw [q1] at e; cases e
    | some w =>
      rw [q1] at e
      cases q2 : flatDs xs with
      | none => rw [q2] at e; cases e
      | some ws =>
        rw [q2] at e
        cases e
        obtain ⟨e1, f1⟩ := flat_rep h2 q1
        obtain ⟨e2, f2⟩ := flats_rep h3 q2
        exact ⟨by rw [e1, e2], by rw [List.all_cons, f1, f2]; rfl⟩
theorem flat_W {K : PySem.W.Frag} {O : List Addr} {H : Hp} {d : D} {v w : V} (h : RepW K c O H d v) (e : flatD d = some w) : v = w ∧ flatV w = true := by
  rcases h with h | ⟨o, a, rfl, h2, rfl, _⟩
  · exact flat_rep h e
  · cases o <;> cases e
def gIn (neg : Bool) : D → D → Res D := fun x y => match y with
  | .lst ys => match flatD x, flatDs ys with
    | some v, some vs => .ok (.bl (if neg then !inV v vs else inV v vs))
    | _, _ => .bad
  | .tup ys => match flatD x, flatDs ys with
    | some v, some vs => .ok (.bl (if neg then !inV v vs else inV v vs))
    | _, _ => .bad
  | _ => .bad
theorem in_aux {neg : Bool} {σ : L2.St} {H : Hp} {O : List Addr} {env : En} {x y : D} {vx vy : V} {Q : VK} (px : RepW X.K c O H x vx) (py : RepW X.K c O H y vy) (p : Post X.K c W σ H (RepS X.K c O) (gIn neg x y) Q) : rIn X.K neg vx vy H Q := by
  unfold gIn at p
  split at p
  · split at p
    · rename_i ys v vs h1 h2
      obtain ⟨a, us, rfl, h3, h4⟩ := RepW.lst py
      obtain ⟨rfl, f1⟩ := flat_W px h1
      obtain ⟨rfl, f2⟩ := flats_rep h4 h2
      exact ⟨a, _, rfl, .inl (Or.inl (Or.inl h3)), f1, f2, post_now p repS_bl⟩
    · exact p.elim
  · split at p
    · rename_i ys v vs h1 h2
      obtain ⟨a, us, rfl, h3, h4⟩ := RepW.tup py
      obtain ⟨rfl, f1⟩ := flat_W px h1
      obtain ⟨rfl, f2⟩ := flats_rep h4 h2
      exact ⟨a, _, rfl, .inr h3, f1, f2, post_now p repS_bl⟩
    · exact p.elim
  · exact p.elim
theorem ow_in : OpW X c W (compareOp .In) (gIn false) := opW_of op_in_seq fun σ H O env x y vx vy Q R px py p => in_aux (env := env) px py p
theorem ow_notIn : OpW X c W (compareOp .NotIn) (gIn true) := opW_of op_notIn_seq fun σ H O env x y vx vy Q R px py p => in_aux (env := env) px py p
end
end Dl
namespace Dl
open PySem PySem.Spec PyProof.Rows L2

/-! ### arguments that may be owned -/
def RepsW (K : PySem.W.Frag) (c : Cc) (O : List Addr) (H : Hp) (ds : List D) (vs : List V) : Prop := Paired (RepW K c O H) ds vs
theorem paired_mono {α β : Type} {F G : α → β → Prop} (k : ∀ a b, F a b → G a b) : ∀ {xs : List α} {ys : List β}, Paired F xs ys → Paired G xs ys
  | _, _, .nil => .nil
  | _, _, .cons h t => .cons (k _ _ h) (paired_mono k t)
theorem paired_nil {α β : Type} {F : α → β → Prop} {ys : List β} (h : Paired F [] ys) : ys = [] := by cases h; rfl
theorem paired_cons {α β : Type} {F : α → β → Prop} {x : α} {xs : List α} {ys : List β} (h : Paired F (x :: xs) ys) : ∃ y zs, ys = y :: zs ∧ F x y ∧ Paired F xs zs := by
  cases h with
  | cons a b => exact ⟨_, _, rfl, a, b⟩
theorem paired_one {α β : Type} {F : α → β → Prop} {x : α} {ys : List β} (h : Paired F [x] ys) : ∃ y, ys = [y] ∧ F x y := by
  obtain ⟨y, zs, rfl, h1, h2⟩ := paired_cons h
  rw [paired_nil h2]
  exact ⟨y, rfl, h1⟩
theorem paired_two {α β : Type} {F : α → β → Prop} {x x' : α} {ys : List β} (h : Paired F [x, x'] ys) : ∃ y y', ys = [y, y'] ∧ F x y ∧ F x' y' := by
  obtain ⟨y, zs, rfl, h1, h2⟩ := paired_cons h
  obtain ⟨y', rfl, h3⟩ := paired_one h2
  exact ⟨y, y', rfl, h1, h3⟩
def tAW (K : PySem.W.Frag) (c : Cc) (W : WX) (f : En → Res (List D)) : TA := fun σ H Q => ∃ env O, Rl K c O env σ H ∧ Post K c W σ H (RepsW K c O) (f env) Q
abbrev DAW (X : Cx) (c : Cc) (W : WX) (es : List Expr) (f : En → Res (List D)) : Prop := PA X es (tAW X.K c W f)
section
variable {X : Cx} {c : Cc} {W : WX} {a b e t : Expr} {es rest : List Expr} {fa fb fe : En → Res D} {fs : En → Res (List D)} {ft fu : En → Res Bool} {pos : Pos}
theorem dw_nil : DAW X c W [] aNil := pa_imp pa_nil fun σ H Q ⟨env, O, R, p⟩ => post_now p (show RepsW _ _ _ _ _ _ from .nil)
theorem dw_cons (h : DW X c W e fe) (hs : DAW X c W es fs) (hst : starEach (e :: es) X.env = (false, eval e X.env) :: starEach es X.env := by rfl) : DAW X c W (e :: es) (aCons fe fs) :=
  pa_imp (pa_cons h hs hst) fun σ H Q ⟨env, O, R, p⟩ => ⟨env, O, R, post_bind p fun d v H1 x1 r1 p1 => ⟨env, O, R.mono x1, post_bind p1 fun ds vs H2 x2 r2 p2 => post_now p2 (.cons (r1.mono x2) r2)⟩⟩

/-! ### built-ins by values -/
/-- a call of a value -/
def CaW (X : Cx) (c : Cc) (W : WX) (f : Value) (F : List D → Res D) : Prop :=
  ∀ (pins : List (Addr × Obj)) (s : Shared) (σ : L2.St) (H : Hp) (O : List Addr) (env : En) (ds : List D) (vs : List V) (us : List Value) (Q : VK), Inv X pins σ H s → Rl X.K c O env σ H → Vals vs us → RepsW X.K c O H ds vs →
    Post X.K c W σ H (RepS X.K c O) (F ds) Q → wpAny (model X.prog X.w) X.A (call f us) (EP X pins σ Q) X.xe s
theorem caW_of {f : Value} {F : List D → Res D} {r : List V → Hp → VK → Prop} (h : CallR X f r)
    (k : ∀ (σ : L2.St) (H : Hp) (O : List Addr) (env : En) (ds : List D) (vs : List V) (Q : VK), Rl X.K c O env σ H → RepsW X.K c O H ds vs → Post X.K c W σ H (RepS X.K c O) (F ds) Q → r vs H Q) : CaW X c W f F :=
  fun pins s σ H O env ds vs us Q I R rv pv p => h pins s σ H vs us Q I rv (k σ H O env ds vs Q R pv p)
def fAlt (F F' : List D → Res D) : List D → Res D := fun ds => (F ds).alt (F' ds)
theorem CaW.alt {f : Value} {F F' : List D → Res D} (h : CaW X c W f F) (h' : CaW X c W f F') : CaW X c W f (fAlt F F') :=
  fun pins s σ H O env ds vs us Q I R rv pv p => by
    unfold fAlt at p
    cases q : F ds with
    | ok d => rw [q] at p; exact h pins s σ H O env ds vs us Q I R rv pv (by rw [q]; exact p)
    | ex e l => rw [q] at p; exact h pins s σ H O env ds vs us Q I R rv pv (by rw [q]; exact p)
    | bad => rw [q] at p; exact h' pins s σ H O env ds vs us Q I R rv pv p
def eCall (F : List D → Res D) (fs : En → Res (List D)) : En → Res D := fun env => (fs env).bind F
theorem de_callB {x : Str} {id : String} {p : Pos} {F : List D → Res D} (hc : CaW X c W (.builtin id) F) (ha : DAW X c W (e :: es) fs) (hm : X.mg x = none) (hv : bootBuiltins x = some (.builtin id)) (hg : Gl X x := by rfl) (hn : x ≠ "__name__" := by decide) (hdb : (x == ("__debug__" : Str)) = false := by decide)
    (he : starEach (e :: es) X.env = (false, eval e X.env) :: starEach es X.env := by rfl) (hpl : (backTo pos (starEach es X.env)).any (·.1) = false := by rfl) : DE X c W (.Call (.Name x p) (e :: es) [] pos) (eCall F fs) := by
  refine ⟨fun pins s σ H Q I ⟨env, O, R, h⟩ => ?_⟩
  refine wpAny_Call_Name_kw (ld_blt I hg hm hv ?_ hn hdb)
  refine PyProof.Rows.callWith_builtin1 (thn (ha.run pos pins s σ H (fun vs H1 => ∃ ds, Rl X.K c O env σ H1 ∧ RepsW X.K c O H1 ds vs ∧ Post X.K c W σ H1 (RepS X.K c O) (F ds) Q) I ⟨env, O, R, post_bind h fun ds vs H1 x1 r1 p1 => ⟨ds, R.mono x1, r1, p1⟩⟩) fun us s1 ⟨vs, H1, I1, r1, ds, R1, p1, q1⟩ => hc pins s1 σ H1 O env ds vs us Q I1 R1 r1 p1 q1) he hpl
theorem de_callT {x : Str} {id : String} {p : Pos} {F : List D → Res D} (hc : CaW X c W (.type id) F) (ha : DAW X c W (e :: es) fs) (hm : X.mg x = none) (hv : bootBuiltins x = some (.type id)) (hg : Gl X x := by rfl) (hn : x ≠ "__name__" := by decide) (hdb : (x == ("__debug__" : Str)) = false := by decide)
    (he : starEach (e :: es) X.env = (false, eval e X.env) :: starEach es X.env := by rfl) (hpl : (backTo pos (starEach es X.env)).any (·.1) = false := by rfl) : DE X c W (.Call (.Name x p) (e :: es) [] pos) (eCall F fs) := by
  refine ⟨fun pins s σ H Q I ⟨env, O, R, h⟩ => ?_⟩
  refine wpAny_Call_Name_kw (ld_blt I hg hm hv ?_ hn hdb)
  refine PyProof.Rows.callWith_type1 (thn (ha.run pos pins s σ H (fun vs H1 => ∃ ds, Rl X.K c O env σ H1 ∧ RepsW X.K c O H1 ds vs ∧ Post X.K c W σ H1 (RepS X.K c O) (F ds) Q) I ⟨env, O, R, post_bind h fun ds vs H1 x1 r1 p1 => ⟨ds, R.mono x1, r1, p1⟩⟩) fun us s1 ⟨vs, H1, I1, r1, ds, R1, p1, q1⟩ => hc pins s1 σ H1 O env ds vs us Q I1 R1 r1 p1 q1) he hpl

/-- len -/
def fLen : List D → Res D
  | [.lst xs] => .ok (.int xs.length)
  | [.tup xs] => .ok (.int xs.length)
  | [.scr ns] => .ok (.int ns.length)
  | [.str x] => if x.length ≤ 100000 then .ok (.int x.length) else .bad
  | _ => .bad
theorem ca_len : CaW X c W (.builtin "len") fLen := caW_of call_len fun σ H O env ds vs Q R pv p => by
  cases ds with
  | nil => exact p.elim
  | cons d ds => cases ds with
    | cons _ _ => cases d <;> exact p.elim
    | nil =>
      obtain ⟨v, rfl, r⟩ := paired_one pv
      cases d with
      | lst xs =>
        obtain ⟨a, us, rfl, h1, h2⟩ := RepW.lst r
        exact ⟨_, us.length, rfl, .inl ⟨us, Or.inl (Or.inl h1), rfl⟩, by rw [← reps_len h2]; exact post_now p repS_int⟩
      | tup xs =>
        obtain ⟨a, us, rfl, h1, h2⟩ := RepW.tup r
        exact ⟨_, us.length, rfl, .inr ⟨us, h1, rfl⟩, by rw [← reps_len h2]; exact post_now p repS_int⟩
      | scr ns =>
        obtain ⟨a, rfl, h1⟩ := RepW.scr r
        exact ⟨_, ns.length, rfl, .inl ⟨_, h1, (List.length_map ..).symm⟩, post_now p repS_int⟩
      | str x =>
        have p' : Post X.K c W σ H (RepS X.K c O) (if x.length ≤ 100000 then Res.ok (D.int x.length) else Res.bad) Q := p
        by_cases hl : x.length ≤ 100000
        · rw [if_pos hl] at p'
          exact ⟨_, x.length, rfl, by rw [RepW.str r]; exact ⟨line100 hl, rfl⟩, post_now p' repS_int⟩
        · rw [if_neg hl] at p'; exact p'.elim
      | _ => exact p.elim
/-- int, bool of numbers -/
def fInt : List D → Res D
  | [.int i] => .ok (.int i)
  | [.bl k] => .ok (.int (if k then 1 else 0))
  | _ => .bad
theorem ca_int : CaW X c W (.type "int") fInt := caW_of call_int1 fun σ H O env ds vs Q R pv p => by
  cases ds with
  | nil => exact p.elim
  | cons d ds => cases ds with
    | cons _ _ => cases d <;> exact p.elim
    | nil =>
      obtain ⟨v, rfl, r⟩ := paired_one pv
      cases d with
      | int i => exact .inl ⟨i, by rw [RepW.int r], post_now p repS_int⟩
      | bl k => exact .inr ⟨k, by rw [RepW.bl r], post_now p repS_int⟩
      | _ => exact p.elim
/-- tuple, list -/
def fTup : List D → Res D
  | [.lst xs] => .ok (.tup xs)
  | [.tup xs] => .ok (.tup xs)
  | _ => .bad
theorem ca_tup : CaW X c W (.type "tuple") fTup := caW_of call_tuple_of fun σ H O env ds vs Q R pv p => by
  cases ds with
  | nil => exact p.elim
  | cons d ds => cases ds with
    | cons _ _ => cases d <;> exact p.elim
    | nil =>
      obtain ⟨v, rfl, r⟩ := paired_one pv
      cases d with
      | lst xs =>
        obtain ⟨a, us, rfl, h1, h2⟩ := RepW.lst r
        exact ⟨a, us, rfl, .inl ⟨Or.inl (Or.inl h1), fun l hl => post_ok p (Ext.upd hl) (repS_newT (R.new hl) hl h2)⟩⟩
      | tup xs =>
        have r' : RepS X.K c O H (.tup xs) v := by
          rcases r with r | ⟨o, a, _, _, z, _⟩
          · exact r
          · cases o <;> cases z
        obtain ⟨a, us, rfl, h1, h2⟩ := RepW.tup r
        exact ⟨a, us, rfl, .inr ⟨h1, post_now p r'⟩⟩
      | _ => exact p.elim
def fLst : List D → Res D
  | [.lst xs] => .ok (.lst xs)
  | [.tup xs] => .ok (.lst xs)
  | _ => .bad
theorem ca_lst : CaW X c W (.type "list") fLst := caW_of call_list_of fun σ H O env ds vs Q R pv p => by
  cases ds with
  | nil => exact p.elim
  | cons d ds => cases ds with
    | cons _ _ => cases d <;> exact p.elim
    | nil =>
      obtain ⟨v, rfl, r⟩ := paired_one pv
      cases d with
      | lst xs =>
        obtain ⟨a, us, rfl, h1, h2⟩ := RepW.lst r
        exact ⟨a, us, rfl, .inl (Or.inl (Or.inl h1)), fun l hl => post_ok p (Ext.upd hl) (repS_newL (R.new hl) hl h2)⟩
      | tup xs =>
        obtain ⟨a, us, rfl, h1, h2⟩ := RepW.tup r
        exact ⟨a, us, rfl, .inr h1, fun l hl => post_ok p (Ext.upd hl) (repS_newL (R.new hl) hl h2)⟩
      | _ => exact p.elim
/-- sum, all, any -/
def intsD : List D → Option (List Int)
  | [] => some []
  | .int i :: xs => (intsD xs).map fun ns => i :: ns
  | _ => none
def blsD : List D → Option (List Bool)
  | [] => some []
  | .bl i :: xs => (blsD xs).map fun ns => i :: ns
  | _ => none
theorem ints_rep {K : PySem.W.Frag} {cl : Cl} {H : Hp} : ∀ {ds : List D} {vs : List V} {ns : List Int}, Reps K cl H ds vs → intsD ds = some ns → vs = ns.map V.int
  | [], _, _, h, e => by unfold Reps at h; cases e; exact h
  | .int i :: xs, _, _, h, e => by
    unfold Reps at h
    obtain ⟨v, us, rfl, h2, h3⟩ := h
    unfold intsD at e
    cases q : intsD xs with
    | none => rw [q] at e; cases e
    | some ms =>
      rw [q] at e
      cases e
      unfold Rep at h2
      rw [h2, ints_rep h3 q]
      rfl
  | .non :: _, _, _, _, e | .bl _ :: _, _, _, _, e | .str _ :: _, _, _, _, e | .tup _ :: _, _, _, _, e | .lst _ :: _, _, _, _, e | .dic _ _ :: _, _, _, _, e | .ins _ _ _ :: _, _, _, _, e | .scr _ :: _, _, _, _, e | .cls _ :: _, _, _, _, e => by cases e
theorem bls_rep {K : PySem.W.Frag} {cl : Cl} {H : Hp} : ∀ {ds : List D} {vs : List V} {ns : List Bool}, Reps K cl H ds vs → blsD ds = some ns → vs = ns.map V.bl
  | [], _, _, h, e => by unfold Reps at h; cases e; exact h
  | .bl i :: xs, _, _, h, e => by
    unfold Reps at h
    obtain ⟨v, us, rfl, h2, h3⟩ := h
    unfold blsD at e
    cases q : blsD xs with
    | none => rw [q] at e; cases e
    | some ms =>
      rw [q] at e
      cases e
      unfold Rep at h2
      rw [h2, bls_rep h3 q]
      rfl
  | .non :: _, _, _, _, e | .int _ :: _, _, _, _, e | .str _ :: _, _, _, _, e | .tup _ :: _, _, _, _, e | .lst _ :: _, _, _, _, e | .dic _ _ :: _, _, _, _, e | .ins _ _ _ :: _, _, _, _, e | .scr _ :: _, _, _, _, e | .cls _ :: _, _, _, _, e => by cases e
def fSum : List D → Res D
  | [.lst xs] => match intsD xs with
    | some ns => .ok (.int ns.sum)
    | none => .bad
  | _ => .bad
theorem ca_sum (hc : X.calm = true) : CaW X c W (.builtin "sum") fSum := caW_of (cr_sum hc) fun σ H O env ds vs Q R pv p => by
  unfold fSum at p
  split at p
  · split at p
    · rename_i xs ns h
      obtain ⟨v, rfl, r⟩ := paired_one pv
      obtain ⟨a, us, rfl, h1, h2⟩ := RepW.lst r
      have e := ints_rep h2 h
      subst e
      exact ⟨a, ns, rfl, Or.inl (Or.inl h1), post_now p repS_int⟩
    · exact p.elim
  · exact p.elim
def fAll : List D → Res D
  | [.lst xs] => match blsD xs with
    | some ns => .ok (.bl (ns.all id))
    | none => .bad
  | _ => .bad
theorem ca_all (hc : X.calm = true) : CaW X c W (.builtin "all") fAll := caW_of (cr_all hc) fun σ H O env ds vs Q R pv p => by
  unfold fAll at p
  split at p
  · split at p
    · rename_i xs ns h
      obtain ⟨v, rfl, r⟩ := paired_one pv
      obtain ⟨a, us, rfl, h1, h2⟩ := RepW.lst r
      have e := bls_rep h2 h
      subst e
      exact ⟨a, ns, rfl, Or.inl (Or.inl h1), post_now p repS_bl⟩
    · exact p.elim
  · exact p.elim

/-! ### subscripts -/
def atD (xs : List D) (i : Int) : Res D := match atI xs i with
  | some d => .ok d
  | none => .bad
def gIx : D → D → Res D
  | .lst xs, .int i => atD xs i
  | .tup xs, .int i => atD xs i
  | .scr ns, .int i => match atI ns i with
    | some n => .ok (.int n)
    | none => .bad
  | .str x, .int i => if x.length ≤ 100000 then (match atI x.cps.toList i with
    | some n => .ok (.str ⟨#[n]⟩)
    | none => .bad) else .bad
  | _, _ => .bad
theorem atI_reps {K : PySem.W.Frag} {cl : Cl} {H : Hp} {ds : List D} {vs : List V} {i : Int} {d : D} (r : Reps K cl H ds vs) (h : atI ds i = some d) : ∃ v, atI vs i = some v ∧ Rep K cl H d v := by
  unfold atI at h ⊢
  rw [← reps_len r]
  cases q : ixN ds.length i with
  | none => rw [q] at h; cases h
  | some j =>
    rw [q] at h
    obtain ⟨v, h1, h2⟩ := reps_get r h
    exact ⟨v, h1, h2⟩
theorem atI_map {α β : Type} (f : α → β) (xs : List α) (i : Int) : atI (xs.map f) i = (atI xs i).map f := by
  unfold atI
  rw [List.length_map]
  cases ixN xs.length i with
  | none => rfl
  | some j => simp
theorem de_ix (ha : DW X c W a fa) (hb : DE X c W b fb) (hs : PlainIx b := by exact fun _ _ => rfl) : DE X c W (.Subscript a b pos) (eBin gIx fa fb) :=
  pe_imp (pe_ix (IxR.or ix_list (IxR.or ix_tup ix_str)) ha hb hs) fun σ H Q ⟨env, O, R, p⟩ => ⟨env, O, R, post_bind p fun x vx H1 x1 r1 p1 => ⟨env, O, R.mono x1, post_bind p1 fun y vy H2 x2 r2 p2 => by
    have r1 := r1.mono x2
    cases y with
    | int i =>
      have e2 := RepW.int (.inl r2)
      subst e2
      cases x with
      | lst xs =>
        obtain ⟨q, us, rfl, h1, h2⟩ := RepW.lst r1
        have p2 : Post X.K c W σ H2 (RepS X.K c O) (atD xs i) Q := p2
        unfold atD at p2
        cases h : atI xs i with
        | none => rw [h] at p2; exact p2.elim
        | some d =>
          rw [h] at p2
          obtain ⟨v, h3, h4⟩ := atI_reps h2 h
          exact .inl ⟨q, us, i, v, rfl, rfl, Or.inl (Or.inl h1), h3, post_now p2 h4⟩
      | tup xs =>
        obtain ⟨q, us, rfl, h1, h2⟩ := RepW.tup r1
        have p2 : Post X.K c W σ H2 (RepS X.K c O) (atD xs i) Q := p2
        unfold atD at p2
        cases h : atI xs i with
        | none => rw [h] at p2; exact p2.elim
        | some d =>
          rw [h] at p2
          obtain ⟨v, h3, h4⟩ := atI_reps h2 h
          exact .inr (.inl ⟨q, us, i, v, rfl, rfl, h1, h3, post_now p2 h4⟩)
      | scr ns =>
        obtain ⟨q, rfl, h1⟩ := RepW.scr r1
        have p2 : Post X.K c W σ H2 (RepS X.K c O) (match atI ns i with | some n => Res.ok (D.int n) | none => Res.bad) Q := p2
        cases h : atI ns i with
        | none => rw [h] at p2; exact p2.elim
        | some d =>
          rw [h] at p2
          exact .inl ⟨q, _, i, .int d, rfl, rfl, h1, by rw [atI_map, h]; rfl, post_now p2 repS_int⟩
      | str z =>
        have e1 := RepW.str r1
        subst e1
        have p2 : Post X.K c W σ H2 (RepS X.K c O) (if z.length ≤ 100000 then (match atI z.cps.toList i with | some n => Res.ok (D.str ⟨#[n]⟩) | none => Res.bad) else Res.bad) Q := p2
        by_cases hl : z.length ≤ 100000
        · rw [if_pos hl] at p2
          cases h : atI z.cps.toList i with
          | none => rw [h] at p2; exact p2.elim
          | some n => rw [h] at p2; exact .inr (.inr ⟨z, i, n, rfl, rfl, line100 hl, h, post_now p2 repS_str⟩)
        · rw [if_neg hl] at p2; exact p2.elim
      | _ => exact p2.elim
    | _ => cases x <;> exact p2.elim⟩⟩

/-! ### slices -/
abbrev DO (X : Cx) (c : Cc) (W : WX) (e : Option Expr) (f : En → Res (Option Int)) : Prop := PO X e (fun σ H Q => ∃ env O, Rl X.K c O env σ H ∧ Post X.K c W σ H (fun _ (a b : Option Int) => a = b) (f env) Q)
def oNo : En → Res (Option Int) := fun _ => .ok none
def oSome (fe : En → Res D) : En → Res (Option Int) := fun env => (fe env).bind fun d => match d with
  | .int i => .ok (some i)
  | _ => .bad
theorem do_no : DO X c W none oNo := ⟨fun pins s σ H Q I ⟨env, O, R, p⟩ => po_none.run pins s σ H Q I (post_now p rfl)⟩
theorem do_some (h : DE X c W e fe) : DO X c W (some e) (oSome fe) := ⟨fun pins s σ H Q I ⟨env, O, R, p⟩ => (po_some h).run pins s σ H Q I ⟨env, O, R, post_bind p fun d v H1 x1 r1 p1 => by
  cases d with
  | int i => exact ⟨i, RepW.int (.inl r1), post_now p1 rfl⟩
  | _ => exact p1.elim⟩⟩
def cutD {α : Type} (xs : List α) (lo hi : Option Int) : List α := (xs.drop (HT.sIx xs.length 0 lo)).take (HT.sIx xs.length xs.length hi - HT.sIx xs.length 0 lo)
theorem cut_reps {K : PySem.W.Frag} {cl : Cl} {H : Hp} {ds : List D} {vs : List V} {lo hi : Option Int} (r : Reps K cl H ds vs) : Reps K cl H (cutD ds lo hi) (cutV vs lo hi) := by
  unfold cutD cutV
  rw [← reps_len r]
  exact reps_take _ (reps_drop _ r)
def gSl : D → Option Int → Option Int → Res D
  | .lst xs, lo, hi => .ok (.lst (cutD xs lo hi))
  | .tup xs, lo, hi => .ok (.tup (cutD xs lo hi))
  | .scr ns, lo, hi => .ok (.lst ((cutD ns lo hi).map .int))
  | _, _, _ => .bad
theorem reps_ints {K : PySem.W.Frag} {cl : Cl} {H : Hp} : ∀ ns : List Int, Reps K cl H (ns.map D.int) (ns.map V.int)
  | [] => reps_nil
  | n :: ns => reps_cons (by unfold Rep; rfl) (reps_ints ns)
theorem cut_map {lo hi : Option Int} (ns : List Int) : cutV (ns.map V.int) lo hi = (cutD ns lo hi).map V.int := by
  unfold cutV cutD
  rw [List.length_map, List.map_take, List.map_drop]
theorem cut_whole {α : Type} {xs : List α} {lo hi : Option Int} (h : HT.sIx xs.length 0 lo = 0 ∧ HT.sIx xs.length xs.length hi = xs.length) : cutD xs lo hi = xs := by
  unfold cutD
  rw [h.1, h.2, List.drop_zero, Nat.sub_zero, List.take_length]
def eSl (fe : En → Res D) (fl fh : En → Res (Option Int)) : En → Res D := fun env => (fe env).bind fun x => (fl env).bind fun lo => (fh env).bind fun hi => gSl x lo hi
theorem de_sl {lo hi : Option Expr} {fl fh : En → Res (Option Int)} {p2 : Pos} (he : DW X c W e fe) (hl : DO X c W lo fl) (hh : DO X c W hi fh) : DE X c W (.Subscript e (.Slice lo hi none p2) pos) (eSl fe fl fh) :=
  pe_imp (pe_slice (SlR.or sl_list sl_tupA) he hl hh) fun σ H Q ⟨env, O, R, p⟩ => ⟨env, O, R, post_bind p fun x vx H1 x1 r1 p1 => ⟨env, O, R.mono x1, post_bind p1 fun l l' H2 x2 r2 p2 => ⟨env, O, (R.mono x1).mono x2, post_bind p2 fun h h' H3 x3 r3 p3 => by
    have r1 := (r1.mono x2).mono x3
    have R3 := ((R.mono x1).mono x2).mono x3
    subst r2
    subst r3
    cases x with
    | lst xs =>
      obtain ⟨q, us, rfl, h1, h2⟩ := RepW.lst r1
      exact .inl ⟨q, us, rfl, Or.inl (Or.inl h1), fun z hz => post_ok p3 (Ext.upd hz) (repS_newL (R3.new hz) hz (cut_reps h2))⟩
    | scr ns =>
      obtain ⟨q, rfl, h1⟩ := RepW.scr r1
      exact .inl ⟨q, _, rfl, h1, fun z hz => post_ok p3 (Ext.upd hz) (repS_newL (R3.new hz) hz (by rw [cut_map]; exact reps_ints _))⟩
    | tup xs =>
      have r' : RepS X.K c O H3 (.tup xs) vx := by
        rcases r1 with r | ⟨o, a, _, _, z, _⟩
        · exact r
        · cases o <;> cases z
      obtain ⟨q, us, rfl, h1, h2⟩ := RepW.tup r1
      have hlen := reps_len h2
      refine .inr ⟨q, us, rfl, h1, fun hw => ?_, fun _ z hz => post_ok p3 (Ext.upd hz) (repS_newT (R3.new hz) hz (cut_reps h2))⟩
      rw [← hlen] at hw
      have p3 : Post X.K c W σ H3 (RepS X.K c O) (.ok (.tup (cutD xs l h))) Q := p3
      rw [cut_whole hw] at p3
      exact post_now p3 r'
    | _ => exact p3.elim⟩⟩⟩
def eRev (fe : En → Res D) : En → Res D := fun env => (fe env).bind fun x => match x with
  | .lst xs => .ok (.lst xs.reverse)
  | _ => .bad
theorem de_rev {k : Nat} {p1 p2 p3 : Pos} (he : DW X c W e fe) : DE X c W (.Subscript e (.Slice none none (some (.UnaryOp .USub (.Constant (.int 1) k p1) p2)) p3) pos) (eRev fe) :=
  pe_imp (pe_revL he) fun σ H Q ⟨env, O, R, p⟩ => ⟨env, O, R, post_bind p fun x vx H1 x1 r1 p1 => by
    cases x with
    | lst xs =>
      obtain ⟨q, us, rfl, h1, h2⟩ := RepW.lst r1
      exact ⟨q, us, rfl, Or.inl (Or.inl h1), fun z hz => post_ok p1 (Ext.upd hz) (repS_newL ((R.mono x1).new hz) hz (reps_rev h2))⟩
    | _ => exact p1.elim⟩

/-- tuple + tuple -/
def gCatT : D → D → Res D
  | .tup xs, .tup ys => if xs.length + ys.length ≤ 100000 then .ok (.tup (xs ++ ys)) else .bad
  | _, _ => .bad
theorem RepW.tupS {K : PySem.W.Frag} {O : List Addr} {H : Hp} {xs : List D} {v : V} (r : RepW K c O H (.tup xs) v) : RepS K c O H (.tup xs) v := by
  rcases r with r | ⟨o, a, _, _, z, _⟩
  · exact r
  · cases o <;> cases z
theorem ow_catT : OpW X c W (binaryOp .Add) gCatT := opW_of op_catA fun σ H O env x y vx vy Q R px py p => by
  cases x with
  | tup xs => cases y with
    | tup ys =>
      have sx := RepW.tupS px
      have sy := RepW.tupS py
      obtain ⟨a, vs, rfl, h1, h2⟩ := RepW.tup px
      obtain ⟨b, ws, rfl, h3, h4⟩ := RepW.tup py
      have p : Post X.K c W σ H (RepS X.K c O) (if xs.length + ys.length ≤ 100000 then .ok (.tup (xs ++ ys)) else .bad) Q := p
      by_cases hl : xs.length + ys.length ≤ 100000
      · rw [if_pos hl] at p
        refine ⟨a, b, vs, ws, rfl, rfl, h1, h3, by rw [← reps_len h2, ← reps_len h4]; exact line100 hl, fun z => ?_, fun _ z => ?_, fun _ _ q hq => post_ok p (Ext.upd hq) (repS_newT (R.new hq) hq (reps_app h2 h4))⟩
        · subst z
          have e : xs = [] := List.eq_nil_of_length_eq_zero (by rw [reps_len h2]; rfl)
          subst e
          exact post_now p sy
        · subst z
          have e : ys = [] := List.eq_nil_of_length_eq_zero (by rw [reps_len h4]; rfl)
          subst e
          rw [List.append_nil] at p
          exact post_now p sx
      · rw [if_neg hl] at p; exact p.elim
    | _ => exact p.elim
  | _ => exact p.elim
end
end Dl
namespace Dl
open PySem PySem.Spec PyProof.Rows L2

/-! ### statements -/
inductive Out where
  | nx (env : En) | rt (d : D) | bk (env : En) | ct (env : En) | xx (e : Nat) (p : List D) (env : En) | bad
def PostS (K : PySem.W.Frag) (c : Cc) (W : WX) (O : List Addr) (H : Hp) (D : Ends) (r : Out) : Prop :=
  match r with
  | .nx env => ∀ σ' H' O', Rl K c O' env σ' H' → Ext (hide O H) (hide O' H') → D.nx σ' H'
  | .bk env => ∀ σ' H' O', Rl K c O' env σ' H' → Ext (hide O H) (hide O' H') → D.bk σ' H'
  | .ct env => ∀ σ' H' O', Rl K c O' env σ' H' → Ext (hide O H) (hide O' H') → D.ct σ' H'
  | .rt d => ∀ v H', Ext c.H0 H' → RepS K c c.O0 H' d v → D.rt v H'
  | .xx e p env => ∀ σ' H' O', Rl K c O' env σ' H' → Rz K c W e p σ' H'
  | .bad => False
def tS (K : PySem.W.Frag) (c : Cc) (W : WX) (f : En → Out) : TS := fun D σ H => ∃ env O, Rl K c O env σ H ∧ PostS K c W O H D (f env)
abbrev DS (X : Cx) (c : Cc) (W : WX) (st : Stmt) (f : En → Out) : Prop := PS X st (tS X.K c W f)
abbrev DSs (X : Cx) (c : Cc) (W : WX) (st : List Stmt) (f : En → Out) : Prop := PSs X st (tS X.K c W f)
theorem ps_imp {X : Cx} {st : Stmt} {t t' : TS} (h : PS X st t) (k : ∀ D σ H, t' D σ H → t D σ H) : PS X st t' := ⟨fun pins s σ H D I q => h.run pins s σ H D I (k D σ H q)⟩
theorem pss_imp {X : Cx} {st : List Stmt} {t t' : TS} (h : PSs X st t) (k : ∀ D σ H, t' D σ H → t D σ H) : PSs X st t' := ⟨fun pins s σ H D I q => h.run pins s σ H D I (k D σ H q)⟩
def lift {α : Type} (r : Res α) (env : En) (k : α → Out) : Out :=
  match r with
  | .ok a => k a
  | .ex e p => .xx e p env
  | .bad => .bad
@[simp] theorem lift_ok {α : Type} (a : α) (env : En) (k : α → Out) : lift (.ok a) env k = k a := rfl
@[simp] theorem lift_ex {α : Type} (e : Nat) (p : List D) (env : En) (k : α → Out) : lift (.ex e p : Res α) env k = .xx e p env := rfl
@[simp] theorem lift_bad {α : Type} (env : En) (k : α → Out) : lift (.bad : Res α) env k = .bad := rfl
section
variable {K : PySem.W.Frag} {c : Cc} {W : WX} {O O1 : List Addr} {σ : L2.St} {H H1 : Hp} {D : Ends} {env : En}
theorem postS_mono {r : Out} (x : Ext (hide O H) (hide O1 H1)) (h : PostS K c W O H D r) : PostS K c W O1 H1 D r := by
  cases r with
  | nx env => exact fun σ' H' O' R y => h σ' H' O' R (x.trans y)
  | bk env => exact fun σ' H' O' R y => h σ' H' O' R (x.trans y)
  | ct env => exact fun σ' H' O' R y => h σ' H' O' R (x.trans y)
  | rt d => exact h
  | xx e p env => exact h
  | bad => exact h
/-- an expression, then the rest -/
theorem post_lift {α β : Type} {P : Hp → α → β → Prop} {r : Res α} {k : α → Out} {Q : β → Hp → Prop} (R : Rl K c O env σ H) (h : PostS K c W O H D (lift r env k))
    (step : ∀ a b H1, Ext H H1 → P H1 a b → Rl K c O env σ H1 → PostS K c W O H1 D (k a) → Q b H1) : Post K c W σ H P r Q := by
  cases r with
  | ok a => exact fun b H1 x p => step a b H1 x p (R.mono x) (postS_mono (hide_ext x) h)
  | ex e p => exact fun H' x => h σ H' O (R.mono x)
  | bad => exact h
theorem RepW.ret {d : Dl.D} {v : V} (R : Rl K c O env σ H) (r : RepW K c O H d v) : RepS K c c.O0 H d v := by
  rcases r with r | ⟨o, a, rfl, h2, rfl, hn⟩
  · exact rep_mono (hide_less R.sub) _ _ r
  · cases o with
    | lst xs => obtain ⟨vs, h3, h4⟩ := h2; exact rep_lst (by rw [hide_out hn]; exact h3) (reps_mono (hide_less R.sub) _ _ h4)
    | dic ks xs =>
      obtain ⟨vs, h3, h4, h5⟩ := h2
      unfold RepS Own.toD Rep
      exact ⟨a, vs, rfl, by rw [hide_out hn]; exact h3, h4, reps_mono (hide_less R.sub) _ _ h5⟩
    | ins k ns xs =>
      obtain ⟨dx, vs, h3, h4, h5⟩ := h2
      unfold RepS Own.toD Rep
      exact ⟨a, dx, vs, rfl, by rw [hide_out hn]; exact h3, h4, reps_mono (hide_less R.sub) _ _ h5⟩
theorem Rl.lt (R : Rl K c O env σ H) {i : Nat} {v : Option V} (h : σ[i]? = some v) : i < env.length := by
  rw [R.len]
  exact (List.getElem?_eq_some_iff.mp h).1
end

section
variable {X : Cx} {c : Cc} {W : WX} {a b e t : Expr} {es : List Expr} {st : Stmt} {rest body els : List Stmt} {fa fb fe : En → Res D} {fs : En → Res (List D)} {ft : En → Res Bool} {f g h : En → Out} {pos : Pos}

def sNext : En → Out := fun env => .nx env
def sSeq (f g : En → Out) : En → Out := fun env => match f env with
  | .nx env' => g env'
  | r => r
theorem dss_nil : DSs X c W [] sNext := pss_imp pss_nil fun D σ H ⟨env, O, R, p⟩ => p σ H O R Ext.rfl'
theorem dss_one (h : DS X c W st f) : DSs X c W [st] f := pss_one h
theorem dss_cons (h : DS X c W st f) (hr : DSs X c W rest g) : DSs X c W (st :: rest) (sSeq f g) := pss_imp (pss_cons h hr) fun D σ H ⟨env, O, R, p⟩ => ⟨env, O, R, by
  unfold sSeq at p
  cases q : f env with
  | nx env' => rw [q] at p; exact fun σ' H' O' R' x => ⟨env', O', R', postS_mono x p⟩
  | rt d => rw [q] at p; exact p
  | bk env' => rw [q] at p; exact p
  | ct env' => rw [q] at p; exact p
  | xx e l env' => rw [q] at p; exact p
  | bad => rw [q] at p; exact p⟩
def sExpr (fe : En → Res D) : En → Out := fun env => lift (fe env) env fun _ => .nx env
theorem ds_expr (h : DE X c W e fe) (hs : swapsWith e none pos.line X.env = pure false := by rfl) : DS X c W (.Expr e pos) (sExpr fe) := ps_imp (ps_expr h hs) fun D σ H ⟨env, O, R, p⟩ =>
  ⟨env, O, R, post_lift R p fun d v H1 x1 r1 R1 p1 => p1 σ H1 O R1 Ext.rfl'⟩
def sRet (fe : En → Res D) : En → Out := fun env => lift (fe env) env fun d => .rt d
theorem ds_ret (h : DW X c W e fe) : DS X c W (.Return (some e) pos) (sRet fe) := ps_imp (ps_ret h) fun D σ H ⟨env, O, R, p⟩ =>
  ⟨env, O, R, post_lift R p fun d v H1 x1 r1 R1 p1 => p1 v H1 R1.ext (RepW.ret R1 r1)⟩
def sRetN : En → Out := fun _ => .rt .non
theorem ds_retN : DS X c W (.Return none pos) sRetN := ps_imp ps_retN fun D σ H ⟨env, O, R, p⟩ => p .non H R.ext (by unfold RepS Rep; rfl)
def sIf (ft : En → Res Bool) (f g : En → Out) : En → Out := fun env => lift (ft env) env fun k => if k = true then f env else g env
theorem ds_if (ht : DT X c W t ft) (h1 : DSs X c W body f) (h2 : DSs X c W els g) : DS X c W (.If t body els pos) (sIf ft f g) := ps_imp (ps_if ht h1 h2) fun D σ H ⟨env, O, R, p⟩ =>
  ⟨env, O, R, post_lift R p fun k k' H1 x1 r1 R1 p1 => by
    have r1 : k = k' := r1
    subst r1
    cases k with
    | true => exact iteT ⟨env, O, R1, p1⟩
    | false => exact iteF ⟨env, O, R1, p1⟩⟩
theorem ds_pass : DS X c W (.Pass pos) sNext := ps_imp ps_pass fun D σ H ⟨env, O, R, p⟩ => p σ H O R Ext.rfl'
def sBk : En → Out := fun env => .bk env
def sCt : En → Out := fun env => .ct env
theorem ds_bk : DS X c W (.Break pos) sBk := ps_imp ps_break fun D σ H ⟨env, O, R, p⟩ => p σ H O R Ext.rfl'
theorem ds_ct : DS X c W (.Continue pos) sCt := ps_imp ps_continue fun D σ H ⟨env, O, R, p⟩ => p σ H O R Ext.rfl'

/-! ### targets -/
/-- all slots but these are as they were -/
def SameBut (T : List Nat) (σ σ' : L2.St) : Prop := σ'.length = σ.length ∧ ∀ j : Nat, j ∉ T → σ'[j]? = σ[j]?
theorem SameBut.trans {T T' : List Nat} {σ σ1 σ2 : L2.St} (a : SameBut T σ σ1) (b : SameBut T' σ1 σ2) : SameBut (T ++ T') σ σ2 :=
  ⟨b.1.trans a.1, fun j h => (b.2 j fun z => h (List.mem_append_right _ z)).trans (a.2 j fun z => h (List.mem_append_left _ z))⟩
def PostG (K : PySem.W.Frag) (c : Cc) (T : List Nat) (O : List Addr) (σ : L2.St) (H : Hp) (Q : L2.St → Hp → Prop) (r : Option En) : Prop :=
  match r with
  | some env => ∀ σ' H', Rl K c O env σ' H' → Ext H H' → SameBut T σ σ' → Q σ' H'
  | none => False
def tG (K : PySem.W.Frag) (c : Cc) (T : List Nat) (h : D → En → Option En) : TG := fun v σ H Q => ∃ d env O, Rl K c O env σ H ∧ RepS K c O H d v ∧ PostG K c T O σ H Q (h d env)
def tGs (K : PySem.W.Frag) (c : Cc) (T : List Nat) (h : List D → En → Option En) : TGs := fun vs σ H Q => ∃ ds env O, Rl K c O env σ H ∧ Reps K c.cl (hide O H) ds vs ∧ PostG K c T O σ H Q (h ds env)
abbrev DG (X : Cx) (c : Cc) (T : List Nat) (t : Expr) (h : D → En → Option En) : Prop := PG X t (tG X.K c T h)
abbrev DGs (X : Cx) (c : Cc) (T : List Nat) (ts : List Expr) (h : List D → En → Option En) : Prop := PGs X ts (tGs X.K c T h)
theorem pg_imp {X : Cx} {e : Expr} {t t' : TG} (h : PG X e t) (k : ∀ v σ H Q, t' v σ H Q → t v σ H Q) : PG X e t' := ⟨fun pins s σ H v u Q I r q => h.run pins s σ H v u Q I r (k v σ H Q q)⟩
theorem pgs_imp {X : Cx} {e : List Expr} {t t' : TGs} (h : PGs X e t) (k : ∀ v σ H Q, t' v σ H Q → t v σ H Q) : PGs X e t' := ⟨fun pins s σ H v u Q I r q => h.run pins s σ H v u Q I r (k v σ H Q q)⟩
def gV (i : Nat) : D → En → Option En := fun d env => if i < env.length then some (env.set i (.sh d)) else none
theorem dg_name (i : Nat) {x : Str} (hN : X.N.Nodup) (hi : X.N[i]? = some x := by rfl) (hx : Loc X.env.scope x := by first | exact Or.inl rfl | exact Or.inr rfl) (hf : X.fn x = true ∨ X.env.scope.names.lookup x = some .local := by first | exact .inl rfl | exact .inr rfl) :
    DG X c [i] (.Name x pos) (gV i) := pg_imp (pg_name hN hi hx hf) fun v σ H Q ⟨d, env, O, R, r, p⟩ => by
  unfold gV at p
  by_cases hl : i < env.length
  · rw [if_pos hl] at p
    exact p _ _ (R.set r hl) Ext.rfl' ⟨List.length_set .., fun j hj => List.getElem?_set_ne fun z => hj (by rw [z]; exact List.mem_cons_self)⟩
  · rw [if_neg hl] at p
    exact p.elim
def gsNil : List D → En → Option En := fun ds env => match ds with
  | [] => some env
  | _ => none
def gsCons (h : D → En → Option En) (hs : List D → En → Option En) : List D → En → Option En := fun ds env => match ds with
  | d :: ds => (h d env).bind fun env' => hs ds env'
  | [] => none
theorem dgs_nil : DGs X c [] [] gsNil := pgs_imp pgs_nil fun vs σ H Q ⟨ds, env, O, R, r, p⟩ => by
  unfold gsNil at p
  cases ds with
  | nil =>
    unfold Reps at r
    exact ⟨r, p σ H R Ext.rfl' ⟨rfl, fun _ _ => rfl⟩⟩
  | cons _ _ => exact p.elim
theorem dgs_cons {T T' : List Nat} {h : D → En → Option En} {hs : List D → En → Option En} (h1 : DG X c T e h) (h2 : DGs X c T' es hs)
    (hst : (assignEach (e :: es) X.env).map (·.2) = assign e X.env :: (assignEach es X.env).map (·.2) := by rfl) : DGs X c (T ++ T') (e :: es) (gsCons h hs) := pgs_imp (pgs_cons h1 h2 hst) fun vs σ H Q ⟨ds, env, O, R, r, p⟩ => by
  cases ds with
  | nil => exact p.elim
  | cons d ds =>
    unfold Reps at r
    obtain ⟨v, ws, rfl, r1, r2⟩ := r
    refine ⟨v, ws, rfl, d, env, O, R, r1, ?_⟩
    have p : PostG X.K c (T ++ T') O σ H Q ((h d env).bind fun env' => hs ds env') := p
    cases q : h d env with
    | none => rw [q] at p; exact p.elim
    | some env' =>
      rw [q] at p
      have p : PostG X.K c (T ++ T') O σ H Q (hs ds env') := p
      refine fun σ' H' R' x s => ⟨ds, env', O, R', reps_mono (hide_ext x) _ _ r2, ?_⟩
      cases q2 : hs ds env' with
      | none => rw [q2] at p; exact p.elim
      | some env2 => rw [q2] at p; exact fun σ2 H2 R2 x2 s2 => p σ2 H2 R2 (x.trans x2) (s.trans s2)
def gT (n : Nat) (hs : List D → En → Option En) : D → En → Option En := fun d env => match d with
  | .tup ds => if ds.length = n then hs ds env else none
  | _ => none
theorem dg_tup {T : List Nat} {hs : List D → En → Option En} {k n : Nat} (hc : X.calm = true) (h : DGs X c T es hs) (hn : (assignEach es X.env).length = n := by rfl) (hst : (assignEach es X.env).findIdx? (·.1) = none := by rfl) : DG X c T (.Tuple es k pos) (gT n hs) :=
  pg_imp (pg_tup hc h hn hst) fun v σ H Q ⟨d, env, O, R, r, p⟩ => by
    cases d with
    | tup ds =>
      unfold RepS Rep at r
      obtain ⟨a, vs, rfl, h1, h2⟩ := r
      have p : PostG X.K c T O σ H Q (if ds.length = n then hs ds env else none) := p
      by_cases hl : ds.length = n
      · rw [if_pos hl] at p
        exact ⟨a, vs, rfl, SqT.sub h1, by rw [← reps_len h2]; exact hl, ds, env, O, R, h2, p⟩
      · rw [if_neg hl] at p; exact p.elim
    | _ => exact p.elim
def sAsg (fe : En → Res D) (h : D → En → Option En) : En → Out := fun env => lift (fe env) env fun d => match h d env with
  | some env' => .nx env'
  | none => .bad
theorem ds_asg {T : List Nat} {tg : Expr} {h : D → En → Option En} (he : DE X c W e fe) (hg : DG X c T tg h) (hs : swapsWithSole [tg] e pos.line X.env = pure false := by rfl) (hw : swappedStores [tg] e X.env = pure none := by rfl)
    (h1 : (assignEach [tg] X.env).map (·.2) = [assign tg X.env] := by rfl) : DS X c W (.Assign [tg] e pos) (sAsg fe h) := ps_imp (ps_asg he hg hs hw h1) fun D σ H ⟨env, O, R, p⟩ =>
  ⟨env, O, R, post_lift R p fun d v H1 x1 r1 R1 p1 => ⟨d, env, O, R1, r1, by
    cases q : h d env with
    | some env' => rw [q] at p1; exact fun σ' H' R' x _ => p1 σ' H' O R' (hide_ext x)
    | none => rw [q] at p1; exact p1.elim⟩⟩

/-! ### for -/
def forL (h : D → En → Option En) (body : En → Out) : List D → En → Out
  | [], env => .nx env
  | d :: ds, env => match h d env with
    | none => .bad
    | some env1 => match body env1 with
      | .nx env2 => forL h body ds env2
      | .ct env2 => forL h body ds env2
      | .bk env2 => .nx env2
      | r => r
/-- what is walked, as a list of trees -/
def itD : D → Res (List D)
  | .lst xs => .ok xs
  | .tup xs => .ok xs
  | .scr ns => .ok (ns.map .int)
  | _ => .bad
def sFor (fi : En → Res (List D)) (h : D → En → Option En) (body : En → Out) : En → Out := fun env => lift (fi env) env fun ds => forL h body ds env
def eIt (fe : En → Res D) : En → Res (List D) := fun env => (fe env).bind itD
theorem scr_rep {K : PySem.W.Frag} {cl : Cl} {H : Hp} (ns : List Int) : Reps K cl H (ns.map D.int) (ns.map V.int) := reps_ints ns
/-- the turns of a loop over a list of values that stands -/
theorem for_turns {K : PySem.W.Frag} {T : List Nat} {H : Hp} {O : List Addr} {env : En} {σ : L2.St} {D : Ends} {h : Dl.D → En → Option En} {g : TG} {tb : TS} {ds : List Dl.D} {vs : List V} (R : Rl K c O env σ H) (r : Reps K c.cl (hide O H) ds vs)
    (hg : ∀ v σ H Q, tG K c T h v σ H Q → g v σ H Q) (hb : ∀ D σ H, tS K c W f D σ H → tb D σ H) (p : PostS K c W O H D (forL h f ds env)) :
    ∃ Pv : Nat → L2.St → Hp → Prop, Pv 0 σ H ∧ (∀ i σ' H', i ≤ vs.length → Pv i σ' H' → ∃ O', Ext (hide O H) (hide O' H')) ∧
      (∀ i x σ' H', vs[i]? = some x → Pv i σ' H' → g x σ' H' fun σ2 H2 => tb { D with nx := Pv (i + 1), ct := Pv (i + 1), bk := D.nx } σ2 H2) ∧ ∀ σ' H', Pv vs.length σ' H' → D.nx σ' H' := by
  refine ⟨fun i σ' H' => ∃ env' O', Rl K c O' env' σ' H' ∧ Ext (hide O H) (hide O' H') ∧ PostS K c W O' H' D (forL h f (ds.drop i) env'), ⟨env, O, R, Ext.rfl', p⟩, fun i σ' H' _ ⟨env', O', _, x, _⟩ => ⟨O', x⟩, fun i x σ' H' hi ⟨env', O', R', y, p'⟩ => ?_, fun σ' H' ⟨env', O', R', _, p'⟩ => ?_⟩
  · obtain ⟨d, hd, rd⟩ := reps_get' r hi
    have hlt : i < ds.length := (List.getElem?_eq_some_iff.mp hd).1
    have e : ds.drop i = d :: ds.drop (i + 1) := by
      rw [List.drop_eq_getElem_cons hlt]
      rw [(List.getElem?_eq_some_iff.mp hd).2]
    rw [e] at p'
    unfold forL at p'
    refine hg _ _ _ _ ⟨d, env', O', R', rep_mono y _ _ rd, ?_⟩
    cases q : h d env' with
    | none => rw [q] at p'; exact p'.elim
    | some env1 =>
      rw [q] at p'
      refine fun σ1 H1 R1 x1 _ => hb _ _ _ ⟨env1, O', R1, ?_⟩
      dsimp only at p'
      have x1 := hide_ext (O := O') x1
      cases q2 : f env1 with
      | nx env2 => rw [q2] at p'; exact fun σ2 H2 O2 R2 x2 => ⟨env2, O2, R2, y.trans (x1.trans x2), postS_mono (x1.trans x2) p'⟩
      | ct env2 => rw [q2] at p'; exact fun σ2 H2 O2 R2 x2 => ⟨env2, O2, R2, y.trans (x1.trans x2), postS_mono (x1.trans x2) p'⟩
      | bk env2 => rw [q2] at p'; exact fun σ2 H2 O2 R2 x2 => p' σ2 H2 O2 R2 (x1.trans x2)
      | rt d => rw [q2] at p'; exact p'
      | xx e l env2 => rw [q2] at p'; exact p'
      | bad => rw [q2] at p'; exact p'
  · rw [← reps_len r, List.drop_length] at p'
    exact p' σ' H' O' R' Ext.rfl'
def itT : D → Res (List D)
  | .tup xs => .ok xs
  | _ => .bad
def itL : D → Res (List D)
  | .lst xs => .ok xs
  | .scr ns => .ok (ns.map .int)
  | _ => .bad
def eItT (fe : En → Res D) : En → Res (List D) := fun env => (fe env).bind itT
def eItL (fe : En → Res D) : En → Res (List D) := fun env => (fe env).bind itL
theorem ds_forT {T : List Nat} {tg iter : Expr} {h : D → En → Option En} (hp : PassesOwn (model X.prog X.w) X.A X.env X.xe) (hc : X.calm = true) (hi : DE X c W iter fe) (hg : DG X c T tg h) (hb : DSs X c W body f)
    (hs : ∀ x, foldedSetIterable iter X.env x = pure x := by intro _; rfl) : DS X c W (.For tg iter body [] pos) (sFor (eItT fe) h f) := by
  refine ps_imp (ps_for hp hc (pi_tup hi) hg hb hs) fun D σ H ⟨env, O, R, p⟩ => ⟨env, O, R, ?_⟩
  unfold sFor eItT at p
  cases q : fe env with
  | ex e l => rw [q] at p; exact fun H' x => p σ H' O (R.mono x)
  | bad => rw [q] at p; exact p
  | ok d =>
    rw [q] at p
    intro v H1 x1 r1
    cases d with
    | tup xs =>
      have p : PostS X.K c W O H D (forL h f xs env) := p
      have r1 : Rep X.K c.cl (hide O H1) (.tup xs) v := r1
      unfold Rep at r1
      obtain ⟨a, vs, rfl, h1, h2⟩ := r1
      obtain ⟨Pv, g0, g1, g2, g3⟩ := for_turns (R.mono x1) h2 (fun _ _ _ _ z => z) (fun _ _ _ z => z) (postS_mono (hide_ext x1) p)
      exact ⟨a, rfl, ⟨vs, SqT.sub h1⟩, for_tup (K := X.K) (a := a) (xs := vs) Pv g0 (fun i σ' H' hi hp => let ⟨O', z⟩ := g1 i σ' H' hi hp; SqT.sub (h1.ext z)) g2 g3⟩
    | _ => exact p.elim
theorem ds_forL {T : List Nat} {tg iter : Expr} {h : D → En → Option En} (hp : PassesOwn (model X.prog X.w) X.A X.env X.xe) (hc : X.calm = true) (hi : DE X c W iter fe) (hg : DG X c T tg h) (hb : DSs X c W body f)
    (hs : ∀ x, foldedSetIterable iter X.env x = pure x := by intro _; rfl) : DS X c W (.For tg iter body [] pos) (sFor (eItL fe) h f) := by
  refine ps_imp (ps_for hp hc (pi_list hi) hg hb hs) fun D σ H ⟨env, O, R, p⟩ => ⟨env, O, R, ?_⟩
  unfold sFor eItL at p
  cases q : fe env with
  | ex e l => rw [q] at p; exact fun H' x => p σ H' O (R.mono x)
  | bad => rw [q] at p; exact p
  | ok d =>
    rw [q] at p
    intro v H1 x1 r1
    cases d with
    | lst xs =>
      have p : PostS X.K c W O H D (forL h f xs env) := p
      have r1 : Rep X.K c.cl (hide O H1) (.lst xs) v := r1
      unfold Rep at r1
      obtain ⟨a, vs, rfl, h1, h2⟩ := r1
      obtain ⟨Pv, g0, g1, g2, g3⟩ := for_turns (R.mono x1) h2 (fun _ _ _ _ z => z) (fun _ _ _ z => z) (postS_mono (hide_ext x1) p)
      exact ⟨a, rfl, ⟨vs, Or.inl (Or.inl (hide_sub _ _ h1))⟩, for_list (K := X.K) (a := a) (xs := vs) Pv g0 (fun i σ' H' hi hp => let ⟨O', z⟩ := g1 i σ' H' hi hp; Or.inl (Or.inl (hide_sub _ _ (z _ _ h1)))) g2 g3⟩
    | scr ns =>
      have p : PostS X.K c W O H D (forL h f (ns.map .int) env) := p
      have r1 : Rep X.K c.cl (hide O H1) (.scr ns) v := r1
      unfold Rep at r1
      obtain ⟨a, rfl, h1⟩ := r1
      obtain ⟨Pv, g0, g1, g2, g3⟩ := for_turns (R.mono x1) (scr_rep ns) (fun _ _ _ _ z => z) (fun _ _ _ z => z) (postS_mono (hide_ext x1) p)
      exact ⟨a, rfl, ⟨_, h1.ext hide_sub⟩, for_list (K := X.K) (a := a) (xs := ns.map V.int) Pv g0 (fun i σ' H' hi hp => let ⟨O', z⟩ := g1 i σ' H' hi hp; (h1.ext z).ext hide_sub) g2 g3⟩
    | _ => exact p.elim
end
end Dl
namespace Dl
open PySem PySem.Spec PyProof.Rows L2

/-! ### list comprehensions -/
def noex {α : Type} : Res α → Res α
  | .ok a => .ok a
  | _ => .bad
def W0 : WX := fun _ _ _ _ => False
def wipeE (env : En) : List Nat → En
  | [] => env
  | v :: vs => (wipeE env vs).set v .no
def lcL (h : D → En → Option En) (ft : En → Res Bool) (fe : En → Res D) (env : En) : List D → Res (List D)
  | [] => .ok []
  | d :: ds => match h d env with
    | none => .bad
    | some env1 => (noex (ft env1)).bind fun k => if k = true then (noex (fe env1)).bind fun y => (lcL h ft fe env ds).bind fun ys => .ok (y :: ys) else lcL h ft fe env ds
def eLc (vs : List Nat) (fi : En → Res (List D)) (h : D → En → Option En) (ft : En → Res Bool) (fe : En → Res D) : En → Res D := fun env =>
  (fi env).bind fun ds => (lcL h ft fe (wipeE env vs) ds).bind fun ys => if ys.length ≤ 100000 then .ok (.lst ys) else .bad
def bYes : En → Res Bool := fun _ => .ok true
abbrev DTs (X : Cx) (c : Cc) (W : WX) (es : List Expr) (f : En → Res Bool) : Prop := PTs X es (tTt X.K c W f)
theorem dts_nil {X : Cx} {c : Cc} {W : WX} : DTs X c W [] bYes := ⟨fun pins s σ H Q I ⟨env, O, R, p⟩ => pts_nil.run pins s σ H Q I (post_now p rfl)⟩
theorem dts_one {X : Cx} {c : Cc} {W : WX} {e : Expr} {ft : En → Res Bool} (h : DT X c W e ft) : DTs X c W [e] ft := pts_one h

theorem wipeE_len (env : En) : ∀ vs : List Nat, (wipeE env vs).length = env.length
  | [] => rfl
  | v :: vs => by unfold wipeE; rw [List.length_set, wipeE_len env vs]
theorem wipeE_get {env : En} {i : Nat} {s : Sl} : ∀ {vs : List Nat}, (wipeE env vs)[i]? = some s → s ≠ .no → env[i]? = some s ∧ i ∉ vs
  | [], h, _ => ⟨h, by simp⟩
  | v :: vs, h, n => by
    unfold wipeE at h
    rcases getE_set h with ⟨_, q⟩ | ⟨q, h⟩
    · exact absurd q n
    · obtain ⟨h1, h2⟩ := wipeE_get h n
      exact ⟨h1, by simp only [List.mem_cons, not_or]; exact ⟨q, h2⟩⟩
theorem wipe_get {σ : L2.St} {i : Nat} : ∀ {vs : List Nat}, i ∉ vs → (wipe σ vs)[i]? = σ[i]?
  | [], _ => rfl
  | v :: vs, h => by
    simp only [List.mem_cons, not_or] at h
    unfold wipe
    rw [List.getElem?_set_ne (Ne.symm h.1), wipe_get h.2]
theorem wipe_in {σ : L2.St} {i : Nat} (hi : i < σ.length) : ∀ {vs : List Nat}, i ∈ vs → (wipe σ vs)[i]? = some none
  | [], h => by simp at h
  | v :: vs, h => by
    unfold wipe
    by_cases e : v = i
    · subst e
      exact List.getElem?_set_self (by rw [wipe_length]; exact hi)
    · rw [List.getElem?_set_ne e]
      rcases List.mem_cons.mp h with z | z
      · exact absurd z.symm e
      · exact wipe_in hi z
theorem wipe_same {σ σ2 : L2.St} {T vs : List Nat} (h : SameBut T (wipe σ vs) σ2) (hT : ∀ i ∈ T, i ∈ vs) : wipe σ2 vs = wipe σ vs := by
  have hl : σ2.length = σ.length := h.1.trans (wipe_length σ vs)
  refine List.ext_getElem? fun i => ?_
  by_cases hi : i ∈ vs
  · by_cases hlt : i < σ.length
    · rw [wipe_in hlt hi, wipe_in (by rw [hl]; exact hlt) hi]
    · rw [List.getElem?_eq_none (by rw [wipe_length]; omega), List.getElem?_eq_none (by rw [wipe_length]; omega)]
  · rw [wipe_get hi, h.2 i fun z => hi (hT i z)]
section
variable {K : PySem.W.Frag} {c : Cc} {O : List Addr} {env : En} {σ : L2.St} {H : Hp}
theorem Rl.wipe (r : Rl K c O env σ H) (vs : List Nat) : Rl K c O (wipeE env vs) (L2.wipe σ vs) H :=
  r.weak (by rw [wipeE_len, wipe_length, r.len]) (fun i s h n => (wipeE_get h n).1) fun i s v h n e => by rw [wipe_get (wipeE_get h n).2]; exact e
theorem hide_hide {p : Addr} : hide (p :: O) H = hide O (hide [p] H) := by
  funext b
  unfold hide
  by_cases h1 : b ∈ O
  · simp [h1]
  · by_cases h2 : b = p
    · subst h2; simp
    · simp [h1, h2]
/-- a new object that no slot holds, hidden -/
theorem Rl.over {p : Addr} (r : Rl K c O env σ (hide [p] H)) (hp : ∃ o, H p = some o) : Rl K c (p :: O) env σ H where
  len := r.len
  ext := r.ext.trans hide_sub
  sub := fun a h => List.mem_cons_of_mem _ (r.sub a h)
  dom := fun a h => by
    rcases List.mem_cons.mp h with z | z
    · rw [z]; exact hp
    · obtain ⟨o, e⟩ := r.dom a z
      exact ⟨o, hide_sub _ _ e⟩
  sh := fun i d e => by rw [hide_hide]; exact r.sh i d e
  ow := fun i o e => by
    obtain ⟨a, h1, h2, h3, h4, h5⟩ := r.ow i o e
    exact ⟨a, h1, List.mem_cons_of_mem _ h2, h3, h4, by rw [hide_hide]; exact h5.mono Ext.rfl' hide_sub⟩
  me := r.me
  inj := r.inj
theorem hide_one_upd {p : Addr} {o : HO} : hide [p] (upd H p o) = hide [p] H := hide_upd_in (List.mem_cons_self ..)
theorem hide_new' {p : Addr} {o : HO} (n : H p = none) : hide [p] (upd H p o) = H := by
  funext b
  by_cases e : b = p
  · subst e
    rw [hide_in (List.mem_cons_self ..), n]
  · rw [hide_out (by simpa using e), upd_ne e]
end
/-- the turns of a comprehension -/
theorem lc_turns {K : PySem.W.Frag} {c : Cc} {T vs : List Nat} {H1 : Hp} {O : List Addr} {env : En} {σ : L2.St} {W : WX} {h : D → En → Option En} {ft : En → Res Bool} {fe : En → Res D} {ds : List D} {xs : List V} {Q : VK} {Da : Addr}
    (R : Rl K c O env σ H1) (r : Reps K c.cl (hide O H1) ds xs) (hD : H1 Da = none) (hT : ∀ i ∈ T, i ∈ vs)
    (p : Post K c W σ H1 (RepS K c O) ((lcL h ft fe (wipeE env vs) ds).bind fun ys => if ys.length ≤ 100000 then .ok (.lst ys) else .bad) Q)
    (hx : ∀ e l, lcL h ft fe (wipeE env vs) ds ≠ .ex e l) :
    ∃ Pv : Nat → Hp → Prop, Pv 0 (upd H1 Da (.lst [])) ∧ (∀ i H, i ≤ xs.length → Pv i H → Ext (hide O H1) H) ∧
      (∀ i x H, xs[i]? = some x → Pv i H → tG K c T h x (wipe σ vs) H fun σ2 H2 => wipe σ2 vs = wipe σ vs ∧ tTt K c W0 ft σ2 H2 fun b H3 =>
        if b = true then tE K c W0 fe σ2 H3 fun y H4 => ∃ acc, H4 Da = some (.lst acc) ∧ acc.length < sizeLine ∧ Pv (i + 1) (upd H4 Da (.lst (acc ++ [y]))) else Pv (i + 1) H3) ∧
      ∀ H, Pv xs.length H → Q (.ref Da) H := by
  have hDO : Da ∉ O := R.new hD
  cases q : lcL h ft fe (wipeE env vs) ds with
  | ex e l => exact absurd q (hx e l)
  | bad => rw [q] at p; exact p.elim
  | ok ys =>
    rw [q] at p
    have p : Post K c W σ H1 (RepS K c O) (if ys.length ≤ 100000 then .ok (.lst ys) else .bad) Q := p
    by_cases hl : ys.length ≤ 100000
    · rw [if_pos hl] at p
      refine ⟨fun i H => ∃ acc accD rest, H Da = some (.lst acc) ∧ Reps K c.cl (hide O (hide [Da] H)) accD acc ∧ Rl K c O (wipeE env vs) (wipe σ vs) (hide [Da] H) ∧ Ext (hide O H1) (hide O (hide [Da] H)) ∧ Ext H1 H ∧
        lcL h ft fe (wipeE env vs) (ds.drop i) = .ok rest ∧ accD ++ rest = ys, ⟨[], [], ys, upd_same, reps_nil, ?_, ?_, Ext.upd hD, q, rfl⟩, fun i H _ ⟨_, _, _, _, _, _, x, _⟩ => x.trans (hide_sub.trans hide_sub), ?_, ?_⟩
      · rw [hide_new' hD]; exact R.wipe vs
      · rw [hide_new' hD]; exact Ext.rfl'
      · rintro i x H hi ⟨acc, accD, rest, a1, a2, a3, a4, a5, a6, a7⟩
        obtain ⟨d, hd, rd⟩ := reps_get' r hi
        have hlt : i < ds.length := (List.getElem?_eq_some_iff.mp hd).1
        have e : ds.drop i = d :: ds.drop (i + 1) := by
          rw [List.drop_eq_getElem_cons hlt]
          rw [(List.getElem?_eq_some_iff.mp hd).2]
        rw [e] at a6
        unfold lcL at a6
        cases q1 : h d (wipeE env vs) with
        | none => rw [q1] at a6; cases a6
        | some env1 =>
          rw [q1] at a6
          dsimp only at a6
          refine ⟨d, wipeE env vs, Da :: O, a3.over ⟨_, a1⟩, by show Rep _ _ _ _ _; rw [hide_hide]; exact rep_mono a4 _ _ rd, ?_⟩
          rw [q1]
          intro σ2 H2 R2 x2 s2
          refine ⟨wipe_same s2 hT, env1, Da :: O, R2, ?_⟩
          -- what stands at Da, the slots and the items stay while expressions are evaluated
          have keep : ∀ {H3 : Hp}, Ext H H3 → H3 Da = some (.lst acc) ∧ Reps K c.cl (hide O (hide [Da] H3)) accD acc ∧ Rl K c O (wipeE env vs) (wipe σ vs) (hide [Da] H3) ∧ Ext (hide O H1) (hide O (hide [Da] H3)) ∧ Ext H1 H3 := fun {H3} z =>
            ⟨z _ _ a1, reps_mono (hide_ext (hide_ext z)) _ _ a2, a3.mono (hide_ext z), a4.trans (hide_ext (hide_ext z)), a5.trans z⟩
          cases q2 : ft env1 with
          | ex _ _ => rw [q2] at a6; cases a6
          | bad => rw [q2] at a6; cases a6
          | ok k =>
            rw [q2] at a6
            intro b H3 x3 hb
            have hb : k = b := hb
            subst hb
            cases k with
            | false =>
              refine iteF ?_
              obtain ⟨k1, k2, k3, k4, k5⟩ := keep (x2.trans x3)
              exact ⟨acc, accD, rest, k1, k2, k3, k4, k5, a6, a7⟩
            | true =>
              refine iteT ⟨env1, Da :: O, R2.mono x3, ?_⟩
              have a6 : ((noex (fe env1)).bind fun y => (lcL h ft fe (wipeE env vs) (ds.drop (i + 1))).bind fun ys => .ok (y :: ys)) = .ok rest := a6
              cases q3 : fe env1 with
              | ex _ _ => rw [q3] at a6; cases a6
              | bad => rw [q3] at a6; cases a6
              | ok y =>
                rw [q3] at a6
                have a6 : ((lcL h ft fe (wipeE env vs) (ds.drop (i + 1))).bind fun ys => .ok (y :: ys)) = .ok rest := a6
                cases q4 : lcL h ft fe (wipeE env vs) (ds.drop (i + 1)) with
                | ex _ _ => rw [q4] at a6; cases a6
                | bad => rw [q4] at a6; cases a6
                | ok rest' =>
                  rw [q4] at a6
                  cases a6
                  intro v H4 x4 rv
                  obtain ⟨k1, k2, k3, k4, k5⟩ := keep ((x2.trans x3).trans x4)
                  have rv : Rep K c.cl (hide (Da :: O) H4) y v := rv
                  rw [hide_hide] at rv
                  have hlen : acc.length < sizeLine := by
                    have z := congrArg List.length a7
                    rw [List.length_append, List.length_cons] at z
                    rw [← reps_len a2]
                    exact Nat.lt_of_lt_of_le (show accD.length < 100000 by omega) (by decide)
                  have hE : Ext H1 (upd H4 Da (.lst (acc ++ [v]))) := fun b o eb => by
                    rw [upd_ne (ne_of_none eb hD)]
                    exact k5 b o eb
                  refine ⟨acc, k1, hlen, acc ++ [v], accD ++ [y], rest', upd_same, ?_, ?_, ?_, hE, q4, by rw [List.append_assoc]; exact a7⟩
                  · rw [hide_one_upd]; exact reps_app k2 (reps_cons rv reps_nil)
                  · rw [hide_one_upd]; exact k3
                  · rw [hide_one_upd]; exact k4
      · rintro H ⟨acc, accD, rest, a1, a2, a3, a4, a5, a6, a7⟩
        rw [← reps_len r, List.drop_length] at a6
        cases a6
        rw [List.append_nil] at a7
        subst a7
        exact p _ H a5 (rep_lst (by rw [hide_out hDO]; exact a1) (reps_mono (hide_ext hide_sub) _ _ a2))
    · rw [if_neg hl] at p; exact p.elim
theorem lcL_noex {h : D → En → Option En} {ft : En → Res Bool} {fe : En → Res D} {env : En} : ∀ {ds : List D} {e : Nat} {l : List D}, lcL h ft fe env ds ≠ .ex e l
  | [], _, _ => fun q => by cases q
  | d :: ds, e, l => fun q => by
    unfold lcL at q
    cases q1 : h d env with
    | none => rw [q1] at q; cases q
    | some env1 =>
      rw [q1] at q
      dsimp only at q
      cases q2 : ft env1 with
      | ex _ _ => rw [q2] at q; cases q
      | bad => rw [q2] at q; cases q
      | ok k =>
        rw [q2] at q
        cases k with
        | false => exact lcL_noex (ds := ds) q
        | true =>
          have q : ((noex (fe env1)).bind fun y => (lcL h ft fe env ds).bind fun ys => .ok (y :: ys)) = .ex e l := q
          cases q3 : fe env1 with
          | ex _ _ => rw [q3] at q; cases q
          | bad => rw [q3] at q; cases q
          | ok y =>
            rw [q3] at q
            have q : ((lcL h ft fe env ds).bind fun ys => .ok (y :: ys)) = .ex e l := q
            cases q4 : lcL h ft fe env ds with
            | ex _ _ => exact lcL_noex (ds := ds) q4
            | bad => rw [q4] at q; cases q
            | ok _ => rw [q4] at q; cases q

section
variable {X : Cx} {c : Cc} {W : WX} {e : Expr} {fi : En → Res D} {fe : En → Res D} {ft : En → Res Bool} {h : D → En → Option En}
/-- [elt for tg in iter if ..], iter a list -/
theorem tlc_list {K : PySem.W.Frag} {T vs : List Nat} (hT : ∀ i ∈ T, i ∈ vs) : ∀ σ H Q, tE K c W (eLc vs (eItL fi) h ft fe) σ H Q → tLc (iList K (tE K c W fi)) (tG K c T h) (tTt K c W0 ft) (tE K c W0 fe) vs σ H Q := fun σ H Q ⟨env, O, R, p⟩ => ⟨env, O, R, by
  unfold eLc eItL at p
  cases q : fi env with
  | ex e l => rw [q] at p; exact p
  | bad => rw [q] at p; exact p
  | ok d =>
    rw [q] at p
    intro v H1 x1 r1
    have R1 := R.mono x1
    cases d with
    | lst xs =>
      have p := post_mono x1 (show Post K c W σ H (RepS K c O) ((lcL h ft fe (wipeE env vs) xs).bind fun ys => if ys.length ≤ 100000 then .ok (.lst ys) else .bad) Q from p)
      unfold RepS Rep at r1
      obtain ⟨a, us, rfl, h1, h2⟩ := r1
      refine ⟨a, rfl, ⟨us, Or.inl (Or.inl (hide_sub _ _ h1))⟩, fun Da hD => ?_⟩
      obtain ⟨Pv, g0, g1, g2, g3⟩ := lc_turns R1 h2 hD hT p fun _ _ => lcL_noex
      exact lc_list (K := K) (a := a) (xs := us) Pv g0 (fun i H' hi hp => Or.inl (Or.inl (g1 i H' hi hp _ _ h1))) g2 g3
    | scr ns =>
      have p := post_mono x1 (show Post K c W σ H (RepS K c O) ((lcL h ft fe (wipeE env vs) (ns.map .int)).bind fun ys => if ys.length ≤ 100000 then .ok (.lst ys) else .bad) Q from p)
      unfold RepS Rep at r1
      obtain ⟨a, rfl, h1⟩ := r1
      refine ⟨a, rfl, ⟨_, h1.ext hide_sub⟩, fun Da hD => ?_⟩
      obtain ⟨Pv, g0, g1, g2, g3⟩ := lc_turns R1 (scr_rep ns) hD hT p fun _ _ => lcL_noex
      exact lc_list (K := K) (a := a) (xs := ns.map V.int) Pv g0 (fun i H' hi hp => h1.ext (g1 i H' hi hp)) g2 g3
    | _ => exact p.elim⟩
theorem tlc_tup {K : PySem.W.Frag} {T vs : List Nat} (hT : ∀ i ∈ T, i ∈ vs) : ∀ σ H Q, tE K c W (eLc vs (eItT fi) h ft fe) σ H Q → tLc (iTup K (tE K c W fi)) (tG K c T h) (tTt K c W0 ft) (tE K c W0 fe) vs σ H Q := fun σ H Q ⟨env, O, R, p⟩ => ⟨env, O, R, by
  unfold eLc eItT at p
  cases q : fi env with
  | ex e l => rw [q] at p; exact p
  | bad => rw [q] at p; exact p
  | ok d =>
    rw [q] at p
    intro v H1 x1 r1
    have R1 := R.mono x1
    cases d with
    | tup xs =>
      have p := post_mono x1 (show Post K c W σ H (RepS K c O) ((lcL h ft fe (wipeE env vs) xs).bind fun ys => if ys.length ≤ 100000 then .ok (.lst ys) else .bad) Q from p)
      unfold RepS Rep at r1
      obtain ⟨a, us, rfl, h1, h2⟩ := r1
      refine ⟨a, rfl, ⟨us, SqT.sub h1⟩, fun Da hD => ?_⟩
      obtain ⟨Pv, g0, g1, g2, g3⟩ := lc_turns R1 h2 hD hT p fun _ _ => lcL_noex
      exact lc_tup (K := K) (a := a) (xs := us) Pv g0 (fun i H' hi hp => h1.ext (g1 i H' hi hp)) g2 g3
    | _ => exact p.elim⟩
def rgD (lo : Int) (n : Nat) : List D := (List.range n).map fun k : Nat => .int (lo + (k : Int))
def rgV' (lo : Int) (n : Nat) : List V := (List.range n).map fun k : Nat => .int (lo + (k : Int))
def itR1 : List D → Res (List D)
  | [.int j] => if -(2 ^ 62) ≤ j ∧ j < 2 ^ 62 then .ok (rgD 0 j.toNat) else .bad
  | _ => .bad
def itR2 : List D → Res (List D)
  | [.int i, .int j] => if -(2 ^ 62) ≤ i ∧ i < 2 ^ 62 ∧ -(2 ^ 62) ≤ j ∧ j < 2 ^ 62 then .ok (rgD i (j - i).toNat) else .bad
  | _ => .bad
theorem itR1_ok {ds : List D} {r : Res (List D)} (h : itR1 ds = r) : r = .bad ∨ ∃ j, ds = [.int j] ∧ -(2 ^ 62) ≤ j ∧ j < 2 ^ 62 ∧ r = .ok (rgD 0 j.toNat) := by
  subst h
  unfold itR1
  split
  · rename_i j
    by_cases hj : -(2 ^ 62) ≤ j ∧ j < 2 ^ 62
    · rw [if_pos hj]; exact .inr ⟨j, rfl, hj.1, hj.2, rfl⟩
    · rw [if_neg hj]; exact .inl rfl
  · exact .inl rfl
theorem itR2_ok {ds : List D} {r : Res (List D)} (h : itR2 ds = r) : r = .bad ∨ ∃ i j, ds = [.int i, .int j] ∧ (-(2 ^ 62) ≤ i ∧ i < 2 ^ 62 ∧ -(2 ^ 62) ≤ j ∧ j < 2 ^ 62) ∧ r = .ok (rgD i (j - i).toNat) := by
  subst h
  unfold itR2
  split
  · rename_i i j
    by_cases hj : -(2 ^ 62) ≤ i ∧ i < 2 ^ 62 ∧ -(2 ^ 62) ≤ j ∧ j < 2 ^ 62
    · rw [if_pos hj]; exact .inr ⟨i, j, rfl, hj, rfl⟩
    · rw [if_neg hj]; exact .inl rfl
  · exact .inl rfl
def eR1 (fs : En → Res (List D)) : En → Res (List D) := fun env => (fs env).bind itR1
def eR2 (fs : En → Res (List D)) : En → Res (List D) := fun env => (fs env).bind itR2
theorem rg_reps {K : PySem.W.Frag} {cl : Cl} {H : Hp} {lo : Int} {n : Nat} : Reps K cl H (rgD lo n) (rgV' lo n) := by
  unfold rgD rgV'
  refine reps_of_get (by rw [List.length_map, List.length_map]) fun i d v h1 h2 => ?_
  rw [List.getElem?_map] at h1 h2
  cases q : (List.range n)[i]? with
  | none => rw [q] at h1; cases h1
  | some k => rw [q] at h1 h2; cases h1; cases h2; unfold Rep; rfl
theorem rg_get {lo : Int} {n i : Nat} (h : i < n) : (rgV' lo n)[i]? = some (.int (lo + i)) := by
  unfold rgV'
  rw [List.getElem?_map, List.getElem?_range h]
  rfl
theorem rg_len {lo : Int} {n : Nat} : (rgV' lo n).length = n := by unfold rgV'; rw [List.length_map, List.length_range]
theorem reps_int1 {K : PySem.W.Frag} {cl : Cl} {H : Hp} {j : Int} {us : List V} (r : Reps K cl H [.int j] us) : us = [.int j] := by
  unfold Reps at r
  obtain ⟨v, ws, rfl, h1, h2⟩ := r
  unfold Reps at h2
  subst h2
  unfold Rep at h1
  subst h1
  rfl
theorem reps_int2 {K : PySem.W.Frag} {cl : Cl} {H : Hp} {i j : Int} {us : List V} (r : Reps K cl H [.int i, .int j] us) : us = [.int i, .int j] := by
  unfold Reps at r
  obtain ⟨v, ws, rfl, h1, h2⟩ := r
  rw [reps_int1 h2]
  unfold Rep at h1
  subst h1
  rfl
theorem tlc_r1 {K : PySem.W.Frag} {T vs : List Nat} {fs : En → Res (List D)} (hT : ∀ i ∈ T, i ∈ vs) : ∀ σ H Q, tE K c W (eLc vs (eR1 fs) h ft fe) σ H Q → tLc (iRng1 (tA K c W fs)) (tG K c T h) (tTt K c W0 ft) (tE K c W0 fe) vs σ H Q := fun σ H Q ⟨env, O, R, p⟩ => ⟨env, O, R, by
  unfold eLc eR1 at p
  cases q : fs env with
  | ex e l => rw [q] at p; exact p
  | bad => rw [q] at p; exact p
  | ok ds =>
    rw [q] at p
    have p : Post K c W σ H (RepS K c O) ((itR1 ds).bind fun ds => (lcL h ft fe (wipeE env vs) ds).bind fun ys => if ys.length ≤ 100000 then .ok (.lst ys) else .bad) Q := p
    intro us H1 x1 r1
    have R1 := R.mono x1
    rcases itR1_ok (ds := ds) rfl with z | ⟨j, rfl, h1, h2, z⟩
    · rw [z] at p; exact p.elim
    · rw [z] at p
      have p := post_mono x1 (show Post K c W σ H (RepS K c O) ((lcL h ft fe (wipeE env vs) (rgD 0 j.toNat)).bind fun ys => if ys.length ≤ 100000 then .ok (.lst ys) else .bad) Q from p)
      refine ⟨j, reps_int1 r1, h1, h2, fun Da hD => ?_⟩
      obtain ⟨Pv, g0, g1, g2, g3⟩ := lc_turns R1 (rg_reps (lo := 0) (n := j.toNat)) hD hT p fun _ _ => lcL_noex
      exact lc_range (lo := 0) (n := j.toNat) Pv g0 (fun i H' hi hp => g2 i _ H' (rg_get hi) hp) (fun H' hp => g3 H' (by rw [rg_len]; exact hp))⟩
theorem tlc_r2 {K : PySem.W.Frag} {T vs : List Nat} {fs : En → Res (List D)} (hT : ∀ i ∈ T, i ∈ vs) : ∀ σ H Q, tE K c W (eLc vs (eR2 fs) h ft fe) σ H Q → tLc (iRng2 (tA K c W fs)) (tG K c T h) (tTt K c W0 ft) (tE K c W0 fe) vs σ H Q := fun σ H Q ⟨env, O, R, p⟩ => ⟨env, O, R, by
  unfold eLc eR2 at p
  cases q : fs env with
  | ex e l => rw [q] at p; exact p
  | bad => rw [q] at p; exact p
  | ok ds =>
    rw [q] at p
    have p : Post K c W σ H (RepS K c O) ((itR2 ds).bind fun ds => (lcL h ft fe (wipeE env vs) ds).bind fun ys => if ys.length ≤ 100000 then .ok (.lst ys) else .bad) Q := p
    intro us H1 x1 r1
    have R1 := R.mono x1
    rcases itR2_ok (ds := ds) rfl with z | ⟨i, j, rfl, h1, z⟩
    · rw [z] at p; exact p.elim
    · rw [z] at p
      have p := post_mono x1 (show Post K c W σ H (RepS K c O) ((lcL h ft fe (wipeE env vs) (rgD i (j - i).toNat)).bind fun ys => if ys.length ≤ 100000 then .ok (.lst ys) else .bad) Q from p)
      refine ⟨i, j, reps_int2 r1, h1, fun Da hD => ?_⟩
      obtain ⟨Pv, g0, g1, g2, g3⟩ := lc_turns R1 (rg_reps (lo := i) (n := (j - i).toNat)) hD hT p fun _ _ => lcL_noex
      exact lc_range (lo := i) (n := (j - i).toNat) Pv g0 (fun k H' hi hp => g2 k _ H' (rg_get hi) hp) (fun H' hp => g3 H' (by rw [rg_len]; exact hp))⟩
/-- the whole: for a comprehension as a value -/
theorem de_lc {own : List (Str × Nat)} {elt tg iter : Expr} {ifs : List Expr} {scope : Scope} {pos : Pos} {wi : TI} {T : List Nat} {f : En → Res D} (hw : ∀ σ H Q, tE X.K c W f σ H Q → tLc wi (tG X.K c T h) (tTt X.K c W0 ft) (tE X.K c W0 fe) (own.map (·.2)) σ H Q)
    (hc : X.calm = true) (hN : X.N.Nodup) (hi : PI X tg iter wi) (ok : BlkOk X.N X.env.scope scope own)
    (hg : ∀ (s : Shared) (H : Hp) (C : Addr) (cl : List (Str × Addr)) (fp : List Addr), DG (X.blk s H scope (compEnvC scope cl C X.env) fp) c T tg h) (ht : ∀ (s : Shared) (H : Hp) (C : Addr) (cl : List (Str × Addr)) (fp : List Addr), DTs (X.blk s H scope (compEnvC scope cl C X.env) fp) c W0 ifs ft)
    (he : ∀ (s : Shared) (H : Hp) (C : Addr) (cl : List (Str × Addr)) (fp : List Addr), DE (X.blk s H scope (compEnvC scope cl C X.env) fp) c W0 elt fe) (hs : ∀ x, foldedSetIterable iter X.env x = pure x := by intro _; rfl) :
    DE X c W (.ListComp elt [⟨tg, iter, ifs, 0⟩] scope pos) f := pe_imp (pe_lc hc hN hi ok hg ht he hs) hw
end
end Dl
namespace Dl
open PySem PySem.Spec PyProof.Rows L2

section
variable {X : Cx} {c : Cc} {W : WX} {a b e t : Expr} {es : List Expr} {st : Stmt} {rest body els : List Stmt} {fa fb fe : En → Res D} {fs : En → Res (List D)} {ft : En → Res Bool} {f g h : En → Out} {pos : Pos}

/-! ### for over range, enumerate -/
theorem ds_forR1 {T : List Nat} {tg : Expr} {h : D → En → Option En} {p pos' : Pos} (hp : PassesOwn (model X.prog X.w) X.A X.env X.xe) (hc : X.calm = true) (hm : X.mg "range" = none) (ha : DA X c W [a] fs) (hg : DG X c T tg h) (hb : DSs X c W body f) (hgl : Gl X "range" := by rfl)
    (hst : starEach [a] X.env = [(false, eval a X.env)] := by rfl) (hs : ∀ x, foldedSetIterable (.Call (.Name "range" p) [a] [] pos') X.env x = pure x := by intro _; rfl) : DS X c W (.For tg (.Call (.Name "range" p) [a] [] pos') body [] pos) (sFor (eR1 fs) h f) := by
  refine ps_imp (ps_for hp hc (pi_range1 hgl hm ha hst) hg hb hs) fun D σ H ⟨env, O, R, p⟩ => ⟨env, O, R, ?_⟩
  unfold sFor eR1 at p
  cases q : fs env with
  | ex e l => rw [q] at p; exact fun H' x => p σ H' O (R.mono x)
  | bad => rw [q] at p; exact p
  | ok ds =>
    rw [q] at p
    have p : PostS X.K c W O H D (lift (itR1 ds) env fun ds => forL h f ds env) := p
    intro us H1 x1 r1
    rcases itR1_ok (ds := ds) rfl with z | ⟨j, rfl, h1, h2, z⟩
    · rw [z] at p; exact p.elim
    · rw [z] at p
      have p : PostS X.K c W O H D (forL h f (rgD 0 j.toNat) env) := p
      obtain ⟨Pv, g0, g1, g2, g3⟩ := for_turns (R.mono x1) (rg_reps (lo := 0) (n := j.toNat)) (fun _ _ _ _ z => z) (fun _ _ _ z => z) (postS_mono (hide_ext x1) p)
      exact ⟨j, reps_int1 r1, h1, h2, for_range (lo := 0) (n := j.toNat) Pv g0 (fun i σ' H' hi hp => g2 i _ σ' H' (rg_get hi) hp) (fun σ' H' hp => g3 σ' H' (by rw [rg_len]; exact hp))⟩
theorem ds_forR2 {T : List Nat} {tg : Expr} {h : D → En → Option En} {p pos' : Pos} (hp : PassesOwn (model X.prog X.w) X.A X.env X.xe) (hc : X.calm = true) (hm : X.mg "range" = none) (ha : DA X c W [a, b] fs) (hg : DG X c T tg h) (hb : DSs X c W body f) (hgl : Gl X "range" := by rfl)
    (hst : starEach [a, b] X.env = [(false, eval a X.env), (false, eval b X.env)] := by rfl) (hst2 : starEach [b] X.env = [(false, eval b X.env)] := by rfl) (hs : ∀ x, foldedSetIterable (.Call (.Name "range" p) [a, b] [] pos') X.env x = pure x := by intro _; rfl) : DS X c W (.For tg (.Call (.Name "range" p) [a, b] [] pos') body [] pos) (sFor (eR2 fs) h f) := by
  refine ps_imp (ps_for hp hc (pi_range2 hgl hm ha hst hst2) hg hb hs) fun D σ H ⟨env, O, R, p⟩ => ⟨env, O, R, ?_⟩
  unfold sFor eR2 at p
  cases q : fs env with
  | ex e l => rw [q] at p; exact fun H' x => p σ H' O (R.mono x)
  | bad => rw [q] at p; exact p
  | ok ds =>
    rw [q] at p
    have p : PostS X.K c W O H D (lift (itR2 ds) env fun ds => forL h f ds env) := p
    intro us H1 x1 r1
    rcases itR2_ok (ds := ds) rfl with z | ⟨i, j, rfl, h1, z⟩
    · rw [z] at p; exact p.elim
    · rw [z] at p
      have p : PostS X.K c W O H D (forL h f (rgD i (j - i).toNat) env) := p
      obtain ⟨Pv, g0, g1, g2, g3⟩ := for_turns (R.mono x1) (rg_reps (lo := i) (n := (j - i).toNat)) (fun _ _ _ _ z => z) (fun _ _ _ z => z) (postS_mono (hide_ext x1) p)
      exact ⟨i, j, reps_int2 r1, h1, for_range (lo := i) (n := (j - i).toNat) Pv g0 (fun k σ' H' hi hp => g2 k _ σ' H' (rg_get hi) hp) (fun σ' H' hp => g3 σ' H' (by rw [rg_len]; exact hp))⟩
def enD (n : Nat) : List D → List D
  | [] => []
  | d :: ds => .tup [.int n, d] :: enD (n + 1) ds
def itEn : List D → Res (List D)
  | [.lst xs] => .ok (enD 0 xs)
  | _ => .bad
theorem itEn_ok {ds : List D} {r : Res (List D)} (h : itEn ds = r) : r = .bad ∨ ∃ xs, ds = [.lst xs] ∧ r = .ok (enD 0 xs) := by
  subst h
  unfold itEn
  split
  · rename_i xs
    exact .inr ⟨xs, rfl, rfl⟩
  · exact .inl rfl
def eEn (fs : En → Res (List D)) : En → Res (List D) := fun env => (fs env).bind itEn
theorem enD_get : ∀ (ds : List D) (n i : Nat), (enD n ds)[i]? = (ds[i]?).map fun d => D.tup [.int ((n + i : Nat) : Int), d]
  | [], n, i => by unfold enD; simp
  | d :: ds, n, 0 => by unfold enD; simp
  | d :: ds, n, i + 1 => by
    unfold enD
    rw [List.getElem?_cons_succ, List.getElem?_cons_succ, enD_get ds (n + 1) i, show n + 1 + i = n + (i + 1) by omega]
theorem enD_len : ∀ (ds : List D) (n : Nat), (enD n ds).length = ds.length
  | [], _ => rfl
  | d :: ds, n => by unfold enD; rw [List.length_cons, List.length_cons, enD_len ds]
/-- turns over pairs that are made on the way -/
theorem enum_turns {K : PySem.W.Frag} {T : List Nat} {H : Hp} {O : List Addr} {env : En} {σ : L2.St} {D : Ends} {h : Dl.D → En → Option En} {g : TG} {tb : TS} {ds : List Dl.D} {vs : List V} {a : Addr} (R : Rl K c O env σ H) (hv : hide O H a = some (.lst vs)) (r : Reps K c.cl (hide O H) ds vs)
    (hg : ∀ v σ H Q, tG K c T h v σ H Q → g v σ H Q) (hb : ∀ D σ H, tS K c W f D σ H → tb D σ H) (p : PostS K c W O H D (forL h f (enD 0 ds) env)) :
    ∃ W : Nat → Nat → L2.St → Hp → Prop, (∃ m, W 0 m σ H) ∧ ∀ i m σ H, W i m σ H →
      ((Ite K a).stop i H ∧ D.nx σ H) ∨ ((Ite K a).go i H ∧ ∃ N : L2.St → Hp → Prop, (∀ σ' H', N σ' H' → ∃ m', m' < m ∧ W (i + 1) m' σ' H') ∧ ∀ x H', (Ite K a).yld i H x H' → g x σ H' fun σ2 H2 => tb { D with nx := N, ct := N, bk := D.nx } σ2 H2) := by
  refine ⟨fun i m σ' H' => m = vs.length - i ∧ i ≤ vs.length ∧ ∃ env' O', Rl K c O' env' σ' H' ∧ Ext (hide O H) (hide O' H') ∧ PostS K c W O' H' D (forL h f ((enD 0 ds).drop i) env'), ⟨vs.length, by simp, Nat.zero_le _, env, O, R, Ext.rfl', p⟩, ?_⟩
  rintro i m σ' H' ⟨rfl, hi, env', O', R', y, p'⟩
  have hl : SqL K H' a vs := Or.inl (Or.inl (hide_sub _ _ (y _ _ hv)))
  by_cases hlt : i < vs.length
  · obtain ⟨v, hv'⟩ : ∃ v, vs[i]? = some v := ⟨_, List.getElem?_eq_getElem hlt⟩
    obtain ⟨d, hd, rd⟩ := reps_get' r hv'
    have hlt2 : i < (enD 0 ds).length := by rw [enD_len, reps_len r]; exact hlt
    have ee : (enD 0 ds)[i]? = some (.tup [.int (i : Nat), d]) := by
      rw [enD_get, hd, Nat.zero_add]
      rfl
    have e : (enD 0 ds).drop i = .tup [.int (i : Nat), d] :: (enD 0 ds).drop (i + 1) := by
      rw [List.drop_eq_getElem_cons hlt2]
      rw [(List.getElem?_eq_some_iff.mp ee).2]
    rw [e] at p'
    unfold forL at p'
    refine .inr ⟨⟨vs, v, hl, hv'⟩, fun σ2 H2 => i < vs.length ∧ ∃ env' O', Rl K c O' env' σ2 H2 ∧ Ext (hide O H) (hide O' H2) ∧ PostS K c W O' H2 D (forL h f ((enD 0 ds).drop (i + 1)) env'), fun σ2 H2 ⟨_, z⟩ => ⟨vs.length - (i + 1), by omega, rfl, hlt, z⟩, ?_⟩
    rintro x H2 ⟨Ta, u, rfl, hT, rfl, hu⟩
    have eu : v = u := by
      have := hu vs hl
      rw [hv'] at this
      exact Option.some.inj this
    subst eu
    have R2 := R'.mono (Ext.upd (o := .tup [V.int (i : Nat), v]) hT)
    have x2 : Ext (hide O' H') (hide O' (upd H' Ta (.tup [V.int (i : Nat), v]))) := hide_ext (Ext.upd hT)
    have hi0 : Rep K c.cl (hide O' H') (.int (i : Nat)) (.int (i : Nat)) := by unfold Rep; rfl
    refine hg _ _ _ _ ⟨.tup [.int (i : Nat), d], env', O', R2, repS_newT (R'.new hT) hT (reps_cons hi0 (reps_cons (rep_mono y _ _ rd) reps_nil)), ?_⟩
    cases q : h (.tup [.int (i : Nat), d]) env' with
    | none => rw [q] at p'; exact p'.elim
    | some env1 =>
      rw [q] at p'
      refine fun σ1 H1 R1 x1 _ => hb _ _ _ ⟨env1, O', R1, ?_⟩
      dsimp only at p'
      have x1 := x2.trans (hide_ext (O := O') x1)
      cases q2 : f env1 with
      | nx env2 => rw [q2] at p'; exact fun σ2 H2 O2 R2 x2 => ⟨hlt, env2, O2, R2, y.trans (x1.trans x2), postS_mono (x1.trans x2) p'⟩
      | ct env2 => rw [q2] at p'; exact fun σ2 H2 O2 R2 x2 => ⟨hlt, env2, O2, R2, y.trans (x1.trans x2), postS_mono (x1.trans x2) p'⟩
      | bk env2 => rw [q2] at p'; exact fun σ2 H2 O2 R2 x2 => p' σ2 H2 O2 R2 (x1.trans x2)
      | rt d => rw [q2] at p'; exact p'
      | xx e l env2 => rw [q2] at p'; exact p'
      | bad => rw [q2] at p'; exact p'
  · have e : i = vs.length := by omega
    subst e
    rw [← reps_len r, ← enD_len ds 0, List.drop_length] at p'
    exact .inl ⟨⟨vs, hl, Nat.le_refl _⟩, p' σ' H' O' R' Ext.rfl'⟩
theorem ds_forEn {T : List Nat} {h : D → En → Option En} {p pos' tpos : Pos} {elts : List Expr} {kk : Nat} (hp : PassesOwn (model X.prog X.w) X.A X.env X.xe) (hc : X.calm = true) (hm : X.mg "enumerate" = none) (ha : DA X c W [a] fs) (hg : DG X c T (.Tuple elts kk tpos) h) (hb : DSs X c W body f) (hgl : Gl X "enumerate" := by rfl)
    (hst : starEach [a] X.env = [(false, eval a X.env)] := by rfl) (hs : ∀ x, foldedSetIterable (.Call (.Name "enumerate" p) [a] [] pos') X.env x = pure x := by intro _; rfl) : DS X c W (.For (.Tuple elts kk tpos) (.Call (.Name "enumerate" p) [a] [] pos') body [] pos) (sFor (eEn fs) h f) := by
  refine ps_imp (ps_for hp hc (pi_enum hgl hm ha hst) hg hb hs) fun D σ H ⟨env, O, R, p⟩ => ⟨env, O, R, ?_⟩
  unfold sFor eEn at p
  cases q : fs env with
  | ex e l => rw [q] at p; exact fun H' x => p σ H' O (R.mono x)
  | bad => rw [q] at p; exact p
  | ok ds =>
    rw [q] at p
    have p : PostS X.K c W O H D (lift (itEn ds) env fun ds => forL h f ds env) := p
    intro us H1 x1 r1
    rcases itEn_ok (ds := ds) rfl with z | ⟨xs, rfl, z⟩
    · rw [z] at p; exact p.elim
    · rw [z] at p
      have p : PostS X.K c W O H D (forL h f (enD 0 xs) env) := p
      unfold RepsS Reps at r1
      obtain ⟨v, ws, rfl, h1, h2⟩ := r1
      unfold Reps at h2
      subst h2
      unfold Rep at h1
      obtain ⟨ad, vs, rfl, h3, h4⟩ := h1
      exact ⟨ad, vs, rfl, Or.inl (Or.inl (hide_sub _ _ h3)), enum_turns (R.mono x1) h3 h4 (fun _ _ _ _ z => z) (fun _ _ _ z => z) (postS_mono (hide_ext x1) p)⟩

/-! ### while -/
def whL (ft : En → Res Bool) (body : En → Out) : Nat → En → Out
  | 0, _ => .bad
  | n + 1, env => lift (ft env) env fun k => if k = true then (match body env with
      | .nx env' => whL ft body n env'
      | .ct env' => whL ft body n env'
      | .bk env' => .nx env'
      | r => r) else .nx env
def sWhile (n : Nat) (ft : En → Res Bool) (body : En → Out) : En → Out := whL ft body n
theorem ds_while (n : Nat) (hp : PassesOwn (model X.prog X.w) X.A X.env X.xe) (ht : DT X c W t ft) (hb : DSs X c W body f) : DS X c W (.While t body [] pos) (sWhile n ft f) := by
  refine ps_imp (ps_while hp ht hb) fun D σ H ⟨env, O, R, p⟩ => ?_
  refine ⟨fun m σ' H' => ∃ env' O', Rl X.K c O' env' σ' H' ∧ Ext (hide O H) (hide O' H') ∧ PostS X.K c W O' H' D (whL ft f m env'), ⟨n, env, O, R, Ext.rfl', p⟩, ?_⟩
  rintro m σ' H' ⟨env', O', R', y, p'⟩
  cases m with
  | zero => exact p'.elim
  | succ m =>
    unfold whL at p'
    refine ⟨env', O', R', post_lift R' p' fun k k' H1 x1 r1 R1 p1 => ?_⟩
    have r1 : k = k' := r1
    subst r1
    cases k with
    | false => exact iteF (p1 σ' H1 O' R1 Ext.rfl')
    | true =>
      have p1 : PostS X.K c W O' H1 D (match f env' with
        | .nx env' => whL ft f m env'
        | .ct env' => whL ft f m env'
        | .bk env' => .nx env'
        | r => r) := p1
      refine iteT ⟨fun σ2 H2 => ∃ env' O', Rl X.K c O' env' σ2 H2 ∧ Ext (hide O H) (hide O' H2) ∧ PostS X.K c W O' H2 D (whL ft f m env'), fun σ2 H2 z => ⟨m, Nat.lt_succ_self m, z⟩, env', O', R1, ?_⟩
      have y1 := y.trans (hide_ext (O := O') x1)
      cases q2 : f env' with
      | nx env2 => rw [q2] at p1; exact fun σ2 H2 O2 R2 x2 => ⟨env2, O2, R2, y1.trans x2, postS_mono x2 p1⟩
      | ct env2 => rw [q2] at p1; exact fun σ2 H2 O2 R2 x2 => ⟨env2, O2, R2, y1.trans x2, postS_mono x2 p1⟩
      | bk env2 => rw [q2] at p1; exact fun σ2 H2 O2 R2 x2 => p1 σ2 H2 O2 R2 x2
      | rt d => rw [q2] at p1; exact p1
      | xx e l env2 => rw [q2] at p1; exact p1
      | bad => rw [q2] at p1; exact p1

/-! ### a, b = x, y -/
def setE (i : Nat) (d : D) (env : En) : Option En := if i < env.length then some (env.set i (.sh d)) else none
def sPar2 (i j : Nat) (fs : En → Res (List D)) : En → Out := fun env => lift (fs env) env fun ds => match ds with
  | [x, y] => if i < env.length ∧ j < env.length then .nx ((env.set i (.sh x)).set j (.sh y)) else .bad
  | _ => .bad
theorem ds_par2 {i j : Nat} {x y : Str} {px py pt : Pos} {kt k2 pt2} (hc : X.calm = true) (hN : X.N.Nodup) (ha : DA X c W [a, b] fs) (hi : X.N[i]? = some x := by rfl) (hj : X.N[j]? = some y := by rfl) (hij : i ≠ j := by decide)
    (hx : X.env.scope.names.lookup x = some .local := by rfl) (hy : X.env.scope.names.lookup y = some .local := by rfl)
    (hw : swappedStores [.Tuple [.Name x px, .Name y py] kt pt] (.Tuple [a, b] k2 pt2) X.env = pure (some [x, y]) := by rfl)
    (hs : swapsWithSole [.Tuple [.Name x px, .Name y py] kt pt] (.Tuple [a, b] k2 pt2) pos.line X.env = pure false := by rfl) :
    DS X c W (.Assign [.Tuple [.Name x px, .Name y py] kt pt] (.Tuple [a, b] k2 pt2) pos) (sPar2 i j fs) := ps_imp (ps_par hc hN hi hj hij hx hy ha hw hs) fun D σ H ⟨env, O, R, p⟩ =>
  ⟨env, O, R, post_lift R p fun ds vs H1 x1 r1 R1 p1 => by
    split at p1
    · rename_i d1 d2
      by_cases hl : i < env.length ∧ j < env.length
      · rw [if_pos hl] at p1
        unfold RepsS Reps at r1
        obtain ⟨v, ws, rfl, h1, h2⟩ := r1
        unfold Reps at h2
        obtain ⟨v2, ws2, rfl, h3, h4⟩ := h2
        unfold Reps at h4
        subst h4
        exact ⟨v, v2, rfl, p1 _ H1 O ((R1.set h1 hl.1).set h3 (by rw [List.length_set]; exact hl.2)) Ext.rfl'⟩
      · rw [if_neg hl] at p1; exact p1.elim
    · exact p1.elim⟩
def sPar3 (i j l : Nat) (fs : En → Res (List D)) : En → Out := fun env => lift (fs env) env fun ds => match ds with
  | [x, y, z] => if i < env.length ∧ j < env.length ∧ l < env.length then .nx (((env.set i (.sh x)).set j (.sh y)).set l (.sh z)) else .bad
  | _ => .bad
theorem ds_par3 {i j l : Nat} {x y z : Str} {e3 : Expr} {px py pz pt : Pos} {kt k2 pt2} (hc : X.calm = true) (hN : X.N.Nodup) (ha : DA X c W [a, b, e3] fs) (hi : X.N[i]? = some x := by rfl) (hj : X.N[j]? = some y := by rfl) (hl : X.N[l]? = some z := by rfl) (hij : i ≠ j := by decide) (hil : i ≠ l := by decide) (hjl : j ≠ l := by decide)
    (hx : X.env.scope.names.lookup x = some .local := by rfl) (hy : X.env.scope.names.lookup y = some .local := by rfl) (hz : X.env.scope.names.lookup z = some .local := by rfl)
    (hw : swappedStores [.Tuple [.Name x px, .Name y py, .Name z pz] kt pt] (.Tuple [a, b, e3] k2 pt2) X.env = pure (some [x, y, z]) := by rfl)
    (hs : swapsWithSole [.Tuple [.Name x px, .Name y py, .Name z pz] kt pt] (.Tuple [a, b, e3] k2 pt2) pos.line X.env = pure false := by rfl) :
    DS X c W (.Assign [.Tuple [.Name x px, .Name y py, .Name z pz] kt pt] (.Tuple [a, b, e3] k2 pt2) pos) (sPar3 i j l fs) := ps_imp (ps_par3 hc hN hi hj hl hij hil hjl hx hy hz ha hw hs) fun D σ H ⟨env, O, R, p⟩ =>
  ⟨env, O, R, post_lift R p fun ds vs H1 x1 r1 R1 p1 => by
    split at p1
    · rename_i d1 d2 d3
      by_cases hl : i < env.length ∧ j < env.length ∧ l < env.length
      · rw [if_pos hl] at p1
        unfold RepsS Reps at r1
        obtain ⟨v, ws, rfl, h1, h2⟩ := r1
        unfold Reps at h2
        obtain ⟨v2, ws2, rfl, h3, h4⟩ := h2
        unfold Reps at h4
        obtain ⟨v3, ws3, rfl, h5, h6⟩ := h4
        unfold Reps at h6
        subst h6
        exact ⟨v, v2, v3, rfl, p1 _ H1 O (((R1.set h1 hl.1).set h3 (by rw [List.length_set]; exact hl.2.1)).set h5 (by rw [List.length_set, List.length_set]; exact hl.2.2)) Ext.rfl'⟩
      · rw [if_neg hl] at p1; exact p1.elim
    · exact p1.elim⟩
end
end Dl
namespace Dl
open PySem PySem.Spec PyProof.Rows L2

/-! ### what is not served -/
theorem de_bad {X : Cx} {c : Cc} {W : WX} {e : Expr} : DE X c W e (fun _ => .bad) := ⟨fun pins s σ H Q I ⟨_, _, _, p⟩ => p.elim⟩
theorem ds_bad {X : Cx} {c : Cc} {W : WX} {e : Stmt} : DS X c W e (fun _ => .bad) := ⟨fun pins s σ H Q I ⟨_, _, _, p⟩ => p.elim⟩

/-! ### defs -/
def spR (K : PySem.W.Frag) (cl : Cl) (F : List D → Res D) : Sp := fun vs H Q E => ∃ ds O, (∀ a ∈ O, ∃ o, H a = some o) ∧ Reps K cl (hide O H) ds vs ∧
  match F ds with
  | .ok d => ∀ v H', Ext H H' → Rep K cl (hide O H') d v → Q v H'
  | .ex e p => ∀ H', Ext H H' → Rz K ⟨cl, H, O, 0⟩ (fun k d _ h => E k d h) e p [] H'
  | .bad => False
def FnD (P : Program) (w : World) (K : PySem.W.Frag) (mg : Str → Option Value) (base : Heap) (cl : Cl) (k : Nat) (f : Addr) (F : List D → Res D) : Prop := FnR P w K mg base (L2.CX P w) k f (spR K cl F)
abbrev Wb (E : XK) : WX := fun cls d _ H => E cls d H
def startE (N : List Str) (ds : List D) : En := ds.map .sh ++ List.replicate (N.length - ds.length) .no
def outR : Out → Res D
  | .rt d => .ok d
  | .nx _ => .ok .non
  | .xx e p _ => .ex e p
  | _ => .bad
theorem start_rl {K : PySem.W.Frag} {cl : Cl} {O : List Addr} {H : Hp} {me : Addr} {N : List Str} {ds : List D} {vs : List V} (dom : ∀ a ∈ O, ∃ o, H a = some o) (r : Reps K cl (hide O H) ds vs) : Rl K ⟨cl, H, O, me⟩ O (startE N ds) (L2.start N vs) H := by
  have hl := reps_len r
  have key : ∀ (i : Nat) s, (startE N ds)[i]? = some s → s ≠ .no → ∃ d, ds[i]? = some d ∧ s = .sh d := fun i s e n => by
    unfold startE at e
    by_cases hi : i < ds.length
    · rw [List.getElem?_append_left (by rw [List.length_map]; exact hi), List.getElem?_map] at e
      cases q : ds[i]? with
      | none => rw [q] at e; cases e
      | some d => rw [q] at e; cases e; exact ⟨d, rfl, rfl⟩
    · rw [List.getElem?_append_right (by rw [List.length_map]; omega), List.getElem?_replicate] at e
      split at e
      · cases e; exact absurd rfl n
      · cases e
  refine ⟨?_, Ext.rfl', fun a h => h, dom, fun i d e => ?_, fun i o e => ?_, fun i k ns xs e => ?_, fun i j o u a e _ _ _ => ?_⟩
  · unfold startE L2.start
    rw [List.length_append, List.length_append, List.length_map, List.length_map, List.length_replicate, List.length_replicate, hl]
  · obtain ⟨d', hd, q⟩ := key i _ e (fun z => nomatch z)
    cases q
    obtain ⟨v, hv, rv⟩ := reps_get r hd
    refine ⟨v, ?_, rv⟩
    unfold L2.start
    rw [List.getElem?_append_left (by rw [List.length_map]; exact (List.getElem?_eq_some_iff.mp hv).1), List.getElem?_map, hv]
    rfl
  · obtain ⟨d', hd, q⟩ := key i _ e (fun z => nomatch z)
    cases q
  · obtain ⟨d', hd, q⟩ := key i _ e (fun z => nomatch z)
    cases q
  · obtain ⟨d', hd, q⟩ := key i _ e (fun z => nomatch z)
    cases q
theorem rz_less {K : PySem.W.Frag} {c c' : Cc} {W W' : WX} {e : Nat} {p : List D} {σ σ' : L2.St} {H : Hp} (hcl : c'.cl = c.cl) (hO : ∀ a ∈ c.O0, a ∈ c'.O0) (hW : ∀ k d H, W k d σ H → W' k d σ' H) (h : Rz K c W e p σ H) : Rz K c' W' e p σ' H := by
  unfold Rz at h ⊢
  rw [hcl]
  cases p with
  | nil => exact hW _ _ _ h
  | cons d ds => exact fun dx vs h1 h2 => hW _ _ _ (h dx vs h1 (reps_mono (hide_less hO) _ _ h2))
/-- the reading of a def's body, at its entry -/
theorem body_run {K : PySem.W.Frag} {cl : Cl} {O : List Addr} {H : Hp} {N : List Str} {ds : List D} {vs : List V} {Q : VK} {E : XK} {fb : En → Out} {t : TS} (dom : ∀ a ∈ O, ∃ o, H a = some o) (r : Reps K cl (hide O H) ds vs)
    (p : match outR (fb (startE N ds)) with
      | .ok d => ∀ v H', Ext H H' → Rep K cl (hide O H') d v → Q v H'
      | .ex e p => ∀ H', Ext H H' → Rz K ⟨cl, H, O, 0⟩ (fun k d _ h => E k d h) e p [] H'
      | .bad => False) : tS K ⟨cl, H, O, 0⟩ (Wb E) fb { nx := fun _ H' => Q .non H', rt := Q } (L2.start N vs) H := by
  refine ⟨_, O, start_rl dom r, ?_⟩
  cases q : fb (startE N ds) with
  | rt d => rw [q] at p; exact p
  | nx env => rw [q] at p; exact fun σ' H' O' R _ => p .non H' R.ext (by unfold Rep; rfl)
  | xx e l env => rw [q] at p; exact fun σ' H' O' R => rz_less rfl (fun _ h => h) (fun _ _ _ h => h) (p H' R.ext)
  | bk env => rw [q] at p; exact p.elim
  | ct env => rw [q] at p; exact p.elim
  | bad => rw [q] at p; exact p.elim
section
variable {P : Program} {w : World} {K : PySem.W.Frag} {mg : Str → Option Value} {base : Heap} {cl : Cl}
/-- the context of a def's body -/
abbrev Xb (P : Program) (w : World) (K : PySem.W.Frag) (mg : Str → Option Value) (base : Heap) (N : List Str) (qual : Str) (st : Stmt) (f : Addr) (cdv : Value) (A : Around) (outer : List PySem.Env) (s : Shared) (H : Hp) (E : XK) : Cx := cxOf (L2.CX P w) P w K mg base N qual (defScope st) f cdv A outer s H E
theorem takes_b {N : List Str} {qual : Str} {st : Stmt} {f : Addr} {cdv : Value} {A : Around} {outer : List PySem.Env} {s : Shared} {H : Hp} {E : XK} : Takes (Xb P w K mg base N qual st f cdv A outer s H E) (Wb E) := takes_of rfl rfl rfl rfl
theorem passes_b {N : List Str} {qual : Str} {st : Stmt} {f : Addr} {cdv : Value} {A : Around} {outer : List PySem.Env} {s : Shared} {H : Hp} {E : XK} : PassesOwn (model P w) (Xb P w K mg base N qual st f cdv A outer s H E).A (Xb P w K mg base N qual st f cdv A outer s H E).env (Xb P w K mg base N qual st f cdv A outer s H E).xe := passes_of rfl
/-- a def: dd the defaults that fill up -/
theorem fnD_of {x qual : Str} {st : Stmt} {f : Addr} {fd : FuncData} {N ps : List Str} {k : Nat} {fb : En → Out} {dd : List D} {dvs : List V} {dus : List Value} (F : Fun K x qual st f fd) (S : FnScope N ps (defScope st)) (hb : Binds K fd ps dus) (hd : Vals dvs dus) (hr : ∀ H, Reps K cl H dd dvs)
    (body : ∀ (cdv : Value) (A : Around) (outer : List PySem.Env) (s : Shared) (H : Hp) (E : XK) (c : Cc), c.cl = cl → Room k (A.deeper (envOfC qual (defScope st) s.heap.objs.size f cdv)) → DSs (Xb P w K mg base N qual st f cdv A outer s H E) c (Wb E) (defBody st) fb) :
    FnD P w K mg base cl (k + 1) f (fun ds => if ds.length + dd.length = ps.length then outR (fb (startE N (ds ++ dd))) else .bad) := by
  have F1 : FnOk P w K mg base (L2.CX P w) (k + 1) f fd ps (spR K cl fun ds => if ds.length = ps.length then outR (fb (startE N ds)) else .bad) := by
    refine F.okX S (fun vs H Q E h => ?_) fun cdv A outer s H vs Q E hr h => ?_
    · obtain ⟨ds, O, _, r, p⟩ := h
      dsimp only at p
      by_cases hl : ds.length = ps.length
      · rw [← hl, reps_len r]
      · rw [if_neg hl] at p; exact p.elim
    · obtain ⟨ds, O, dom, r, p⟩ := h
      dsimp only at p
      by_cases hl : ds.length = ps.length
      · rw [if_pos hl] at p
        exact ⟨_, body cdv A outer s H E ⟨cl, H, O, 0⟩ rfl hr, body_run (t := tNext) dom r p⟩
      · rw [if_neg hl] at p; exact p.elim
  refine FnR.imp (F1.raw hb hd) fun vs H Q E ⟨ds, O, dom, r, p⟩ => ⟨ds ++ dd, O, dom, reps_app r (hr _), by
    dsimp only at p ⊢
    rw [List.length_append]
    exact p⟩
theorem FnD.mono {j k : Nat} {f : Addr} {F : List D → Res D} (h : FnD P w K mg base cl j f F) (l : j ≤ k) : FnD P w K mg base cl k f F := FnR.mono h l
theorem FnD.alt {k : Nat} {f : Addr} {F F' : List D → Res D} (h : FnD P w K mg base cl k f F) (h' : FnD P w K mg base cl k f F') : FnD P w K mg base cl k f (fAlt F F') := fun A outer s H us vs Q E hr e0 r ⟨ds, O, dom, rr, p⟩ => by
  unfold fAlt at p
  cases q : F ds with
  | ok d => rw [q] at p; exact h A outer s H us vs Q E hr e0 r ⟨ds, O, dom, rr, by rw [q]; exact p⟩
  | ex e l => rw [q] at p; exact h A outer s H us vs Q E hr e0 r ⟨ds, O, dom, rr, by rw [q]; exact p⟩
  | bad => rw [q] at p; exact h' A outer s H us vs Q E hr e0 r ⟨ds, O, dom, rr, p⟩
/-- the same promise by another name -/
theorem FnD.eq {k : Nat} {f : Addr} {F F' : List D → Res D} (h : FnD P w K mg base cl k f F) (e : ∀ ds, F' ds ≠ .bad → F ds = F' ds) : FnD P w K mg base cl k f F' := FnR.imp h fun vs H Q E ⟨ds, O, dom, r, p⟩ => ⟨ds, O, dom, r, by
  have n : F' ds ≠ .bad := fun z => by rw [z] at p; exact p
  rw [e ds n]
  exact p⟩
end

/-! ### calls by trees -/
def CaD (X : Cx) (c : Cc) (W : WX) (f : Value) (F : List D → Res D) : Prop :=
  ∀ (pins : List (Addr × Obj)) (s : Shared) (σ : L2.St) (H : Hp) (O : List Addr) (env : En) (ds : List D) (vs : List V) (us : List Value) (Q : VK), L2.Inv X pins σ H s → Rl X.K c O env σ H → Vals vs us → Reps X.K c.cl (hide O H) ds vs →
    Post X.K c W σ H (RepS X.K c O) (F ds) Q → wpAny (model X.prog X.w) X.A (call f us) (EP X pins σ Q) X.xe s
section
variable {X : Cx} {c : Cc} {W : WX} {a b e t o : Expr} {es : List Expr} {fa fb fe fo : En → Res D} {fs : En → Res (List D)} {ft : En → Res Bool} {pos p apos : Pos} {k : Nat} {f : Addr} {F : List D → Res D} {x m : Str}
/-- what the callee is told -/
theorem spR_of {O : List Addr} {env : En} {σ : L2.St} {H : Hp} {ds : List D} {vs : List V} {Q : VK} (R : Rl X.K c O env σ H) (r : Reps X.K c.cl (hide O H) ds vs) (p : Post X.K c W σ H (RepS X.K c O) (F ds) Q) : spR X.K c.cl F vs H Q (WE W σ) := by
  refine ⟨ds, O, R.dom, r, ?_⟩
  cases q : F ds with
  | ok d => rw [q] at p; exact p
  | ex e l => rw [q] at p; exact fun H' x => rz_less (c := c) rfl R.sub (fun _ _ _ h => h) (p H' x)
  | bad => rw [q] at p; exact p
theorem fnR_run {pins : List (Addr × Obj)} {s : Shared} {σ : L2.St} {H : Hp} {Q : VK} {us : List Value} {vs : List V} {sp : Sp} (Fn : FnR X.prog X.w X.K X.mg X.base (L2.CX X.prog X.w) k f sp) (hr : Room k X.A) (tk : Takes X W) (I : L2.Inv X pins σ H s) (rv : Vals vs us) (h : sp vs H Q (WE W σ)) :
    wpAny (model X.prog X.w) X.A (call (.ref f) us) (EP X pins σ Q) X.xe s := by
  refine wpAny_call (codeAny_mono (Fn X.A X.stack s H us vs Q (WE W σ) hr I.env0 rv h) fun r s' hq => ?_)
  cases r with
  | error e => exact passAt tk σ pins H s e s' I hq
  | ok fl =>
    cases fl with
    | ret u => exact I.after hq
    | next => exact False.elim hq
    | brk => exact False.elim hq
    | cont => exact False.elim hq
theorem caD_of (Fn : FnD X.prog X.w X.K X.mg X.base c.cl k f F) (hr : Room k X.A) (tk : Takes X W) : CaD X c W (.ref f) F :=
  fun pins s σ H O env ds vs us Q I R rv r p => fnR_run Fn hr tk I rv (spR_of R r p)
/-- f(..), f a def or a class of the module -/
theorem de_call (hc : CaD X c W (.ref f) F) (hk : PySem.W.keepIn X.K (.ref f) = true) (hm : X.mg x = some (.ref f)) (ha : DA X c W (e :: es) fs) (hg : Gl X x := by rfl) (hdb : (x == ("__debug__" : Str)) = false := by decide)
    (he : starEach (e :: es) X.env = (false, eval e X.env) :: starEach es X.env := by rfl) (hpl : (backTo pos (starEach es X.env)).any (·.1) = false := by rfl) : DE X c W (.Call (.Name x p) (e :: es) [] pos) (eCall F fs) := by
  refine ⟨fun pins s σ H Q I ⟨env, O, R, h⟩ => ?_⟩
  refine wpAny_Call_Name_kw (ld_glob I hg hm ?_ hdb)
  refine PySem.W.callWith_K (h₀ := X.base) I.ok.mod.kin hk (thn (ha.run pos pins s σ H (fun vs H1 => ∃ ds, Rl X.K c O env σ H1 ∧ RepsS X.K c O H1 ds vs ∧ Post X.K c W σ H1 (RepS X.K c O) (F ds) Q) I ⟨env, O, R, post_bind h fun ds vs H1 x1 r1 p1 => ⟨ds, R.mono x1, r1, p1⟩⟩) fun us s1 ⟨vs, H1, I1, r1, ds, R1, p1, q1⟩ => ⟨I1.kIn, hc pins s1 σ H1 O env ds vs us Q I1 R1 r1 p1 q1⟩) he hpl
def eCall0 (F : List D → Res D) : En → Res D := fun _ => F []
theorem de_call0 (hc : CaD X c W (.ref f) F) (hk : PySem.W.keepIn X.K (.ref f) = true) (hm : X.mg x = some (.ref f)) (hg : Gl X x := by rfl) (hdb : (x == ("__debug__" : Str)) = false := by decide) : DE X c W (.Call (.Name x p) [] [] pos) (eCall0 F) := by
  refine ⟨fun pins s σ H Q I ⟨env, O, R, h⟩ => ?_⟩
  refine wpAny_Call_Name_kw (ld_glob I hg hm ?_ hdb)
  exact PySem.W.callWith_K0 I.kIn hk (hc pins s σ H O env [] [] [] Q I R .nil reps_nil h)

/-! ### own classes -/
/-- what of the text a class must have: read, called -/
def gFld (k : Nat) (f : Str) : D → Res D
  | .ins k' ns xs => if k' = k then (match (ns.zip xs).lookup f with
    | some d => .ok d
    | none => .bad) else .bad
  | _ => .bad
theorem zip_look {K : PySem.W.Frag} {cl : Cl} {H : Hp} {f : Str} {d : D} : ∀ {ns : List Str} {xs : List D} {vs : List V}, Reps K cl H xs vs → (ns.zip xs).lookup f = some d → ∃ v, (ns.zip vs).lookup f = some v ∧ Rep K cl H d v
  | [], _, _, _, h => by simp at h
  | n :: ns, [], _, _, h => by simp at h
  | n :: ns, x :: xs, _, r, h => by
    unfold Reps at r
    obtain ⟨v, ws, rfl, h1, h2⟩ := r
    rw [List.zip_cons_cons, List.lookup_cons] at h
    rw [List.zip_cons_cons, List.lookup_cons]
    cases q : f == n with
    | true => rw [q] at h; cases h; exact ⟨v, rfl, h1⟩
    | false => rw [q] at h; exact zip_look h2 h
theorem zip_none {α : Type} {f : Str} : ∀ {ns : List Str} {vs : List α}, f ∉ ns → (ns.zip vs).lookup f = none
  | [], _, _ => by simp
  | n :: ns, [], _ => by simp
  | n :: ns, v :: vs, h => by
    rw [List.zip_cons_cons, List.lookup_cons]
    have hn : (f == n) = false := beq_eq_false_iff_ne.mpr fun z => h (by rw [z]; exact List.mem_cons_self)
    rw [hn]
    exact zip_none fun z => h (List.mem_cons_of_mem _ z)
def eAt (g : D → Res D) (fe : En → Res D) : En → Res D := fun env => (fe env).bind g
theorem de_fld {k : Nat} {f : Str} (h : DW X c W e fe) (C : Cls X.K (c.cl.at_ k)) (n : NoAttr X.K (c.cl.at_ k) f) (hb : attributeBase e f X.env (eval e X.env) = eval e X.env := by rfl) : DE X c W (.Attribute e f pos) (eAt (gFld k f) fe) :=
  pe_imp (pe_fld h hb) fun σ H Q ⟨env, O, R, p⟩ => ⟨env, O, R, post_bind p fun d v H1 x1 r1 p1 => by
    cases d with
    | ins k' ns xs =>
      have p1 : Post X.K c W σ H1 (RepS X.K c O) (if k' = k then (match (ns.zip xs).lookup f with | some d => Res.ok d | none => Res.bad) else .bad) Q := p1
      by_cases hk : k' = k
      · subst hk
        rw [if_pos rfl] at p1
        obtain ⟨a, dx, vs, rfl, h1, h2, h3⟩ := RepW.ins r1
        cases q : (ns.zip xs).lookup f with
        | none => rw [q] at p1; exact p1.elim
        | some d =>
          rw [q] at p1
          obtain ⟨v, h4, h5⟩ := zip_look h3 q
          exact ⟨a, _, dx, _, v, rfl, h1, C, n, h4, post_now p1 h5⟩
      · rw [if_neg hk] at p1; exact p1.elim
    | _ => exact p1.elim⟩
/-- a property -/
def gProp (k : Nat) (F : List D → Res D) : D → Res D
  | .ins k' ns xs => if k' = k then noex (F [.ins k' ns xs]) else .bad
  | _ => .bad
theorem FnD.fd {P : Program} {w : World} {K : PySem.W.Frag} {mg : Str → Option Value} {base : Heap} {cl : Cl} {k : Nat} {f : Addr} {F : List D → Res D} (h : FnD P w K mg base cl k f F) : FnR P w K mg base (L2.CX P w) k f (spR K cl F) := h
theorem de_prop {kc : Nat} {m : Str} {q g : Addr} (h : DE X c W e fe) (C : Cls X.K (c.cl.at_ kc)) (hp : PropOf X.K (c.cl.at_ kc) m q g) (Fn : FnD X.prog X.w X.K X.mg X.base c.cl k g F) (hr : Room (k + 1) X.A) (hb : attributeBase e m X.env (eval e X.env) = eval e X.env := by rfl) : DE X c W (.Attribute e m pos) (eAt (gProp kc F) fe) := by
  refine ⟨fun pins s σ H Q I ⟨env, O, R, p⟩ => ?_⟩
  refine attr_of hb (thn (h.run pins s σ H (fun v H1 => ∃ d, Rl X.K c O env σ H1 ∧ RepS X.K c O H1 d v ∧ Post X.K c W σ H1 (RepS X.K c O) (gProp kc F d) Q) I ⟨env, O, R, post_bind p fun d v H1 x1 r1 p1 => ⟨d, R.mono x1, r1, p1⟩⟩) fun u s1 ⟨v, H1, I1, ru, d, R1, r1, p1⟩ => ?_)
  cases d with
  | ins k' ns xs =>
    have p1 : Post X.K c W σ H1 (RepS X.K c O) (if k' = kc then noex (F [.ins k' ns xs]) else .bad) Q := p1
    by_cases hk : k' = kc
    · subst hk
      rw [if_pos rfl] at p1
      obtain ⟨a, dx, vs, rfl, h1, h2, h3⟩ := RepW.ins (.inl r1)
      obtain rfl : u = Value.ref a := ru
      obtain ⟨mA, Ob, _, _, _, _⟩ := ins_get I1.hok h1
      obtain ⟨od, J, _⟩ := Ob.look
      obtain ⟨rest, hrec⟩ := hp.rec_
      have I2 := I1.tok (s1.toks + 1)
      have hc : (PySem.W.clsIn X.K (c.cl.at_ k')).isSome = true := by
        obtain ⟨cd, hc, _⟩ := PySem.W.any_some C.hd
        rw [hc] <;> rfl
      refine PySem.W.get_bind I1.kIn J (PySem.W.plainGet_of (C.get m)).1 (PySem.W.findObj_data hc hp.at_ hp.get hp.tak) (PySem.W.plainGet_of (C.get m)).2 (wpAny_call (PySem.W.prop_get (s := { s1 with toks := s1.toks + 1 }) I1.kIn hrec ?_))
      have hsp : spR X.K c.cl F [.ref a] H1 Q (fun _ _ _ => False) := by
        refine ⟨[.ins k' ns xs], O, R1.dom, reps_cons r1 reps_nil, ?_⟩
        cases z : F [.ins k' ns xs] with
        | ok d => rw [z] at p1; exact p1
        | ex _ _ => rw [z] at p1; exact p1.elim
        | bad => rw [z] at p1; exact p1.elim
      refine codeAny_mono (Fn X.A.in1 X.stack { s1 with toks := s1.toks + 1 } H1 [.ref a] [.ref a] Q (fun _ _ _ => False) hr.in1 I2.env0.in1 (.cons rfl .nil) hsp) fun r s' hq => ?_
      cases r with
      | error er =>
        obtain ⟨_, _, _, _, _, _, _, _, _, _, _, _, z⟩ := hq
        exact z.elim
      | ok fl =>
        cases fl with
        | ret u =>
          obtain ⟨v, H', I3, rv, q3⟩ := I2.after hq
          show wpAny _ _ (handedOut u) _ _ _
          rw [PySem.W.handedOut_of (handed_of rv)]
          exact wpAny_pure ⟨v, H', I3, rv, q3⟩
        | next => exact False.elim hq
        | brk => exact False.elim hq
        | cont => exact False.elim hq
    · rw [if_neg hk] at p1; exact p1.elim
  | _ => exact p1.elim
/-- o.m(..) -/
def eMeth (k : Nat) (m : Str) (F : List D → Res D) (fo : En → Res D) (fs : En → Res (List D)) : En → Res D := fun env => (fo env).bind fun d => match d with
  | .ins k' ns xs => if k' = k ∧ m ∉ ns then (fs env).bind fun ds => F (.ins k' ns xs :: ds) else .bad
  | _ => .bad
theorem de_meth {kc : Nat} {pl : Sem Bool} (h : DE X c W o fo) (C : Cls X.K (c.cl.at_ kc)) (hm : Meth X.K (c.cl.at_ kc) m f) (hc : CaD X c W (.ref f) F) (ha : DA X c W (e :: es) fs)
    (hst : starEach (e :: es) X.env = (false, eval e X.env) :: starEach es X.env := by rfl) (hpl : (backTo pos (starEach es X.env)).any (·.1) = false := by rfl)
    (ht : eval (.Call (.Attribute o m apos) (e :: es) [] pos) X.env = (do
      let ov ← eval o X.env
      standAt apos.atName
      let (f, first) ← holding [ov] (getMethod ov m pl)
      callWith pos f first (backTo pos (starEach (e :: es) X.env)) (backToKw pos (keywordEach [] X.env))) := by rfl) :
    DE X c W (.Call (.Attribute o m apos) (e :: es) [] pos) (eMeth kc m F fo fs) := by
  refine ⟨fun pins s σ H Q I ⟨env, O, R, p⟩ => ?_⟩
  refine PySem.W.methodCall_KW (pl := pl) (thn (h.run pins s σ H (fun v H1 => ∃ k' ns xs, k' = kc ∧ m ∉ ns ∧ Rl X.K c O env σ H1 ∧ RepS X.K c O H1 (.ins k' ns xs) v ∧ Post X.K c W σ H1 (RepS X.K c O) ((fs env).bind fun ds => F (.ins k' ns xs :: ds)) Q) I ⟨env, O, R, post_bind p fun d v H1 x1 r1 p1 => ?_⟩) fun u s1 ⟨v, H1, I1, ru, k', ns, xs, e1, e2, R1, r1, p1⟩ => ?_) ht
  · cases d with
    | ins k' ns xs =>
      have p1 : Post X.K c W σ H1 (RepS X.K c O) (if k' = kc ∧ m ∉ ns then (fs env).bind fun ds => F (.ins k' ns xs :: ds) else .bad) Q := p1
      by_cases hk : k' = kc ∧ m ∉ ns
      · rw [if_pos hk] at p1; exact ⟨k', ns, xs, hk.1, hk.2, R.mono x1, r1, p1⟩
      · rw [if_neg hk] at p1; exact p1.elim
    | _ => exact p1.elim
  · subst e1
    obtain ⟨a, dx, vs, rfl, h1, h2, h3⟩ := RepW.ins (.inl r1)
    obtain rfl : u = Value.ref a := ru
    refine getmeth_ok I1 h1 C hm (zip_none e2) ?_
    refine PySem.W.callWith_K (first := [.ref a]) (h₀ := X.base) I.ok.mod.kin hm.kp (thn (ha.run pos pins s1 σ H1 (fun vs H2 => ∃ ds, Rl X.K c O env σ H2 ∧ RepsS X.K c O H2 (.ins k' ns xs :: ds) (.ref a :: vs) ∧ Post X.K c W σ H2 (RepS X.K c O) (F (.ins k' ns xs :: ds)) Q) I1 ⟨env, O, R1, post_bind p1 fun ds vs H2 x2 r2 p2 => ⟨ds, R1.mono x2, reps_cons (rep_mono (hide_ext x2) _ _ r1) r2, p2⟩⟩) fun us s2 ⟨vs, H2, I2, rv, ds, R2, r2, q2⟩ => ⟨I2.kIn, hc pins s2 σ H2 O env _ (.ref a :: vs) (.ref a :: us) Q I2 R2 (.cons rfl rv) r2 q2⟩) hst hpl
theorem de_meth0 {kc : Nat} {pl : Sem Bool} (h : DE X c W o fo) (C : Cls X.K (c.cl.at_ kc)) (hm : Meth X.K (c.cl.at_ kc) m f) (hc : CaD X c W (.ref f) F)
    (ht : eval (.Call (.Attribute o m apos) [] [] pos) X.env = (do
      let ov ← eval o X.env
      standAt apos.atName
      let (f, first) ← holding [ov] (getMethod ov m pl)
      callWith pos f first (backTo pos (starEach [] X.env)) (backToKw pos (keywordEach [] X.env))) := by rfl) :
    DE X c W (.Call (.Attribute o m apos) [] [] pos) (eMeth kc m F fo aNil) := by
  refine ⟨fun pins s σ H Q I ⟨env, O, R, p⟩ => ?_⟩
  refine PySem.W.methodCall_KW (pl := pl) (thn (h.run pins s σ H (fun v H1 => ∃ k' ns xs, k' = kc ∧ m ∉ ns ∧ Rl X.K c O env σ H1 ∧ RepS X.K c O H1 (.ins k' ns xs) v ∧ Post X.K c W σ H1 (RepS X.K c O) (F [.ins k' ns xs]) Q) I ⟨env, O, R, post_bind p fun d v H1 x1 r1 p1 => ?_⟩) fun u s1 ⟨v, H1, I1, ru, k', ns, xs, e1, e2, R1, r1, p1⟩ => ?_) ht
  · cases d with
    | ins k' ns xs =>
      have p1 : Post X.K c W σ H1 (RepS X.K c O) (if k' = kc ∧ m ∉ ns then (aNil env).bind fun ds => F (.ins k' ns xs :: ds) else .bad) Q := p1
      by_cases hk : k' = kc ∧ m ∉ ns
      · rw [if_pos hk] at p1; exact ⟨k', ns, xs, hk.1, hk.2, R.mono x1, r1, p1⟩
      · rw [if_neg hk] at p1; exact p1.elim
    | _ => exact p1.elim
  · subst e1
    obtain ⟨a, dx, vs, rfl, h1, h2, h3⟩ := RepW.ins (.inl r1)
    obtain rfl : u = Value.ref a := ru
    refine getmeth_ok I1 h1 C hm (zip_none e2) ?_
    exact PySem.W.callWith_K0 (first := [.ref a]) I1.kIn hm.kp (hc pins s1 σ H1 O env _ [.ref a] [.ref a] Q I1 R1 (.cons rfl .nil) (reps_cons r1 reps_nil) p1)
end
end Dl
namespace Dl
open PySem PySem.Spec PyProof.Rows L2

theorem back_of {v : V} {u : Value} {s' : Shared} {Q : Value → Shared → Prop} (r : RelV v u) (q : Q u s') : PySem.W.CmpBack Q u s' := by
  cases v with
  | non => cases r; exact q
  | bl b => cases r; exact q
  | int i => obtain ⟨t, rfl⟩ := r; exact q
  | str i => obtain ⟨t, rfl⟩ := r; exact q
  | byt i => obtain ⟨t, rfl⟩ := r; exact q
  | flt i => obtain ⟨t, rfl⟩ := r; exact q
  | ref a => cases r; exact q
  | ty n => cases r; exact q
section
variable {X : Cx} {c : Cc} {W : WX} {F : List D → Res D} {f : Addr} {kc : Nat}
/-- operators of two instances of one class: the own def -/
def gOwn (k : Nat) (F : List D → Res D) : D → D → Res D
  | .ins k1 ns xs, .ins k2 ms ys => if k1 = k ∧ k2 = k then F [.ins k1 ns xs, .ins k2 ms ys] else .bad
  | _, _ => .bad
/-- strong operands -/
def OpS (X : Cx) (c : Cc) (W : WX) (f : Value → Value → Sem Value) (g : D → D → Res D) : Prop :=
  ∀ (pins : List (Addr × Obj)) (s : Shared) (σ : L2.St) (H : Hp) (O : List Addr) (env : En) (x y : D) (v u : Value) (vx vy : V) (Q : VK), L2.Inv X pins σ H s → Rl X.K c O env σ H → RelV vx v → RelV vy u → RepS X.K c O H x vx → RepS X.K c O H y vy →
    Post X.K c W σ H (RepS X.K c O) (g x y) Q → wpAny (model X.prog X.w) X.A (f v u) (EP X pins σ Q) X.xe s
theorem OpW.s {f : Value → Value → Sem Value} {g : D → D → Res D} (h : OpW X c W f g) : OpS X c W f g := fun pins s σ H O env x y v u vx vy Q I R rx ry px py p => h pins s σ H O env x y v u vx vy Q I R rx ry (.inl px) (.inl py) p
theorem OpS.alt {f : Value → Value → Sem Value} {g g' : D → D → Res D} (h : OpS X c W f g) (h' : OpS X c W f g') : OpS X c W f (gAlt g g') :=
  fun pins s σ H O env x y v u vx vy Q I R rx ry px py p => by
    unfold gAlt at p
    cases q : g x y with
    | ok d => rw [q] at p; exact h pins s σ H O env x y v u vx vy Q I R rx ry px py (by rw [q]; exact p)
    | ex e l => rw [q] at p; exact h pins s σ H O env x y v u vx vy Q I R rx ry px py (by rw [q]; exact p)
    | bad => rw [q] at p; exact h' pins s σ H O env x y v u vx vy Q I R rx ry px py p
theorem binS {a b : Expr} {fa fb : En → Res D} {g : D → D → Res D} {f : Value → Value → Sem Value} (ho : OpS X c W f g) (ha : DE X c W a fa) (hb : DE X c W b fb) {pins : List (Addr × Obj)} {s : Shared} {σ : L2.St} {H : Hp} {Q : VK} (I : L2.Inv X pins σ H s) (h : tE X.K c W (eBin g fa fb) σ H Q) :
    wpAny (model X.prog X.w) X.A (eval a X.env) (fun v s₁ => wpAny (model X.prog X.w) X.A (eval b X.env) (fun u s₂ => wpAny (model X.prog X.w) X.A (f v u) (EP X pins σ Q) X.xe s₂) X.xe s₁) X.xe s := by
  obtain ⟨env, O, R, p⟩ := h
  refine bin (R := fun vx vy H2 => ∃ x y, Rl X.K c O env σ H2 ∧ RepS X.K c O H2 x vx ∧ RepS X.K c O H2 y vy ∧ Post X.K c W σ H2 (RepS X.K c O) (g x y) Q) ha hb I ?_ fun v u s2 vx vy H2 I2 rx ry ⟨x, y, R2, px, py, q⟩ => ho pins s2 σ H2 O env x y v u vx vy Q I2 R2 rx ry px py q
  exact ⟨env, O, R, post_bind p fun x vx H1 x1 r1 p1 => ⟨env, O, R.mono x1, post_bind p1 fun y vy H2 x2 r2 p2 => ⟨x, y, (R.mono x1).mono x2, r1.mono x2, r2, p2⟩⟩⟩
theorem de_binS {a b : Expr} {fa fb : En → Res D} {pos : Pos} {op : Operator} {g : D → D → Res D} (ho : OpS X c W (binaryOp op) g) (ha : DE X c W a fa) (hb : DE X c W b fb) : DE X c W (.BinOp a op b pos) (eBin g fa fb) :=
  ⟨fun pins s σ H Q I h => wpAny_BinOp (binS ho ha hb I h)⟩
theorem dc_ofS {a b : Expr} {fa fb : En → Res D} {op : CmpOp} {g : D → D → Res D} (ho : OpS X c W (compareOp op) g) (ha : DE X c W a fa) (hb : DE X c W b fb) : PC X op a b (tE X.K c W (eBin g fa fb)) :=
  ⟨fun pins s σ H Q I h => binS ho ha hb I h⟩
theorem de_cmpS {a b : Expr} {fa fb : En → Res D} {pos : Pos} {op : CmpOp} {g : D → D → Res D} (ho : OpS X c W (compareOp op) g) (ha : DE X c W a fa) (hb : DE X c W b fb) (hm : behindInMarks op b = false := by first | exact nobehind _ (by decide) (by decide) | rfl) : DE X c W (.Compare a [op] [b] pos) (eBin g fa fb) :=
  pe_cmp (dc_ofS ho ha hb) hm
theorem dt_cmpS {a b : Expr} {fa fb : En → Res D} {pos : Pos} {op : CmpOp} {g : D → D → Res D} (ho : OpS X c W (compareOp op) g) (ha : DE X c W a fa) (hb : DE X c W b fb) (hm : behindInMarks op b = false := by first | exact nobehind _ (by decide) (by decide) | rfl) : DT X c W (.Compare a [op] [b] pos) (eB (eBin g fa fb)) :=
  pt_imp (pt_cmp (dc_ofS ho ha hb) hm) fun σ H Q ⟨env, O, R, p⟩ => ⟨env, O, R, post_bind p fun d v H1 x1 r1 p1 => by
    cases d with
    | bl k => exact ⟨k, RepW.bl (.inl r1), post_now p1 rfl⟩
    | _ => exact p1.elim⟩
/-- an instance that stands, for the library's rules -/
theorem ins_inst {pins : List (Addr × Obj)} {s : Shared} {σ : L2.St} {H : Hp} {a C dx : Addr} {fs : List (Str × V)} (I : L2.Inv X pins σ H s) (h : H a = some (.ins C dx fs)) : ∃ od, PySem.W.InstAt s.heap a (PySem.W.instObj C dx) C (some od) := by
  obtain ⟨mA, Ob, _, _, _, _⟩ := ins_get I.hok h
  obtain ⟨od, J, _⟩ := Ob.look
  exact ⟨od, J⟩
theorem os_own {op : Operator} (hc : CaD X c W (.ref f) F) (hs : PySem.W.selfFirst X.K (c.cl.at_ kc) = true) (hf : PySem.W.findIn X.K (.ref (c.cl.at_ kc)) (PySem.dunder op.info.2) = some (some (.ref f))) (hi : PySem.W.isFn X.K (.ref f) = true) : OpS X c W (binaryOp op) (gOwn kc F) :=
  fun pins s σ H O env x y v u vx vy Q I R rx ry px py p => by
    cases x with
    | ins k1 ns xs =>
      cases y with
      | ins k2 ms ys =>
        have q0 : Post X.K c W σ H (RepS X.K c O) (if k1 = kc ∧ k2 = kc then F [.ins k1 ns xs, .ins k2 ms ys] else .bad) Q := p
        by_cases hk : k1 = kc ∧ k2 = kc
        · rw [if_pos hk] at q0
          obtain ⟨e1, e2⟩ := hk
          subst e1
          subst e2
          obtain ⟨a, dx, vs, rfl, h1, _, _⟩ := RepW.ins (.inl px)
          obtain ⟨b, dy, ws, rfl, h2, _, _⟩ := RepW.ins (.inl py)
          obtain rfl : v = Value.ref a := rx
          obtain rfl : u = Value.ref b := ry
          obtain ⟨od, J⟩ := ins_inst I h1
          obtain ⟨od', J'⟩ := ins_inst I h2
          obtain ⟨m, hF⟩ := I.fr
          exact PySem.W.binop_K hF I.ok.mod.kin J J'.type hs hf hi (thn (hc pins s σ H O env _ [.ref a, .ref b] [.ref a, .ref b] Q I R (.cons rfl (.cons rfl .nil)) (reps_cons px (reps_cons py reps_nil)) q0) fun u s' ⟨z, H', I', rz, qz⟩ => back_of rz ⟨z, H', I', rz, qz⟩)
        · rw [if_neg hk] at q0; exact q0.elim
      | _ => exact p.elim
    | _ => exact p.elim
theorem os_cmp {op : CmpOp} (hop : compareOp op = richCompare op) (hc : CaD X c W (.ref f) F) (hu : X.A.units < cLine) (hf : PySem.W.findIn X.K (.ref (c.cl.at_ kc)) (cmpInfo op).2.1 = some (some (.ref f))) (hi : PySem.W.isFn X.K (.ref f) = true) : OpS X c W (compareOp op) (gOwn kc F) :=
  fun pins s σ H O env x y v u vx vy Q I R rx ry px py p => by
    cases x with
    | ins k1 ns xs =>
      cases y with
      | ins k2 ms ys =>
        have q0 : Post X.K c W σ H (RepS X.K c O) (if k1 = kc ∧ k2 = kc then F [.ins k1 ns xs, .ins k2 ms ys] else .bad) Q := p
        by_cases hk : k1 = kc ∧ k2 = kc
        · rw [if_pos hk] at q0
          obtain ⟨e1, e2⟩ := hk
          subst e1
          subst e2
          obtain ⟨a, dx, vs, rfl, h1, _, _⟩ := RepW.ins (.inl px)
          obtain ⟨b, dy, ws, rfl, h2, _, _⟩ := RepW.ins (.inl py)
          obtain rfl : v = Value.ref a := rx
          obtain rfl : u = Value.ref b := ry
          obtain ⟨od, J⟩ := ins_inst I h1
          obtain ⟨od', J'⟩ := ins_inst I h2
          obtain ⟨m, hF⟩ := I.fr
          rw [hop]
          exact PySem.W.cmp_K (tb := .ref (c.cl.at_ k2)) hu hF I.ok.mod.kin J J'.type (by simp [PySem.W.notFirst]) hf hi (thn (hc pins s σ H O env _ [.ref a, .ref b] [.ref a, .ref b] Q I R (.cons rfl (.cons rfl .nil)) (reps_cons px (reps_cons py reps_nil)) q0) fun u s' ⟨z, H', I', rz, qz⟩ => back_of rz ⟨z, H', I', rz, qz⟩)
        · rw [if_neg hk] at q0; exact q0.elim
      | _ => exact p.elim
    | _ => exact p.elim
/-- x in o, o an instance with an own __contains__ -/
def gInOwn (k : Nat) (neg : Bool) (F : List D → Res D) : D → D → Res D
  | x, .ins k2 ms ys => if k2 = k then (bOf (F [.ins k2 ms ys, x])).bind fun b => .ok (.bl (if neg then !b else b)) else .bad
  | _, _ => .bad
theorem bOf_bl {r : Res D} {b : Bool} (h : bOf r = .ok b) : r = .ok (.bl b) := by
  unfold bOf at h
  cases r with
  | ok d => cases d <;> first | (cases h; rfl) | cases h
  | ex _ _ => cases h
  | bad => cases h
theorem bOf_post {σ : L2.St} {H : Hp} {O : List Addr} {r : Res D} {Q : VK} {g : Bool → Bool} (p : Post X.K c W σ H (RepS X.K c O) ((bOf r).bind fun b => .ok (.bl (g b))) Q) : Post X.K c W σ H (RepS X.K c O) r fun v H' => ∃ b, v = .bl b ∧ Q (.bl (g b)) H' := by
  cases r with
  | ok d =>
    cases d with
    | bl b => exact fun v H' x r => ⟨b, RepW.bl (.inl r), p _ H' x repS_bl⟩
    | _ => exact p.elim
  | ex _ _ => exact p
  | bad => exact p
theorem os_in (hc : CaD X c W (.ref f) F) (hf : PySem.W.findIn X.K (.ref (c.cl.at_ kc)) "__contains__" = some (some (.ref f))) (hi : PySem.W.isFn X.K (.ref f) = true) : OpS X c W (compareOp .In) (gInOwn kc false F) :=
  fun pins s σ H O env x y v u vx vy Q I R rx ry px py p => by
    cases y with
    | ins k2 ms ys =>
      have q0 : Post X.K c W σ H (RepS X.K c O) (if k2 = kc then (bOf (F [.ins k2 ms ys, x])).bind fun b => .ok (.bl (if false then !b else b)) else .bad) Q := by cases x <;> exact p
      by_cases hk : k2 = kc
      · rw [if_pos hk] at q0
        subst hk
        obtain ⟨b, dy, ws, rfl, h2, _, _⟩ := RepW.ins (.inl py)
        obtain rfl : u = Value.ref b := ry
        obtain ⟨od', J'⟩ := ins_inst I h2
        obtain ⟨m, hF⟩ := I.fr
        refine PySem.W.in_K hF I.ok.mod.kin J' hf hi (thn (hc pins s σ H O env _ [.ref b, vx] [.ref b, v] _ I R (.cons rfl (.cons rx .nil)) (reps_cons py (reps_cons px reps_nil)) (bOf_post (g := fun b => b) q0)) fun u s' ⟨z, H', I', rz, k, ez, qz⟩ => ?_)
        subst ez
        cases rz
        exact wpAny_truthy_bool ⟨.bl k, H', I', rfl, qz⟩
      · rw [if_neg hk] at q0; exact q0.elim
    | _ => cases x <;> exact p.elim
theorem os_notIn (hc : CaD X c W (.ref f) F) (hf : PySem.W.findIn X.K (.ref (c.cl.at_ kc)) "__contains__" = some (some (.ref f))) (hi : PySem.W.isFn X.K (.ref f) = true) : OpS X c W (compareOp .NotIn) (gInOwn kc true F) :=
  fun pins s σ H O env x y v u vx vy Q I R rx ry px py p => by
    cases y with
    | ins k2 ms ys =>
      have q0 : Post X.K c W σ H (RepS X.K c O) (if k2 = kc then (bOf (F [.ins k2 ms ys, x])).bind fun b => .ok (.bl (!b)) else .bad) Q := by cases x <;> exact p
      by_cases hk : k2 = kc
      · rw [if_pos hk] at q0
        subst hk
        obtain ⟨b, dy, ws, rfl, h2, _, _⟩ := RepW.ins (.inl py)
        obtain rfl : u = Value.ref b := ry
        obtain ⟨od', J'⟩ := ins_inst I h2
        obtain ⟨m, hF⟩ := I.fr
        refine PySem.W.notIn_K hF I.ok.mod.kin J' hf hi (thn (hc pins s σ H O env _ [.ref b, vx] [.ref b, v] _ I R (.cons rfl (.cons rx .nil)) (reps_cons py (reps_cons px reps_nil)) (bOf_post (g := fun b => !b) q0)) fun u s' ⟨z, H', I', rz, k, ez, qz⟩ => ?_)
        subst ez
        cases rz
        exact wpAny_truthy_bool ⟨.bl (!k), H', I', rfl, qz⟩
      · rw [if_neg hk] at q0; exact q0.elim
    | _ => cases x <;> exact p.elim

/-! ### != by an own == -/
/-- != of two instances where only == is the text's own -/
def gNe (k : Nat) (F : List D → Res D) : D → D → Res D
  | .ins k1 ns xs, .ins k2 ms ys => if k1 = k ∧ k2 = k then (bOf (F [.ins k1 ns xs, .ins k2 ms ys])).bind fun b => .ok (.bl (!b)) else .bad
  | _, _ => .bad
end
end Dl
namespace Dl
open PySem PySem.Spec PyProof.Rows L2

section
variable {prog : Program} {w : World} {A : Around} {E : Value → Shared → Prop} {s : Shared} {K : PySem.W.Frag} {x y C f : Addr} {ox : Obj} {od : Option Obj}
/-- object.__ne__ by an own == -/
theorem objNe_K {Q : Fin → Shared → Prop} (X : K.In s.heap) (I : PySem.W.InstAt s.heap x ox C od) (hs : PySem.W.findIn K (.ref C) "__eq__" = some (some (.ref f))) (hf : PySem.W.isFn K (.ref f) = true) (hu : A.units < cLine)
    (hcall : wpAny (model prog w) A (call (.ref f) [.ref x, .ref y]) (fun v s' => ∃ b, v = .bool b ∧ Q (.done (.ret (.bool (!b)))) s') E s) :
    wpAny (model prog w) A (Builtin.«object.__ne__» ⟨[.ref x, .ref y], []⟩) Q E s := by
  obtain ⟨h, g, d, t, os⟩ := s
  unfold Builtin.«object.__ne__»
  repeat (first
    | with_reducible refine wpAny_cRoomFor hu ?_
    | (refine wpAny_bind (m := callSpecialIfBound? (.ref x) (Str.ofString "__eq__") [.ref y])
        (PySem.W.ifBound_K X I hs hf (wpAny_mono hcall (fun r s' hr => by
          obtain ⟨b, rfl, hq⟩ := hr
          repeat (first | exact hq | exact wpAny_pure hq | exact wpAny_truthy_bool hq | (refine wpAny_bind (m := truthy (.bool _)) (wpAny_truthy_bool ?_)) | wp_step)) fun _ _ e => e)))
    | wp_step)
theorem tryNe_K {Q : Option Value → Shared → Prop} (X : K.In s.heap) (I : PySem.W.InstAt s.heap x ox C od) (hn : PySem.W.findIn K (.ref C) "__ne__" = some (some (.builtin "object.__ne__"))) (hp : PySem.W.plainOver K C = true)
    (hs : PySem.W.findIn K (.ref C) "__eq__" = some (some (.ref f))) (hf : PySem.W.isFn K (.ref f) = true) (hu : A.units + 1 < cLine)
    (hcall : wpAny (model prog w) A.in1 (call (.ref f) [.ref x, .ref y]) (fun v s' => ∃ b, v = .bool b ∧ Q (some (.bool (!b))) s') E s) :
    wpAny (model prog w) A (tryCompare (.ref x) "__ne__" (.ref y)) Q E s := by
  obtain ⟨cd, hc, ho⟩ := PySem.W.any_some hp
  have ne : cd.mro.isEmpty = false := by cases q : cd.mro with | nil => rw [q] at ho; cases ho | cons _ _ => rfl
  have sub : PySem.W.Looks (model prog w) s.heap (isInstance (.ref x) (.type "object")) true := I.type.andThen (PySem.W.looks_mroIn X (by unfold PySem.W.mroIn; rw [hc, Option.bind_some, if_neg (by rw [ne]; decide), PySem.W.only_has ho]))
  simp only [tryCompare]
  refine wpAny_bind ?_
  simp only [callSpecialIfBound?, bindSpecialIfBound?]
  have S := (PySem.F.cmp_object).ne
  have fin : wpAny (model prog w) A (call (.builtin "object.__ne__") ([.ref x] ++ [.ref y]) >>= fun v => pure (some v)) (fun r s' => wpAny (model prog w) A (match r with | some .notImplemented | none => pure none | some v => pure (some v)) Q E s') E s := by
    refine wpAny_bind (wpAny_call (codeAny_call_builtin S.plain PySem.F.cmpEntry_ne (@PySem.W.check_slot (model prog w) _ _ s "object.__ne__" "object" "__ne__" (.ref x) [.ref y] [] _ PySem.F.cmpKind_ne PySem.F.cmpSplit_ne sub (PySem.F.cmpArgs_ne _ _) ?_)))
    refine objNe_K (A := A.in1) X I hs hf hu (wpAny_mono hcall (fun v s' hv => ?_) fun _ _ e => e)
    obtain ⟨b, rfl, hq⟩ := hv
    first | exact ⟨b, rfl, wpAny_pure (wpAny_pure hq)⟩ | exact ⟨b, rfl, wpAny_pure hq⟩ | exact ⟨b, rfl, hq⟩
  refine wpAny_holding (wpAny_bind (wpAny_bind (wpAny_bind (I.type.here ((PySem.W.looks_findIn X hn).here ?_)))))
  simp only [S.bind]
  refine wpAny_bind (wpAny_askSetting (wpAny_ite ?_))
  split
  · exact wpAny_bind (wpAny_pure (wpAny_pure fin))
  · exact wpAny_tryCatch (wpAny_bind (wpAny_pure (wpAny_pure fin)))
theorem ne_K {Q : Value → Shared → Prop} {oy : Obj} {ody : Option Obj} (X : K.In s.heap) (I : PySem.W.InstAt s.heap x ox C od) (J : PySem.W.InstAt s.heap y oy C ody) (hn : PySem.W.findIn K (.ref C) "__ne__" = some (some (.builtin "object.__ne__"))) (hp : PySem.W.plainOver K C = true)
    (hs : PySem.W.findIn K (.ref C) "__eq__" = some (some (.ref f))) (hf : PySem.W.isFn K (.ref f) = true) (hu : A.units + 1 < cLine)
    (hcall : wpAny (model prog w) A.in1 (call (.ref f) [.ref x, .ref y]) (fun v s' => ∃ b, v = .bool b ∧ Q (.bool (!b)) s') E s) :
    wpAny (model prog w) A (richCompare .NotEq (.ref x) (.ref y)) Q E s := by
  unfold richCompare
  simp only [oneThing_ref]
  refine wpAny_holding (wpAny_bind (wpAny_cRoomFor (Nat.lt_of_succ_lt hu) ?_))
  rw [cmpInfo_NotEq]
  dsimp only
  refine wpAny_bind (I.type.here (wpAny_bind (J.type.here ?_)))
  rw [show (Value.ref C != Value.ref C) = false from by simp]
  simp only [Bool.false_eq_true, if_false]
  refine wpAny_bind (wpAny_pure ?_)
  simp only [Bool.false_eq_true, if_false]
  refine wpAny_bind (tryNe_K X I hn hp hs hf hu (wpAny_mono hcall (fun v s' hv => ?_) fun _ _ e => e))
  obtain ⟨b, rfl, hq⟩ := hv
  first | exact ⟨b, rfl, wpAny_pure hq⟩ | exact ⟨b, rfl, wpAny_pure (wpAny_pure hq)⟩
/-- truth by an own __len__ -/
theorem truthy_len {Q : Bool → Shared → Prop} (hF : ∃ h₀ L m, Fr h₀ L s.heap m ∧ K.In h₀) (I : PySem.W.InstAt s.heap x ox C od) (hb : PySem.W.findIn K (.ref C) "__bool__" = some none) (hl : PySem.W.findIn K (.ref C) "__len__" = some (some (.ref f))) (hf : PySem.W.isFn K (.ref f) = true)
    (h : wpAny (model prog w) A.in1 (call (.ref f) [.ref x]) (PySem.W.LenBack fun v s' => ∃ n t, v = .int n t ∧ Q (n != 0) s') E s) : wpAny (model prog w) A (truthy (.ref x)) Q E s := by
  obtain ⟨h₀, L, m, F, X₀⟩ := hF
  have X := X₀.keeps F.keep
  unfold truthy
  refine wpAny_bind (m := callSpecial? (.ref x) (Str.ofString "__bool__")) (wpAny_bind (wpAny_bind (I.type.here ((PySem.W.looks_findIn X hb).here (wpAny_pure ?_)))))
  refine wpAny_bind (wpAny_bind (I.type.here ((PySem.W.looks_findIn X hl).here ?_)))
  show wpAny _ _ (if (some (Value.ref f)).isNone = true then _ else _) _ _ _
  rw [if_neg (by simp)]
  refine wpAny_bind (wpAny_runValue (codeAny_builtin entry_len ?_))
  unfold Builtin.«len»
  refine wpAny_bind (m := oneArg "len" _) (wpAny_pure ?_)
  refine wpAny_bind (m := callSpecial? (.ref x) (Str.ofString "__len__")) (PySem.W.special_fn X I hl (beq_iff_eq.mp hf) (wpAny_mono h (fun r s' hr => ?_) fun _ _ y => y))
  cases r <;> first | exact hr.elim | skip
  rename_i n u
  obtain ⟨⟨h0, h1⟩, n', t', e, hq⟩ := hr
  refine wpAny_bind (wpAny_holding (wpAny_pure ?_))
  refine wpAny_bind (wpAny_letGo ?_)
  show wpAny _ _ (if n < 0 then _ else _) _ _ _
  rw [if_neg (by omega)]
  show wpAny _ _ (if n ≥ 2 ^ 63 then _ else _) _ _ _
  rw [if_neg (by omega)]
  cases e
  exact wpAny_bind (wpAny_mkInt (wpAny_pure (wpAny_pure hq)))
end
section
variable {prog : Program} {w : World} {A : Around} {E : Value → Shared → Prop} {s : Shared}
theorem bool_meets (x : Value) : MeetsIn prog w (Builtin.«bool.__new__» ⟨[.type "bool", x], []⟩) (fun A R s => wpAny (model prog w) A.in1 (truthy x) (fun b s' => R (.ok (.ret (.bool b))) s') (fun e s' => R (.error e) s') s) :=
  MeetsIn.of_wp fun A R s hs => by
    have f1 := F.conv_sub_bool
    have z : wpAny (model prog w) A.in1 (truthy x >>= fun b => ret (.bool b)) (fun fin s' => ∃ v, fin = .done (.ret v) ∧ R (.ok (.ret v)) s') (fun e s' => R (.error e) s') s := wpAny_bind (wpAny_mono hs (fun b s' q => wpAny_pure ⟨_, rfl, q⟩) fun _ _ q => q)
    obtain ⟨hp, g, d, tk, os⟩ := s
    unfold Builtin.«bool.__new__»
    repeat (first | exact z | assumption | wp_step)
theorem call_bool_by {x : Value} {Q : Value → Shared → Prop} (h : wpAny (model prog w) A.in1.in1 (truthy x) (fun b s' => s'.TypeIs (.bool b) "bool" ∧ Q (.bool b) s') E s) : wpAny (model prog w) A (call (.type "bool") [x]) Q E s :=
  callType_newIn F.called_bool F.newNe_bool (F.typeCall_bool_1 x) (F.newCall_bool_1 x) (fun obj => F.args_object_init_2 obj x) F.entry_bool_new (bool_meets x) h
end
end Dl
namespace Dl
open PySem PySem.Spec PyProof.Rows L2

section
variable {X : Cx} {c : Cc} {W : WX} {a b e t o : Expr} {es : List Expr} {fa fb fe fo : En → Res D} {fs : En → Res (List D)} {ft : En → Res Bool} {pos p apos : Pos} {k kc : Nat} {f : Addr} {F : List D → Res D} {x m : Str}
/-- a call of a def somewhere below -/
theorem fnR_below {A' : Around} {pins : List (Addr × Obj)} {s : Shared} {σ : L2.St} {H : Hp} {Q : VK} {us : List Value} {vs : List V} {sp : Sp} (Fn : FnR X.prog X.w X.K X.mg X.base (L2.CX X.prog X.w) k f sp) (hr : Room k A') (e0 : Env0 X.prog X.w X.K X.mg X.base A' X.stack s H) (tk : Takes X W) (I : L2.Inv X pins σ H s) (rv : Vals vs us) (h : sp vs H Q (WE W σ)) :
    wpAny (model X.prog X.w) A' (call (.ref f) us) (EP X pins σ Q) X.xe s := by
  refine wpAny_call (codeAny_mono (Fn A' X.stack s H us vs Q (WE W σ) hr e0 rv h) fun r s' hq => ?_)
  cases r with
  | error e => exact passAt tk σ pins H s e s' I hq
  | ok fl =>
    cases fl with
    | ret u => exact I.after hq
    | next => exact False.elim hq
    | brk => exact False.elim hq
    | cont => exact False.elim hq
theorem os_ne (Fn : FnD X.prog X.w X.K X.mg X.base c.cl k f F) (hr : Room (k + 1) X.A) (tk : Takes X W) (C : Cls X.K (c.cl.at_ kc)) (hn : PySem.W.findIn X.K (.ref (c.cl.at_ kc)) "__ne__" = some (some (.builtin "object.__ne__")))
    (hs : PySem.W.findIn X.K (.ref (c.cl.at_ kc)) "__eq__" = some (some (.ref f))) (hi : PySem.W.isFn X.K (.ref f) = true) : OpS X c W (compareOp .NotEq) (gNe kc F) :=
  fun pins s σ H O env x y v u vx vy Q I R rx ry px py p => by
    cases x with
    | ins k1 ns xs =>
      cases y with
      | ins k2 ms ys =>
        have q0 : Post X.K c W σ H (RepS X.K c O) (if k1 = kc ∧ k2 = kc then (bOf (F [.ins k1 ns xs, .ins k2 ms ys])).bind fun b => .ok (.bl (!b)) else .bad) Q := p
        by_cases hk : k1 = kc ∧ k2 = kc
        · rw [if_pos hk] at q0
          obtain ⟨e1, e2⟩ := hk
          subst e1
          subst e2
          obtain ⟨a, dx, vs, rfl, h1, _, _⟩ := RepW.ins (.inl px)
          obtain ⟨b, dy, ws, rfl, h2, _, _⟩ := RepW.ins (.inl py)
          obtain rfl : v = Value.ref a := rx
          obtain rfl : u = Value.ref b := ry
          obtain ⟨od, J⟩ := ins_inst I h1
          obtain ⟨od', J'⟩ := ins_inst I h2
          show wpAny _ _ (richCompare .NotEq (.ref a) (.ref b)) _ _ _
          refine ne_K I.kIn J J' hn C.po hs hi (by have := hr.units; omega) (thn (fnR_below Fn hr.in1 I.env0.in1 tk I (vs := [.ref a, .ref b]) (.cons rfl (.cons rfl .nil)) (spR_of R (reps_cons px (reps_cons py reps_nil)) (bOf_post (g := fun b => !b) q0))) fun u s' ⟨z, H', I', rz, bb, ez, qz⟩ => ?_)
          subst ez
          cases rz
          exact ⟨bb, rfl, .bl (!bb), H', I', rfl, qz⟩
        · rw [if_neg hk] at q0; exact q0.elim
      | _ => exact p.elim
    | _ => exact p.elim

/-! ### len, truth by an own __len__ -/
def lenI (r : Res D) : Res Int := r.bind fun d => match d with
  | .int n => if 0 ≤ n ∧ n < 2 ^ 63 then .ok n else .bad
  | _ => .bad
theorem lenI_post {σ : L2.St} {H : Hp} {O : List Addr} {r : Res D} {Q : VK} {g : Int → D} (p : Post X.K c W σ H (RepS X.K c O) ((lenI r).bind fun n => .ok (g n)) Q) : Post X.K c W σ H (RepS X.K c O) r fun v H' => ∃ n, v = .int n ∧ 0 ≤ n ∧ n < 2 ^ 63 ∧ Post X.K c W σ H' (RepS X.K c O) (.ok (g n)) Q := by
  cases r with
  | ok d =>
    cases d with
    | int n =>
      have p : Post X.K c W σ H (RepS X.K c O) ((if 0 ≤ n ∧ n < 2 ^ 63 then Res.ok n else .bad).bind fun n => .ok (g n)) Q := p
      by_cases hn : 0 ≤ n ∧ n < 2 ^ 63
      · rw [if_pos hn] at p
        exact fun v H' x r => ⟨n, RepW.int (.inl r), hn.1, hn.2, post_mono x p⟩
      · rw [if_neg hn] at p; exact p.elim
    | _ => exact p.elim
  | ex _ _ => exact p
  | bad => exact p
def fLenOwn (k : Nat) (F : List D → Res D) : List D → Res D
  | [.ins k' ns xs] => if k' = k then (lenI (F [.ins k' ns xs])).bind fun n => .ok (.int n) else .bad
  | _ => .bad
theorem reps_one {K : PySem.W.Frag} {cl : Cl} {H : Hp} {d : D} {vs : List V} (r : Reps K cl H [d] vs) : ∃ v, vs = [v] ∧ Rep K cl H d v := by
  unfold Reps at r
  obtain ⟨v, ws, rfl, h1, h2⟩ := r
  unfold Reps at h2
  subst h2
  exact ⟨v, rfl, h1⟩
theorem cd_len (Fn : FnD X.prog X.w X.K X.mg X.base c.cl k f F) (hr : Room (k + 1) X.A) (tk : Takes X W) (hs : PySem.W.findIn X.K (.ref (c.cl.at_ kc)) "__len__" = some (some (.ref f))) (hi : PySem.W.isFn X.K (.ref f) = true) : CaD X c W (.builtin "len") (fLenOwn kc F) :=
  fun pins s σ H O env ds vs us Q I R rv r p => by
    unfold fLenOwn at p
    split at p
    · rename_i k' ns xs
      by_cases hk : k' = kc
      · rw [if_pos hk] at p
        subst hk
        obtain ⟨v, rfl, r1⟩ := reps_one r
        obtain ⟨a, dx, ws, rfl, h1, _, _⟩ := RepW.ins (.inl r1)
        obtain ⟨u, rfl, ru⟩ := vals1 rv
        obtain rfl : u = Value.ref a := ru
        obtain ⟨od, J⟩ := ins_inst I h1
        obtain ⟨m, hF⟩ := I.fr
        refine PySem.W.len_K hF I.ok.mod.kin J hs hi (thn (fnR_below Fn hr.in1 I.env0.in1 tk I (vs := [.ref a]) (.cons rfl .nil) (spR_of R r (lenI_post p))) fun u s' ⟨z, H', I', rz, n, ez, n0, n1, qz⟩ => ?_)
        subst ez
        obtain ⟨t, rfl⟩ := rz
        exact ⟨⟨n0, n1⟩, .int n, H', I'.tok _, ⟨_, rfl⟩, post_now qz repS_int⟩
      · rw [if_neg hk] at p; exact p.elim
    · exact p.elim
/-- truth of an instance, by its own length -/
theorem tru_own {A' : Around} {pins : List (Addr × Obj)} {s : Shared} {σ : L2.St} {H : Hp} {O : List Addr} {env : En} {ns : List Str} {xs : List D} {v : V} {u : Value} {Q : VK} {Q' : Bool → Shared → Prop} (Fn : FnD X.prog X.w X.K X.mg X.base c.cl k f F) (hr : Room k A'.in1) (e0 : Env0 X.prog X.w X.K X.mg X.base A'.in1 X.stack s H) (tk : Takes X W)
    (hb : PySem.W.findIn X.K (.ref (c.cl.at_ kc)) "__bool__" = some none) (hs : PySem.W.findIn X.K (.ref (c.cl.at_ kc)) "__len__" = some (some (.ref f))) (hi : PySem.W.isFn X.K (.ref f) = true)
    (I : L2.Inv X pins σ H s) (R : Rl X.K c O env σ H) (ru : RelV v u) (r : RepS X.K c O H (.ins kc ns xs) v) (p : Post X.K c W σ H (RepS X.K c O) ((lenI (F [.ins kc ns xs])).bind fun n => .ok (.bl (n != 0))) Q)
    (hq : ∀ b H' s', L2.Inv X pins σ H' s' → Q (.bl b) H' → Q' b s') : wpAny (model X.prog X.w) A' (truthy u) Q' X.xe s := by
  obtain ⟨a, dx, ws, rfl, h1, _, _⟩ := RepW.ins (.inl r)
  obtain rfl : u = Value.ref a := ru
  obtain ⟨od, J⟩ := ins_inst I h1
  obtain ⟨m, hF⟩ := I.fr
  refine truthy_len ⟨_, _, m, hF, I.ok.mod.kin⟩ J hb hs hi (thn (fnR_below Fn hr e0 tk I (vs := [.ref a]) (.cons rfl .nil) (spR_of R (reps_cons r reps_nil) (lenI_post p))) fun u s' ⟨z, H', I', rz, n, ez, n0, n1, qz⟩ => ?_)
  subst ez
  obtain ⟨t, rfl⟩ := rz
  exact ⟨⟨n0, n1⟩, n, _, rfl, hq _ H' _ (I'.tok _) (post_now qz repS_bl)⟩
def truOwn (k : Nat) (F : List D → Res D) : D → Res Bool
  | .ins k' ns xs => if k' = k then (lenI (F [.ins k' ns xs])).bind fun n => .ok (n != 0) else .bad
  | _ => .bad
def fBoolOwn (k : Nat) (F : List D → Res D) : List D → Res D
  | [.ins k' ns xs] => if k' = k then (lenI (F [.ins k' ns xs])).bind fun n => .ok (.bl (n != 0)) else .bad
  | _ => .bad
theorem cd_bool (Fn : FnD X.prog X.w X.K X.mg X.base c.cl k f F) (hr : Room (k + 3) X.A) (tk : Takes X W) (hb : PySem.W.findIn X.K (.ref (c.cl.at_ kc)) "__bool__" = some none) (hs : PySem.W.findIn X.K (.ref (c.cl.at_ kc)) "__len__" = some (some (.ref f))) (hi : PySem.W.isFn X.K (.ref f) = true) : CaD X c W (.type "bool") (fBoolOwn kc F) :=
  fun pins s σ H O env ds vs us Q I R rv r p => by
    unfold fBoolOwn at p
    split at p
    · rename_i k' ns xs
      by_cases hk : k' = kc
      · rw [if_pos hk] at p
        subst hk
        obtain ⟨v, rfl, r1⟩ := reps_one r
        obtain ⟨u, rfl, ru⟩ := vals1 rv
        exact call_bool_by (tru_own Fn hr.in1.in1.in1 I.env0.in1.in1.in1 tk hb hs hi I R ru r1 p fun b H' s' I' q => ⟨rfl, .bl b, H', I', rfl, q⟩)
      · rw [if_neg hk] at p; exact p.elim
    · exact p.elim
theorem dt_truOwn (h : DE X c W e fe) (Fn : FnD X.prog X.w X.K X.mg X.base c.cl k f F) (hr : Room (k + 1) X.A) (tk : Takes X W) (hb : PySem.W.findIn X.K (.ref (c.cl.at_ kc)) "__bool__" = some none) (hs : PySem.W.findIn X.K (.ref (c.cl.at_ kc)) "__len__" = some (some (.ref f))) (hi : PySem.W.isFn X.K (.ref f) = true)
    (he : ∀ whole, isTrue e X.env whole = (do let v ← whole; standAt e.pos; holding [v] (truthy v)) := by intro _; rfl) : DT X c W e (fun env => (fe env).bind (truOwn kc F)) := by
  refine ⟨fun pins s σ H Q I ⟨env, O, R, p⟩ => ?_⟩
  refine isTrue_plain (thn (h.run pins s σ H (fun v H1 => ∃ d, Rl X.K c O env σ H1 ∧ RepS X.K c O H1 d v ∧ Post X.K c W σ H1 RepB (truOwn kc F d) Q) I ⟨env, O, R, post_bind p fun d v H1 x1 r1 p1 => ⟨d, R.mono x1, r1, p1⟩⟩) fun u s1 ⟨v, H1, I1, ru, d, R1, r1, p1⟩ => ?_) (he _)
  unfold truOwn at p1
  split at p1
  · rename_i k' ns xs
    by_cases hk : k' = kc
    · rw [if_pos hk] at p1
      subst hk
      refine tru_own (Q := fun v H' => ∃ b, v = .bl b ∧ Q b H') Fn hr.in1 I1.env0.in1 tk hb hs hi I1 R1 ru r1 ?_ fun b H' s' I' ⟨b', e', q⟩ => ⟨H', I', by cases e'; exact q⟩
      cases z : lenI (F [.ins k' ns xs]) with
      | ok n => rw [z] at p1; exact fun v H' x r => ⟨n != 0, RepW.bl (.inl r), p1 _ H' x rfl⟩
      | ex _ _ => rw [z] at p1; exact p1
      | bad => rw [z] at p1; exact p1.elim
    · rw [if_neg hk] at p1; exact p1.elim
  · exact p1.elim
/-- not e, by truth, as a value -/
def eNotT (ft : En → Res Bool) : En → Res D := fun env => (ft env).bind fun k => .ok (.bl (!k))

/-! ### built-ins by strong trees -/
theorem CaW.d {f : Value} {F : List D → Res D} (h : CaW X c W f F) : CaD X c W f F := fun pins s σ H O env ds vs us Q I R rv r p => h pins s σ H O env ds vs us Q I R rv (by
  clear p rv
  induction ds generalizing vs with
  | nil => unfold Reps at r; subst r; exact .nil
  | cons d ds ih =>
    unfold Reps at r
    obtain ⟨v, ws, rfl, h1, h2⟩ := r
    exact .cons (.inl h1) (ih ws h2)) p
theorem CaD.alt {f : Value} {F F' : List D → Res D} (h : CaD X c W f F) (h' : CaD X c W f F') : CaD X c W f (fAlt F F') :=
  fun pins s σ H O env ds vs us Q I R rv pv p => by
    unfold fAlt at p
    cases q : F ds with
    | ok d => rw [q] at p; exact h pins s σ H O env ds vs us Q I R rv pv (by rw [q]; exact p)
    | ex e l => rw [q] at p; exact h pins s σ H O env ds vs us Q I R rv pv (by rw [q]; exact p)
    | bad => rw [q] at p; exact h' pins s σ H O env ds vs us Q I R rv pv p
theorem de_callBS {id : String} {F : List D → Res D} (hc : CaD X c W (.builtin id) F) (ha : DA X c W (e :: es) fs) (hm : X.mg x = none) (hv : bootBuiltins x = some (.builtin id)) (hg : Gl X x := by rfl) (hn : x ≠ "__name__" := by decide) (hdb : (x == ("__debug__" : Str)) = false := by decide)
    (he : starEach (e :: es) X.env = (false, eval e X.env) :: starEach es X.env := by rfl) (hpl : (backTo pos (starEach es X.env)).any (·.1) = false := by rfl) : DE X c W (.Call (.Name x p) (e :: es) [] pos) (eCall F fs) := by
  refine ⟨fun pins s σ H Q I ⟨env, O, R, h⟩ => ?_⟩
  refine wpAny_Call_Name_kw (ld_blt I hg hm hv ?_ hn hdb)
  refine PyProof.Rows.callWith_builtin1 (thn (ha.run pos pins s σ H (fun vs H1 => ∃ ds, Rl X.K c O env σ H1 ∧ RepsS X.K c O H1 ds vs ∧ Post X.K c W σ H1 (RepS X.K c O) (F ds) Q) I ⟨env, O, R, post_bind h fun ds vs H1 x1 r1 p1 => ⟨ds, R.mono x1, r1, p1⟩⟩) fun us s1 ⟨vs, H1, I1, r1, ds, R1, p1, q1⟩ => hc pins s1 σ H1 O env ds vs us Q I1 R1 r1 p1 q1) he hpl
theorem de_callTS {id : String} {F : List D → Res D} (hc : CaD X c W (.type id) F) (ha : DA X c W (e :: es) fs) (hm : X.mg x = none) (hv : bootBuiltins x = some (.type id)) (hg : Gl X x := by rfl) (hn : x ≠ "__name__" := by decide) (hdb : (x == ("__debug__" : Str)) = false := by decide)
    (he : starEach (e :: es) X.env = (false, eval e X.env) :: starEach es X.env := by rfl) (hpl : (backTo pos (starEach es X.env)).any (·.1) = false := by rfl) : DE X c W (.Call (.Name x p) (e :: es) [] pos) (eCall F fs) := by
  refine ⟨fun pins s σ H Q I ⟨env, O, R, h⟩ => ?_⟩
  refine wpAny_Call_Name_kw (ld_blt I hg hm hv ?_ hn hdb)
  refine PyProof.Rows.callWith_type1 (thn (ha.run pos pins s σ H (fun vs H1 => ∃ ds, Rl X.K c O env σ H1 ∧ RepsS X.K c O H1 ds vs ∧ Post X.K c W σ H1 (RepS X.K c O) (F ds) Q) I ⟨env, O, R, post_bind h fun ds vs H1 x1 r1 p1 => ⟨ds, R.mono x1, r1, p1⟩⟩) fun us s1 ⟨vs, H1, I1, r1, ds, R1, p1, q1⟩ => hc pins s1 σ H1 O env ds vs us Q I1 R1 r1 p1 q1) he hpl
end
end Dl
namespace Dl
open PySem PySem.Spec PyProof.Rows L2

/-! ### walks over a list or a tuple -/
theorem pi_or {X : Cx} {tg l : Expr} {w1 w2 : TI} (h1 : PI X tg l w1) (h2 : PI X tg l w2) : PI X tg l (fun σ H R => w1 σ H R ∨ w2 σ H R) :=
  ⟨fun pins s σ H R I h => h.elim (h1.run pins s σ H R I) (h2.run pins s σ H R I)⟩
section
variable {X : Cx} {c : Cc} {W : WX} {a b e t o : Expr} {es : List Expr} {body : List Stmt} {fa fb fe fo fi : En → Res D} {fs : En → Res (List D)} {ft : En → Res Bool} {fo' g' : En → Out} {pos p apos : Pos} {k kc : Nat} {f : Addr} {F : List D → Res D} {x m : Str} {h : D → En → Option En}
theorem tlc_any {K : PySem.W.Frag} {T vs : List Nat} (hT : ∀ i ∈ T, i ∈ vs) : ∀ σ H Q, tE K c W (eLc vs (eIt fi) h ft fe) σ H Q → tLc (fun σ H R => iList K (tE K c W fi) σ H R ∨ iTup K (tE K c W fi) σ H R) (tG K c T h) (tTt K c W0 ft) (tE K c W0 fe) vs σ H Q := fun σ H Q ⟨env, O, R, p⟩ => by
  cases q : fi env with
  | ex e l => exact .inl (tlc_list hT σ H Q ⟨env, O, R, by unfold eLc eIt at p; unfold eLc eItL; rw [q] at p ⊢; exact p⟩)
  | bad => unfold eLc eIt at p; rw [q] at p; exact p.elim
  | ok d =>
    cases d with
    | lst xs => exact .inl (tlc_list hT σ H Q ⟨env, O, R, by unfold eLc eIt at p; unfold eLc eItL; rw [q] at p ⊢; exact p⟩)
    | scr xs => exact .inl (tlc_list hT σ H Q ⟨env, O, R, by unfold eLc eIt at p; unfold eLc eItL; rw [q] at p ⊢; exact p⟩)
    | tup xs => exact .inr (tlc_tup hT σ H Q ⟨env, O, R, by unfold eLc eIt at p; unfold eLc eItT; rw [q] at p ⊢; exact p⟩)
    | _ => unfold eLc eIt at p; rw [q] at p; exact p.elim
theorem ds_for {T : List Nat} {tg iter : Expr} (hp : PassesOwn (model X.prog X.w) X.A X.env X.xe) (hc : X.calm = true) (hi : DE X c W iter fe) (hg : DG X c T tg h) (hb : DSs X c W body fo')
    (hs : ∀ x, foldedSetIterable iter X.env x = pure x := by intro _; rfl) : DS X c W (.For tg iter body [] pos) (sFor (eIt fe) h fo') := by
  refine ⟨fun pins s σ H D I ⟨env, O, R, p⟩ => ?_⟩
  cases q : fe env with
  | ex e l => exact (ds_forL hp hc hi hg hb hs).run pins s σ H D I ⟨env, O, R, by unfold sFor eIt at p; unfold sFor eItL; rw [q] at p ⊢; exact p⟩
  | bad => unfold sFor eIt at p; rw [q] at p; exact p.elim
  | ok d =>
    cases d with
    | lst xs => exact (ds_forL hp hc hi hg hb hs).run pins s σ H D I ⟨env, O, R, by unfold sFor eIt at p; unfold sFor eItL; rw [q] at p ⊢; exact p⟩
    | scr xs => exact (ds_forL hp hc hi hg hb hs).run pins s σ H D I ⟨env, O, R, by unfold sFor eIt at p; unfold sFor eItL; rw [q] at p ⊢; exact p⟩
    | tup xs => exact (ds_forT hp hc hi hg hb hs).run pins s σ H D I ⟨env, O, R, by unfold sFor eIt at p; unfold sFor eItT; rw [q] at p ⊢; exact p⟩
    | _ => unfold sFor eIt at p; rw [q] at p; exact p.elim

/-! ### isinstance -/
inductive Tg where
  | non | bl | int | str | tup | lst | dic | ins (k : Nat)
  deriving DecidableEq
def tgD : D → Option Tg
  | .non => some .non
  | .bl _ => some .bl
  | .int _ => some .int
  | .str _ => some .str
  | .tup _ => some .tup
  | .lst _ => some .lst
  | .dic _ _ => some .dic
  | .ins k _ _ => some (.ins k)
  | _ => none
def tgV (cl : Cl) : Tg → Value
  | .non => .type "NoneType"
  | .bl => .type "bool"
  | .int => .type "int"
  | .str => .type "str"
  | .tup => .type "tuple"
  | .lst => .type "list"
  | .dic => .type "dict"
  | .ins k => .ref (cl.at_ k)
/-- what of a class isinstance asks -/
structure InsTy (K : PySem.W.Frag) (C : Addr) : Prop where
  cls : Cls K C
  ha : PySem.W.findIn K (.ref C) "__class__" = some (some (.builtin "object.__class__"))
  hn : PySem.W.specialIn K (.builtin "object.__class__") "__get__" = some (some (.builtin "getset_descriptor.__get__"))
  htk : PySem.W.takesIn K (.builtin "object.__class__") = some true
  hm : PySem.W.mroIn K C (.type "object") = some true
theorem tyX_of {K : PySem.W.Frag} {O : List Addr} {H : Hp} {d : D} {v : V} {tg : Tg} (r : RepW K c O H d v) (e : tgD d = some tg) (hi : ∀ k, tg = .ins k → InsTy K (c.cl.at_ k)) : TyX K H v (tgV c.cl tg) := by
  cases d with
  | non => cases e; rw [RepW.non r]; exact .base .non
  | bl b => cases e; rw [RepW.bl r]; exact .base (.bl b)
  | int i => cases e; rw [RepW.int r]; exact .base (.int i)
  | str z => cases e; rw [RepW.str r]; exact .base (.str z)
  | tup xs =>
    cases e
    obtain ⟨a, vs, rfl, h1, _⟩ := RepW.tup r
    rcases h1 with (h1 | ⟨o, h1⟩) | ⟨o, its, n, h1, h2, _⟩
    · exact .base (.tup h1)
    · exact .fTuple h1
    · exact .kTuple h1 h2
  | lst xs =>
    cases e
    obtain ⟨a, vs, rfl, h1, _⟩ := RepW.lst r
    exact .base (.lst h1)
  | dic ks xs =>
    cases e
    obtain ⟨a, vs, rfl, h1, _⟩ := RepW.dic r
    exact .base (.dK h1)
  | ins k ns xs =>
    cases e
    obtain ⟨a, dx, vs, rfl, h1, _⟩ := RepW.ins r
    have q := hi k rfl
    exact .base (.ins h1 q.cls q.ha q.hn q.htk q.hm)
  | scr _ => cases e
  | cls _ => cases e
def gIsi (g : Tg → Option Bool) : D → Res D := fun d => match (tgD d).bind g with
  | some r => .ok (.bl r)
  | none => .bad
theorem de_isi {cv : V} {u : Value} {g : Tg → Option Bool} (ha : DW X c W a fa) (h2 : PE X b (tC cv)) (kc : ClsV cv u) (hk : ∀ tg r, g tg = some r → PySem.W.kitOne X.K (tgV c.cl tg) u = some r) (hi : ∀ k r, g (.ins k) = some r → InsTy X.K (c.cl.at_ k)) (hm : X.mg "isinstance" = none) (hg : Gl X "isinstance" := by rfl)
    (he2 : starEach [b] X.env = (false, eval b X.env) :: starEach [] X.env := by rfl)
    (he : starEach [a, b] X.env = (false, eval a X.env) :: starEach [b] X.env := by rfl) (hpl : (backTo pos (starEach [b] X.env)).any (·.1) = false := by rfl) : DE X c W (.Call (.Name "isinstance" p) [a, b] [] pos) (eAt (gIsi g) fa) :=
  pe_imp (pe_callB call_isi hg hm (by decide +kernel) (pa_cons ha (pa_cons h2 pa_nil he2) he) (by decide) (by decide) he hpl) fun σ H Q ⟨env, O, R, p⟩ => ⟨env, O, R, post_bind p fun d v H1 x1 r1 p1 => by
    unfold gIsi at p1
    cases q : tgD d with
    | none => rw [q] at p1; exact p1.elim
    | some tg =>
      rw [q] at p1
      cases q2 : g tg with
      | none => rw [show (some tg).bind g = g tg from rfl, q2] at p1; exact p1.elim
      | some r =>
        rw [show (some tg).bind g = g tg from rfl, q2] at p1
        exact ⟨v, cv, tgV c.cl tg, u, r, rfl, kc, tyX_of r1 q (fun k e => hi k r (by rw [← e]; exact q2)), hk tg r q2, post_now p1 repS_bl⟩⟩
/-- isinstance(x, (T, ..)) -/
theorem de_isiT {cvs : List V} {us : List Value} {g : Tg → Option Bool} {es : List Expr} {kk : Nat} {pt : Pos} {ta : TA} (ha : DW X c W a fa) (h2 : PA X es ta) (hta : ∀ σ H Q, Q cvs H → ta σ H Q) (hz : cvs.length ≤ 1000) (kc : Paired ClsV cvs us) (hk : ∀ tg r, g tg = some r → PySem.W.kitAny X.K (tgV c.cl tg) us = some r) (hi : ∀ k r, g (.ins k) = some r → InsTy X.K (c.cl.at_ k)) (hm : X.mg "isinstance" = none) (hg : Gl X "isinstance" := by rfl)
    (he2 : starEach [.Tuple es kk pt] X.env = (false, eval (.Tuple es kk pt) X.env) :: starEach [] X.env := by rfl)
    (he : starEach [a, .Tuple es kk pt] X.env = (false, eval a X.env) :: starEach [.Tuple es kk pt] X.env := by rfl) (hpl : (backTo pos (starEach [.Tuple es kk pt] X.env)).any (·.1) = false := by rfl) : DE X c W (.Call (.Name "isinstance" p) [a, .Tuple es kk pt] [] pos) (eAt (gIsi g) fa) :=
  pe_imp (pe_callB call_isiT hg hm (by decide +kernel) (pa_cons ha (pa_cons (pe_tup h2) pa_nil he2) he) (by decide) (by decide) he hpl) fun σ H Q ⟨env, O, R, p⟩ => ⟨env, O, R, post_bind p fun d v H1 x1 r1 p1 => by
    unfold gIsi at p1
    refine hta _ _ _ ⟨Nat.le_trans hz (by decide), fun q hq => ?_⟩
    have r2 := r1.mono (Ext.upd (o := .tup cvs) hq)
    cases q0 : tgD d with
    | none => rw [q0] at p1; exact p1.elim
    | some tg =>
      rw [q0] at p1
      cases q2 : g tg with
      | none => rw [show (some tg).bind g = g tg from rfl, q2] at p1; exact p1.elim
      | some r =>
        rw [show (some tg).bind g = g tg from rfl, q2] at p1
        exact ⟨v, q, cvs, tgV c.cl tg, us, r, rfl, upd_same, kc, tyX_of r2 q0 (fun k e => hi k r (by rw [← e]; exact q2)), hk tg r q2, post_ok p1 (Ext.upd hq) repS_bl⟩⟩

/-! ### a local that holds a class or a def -/
def eCallL (i : Nat) (kc : Nat) (F : List D → Res D) (fs : En → Res (List D)) : En → Res D := fun env => match env[i]? with
  | some (.sh (.cls k)) => if k = kc then (fs env).bind F else .bad
  | _ => .bad
theorem de_callL {i : Nat} (hc : CaD X c W (.ref (c.cl.at_ kc)) F) (hk : PySem.W.keepIn X.K (.ref (c.cl.at_ kc)) = true) (ha : DA X c W (e :: es) fs) (hN : X.N[i]? = some x := by rfl) (hv : Vis X.env.scope x := by first | exact Or.inl rfl | exact Or.inr (Or.inl rfl) | exact Or.inr (Or.inr rfl))
    (hdb : (x == ("__debug__" : Str)) = false := by decide) (hcd : (x == ("__classdict__" : Str)) = false := by decide)
    (he : starEach (e :: es) X.env = (false, eval e X.env) :: starEach es X.env := by rfl) (hpl : (backTo pos (starEach es X.env)).any (·.1) = false := by rfl) : DE X c W (.Call (.Name x p) (e :: es) [] pos) (eCallL i kc F fs) := by
  refine ⟨fun pins s σ H Q I ⟨env, O, R, h⟩ => ?_⟩
  unfold eCallL at h
  split at h
  · rename_i k' hl
    by_cases hkc : k' = kc
    · rw [if_pos hkc] at h
      subst hkc
      obtain ⟨v, hv1, hv2⟩ := R.sh i _ hl
      unfold Rep at hv2
      subst hv2
      refine wpAny_Call_Name_kw (thn ((pe_var (pos := p) hN hv hdb hcd).run pins s σ H (fun v H1 => v = .ref (c.cl.at_ k') ∧ H1 = H) I ⟨_, hv1, rfl, rfl⟩) fun u s1 ⟨v, H1, I1, r1, q1⟩ => ?_)
      obtain ⟨rfl, rfl⟩ := q1
      cases r1
      refine PySem.W.callWith_K (h₀ := X.base) I.ok.mod.kin hk (thn (ha.run pos pins s1 σ H1 (fun vs H2 => ∃ ds, Rl X.K c O env σ H2 ∧ RepsS X.K c O H2 ds vs ∧ Post X.K c W σ H2 (RepS X.K c O) (F ds) Q) I1 ⟨env, O, R, post_bind h fun ds vs H1 x1 r1 p1 => ⟨ds, R.mono x1, r1, p1⟩⟩) fun us s2 ⟨vs, H2, I2, r2, ds, R2, p2, q2⟩ => ⟨I2.kIn, hc pins s2 σ H2 O env ds vs us Q I2 R2 r2 p2 q2⟩) he hpl
    · rw [if_neg hkc] at h; exact h.elim
  · exact h.elim

/-! ### making an instance -/
def spI (K : PySem.W.Frag) (cl : Cl) (kc : Nat) (F : List D → Res (List Str × List D)) : Sp := fun vs H Q E => ∃ H1 x dx ws ds O, vs = .ref x :: ws ∧ H = upd (upd H1 dx (.own x)) x (.ins (cl.at_ kc) dx []) ∧ H1 x = none ∧ H1 dx = none ∧ dx ≠ x ∧ (∀ a ∈ O, ∃ o, H1 a = some o) ∧ Reps K cl (hide O H1) ds ws ∧
  match F ds with
  | .ok r => ∀ H' dx' us, Ext H1 H' → H' x = some (.ins (cl.at_ kc) dx' (r.1.zip us)) → r.1.length = us.length → Reps K cl (hide O H') r.2 us → Q .non H'
  | .ex e p => ∀ H', Ext H1 H' → Rz K ⟨cl, H1, O, 0⟩ (fun k d _ h => E k d h) e p [] H'
  | .bad => False
def insR (kc : Nat) (r : Res (List Str × List D)) : Res D := r.bind fun r => .ok (.ins kc r.1 r.2)
theorem cd_make {C : Addr} {Fi : List D → Res (List Str × List D)} (M : Mk X.K (c.cl.at_ kc) f) (Fn : FnR X.prog X.w X.K X.mg X.base (L2.CX X.prog X.w) k f (spI X.K c.cl kc Fi)) (hr : Room (k + 1) X.A) (tk : Takes X W) : CaD X c W (.ref (c.cl.at_ kc)) (fun ds => insR kc (Fi ds)) :=
  fun pins s σ H O env ds vs us Q I R rv r p => by
    have n1 : H (s.heap.objs.size + 1) = none := I.hok.fresh (Nat.le_succ _)
    have n2 : H s.heap.objs.size = none := I.hok.fresh (Nat.le_refl _)
    have ne : s.heap.objs.size ≠ s.heap.objs.size + 1 := Nat.ne_of_lt (Nat.lt_succ_self _)
    have I2 := L2.Inv.made (C := c.cl.at_ kc) I
    have hsp : spI X.K c.cl kc Fi (V.ref (s.heap.objs.size + 1) :: vs) (upd (upd H s.heap.objs.size (.own (s.heap.objs.size + 1))) (s.heap.objs.size + 1) (.ins (c.cl.at_ kc) s.heap.objs.size [])) (fun v H2 => v = .non ∧ Q (.ref (s.heap.objs.size + 1)) H2) (WE W σ) := by
      refine ⟨H, _, _, vs, ds, O, rfl, rfl, n1, n2, ne, R.dom, r, ?_⟩
      have p0 : Post X.K c W σ H (RepS X.K c O) (insR kc (Fi ds)) Q := p
      clear p
      cases q : Fi ds with
      | ok z =>
        rw [q] at p0
        have p : Post X.K c W σ H (RepS X.K c O) (.ok (.ins kc z.1 z.2)) Q := p0
        refine fun H' dx' us x e1 e2 e3 => ⟨rfl, p _ H' x ?_⟩
        unfold RepS Rep
        exact ⟨_, dx', us, rfl, by rw [hide_out (R.new n1)]; exact e1, e2, e3⟩
      | ex e l => rw [q] at p0; exact fun H' x => rz_less (c := c) rfl R.sub (fun _ _ _ h => h) (p0 H' x)
      | bad => rw [q] at p0; exact p0
    refine wpAny_call (make_map (f := f) I.kIn M.makes M.init (beq_iff_eq.mp M.fn) (codeAny_mono (Fn _ X.stack _ _ (Value.ref (s.heap.objs.size + 1) :: us) (V.ref (s.heap.objs.size + 1) :: vs) _ (WE W σ) (hr.make (c.cl.at_ kc) us []) (I2.env0.make (c.cl.at_ kc) us []) (.cons rfl rv) hsp) fun r s' hq' => ?_))
    cases r with
    | error e => exact passAt tk σ pins _ _ e s' I2 hq'
    | ok fl =>
      cases fl with
      | ret u =>
        obtain ⟨v, H', I3, rv, ev, q3⟩ := I2.after hq'
        subst ev
        exact ⟨rv, ⟨V.ref (s.heap.objs.size + 1), H', I3, rfl, q3⟩⟩
      | next => exact False.elim hq'
      | brk => exact False.elim hq'
      | cont => exact False.elim hq'
/-- self.f = e within __init__ -/
def sSetF (i : Nat) (f : Str) (fe : En → Res D) : En → Out := fun env => lift (fe env) env fun d => match env[i]? with
  | some (.ow (.ins k ns xs)) => if f ∉ ns ∧ ns.length < 900 then .nx (env.set i (.ow (.ins k (ns ++ [f]) (xs ++ [d])))) else .bad
  | _ => .bad
theorem putF_new {f : Str} {y : V} : ∀ {ns : List Str} {vs : List V}, f ∉ ns → ns.length = vs.length → putF f y (ns.zip vs) = (ns ++ [f]).zip (vs ++ [y])
  | [], [], _, _ => rfl
  | [], _ :: _, _, h => by simp at h
  | _ :: _, [], _, h => by simp at h
  | n :: ns, v :: vs, h, hl => by
    have hn : ¬ n = f := fun z => h (by rw [z]; exact List.mem_cons_self)
    show (if n = f then _ else (n, v) :: putF f y (ns.zip vs)) = (n, v) :: (ns ++ [f]).zip (vs ++ [y])
    rw [if_neg hn, putF_new (fun z => h (List.mem_cons_of_mem _ z)) (by simpa using hl)]
theorem ds_setF (i : Nat) {x f : Str} {pos' p' : Pos} {value : Expr} (kc : Nat) (hv : DE X c W value fe) (C : Cls X.K (c.cl.at_ kc)) (n : NoAttr X.K (c.cl.at_ kc) f) (hN : X.N[i]? = some x := by rfl) (hvi : Vis X.env.scope x := by first | exact Or.inl rfl | exact Or.inr (Or.inl rfl) | exact Or.inr (Or.inr rfl))
    (hs : swapsWith value (some (.Attribute (.Name x p') f pos')) pos.line X.env = pure false := by rfl) (hdb : (x == ("__debug__" : Str)) = false := by decide) (hcd : (x == ("__classdict__" : Str)) = false := by decide) :
    DS X c W (.Assign [.Attribute (.Name x p') f pos'] value pos) (fun env => match env[i]? with | some (.ow (.ins k _ _)) => if k = kc then sSetF i f fe env else .bad | _ => .bad) :=
  ps_imp (ps_fld (pe_var hN hvi hdb hcd) hv hs) fun D σ H ⟨env, O, R, p⟩ => ⟨env, O, R, by
    dsimp only at p
    split at p
    · rename_i k' ns xs he
      by_cases hk : k' = kc
      · rw [if_pos hk] at p
        subst hk
        unfold sSetF at p
        refine post_lift R p fun d v H1 x1 r1 R1 p1 => ?_
        rw [he] at p1
        have p1 : PostS X.K c W O H1 D (if f ∉ ns ∧ ns.length < 900 then .nx (env.set i (.ow (.ins k' (ns ++ [f]) (xs ++ [d])))) else .bad) := p1
        by_cases hf : f ∉ ns ∧ ns.length < 900
        · rw [if_pos hf] at p1
          obtain ⟨a, g1, g2, g3, g4, dx, vs, g5, g6, g7⟩ := R1.ow i _ he
          have hz : (ns.zip vs).length < 1000 := by rw [List.length_zip]; omega
          refine ⟨_, g1, a, _, dx, _, rfl, g5, C, n, hz, ?_⟩
          have hown : OwnAt X.K c.cl (hide O H1) (upd H1 a (.ins (c.cl.at_ k') dx (putF f v (ns.zip vs)))) a (.ins k' (ns ++ [f]) (xs ++ [d])) := by
            refine ⟨dx, vs ++ [v], ?_, by rw [List.length_append, List.length_append, g6]; rfl, reps_app g7 (reps_cons r1 reps_nil)⟩
            rw [upd_same, putF_new hf.1 g6]
          refine p1 σ _ O ?_ (by rw [hide_upd_in g2]; exact Ext.rfl')
          exact R1.own_set he g1 hown fun _ _ _ _ => ⟨_, _, _, rfl⟩
        · rw [if_neg hf] at p1; exact p1.elim
      · rw [if_neg hk] at p; exact p.elim
    · exact p.elim⟩
end
section
variable {P : Program} {w : World} {K : PySem.W.Frag} {mg : Str → Option Value} {base : Heap} {cl : Cl}
def startI (N : List Str) (kc : Nat) (ds : List D) : En := .ow (.ins kc [] []) :: startE N.tail ds
def slot0 : En → Option (Nat × List Str × List D)
  | .ow (.ins k ns xs) :: _ => some (k, ns, xs)
  | _ => none
theorem slot0_get {env : En} {k : Nat} {ns : List Str} {xs : List D} (h : slot0 env = some (k, ns, xs)) : env[0]? = some (.ow (.ins k ns xs)) := by
  unfold slot0 at h
  split at h
  · cases h; rfl
  · cases h
def outI (kc : Nat) : Out → Res (List Str × List D)
  | .nx env => match slot0 env with
    | some (k, ns, xs) => if k = kc then .ok (ns, xs) else .bad
    | none => .bad
  | .xx e p _ => .ex e p
  | _ => .bad
theorem startI_rl {kc : Nat} {O : List Addr} {H1 : Hp} {x dx : Addr} {n0 : Str} {N : List Str} {ds : List D} {ws : List V} (n1 : H1 x = none) (n2 : H1 dx = none) (ne : dx ≠ x) (dom : ∀ a ∈ O, ∃ o, H1 a = some o) (r : Reps K cl (hide O H1) ds ws) :
    Rl K ⟨cl, H1, O, x⟩ (x :: O) (startI (n0 :: N) kc ds) (L2.start (n0 :: N) (.ref x :: ws)) (upd (upd H1 dx (.own x)) x (.ins (cl.at_ kc) dx [])) := by
  have R0 := start_rl (me := x) (N := N) dom r
  have hx : x ∉ O := fun z => by obtain ⟨o, e⟩ := dom x z; rw [n1] at e; cases e
  have e1 : Ext H1 (upd (upd H1 dx (.own x)) x (.ins (cl.at_ kc) dx [])) := fun b o eb => by rw [upd_ne (ne_of_none eb n1), upd_ne (ne_of_none eb n2)]; exact eb
  have e2 : Ext (hide O H1) (hide (x :: O) (upd (upd H1 dx (.own x)) x (.ins (cl.at_ kc) dx []))) := fun b o eb => by
    have nb : b ≠ x := ne_of_none (hide_sub _ _ eb) n1
    have nO : b ∉ O := fun z => by rw [hide_in z] at eb; cases eb
    rw [hide_out (by simp only [List.mem_cons, not_or]; exact ⟨nb, nO⟩)]
    exact e1 _ _ (hide_sub _ _ eb)
  have es : L2.start (n0 :: N) (.ref x :: ws) = some (.ref x) :: L2.start N ws := by
    unfold L2.start
    rw [List.map_cons, List.length_cons, List.length_cons, Nat.add_sub_add_right]
    rfl
  rw [es]
  have key : ∀ (i : Nat) o, (startE N ds)[i]? ≠ some (.ow o) := fun i o z => by
    unfold startE at z
    by_cases hi : i < ds.length
    · rw [List.getElem?_append_left (by rw [List.length_map]; exact hi), List.getElem?_map] at z
      cases q : ds[i]? with
      | none => rw [q] at z; cases z
      | some d => rw [q] at z; cases z
    · rw [List.getElem?_append_right (by rw [List.length_map]; omega), List.getElem?_replicate] at z
      split at z <;> cases z
  refine ⟨?_, e1, fun a h => List.mem_cons_of_mem _ h, fun a h => ?_, fun i d e => ?_, fun i o e => ?_, fun i k ns xs e => ?_, fun i j o u a e3 e4 _ _ => ?_⟩
  · show (startE N ds).length + 1 = (L2.start N ws).length + 1
    rw [R0.len]
  · rcases List.mem_cons.mp h with z | z
    · rw [z]; exact ⟨_, upd_same⟩
    · obtain ⟨o, e⟩ := dom a z; exact ⟨o, e1 _ _ e⟩
  · cases i with
    | zero => cases e
    | succ i =>
      obtain ⟨v, h1, h2⟩ := R0.sh i d e
      exact ⟨v, h1, rep_mono e2 _ _ h2⟩
  · cases i with
    | zero => cases e; exact ⟨x, rfl, List.mem_cons_self, n1, hx, dx, [], upd_same, rfl, reps_nil⟩
    | succ i => exact absurd e (key i o)
  · cases i with
    | zero => rfl
    | succ i => exact absurd e (key i _)
  · cases i with
    | zero => cases j with
      | zero => rfl
      | succ j => exact absurd e4 (key j u)
    | succ i => exact absurd e3 (key i o)
/-- a def by its parts (defaults or none) -/
theorem fnOk_of {CX : CXT} {x qual : Str} {st : Stmt} {f : Addr} {fd : FuncData} {dvs : List V} {kws : List (Str × V)} {N ps : List Str} {k : Nat} {sp : Sp} (F : FunD K x qual (defArgs st) (defBody st) (defScope st) dvs kws f fd) (S : FnScope N ps (defScope st)) (len : ∀ vs H Q E, sp vs H Q E → vs.length = ps.length)
    (hbody : ∀ (cdv : Value) (A : Around) (outer : List PySem.Env) (s : Shared) (H : Hp) (vs : List V) (Q : VK) (E : XK), Room k (A.deeper (envOfC qual (defScope st) s.heap.objs.size f cdv)) → sp vs H Q E →
      ∃ t, PSs (cxOf CX P w K mg base N qual (defScope st) f cdv A outer s H E) (defBody st) t ∧ t { nx := fun _ H' => Q .non H', rt := Q } (L2.start N vs) H) : FnOk P w K mg base CX (k + 1) f fd ps sp := F.ok S len hbody
/-- __init__ -/
theorem fnI_of {x qual : Str} {st : Stmt} {f : Addr} {fd : FuncData} {dvs0 : List V} {kws : List (Str × V)} {n0 : Str} {N ps : List Str} {k kc : Nat} {fb : En → Out} {dd : List D} {dvs : List V} {dus : List Value} (F : FunD K x qual (defArgs st) (defBody st) (defScope st) dvs0 kws f fd) (S : FnScope (n0 :: N) (n0 :: ps) (defScope st)) (hb : Binds K fd (n0 :: ps) dus) (hd : Vals dvs dus) (hr : ∀ H, Reps K cl H dd dvs)
    (body : ∀ (cdv : Value) (A : Around) (outer : List PySem.Env) (s : Shared) (H : Hp) (E : XK) (c : Cc), c.cl = cl → Room k (A.deeper (envOfC qual (defScope st) s.heap.objs.size f cdv)) → DSs (Xb P w K mg base (n0 :: N) qual st f cdv A outer s H E) c (Wb E) (defBody st) fb) :
    FnR P w K mg base (L2.CX P w) (k + 1) f (spI K cl kc fun ds => if ds.length + dd.length = ps.length then outI kc (fb (startI (n0 :: N) kc (ds ++ dd))) else .bad) := by
  have F1 : FnOk P w K mg base (L2.CX P w) (k + 1) f fd (n0 :: ps) (spI K cl kc fun ds => if ds.length = ps.length then outI kc (fb (startI (n0 :: N) kc ds)) else .bad) := by
    refine fnOk_of F S (fun vs H Q E h => ?_) fun cdv A outer s H vs Q E hr h => ?_
    · obtain ⟨H1, x, dx, ws, ds, O, rfl, _, _, _, _, _, r, p⟩ := h
      dsimp only at p
      by_cases hl : ds.length = ps.length
      · rw [List.length_cons, List.length_cons, ← hl, reps_len r]
      · rw [if_neg hl] at p; exact p.elim
    · obtain ⟨H1, x, dx, ws, ds, O, rfl, rfl, n1, n2, ne, dom, r, p⟩ := h
      dsimp only at p
      by_cases hl : ds.length = ps.length
      · rw [if_pos hl] at p
        refine ⟨_, body cdv A outer s _ E ⟨cl, H1, O, x⟩ rfl hr, _, x :: O, startI_rl n1 n2 ne dom r, ?_⟩
        cases q : fb (startI (n0 :: N) kc ds) with
        | nx env =>
          rw [q] at p
          refine fun σ' H' O' R _ => ?_
          unfold outI at p
          dsimp only at p
          cases q0 : slot0 env with
          | none => rw [q0] at p; exact p.elim
          | some z =>
            obtain ⟨kk, ns, xs⟩ := z
            rw [q0] at p
            dsimp only at p
            have he := slot0_get q0
            have g0 := R.me 0 kk ns xs he
            obtain ⟨a, g1, g2, g3, g4, dx', us, g5, g6, g7⟩ := R.ow 0 _ he
            rw [g0] at g1
            cases g1
            by_cases hk : kk = kc
            · rw [if_pos hk] at p
              subst hk
              exact p H' dx' us R.ext g5 g6 (reps_mono (hide_less R.sub) _ _ g7)
            · rw [if_neg hk] at p; exact p.elim
        | xx e l env => rw [q] at p; exact fun σ' H' O' R => rz_less (c := ⟨cl, H1, O, 0⟩) rfl (fun _ h => h) (fun _ _ _ h => h) (p H' R.ext)
        | rt d => rw [q] at p; exact p.elim
        | bk env => rw [q] at p; exact p.elim
        | ct env => rw [q] at p; exact p.elim
        | bad => rw [q] at p; exact p.elim
      · rw [if_neg hl] at p; exact p.elim
  refine FnR.imp (F1.raw hb hd) fun vs H Q E ⟨H1, x, dx, ws, ds, O, e1, e2, n1, n2, ne, dom, r, p⟩ => ⟨H1, x, dx, ws ++ dvs, ds ++ dd, O, by rw [e1]; rfl, e2, n1, n2, ne, dom, reps_app r (hr _), by
    dsimp only at p ⊢
    rw [List.length_append]
    exact p⟩
end
end Dl
namespace Dl
open PySem PySem.Spec PyProof.Rows L2
section
variable {P : Program} {w : World} {K : PySem.W.Frag} {mg : Str → Option Value} {base : Heap} {cl : Cl}
/-- def f(a, .., *v) -/
def starF (n : Nat) (F : List D → Res D) : List D → Res D := fun ds => if n ≤ ds.length ∧ ds.length ≤ 100000 then F (ds.take n ++ [.tup (ds.drop n)]) else .bad
theorem fnD_star {x qual pv : Str} {st : Stmt} {f : Addr} {fd : FuncData} {kws : List (Str × V)} {N ps : List Str} {k : Nat} {fb : En → Out} (F : FunD K x qual (defArgs st) (defBody st) (defScope st) [] kws f fd) (S : FnScope N (ps ++ [pv]) (defScope st))
    (hb : ∀ (kV doc pm : Value) (an : Option Addr) (cdv ct : Value) (us rest : List Value), us.length = ps.length → bindArgs (PySem.W.fnOf x qual (defArgs st) (defBody st) (defScope st) .none kV doc pm an cdv ct) ⟨us ++ rest, []⟩ = (newTuple rest >>= fun t => pure (ps.zip us ++ [(pv, t)])))
    (body : ∀ (cdv : Value) (A : Around) (outer : List PySem.Env) (s : Shared) (H : Hp) (E : XK) (c : Cc), c.cl = cl → Room k (A.deeper (envOfC qual (defScope st) s.heap.objs.size f cdv)) → DSs (Xb P w K mg base N qual st f cdv A outer s H E) c (Wb E) (defBody st) fb) :
    FnD P w K mg base cl (k + 1) f (starF ps.length fun ds => outR (fb (startE N ds))) := by
  obtain ⟨oc, od, dV, kV, doc, pm, an, cdv, ct, osl, rfl, lk, hcd, hD, _⟩ := F.ex
  obtain rfl : dV = .none := by
    rcases hD with ⟨_, rfl⟩ | ⟨e, _⟩
    · rfl
    · exact absurd rfl e
  have F1 := StX.fn_star (P := P) (w := w) (mg := mg) (base := base) (k := k) (sp := spR K cl fun ds => outR (fb (startE N ds))) lk hcd S StX.cxUp (hb kV doc pm an cdv ct) (fun A outer s H vs Q E hr ⟨ds, O, dom, r, p⟩ => ⟨_, body cdv A outer s H E ⟨cl, H, O, 0⟩ rfl hr, body_run (t := tNext) dom r p⟩)
  refine FnR.imp F1 fun vs H Q E ⟨ds, O, dom, r, p⟩ => ?_
  unfold starF at p
  by_cases hl : ps.length ≤ ds.length ∧ ds.length ≤ 100000
  · rw [if_pos hl] at p
    have hlen := reps_len r
    refine ⟨vs.take ps.length, vs.drop ps.length, (List.take_append_drop ..).symm, by rw [List.length_take]; omega, by rw [List.length_drop]; exact line100 (by omega), fun q hq => ?_⟩
    have x := Ext.upd (o := .tup (vs.drop ps.length)) hq
    have hqO : q ∉ O := fun z => by obtain ⟨o, e⟩ := dom q z; rw [hq] at e; cases e
    refine ⟨ds.take ps.length ++ [.tup (ds.drop ps.length)], O, fun a ha => let ⟨o, e⟩ := dom a ha; ⟨o, x _ _ e⟩, reps_app (reps_mono (hide_ext x) _ _ (reps_take _ r)) (reps_cons (rep_tup (Or.inl (Or.inl (hide_new hqO))) (reps_mono (hide_ext x) _ _ (reps_drop _ r))) reps_nil), ?_⟩
    dsimp only at p ⊢
    cases z : outR (fb (startE N (ds.take ps.length ++ [.tup (ds.drop ps.length)]))) with
    | ok d => rw [z] at p; exact fun v H' y rr => p v H' (x.trans y) rr
    | ex e l => rw [z] at p; exact fun H' y => rz_less (c := ⟨cl, H, O, 0⟩) rfl (fun _ h => h) (fun _ _ _ h => h) (p H' (x.trans y))
    | bad => rw [z] at p; exact p
  · rw [if_neg hl] at p; exact p.elim
/-- a def by its parts -/
theorem fnD_ofD {x qual : Str} {st : Stmt} {f : Addr} {fd : FuncData} {dvs0 : List V} {kws : List (Str × V)} {N ps : List Str} {k : Nat} {fb : En → Out} {dd : List D} {dvs : List V} {dus : List Value} (F : FunD K x qual (defArgs st) (defBody st) (defScope st) dvs0 kws f fd) (S : FnScope N ps (defScope st)) (hb : Binds K fd ps dus) (hd : Vals dvs dus) (hr : ∀ H, Reps K cl H dd dvs)
    (body : ∀ (cdv : Value) (A : Around) (outer : List PySem.Env) (s : Shared) (H : Hp) (E : XK) (c : Cc), c.cl = cl → Room k (A.deeper (envOfC qual (defScope st) s.heap.objs.size f cdv)) → DSs (Xb P w K mg base N qual st f cdv A outer s H E) c (Wb E) (defBody st) fb) :
    FnD P w K mg base cl (k + 1) f (fun ds => if ds.length + dd.length = ps.length then outR (fb (startE N (ds ++ dd))) else .bad) := by
  have F1 : FnOk P w K mg base (L2.CX P w) (k + 1) f fd ps (spR K cl fun ds => if ds.length = ps.length then outR (fb (startE N ds)) else .bad) := by
    refine fnOk_of F S (fun vs H Q E h => ?_) fun cdv A outer s H vs Q E hr h => ?_
    · obtain ⟨ds, O, _, r, p⟩ := h
      dsimp only at p
      by_cases hl : ds.length = ps.length
      · rw [← hl, reps_len r]
      · rw [if_neg hl] at p; exact p.elim
    · obtain ⟨ds, O, dom, r, p⟩ := h
      dsimp only at p
      by_cases hl : ds.length = ps.length
      · rw [if_pos hl] at p
        exact ⟨_, body cdv A outer s H E ⟨cl, H, O, 0⟩ rfl hr, body_run (t := tNext) dom r p⟩
      · rw [if_neg hl] at p; exact p.elim
  refine FnR.imp (F1.raw hb hd) fun vs H Q E ⟨ds, O, dom, r, p⟩ => ⟨ds ++ dd, O, dom, reps_app r (hr _), by
    dsimp only at p ⊢
    rw [List.length_append]
    exact p⟩
/-- no defaults: binds -/
theorem fnD_of0 {x qual : Str} {st : Stmt} {f : Addr} {fd : FuncData} {kws : List (Str × V)} {N ps : List Str} {k : Nat} {fb : En → Out} (F : FunD K x qual (defArgs st) (defBody st) (defScope st) [] kws f fd) (S : FnScope N ps (defScope st))
    (h : ∀ (kV doc pm : Value) (an : Option Addr) (cdv ct : Value) (us : List Value), us.length = ps.length → bindArgs (PySem.W.fnOf x qual (defArgs st) (defBody st) (defScope st) .none kV doc pm an cdv ct) ⟨us, []⟩ = pure (ps.zip us))
    (body : ∀ (cdv : Value) (A : Around) (outer : List PySem.Env) (s : Shared) (H : Hp) (E : XK) (c : Cc), c.cl = cl → Room k (A.deeper (envOfC qual (defScope st) s.heap.objs.size f cdv)) → DSs (Xb P w K mg base N qual st f cdv A outer s H E) c (Wb E) (defBody st) fb) :
    FnD P w K mg base cl (k + 1) f (fun ds => if ds.length = ps.length then outR (fb (startE N ds)) else .bad) := by
  have z := fnD_ofD (dd := []) (dvs := []) F S (F.bindsN h) .nil (fun _ => reps_nil) body
  refine FnD.eq z fun ds _ => ?_
  simp
end
section
variable {X : Cx} {c : Cc} {W : WX} {e o : Expr} {es : List Expr} {fs : En → Res (List D)} {pos apos : Pos} {k kc : Nat} {p g : Addr} {F : List D → Res D} {m : Str} {mc : Value}
/-- C.m(..), m a classmethod of C -/
def eCm (kc : Nat) (F : List D → Res D) (fs : En → Res (List D)) : En → Res D := fun env => (fs env).bind fun ds => F (.cls kc :: ds)
theorem de_cm {pl : Sem Bool} (he : PE X o (tC (.ref (c.cl.at_ kc)))) (r : ClX.CRead X.K (c.cl.at_ kc) mc) (cm : ClX.CMet X.K (c.cl.at_ kc) mc m p g) (Fn : FnD X.prog X.w X.K X.mg X.base c.cl k g F) (hr : Room k X.A) (tk : Takes X W) (ha : DA X c W (e :: es) fs)
    (hst : starEach (e :: es) X.env = (false, eval e X.env) :: starEach es X.env := by rfl) (hpl : (backTo pos (starEach es X.env)).any (·.1) = false := by rfl)
    (ht : eval (.Call (.Attribute o m apos) (e :: es) [] pos) X.env = (do
      let ov ← eval o X.env
      standAt apos.atName
      let (f, first) ← holding [ov] (getMethod ov m pl)
      callWith pos f first (backTo pos (starEach (e :: es) X.env)) (backToKw pos (keywordEach [] X.env))) := by rfl) :
    DE X c W (.Call (.Attribute o m apos) (e :: es) [] pos) (eCm kc F fs) := by
  refine ⟨fun pins s σ H Q I ⟨env, O, R, h⟩ => ?_⟩
  refine PySem.W.methodCall_KW (pl := pl) (thn (he.run pins s σ H (fun v H1 => v = .ref (c.cl.at_ kc) ∧ H1 = H) I ⟨rfl, rfl⟩) fun u s1 ⟨v, H1, I1, ru, ev, eH⟩ => ?_) ht
  subst ev
  subst eH
  obtain rfl : u = Value.ref (c.cl.at_ kc) := ru
  refine ClX.getmethcm_ok I1 r cm fun s2 I2 => ?_
  refine ClX.callwith_cm I2 (ClX.base_none I1 (Nat.le_refl _)) cm.fi (thn (ha.run pos _ s2 σ H1 (fun vs H2 => ∃ ds, Rl X.K c O env σ H2 ∧ RepsS X.K c O H2 (.cls kc :: ds) (.ref (c.cl.at_ kc) :: vs) ∧ Post X.K c W σ H2 (RepS X.K c O) (F (.cls kc :: ds)) Q) I2 ⟨env, O, R, post_bind h fun ds vs H2 x2 r2 p2 => ⟨ds, R.mono x2, reps_cons (by unfold Rep; rfl) r2, p2⟩⟩) fun us s3 ⟨vs, H2, I3, rv, ds, R3, r3, q3⟩ => ⟨⟨ClX.pin_at I3, I3.kIn⟩, ?_⟩) hst hpl
  have z : wpAny (model X.prog X.w) X.A (call (.ref s1.heap.objs.size) us) (EP X ((s1.heap.objs.size, PySem.W.methodObj (.ref g) (.ref (c.cl.at_ kc))) :: pins) σ Q) X.xe s3 := by
    refine wpAny_call (PySem.W.method_call (ClX.pin_at I3) ?_)
    refine codeAny_mono (Fn X.A X.stack s3 H2 (.ref (c.cl.at_ kc) :: us) (.ref (c.cl.at_ kc) :: vs) Q (WE W σ) hr I3.env0 (.cons rfl rv) (spR_of R3 r3 q3)) fun r s' hq => ?_
    cases r with
    | error e => exact passAt tk σ _ H2 s3 e s' I3 hq
    | ok fl =>
      cases fl with
      | ret u => exact I3.after hq
      | next => exact False.elim hq
      | brk => exact False.elim hq
      | cont => exact False.elim hq
  exact thn z fun _ _ y => ClX.unpinE y
theorem de_cm0 {pl : Sem Bool} (he : PE X o (tC (.ref (c.cl.at_ kc)))) (r : ClX.CRead X.K (c.cl.at_ kc) mc) (cm : ClX.CMet X.K (c.cl.at_ kc) mc m p g) (Fn : FnD X.prog X.w X.K X.mg X.base c.cl k g F) (hr : Room k X.A) (tk : Takes X W)
    (ht : eval (.Call (.Attribute o m apos) [] [] pos) X.env = (do
      let ov ← eval o X.env
      standAt apos.atName
      let (f, first) ← holding [ov] (getMethod ov m pl)
      callWith pos f first (backTo pos (starEach [] X.env)) (backToKw pos (keywordEach [] X.env))) := by rfl) :
    DE X c W (.Call (.Attribute o m apos) [] [] pos) (eCm kc F aNil) := by
  refine ⟨fun pins s σ H Q I ⟨env, O, R, h⟩ => ?_⟩
  refine PySem.W.methodCall_KW (pl := pl) (thn (he.run pins s σ H (fun v H1 => v = .ref (c.cl.at_ kc) ∧ H1 = H) I ⟨rfl, rfl⟩) fun u s1 ⟨v, H1, I1, ru, ev, eH⟩ => ?_) ht
  subst ev
  subst eH
  obtain rfl : u = Value.ref (c.cl.at_ kc) := ru
  refine ClX.getmethcm_ok I1 r cm fun s2 I2 => ?_
  refine PySem.W.callWith_M0 (first := []) ⟨ClX.pin_at I2, I2.kIn⟩ cm.fi ?_
  have hrep : Reps X.K c.cl (hide O H1) [.cls kc] [.ref (c.cl.at_ kc)] := reps_cons (by unfold Rep; rfl) reps_nil
  have z : wpAny (model X.prog X.w) X.A (call (.ref s1.heap.objs.size) []) (EP X ((s1.heap.objs.size, PySem.W.methodObj (.ref g) (.ref (c.cl.at_ kc))) :: pins) σ Q) X.xe s2 := by
    refine wpAny_call (PySem.W.method_call (ClX.pin_at I2) ?_)
    refine codeAny_mono (Fn X.A X.stack s2 H1 [.ref (c.cl.at_ kc)] [.ref (c.cl.at_ kc)] Q (WE W σ) hr I2.env0 (.cons rfl .nil) (spR_of R hrep h)) fun r s' hq => ?_
    cases r with
    | error e => exact passAt tk σ _ H1 s2 e s' I2 hq
    | ok fl =>
      cases fl with
      | ret u => exact I2.after hq
      | next => exact False.elim hq
      | brk => exact False.elim hq
      | cont => exact False.elim hq
  exact thn z fun _ _ y => ClX.unpinE y
theorem ds_setLc {i : Nat} {y : Str} {py : Pos} {own : List (Str × Nat)} {elt tg iter : Expr} {ifs : List Expr} {scope : Scope} {spos : Pos} {wi : TI} {T : List Nat} {f : En → Res D} {fe : En → Res D} {ft : En → Res Bool} {h : D → En → Option En} (hw : ∀ σ H Q, tE X.K c W f σ H Q → tLc wi (tG X.K c T h) (tTt X.K c W0 ft) (tE X.K c W0 fe) (own.map (·.2)) σ H Q)
    (hc : X.calm = true) (hN : X.N.Nodup) (hi : PI X tg iter wi) (ok : BlkOk X.N X.env.scope scope own)
    (hg : ∀ (s : Shared) (H : Hp) (C : Addr) (cl : List (Str × Addr)) (fp : List Addr), DG (X.blk s H scope (compEnvC scope cl C X.env) fp) c T tg h) (ht : ∀ (s : Shared) (H : Hp) (C : Addr) (cl : List (Str × Addr)) (fp : List Addr), DTs (X.blk s H scope (compEnvC scope cl C X.env) fp) c W0 ifs ft)
    (he : ∀ (s : Shared) (H : Hp) (C : Addr) (cl : List (Str × Addr)) (fp : List Addr), DE (X.blk s H scope (compEnvC scope cl C X.env) fp) c W0 elt fe)
    (hy : X.N[i]? = some y := by rfl) (hyl : X.env.scope.names.lookup y = some .local := by rfl) (hsw : swapsWith (.ListComp elt [⟨tg, iter, ifs, 0⟩] scope pos) (some (.Name y py)) spos.line X.env = pure true := by exact sw_true rfl rfl rfl (by decide +kernel)) (hs : ∀ x, foldedSetIterable iter X.env x = pure x := by intro _; rfl) :
    DS X c W (.Assign [.Name y py] (.ListComp elt [⟨tg, iter, ifs, 0⟩] scope pos) spos) (sAsg f (gV i)) := ps_imp (ps_setLc hc hN hy hyl hsw hi ok hg ht he hs) fun D σ H ⟨env, O, R, p⟩ =>
  hw σ H _ ⟨env, O, R, post_lift R p fun d v H1 x1 r1 R1 p1 => by
    unfold gV at p1
    by_cases hl : i < env.length
    · rw [if_pos hl] at p1; exact p1 _ H1 O (R1.set r1 hl) Ext.rfl'
    · rw [if_neg hl] at p1; exact p1.elim⟩
end
end Dl
namespace Dl
open PySem PySem.Spec PyProof.Rows L2
section
variable {X : Cx} {c : Cc} {W : WX} {a b e t o : Expr} {fa fb fe : En → Res D} {ft : En → Res Bool} {pos p : Pos}
/-! ### + of all kinds, powers -/
def gAddW : D → D → Res D := gAlt gAddI (gAlt gCat (gAlt gCatT gCatS))
theorem ow_addW : OpW X c W (binaryOp .Add) gAddW := ow_addI.alt (ow_cat.alt (ow_catT.alt ow_catS))
instance {i j : Int} : Decidable (CPow i j) := inferInstanceAs (Decidable (_ ∧ _ ∧ _))
def gPowI := gI fun i j => if 0 ≤ j ∧ j ≤ 1000000 ∧ i.natAbs < 2 ^ 64 then .ok (.int (i ^ j.toNat)) else .bad
theorem ow_powI : OpW X c W (binaryOp .Pow) gPowI := opW_I (C := CPow) op_pow fun _ _ _ _ => repS_int
/-! ### isinstance, by classes -/
def isiB (T : String) : Tg → Option Bool
  | .non => some (T == "NoneType")
  | .bl => some (T == "bool" || T == "int")
  | .int => some (T == "int")
  | .str => some (T == "str")
  | .tup => some (T == "tuple")
  | .lst => some (T == "list")
  | .dic => some (T == "dict")
  | .ins _ => none
def isiT_str := isiB "str"
def isiT_int := isiB "int"
def isiT_bool := isiB "bool"
def isiT_tuple := isiB "tuple"
def isiT_list := isiB "list"
def isiT_dict := isiB "dict"
theorem isiT_str_ok {K : PySem.W.Frag} {cl : Cl} : ∀ tg r, isiT_str tg = some r → PySem.W.kitOne K (tgV cl tg) (.type "str") = some r := fun tg r h => by
  cases tg <;> cases h <;> exact kit_ty (by decide +kernel)
theorem isiT_int_ok {K : PySem.W.Frag} {cl : Cl} : ∀ tg r, isiT_int tg = some r → PySem.W.kitOne K (tgV cl tg) (.type "int") = some r := fun tg r h => by
  cases tg <;> cases h <;> exact kit_ty (by decide +kernel)
theorem isiT_bool_ok {K : PySem.W.Frag} {cl : Cl} : ∀ tg r, isiT_bool tg = some r → PySem.W.kitOne K (tgV cl tg) (.type "bool") = some r := fun tg r h => by
  cases tg <;> cases h <;> exact kit_ty (by decide +kernel)
theorem isiT_tuple_ok {K : PySem.W.Frag} {cl : Cl} : ∀ tg r, isiT_tuple tg = some r → PySem.W.kitOne K (tgV cl tg) (.type "tuple") = some r := fun tg r h => by
  cases tg <;> cases h <;> exact kit_ty (by decide +kernel)
theorem isiT_list_ok {K : PySem.W.Frag} {cl : Cl} : ∀ tg r, isiT_list tg = some r → PySem.W.kitOne K (tgV cl tg) (.type "list") = some r := fun tg r h => by
  cases tg <;> cases h <;> exact kit_ty (by decide +kernel)
theorem isiT_dict_ok {K : PySem.W.Frag} {cl : Cl} : ∀ tg r, isiT_dict tg = some r → PySem.W.kitOne K (tgV cl tg) (.type "dict") = some r := fun tg r h => by
  cases tg <;> cases h <;> exact kit_ty (by decide +kernel)
def isiT_lt : Tg → Option Bool
  | .ins _ => none
  | .tup => some true
  | .lst => some true
  | _ => some false
theorem isiT_lt_ok {K : PySem.W.Frag} {cl : Cl} : ∀ tg r, isiT_lt tg = some r → PySem.W.kitAny K (tgV cl tg) [.type "list", .type "tuple"] = some r := fun tg r h => by
  have k : ∀ (a : String) (r1 r2 : Bool), PySem.W.kitOne K (.type a) (.type "list") = some r1 → PySem.W.kitOne K (.type a) (.type "tuple") = some r2 → PySem.W.kitAny K (.type a) [.type "list", .type "tuple"] = some (r1 || r2) := fun a r1 r2 h1 h2 => by
    show (match PySem.W.kitOne K (.type a) (.type "list") with | _ => _) = _
    simp only [PySem.W.kitAny, h1, h2]
    cases r1 <;> cases r2 <;> rfl
  cases tg <;> cases h
  · exact k "NoneType" false false (kit_ty (by decide +kernel)) (kit_ty (by decide +kernel))
  · exact k "bool" false false (kit_ty (by decide +kernel)) (kit_ty (by decide +kernel))
  · exact k "int" false false (kit_ty (by decide +kernel)) (kit_ty (by decide +kernel))
  · exact k "str" false false (kit_ty (by decide +kernel)) (kit_ty (by decide +kernel))
  · exact k "tuple" false true (kit_ty (by decide +kernel)) (kit_ty (by decide +kernel))
  · exact k "list" true false (kit_ty (by decide +kernel)) (kit_ty (by decide +kernel))
  · exact k "dict" false false (kit_ty (by decide +kernel)) (kit_ty (by decide +kernel))
def isiC (k : Nat) : Tg → Option Bool
  | .ins j => if j = k then some true else none
  | _ => none
theorem isiC_ok {K : PySem.W.Frag} {cl : Cl} {k : Nat} : ∀ tg r, isiC k tg = some r → PySem.W.kitOne K (tgV cl tg) (.ref (cl.at_ k)) = some r := fun tg r h => by
  cases tg with
  | ins j =>
    unfold isiC at h
    dsimp only at h
    by_cases e : j = k
    · subst e; rw [if_pos rfl] at h; cases h
      show (if (Value.ref (cl.at_ j) == Value.ref (cl.at_ j)) = true then some true else _) = _
      rw [if_pos (by simp)]
    · rw [if_neg e] at h; cases h
  | _ => cases h
theorem isiC_in {K : PySem.W.Frag} {cl : Cl} {k : Nat} (h : InsTy K (cl.at_ k)) : ∀ j r, isiC k (.ins j) = some r → InsTy K (cl.at_ j) := fun j r e => by
  unfold isiC at e
  dsimp only at e
  by_cases q : j = k
  · subst q; exact h
  · rw [if_neg q] at e; cases e
/-! ### constants of the module: a tuple of texts -/
theorem tupK_rep {K : PySem.W.Frag} {a : Addr} {xs : List Str} (h : ∃ (o : Obj) (its : Array Value) (n : Nat), K.lookup a = some o ∧ o.cls = .type "tuple" ∧ o.data = .seq its n ∧ its.size ≤ sizeLine ∧ Vals (xs.map V.str) its.toList) (O : List Addr) (H : Hp) : RepS K c O H (.tup (xs.map D.str)) (.ref a) := by
  have q : ∀ (ys : List Str), Reps K c.cl (hide O H) (ys.map D.str) (ys.map V.str) := fun ys => by
    induction ys with
    | nil => exact reps_nil
    | cons y ys ih => exact reps_cons (by unfold Rep; rfl) ih
  exact rep_tup (Or.inr h) (q xs)
/-! ### not, of an instance by its length, as a value -/
theorem de_notO {k kc : Nat} {f : Addr} {F : List D → Res D} (h : DE X c W e fe) (Fn : FnD X.prog X.w X.K X.mg X.base c.cl k f F) (hr : Room (k + 1) X.A) (tk : Takes X W) (hb : PySem.W.findIn X.K (.ref (c.cl.at_ kc)) "__bool__" = some none) (hs : PySem.W.findIn X.K (.ref (c.cl.at_ kc)) "__len__" = some (some (.ref f))) (hi : PySem.W.isFn X.K (.ref f) = true) : DE X c W (.UnaryOp .Not e pos) (eNotT (fun env => (fe env).bind (truOwn kc F))) := by
  refine ⟨fun pins s σ H Q I ⟨env, O, R, p⟩ => ?_⟩
  have p' : Post X.K c W σ H (RepS X.K c O) ((fe env).bind fun d => (truOwn kc F d).bind fun k => .ok (.bl (!k))) Q := by
    unfold eNotT at p
    dsimp only at p
    cases z : fe env with
    | ok d => rw [z] at p; exact p
    | ex _ _ => rw [z] at p; exact p
    | bad => rw [z] at p; exact p
  refine UnaryOp_ (thn (h.run pins s σ H (fun v H1 => ∃ d, Rl X.K c O env σ H1 ∧ RepS X.K c O H1 d v ∧ Post X.K c W σ H1 (RepS X.K c O) ((truOwn kc F d).bind fun k => .ok (.bl (!k))) Q) I ⟨env, O, R, post_bind p' fun d v H1 x1 r1 p1 => ⟨d, R.mono x1, r1, p1⟩⟩) fun u s1 ⟨v, H1, I1, ru, d, R1, r1, p1⟩ => ?_)
  unfold truOwn at p1
  split at p1
  · rename_i k' ns xs
    by_cases hk : k' = kc
    · rw [if_pos hk] at p1
      subst hk
      refine not_of (tru_own (Q := fun v H' => ∃ b, v = .bl b ∧ Q (.bl (!b)) H') Fn hr.in1 I1.env0.in1 tk hb hs hi I1 R1 ru r1 ?_ fun b H' s' I' ⟨b', e', q⟩ => ⟨.bl (!b), H', I', rfl, by cases e'; exact q⟩)
      cases z : lenI (F [.ins k' ns xs]) with
      | ok n => rw [z] at p1; exact fun v H' x r => ⟨n != 0, RepW.bl (.inl r), p1 _ H' x repS_bl⟩
      | ex _ _ => rw [z] at p1; exact p1
      | bad => rw [z] at p1; exact p1.elim
    · rw [if_neg hk] at p1; exact p1.elim
  · exact p1.elim
end
section
variable {P : Program} {w : World} {K : PySem.W.Frag} {mg : Str → Option Value} {base : Heap} {cl : Cl} {k kc n : Nat} {f : Addr} {F G : List D → Res (List Str × List D)}
theorem fnI_two (hF : FnR P w K mg base (L2.CX P w) k f (spI K cl kc F)) (hG : FnR P w K mg base (L2.CX P w) k f (spI K cl kc G)) : FnR P w K mg base (L2.CX P w) k f (spI K cl kc fun ds => if ds.length = n then F ds else G ds) := by
  intro A outer s H us vs Q E hr e0 rv ⟨H1, x, dx, ws, ds, O, e1, e2, n1, n2, ne, dom, r, p⟩
  by_cases h : ds.length = n
  · dsimp only at p
    rw [if_pos h] at p
    exact hF A outer s H us vs Q E hr e0 rv ⟨H1, x, dx, ws, ds, O, e1, e2, n1, n2, ne, dom, r, p⟩
  · dsimp only at p
    rw [if_neg h] at p
    exact hG A outer s H us vs Q E hr e0 rv ⟨H1, x, dx, ws, ds, O, e1, e2, n1, n2, ne, dom, r, p⟩
end
section
/-- self.f = e within __init__, by the class of self -/
def sSetFk (kc i : Nat) (f : Str) (fe : En → Res D) : En → Out := fun env => match env[i]? with | some (.ow (.ins k _ _)) => if k = kc then sSetF i f fe env else .bad | _ => .bad
end
end Dl
namespace Dl
open PySem PySem.Spec PyProof.Rows L2
section
variable {P : Program} {w : World} {K : PySem.W.Frag} {mg : Str → Option Value} {base : Heap} {cl : Cl}
/-- what is wished of the law itself -/
def spL (K : PySem.W.Frag) : Sp := fun vs H Q _ => ∃ (a : Addr) (ns : List Int), vs = [V.ref a] ∧ SqL K H a (ns.map V.int) ∧ ns.length ≤ 63 ∧ ∀ H', Q (.bl true) H'
theorem law_fn {x qual pr : Str} {st : Stmt} {f : Addr} {fd : FuncData} {kws : List (Str × V)} {N : List Str} {k : Nat} {fb : En → Out} (F : FunD K x qual (defArgs st) (defBody st) (defScope st) [] kws f fd) (S : FnScope N [pr] (defScope st))
    (body : ∀ (cdv : Value) (A : Around) (outer : List PySem.Env) (s : Shared) (H : Hp) (E : XK) (c : Cc), c.cl = cl → Room k (A.deeper (envOfC qual (defScope st) s.heap.objs.size f cdv)) → DSs (Xb P w K mg base N qual st f cdv A outer s H E) c (Wb E) (defBody st) fb)
    (ht : ∀ ns : List Int, ns.length ≤ 63 → outR (fb (startE N [.scr ns])) = .ok (.bl true)) :
    FnOk P w K mg base (L2.CX P w) (k + 1) f fd [pr] (spL K) := by
  refine fnOk_of F S (fun vs H Q E ⟨a, ns, e, _⟩ => by rw [e]; rfl) fun cdv A outer s H vs Q E hr ⟨a, ns, e, hS, hl, hQ⟩ => ?_
  have hid : Ext H (hide [] H) := fun b o e => by unfold hide; rw [if_neg (by simp)]; exact e
  refine ⟨_, body cdv A outer s H E ⟨cl, H, [], 0⟩ rfl hr, body_run (O := []) (ds := [.scr ns]) (t := tNext) (fun _ h => nomatch h) ?_ ?_⟩
  · rw [e]
    exact reps_cons (by unfold Rep; exact ⟨a, rfl, hS.ext hid⟩) reps_nil
  · rw [ht ns hl]
    intro v H' _ r
    unfold Rep at r
    subst r
    exact hQ H'
end
theorem law_walk {l : PySem.W.OpenLaw} {q : Program} {loose : List Str} {XP : (Str → Option Value) → Heap → Prop} {YP : World → Heap → Prop} {d : DefRec} {K : Params → PySem.W.Frag} {k : Nat} {pr : Str} (hn : l.most = some 63) (hdf : d.params.defaults = []) (hr : Room k callerA)
    (hY : ∀ (w : World) (h : Heap), YP w h → (K w.params).In h)
    (F : ∀ (w : World) (mg : Str → Option Value) (fa : Addr) (h : Heap), (K w.params).In h → h.Ns mainGlobals mg → mg d.name = some (.ref fa) →
      ∃ fd : FuncData, (∀ (s : Shared) (u : Value), BindsTo s fd ⟨[u], []⟩ [(pr, u)]) ∧ ∀ base : Heap, (K w.params).In base → base.Ns mainGlobals mg → FnOk l.prog w (K w.params) mg base (L2.CX l.prog w) k fa fd [pr] (spL (K w.params))) :
    PySem.W.WalkO q loose XP YP l.row.toRowW d [] (fun f vs => PySem.call f vs) :=
  L2.walk_of (n := 63) (k := k) (x := pr) (CX := fun w => L2.CX l.prog w) (sp := fun w => spL (K w.params)) hn (by decide) hdf hr hY F (fun _ _ a ns hl _ hS => ⟨a, ns, rfl, hS, hl, fun _ => rfl⟩) fun _ _ _ _ _ ⟨_, _, _, _, _, _, _, _, _, _, _, _, h⟩ => h
end Dl
namespace Dl
open PySem PySem.Spec PyProof.Rows L2
section
variable {X : Cx} {c : Cc} {W : WX} {a b e t o : Expr} {es : List Expr} {fa fb fe ff : En → Res D} {fs : En → Res (List D)} {ft : En → Res Bool} {pos pos3 p p2 : Pos} {x m : Str}
/-! ### raise X('..') of an own class -/
def sRaise (k : Nat) : En → Out := fun env => .xx k [] env
/-- what of an error's class the text must have -/
structure ErrC (K : PySem.W.Frag) (C : Addr) : Prop where
  ex : PySem.W.excIn K C [Value.type "ValueError", Value.type "Exception", Value.type "BaseException", Value.type "object"] "ValueError.__new__" = true
  kp : PySem.W.keepIn K (.ref C) = true
  sub : PySem.W.subIn K (.ref C) (.type "BaseException") = some true
  ty : PySem.W.typeIn K (.ref C) = some (.type "type")
theorem ds_raise {k : Nat} {C : Addr} {j} (hC : ErrC X.K C) (hx : c.cl.xv k = .ref C) (hm : X.mg x = some (.ref C)) (hc : X.calm = true) (tk : Takes X W) (hg : Gl X x := by rfl) (hdb : (x == ("__debug__" : Str)) = false := by decide) :
    DS X c W (.Raise (some (.Call (.Name x p) [.Constant (.str m) j p2] [] pos3)) none pos) (sRaise k) :=
  ps_imp (ps_raise hc tk (pmk_own PySem.F.excBase_ValueError hC.ex hm hC.kp (raises_own hC.sub hC.ty) hg hdb)) fun D σ H ⟨env, O, R, q⟩ => by
    have z : Rz X.K c W k [] σ H := q σ H O R
    unfold Rz at z
    rw [hx] at z
    exact z
/-! ### try .. except X -/
/-- which of the errors are of the class that is caught -/
def sTry (ex : Nat → Option Bool) (f g : En → Out) : En → Out := fun env => match f env with
  | .xx k [] env' => match ex k with
    | some true => (match g env' with | .rt d => .rt d | _ => .bad)
    | some false => .xx k [] env'
    | none => .bad
  | .xx _ _ _ => .bad
  | r => r
theorem ds_try {ex : Nat → Option Bool} {cv : Value} {body suite : List Stmt} {b₀ : Stmt} {np pos' : Pos} {f g : En → Out} (h1 : X.stack = X.env :: X.outer) (h2 : X.env.frame = some X.env.locals) (hn : Names X x cv) (tk : Takes X W)
    (hx : ∀ k r, ex k = some r → PySem.W.exmOne X.K (c.cl.xv k) cv = some r)
    (hb : ∀ (W : WX) (pn : List (Addr × Obj)) (xe : Value → Shared → Prop), Takes (X.tr pn xe) W → PassesOwn (model X.prog X.w) X.A X.env xe → DSs (X.tr pn xe) c W body f)
    (hs : ∀ (a : Addr) (oe : Obj) (pn : List (Addr × Obj)), DSs (X.suite a ((a, oe) :: pn)) c W0 (b₀ :: suite) g) :
    DS X c W (.Try body [.ExceptHandler (some (.Name x np)) none (b₀ :: suite) pos'] [] [] pos) (sTry ex f g) :=
  ps_imp (ps_try_only (tb := fun W => tS X.K c W f) (ts := fun _ _ _ => tS X.K c W0 g) h1 h2 hn tk hb fun a oe cls d pn _ _ => hs a oe pn) fun D σ H ⟨env, O, R, p⟩ => ⟨env, O, R, by
    unfold sTry at p
    cases q : f env with
    | nx e => rw [q] at p; exact p
    | rt d => rw [q] at p; exact p
    | bk e => rw [q] at p; exact p
    | ct e => rw [q] at p; exact p
    | bad => rw [q] at p; exact p
    | xx k l e =>
      rw [q] at p
      cases l with
      | cons _ _ => exact p.elim
      | nil =>
        dsimp only at p
        intro σ' H' O' R'
        unfold Rz
        cases z : ex k with
        | none => rw [z] at p; exact p.elim
        | some r =>
          rw [z] at p
          refine ⟨r, hx k r z, fun hr a ha => ?_, fun hr => ?_⟩
          · subst hr
            dsimp only at p
            refine ⟨e, O', R', ?_⟩
            cases y : g e with
            | rt d => rw [y] at p; exact p
            | nx _ => rw [y] at p; exact p.elim
            | bk _ => rw [y] at p; exact p.elim
            | ct _ => rw [y] at p; exact p.elim
            | bad => rw [y] at p; exact p.elim
            | xx _ _ _ => rw [y] at p; exact p.elim
          · subst hr
            exact p σ' H' O' R'⟩
end
end Dl
namespace Dl
open PySem PySem.Spec PyProof.Rows L2
section
variable {X : Cx} {c : Cc} {W : WX} {a b e t o : Expr} {es : List Expr} {fa fb fe ff fc : En → Res D} {fs : En → Res (List D)} {ft : En → Res Bool} {pos p p2 : Pos} {x m : Str}
/-! ### a <= b < c, of whole numbers -/
def eChain (g g' : Int → Int → Bool) (fa fb fc : En → Res D) : En → Res D := fun env => (fa env).bind fun x => (fb env).bind fun y => match x, y with
  | .int i, .int j => if g i j = true then (fc env).bind fun z => (match z with | .int k => .ok (.bl (g' j k)) | _ => .bad) else .ok (.bl false)
  | _, _ => .bad
theorem chain_t {K : PySem.W.Frag} {g g' : Int → Int → Bool} {σ : L2.St} {H : Hp} {Q : VK} (h : tE K c W (eChain g g' fa fb fc) σ H Q) :
    tChain (rI0 fun i j => .bl (g i j)) (rI0 fun i j => .bl (g' i j)) (tE K c W fa) (tE K c W fb) (tE K c W fc) σ H Q := by
  obtain ⟨env, O, R, p⟩ := h
  refine ⟨env, O, R, post_bind p fun d v H1 x1 r1 p1 => ⟨env, O, R.mono x1, post_bind p1 fun d2 v2 H2 x2 r2 p2 => ?_⟩⟩
  cases d with
  | int i => cases d2 with
    | int j =>
      refine ⟨i, j, RepW.int (.inl (r1.mono x2)), RepW.int (.inl r2), g i j, rfl, ?_⟩
      dsimp only at p2
      by_cases h : g i j = true
      · rw [if_pos h] at p2
        rw [if_pos h]
        refine ⟨env, O, (R.mono x1).mono x2, post_bind p2 fun d3 v3 H3 x3 r3 p3 => ?_⟩
        cases d3 with
        | int k => exact ⟨j, k, RepW.int (.inl (RepS.mono r2 x3)), RepW.int (.inl r3), post_now p3 repS_bl⟩
        | _ => exact p3.elim
      · rw [if_neg h] at p2
        rw [if_neg h]
        exact post_now p2 repS_bl
    | _ => exact p2.elim
  | _ => cases d2 <;> exact p2.elim
def cLe (i j : Int) : Bool := decide (i ≤ j)
def cLt (i j : Int) : Bool := decide (i < j)
theorem or_le : OpR X (compareOp .LtE) (rI0 fun i j => .bl (cLe i j)) := op_le
theorem or_lt : OpR X (compareOp .Lt) (rI0 fun i j => .bl (cLt i j)) := op_lt
theorem de_chain {e1 e2 e3 : Expr} {op op' : CmpOp} {g g' : Int → Int → Bool} (h1 : OpR X (compareOp op) (rI0 fun i j => .bl (g i j))) (h2 : OpR X (compareOp op') (rI0 fun i j => .bl (g' i j))) (ha : DE X c W e1 fa) (hb : DE X c W e2 fb) (hc : DE X c W e3 fc)
    (hm : lastMarks [op, op'] [e2, e3] = false := by first | rfl | decide) : DE X c W (.Compare e1 [op, op'] [e2, e3] pos) (eChain g g' fa fb fc) :=
  pe_imp (pe_chain h1 h2 ha hb hc hm) fun σ H Q h => chain_t h
theorem dt_chain {e1 e2 e3 : Expr} {op op' : CmpOp} {g g' : Int → Int → Bool} (h1 : OpR X (compareOp op) (rI0 fun i j => .bl (g i j))) (h2 : OpR X (compareOp op') (rI0 fun i j => .bl (g' i j))) (ha : DE X c W e1 fa) (hb : DE X c W e2 fb) (hc : DE X c W e3 fc)
    (hm : lastMarks [op, op'] [e2, e3] = false := by first | rfl | decide) : DT X c W (.Compare e1 [op, op'] [e2, e3] pos) (eB (eChain g g' fa fb fc)) :=
  pt_imp (pt_chain h1 h2 ha hb hc hm) fun σ H Q ⟨env, O, R, p⟩ => chain_t ⟨env, O, R, post_bind p fun d v H1 x1 r1 p1 => by
    cases d with
    | bl k => exact ⟨k, RepW.bl (.inl r1), post_now p1 rfl⟩
    | _ => exact p1.elim⟩
/-! ### a dict of the module's top, with texts as keys -/
structure TopD (X : Cx) (x : Str) (d : Addr) (tab : List (Str × D)) : Prop where
  mg : X.mg x = some (.ref d)
  kd : ∃ es n, KDict X.K X.w d es n
  no : ∀ z, tab.lookup z = none → PySem.W.nsIn X.K d z = some none
  is_ : ∀ z y, tab.lookup z = some y → ∃ (u : Value) (v : V), PySem.W.nsIn X.K d z = some (some u) ∧ RelV v u ∧ ∀ (cl : Cl) (H : Hp), Rep X.K cl H y v
def gTopIn (tab : List (Str × D)) (neg : Bool) : D → Res D
  | .str z => .ok (.bl (if neg then !(tab.lookup z).isSome else (tab.lookup z).isSome))
  | _ => .bad
def gTopAt (tab : List (Str × D)) : D → Res D
  | .str z => match tab.lookup z with
    | some y => .ok y
    | none => .bad
  | _ => .bad
theorem top_v {x : Str} {d : Addr} {tab : List (Str × D)} (T : TopD X x d tab) (hg : Gl X x) (hd : (x == ("__debug__" : Str)) = false) : PE X (.Name x p) (tC (.ref d)) := pe_glob hg T.mg rfl hd
end
section
variable {X : Cx} {c : Cc} {W : WX} {a : Expr} {fa : En → Res D} {pos p : Pos} {x : Str} {d : Addr} {tab : List (Str × D)}
theorem top_run {f : Value → Value → Sem Value} {g : D → Res D} (ha : DE X c W a fa) (T : TopD X x d tab) (hg : Gl X x) (hd : (x == ("__debug__" : Str)) = false)
    (ho : ∀ (pins : List (Addr × Obj)) (s : Shared) (σ : L2.St) (H : Hp) (O : List Addr) (y : D) (v u : Value) (vy : V) (Q : VK), L2.Inv X pins σ H s → RelV vy v → u = .ref d → RepS X.K c O H y vy → Post X.K c W σ H (RepS X.K c O) (g y) Q → wpAny (model X.prog X.w) X.A (f v u) (EP X pins σ Q) X.xe s)
    {pins : List (Addr × Obj)} {s : Shared} {σ : L2.St} {H : Hp} {Q : VK} (I : L2.Inv X pins σ H s) (h : tE X.K c W (eAt g fa) σ H Q) :
    wpAny (model X.prog X.w) X.A (eval a X.env) (fun v s₁ => wpAny (model X.prog X.w) X.A (eval (.Name x p) X.env) (fun u s₂ => wpAny (model X.prog X.w) X.A (f v u) (EP X pins σ Q) X.xe s₂) X.xe s₁) X.xe s := by
  obtain ⟨env, O, R, q⟩ := h
  refine bin (R := fun vy vd H2 => ∃ y, vd = .ref d ∧ RepS X.K c O H2 y vy ∧ Post X.K c W σ H2 (RepS X.K c O) (g y) Q) ha (top_v (p := p) T hg hd) I ?_ fun v u s2 vy vd H2 I2 ry rd ⟨y, e, r, q2⟩ => ?_
  · exact ⟨env, O, R, post_bind q fun y vy H1 x1 r1 p1 => ⟨y, rfl, r1, p1⟩⟩
  · subst e
    exact ho pins s2 σ H2 O y v u vy Q I2 ry rd r q2
theorem topIn_op {neg : Bool} (T : TopD X x d tab) : ∀ (pins : List (Addr × Obj)) (s : Shared) (σ : L2.St) (H : Hp) (O : List Addr) (y : D) (v u : Value) (vy : V) (Q : VK), L2.Inv X pins σ H s → RelV vy v → u = .ref d → RepS X.K c O H y vy → Post X.K c W σ H (RepS X.K c O) (gTopIn tab neg y) Q → wpAny (model X.prog X.w) X.A (compareOp (if neg then .NotIn else .In) v u) (EP X pins σ Q) X.xe s := by
  intro pins s σ H O y v u vy Q I ry eu r q
  subst eu
  cases y with
  | str z =>
    obtain rfl := RepW.str (.inl r)
    obtain ⟨es, n, KD⟩ := T.kd
    have h : ∃ r0 : Option Value, PySem.W.nsIn X.K d z = some r0 ∧ r0.isSome = (tab.lookup z).isSome := by
      cases e : tab.lookup z with
      | none => exact ⟨none, T.no z e, rfl⟩
      | some y => obtain ⟨u, v, h1, _⟩ := T.is_ z y e; exact ⟨some u, h1, rfl⟩
    obtain ⟨r0, h1, h2⟩ := h
    have q : Post X.K c W σ H (RepS X.K c O) (.ok (.bl (if neg then !(tab.lookup z).isSome else (tab.lookup z).isSome))) Q := q
    rw [← h2] at q
    cases neg with
    | false => exact op_in_kd KD pins s σ H (.str z) (.ref d) v (.ref d) Q I ry rfl ⟨z, r0, rfl, rfl, h1, post_now q repS_bl⟩
    | true => exact op_notIn_kd KD pins s σ H (.str z) (.ref d) v (.ref d) Q I ry rfl ⟨z, r0, rfl, rfl, h1, post_now q repS_bl⟩
  | _ => exact q.elim
theorem pc_topIn (T : TopD X x d tab) (ha : DE X c W a fa) (hg : Gl X x) (hd : (x == ("__debug__" : Str)) = false) : PC X .In a (.Name x p) (tE X.K c W (eAt (gTopIn tab false) fa)) :=
  ⟨fun pins s σ H Q I h => top_run ha T hg hd (topIn_op (neg := false) T) I h⟩
theorem pc_topNotIn (T : TopD X x d tab) (ha : DE X c W a fa) (hg : Gl X x) (hd : (x == ("__debug__" : Str)) = false) : PC X .NotIn a (.Name x p) (tE X.K c W (eAt (gTopIn tab true) fa)) :=
  ⟨fun pins s σ H Q I h => top_run ha T hg hd (topIn_op (neg := true) T) I h⟩
theorem de_topIn (T : TopD X x d tab) (ha : DE X c W a fa) (hg : Gl X x := by rfl) (hd : (x == ("__debug__" : Str)) = false := by decide) (hm : behindInMarks .In (.Name x p) = false := by first | exact nobehind _ (by decide) (by decide) | rfl) : DE X c W (.Compare a [.In] [.Name x p] pos) (eAt (gTopIn tab false) fa) :=
  pe_cmp (pc_topIn T ha hg hd) hm
theorem de_topNotIn (T : TopD X x d tab) (ha : DE X c W a fa) (hg : Gl X x := by rfl) (hd : (x == ("__debug__" : Str)) = false := by decide) (hm : behindInMarks .NotIn (.Name x p) = false := by first | exact nobehind _ (by decide) (by decide) | rfl) : DE X c W (.Compare a [.NotIn] [.Name x p] pos) (eAt (gTopIn tab true) fa) :=
  pe_cmp (pc_topNotIn T ha hg hd) hm
theorem bl_t {f : En → Res D} {σ : L2.St} {H : Hp} {Q : Bool → Hp → Prop} (h : tTt X.K c W (eB f) σ H Q) : tE X.K c W f σ H (fun v H1 => ∃ b, v = .bl b ∧ Q b H1) := by
  obtain ⟨env, O, R, p⟩ := h
  exact ⟨env, O, R, post_bind p fun d v H1 x1 r1 p1 => by
    cases d with
    | bl k => exact ⟨k, RepW.bl (.inl r1), post_now p1 rfl⟩
    | _ => exact p1.elim⟩
theorem dt_topIn (T : TopD X x d tab) (ha : DE X c W a fa) (hg : Gl X x := by rfl) (hd : (x == ("__debug__" : Str)) = false := by decide) (hm : behindInMarks .In (.Name x p) = false := by first | exact nobehind _ (by decide) (by decide) | rfl) : DT X c W (.Compare a [.In] [.Name x p] pos) (eB (eAt (gTopIn tab false) fa)) :=
  pt_imp (pt_cmp (pc_topIn T ha hg hd) hm) fun σ H Q h => bl_t h
theorem dt_topNotIn (T : TopD X x d tab) (ha : DE X c W a fa) (hg : Gl X x := by rfl) (hd : (x == ("__debug__" : Str)) = false := by decide) (hm : behindInMarks .NotIn (.Name x p) = false := by first | exact nobehind _ (by decide) (by decide) | rfl) : DT X c W (.Compare a [.NotIn] [.Name x p] pos) (eB (eAt (gTopIn tab true) fa)) :=
  pt_imp (pt_cmp (pc_topNotIn T ha hg hd) hm) fun σ H Q h => bl_t h
end
end Dl
namespace Dl
open PySem PySem.Spec PyProof.Rows L2
section
variable {X : Cx} {c : Cc} {W : WX} {a b e t o : Expr} {es : List Expr} {fa fb fe ff fc : En → Res D} {fs : En → Res (List D)} {ft : En → Res Bool} {pos p p2 : Pos} {x m : Str} {d : Addr} {tab : List (Str × D)}
/-- TABLE[e] -/
theorem de_topAt (T : TopD X x d tab) (hb : DE X c W b fb) (hg : Gl X x := by rfl) (hd : (x == ("__debug__" : Str)) = false := by decide) (hs : PlainIx b := by exact fun _ _ => rfl) : DE X c W (.Subscript (.Name x p) b pos) (eAt (gTopAt tab) fb) :=
  pe_imp (pe_ix ix_kdict (top_v (p := p) T hg hd) hb hs) fun σ H Q ⟨env, O, R, q⟩ => by
    show tE X.K c W fb σ H _
    exact ⟨env, O, R, post_bind q fun y vy H1 x1 r1 p1 => by
      cases y with
      | str z =>
        obtain rfl := RepW.str (.inl r1)
        obtain ⟨es, n, KD⟩ := T.kd
        have p1 : Post X.K c W σ H1 (RepS X.K c O) (match tab.lookup z with | some y => Res.ok y | none => .bad) Q := p1
        cases e : tab.lookup z with
        | none => rw [e] at p1; exact p1.elim
        | some y =>
          rw [e] at p1
          obtain ⟨u, v, h1, h2, h3⟩ := T.is_ z y e
          exact ⟨d, z, v, rfl, rfl, ⟨es, n, u, KD.at_, KD.lit, h1, h2⟩, post_now p1 (h3 _ _)⟩
      | _ => exact p1.elim⟩
/-- a number of the module's top -/
theorem de_globI {i : Int} (h : ∃ t, X.mg x = some (.int i t)) (hg : Gl X x := by rfl) (hd : (x == ("__debug__" : Str)) = false := by decide) : DE X c W (.Name x p) (eC (.int i)) := by
  obtain ⟨t, h⟩ := h
  exact de_glob (v := .int i) h ⟨t, rfl⟩ (fun _ _ => repS_int) hg hd
end
/-- the entries of a written table, beside what they are read as -/
inductive Rows (K : PySem.W.Frag) : List DictEntry → List (Str × D) → Prop where
  | nil : Rows K [] []
  | cons {e : DictEntry} {es : List DictEntry} {k : Str} {t : Tok} {v : V} {y : D} {tab : List (Str × D)} (hk : e.key = .str k t) (hv : RelV v e.val) (hr : ∀ (cl : Cl) (H : Hp), Rep K cl H y v) (r : Rows K es tab) : Rows K (e :: es) ((k, y) :: tab)
theorem Rows.plain {K : PySem.W.Frag} {es : List DictEntry} {tab : List (Str × D)} (r : Rows K es tab) : es.any (·.refKey) = false := by
  induction r with
  | nil => rfl
  | @cons e es k t v y tab hk hv hr r ih =>
    rw [List.any_cons, ih]
    have : e.refKey = false := by
      obtain ⟨key, hash, val⟩ := e
      dsimp only at hk
      subst hk
      rfl
    rw [this]
    rfl
theorem isStr_is (k z : Str) (t : Tok) : (Value.str k t).isStr z = (z == k) := by
  rw [PySem.W.isStr_of]
  show (k == z) = (z == k)
  exact Bool.eq_iff_iff.mpr (by rw [beq_iff_eq, beq_iff_eq]; exact eq_comm)
theorem Rows.find {K : PySem.W.Frag} {es : List DictEntry} {tab : List (Str × D)} (r : Rows K es tab) (z : Str) :
    (tab.lookup z = none → es.find? (·.key.isStr z) = none) ∧ ∀ y, tab.lookup z = some y → ∃ e v, es.find? (·.key.isStr z) = some e ∧ RelV v e.val ∧ ∀ (cl : Cl) (H : Hp), Rep K cl H y v := by
  induction r with
  | nil => exact ⟨fun _ => rfl, fun y h => by cases h⟩
  | @cons e es k t v y tab hk hv hr r ih =>
    have q : e.key.isStr z = (z == k) := by rw [hk, isStr_is]
    rw [List.find?_cons, q, List.lookup_cons]
    cases z == k with
    | true => exact ⟨fun h => (nomatch h), fun y' h => by cases h; exact ⟨e, v, rfl, hv, hr⟩⟩
    | false => exact ih
theorem topD_of {X : Cx} {x : Str} {d : Addr} {es : List DictEntry} {n : Nat} {tab : List (Str × D)} (hm : X.mg x = some (.ref d)) (hl : X.K.lookup d = some ⟨.type "dict", none, .dict es.toArray n, #[]⟩) (lit : PySem.W.KeysLit X.w.params es) (low : (d == sysModules) = false) (r : Rows X.K es tab) : TopD X x d tab :=
  ⟨hm, ⟨es.toArray, n, hl, by rw [List.toList_toArray]; exact lit, low⟩, fun z hz => by
    unfold PySem.W.nsIn
    rw [hl]
    dsimp only
    show (match es.find? (·.key.isStr z) with | some e => some (some e.val) | none => if es.any (·.refKey) then none else some none) = _
    simp only [(r.find z).1 hz, r.plain]
    rfl, fun z y hz => by
    obtain ⟨e, v, h1, h2, h3⟩ := (r.find z).2 y hz
    refine ⟨e.val, v, ?_, h2, h3⟩
    unfold PySem.W.nsIn
    rw [hl]
    dsimp only
    show (match es.find? (·.key.isStr z) with | some e => some (some e.val) | none => if es.any (·.refKey) then none else some none) = _
    rw [h1]⟩
theorem topD_pk {X : Cx} {x : Str} {d : Addr} {tab : List (Str × D)} (h : X.mg x = some (.ref d) ∧ ∃ (es : List DictEntry) (n : Nat), X.K.lookup d = some ⟨.type "dict", none, .dict es.toArray n, #[]⟩ ∧ PySem.W.KeysLit X.w.params es ∧ (d == sysModules) = false ∧ Rows X.K es tab) : TopD X x d tab := by
  obtain ⟨hm, es, n, h1, h2, h3, h4⟩ := h
  exact topD_of hm h1 h2 h3 h4
end Dl
namespace Dl
open PySem PySem.Spec PyProof.Rows L2
section
variable {K : PySem.W.Frag} {c : Cc} {O : List Addr} {env : En} {σ : L2.St} {H H' : Hp}
theorem hide_ext_new {p : Addr} {o : HO} (h : H p = none) : Ext (hide O H) (hide (p :: O) (upd H p o)) := fun b u e => by
  unfold hide at e ⊢
  by_cases q : b ∈ O
  · rw [if_pos q] at e; cases e
  · rw [if_neg q] at e
    have n : b ≠ p := fun z => by rw [z, h] at e; cases e
    rw [if_neg (fun z => (List.mem_cons.mp z).elim n q), upd_ne n]
    exact e
/-- a slot takes a new list that is its own -/
theorem Rl.own_new (r : Rl K c O env σ H) {i : Nat} {xs : List D} {vs : List V} {p : Addr} (hp : H p = none) (h : Reps K c.cl (hide O H) xs vs) (hi : i < env.length) :
    Rl K c (p :: O) (env.set i (.ow (.lst xs))) (σ.set i (some (.ref p))) (upd H p (.lst vs)) := by
  have x : Ext (hide O H) (hide (p :: O) (upd H p (.lst vs))) := hide_ext_new hp
  have x' : Ext H (upd H p (.lst vs)) := Ext.upd hp
  have np : p ∉ O := r.new hp
  have h0 : c.H0 p = none := by
    cases q : c.H0 p with
    | none => rfl
    | some u => have := r.ext p u q; rw [hp] at this; cases this
  have ng : ∀ (j : Nat) (u : Own) (a : Addr), env[j]? = some (.ow u) → σ[j]? = some (some (.ref a)) → a ≠ p := fun j u a e1 e2 z => by
    obtain ⟨b, g1, g2, _⟩ := r.ow j u e1
    rw [e2] at g1
    cases g1
    exact np (z ▸ g2)
  refine ⟨by rw [List.length_set, List.length_set, r.len], r.ext.trans x', fun a ha => List.mem_cons_of_mem _ (r.sub a ha), fun a ha => ?_, fun j d e => ?_, fun j u e => ?_, fun j k ns ys e => ?_, fun j k u u' a e1 e2 e3 e4 => ?_⟩
  · rcases List.mem_cons.mp ha with rfl | ha
    · exact ⟨_, upd_same⟩
    · obtain ⟨o, e⟩ := r.dom a ha
      exact ⟨o, x' _ _ e⟩
  · rcases getE_set e with ⟨rfl, q⟩ | ⟨n, e⟩
    · cases q
    · obtain ⟨w, h1, h2⟩ := r.sh j d e
      exact ⟨w, by rw [List.getElem?_set_ne (Ne.symm n)]; exact h1, rep_mono x d w h2⟩
  · rcases getE_set e with ⟨rfl, q⟩ | ⟨n, e⟩
    · cases q
      exact ⟨p, List.getElem?_set_self (by rw [← r.len]; exact hi), List.mem_cons_self .., h0, fun z => np (r.sub p z), vs, upd_same, reps_mono x _ _ h⟩
    · obtain ⟨a, h1, h2, h3, h4, h5⟩ := r.ow j u e
      exact ⟨a, by rw [List.getElem?_set_ne (Ne.symm n)]; exact h1, List.mem_cons_of_mem _ h2, h3, h4, h5.mono x x'⟩
  · rcases getE_set e with ⟨rfl, q⟩ | ⟨n, e⟩
    · cases q
    · rw [List.getElem?_set_ne (Ne.symm n)]
      exact r.me j k ns ys e
  · rcases getE_set e1 with ⟨z1, q1⟩ | ⟨n1, f1⟩
    · rcases getE_set e2 with ⟨z2, q2⟩ | ⟨n2, f2⟩
      · rw [z1, z2]
      · subst z1
        rw [List.getElem?_set_self (by rw [← r.len]; exact hi)] at e3
        cases e3
        rw [List.getElem?_set_ne (Ne.symm n2)] at e4
        exact absurd rfl (ng k u' p f2 e4)
    · rw [List.getElem?_set_ne (Ne.symm n1)] at e3
      rcases getE_set e2 with ⟨z2, q2⟩ | ⟨n2, f2⟩
      · subst z2
        rw [List.getElem?_set_self (by rw [← r.len]; exact hi)] at e4
        cases e4
        exact absurd rfl (ng j u p f1 e3)
      · rw [List.getElem?_set_ne (Ne.symm n2)] at e4
        exact r.inj j k u u' a f1 f2 e3 e4
end
section
variable {X : Cx} {c : Cc} {W : WX} {a b e t o : Expr} {es : List Expr} {fa fb fe ff fc : En → Res D} {fs : En → Res (List D)} {ft : En → Res Bool} {pos pos3 p p2 lp apos : Pos} {x m : Str}
/-! ### x = [..], a list that x alone holds | x.append(e) -/
def sNewL (i : Nat) (fs : En → Res (List D)) : En → Out := fun env => lift (fs env) env fun ds => if ds.length ≤ 100000 ∧ i < env.length then .nx (env.set i (.ow (.lst ds))) else .bad
theorem ds_newL (i : Nat) (hN : X.N.Nodup) (ha : DA X c W es fs) (hi : X.N[i]? = some x := by rfl) (hx : Loc X.env.scope x := by first | exact Or.inl rfl | exact Or.inr rfl) (hf : X.fn x = true ∨ X.env.scope.names.lookup x = some .local := by first | exact .inl rfl | exact .inr rfl)
    (hs : swapsWithSole [.Name x p] (.List es lp) pos.line X.env = pure false := by rfl) (hw : swappedStores [.Name x p] (.List es lp) X.env = pure none := by rfl)
    (h1 : (assignEach [.Name x p] X.env).map (·.2) = [assign (.Name x p) X.env] := by rfl) : DS X c W (.Assign [.Name x p] (.List es lp) pos) (sNewL i fs) :=
  ps_imp (ps_asg (pe_lst ha) (pg_name hN hi hx hf) hs hw h1) fun D σ H ⟨env, O, R, q⟩ => ⟨env, O, R, post_lift R q fun ds vs H1 x1 r1 R1 p1 => by
    by_cases hl : ds.length ≤ 100000 ∧ i < env.length
    · rw [if_pos hl] at p1
      refine ⟨by rw [← reps_len r1]; exact line100 hl.1, fun z hz => ?_⟩
      exact p1 _ _ _ (R1.own_new hz r1 hl.2) (hide_ext_new hz)
    · rw [if_neg hl] at p1
      exact p1.elim⟩
def sApp (i : Nat) (fe : En → Res D) : En → Out := fun env => match env[i]? with
  | some (.ow (.lst xs)) => lift (fe env) env fun d => if xs.length < 100000 then .nx (env.set i (.ow (.lst (xs ++ [d])))) else .bad
  | _ => .bad
theorem ds_app (i : Nat) (hb : DE X c W e fe) (hi : X.N[i]? = some x := by rfl) (hv : Vis X.env.scope x := by first | exact Or.inl rfl | exact Or.inr (Or.inl rfl) | exact Or.inr (Or.inr rfl)) (hd : (x == ("__debug__" : Str)) = false := by decide)
    (hcd : (x == ("__classdict__" : Str)) = false := by decide)
    (hbase : attributeBase (.Name x p) "append" X.env (eval (.Name x p) X.env) = eval (.Name x p) X.env := by rfl)
    (hfew : ((backTo pos3 (starEach [e] X.env)).all (fun x => !x.1) && (backToKw pos3 (keywordEach [] X.env)).all (fun x => x.1.isSome)
      && decide ([e].length + ([] : List Keyword).length + (if ([] : List Keyword).isEmpty then 0 else 1) < 30)) = true := by rfl)
    (hline : (apos.endLine == pos3.line) = true := by rfl) (hs : starEach [e] X.env = (false, eval e X.env) :: starEach [] X.env := by rfl) (hplain : (backTo pos3 (starEach [] X.env)).any (·.1) = false := by rfl) :
    DS X c W (.Expr (.Call (.Attribute (.Name x p) "append" apos) [e] [] pos3) pos) (sApp i fe) :=
  ps_imp (ps_expr (pe_bm PySem.F.plainAttrs_list PySem.F.slot_list_append PySem.F.type_list_append mt_append (pe_var hi hv hd hcd) (pa_cons hb pa_nil hs) hbase hfew hline hs hplain)) fun D σ H ⟨env, O, R, q⟩ => by
    unfold sApp at q
    split at q
    · rename_i xs he
      obtain ⟨l, h1, h2, h3, h4, vs, h5, h6⟩ := R.ow i _ he
      refine ⟨_, h1, .inl ⟨rfl, _, SqL.of h5⟩, env, O, R, post_lift R q fun d v H1 x1 r1 R1 p1 => ?_⟩
      by_cases hl : xs.length < 100000
      · rw [if_pos hl] at p1
        obtain ⟨l', g1, g2, g3, g4, ws, g5, g6⟩ := R1.ow i _ he
        rw [h1] at g1
        cases g1
        refine ⟨l, ws, v, rfl, rfl, g5, by rw [← reps_len g6]; exact Nat.lt_of_lt_of_le hl (line100 (Nat.le_refl _)), ?_⟩
        refine p1 _ _ _ (R1.own_set he h1 ⟨ws ++ [v], upd_same, reps_app g6 (reps_cons r1 reps_nil)⟩ (fun k ns xs z => nomatch z)) ?_
        rw [hide_upd_in g2]
        exact Ext.rfl'
      · rw [if_neg hl] at p1
        exact p1.elim
    · exact q.elim
/-- a if t else b, of what may be owned -/
theorem dw_if (ht : DT X c W t ft) (ha : DW X c W a fa) (hb : DW X c W b fb) : DW X c W (.IfExp t a b pos) (eIf ft fa fb) := pe_imp (pe_ifExp ht ha hb) fun σ H Q ⟨env, O, R, p⟩ =>
  ⟨env, O, R, post_bind p fun k k' H1 x1 r1 p1 => by
    have r1 : k = k' := r1
    subst r1
    cases k with
    | true => exact ⟨env, O, R.mono x1, p1⟩
    | false => exact ⟨env, O, R.mono x1, p1⟩⟩
end
end Dl
namespace Dl
open PySem PySem.Spec PyProof.Rows L2
theorem fnD_bad {P : Program} {w : World} {K : PySem.W.Frag} {mg : Str → Option Value} {base : Heap} {cl : Cl} {k : Nat} {f : Addr} {F : List D → Res D} (h : ∀ ds, F ds = .bad) : FnD P w K mg base cl k f F :=
  fun A outer s H us vs Q E hr e0 rv ⟨ds, O, _, _, p⟩ => by
    rw [h ds] at p
    exact p.elim
section
variable {X : Cx} {c : Cc} {W : WX} {a : Expr} {fa : En → Res D} {pos : Pos}
/-- - e -/
def eNeg (fa : En → Res D) : En → Res D := fun env => (fa env).bind fun d => match d with
  | .int i => .ok (.int (-i))
  | _ => .bad
theorem de_neg (ha : DE X c W a fa) : DE X c W (.UnaryOp .USub a pos) (eNeg fa) := pe_imp (pe_un un_neg ha) fun σ H Q ⟨env, O, R, p⟩ =>
  ⟨env, O, R, post_bind p fun d v H1 x1 r1 p1 => by
    cases d with
    | int i => exact ⟨i, RepW.int (.inl r1), post_now p1 repS_int⟩
    | _ => exact p1.elim⟩
end
section
variable {K : PySem.W.Frag} {c : Cc} {O : List Addr} {env : En} {σ : L2.St} {H H' : Hp}
/-- something new that nobody sees -/
theorem Rl.veil (r : Rl K c O env σ H) {p : Addr} {o : HO} (hp : H p = none) : Rl K c (p :: O) env σ (upd H p o) := by
  have x : Ext (hide O H) (hide (p :: O) (upd H p o)) := hide_ext_new hp
  have x' : Ext H (upd H p o) := Ext.upd hp
  refine ⟨r.len, r.ext.trans x', fun a ha => List.mem_cons_of_mem _ (r.sub a ha), fun a ha => ?_, fun j d e => ?_, fun j u e => ?_, r.me, r.inj⟩
  · rcases List.mem_cons.mp ha with rfl | ha
    · exact ⟨_, upd_same⟩
    · obtain ⟨u, e⟩ := r.dom a ha
      exact ⟨u, x' _ _ e⟩
  · obtain ⟨w, h1, h2⟩ := r.sh j d e
    exact ⟨w, h1, rep_mono x d w h2⟩
  · obtain ⟨a, h1, h2, h3, h4, h5⟩ := r.ow j u e
    exact ⟨a, h1, List.mem_cons_of_mem _ h2, h3, h4, h5.mono x x'⟩
end
/-- an error of one class is, or is not, what an except of another catches -/
theorem exm_of {K : PySem.W.Frag} {S E : Addr} {r : Bool} (h1 : PySem.W.subIn K (.ref S) (.type "BaseException") = some true) (h2 : PySem.W.isClsIn K S = true) (h3 : PySem.W.typeIn K (.ref S) = some (.type "type")) (h4 : PySem.W.subIn K (.ref E) (.ref S) = some r) :
    PySem.W.exmOne K (.ref E) (.ref S) = some r := by
  have e1 : (PySem.W.subIn K (.ref S) (.type "BaseException") == some true) = true := by rw [h1] <;> rfl
  have e2 : ((PySem.W.clsIn K S).isSome && PySem.W.typeIn K (.ref S) == some (.type "type")) = true := by
    have h2' : (PySem.W.clsIn K S).isSome = true := h2
    rw [h2', h3] <;> rfl
  show (if _ then (if _ then _ else none) else none) = _
  rw [if_pos e1, if_pos e2]
  exact h4
end Dl
namespace Lw
open PySem PySem.Spec PyProof.Rows L2 Dl
def w_c0 : Str := ⟨⟨[99, 48]⟩⟩
def w_c1 : Str := ⟨⟨[99, 49]⟩⟩
def w_f0 : Str := ⟨⟨[102, 48]⟩⟩
def w_f1 : Str := ⟨⟨[102, 49]⟩⟩
def w_f2 : Str := ⟨⟨[102, 50]⟩⟩
def w_f3 : Str := ⟨⟨[102, 51]⟩⟩
def w_held : Str := ⟨⟨[104, 101, 108, 100]⟩⟩
def w_p0 : Str := ⟨⟨[112, 48]⟩⟩
def w_p1 : Str := ⟨⟨[112, 49]⟩⟩
def top (i : Nat) : Stmt := PySem.Challenge.pw_shortkeys_k02_whole_keys.main.body.getD i (.Pass ⟨0, 0, 0, 0⟩)
abbrev s_Key_contains : Stmt := inClass (top 8) 9
abbrev s_in_order : Stmt := top 6
abbrev s_is_name : Stmt := top 5
abbrev s_Key_init : Stmt := inClass (top 8) 0
abbrev s_Key_and : Stmt := inClass (top 8) 4
abbrev s_Key_eq : Stmt := inClass (top 8) 11
abbrev s_Key_le : Stmt := inClass (top 8) 7
abbrev s_Key_len : Stmt := inClass (top 8) 10
abbrev s_Key_or : Stmt := inClass (top 8) 3
abbrev s_Key_sub : Stmt := inClass (top 8) 5
abbrev s_Key_xor : Stmt := inClass (top 8) 6
abbrev s_Key_names : Stmt := inClass (top 8) 2
abbrev s_Key_of : Stmt := inClass (top 8) 1
abbrev s__law_key : Stmt := top 11
abbrev s__law_number : Stmt := top 10
abbrev s_Key_lt : Stmt := inClass (top 8) 8
abbrev s__law_of : Stmt := top 12
abbrev s__law_pair_right : Stmt := top 13
abbrev s_law : Stmt := top 14
theorem sc_Key_contains : FnScope ["self", "x"] ["self", "x"] (defScope s_Key_contains) := ⟨rfl, rfl, rfl, by decide +kernel, rfl, by decide +kernel, by decide +kernel⟩
def b_Key_contains : En → Out := sRet (eAnd (eAt (gIsi isiT_str) (eVar 1)) (eBin (gIn false) (eVar 1) (eAt (gFld 0 w_held) (eVar 0))))
def m_Key_contains : List D → Res D := fun ds => if ds.length = 2 then outR (b_Key_contains (startE ["self", "x"] ds)) else .bad
theorem sc_in_order : FnScope ["names", "name"] ["names"] (defScope s_in_order) := ⟨rfl, rfl, rfl, by decide +kernel, rfl, by decide +kernel, by decide +kernel⟩
def b_in_order : En → Out := sRet (eCall fTup (aCons (eLc [1] (eIt (eC (.tup [.str w_f0, .str w_f1, .str w_f2, .str w_c0, .str w_c1, .str w_p0, .str w_p1]))) (gV 1) (eB (eBin (gAlt (gInOwn 0 false m_Key_contains) (gIn false)) (eVar 1) (eVar 0))) (eVar 1)) (aNil)))
def m_in_order : List D → Res D := fun ds => if ds.length = 1 then outR (b_in_order (startE ["names", "name"] ds)) else .bad
theorem sc_is_name : FnScope ["value"] ["value"] (defScope s_is_name) := ⟨rfl, rfl, rfl, by decide +kernel, rfl, by decide +kernel, by decide +kernel⟩
def b_is_name : En → Out := sRet (eAnd (eAt (gIsi isiT_str) (eVar 0)) (eBin (gIn false) (eVar 0) (eC (.tup [.str w_f0, .str w_f1, .str w_f2, .str w_c0, .str w_c1, .str w_p0, .str w_p1]))))
def m_is_name : List D → Res D := fun ds => if ds.length = 1 then outR (b_is_name (startE ["value"] ds)) else .bad
theorem sc_Key_init : FnScope ["self", "names", "name"] ["self", "names"] (defScope s_Key_init) := ⟨rfl, rfl, rfl, by decide +kernel, rfl, by decide +kernel, by decide +kernel⟩
def b_Key_init : En → Out := sSeq (sIf (bOr (bNot (eB (eAt (gIsi isiT_lt) (eVar 1)))) (bNot (eB (eCall fAll (aCons (eLc [2] (eIt (eVar 1)) (gV 2) (bYes) (eCall m_is_name (aCons (eVar 2) (aNil)))) (aNil)))))) (sRaise 0) (sNext)) (sSetFk 0 0 w_held (eCall m_in_order (aCons (eVar 1) (aNil))))
def i0_Key (dd : List D) : List D → Res (List Str × List D) := fun ds => if ds.length + dd.length = 1 then outI 0 (b_Key_init (startI ["self", "names", "name"] 0 (ds ++ dd))) else .bad
def i_Key : List D → Res (List Str × List D) := fun ds => if ds.length = 1 then i0_Key [] ds else i0_Key [.tup []] ds
theorem sc_Key_and : FnScope ["self", "other", "name"] ["self", "other"] (defScope s_Key_and) := ⟨rfl, rfl, rfl, by decide +kernel, rfl, by decide +kernel, by decide +kernel⟩
def b_Key_and : En → Out := sRet (eCall (fun ds => insR 0 (i_Key ds)) (aCons (eLc [2] (eIt (eAt (gFld 0 w_held) (eVar 0))) (gV 2) (eB (eBin (gIn false) (eVar 2) (eAt (gFld 0 w_held) (eVar 1)))) (eVar 2)) (aNil)))
def m_Key_and : List D → Res D := fun ds => if ds.length = 2 then outR (b_Key_and (startE ["self", "other", "name"] ds)) else .bad
theorem sc_Key_eq : FnScope ["self", "other"] ["self", "other"] (defScope s_Key_eq) := ⟨rfl, rfl, rfl, by decide +kernel, rfl, by decide +kernel, by decide +kernel⟩
def b_Key_eq : En → Out := sRet (eAnd (eAt (gIsi (isiC 0)) (eVar 1)) (eBin (gEq false) (eAt (gFld 0 w_held) (eVar 0)) (eAt (gFld 0 w_held) (eVar 1))))
def m_Key_eq : List D → Res D := fun ds => if ds.length = 2 then outR (b_Key_eq (startE ["self", "other"] ds)) else .bad
theorem sc_Key_le : FnScope ["self", "other", "name"] ["self", "other"] (defScope s_Key_le) := ⟨rfl, rfl, rfl, by decide +kernel, rfl, by decide +kernel, by decide +kernel⟩
def b_Key_le : En → Out := sSeq (sIf (bNot (eB (eAt (gIsi (isiC 0)) (eVar 1)))) (sRet ((fun _ => .bad))) (sNext)) (sRet (eCall fAll (aCons (eLc [2] (eIt (eAt (gFld 0 w_held) (eVar 0))) (gV 2) (bYes) (eBin (gIn false) (eVar 2) (eAt (gFld 0 w_held) (eVar 1)))) (aNil))))
def m_Key_le : List D → Res D := fun ds => if ds.length = 2 then outR (b_Key_le (startE ["self", "other", "name"] ds)) else .bad
theorem sc_Key_len : FnScope ["self"] ["self"] (defScope s_Key_len) := ⟨rfl, rfl, rfl, by decide +kernel, rfl, by decide +kernel, by decide +kernel⟩
def b_Key_len : En → Out := sRet (eCall fLen (aCons (eAt (gFld 0 w_held) (eVar 0)) (aNil)))
def m_Key_len : List D → Res D := fun ds => if ds.length = 1 then outR (b_Key_len (startE ["self"] ds)) else .bad
theorem sc_Key_or : FnScope ["self", "other"] ["self", "other"] (defScope s_Key_or) := ⟨rfl, rfl, rfl, by decide +kernel, rfl, by decide +kernel, by decide +kernel⟩
def b_Key_or : En → Out := sRet (eCall (fun ds => insR 0 (i_Key ds)) (aCons (eBin (gAddW) (eAt (gFld 0 w_held) (eVar 0)) (eAt (gFld 0 w_held) (eVar 1))) (aNil)))
def m_Key_or : List D → Res D := fun ds => if ds.length = 2 then outR (b_Key_or (startE ["self", "other"] ds)) else .bad
theorem sc_Key_sub : FnScope ["self", "other", "name"] ["self", "other"] (defScope s_Key_sub) := ⟨rfl, rfl, rfl, by decide +kernel, rfl, by decide +kernel, by decide +kernel⟩
def b_Key_sub : En → Out := sSeq (sIf (bNot (eB (eAt (gIsi (isiC 0)) (eVar 1)))) (sRet ((fun _ => .bad))) (sNext)) (sRet (eCall (fun ds => insR 0 (i_Key ds)) (aCons (eLc [2] (eIt (eAt (gFld 0 w_held) (eVar 0))) (gV 2) (eB (eBin (gIn true) (eVar 2) (eAt (gFld 0 w_held) (eVar 1)))) (eVar 2)) (aNil))))
def m_Key_sub : List D → Res D := fun ds => if ds.length = 2 then outR (b_Key_sub (startE ["self", "other", "name"] ds)) else .bad
theorem sc_Key_xor : FnScope ["self", "other"] ["self", "other"] (defScope s_Key_xor) := ⟨rfl, rfl, rfl, by decide +kernel, rfl, by decide +kernel, by decide +kernel⟩
def b_Key_xor : En → Out := sRet (eBin (gOwn 0 m_Key_or) (eBin (gAlt (gOwn 0 m_Key_sub) (gSubI)) (eVar 0) (eVar 1)) (eBin (gAlt (gOwn 0 m_Key_sub) (gSubI)) (eVar 1) (eVar 0)))
def m_Key_xor : List D → Res D := fun ds => if ds.length = 2 then outR (b_Key_xor (startE ["self", "other"] ds)) else .bad
theorem sc_Key_names : FnScope ["self"] ["self"] (defScope s_Key_names) := ⟨rfl, rfl, rfl, by decide +kernel, rfl, by decide +kernel, by decide +kernel⟩
def b_Key_names : En → Out := sRet (eAt (gFld 0 w_held) (eVar 0))
def m_Key_names : List D → Res D := fun ds => if ds.length = 1 then outR (b_Key_names (startE ["self"] ds)) else .bad
theorem sc_Key_of : FnScope ["cls", "names"] ["cls", "names"] (defScope s_Key_of) := ⟨rfl, rfl, rfl, by decide +kernel, rfl, by decide +kernel, by decide +kernel⟩
def b_Key_of : En → Out := sRet (eCallL 0 0 (fun ds => insR 0 (i_Key ds)) (aCons (eVar 1) (aNil)))
def m_Key_of : List D → Res D := starF 1 fun ds => outR (b_Key_of (startE ["cls", "names"] ds))
theorem sc__law_key : FnScope ["number", "name", "every", "found", "rest"] ["number"] (defScope s__law_key) := ⟨rfl, rfl, rfl, by decide +kernel, rfl, by decide +kernel, by decide +kernel⟩
def b__law_key : En → Out := sSeq (sPar3 2 3 4 (aCons (eLst (aCons (eC (.str w_f0)) (aCons (eC (.str w_f1)) (aCons (eC (.str w_f2)) (aCons (eC (.str w_c0)) (aCons (eC (.str w_c1)) (aCons (eC (.str w_p0)) (aCons (eC (.str w_p1)) (aNil))))))))) (aCons (eLst (aNil)) (aCons (eBin (gModI) (eCall fInt (aCons (eVar 0) (aNil))) (eC (.int 128))) (aNil))))) (sSeq (sFor (eIt (eVar 2)) (gV 1) (sSeq (sAsg (eIf (eB (eBin (gEq false) (eBin (gModI) (eCall fInt (aCons (eVar 4) (aNil))) (eC (.int 2))) (eC (.int 1)))) (eBin (gAddW) (eVar 3) (eLst (aCons (eVar 1) (aNil)))) (eVar 3)) (gV 3)) (sAsg (eBin (gDivI) (eVar 4) (eC (.int 2))) (gV 4)))) (sRet (eVar 3)))
def m__law_key : List D → Res D := fun ds => if ds.length = 1 then outR (b__law_key (startE ["number", "name", "every", "found", "rest"] ds)) else .bad
theorem sc__law_number : FnScope ["script", "index", "cells", "cell", "total", "blend", "low", "high"] ["script", "index"] (defScope s__law_number) := ⟨rfl, rfl, rfl, by decide +kernel, rfl, by decide +kernel, by decide +kernel⟩
def b__law_number : En → Out := sSeq (sAsg (eIf (eB (eBin (gAlt (gNe 0 m_Key_eq) (gEq true)) (eVar 0) (eLst (aNil)))) (eSl (eVar 0) (oNo) (oSome (eC (.int 63)))) (eLst (aCons (eC (.int 5)) (aNil)))) (gV 2)) (sSeq (sAsg (eBin (gAddW) (eBin gIx (eVar 2) (eBin (gModI) (eCall fInt (aCons (eVar 1) (aNil))) (eCall (fAlt (fLenOwn 0 m_Key_len) (fLen)) (aCons (eVar 2) (aNil))))) (eBin (gMulI) (eC (.int 13)) (eBin (gDivI) (eVar 1) (eCall (fAlt (fLenOwn 0 m_Key_len) (fLen)) (aCons (eVar 2) (aNil)))))) (gV 3)) (sSeq (sPar2 6 7 (aCons (eBin (gModI) (eCall fInt (aCons (eVar 3) (aNil))) (eC (.int 1000003))) (aCons (eBin (gModI) (eCall fInt (aCons (eBin (gDivI) (eVar 3) (eC (.int 1000003))) (aNil))) (eC (.int 999983))) (aNil)))) (sSeq (sAsg (eBin (gModI) (eCall fInt (aCons (eCall fSum (aCons (eVar 2) (aNil))) (aNil))) (eC (.int 65521))) (gV 4)) (sSeq (sAsg (eBin (gModI) (eCall fInt (aCons (eBin (gAddW) (eBin (gAddW) (eBin (gMulI) (eBin (gAddW) (eVar 6) (eBin (gMulI) (eC (.int 977)) (eVar 1))) (eC (.int 48271))) (eBin (gMulI) (eC (.int 31)) (eVar 7))) (eVar 4)) (aNil))) (eC (.int 2147483647))) (gV 5)) (sRet (eBin (gAddW) (eBin (gMulI) (eBin (gModI) (eCall fInt (aCons (eBin (gMulI) (eVar 5) (eBin (gAddW) (eBin (gAddW) (eVar 5) (eBin (gMulI) (eC (.int 31)) (eVar 1))) (eC (.int 7)))) (aNil))) (eC (.int 2147483629))) (eC (.int 65537))) (eVar 7)))))))
def m__law_number : List D → Res D := fun ds => if ds.length = 2 then outR (b__law_number (startE ["script", "index", "cells", "cell", "total", "blend", "low", "high"] ds)) else .bad
theorem sc_Key_lt : FnScope ["self", "other"] ["self", "other"] (defScope s_Key_lt) := ⟨rfl, rfl, rfl, by decide +kernel, rfl, by decide +kernel, by decide +kernel⟩
def b_Key_lt : En → Out := sSeq (sIf (bNot (eB (eAt (gIsi (isiC 0)) (eVar 1)))) (sRet ((fun _ => .bad))) (sNext)) (sRet (eAnd (eBin (gAlt (gOwn 0 m_Key_le) (gLeI)) (eVar 0) (eVar 1)) (eBin (gLtI) (eCall fLen (aCons (eAt (gFld 0 w_held) (eVar 0)) (aNil))) (eCall fLen (aCons (eAt (gFld 0 w_held) (eVar 1)) (aNil))))))
def m_Key_lt : List D → Res D := fun ds => if ds.length = 2 then outR (b_Key_lt (startE ["self", "other"] ds)) else .bad
theorem sc__law_of : FnScope ["names"] ["names"] (defScope s__law_of) := ⟨rfl, rfl, rfl, by decide +kernel, rfl, by decide +kernel, by decide +kernel⟩
def b__law_of : En → Out := sSeq (sIf (eB (eBin (gLtI) (eCall (fAlt (fLenOwn 0 m_Key_len) (fLen)) (aCons (eVar 0) (aNil))) (eC (.int 2)))) (sRet (eIf (eB (eBin (gAlt (gOwn 0 m_Key_eq) (gEq false)) (eVar 0) (eLst (aNil)))) (eCm 0 m_Key_of aNil) (eCm 0 m_Key_of (aCons (eBin gIx (eVar 0) (eC (.int 0))) (aNil))))) (sNext)) (sRet (eIf (eB (eBin (gEq false) (eCall (fAlt (fLenOwn 0 m_Key_len) (fLen)) (aCons (eVar 0) (aNil))) (eC (.int 2)))) (eCm 0 m_Key_of (aCons (eBin gIx (eVar 0) (eC (.int 1))) (aCons (eBin gIx (eVar 0) (eC (.int 0))) (aNil)))) (eCall (fun ds => insR 0 (i_Key ds)) (aCons (eCall fTup (aCons (eVar 0) (aNil))) (aNil)))))
def m__law_of : List D → Res D := fun ds => if ds.length = 1 then outR (b__law_of (startE ["names"] ds)) else .bad
theorem sc__law_pair_right : FnScope ["one", "other", "every", "is_within", "mine", "theirs", "name"] ["one", "other"] (defScope s__law_pair_right) := ⟨rfl, rfl, rfl, by decide +kernel, rfl, by decide +kernel, by decide +kernel⟩
def b__law_pair_right : En → Out := sSeq (sAsg (eTup (aCons (eCall (fun ds => insR 0 (i_Key ds)) (aCons (eBin (gAddW) (eRev (eVar 0)) (eSl (eVar 0) (oNo) (oSome (eC (.int 2))))) (aNil))) (aCons (eCall m__law_of (aCons (eVar 1) (aNil))) (aNil)))) (gT 2 (gsCons (gV 4) (gsCons (gV 5) (gsNil))))) (sSeq (sIf (bOr (eB (eBin (gEq true) (eAt (gProp 0 m_Key_names) (eVar 4)) (eCall fTup (aCons (eVar 0) (aNil))))) (bOr (eB (eBin (gEq true) (eAt (gProp 0 m_Key_names) (eVar 5)) (eCall fTup (aCons (eVar 1) (aNil))))) (bOr (eB (eBin (gEq true) (eCall (fAlt (fLenOwn 0 m_Key_len) (fLen)) (aCons (eVar 4) (aNil))) (eCall (fAlt (fLenOwn 0 m_Key_len) (fLen)) (aCons (eVar 0) (aNil))))) (eB (eBin (gEq true) (eCall (fBoolOwn 0 m_Key_len) (aCons (eVar 4) (aNil))) (eBin (gAlt (gNe 0 m_Key_eq) (gEq true)) (eVar 0) (eLst (aNil)))))))) (sRet (eC (.bl false))) (sNext)) (sSeq (sAsg (eLst (aCons (eC (.str w_f0)) (aCons (eC (.str w_f1)) (aCons (eC (.str w_f2)) (aCons (eC (.str w_c0)) (aCons (eC (.str w_c1)) (aCons (eC (.str w_p0)) (aCons (eC (.str w_p1)) (aNil))))))))) (gV 2)) (sSeq (sIf (eB (eBin (gEq true) (eAt (gProp 0 m_Key_names) (eBin (gOwn 0 m_Key_or) (eVar 4) (eVar 5))) (eCall fTup (aCons (eLc [6] (eIt (eVar 2)) (gV 6) (bOr (eB (eBin (gAlt (gInOwn 0 false m_Key_contains) (gIn false)) (eVar 6) (eVar 0))) (eB (eBin (gAlt (gInOwn 0 false m_Key_contains) (gIn false)) (eVar 6) (eVar 1)))) (eVar 6)) (aNil))))) (sRet (eC (.bl false))) (sNext)) (sSeq (sIf (eB (eBin (gEq true) (eAt (gProp 0 m_Key_names) (eBin (gOwn 0 m_Key_and) (eVar 4) (eVar 5))) (eCall fTup (aCons (eLc [6] (eIt (eVar 0)) (gV 6) (eB (eBin (gAlt (gInOwn 0 false m_Key_contains) (gIn false)) (eVar 6) (eVar 1))) (eVar 6)) (aNil))))) (sRet (eC (.bl false))) (sNext)) (sSeq (sIf (eB (eBin (gEq true) (eAt (gProp 0 m_Key_names) (eBin (gAlt (gOwn 0 m_Key_sub) (gSubI)) (eVar 4) (eVar 5))) (eCall fTup (aCons (eLc [6] (eIt (eVar 0)) (gV 6) (eB (eBin (gAlt (gInOwn 0 true m_Key_contains) (gIn true)) (eVar 6) (eVar 1))) (eVar 6)) (aNil))))) (sRet (eC (.bl false))) (sNext)) (sSeq (sIf (eB (eBin (gEq true) (eAt (gProp 0 m_Key_names) (eBin (gOwn 0 m_Key_xor) (eVar 4) (eVar 5))) (eCall fTup (aCons (eLc [6] (eIt (eVar 2)) (gV 6) (eB (eBin (gEq true) (eBin (gAlt (gInOwn 0 false m_Key_contains) (gIn false)) (eVar 6) (eVar 0)) (eBin (gAlt (gInOwn 0 false m_Key_contains) (gIn false)) (eVar 6) (eVar 1)))) (eVar 6)) (aNil))))) (sRet (eC (.bl false))) (sNext)) (sSeq (sAsg (eCall fAll (aCons (eLc [6] (eIt (eVar 0)) (gV 6) (bYes) (eBin (gAlt (gInOwn 0 false m_Key_contains) (gIn false)) (eVar 6) (eVar 1))) (aNil))) (gV 3)) (sSeq (sIf (bOr (eB (eBin (gEq true) (eBin (gAlt (gOwn 0 m_Key_le) (gLeI)) (eVar 4) (eVar 5)) (eVar 3))) (eB (eBin (gEq true) (eBin (gAlt (gOwn 0 m_Key_lt) (gLtI)) (eVar 4) (eVar 5)) (eAnd (eVar 3) (eBin (gAlt (gNe 0 m_Key_eq) (gEq true)) (eVar 0) (eVar 1)))))) (sRet (eC (.bl false))) (sNext)) (sSeq (sIf (bOr (bNot (eB (eCall fAll (aCons (eLc [6] (eIt (eVar 2)) (gV 6) (bYes) (eBin (gEq false) (eBin (gAlt (gInOwn 0 false m_Key_contains) (gIn false)) (eVar 6) (eVar 4)) (eBin (gAlt (gInOwn 0 false m_Key_contains) (gIn false)) (eVar 6) (eVar 0)))) (aNil))))) (bOr (eB (eBin (gAlt (gInOwn 0 false m_Key_contains) (gIn false)) (eC (.str w_f3)) (eVar 4))) (bOr (eB (eBin (gAlt (gInOwn 0 false m_Key_contains) (gIn false)) (eC (.int 5)) (eVar 4))) (eB (eBin (gAlt (gInOwn 0 false m_Key_contains) (gIn false)) (eC .non) (eVar 4)))))) (sRet (eC (.bl false))) (sNext)) (sRet (eAnd (eBin (gEq false) (eBin (gAlt (gOwn 0 m_Key_eq) (gEq false)) (eVar 4) (eVar 5)) (eBin (gAlt (gOwn 0 m_Key_eq) (gEq false)) (eVar 0) (eVar 1))) (eBin (gEq false) (eBin (gAlt (gNe 0 m_Key_eq) (gEq true)) (eVar 4) (eVar 5)) (eBin (gAlt (gNe 0 m_Key_eq) (gEq true)) (eVar 0) (eVar 1))))))))))))))
def m__law_pair_right : List D → Res D := fun ds => if ds.length = 2 then outR (b__law_pair_right (startE ["one", "other", "every", "is_within", "mine", "theirs", "name"] ds)) else .bad
theorem sc_law : FnScope ["script", "keys", "at", "one", "other", "turn", "two", "three"] ["script"] (defScope s_law) := ⟨rfl, rfl, rfl, by decide +kernel, rfl, by decide +kernel, by decide +kernel⟩
def b_law : En → Out := sSeq (sAsg (eLc [5] (eR1 (aCons (eC (.int 12)) (aNil))) (gV 5) (bYes) (eCall m__law_key (aCons (eCall m__law_number (aCons (eVar 0) (aCons (eVar 5) (aNil)))) (aNil)))) (gV 1)) (sSeq (sIf (bAnd (eB (eBin (gAlt (gNe 0 m_Key_eq) (gEq true)) (eVar 0) (eLst (aNil)))) (eB (eBin (gGeI) (eBin gIx (eVar 0) (eC (.int 0))) (eBin (gPowI) (eC (.int 10)) (eC (.int 18)))))) (sAsg (eBin (gAddW) (eVar 1) (eLst (aCons (eCall m__law_key (aCons (eBin gIx (eVar 0) (eC (.int 0))) (aNil))) (aCons (eCall m__law_key (aCons (eBin (gDivI) (eBin gIx (eVar 0) (eC (.int 0))) (eC (.int 128))) (aNil))) (aNil))))) (gV 1)) (sNext)) (sSeq (sFor (eEn (aCons (eVar 1) (aNil))) (gT 2 (gsCons (gV 2) (gsCons (gV 3) (gsNil)))) (sSeq (sFor (eIt (eTup (aCons (eBin gIx (eVar 1) (eBin (gAlt (gOwn 0 m_Key_sub) (gSubI)) (eVar 2) (eC (.int 1)))) (aCons (eVar 3) (aCons (eLst (aNil)) (aCons (eCall m__law_key (aCons (eC (.int 127)) (aNil))) (aCons (eSl (eVar 3) (oNo) (oSome (eC (.int 1)))) (aCons (eBin gIx (eVar 1) (eC (.int 0))) (aNil))))))))) (gV 4) (sIf (bNot (eB (eCall m__law_pair_right (aCons (eVar 3) (aCons (eVar 4) (aNil)))))) (sRet (eC (.bl false))) (sNext))) (sSeq (sPar2 6 7 (aCons (eCall (fun ds => insR 0 (i_Key ds)) (aCons (eVar 3) (aNil))) (aCons (eCall (fun ds => insR 0 (i_Key ds)) (aCons (eBin gIx (eVar 1) (eBin (gAlt (gOwn 0 m_Key_sub) (gSubI)) (eVar 2) (eC (.int 2)))) (aNil))) (aNil)))) (sSeq (sIf (bOr (bNot (eB (eBin (gAlt (gOwn 0 m_Key_eq) (gEq false)) (eBin (gAlt (gOwn 0 m_Key_sub) (gSubI)) (eBin (gOwn 0 m_Key_or) (eVar 6) (eVar 7)) (eVar 7)) (eBin (gAlt (gOwn 0 m_Key_sub) (gSubI)) (eVar 6) (eVar 7))))) (bNot (eB (eBin (gAlt (gOwn 0 m_Key_eq) (gEq false)) (eBin (gOwn 0 m_Key_xor) (eVar 6) (eVar 7)) (eBin (gAlt (gOwn 0 m_Key_sub) (gSubI)) (eBin (gOwn 0 m_Key_or) (eVar 6) (eVar 7)) (eBin (gOwn 0 m_Key_and) (eVar 6) (eVar 7))))))) (sRet (eC (.bl false))) (sNext)) (sIf (bOr (bNot (eB (eBin (gAlt (gOwn 0 m_Key_eq) (gEq false)) (eBin (gAlt (gOwn 0 m_Key_sub) (gSubI)) (eVar 6) (eBin (gAlt (gOwn 0 m_Key_sub) (gSubI)) (eVar 6) (eVar 7))) (eBin (gOwn 0 m_Key_and) (eVar 6) (eVar 7))))) (bOr (bNot (eB (eBin (gAlt (gOwn 0 m_Key_le) (gLeI)) (eBin (gOwn 0 m_Key_and) (eVar 6) (eVar 7)) (eVar 6)))) (bNot (eB (eBin (gAlt (gOwn 0 m_Key_le) (gLeI)) (eVar 6) (eBin (gOwn 0 m_Key_or) (eVar 6) (eVar 7))))))) (sRet (eC (.bl false))) (sNext)))))) (sRet (eAnd (eBin (gAlt (gOwn 0 m_Key_eq) (gEq false)) (eCall0 (fun ds => insR 0 (i_Key ds))) (eCm 0 m_Key_of aNil)) (eAnd (eNotT ((fun env => ((eCall0 (fun ds => insR 0 (i_Key ds))) env).bind (truOwn 0 m_Key_len)))) (eBin (gEq false) (eAt (gProp 0 m_Key_names) (eCall (fun ds => insR 0 (i_Key ds)) (aCons (eTup (aCons (eC (.str w_p1)) (aCons (eC (.str w_f0)) (aNil)))) (aNil)))) (eTup (aCons (eC (.str w_f0)) (aCons (eC (.str w_p1)) (aNil))))))))))
def m_law : List D → Res D := fun ds => if ds.length = 1 then outR (b_law (startE ["script", "keys", "at", "one", "other", "turn", "two", "three"] ds)) else .bad
/-- what the top has written -/
structure Tx (K : PySem.W.Frag) (mg : Str → Option Value) (cl : Cl) (ad : Nat → Addr) (fd : Nat → FuncData) (mc : Value) (w : World) : Prop where
  C_Key : Cls K (cl.at_ 0)
  I_Key : InsTy K (cl.at_ 0)
  M_Key : Mk K (cl.at_ 0) (ad 2)
  b_all : mg "all" = none
  b_bool : mg "bool" = none
  b_enumerate : mg "enumerate" = none
  b_int : mg "int" = none
  b_isinstance : mg "isinstance" = none
  b_len : mg "len" = none
  b_list : mg "list" = none
  b_range : mg "range" = none
  b_str : mg "str" = none
  b_sum : mg "sum" = none
  b_tuple : mg "tuple" = none
  c_NAMES : mg "NAMES" = some (.ref (ad 19)) ∧ ∃ (o : Obj) (its : Array Value) (n : Nat), K.lookup (ad 19) = some o ∧ o.cls = .type "tuple" ∧ o.data = .seq its n ∧ its.size ≤ sizeLine ∧ Vals [.str "f0", .str "f1", .str "f2", .str "c0", .str "c1", .str "p0", .str "p1"] its.toList
  cm_Key_of : ClX.CMet K (cl.at_ 0) mc "of" (ad 21) (ad 3)
  cr_Key : ClX.CRead K (cl.at_ 0) mc
  d_Key_and : PySem.W.findIn K (.ref (cl.at_ 0)) "__and__" = some (some (.ref (ad 6)))
  d_Key_contains : PySem.W.findIn K (.ref (cl.at_ 0)) "__contains__" = some (some (.ref (ad 11)))
  d_Key_eq : PySem.W.findIn K (.ref (cl.at_ 0)) "__eq__" = some (some (.ref (ad 13)))
  d_Key_le : PySem.W.findIn K (.ref (cl.at_ 0)) "__le__" = some (some (.ref (ad 9)))
  d_Key_len : PySem.W.findIn K (.ref (cl.at_ 0)) "__len__" = some (some (.ref (ad 12)))
  d_Key_lt : PySem.W.findIn K (.ref (cl.at_ 0)) "__lt__" = some (some (.ref (ad 10)))
  d_Key_or : PySem.W.findIn K (.ref (cl.at_ 0)) "__or__" = some (some (.ref (ad 5)))
  d_Key_sub : PySem.W.findIn K (.ref (cl.at_ 0)) "__sub__" = some (some (.ref (ad 7)))
  d_Key_xor : PySem.W.findIn K (.ref (cl.at_ 0)) "__xor__" = some (some (.ref (ad 8)))
  df_Key_init : ∃ (o : Obj) (its : Array Value) (n : Nat), K.lookup (ad 23) = some o ∧ o.cls = .type "tuple" ∧ o.data = .seq its n ∧ its.size ≤ sizeLine ∧ Vals [] its.toList
  e_BadName : ErrC K (ad 20)
  f_Key_and : FunD K "__and__" "Key.__and__" (defArgs s_Key_and) (defBody s_Key_and) (defScope s_Key_and) [] [] (ad 6) (fd 6)
  f_Key_contains : FunD K "__contains__" "Key.__contains__" (defArgs s_Key_contains) (defBody s_Key_contains) (defScope s_Key_contains) [] [] (ad 11) (fd 11)
  f_Key_eq : FunD K "__eq__" "Key.__eq__" (defArgs s_Key_eq) (defBody s_Key_eq) (defScope s_Key_eq) [] [] (ad 13) (fd 13)
  f_Key_init : FunD K "__init__" "Key.__init__" (defArgs s_Key_init) (defBody s_Key_init) (defScope s_Key_init) [.ref (ad 23)] [] (ad 2) (fd 2)
  f_Key_le : FunD K "__le__" "Key.__le__" (defArgs s_Key_le) (defBody s_Key_le) (defScope s_Key_le) [] [] (ad 9) (fd 9)
  f_Key_len : FunD K "__len__" "Key.__len__" (defArgs s_Key_len) (defBody s_Key_len) (defScope s_Key_len) [] [] (ad 12) (fd 12)
  f_Key_lt : FunD K "__lt__" "Key.__lt__" (defArgs s_Key_lt) (defBody s_Key_lt) (defScope s_Key_lt) [] [] (ad 10) (fd 10)
  f_Key_names : FunD K "names" "Key.names" (defArgs s_Key_names) (defBody s_Key_names) (defScope s_Key_names) [] [] (ad 4) (fd 4)
  f_Key_of : FunD K "of" "Key.of" (defArgs s_Key_of) (defBody s_Key_of) (defScope s_Key_of) [] [] (ad 3) (fd 3)
  f_Key_or : FunD K "__or__" "Key.__or__" (defArgs s_Key_or) (defBody s_Key_or) (defScope s_Key_or) [] [] (ad 5) (fd 5)
  f_Key_sub : FunD K "__sub__" "Key.__sub__" (defArgs s_Key_sub) (defBody s_Key_sub) (defScope s_Key_sub) [] [] (ad 7) (fd 7)
  f_Key_xor : FunD K "__xor__" "Key.__xor__" (defArgs s_Key_xor) (defBody s_Key_xor) (defScope s_Key_xor) [] [] (ad 8) (fd 8)
  f__law_key : FunD K "_law_key" "_law_key" (defArgs s__law_key) (defBody s__law_key) (defScope s__law_key) [] [] (ad 15) (fd 15)
  f__law_number : FunD K "_law_number" "_law_number" (defArgs s__law_number) (defBody s__law_number) (defScope s__law_number) [] [] (ad 14) (fd 14)
  f__law_of : FunD K "_law_of" "_law_of" (defArgs s__law_of) (defBody s__law_of) (defScope s__law_of) [] [] (ad 16) (fd 16)
  f__law_pair_right : FunD K "_law_pair_right" "_law_pair_right" (defArgs s__law_pair_right) (defBody s__law_pair_right) (defScope s__law_pair_right) [] [] (ad 17) (fd 17)
  f_in_order : FunD K "in_order" "in_order" (defArgs s_in_order) (defBody s_in_order) (defScope s_in_order) [] [] (ad 1) (fd 1)
  f_is_name : FunD K "is_name" "is_name" (defArgs s_is_name) (defBody s_is_name) (defScope s_is_name) [] [] (ad 0) (fd 0)
  f_law : FunD K "law" "law" (defArgs s_law) (defBody s_law) (defScope s_law) [] [] (ad 18) (fd 18)
  gC_Key : mg "Key" = some (.ref (cl.at_ 0))
  g_BadName : mg "BadName" = some (.ref (ad 20))
  g__law_key : mg "_law_key" = some (.ref (ad 15))
  g__law_number : mg "_law_number" = some (.ref (ad 14))
  g__law_of : mg "_law_of" = some (.ref (ad 16))
  g__law_pair_right : mg "_law_pair_right" = some (.ref (ad 17))
  g_in_order : mg "in_order" = some (.ref (ad 1))
  g_is_name : mg "is_name" = some (.ref (ad 0))
  i_Key_and : PySem.W.isFn K (.ref (ad 6)) = true
  i_Key_contains : PySem.W.isFn K (.ref (ad 11)) = true
  i_Key_eq : PySem.W.isFn K (.ref (ad 13)) = true
  i_Key_le : PySem.W.isFn K (.ref (ad 9)) = true
  i_Key_len : PySem.W.isFn K (.ref (ad 12)) = true
  i_Key_lt : PySem.W.isFn K (.ref (ad 10)) = true
  i_Key_or : PySem.W.isFn K (.ref (ad 5)) = true
  i_Key_sub : PySem.W.isFn K (.ref (ad 7)) = true
  i_Key_xor : PySem.W.isFn K (.ref (ad 8)) = true
  kC_Key : PySem.W.keepIn K (.ref (cl.at_ 0)) = true
  k__law_key : PySem.W.keepIn K (.ref (ad 15)) = true
  k__law_number : PySem.W.keepIn K (.ref (ad 14)) = true
  k__law_of : PySem.W.keepIn K (.ref (ad 16)) = true
  k__law_pair_right : PySem.W.keepIn K (.ref (ad 17)) = true
  k_in_order : PySem.W.keepIn K (.ref (ad 1)) = true
  k_is_name : PySem.W.keepIn K (.ref (ad 0)) = true
  na_Key_held : NoAttr K (cl.at_ 0) "held"
  nb_Key : PySem.W.findIn K (.ref (cl.at_ 0)) "__bool__" = some none
  ne_Key : PySem.W.findIn K (.ref (cl.at_ 0)) "__ne__" = some (some (.builtin "object.__ne__"))
  pr_Key_names : PropOf K (cl.at_ 0) "names" (ad 22) (ad 4)
  sf_Key : PySem.W.selfFirst K (cl.at_ 0) = true
  x_BadName : cl.xv 0 = .ref (ad 20)
section
variable {P : Program} {w : World} {K : PySem.W.Frag} {mg : Str → Option Value} {base : Heap} {cl : Cl} {ad : Nat → Addr} {fd : Nat → FuncData} {mc : Value}
theorem ok_Key_contains (T : Tx K mg cl ad fd mc w) : FnD P w K mg base cl 2 (ad 11) m_Key_contains :=
  fnD_of0 T.f_Key_contains sc_Key_contains (fun _ _ _ _ _ _ us hl => match us, hl with | [_, _], _ => rfl) (fun cdv A outer s H E c hc hr => by
    subst hc
    exact dss_one (ds_ret (DE.w (de_and (de_isi (g := isiT_str) (DE.w (de_var 1)) (pe_bltn (v := .ty "str") rfl T.b_str boot_str rfl) (.ty "str") (isiT_str_ok) (by intro k r h; cases h) T.b_isinstance) (de_one (de_cmp (ow_in) (DE.w (de_var 1)) (DE.w (de_fld (k := 0) (DE.w (de_var 0)) T.C_Key T.na_Key_held))))))))
theorem ok_in_order (T : Tx K mg cl ad fd mc w) (F_Key_contains : FnD P w K mg base cl 2 (ad 11) m_Key_contains) : FnD P w K mg base cl 3 (ad 1) m_in_order :=
  fnD_of0 T.f_in_order sc_in_order (fun _ _ _ _ _ _ us hl => match us, hl with | [_], _ => rfl) (fun cdv A outer s H E c hc hr => by
    subst hc
    exact dss_one (ds_ret (DE.w (de_callT ca_tup (dw_cons (DE.w (de_lc (own := [("name", 1)]) (T := [1]) (tlc_any (vs := [1]) (by decide)) rfl sc_in_order.nd (pi_or (pi_list (de_glob (v := .ref (ad 19)) T.c_NAMES.1 rfl (tupK_rep (xs := [w_f0, w_f1, w_f2, w_c0, w_c1, w_p0, w_p1]) T.c_NAMES.2))) (pi_tup (de_glob (v := .ref (ad 19)) T.c_NAMES.1 rfl (tupK_rep (xs := [w_f0, w_f1, w_f2, w_c0, w_c1, w_p0, w_p1]) T.c_NAMES.2)))) (blkOk_by (N := ["names", "name"]) (sc := defScope s_in_order) (by decide +kernel)) (fun _ _ _ _ _ => dg_name 1 sc_in_order.nd) (fun _ _ _ _ _ => dts_one (dt_cmpS (OpS.alt (os_in (kc := 0) (caD_of F_Key_contains (hr.mono (by decide)) takes0) T.d_Key_contains T.i_Key_contains) (OpW.s (ow_in))) (de_var 1) (de_var 0))) (fun _ _ _ _ _ => de_var 1))) (dw_nil)) T.b_tuple boot_tuple))))
theorem ok_is_name (T : Tx K mg cl ad fd mc w) : FnD P w K mg base cl 2 (ad 0) m_is_name :=
  fnD_of0 T.f_is_name sc_is_name (fun _ _ _ _ _ _ us hl => match us, hl with | [_], _ => rfl) (fun cdv A outer s H E c hc hr => by
    subst hc
    exact dss_one (ds_ret (DE.w (de_and (de_isi (g := isiT_str) (DE.w (de_var 0)) (pe_bltn (v := .ty "str") rfl T.b_str boot_str rfl) (.ty "str") (isiT_str_ok) (by intro k r h; cases h) T.b_isinstance) (de_one (de_cmp (ow_in) (DE.w (de_var 0)) (DE.w (de_glob (v := .ref (ad 19)) T.c_NAMES.1 rfl (tupK_rep (xs := [w_f0, w_f1, w_f2, w_c0, w_c1, w_p0, w_p1]) T.c_NAMES.2)))))))))
theorem ok_Key_init (T : Tx K mg cl ad fd mc w) (F_in_order : FnD P w K mg base cl 3 (ad 1) m_in_order) (F_is_name : FnD P w K mg base cl 2 (ad 0) m_is_name) : FnR P w K mg base (L2.CX P w) 4 (ad 2) (spI K cl 0 i_Key) := by
  have body : ∀ (cdv : Value) (A : Around) (outer : List PySem.Env) (s : Shared) (H : Hp) (E : XK) (c : Cc), c.cl = cl → Room 3 (A.deeper (envOfC "Key.__init__" (defScope s_Key_init) s.heap.objs.size (ad 2) cdv)) → DSs (Xb P w K mg base ["self", "names", "name"] "Key.__init__" s_Key_init (ad 2) cdv A outer s H E) c (Wb E) (defBody s_Key_init) b_Key_init := (fun cdv A outer s H E c hc hr => by
    subst hc
    exact dss_cons (ds_if (dt_pt (dt_or (dt_not (dt_val (de_isiT (g := isiT_lt) (cvs := [.ty "list", .ty "tuple"]) (us := [.type "list", .type "tuple"]) (DE.w (de_var 1)) (pa_cons (pe_bltn (v := .ty "list") rfl T.b_list boot_list rfl) (pa_cons (pe_bltn (v := .ty "tuple") rfl T.b_tuple boot_tuple rfl) pa_nil)) (fun _ _ _ q => q) (by decide) (.cons (.ty "list") (.cons (.ty "tuple") .nil)) isiT_lt_ok (by intro k r h; cases h) T.b_isinstance))) (dt_or1 (dt_not (dt_val (de_callB (ca_all rfl) (dw_cons (DE.w (de_lc (own := [("name", 2)]) (T := [2]) (tlc_any (vs := [2]) (by decide)) rfl sc_Key_init.nd (pi_or (pi_list (de_var 1)) (pi_tup (de_var 1))) (blkOk_by (N := ["self", "names", "name"]) (sc := defScope s_Key_init) (by decide +kernel)) (fun _ _ _ _ _ => dg_name 2 sc_Key_init.nd) (fun _ _ _ _ _ => dts_nil) (fun _ _ _ _ _ => de_call (caD_of F_is_name (hr.mono (by decide)) takes0) T.k_is_name T.g_is_name (da_cons (de_var 2) (da_nil))))) (dw_nil)) T.b_all (by decide +kernel))))))) (dss_one (ds_raise (k := 0) T.e_BadName T.x_BadName T.g_BadName rfl takes_b)) (dss_nil)) (dss_one (ds_setF 0 0 (de_call (caD_of F_in_order (hr.mono (by decide)) takes_b) T.k_in_order T.g_in_order (da_cons (de_var 1) (da_nil))) T.C_Key T.na_Key_held)))
  obtain ⟨ds0, v0, bn0⟩ := T.f_Key_init.binds1 (ps := ["self", "names"]) 2 1 (by intro h; cases h) rfl (fun _ _ _ _ _ _ _ us its hu hi => match us, hu, its, hi with | [_, _], _, [_], _ => ⟨_, rfl, rfl⟩)
  obtain ⟨ds1, v1, bn1⟩ := T.f_Key_init.binds1 (ps := ["self", "names"]) 1 0 (by intro h; cases h) rfl (fun _ _ _ _ _ _ _ us its hu hi => match us, hu, its, hi with | [_], _, [_], _ => ⟨_, rfl, rfl⟩)
  exact fnI_two (fnI_of (kc := 0) (dd := []) T.f_Key_init sc_Key_init bn0 v0 (fun _ => reps_nil) body) (fnI_of (kc := 0) (dd := [.tup []]) T.f_Key_init sc_Key_init bn1 v1 (fun H => reps_cons (rep_tup (Or.inr T.df_Key_init) reps_nil) reps_nil) body)
theorem ok_Key_and (T : Tx K mg cl ad fd mc w) (F_Key_init : FnR P w K mg base (L2.CX P w) 4 (ad 2) (spI K cl 0 i_Key)) : FnD P w K mg base cl 6 (ad 6) m_Key_and :=
  fnD_of0 T.f_Key_and sc_Key_and (fun _ _ _ _ _ _ us hl => match us, hl with | [_, _], _ => rfl) (fun cdv A outer s H E c hc hr => by
    subst hc
    exact dss_one (ds_ret (DE.w (de_call (cd_make (C := 0) (kc := 0) T.M_Key F_Key_init (hr.mono (by decide)) takes_b) T.kC_Key T.gC_Key (da_cons (de_lc (own := [("name", 2)]) (T := [2]) (tlc_any (vs := [2]) (by decide)) rfl sc_Key_and.nd (pi_or (pi_list (de_fld (k := 0) (DE.w (de_var 0)) T.C_Key T.na_Key_held)) (pi_tup (de_fld (k := 0) (DE.w (de_var 0)) T.C_Key T.na_Key_held))) (blkOk_by (N := ["self", "other", "name"]) (sc := defScope s_Key_and) (by decide +kernel)) (fun _ _ _ _ _ => dg_name 2 sc_Key_and.nd) (fun _ _ _ _ _ => dts_one (dt_cmp (ow_in) (DE.w (de_var 2)) (DE.w (de_fld (k := 0) (DE.w (de_var 1)) T.C_Key T.na_Key_held)))) (fun _ _ _ _ _ => de_var 2)) (da_nil))))))
theorem ok_Key_eq (T : Tx K mg cl ad fd mc w) : FnD P w K mg base cl 2 (ad 13) m_Key_eq :=
  fnD_of0 T.f_Key_eq sc_Key_eq (fun _ _ _ _ _ _ us hl => match us, hl with | [_, _], _ => rfl) (fun cdv A outer s H E c hc hr => by
    subst hc
    exact dss_one (ds_ret (DE.w (de_and (de_isi (g := isiC 0) (DE.w (de_var 1)) (pe_glob (v := .ref (c.cl.at_ 0)) rfl T.gC_Key rfl) (.own _) (isiC_ok) (isiC_in T.I_Key) T.b_isinstance) (de_one (de_cmp (ow_eq hr.units) (DE.w (de_fld (k := 0) (DE.w (de_var 0)) T.C_Key T.na_Key_held)) (DE.w (de_fld (k := 0) (DE.w (de_var 1)) T.C_Key T.na_Key_held))))))))
theorem ok_Key_le (T : Tx K mg cl ad fd mc w) : FnD P w K mg base cl 2 (ad 9) m_Key_le :=
  fnD_of0 T.f_Key_le sc_Key_le (fun _ _ _ _ _ _ us hl => match us, hl with | [_, _], _ => rfl) (fun cdv A outer s H E c hc hr => by
    subst hc
    exact dss_cons (ds_if (dt_not (dt_val (de_isi (g := isiC 0) (DE.w (de_var 1)) (pe_glob (v := .ref (c.cl.at_ 0)) rfl T.gC_Key rfl) (.own _) (isiC_ok) (isiC_in T.I_Key) T.b_isinstance))) (dss_one (ds_ret (DE.w (de_bad)))) (dss_nil)) (dss_one (ds_ret (DE.w (de_callB (ca_all rfl) (dw_cons (DE.w (de_lc (own := [("name", 2)]) (T := [2]) (tlc_any (vs := [2]) (by decide)) rfl sc_Key_le.nd (pi_or (pi_list (de_fld (k := 0) (DE.w (de_var 0)) T.C_Key T.na_Key_held)) (pi_tup (de_fld (k := 0) (DE.w (de_var 0)) T.C_Key T.na_Key_held))) (blkOk_by (N := ["self", "other", "name"]) (sc := defScope s_Key_le) (by decide +kernel)) (fun _ _ _ _ _ => dg_name 2 sc_Key_le.nd) (fun _ _ _ _ _ => dts_nil) (fun _ _ _ _ _ => de_cmp (ow_in) (DE.w (de_var 2)) (DE.w (de_fld (k := 0) (DE.w (de_var 1)) T.C_Key T.na_Key_held))))) (dw_nil)) T.b_all (by decide +kernel))))))
theorem ok_Key_len (T : Tx K mg cl ad fd mc w) : FnD P w K mg base cl 2 (ad 12) m_Key_len :=
  fnD_of0 T.f_Key_len sc_Key_len (fun _ _ _ _ _ _ us hl => match us, hl with | [_], _ => rfl) (fun cdv A outer s H E c hc hr => by
    subst hc
    exact dss_one (ds_ret (DE.w (de_callB ca_len (dw_cons (DE.w (de_fld (k := 0) (DE.w (de_var 0)) T.C_Key T.na_Key_held)) (dw_nil)) T.b_len boot_len))))
theorem ok_Key_or (T : Tx K mg cl ad fd mc w) (F_Key_init : FnR P w K mg base (L2.CX P w) 4 (ad 2) (spI K cl 0 i_Key)) : FnD P w K mg base cl 6 (ad 5) m_Key_or :=
  fnD_of0 T.f_Key_or sc_Key_or (fun _ _ _ _ _ _ us hl => match us, hl with | [_, _], _ => rfl) (fun cdv A outer s H E c hc hr => by
    subst hc
    exact dss_one (ds_ret (DE.w (de_call (cd_make (C := 0) (kc := 0) T.M_Key F_Key_init (hr.mono (by decide)) takes_b) T.kC_Key T.gC_Key (da_cons (de_bin ow_addW (DE.w (de_fld (k := 0) (DE.w (de_var 0)) T.C_Key T.na_Key_held)) (DE.w (de_fld (k := 0) (DE.w (de_var 1)) T.C_Key T.na_Key_held))) (da_nil))))))
theorem ok_Key_sub (T : Tx K mg cl ad fd mc w) (F_Key_init : FnR P w K mg base (L2.CX P w) 4 (ad 2) (spI K cl 0 i_Key)) : FnD P w K mg base cl 6 (ad 7) m_Key_sub :=
  fnD_of0 T.f_Key_sub sc_Key_sub (fun _ _ _ _ _ _ us hl => match us, hl with | [_, _], _ => rfl) (fun cdv A outer s H E c hc hr => by
    subst hc
    exact dss_cons (ds_if (dt_not (dt_val (de_isi (g := isiC 0) (DE.w (de_var 1)) (pe_glob (v := .ref (c.cl.at_ 0)) rfl T.gC_Key rfl) (.own _) (isiC_ok) (isiC_in T.I_Key) T.b_isinstance))) (dss_one (ds_ret (DE.w (de_bad)))) (dss_nil)) (dss_one (ds_ret (DE.w (de_call (cd_make (C := 0) (kc := 0) T.M_Key F_Key_init (hr.mono (by decide)) takes_b) T.kC_Key T.gC_Key (da_cons (de_lc (own := [("name", 2)]) (T := [2]) (tlc_any (vs := [2]) (by decide)) rfl sc_Key_sub.nd (pi_or (pi_list (de_fld (k := 0) (DE.w (de_var 0)) T.C_Key T.na_Key_held)) (pi_tup (de_fld (k := 0) (DE.w (de_var 0)) T.C_Key T.na_Key_held))) (blkOk_by (N := ["self", "other", "name"]) (sc := defScope s_Key_sub) (by decide +kernel)) (fun _ _ _ _ _ => dg_name 2 sc_Key_sub.nd) (fun _ _ _ _ _ => dts_one (dt_cmp (ow_notIn) (DE.w (de_var 2)) (DE.w (de_fld (k := 0) (DE.w (de_var 1)) T.C_Key T.na_Key_held)))) (fun _ _ _ _ _ => de_var 2)) (da_nil)))))))
theorem ok_Key_xor (T : Tx K mg cl ad fd mc w) (F_Key_or : FnD P w K mg base cl 6 (ad 5) m_Key_or) (F_Key_sub : FnD P w K mg base cl 6 (ad 7) m_Key_sub) : FnD P w K mg base cl 7 (ad 8) m_Key_xor :=
  fnD_of0 T.f_Key_xor sc_Key_xor (fun _ _ _ _ _ _ us hl => match us, hl with | [_, _], _ => rfl) (fun cdv A outer s H E c hc hr => by
    subst hc
    exact dss_one (ds_ret (DE.w (de_binS (os_own (kc := 0) (caD_of F_Key_or (hr.mono (by decide)) takes_b) T.sf_Key T.d_Key_or T.i_Key_or) (de_binS (OpS.alt (os_own (kc := 0) (caD_of F_Key_sub (hr.mono (by decide)) takes_b) T.sf_Key T.d_Key_sub T.i_Key_sub) (OpW.s ow_subI)) (de_var 0) (de_var 1)) (de_binS (OpS.alt (os_own (kc := 0) (caD_of F_Key_sub (hr.mono (by decide)) takes_b) T.sf_Key T.d_Key_sub T.i_Key_sub) (OpW.s ow_subI)) (de_var 1) (de_var 0))))))
theorem ok_Key_names (T : Tx K mg cl ad fd mc w) : FnD P w K mg base cl 2 (ad 4) m_Key_names :=
  fnD_of0 T.f_Key_names sc_Key_names (fun _ _ _ _ _ _ us hl => match us, hl with | [_], _ => rfl) (fun cdv A outer s H E c hc hr => by
    subst hc
    exact dss_one (ds_ret (DE.w (de_fld (k := 0) (DE.w (de_var 0)) T.C_Key T.na_Key_held))))
theorem ok_Key_of (T : Tx K mg cl ad fd mc w) (F_Key_init : FnR P w K mg base (L2.CX P w) 4 (ad 2) (spI K cl 0 i_Key)) : FnD P w K mg base cl 6 (ad 3) m_Key_of :=
  fnD_star (ps := ["cls"]) T.f_Key_of sc_Key_of (fun kV doc pm an cdv ct => StX.bind_star1 (B := fun l => bindArgs (PySem.W.fnOf "of" "Key.of" (defArgs s_Key_of) (defBody s_Key_of) (defScope s_Key_of) .none kV doc pm an cdv ct) ⟨l, []⟩) (p1 := "cls") (pv := "names") (fun _ => rfl) (fun _ _ _ => rfl)) (fun cdv A outer s H E c hc hr => by
    subst hc
    exact dss_one (ds_ret (DE.w (de_callL (i := 0) (kc := 0) (cd_make (C := 0) (kc := 0) T.M_Key F_Key_init (hr.mono (by decide)) takes_b) T.kC_Key (da_cons (de_var 1) (da_nil))))))
theorem ok__law_key (T : Tx K mg cl ad fd mc w) : FnD P w K mg base cl 2 (ad 15) m__law_key :=
  fnD_of0 T.f__law_key sc__law_key (fun _ _ _ _ _ _ us hl => match us, hl with | [_], _ => rfl) (fun cdv A outer s H E c hc hr => by
    subst hc
    exact dss_cons (ds_par3 rfl sc__law_key.nd (da_cons (de_lst (da_cons (de_str) (da_cons (de_str) (da_cons (de_str) (da_cons (de_str) (da_cons (de_str) (da_cons (de_str) (da_cons (de_str) (da_nil))))))))) (da_cons (de_lst (da_nil)) (da_cons (de_bin ow_modI (DE.w (de_callT ca_int (dw_cons (DE.w (de_var 0)) (dw_nil)) T.b_int boot_int)) (DE.w (de_int))) (da_nil))))) (dss_cons (ds_for passes_b rfl (de_var 2) (dg_name 1 sc__law_key.nd) (dss_cons (ds_asg (de_if (dt_cmp (ow_eq hr.units) (DE.w (de_bin ow_modI (DE.w (de_callT ca_int (dw_cons (DE.w (de_var 4)) (dw_nil)) T.b_int boot_int)) (DE.w (de_int)))) (DE.w (de_int))) (de_bin ow_addW (DE.w (de_var 3)) (DE.w (de_lst (da_cons (de_var 1) (da_nil))))) (de_var 3)) (dg_name 3 sc__law_key.nd)) (dss_one (ds_asg (de_bin ow_divI (DE.w (de_var 4)) (DE.w (de_int))) (dg_name 4 sc__law_key.nd))))) (dss_one (ds_ret (DE.w (de_var 3))))))
theorem ok__law_number (T : Tx K mg cl ad fd mc w) (F_Key_eq : FnD P w K mg base cl 2 (ad 13) m_Key_eq) (F_Key_len : FnD P w K mg base cl 2 (ad 12) m_Key_len) : FnD P w K mg base cl 4 (ad 14) m__law_number :=
  fnD_of0 T.f__law_number sc__law_number (fun _ _ _ _ _ _ us hl => match us, hl with | [_, _], _ => rfl) (fun cdv A outer s H E c hc hr => by
    subst hc
    exact dss_cons (ds_asg (de_if (dt_cmpS (OpS.alt (os_ne (kc := 0) F_Key_eq (hr.mono (by decide)) takes_b T.C_Key T.ne_Key T.d_Key_eq T.i_Key_eq) (OpW.s (ow_ne hr.units))) (de_var 0) (de_lst (da_nil))) (de_sl (DE.w (de_var 0)) (do_no) (do_some (de_int))) (de_lst (da_cons (de_int) (da_nil)))) (dg_name 2 sc__law_number.nd)) (dss_cons (ds_asg (de_bin ow_addW (DE.w (de_ix (DE.w (de_var 2)) (de_bin ow_modI (DE.w (de_callT ca_int (dw_cons (DE.w (de_var 1)) (dw_nil)) T.b_int boot_int)) (DE.w (de_callBS (CaD.alt (cd_len (kc := 0) F_Key_len (hr.mono (by decide)) takes_b T.d_Key_len T.i_Key_len) (CaW.d ca_len)) (da_cons (de_var 2) (da_nil)) T.b_len boot_len))))) (DE.w (de_bin ow_mulI (DE.w (de_int)) (DE.w (de_bin ow_divI (DE.w (de_var 1)) (DE.w (de_callBS (CaD.alt (cd_len (kc := 0) F_Key_len (hr.mono (by decide)) takes_b T.d_Key_len T.i_Key_len) (CaW.d ca_len)) (da_cons (de_var 2) (da_nil)) T.b_len boot_len))))))) (dg_name 3 sc__law_number.nd)) (dss_cons (ds_par2 rfl sc__law_number.nd (da_cons (de_bin ow_modI (DE.w (de_callT ca_int (dw_cons (DE.w (de_var 3)) (dw_nil)) T.b_int boot_int)) (DE.w (de_int))) (da_cons (de_bin ow_modI (DE.w (de_callT ca_int (dw_cons (DE.w (de_bin ow_divI (DE.w (de_var 3)) (DE.w (de_int)))) (dw_nil)) T.b_int boot_int)) (DE.w (de_int))) (da_nil)))) (dss_cons (ds_asg (de_bin ow_modI (DE.w (de_callT ca_int (dw_cons (DE.w (de_callB (ca_sum rfl) (dw_cons (DE.w (de_var 2)) (dw_nil)) T.b_sum (by decide +kernel))) (dw_nil)) T.b_int boot_int)) (DE.w (de_int))) (dg_name 4 sc__law_number.nd)) (dss_cons (ds_asg (de_bin ow_modI (DE.w (de_callT ca_int (dw_cons (DE.w (de_bin ow_addW (DE.w (de_bin ow_addW (DE.w (de_bin ow_mulI (DE.w (de_bin ow_addW (DE.w (de_var 6)) (DE.w (de_bin ow_mulI (DE.w (de_int)) (DE.w (de_var 1)))))) (DE.w (de_int)))) (DE.w (de_bin ow_mulI (DE.w (de_int)) (DE.w (de_var 7)))))) (DE.w (de_var 4)))) (dw_nil)) T.b_int boot_int)) (DE.w (de_int))) (dg_name 5 sc__law_number.nd)) (dss_one (ds_ret (DE.w (de_bin ow_addW (DE.w (de_bin ow_mulI (DE.w (de_bin ow_modI (DE.w (de_callT ca_int (dw_cons (DE.w (de_bin ow_mulI (DE.w (de_var 5)) (DE.w (de_bin ow_addW (DE.w (de_bin ow_addW (DE.w (de_var 5)) (DE.w (de_bin ow_mulI (DE.w (de_int)) (DE.w (de_var 1)))))) (DE.w (de_int)))))) (dw_nil)) T.b_int boot_int)) (DE.w (de_int)))) (DE.w (de_int)))) (DE.w (de_var 7)))))))))))
theorem ok_Key_lt (T : Tx K mg cl ad fd mc w) (F_Key_le : FnD P w K mg base cl 2 (ad 9) m_Key_le) : FnD P w K mg base cl 3 (ad 10) m_Key_lt :=
  fnD_of0 T.f_Key_lt sc_Key_lt (fun _ _ _ _ _ _ us hl => match us, hl with | [_, _], _ => rfl) (fun cdv A outer s H E c hc hr => by
    subst hc
    exact dss_cons (ds_if (dt_not (dt_val (de_isi (g := isiC 0) (DE.w (de_var 1)) (pe_glob (v := .ref (c.cl.at_ 0)) rfl T.gC_Key rfl) (.own _) (isiC_ok) (isiC_in T.I_Key) T.b_isinstance))) (dss_one (ds_ret (DE.w (de_bad)))) (dss_nil)) (dss_one (ds_ret (DE.w (de_and (de_cmpS (OpS.alt (os_cmp (kc := 0) rfl (caD_of F_Key_le (hr.mono (by decide)) takes_b) hr.units0 T.d_Key_le T.i_Key_le) (OpW.s (ow_leI))) (de_var 0) (de_var 1)) (de_one (de_cmp (ow_ltI) (DE.w (de_callB ca_len (dw_cons (DE.w (de_fld (k := 0) (DE.w (de_var 0)) T.C_Key T.na_Key_held)) (dw_nil)) T.b_len boot_len)) (DE.w (de_callB ca_len (dw_cons (DE.w (de_fld (k := 0) (DE.w (de_var 1)) T.C_Key T.na_Key_held)) (dw_nil)) T.b_len boot_len)))))))))
theorem ok__law_of (T : Tx K mg cl ad fd mc w) (F_Key_eq : FnD P w K mg base cl 2 (ad 13) m_Key_eq) (F_Key_init : FnR P w K mg base (L2.CX P w) 4 (ad 2) (spI K cl 0 i_Key)) (F_Key_len : FnD P w K mg base cl 2 (ad 12) m_Key_len) (F_Key_of : FnD P w K mg base cl 6 (ad 3) m_Key_of) : FnD P w K mg base cl 7 (ad 16) m__law_of :=
  fnD_of0 T.f__law_of sc__law_of (fun _ _ _ _ _ _ us hl => match us, hl with | [_], _ => rfl) (fun cdv A outer s H E c hc hr => by
    subst hc
    exact dss_cons (ds_if (dt_cmp (ow_ltI) (DE.w (de_callBS (CaD.alt (cd_len (kc := 0) F_Key_len (hr.mono (by decide)) takes_b T.d_Key_len T.i_Key_len) (CaW.d ca_len)) (da_cons (de_var 0) (da_nil)) T.b_len boot_len)) (DE.w (de_int))) (dss_one (ds_ret (DE.w (de_if (dt_cmpS (OpS.alt (os_cmp (kc := 0) rfl (caD_of F_Key_eq (hr.mono (by decide)) takes_b) hr.units0 T.d_Key_eq T.i_Key_eq) (OpW.s (ow_eq hr.units))) (de_var 0) (de_lst (da_nil))) (de_cm0 (kc := 0) (pe_glob (v := .ref (c.cl.at_ 0)) rfl T.gC_Key rfl) T.cr_Key T.cm_Key_of F_Key_of (hr.mono (by decide)) takes_b) (de_cm (kc := 0) (pe_glob (v := .ref (c.cl.at_ 0)) rfl T.gC_Key rfl) T.cr_Key T.cm_Key_of F_Key_of (hr.mono (by decide)) takes_b (da_cons (de_ix (DE.w (de_var 0)) (de_int)) (da_nil))))))) (dss_nil)) (dss_one (ds_ret (DE.w (de_if (dt_cmp (ow_eq hr.units) (DE.w (de_callBS (CaD.alt (cd_len (kc := 0) F_Key_len (hr.mono (by decide)) takes_b T.d_Key_len T.i_Key_len) (CaW.d ca_len)) (da_cons (de_var 0) (da_nil)) T.b_len boot_len)) (DE.w (de_int))) (de_cm (kc := 0) (pe_glob (v := .ref (c.cl.at_ 0)) rfl T.gC_Key rfl) T.cr_Key T.cm_Key_of F_Key_of (hr.mono (by decide)) takes_b (da_cons (de_ix (DE.w (de_var 0)) (de_int)) (da_cons (de_ix (DE.w (de_var 0)) (de_int)) (da_nil)))) (de_call (cd_make (C := 0) (kc := 0) T.M_Key F_Key_init (hr.mono (by decide)) takes_b) T.kC_Key T.gC_Key (da_cons (de_callT ca_tup (dw_cons (DE.w (de_var 0)) (dw_nil)) T.b_tuple boot_tuple) (da_nil))))))))
theorem ok__law_pair_right (T : Tx K mg cl ad fd mc w) (F_Key_and : FnD P w K mg base cl 6 (ad 6) m_Key_and) (F_Key_contains : FnD P w K mg base cl 2 (ad 11) m_Key_contains) (F_Key_eq : FnD P w K mg base cl 2 (ad 13) m_Key_eq) (F_Key_init : FnR P w K mg base (L2.CX P w) 4 (ad 2) (spI K cl 0 i_Key)) (F_Key_le : FnD P w K mg base cl 2 (ad 9) m_Key_le) (F_Key_len : FnD P w K mg base cl 2 (ad 12) m_Key_len) (F_Key_lt : FnD P w K mg base cl 3 (ad 10) m_Key_lt) (F_Key_or : FnD P w K mg base cl 6 (ad 5) m_Key_or) (F_Key_sub : FnD P w K mg base cl 6 (ad 7) m_Key_sub) (F_Key_xor : FnD P w K mg base cl 7 (ad 8) m_Key_xor) (F_Key_names : FnD P w K mg base cl 2 (ad 4) m_Key_names) (F__law_of : FnD P w K mg base cl 7 (ad 16) m__law_of) : FnD P w K mg base cl 8 (ad 17) m__law_pair_right :=
  fnD_of0 T.f__law_pair_right sc__law_pair_right (fun _ _ _ _ _ _ us hl => match us, hl with | [_, _], _ => rfl) (fun cdv A outer s H E c hc hr => by
    subst hc
    exact dss_cons (ds_asg (de_tup (da_cons (de_call (cd_make (C := 0) (kc := 0) T.M_Key F_Key_init (hr.mono (by decide)) takes_b) T.kC_Key T.gC_Key (da_cons (de_bin ow_addW (DE.w (de_rev (DE.w (de_var 0)))) (DE.w (de_sl (DE.w (de_var 0)) (do_no) (do_some (de_int))))) (da_nil))) (da_cons (de_call (caD_of F__law_of (hr.mono (by decide)) takes_b) T.k__law_of T.g__law_of (da_cons (de_var 1) (da_nil))) (da_nil)))) (dg_tup rfl (dgs_cons (dg_name 4 sc__law_pair_right.nd) (dgs_cons (dg_name 5 sc__law_pair_right.nd) (dgs_nil))))) (dss_cons (ds_if (dt_pt (dt_or (dt_cmp (ow_ne hr.units) (DE.w (de_prop (kc := 0) (de_var 4) T.C_Key T.pr_Key_names F_Key_names (hr.mono (by decide)))) (DE.w (de_callT ca_tup (dw_cons (DE.w (de_var 0)) (dw_nil)) T.b_tuple boot_tuple))) (dt_or (dt_cmp (ow_ne hr.units) (DE.w (de_prop (kc := 0) (de_var 5) T.C_Key T.pr_Key_names F_Key_names (hr.mono (by decide)))) (DE.w (de_callT ca_tup (dw_cons (DE.w (de_var 1)) (dw_nil)) T.b_tuple boot_tuple))) (dt_or (dt_cmp (ow_ne hr.units) (DE.w (de_callBS (CaD.alt (cd_len (kc := 0) F_Key_len (hr.mono (by decide)) takes_b T.d_Key_len T.i_Key_len) (CaW.d ca_len)) (da_cons (de_var 4) (da_nil)) T.b_len boot_len)) (DE.w (de_callBS (CaD.alt (cd_len (kc := 0) F_Key_len (hr.mono (by decide)) takes_b T.d_Key_len T.i_Key_len) (CaW.d ca_len)) (da_cons (de_var 0) (da_nil)) T.b_len boot_len))) (dt_or1 (dt_cmp (ow_ne hr.units) (DE.w (de_callTS (cd_bool (kc := 0) F_Key_len (hr.mono (by decide)) takes_b T.nb_Key T.d_Key_len T.i_Key_len) (da_cons (de_var 4) (da_nil)) T.b_bool boot_bool)) (DE.w (de_cmpS (OpS.alt (os_ne (kc := 0) F_Key_eq (hr.mono (by decide)) takes_b T.C_Key T.ne_Key T.d_Key_eq T.i_Key_eq) (OpW.s (ow_ne hr.units))) (de_var 0) (de_lst (da_nil)))))))))) (dss_one (ds_ret (DE.w (de_bl)))) (dss_nil)) (dss_cons (ds_asg (de_lst (da_cons (de_str) (da_cons (de_str) (da_cons (de_str) (da_cons (de_str) (da_cons (de_str) (da_cons (de_str) (da_cons (de_str) (da_nil))))))))) (dg_name 2 sc__law_pair_right.nd)) (dss_cons (ds_if (dt_cmp (ow_ne hr.units) (DE.w (de_prop (kc := 0) (de_binS (os_own (kc := 0) (caD_of F_Key_or (hr.mono (by decide)) takes_b) T.sf_Key T.d_Key_or T.i_Key_or) (de_var 4) (de_var 5)) T.C_Key T.pr_Key_names F_Key_names (hr.mono (by decide)))) (DE.w (de_callT ca_tup (dw_cons (DE.w (de_lc (own := [("name", 6)]) (T := [6]) (tlc_any (vs := [6]) (by decide)) rfl sc__law_pair_right.nd (pi_or (pi_list (de_var 2)) (pi_tup (de_var 2))) (blkOk_by (N := ["one", "other", "every", "is_within", "mine", "theirs", "name"]) (sc := defScope s__law_pair_right) (by decide +kernel)) (fun _ _ _ _ _ => dg_name 6 sc__law_pair_right.nd) (fun _ _ _ _ _ => dts_one (dt_pt (dt_or (dt_cmpS (OpS.alt (os_in (kc := 0) (caD_of F_Key_contains (hr.mono (by decide)) takes0) T.d_Key_contains T.i_Key_contains) (OpW.s (ow_in))) (de_var 6) (de_var 0)) (dt_or1 (dt_cmpS (OpS.alt (os_in (kc := 0) (caD_of F_Key_contains (hr.mono (by decide)) takes0) T.d_Key_contains T.i_Key_contains) (OpW.s (ow_in))) (de_var 6) (de_var 1)))))) (fun _ _ _ _ _ => de_var 6))) (dw_nil)) T.b_tuple boot_tuple))) (dss_one (ds_ret (DE.w (de_bl)))) (dss_nil)) (dss_cons (ds_if (dt_cmp (ow_ne hr.units) (DE.w (de_prop (kc := 0) (de_binS (os_own (kc := 0) (caD_of F_Key_and (hr.mono (by decide)) takes_b) T.sf_Key T.d_Key_and T.i_Key_and) (de_var 4) (de_var 5)) T.C_Key T.pr_Key_names F_Key_names (hr.mono (by decide)))) (DE.w (de_callT ca_tup (dw_cons (DE.w (de_lc (own := [("name", 6)]) (T := [6]) (tlc_any (vs := [6]) (by decide)) rfl sc__law_pair_right.nd (pi_or (pi_list (de_var 0)) (pi_tup (de_var 0))) (blkOk_by (N := ["one", "other", "every", "is_within", "mine", "theirs", "name"]) (sc := defScope s__law_pair_right) (by decide +kernel)) (fun _ _ _ _ _ => dg_name 6 sc__law_pair_right.nd) (fun _ _ _ _ _ => dts_one (dt_cmpS (OpS.alt (os_in (kc := 0) (caD_of F_Key_contains (hr.mono (by decide)) takes0) T.d_Key_contains T.i_Key_contains) (OpW.s (ow_in))) (de_var 6) (de_var 1))) (fun _ _ _ _ _ => de_var 6))) (dw_nil)) T.b_tuple boot_tuple))) (dss_one (ds_ret (DE.w (de_bl)))) (dss_nil)) (dss_cons (ds_if (dt_cmp (ow_ne hr.units) (DE.w (de_prop (kc := 0) (de_binS (OpS.alt (os_own (kc := 0) (caD_of F_Key_sub (hr.mono (by decide)) takes_b) T.sf_Key T.d_Key_sub T.i_Key_sub) (OpW.s ow_subI)) (de_var 4) (de_var 5)) T.C_Key T.pr_Key_names F_Key_names (hr.mono (by decide)))) (DE.w (de_callT ca_tup (dw_cons (DE.w (de_lc (own := [("name", 6)]) (T := [6]) (tlc_any (vs := [6]) (by decide)) rfl sc__law_pair_right.nd (pi_or (pi_list (de_var 0)) (pi_tup (de_var 0))) (blkOk_by (N := ["one", "other", "every", "is_within", "mine", "theirs", "name"]) (sc := defScope s__law_pair_right) (by decide +kernel)) (fun _ _ _ _ _ => dg_name 6 sc__law_pair_right.nd) (fun _ _ _ _ _ => dts_one (dt_cmpS (OpS.alt (os_notIn (kc := 0) (caD_of F_Key_contains (hr.mono (by decide)) takes0) T.d_Key_contains T.i_Key_contains) (OpW.s (ow_notIn))) (de_var 6) (de_var 1))) (fun _ _ _ _ _ => de_var 6))) (dw_nil)) T.b_tuple boot_tuple))) (dss_one (ds_ret (DE.w (de_bl)))) (dss_nil)) (dss_cons (ds_if (dt_cmp (ow_ne hr.units) (DE.w (de_prop (kc := 0) (de_binS (os_own (kc := 0) (caD_of F_Key_xor (hr.mono (by decide)) takes_b) T.sf_Key T.d_Key_xor T.i_Key_xor) (de_var 4) (de_var 5)) T.C_Key T.pr_Key_names F_Key_names (hr.mono (by decide)))) (DE.w (de_callT ca_tup (dw_cons (DE.w (de_lc (own := [("name", 6)]) (T := [6]) (tlc_any (vs := [6]) (by decide)) rfl sc__law_pair_right.nd (pi_or (pi_list (de_var 2)) (pi_tup (de_var 2))) (blkOk_by (N := ["one", "other", "every", "is_within", "mine", "theirs", "name"]) (sc := defScope s__law_pair_right) (by decide +kernel)) (fun _ _ _ _ _ => dg_name 6 sc__law_pair_right.nd) (fun _ _ _ _ _ => dts_one (dt_cmp (ow_ne hr.units) (DE.w (de_cmpS (OpS.alt (os_in (kc := 0) (caD_of F_Key_contains (hr.mono (by decide)) takes0) T.d_Key_contains T.i_Key_contains) (OpW.s (ow_in))) (de_var 6) (de_var 0))) (DE.w (de_cmpS (OpS.alt (os_in (kc := 0) (caD_of F_Key_contains (hr.mono (by decide)) takes0) T.d_Key_contains T.i_Key_contains) (OpW.s (ow_in))) (de_var 6) (de_var 1))))) (fun _ _ _ _ _ => de_var 6))) (dw_nil)) T.b_tuple boot_tuple))) (dss_one (ds_ret (DE.w (de_bl)))) (dss_nil)) (dss_cons (ds_asg (de_callB (ca_all rfl) (dw_cons (DE.w (de_lc (own := [("name", 6)]) (T := [6]) (tlc_any (vs := [6]) (by decide)) rfl sc__law_pair_right.nd (pi_or (pi_list (de_var 0)) (pi_tup (de_var 0))) (blkOk_by (N := ["one", "other", "every", "is_within", "mine", "theirs", "name"]) (sc := defScope s__law_pair_right) (by decide +kernel)) (fun _ _ _ _ _ => dg_name 6 sc__law_pair_right.nd) (fun _ _ _ _ _ => dts_nil) (fun _ _ _ _ _ => de_cmpS (OpS.alt (os_in (kc := 0) (caD_of F_Key_contains (hr.mono (by decide)) takes0) T.d_Key_contains T.i_Key_contains) (OpW.s (ow_in))) (de_var 6) (de_var 1)))) (dw_nil)) T.b_all (by decide +kernel)) (dg_name 3 sc__law_pair_right.nd)) (dss_cons (ds_if (dt_pt (dt_or (dt_cmp (ow_ne hr.units) (DE.w (de_cmpS (OpS.alt (os_cmp (kc := 0) rfl (caD_of F_Key_le (hr.mono (by decide)) takes_b) hr.units0 T.d_Key_le T.i_Key_le) (OpW.s (ow_leI))) (de_var 4) (de_var 5))) (DE.w (de_var 3))) (dt_or1 (dt_cmp (ow_ne hr.units) (DE.w (de_cmpS (OpS.alt (os_cmp (kc := 0) rfl (caD_of F_Key_lt (hr.mono (by decide)) takes_b) hr.units0 T.d_Key_lt T.i_Key_lt) (OpW.s (ow_ltI))) (de_var 4) (de_var 5))) (DE.w (de_and (de_var 3) (de_one (de_cmpS (OpS.alt (os_ne (kc := 0) F_Key_eq (hr.mono (by decide)) takes_b T.C_Key T.ne_Key T.d_Key_eq T.i_Key_eq) (OpW.s (ow_ne hr.units))) (de_var 0) (de_var 1))))))))) (dss_one (ds_ret (DE.w (de_bl)))) (dss_nil)) (dss_cons (ds_if (dt_pt (dt_or (dt_not (dt_val (de_callB (ca_all rfl) (dw_cons (DE.w (de_lc (own := [("name", 6)]) (T := [6]) (tlc_any (vs := [6]) (by decide)) rfl sc__law_pair_right.nd (pi_or (pi_list (de_var 2)) (pi_tup (de_var 2))) (blkOk_by (N := ["one", "other", "every", "is_within", "mine", "theirs", "name"]) (sc := defScope s__law_pair_right) (by decide +kernel)) (fun _ _ _ _ _ => dg_name 6 sc__law_pair_right.nd) (fun _ _ _ _ _ => dts_nil) (fun _ _ _ _ _ => de_cmp (ow_eq hr.units) (DE.w (de_cmpS (OpS.alt (os_in (kc := 0) (caD_of F_Key_contains (hr.mono (by decide)) takes0) T.d_Key_contains T.i_Key_contains) (OpW.s (ow_in))) (de_var 6) (de_var 4))) (DE.w (de_cmpS (OpS.alt (os_in (kc := 0) (caD_of F_Key_contains (hr.mono (by decide)) takes0) T.d_Key_contains T.i_Key_contains) (OpW.s (ow_in))) (de_var 6) (de_var 0)))))) (dw_nil)) T.b_all (by decide +kernel)))) (dt_or (dt_cmpS (OpS.alt (os_in (kc := 0) (caD_of F_Key_contains (hr.mono (by decide)) takes_b) T.d_Key_contains T.i_Key_contains) (OpW.s (ow_in))) (de_str) (de_var 4)) (dt_or (dt_cmpS (OpS.alt (os_in (kc := 0) (caD_of F_Key_contains (hr.mono (by decide)) takes_b) T.d_Key_contains T.i_Key_contains) (OpW.s (ow_in))) (de_int) (de_var 4)) (dt_or1 (dt_cmpS (OpS.alt (os_in (kc := 0) (caD_of F_Key_contains (hr.mono (by decide)) takes_b) T.d_Key_contains T.i_Key_contains) (OpW.s (ow_in))) (de_non) (de_var 4))))))) (dss_one (ds_ret (DE.w (de_bl)))) (dss_nil)) (dss_one (ds_ret (DE.w (de_and (de_cmp (ow_eq hr.units) (DE.w (de_cmpS (OpS.alt (os_cmp (kc := 0) rfl (caD_of F_Key_eq (hr.mono (by decide)) takes_b) hr.units0 T.d_Key_eq T.i_Key_eq) (OpW.s (ow_eq hr.units))) (de_var 4) (de_var 5))) (DE.w (de_cmpS (OpS.alt (os_cmp (kc := 0) rfl (caD_of F_Key_eq (hr.mono (by decide)) takes_b) hr.units0 T.d_Key_eq T.i_Key_eq) (OpW.s (ow_eq hr.units))) (de_var 0) (de_var 1)))) (de_one (de_cmp (ow_eq hr.units) (DE.w (de_cmpS (OpS.alt (os_ne (kc := 0) F_Key_eq (hr.mono (by decide)) takes_b T.C_Key T.ne_Key T.d_Key_eq T.i_Key_eq) (OpW.s (ow_ne hr.units))) (de_var 4) (de_var 5))) (DE.w (de_cmpS (OpS.alt (os_ne (kc := 0) F_Key_eq (hr.mono (by decide)) takes_b T.C_Key T.ne_Key T.d_Key_eq T.i_Key_eq) (OpW.s (ow_ne hr.units))) (de_var 0) (de_var 1)))))))))))))))))))
theorem ok_law (T : Tx K mg cl ad fd mc w) (F_Key_and : FnD P w K mg base cl 6 (ad 6) m_Key_and) (F_Key_eq : FnD P w K mg base cl 2 (ad 13) m_Key_eq) (F_Key_init : FnR P w K mg base (L2.CX P w) 4 (ad 2) (spI K cl 0 i_Key)) (F_Key_le : FnD P w K mg base cl 2 (ad 9) m_Key_le) (F_Key_len : FnD P w K mg base cl 2 (ad 12) m_Key_len) (F_Key_or : FnD P w K mg base cl 6 (ad 5) m_Key_or) (F_Key_sub : FnD P w K mg base cl 6 (ad 7) m_Key_sub) (F_Key_xor : FnD P w K mg base cl 7 (ad 8) m_Key_xor) (F_Key_names : FnD P w K mg base cl 2 (ad 4) m_Key_names) (F_Key_of : FnD P w K mg base cl 6 (ad 3) m_Key_of) (F__law_key : FnD P w K mg base cl 2 (ad 15) m__law_key) (F__law_number : FnD P w K mg base cl 4 (ad 14) m__law_number) (F__law_pair_right : FnD P w K mg base cl 8 (ad 17) m__law_pair_right) (ht : ∀ ns : List Int, ns.length ≤ 63 → m_law [.scr ns] = .ok (.bl true)) : FnOk P w K mg base (L2.CX P w) 9 (ad 18) (fd 18) ["script"] (spL K) :=
  law_fn (cl := cl) T.f_law sc_law (fun cdv A outer s H E c hc hr => by
    subst hc
    exact dss_cons (ds_setLc (own := [("turn", 5)]) (T := [5]) (tlc_r1 (vs := [5]) (by decide)) rfl sc_law.nd (pi_range1 rfl T.b_range (da_cons (de_int) (da_nil))) (blkOk_by (N := ["script", "keys", "at", "one", "other", "turn", "two", "three"]) (sc := defScope s_law) (by decide +kernel)) (fun _ _ _ _ _ => dg_name 5 sc_law.nd) (fun _ _ _ _ _ => dts_nil) (fun _ _ _ _ _ => de_call (caD_of F__law_key (hr.mono (by decide)) takes0) T.k__law_key T.g__law_key (da_cons (de_call (caD_of F__law_number (hr.mono (by decide)) takes0) T.k__law_number T.g__law_number (da_cons (de_var 0) (da_cons (de_var 5) (da_nil)))) (da_nil)))) (dss_cons (ds_if (dt_pt (dt_and (dt_cmpS (OpS.alt (os_ne (kc := 0) F_Key_eq (hr.mono (by decide)) takes_b T.C_Key T.ne_Key T.d_Key_eq T.i_Key_eq) (OpW.s (ow_ne hr.units))) (de_var 0) (de_lst (da_nil))) (dt_and1 (dt_cmp (ow_geI) (DE.w (de_ix (DE.w (de_var 0)) (de_int))) (DE.w (de_bin ow_powI (DE.w (de_int)) (DE.w (de_int)))))))) (dss_one (ds_asg (de_bin ow_addW (DE.w (de_var 1)) (DE.w (de_lst (da_cons (de_call (caD_of F__law_key (hr.mono (by decide)) takes_b) T.k__law_key T.g__law_key (da_cons (de_ix (DE.w (de_var 0)) (de_int)) (da_nil))) (da_cons (de_call (caD_of F__law_key (hr.mono (by decide)) takes_b) T.k__law_key T.g__law_key (da_cons (de_bin ow_divI (DE.w (de_ix (DE.w (de_var 0)) (de_int))) (DE.w (de_int))) (da_nil))) (da_nil)))))) (dg_name 1 sc_law.nd))) (dss_nil)) (dss_cons (ds_forEn passes_b rfl T.b_enumerate (da_cons (de_var 1) (da_nil)) (dg_tup rfl (dgs_cons (dg_name 2 sc_law.nd) (dgs_cons (dg_name 3 sc_law.nd) (dgs_nil)))) (dss_cons (ds_for passes_b rfl (de_tup (da_cons (de_ix (DE.w (de_var 1)) (de_binS (OpS.alt (os_own (kc := 0) (caD_of F_Key_sub (hr.mono (by decide)) takes_b) T.sf_Key T.d_Key_sub T.i_Key_sub) (OpW.s ow_subI)) (de_var 2) (de_int))) (da_cons (de_var 3) (da_cons (de_lst (da_nil)) (da_cons (de_call (caD_of F__law_key (hr.mono (by decide)) takes_b) T.k__law_key T.g__law_key (da_cons (de_int) (da_nil))) (da_cons (de_sl (DE.w (de_var 3)) (do_no) (do_some (de_int))) (da_cons (de_ix (DE.w (de_var 1)) (de_int)) (da_nil)))))))) (dg_name 4 sc_law.nd) (dss_one (ds_if (dt_not (dt_val (de_call (caD_of F__law_pair_right (hr.mono (by decide)) takes_b) T.k__law_pair_right T.g__law_pair_right (da_cons (de_var 3) (da_cons (de_var 4) (da_nil)))))) (dss_one (ds_ret (DE.w (de_bl)))) (dss_nil)))) (dss_cons (ds_par2 rfl sc_law.nd (da_cons (de_call (cd_make (C := 0) (kc := 0) T.M_Key F_Key_init (hr.mono (by decide)) takes_b) T.kC_Key T.gC_Key (da_cons (de_var 3) (da_nil))) (da_cons (de_call (cd_make (C := 0) (kc := 0) T.M_Key F_Key_init (hr.mono (by decide)) takes_b) T.kC_Key T.gC_Key (da_cons (de_ix (DE.w (de_var 1)) (de_binS (OpS.alt (os_own (kc := 0) (caD_of F_Key_sub (hr.mono (by decide)) takes_b) T.sf_Key T.d_Key_sub T.i_Key_sub) (OpW.s ow_subI)) (de_var 2) (de_int))) (da_nil))) (da_nil)))) (dss_cons (ds_if (dt_pt (dt_or (dt_not (dt_cmpS (OpS.alt (os_cmp (kc := 0) rfl (caD_of F_Key_eq (hr.mono (by decide)) takes_b) hr.units0 T.d_Key_eq T.i_Key_eq) (OpW.s (ow_eq hr.units))) (de_binS (OpS.alt (os_own (kc := 0) (caD_of F_Key_sub (hr.mono (by decide)) takes_b) T.sf_Key T.d_Key_sub T.i_Key_sub) (OpW.s ow_subI)) (de_binS (os_own (kc := 0) (caD_of F_Key_or (hr.mono (by decide)) takes_b) T.sf_Key T.d_Key_or T.i_Key_or) (de_var 6) (de_var 7)) (de_var 7)) (de_binS (OpS.alt (os_own (kc := 0) (caD_of F_Key_sub (hr.mono (by decide)) takes_b) T.sf_Key T.d_Key_sub T.i_Key_sub) (OpW.s ow_subI)) (de_var 6) (de_var 7)))) (dt_or1 (dt_not (dt_cmpS (OpS.alt (os_cmp (kc := 0) rfl (caD_of F_Key_eq (hr.mono (by decide)) takes_b) hr.units0 T.d_Key_eq T.i_Key_eq) (OpW.s (ow_eq hr.units))) (de_binS (os_own (kc := 0) (caD_of F_Key_xor (hr.mono (by decide)) takes_b) T.sf_Key T.d_Key_xor T.i_Key_xor) (de_var 6) (de_var 7)) (de_binS (OpS.alt (os_own (kc := 0) (caD_of F_Key_sub (hr.mono (by decide)) takes_b) T.sf_Key T.d_Key_sub T.i_Key_sub) (OpW.s ow_subI)) (de_binS (os_own (kc := 0) (caD_of F_Key_or (hr.mono (by decide)) takes_b) T.sf_Key T.d_Key_or T.i_Key_or) (de_var 6) (de_var 7)) (de_binS (os_own (kc := 0) (caD_of F_Key_and (hr.mono (by decide)) takes_b) T.sf_Key T.d_Key_and T.i_Key_and) (de_var 6) (de_var 7)))))))) (dss_one (ds_ret (DE.w (de_bl)))) (dss_nil)) (dss_one (ds_if (dt_pt (dt_or (dt_not (dt_cmpS (OpS.alt (os_cmp (kc := 0) rfl (caD_of F_Key_eq (hr.mono (by decide)) takes_b) hr.units0 T.d_Key_eq T.i_Key_eq) (OpW.s (ow_eq hr.units))) (de_binS (OpS.alt (os_own (kc := 0) (caD_of F_Key_sub (hr.mono (by decide)) takes_b) T.sf_Key T.d_Key_sub T.i_Key_sub) (OpW.s ow_subI)) (de_var 6) (de_binS (OpS.alt (os_own (kc := 0) (caD_of F_Key_sub (hr.mono (by decide)) takes_b) T.sf_Key T.d_Key_sub T.i_Key_sub) (OpW.s ow_subI)) (de_var 6) (de_var 7))) (de_binS (os_own (kc := 0) (caD_of F_Key_and (hr.mono (by decide)) takes_b) T.sf_Key T.d_Key_and T.i_Key_and) (de_var 6) (de_var 7)))) (dt_or (dt_not (dt_cmpS (OpS.alt (os_cmp (kc := 0) rfl (caD_of F_Key_le (hr.mono (by decide)) takes_b) hr.units0 T.d_Key_le T.i_Key_le) (OpW.s (ow_leI))) (de_binS (os_own (kc := 0) (caD_of F_Key_and (hr.mono (by decide)) takes_b) T.sf_Key T.d_Key_and T.i_Key_and) (de_var 6) (de_var 7)) (de_var 6))) (dt_or1 (dt_not (dt_cmpS (OpS.alt (os_cmp (kc := 0) rfl (caD_of F_Key_le (hr.mono (by decide)) takes_b) hr.units0 T.d_Key_le T.i_Key_le) (OpW.s (ow_leI))) (de_var 6) (de_binS (os_own (kc := 0) (caD_of F_Key_or (hr.mono (by decide)) takes_b) T.sf_Key T.d_Key_or T.i_Key_or) (de_var 6) (de_var 7)))))))) (dss_one (ds_ret (DE.w (de_bl)))) (dss_nil))))))) (dss_one (ds_ret (DE.w (de_and (de_cmpS (OpS.alt (os_cmp (kc := 0) rfl (caD_of F_Key_eq (hr.mono (by decide)) takes_b) hr.units0 T.d_Key_eq T.i_Key_eq) (OpW.s (ow_eq hr.units))) (de_call0 (cd_make (C := 0) (kc := 0) T.M_Key F_Key_init (hr.mono (by decide)) takes_b) T.kC_Key T.gC_Key) (de_cm0 (kc := 0) (pe_glob (v := .ref (c.cl.at_ 0)) rfl T.gC_Key rfl) T.cr_Key T.cm_Key_of F_Key_of (hr.mono (by decide)) takes_b)) (de_and (de_notO (kc := 0) (de_call0 (cd_make (C := 0) (kc := 0) T.M_Key F_Key_init (hr.mono (by decide)) takes_b) T.kC_Key T.gC_Key) F_Key_len (hr.mono (by decide)) takes_b T.nb_Key T.d_Key_len T.i_Key_len) (de_one (de_cmp (ow_eq hr.units) (DE.w (de_prop (kc := 0) (de_call (cd_make (C := 0) (kc := 0) T.M_Key F_Key_init (hr.mono (by decide)) takes_b) T.kC_Key T.gC_Key (da_cons (de_tup (da_cons (de_str) (da_cons (de_str) (da_nil)))) (da_nil))) T.C_Key T.pr_Key_names F_Key_names (hr.mono (by decide)))) (DE.w (de_tup (da_cons (de_str) (da_cons (de_str) (da_nil))))))))))))))) ht
end
theorem all_mk {P : Program} {w : World} {K : PySem.W.Frag} {h : Heap} {mg : Str → Option Value} {fa : Addr} {C0 a0 a1 a2 a3 a4 a5 a6 a7 a8 a9 a10 a11 a12 a13 a14 a15 a16 a17 a18 a19 a20 a21 a22 a23 : Addr} {mc : Value} {t0_NAMES t1_NAMES t2_NAMES t3_NAMES t4_NAMES t5_NAMES t6_NAMES : Tok} {od_NAMES : Option Addr} {nn_NAMES : Nat} {sl_NAMES : Array (Option Value)}
    {rc_Key_of : List Value}
    {od_Key_init : Option Addr} {nn_Key_init : Nat} {sl_Key_init : Array (Option Value)}
    {oc_Key_and kV_Key_and dc_Key_and pm_Key_and cd_Key_and ct_Key_and : Value} {oo_Key_and an_Key_and : Option Addr} {so_Key_and : Array (Option Value)}
    {oc_Key_contains kV_Key_contains dc_Key_contains pm_Key_contains cd_Key_contains ct_Key_contains : Value} {oo_Key_contains an_Key_contains : Option Addr} {so_Key_contains : Array (Option Value)}
    {oc_Key_eq kV_Key_eq dc_Key_eq pm_Key_eq cd_Key_eq ct_Key_eq : Value} {oo_Key_eq an_Key_eq : Option Addr} {so_Key_eq : Array (Option Value)}
    {oc_Key_init kV_Key_init dc_Key_init pm_Key_init cd_Key_init ct_Key_init : Value} {oo_Key_init an_Key_init : Option Addr} {so_Key_init : Array (Option Value)}
    {dT_Key_init : Addr} {dd_Key_init : Option Addr} {dn_Key_init : Nat} {ds_Key_init : Array (Option Value)} {dc2_Key_init : Value}
    {oc_Key_le kV_Key_le dc_Key_le pm_Key_le cd_Key_le ct_Key_le : Value} {oo_Key_le an_Key_le : Option Addr} {so_Key_le : Array (Option Value)}
    {oc_Key_len kV_Key_len dc_Key_len pm_Key_len cd_Key_len ct_Key_len : Value} {oo_Key_len an_Key_len : Option Addr} {so_Key_len : Array (Option Value)}
    {oc_Key_lt kV_Key_lt dc_Key_lt pm_Key_lt cd_Key_lt ct_Key_lt : Value} {oo_Key_lt an_Key_lt : Option Addr} {so_Key_lt : Array (Option Value)}
    {oc_Key_names kV_Key_names dc_Key_names pm_Key_names cd_Key_names ct_Key_names : Value} {oo_Key_names an_Key_names : Option Addr} {so_Key_names : Array (Option Value)}
    {oc_Key_of kV_Key_of dc_Key_of pm_Key_of cd_Key_of ct_Key_of : Value} {oo_Key_of an_Key_of : Option Addr} {so_Key_of : Array (Option Value)}
    {oc_Key_or kV_Key_or dc_Key_or pm_Key_or cd_Key_or ct_Key_or : Value} {oo_Key_or an_Key_or : Option Addr} {so_Key_or : Array (Option Value)}
    {oc_Key_sub kV_Key_sub dc_Key_sub pm_Key_sub cd_Key_sub ct_Key_sub : Value} {oo_Key_sub an_Key_sub : Option Addr} {so_Key_sub : Array (Option Value)}
    {oc_Key_xor kV_Key_xor dc_Key_xor pm_Key_xor cd_Key_xor ct_Key_xor : Value} {oo_Key_xor an_Key_xor : Option Addr} {so_Key_xor : Array (Option Value)}
    {oc__law_key kV__law_key dc__law_key pm__law_key cd__law_key ct__law_key : Value} {oo__law_key an__law_key : Option Addr} {so__law_key : Array (Option Value)}
    {oc__law_number kV__law_number dc__law_number pm__law_number cd__law_number ct__law_number : Value} {oo__law_number an__law_number : Option Addr} {so__law_number : Array (Option Value)}
    {oc__law_of kV__law_of dc__law_of pm__law_of cd__law_of ct__law_of : Value} {oo__law_of an__law_of : Option Addr} {so__law_of : Array (Option Value)}
    {oc__law_pair_right kV__law_pair_right dc__law_pair_right pm__law_pair_right cd__law_pair_right ct__law_pair_right : Value} {oo__law_pair_right an__law_pair_right : Option Addr} {so__law_pair_right : Array (Option Value)}
    {oc_in_order kV_in_order dc_in_order pm_in_order cd_in_order ct_in_order : Value} {oo_in_order an_in_order : Option Addr} {so_in_order : Array (Option Value)}
    {oc_is_name kV_is_name dc_is_name pm_is_name cd_is_name ct_is_name : Value} {oo_is_name an_is_name : Option Addr} {so_is_name : Array (Option Value)}
    {oc_law kV_law dc_law pm_law cd_law ct_law : Value} {oo_law an_law : Option Addr} {so_law : Array (Option Value)}
    {rp_Key_names : List Value} (X : K.In h) (G : h.Ns mainGlobals mg) (hfa : mg "law" = some (.ref fa))
    (nC_Key : PySem.W.nsIn K mainGlobals "Key" = some (some (.ref C0)))
    (n_law : PySem.W.nsIn K mainGlobals "law" = some (some (.ref a18)))
    (n_NAMES : PySem.W.nsIn K mainGlobals "NAMES" = some (some (.ref a19)))
    (n_BadName : PySem.W.nsIn K mainGlobals "BadName" = some (some (.ref a20)))
    (n__law_key : PySem.W.nsIn K mainGlobals "_law_key" = some (some (.ref a15)))
    (n__law_number : PySem.W.nsIn K mainGlobals "_law_number" = some (some (.ref a14)))
    (n__law_of : PySem.W.nsIn K mainGlobals "_law_of" = some (some (.ref a16)))
    (n__law_pair_right : PySem.W.nsIn K mainGlobals "_law_pair_right" = some (some (.ref a17)))
    (n_in_order : PySem.W.nsIn K mainGlobals "in_order" = some (some (.ref a1)))
    (n_is_name : PySem.W.nsIn K mainGlobals "is_name" = some (some (.ref a0)))
    (M2_Key : PySem.W.findIn K (.ref C0) "__init__" = some (some (.ref a2)))
    (cr0_Key : PySem.W.typeIn K (.ref C0) = some mc)
    (d_Key_and : PySem.W.findIn K (.ref C0) "__and__" = some (some (.ref a6)))
    (d_Key_contains : PySem.W.findIn K (.ref C0) "__contains__" = some (some (.ref a11)))
    (d_Key_eq : PySem.W.findIn K (.ref C0) "__eq__" = some (some (.ref a13)))
    (d_Key_le : PySem.W.findIn K (.ref C0) "__le__" = some (some (.ref a9)))
    (d_Key_len : PySem.W.findIn K (.ref C0) "__len__" = some (some (.ref a12)))
    (d_Key_lt : PySem.W.findIn K (.ref C0) "__lt__" = some (some (.ref a10)))
    (d_Key_or : PySem.W.findIn K (.ref C0) "__or__" = some (some (.ref a5)))
    (d_Key_sub : PySem.W.findIn K (.ref C0) "__sub__" = some (some (.ref a7)))
    (d_Key_xor : PySem.W.findIn K (.ref C0) "__xor__" = some (some (.ref a8)))
    (p1_Key_names : PySem.W.findIn K (.ref C0) "names" = some (some (.ref a22)))
    (cr1_Key : PySem.W.readsIn K C0 mc = true)
    (p4_Key_names : PySem.W.recIn K a22 "property" = some (Value.ref a4 :: rp_Key_names))
    (cm1_Key_of : PySem.W.findCls K (.ref C0) mc "of" = some (PySem.W.CFound.get (.builtin "classmethod.__get__") (.ref a21) .none (.ref C0)))
    (cm2_Key_of : PySem.W.recIn K a21 "classmethod" = some (Value.ref a3 :: rc_Key_of))
    (l_NAMES : K.lookup a19 = some ⟨.type "tuple", od_NAMES, .seq #[.str "f0" t0_NAMES, .str "f1" t1_NAMES, .str "f2" t2_NAMES, .str "c0" t3_NAMES, .str "c1" t4_NAMES, .str "p0" t5_NAMES, .str "p1" t6_NAMES] nn_NAMES, sl_NAMES⟩)
    (l_Key_and : K.lookup a6 = some ⟨oc_Key_and, oo_Key_and, .func (PySem.W.fnOf "__and__" "Key.__and__" (defArgs s_Key_and) (defBody s_Key_and) (defScope s_Key_and) .none kV_Key_and dc_Key_and pm_Key_and an_Key_and cd_Key_and ct_Key_and), so_Key_and⟩)
    (l_Key_contains : K.lookup a11 = some ⟨oc_Key_contains, oo_Key_contains, .func (PySem.W.fnOf "__contains__" "Key.__contains__" (defArgs s_Key_contains) (defBody s_Key_contains) (defScope s_Key_contains) .none kV_Key_contains dc_Key_contains pm_Key_contains an_Key_contains cd_Key_contains ct_Key_contains), so_Key_contains⟩)
    (l_Key_eq : K.lookup a13 = some ⟨oc_Key_eq, oo_Key_eq, .func (PySem.W.fnOf "__eq__" "Key.__eq__" (defArgs s_Key_eq) (defBody s_Key_eq) (defScope s_Key_eq) .none kV_Key_eq dc_Key_eq pm_Key_eq an_Key_eq cd_Key_eq ct_Key_eq), so_Key_eq⟩)
    (l_Key_init : K.lookup a2 = some ⟨oc_Key_init, oo_Key_init, .func (PySem.W.fnOf "__init__" "Key.__init__" (defArgs s_Key_init) (defBody s_Key_init) (defScope s_Key_init) (.ref dT_Key_init) kV_Key_init dc_Key_init pm_Key_init an_Key_init cd_Key_init ct_Key_init), so_Key_init⟩)
    (l_Key_le : K.lookup a9 = some ⟨oc_Key_le, oo_Key_le, .func (PySem.W.fnOf "__le__" "Key.__le__" (defArgs s_Key_le) (defBody s_Key_le) (defScope s_Key_le) .none kV_Key_le dc_Key_le pm_Key_le an_Key_le cd_Key_le ct_Key_le), so_Key_le⟩)
    (l_Key_len : K.lookup a12 = some ⟨oc_Key_len, oo_Key_len, .func (PySem.W.fnOf "__len__" "Key.__len__" (defArgs s_Key_len) (defBody s_Key_len) (defScope s_Key_len) .none kV_Key_len dc_Key_len pm_Key_len an_Key_len cd_Key_len ct_Key_len), so_Key_len⟩)
    (l_Key_lt : K.lookup a10 = some ⟨oc_Key_lt, oo_Key_lt, .func (PySem.W.fnOf "__lt__" "Key.__lt__" (defArgs s_Key_lt) (defBody s_Key_lt) (defScope s_Key_lt) .none kV_Key_lt dc_Key_lt pm_Key_lt an_Key_lt cd_Key_lt ct_Key_lt), so_Key_lt⟩)
    (l_Key_names : K.lookup a4 = some ⟨oc_Key_names, oo_Key_names, .func (PySem.W.fnOf "names" "Key.names" (defArgs s_Key_names) (defBody s_Key_names) (defScope s_Key_names) .none kV_Key_names dc_Key_names pm_Key_names an_Key_names cd_Key_names ct_Key_names), so_Key_names⟩)
    (l_Key_of : K.lookup a3 = some ⟨oc_Key_of, oo_Key_of, .func (PySem.W.fnOf "of" "Key.of" (defArgs s_Key_of) (defBody s_Key_of) (defScope s_Key_of) .none kV_Key_of dc_Key_of pm_Key_of an_Key_of cd_Key_of ct_Key_of), so_Key_of⟩)
    (l_Key_or : K.lookup a5 = some ⟨oc_Key_or, oo_Key_or, .func (PySem.W.fnOf "__or__" "Key.__or__" (defArgs s_Key_or) (defBody s_Key_or) (defScope s_Key_or) .none kV_Key_or dc_Key_or pm_Key_or an_Key_or cd_Key_or ct_Key_or), so_Key_or⟩)
    (l_Key_sub : K.lookup a7 = some ⟨oc_Key_sub, oo_Key_sub, .func (PySem.W.fnOf "__sub__" "Key.__sub__" (defArgs s_Key_sub) (defBody s_Key_sub) (defScope s_Key_sub) .none kV_Key_sub dc_Key_sub pm_Key_sub an_Key_sub cd_Key_sub ct_Key_sub), so_Key_sub⟩)
    (l_Key_xor : K.lookup a8 = some ⟨oc_Key_xor, oo_Key_xor, .func (PySem.W.fnOf "__xor__" "Key.__xor__" (defArgs s_Key_xor) (defBody s_Key_xor) (defScope s_Key_xor) .none kV_Key_xor dc_Key_xor pm_Key_xor an_Key_xor cd_Key_xor ct_Key_xor), so_Key_xor⟩)
    (l__law_key : K.lookup a15 = some ⟨oc__law_key, oo__law_key, .func (PySem.W.fnOf "_law_key" "_law_key" (defArgs s__law_key) (defBody s__law_key) (defScope s__law_key) .none kV__law_key dc__law_key pm__law_key an__law_key cd__law_key ct__law_key), so__law_key⟩)
    (l__law_number : K.lookup a14 = some ⟨oc__law_number, oo__law_number, .func (PySem.W.fnOf "_law_number" "_law_number" (defArgs s__law_number) (defBody s__law_number) (defScope s__law_number) .none kV__law_number dc__law_number pm__law_number an__law_number cd__law_number ct__law_number), so__law_number⟩)
    (l__law_of : K.lookup a16 = some ⟨oc__law_of, oo__law_of, .func (PySem.W.fnOf "_law_of" "_law_of" (defArgs s__law_of) (defBody s__law_of) (defScope s__law_of) .none kV__law_of dc__law_of pm__law_of an__law_of cd__law_of ct__law_of), so__law_of⟩)
    (l__law_pair_right : K.lookup a17 = some ⟨oc__law_pair_right, oo__law_pair_right, .func (PySem.W.fnOf "_law_pair_right" "_law_pair_right" (defArgs s__law_pair_right) (defBody s__law_pair_right) (defScope s__law_pair_right) .none kV__law_pair_right dc__law_pair_right pm__law_pair_right an__law_pair_right cd__law_pair_right ct__law_pair_right), so__law_pair_right⟩)
    (l_in_order : K.lookup a1 = some ⟨oc_in_order, oo_in_order, .func (PySem.W.fnOf "in_order" "in_order" (defArgs s_in_order) (defBody s_in_order) (defScope s_in_order) .none kV_in_order dc_in_order pm_in_order an_in_order cd_in_order ct_in_order), so_in_order⟩)
    (l_is_name : K.lookup a0 = some ⟨oc_is_name, oo_is_name, .func (PySem.W.fnOf "is_name" "is_name" (defArgs s_is_name) (defBody s_is_name) (defScope s_is_name) .none kV_is_name dc_is_name pm_is_name an_is_name cd_is_name ct_is_name), so_is_name⟩)
    (l_law : K.lookup a18 = some ⟨oc_law, oo_law, .func (PySem.W.fnOf "law" "law" (defArgs s_law) (defBody s_law) (defScope s_law) .none kV_law dc_law pm_law an_law cd_law ct_law), so_law⟩)
    (lT_Key_init : K.lookup dT_Key_init = some ⟨dc2_Key_init, dd_Key_init, .seq #[.ref a23] dn_Key_init, ds_Key_init⟩)
    (le_Key_init : K.lookup a23 = some ⟨.type "tuple", od_Key_init, .seq #[] nn_Key_init, sl_Key_init⟩)
    (C1_Key : PySem.W.plainGet K C0 Str.empty = true)
    (C2_Key : PySem.W.hasDictIn K C0 = true)
    (C3_Key : PySem.W.plainOver K C0 = true)
    (C4_Key : PySem.W.findIn K (.ref C0) "__setattr__" = some (some (.builtin "object.__setattr__")))
    (I1_Key : PySem.W.findIn K (.ref C0) "__class__" = some (some (.builtin "object.__class__")))
    (I2_Key : PySem.W.specialIn K (.builtin "object.__class__") "__get__" = some (some (.builtin "getset_descriptor.__get__")))
    (I3_Key : PySem.W.takesIn K (.builtin "object.__class__") = some true)
    (I4_Key : PySem.W.mroIn K C0 (.type "object") = some true)
    (M1_Key : PySem.W.makesIn K C0 = true)
    (M3_Key : PySem.W.isFn K (.ref a2) = true)
    (kC_Key : PySem.W.keepIn K (.ref C0) = true)
    (z_all : PySem.W.nsIn K mainGlobals "all" = some none)
    (z_bool : PySem.W.nsIn K mainGlobals "bool" = some none)
    (z_enumerate : PySem.W.nsIn K mainGlobals "enumerate" = some none)
    (z_int : PySem.W.nsIn K mainGlobals "int" = some none)
    (z_isinstance : PySem.W.nsIn K mainGlobals "isinstance" = some none)
    (z_len : PySem.W.nsIn K mainGlobals "len" = some none)
    (z_list : PySem.W.nsIn K mainGlobals "list" = some none)
    (z_range : PySem.W.nsIn K mainGlobals "range" = some none)
    (z_str : PySem.W.nsIn K mainGlobals "str" = some none)
    (z_sum : PySem.W.nsIn K mainGlobals "sum" = some none)
    (z_tuple : PySem.W.nsIn K mainGlobals "tuple" = some none)
    (cm3_Key_of : PySem.W.fnIn K a3 = true)
    (cr2_Key : PySem.W.specialIn K (.ref C0) "__getattribute__" = some (some (.builtin "type.__getattribute__")))
    (e1_BadName : PySem.W.excIn K a20 [Value.type "ValueError", Value.type "Exception", Value.type "BaseException", Value.type "object"] "ValueError.__new__" = true)
    (e2_BadName : PySem.W.keepIn K (.ref a20) = true)
    (e3_BadName : PySem.W.subIn K (.ref a20) (.type "BaseException") = some true)
    (e4_BadName : PySem.W.typeIn K (.ref a20) = some (.type "type"))
    (c_Key_and : PySem.W.codeIn K cd_Key_and "Key.__and__" = true)
    (k_Key_and : PySem.W.keepIn K (.ref a6) = true)
    (c_Key_contains : PySem.W.codeIn K cd_Key_contains "Key.__contains__" = true)
    (k_Key_contains : PySem.W.keepIn K (.ref a11) = true)
    (c_Key_eq : PySem.W.codeIn K cd_Key_eq "Key.__eq__" = true)
    (k_Key_eq : PySem.W.keepIn K (.ref a13) = true)
    (c_Key_init : PySem.W.codeIn K cd_Key_init "Key.__init__" = true)
    (k_Key_init : PySem.W.keepIn K (.ref a2) = true)
    (c_Key_le : PySem.W.codeIn K cd_Key_le "Key.__le__" = true)
    (k_Key_le : PySem.W.keepIn K (.ref a9) = true)
    (c_Key_len : PySem.W.codeIn K cd_Key_len "Key.__len__" = true)
    (k_Key_len : PySem.W.keepIn K (.ref a12) = true)
    (c_Key_lt : PySem.W.codeIn K cd_Key_lt "Key.__lt__" = true)
    (k_Key_lt : PySem.W.keepIn K (.ref a10) = true)
    (c_Key_names : PySem.W.codeIn K cd_Key_names "Key.names" = true)
    (k_Key_names : PySem.W.keepIn K (.ref a4) = true)
    (c_Key_of : PySem.W.codeIn K cd_Key_of "Key.of" = true)
    (k_Key_of : PySem.W.keepIn K (.ref a3) = true)
    (c_Key_or : PySem.W.codeIn K cd_Key_or "Key.__or__" = true)
    (k_Key_or : PySem.W.keepIn K (.ref a5) = true)
    (c_Key_sub : PySem.W.codeIn K cd_Key_sub "Key.__sub__" = true)
    (k_Key_sub : PySem.W.keepIn K (.ref a7) = true)
    (c_Key_xor : PySem.W.codeIn K cd_Key_xor "Key.__xor__" = true)
    (k_Key_xor : PySem.W.keepIn K (.ref a8) = true)
    (c__law_key : PySem.W.codeIn K cd__law_key "_law_key" = true)
    (k__law_key : PySem.W.keepIn K (.ref a15) = true)
    (c__law_number : PySem.W.codeIn K cd__law_number "_law_number" = true)
    (k__law_number : PySem.W.keepIn K (.ref a14) = true)
    (c__law_of : PySem.W.codeIn K cd__law_of "_law_of" = true)
    (k__law_of : PySem.W.keepIn K (.ref a16) = true)
    (c__law_pair_right : PySem.W.codeIn K cd__law_pair_right "_law_pair_right" = true)
    (k__law_pair_right : PySem.W.keepIn K (.ref a17) = true)
    (c_in_order : PySem.W.codeIn K cd_in_order "in_order" = true)
    (k_in_order : PySem.W.keepIn K (.ref a1) = true)
    (c_is_name : PySem.W.codeIn K cd_is_name "is_name" = true)
    (k_is_name : PySem.W.keepIn K (.ref a0) = true)
    (c_law : PySem.W.codeIn K cd_law "law" = true)
    (k_law : PySem.W.keepIn K (.ref a18) = true)
    (i_Key_and : PySem.W.isFn K (.ref a6) = true)
    (i_Key_contains : PySem.W.isFn K (.ref a11) = true)
    (i_Key_eq : PySem.W.isFn K (.ref a13) = true)
    (i_Key_le : PySem.W.isFn K (.ref a9) = true)
    (i_Key_len : PySem.W.isFn K (.ref a12) = true)
    (i_Key_lt : PySem.W.isFn K (.ref a10) = true)
    (i_Key_or : PySem.W.isFn K (.ref a5) = true)
    (i_Key_sub : PySem.W.isFn K (.ref a7) = true)
    (i_Key_xor : PySem.W.isFn K (.ref a8) = true)
    (na_Key_held : PySem.W.findIn K (.ref C0) "held" = some none)
    (nb_Key : PySem.W.findIn K (.ref C0) "__bool__" = some none)
    (ne_Key : PySem.W.findIn K (.ref C0) "__ne__" = some (some (.builtin "object.__ne__")))
    (p2_Key_names : PySem.W.specialIn K (.ref a22) "__get__" = some (some (.builtin "property.__get__")))
    (p3_Key_names : PySem.W.takesIn K (.ref a22) = some true)
    (sf_Key : PySem.W.selfFirst K C0 = true)
    (ht : ∀ ns : List Int, ns.length ≤ 63 → m_law [.scr ns] = .ok (.bl true)) :
    ∃ fd : FuncData, (∀ (s : Shared) (v : Value), BindsTo s fd ⟨[v], []⟩ [("script", v)]) ∧ ∀ base : Heap, K.In base → base.Ns mainGlobals mg → FnOk P w K mg base (L2.CX P w) 9 fa fd ["script"] (spL K) := by
  have e := (PySem.W.mg_of X G n_law).symm.trans hfa
  cases e
  have T : Tx K mg ⟨fun i => [C0].getD i 0, fun i => [.ref a20].getD i .none, fun _ => []⟩ (fun i => [a0, a1, a2, a3, a4, a5, a6, a7, a8, a9, a10, a11, a12, a13, a14, a15, a16, a17, fa, a19, a20, a21, a22, a23].getD i 0) (fun i => [(PySem.W.fnOf "is_name" "is_name" (defArgs s_is_name) (defBody s_is_name) (defScope s_is_name) .none kV_is_name dc_is_name pm_is_name an_is_name cd_is_name ct_is_name), (PySem.W.fnOf "in_order" "in_order" (defArgs s_in_order) (defBody s_in_order) (defScope s_in_order) .none kV_in_order dc_in_order pm_in_order an_in_order cd_in_order ct_in_order), (PySem.W.fnOf "__init__" "Key.__init__" (defArgs s_Key_init) (defBody s_Key_init) (defScope s_Key_init) (.ref dT_Key_init) kV_Key_init dc_Key_init pm_Key_init an_Key_init cd_Key_init ct_Key_init), (PySem.W.fnOf "of" "Key.of" (defArgs s_Key_of) (defBody s_Key_of) (defScope s_Key_of) .none kV_Key_of dc_Key_of pm_Key_of an_Key_of cd_Key_of ct_Key_of), (PySem.W.fnOf "names" "Key.names" (defArgs s_Key_names) (defBody s_Key_names) (defScope s_Key_names) .none kV_Key_names dc_Key_names pm_Key_names an_Key_names cd_Key_names ct_Key_names), (PySem.W.fnOf "__or__" "Key.__or__" (defArgs s_Key_or) (defBody s_Key_or) (defScope s_Key_or) .none kV_Key_or dc_Key_or pm_Key_or an_Key_or cd_Key_or ct_Key_or), (PySem.W.fnOf "__and__" "Key.__and__" (defArgs s_Key_and) (defBody s_Key_and) (defScope s_Key_and) .none kV_Key_and dc_Key_and pm_Key_and an_Key_and cd_Key_and ct_Key_and), (PySem.W.fnOf "__sub__" "Key.__sub__" (defArgs s_Key_sub) (defBody s_Key_sub) (defScope s_Key_sub) .none kV_Key_sub dc_Key_sub pm_Key_sub an_Key_sub cd_Key_sub ct_Key_sub), (PySem.W.fnOf "__xor__" "Key.__xor__" (defArgs s_Key_xor) (defBody s_Key_xor) (defScope s_Key_xor) .none kV_Key_xor dc_Key_xor pm_Key_xor an_Key_xor cd_Key_xor ct_Key_xor), (PySem.W.fnOf "__le__" "Key.__le__" (defArgs s_Key_le) (defBody s_Key_le) (defScope s_Key_le) .none kV_Key_le dc_Key_le pm_Key_le an_Key_le cd_Key_le ct_Key_le), (PySem.W.fnOf "__lt__" "Key.__lt__" (defArgs s_Key_lt) (defBody s_Key_lt) (defScope s_Key_lt) .none kV_Key_lt dc_Key_lt pm_Key_lt an_Key_lt cd_Key_lt ct_Key_lt), (PySem.W.fnOf "__contains__" "Key.__contains__" (defArgs s_Key_contains) (defBody s_Key_contains) (defScope s_Key_contains) .none kV_Key_contains dc_Key_contains pm_Key_contains an_Key_contains cd_Key_contains ct_Key_contains), (PySem.W.fnOf "__len__" "Key.__len__" (defArgs s_Key_len) (defBody s_Key_len) (defScope s_Key_len) .none kV_Key_len dc_Key_len pm_Key_len an_Key_len cd_Key_len ct_Key_len), (PySem.W.fnOf "__eq__" "Key.__eq__" (defArgs s_Key_eq) (defBody s_Key_eq) (defScope s_Key_eq) .none kV_Key_eq dc_Key_eq pm_Key_eq an_Key_eq cd_Key_eq ct_Key_eq), (PySem.W.fnOf "_law_number" "_law_number" (defArgs s__law_number) (defBody s__law_number) (defScope s__law_number) .none kV__law_number dc__law_number pm__law_number an__law_number cd__law_number ct__law_number), (PySem.W.fnOf "_law_key" "_law_key" (defArgs s__law_key) (defBody s__law_key) (defScope s__law_key) .none kV__law_key dc__law_key pm__law_key an__law_key cd__law_key ct__law_key), (PySem.W.fnOf "_law_of" "_law_of" (defArgs s__law_of) (defBody s__law_of) (defScope s__law_of) .none kV__law_of dc__law_of pm__law_of an__law_of cd__law_of ct__law_of), (PySem.W.fnOf "_law_pair_right" "_law_pair_right" (defArgs s__law_pair_right) (defBody s__law_pair_right) (defScope s__law_pair_right) .none kV__law_pair_right dc__law_pair_right pm__law_pair_right an__law_pair_right cd__law_pair_right ct__law_pair_right), (PySem.W.fnOf "law" "law" (defArgs s_law) (defBody s_law) (defScope s_law) .none kV_law dc_law pm_law an_law cd_law ct_law), (PySem.W.fnOf "__and__" "Key.__and__" (defArgs s_Key_and) (defBody s_Key_and) (defScope s_Key_and) .none kV_Key_and dc_Key_and pm_Key_and an_Key_and cd_Key_and ct_Key_and), (PySem.W.fnOf "__and__" "Key.__and__" (defArgs s_Key_and) (defBody s_Key_and) (defScope s_Key_and) .none kV_Key_and dc_Key_and pm_Key_and an_Key_and cd_Key_and ct_Key_and), (PySem.W.fnOf "__and__" "Key.__and__" (defArgs s_Key_and) (defBody s_Key_and) (defScope s_Key_and) .none kV_Key_and dc_Key_and pm_Key_and an_Key_and cd_Key_and ct_Key_and), (PySem.W.fnOf "__and__" "Key.__and__" (defArgs s_Key_and) (defBody s_Key_and) (defScope s_Key_and) .none kV_Key_and dc_Key_and pm_Key_and an_Key_and cd_Key_and ct_Key_and), (PySem.W.fnOf "__and__" "Key.__and__" (defArgs s_Key_and) (defBody s_Key_and) (defScope s_Key_and) .none kV_Key_and dc_Key_and pm_Key_and an_Key_and cd_Key_and ct_Key_and)].getD i (PySem.W.fnOf "__and__" "Key.__and__" (defArgs s_Key_and) (defBody s_Key_and) (defScope s_Key_and) .none kV_Key_and dc_Key_and pm_Key_and an_Key_and cd_Key_and ct_Key_and)) mc w := {
    C_Key := ⟨C1_Key, C2_Key, C3_Key, C4_Key⟩
    I_Key := ⟨⟨C1_Key, C2_Key, C3_Key, C4_Key⟩, I1_Key, I2_Key, I3_Key, I4_Key⟩
    M_Key := ⟨M1_Key, M2_Key, M3_Key, kC_Key⟩
    b_all := PySem.W.mg_none_of X G z_all
    b_bool := PySem.W.mg_none_of X G z_bool
    b_enumerate := PySem.W.mg_none_of X G z_enumerate
    b_int := PySem.W.mg_none_of X G z_int
    b_isinstance := PySem.W.mg_none_of X G z_isinstance
    b_len := PySem.W.mg_none_of X G z_len
    b_list := PySem.W.mg_none_of X G z_list
    b_range := PySem.W.mg_none_of X G z_range
    b_str := PySem.W.mg_none_of X G z_str
    b_sum := PySem.W.mg_none_of X G z_sum
    b_tuple := PySem.W.mg_none_of X G z_tuple
    c_NAMES := ⟨PySem.W.mg_of X G n_NAMES, _, _, _, l_NAMES, rfl, rfl, (show 7 ≤ sizeLine by decide), (.cons ⟨_, rfl⟩ (.cons ⟨_, rfl⟩ (.cons ⟨_, rfl⟩ (.cons ⟨_, rfl⟩ (.cons ⟨_, rfl⟩ (.cons ⟨_, rfl⟩ (.cons ⟨_, rfl⟩ .nil)))))))⟩
    cm_Key_of := ⟨cm1_Key_of, ⟨_, cm2_Key_of⟩, cm3_Key_of⟩
    cr_Key := ⟨cr1_Key, cr2_Key⟩
    d_Key_and := d_Key_and
    d_Key_contains := d_Key_contains
    d_Key_eq := d_Key_eq
    d_Key_le := d_Key_le
    d_Key_len := d_Key_len
    d_Key_lt := d_Key_lt
    d_Key_or := d_Key_or
    d_Key_sub := d_Key_sub
    d_Key_xor := d_Key_xor
    df_Key_init := ⟨_, _, _, le_Key_init, rfl, rfl, (show 0 ≤ sizeLine by decide), .nil⟩
    e_BadName := ⟨e1_BadName, e2_BadName, e3_BadName, e4_BadName⟩
    f_Key_and := ⟨⟨_, _, _, _, _, _, _, _, _, _, rfl, l_Key_and, c_Key_and, .inl ⟨rfl, rfl⟩, .inl rfl⟩, k_Key_and⟩
    f_Key_contains := ⟨⟨_, _, _, _, _, _, _, _, _, _, rfl, l_Key_contains, c_Key_contains, .inl ⟨rfl, rfl⟩, .inl rfl⟩, k_Key_contains⟩
    f_Key_eq := ⟨⟨_, _, _, _, _, _, _, _, _, _, rfl, l_Key_eq, c_Key_eq, .inl ⟨rfl, rfl⟩, .inl rfl⟩, k_Key_eq⟩
    f_Key_init := ⟨⟨_, _, _, _, _, _, _, _, _, _, rfl, l_Key_init, c_Key_init, .inr ⟨(by intro h; cases h), _, _, [.ref a23], _, rfl, lT_Key_init, rfl, .cons rfl .nil⟩, .inl rfl⟩, k_Key_init⟩
    f_Key_le := ⟨⟨_, _, _, _, _, _, _, _, _, _, rfl, l_Key_le, c_Key_le, .inl ⟨rfl, rfl⟩, .inl rfl⟩, k_Key_le⟩
    f_Key_len := ⟨⟨_, _, _, _, _, _, _, _, _, _, rfl, l_Key_len, c_Key_len, .inl ⟨rfl, rfl⟩, .inl rfl⟩, k_Key_len⟩
    f_Key_lt := ⟨⟨_, _, _, _, _, _, _, _, _, _, rfl, l_Key_lt, c_Key_lt, .inl ⟨rfl, rfl⟩, .inl rfl⟩, k_Key_lt⟩
    f_Key_names := ⟨⟨_, _, _, _, _, _, _, _, _, _, rfl, l_Key_names, c_Key_names, .inl ⟨rfl, rfl⟩, .inl rfl⟩, k_Key_names⟩
    f_Key_of := ⟨⟨_, _, _, _, _, _, _, _, _, _, rfl, l_Key_of, c_Key_of, .inl ⟨rfl, rfl⟩, .inl rfl⟩, k_Key_of⟩
    f_Key_or := ⟨⟨_, _, _, _, _, _, _, _, _, _, rfl, l_Key_or, c_Key_or, .inl ⟨rfl, rfl⟩, .inl rfl⟩, k_Key_or⟩
    f_Key_sub := ⟨⟨_, _, _, _, _, _, _, _, _, _, rfl, l_Key_sub, c_Key_sub, .inl ⟨rfl, rfl⟩, .inl rfl⟩, k_Key_sub⟩
    f_Key_xor := ⟨⟨_, _, _, _, _, _, _, _, _, _, rfl, l_Key_xor, c_Key_xor, .inl ⟨rfl, rfl⟩, .inl rfl⟩, k_Key_xor⟩
    f__law_key := ⟨⟨_, _, _, _, _, _, _, _, _, _, rfl, l__law_key, c__law_key, .inl ⟨rfl, rfl⟩, .inl rfl⟩, k__law_key⟩
    f__law_number := ⟨⟨_, _, _, _, _, _, _, _, _, _, rfl, l__law_number, c__law_number, .inl ⟨rfl, rfl⟩, .inl rfl⟩, k__law_number⟩
    f__law_of := ⟨⟨_, _, _, _, _, _, _, _, _, _, rfl, l__law_of, c__law_of, .inl ⟨rfl, rfl⟩, .inl rfl⟩, k__law_of⟩
    f__law_pair_right := ⟨⟨_, _, _, _, _, _, _, _, _, _, rfl, l__law_pair_right, c__law_pair_right, .inl ⟨rfl, rfl⟩, .inl rfl⟩, k__law_pair_right⟩
    f_in_order := ⟨⟨_, _, _, _, _, _, _, _, _, _, rfl, l_in_order, c_in_order, .inl ⟨rfl, rfl⟩, .inl rfl⟩, k_in_order⟩
    f_is_name := ⟨⟨_, _, _, _, _, _, _, _, _, _, rfl, l_is_name, c_is_name, .inl ⟨rfl, rfl⟩, .inl rfl⟩, k_is_name⟩
    f_law := ⟨⟨_, _, _, _, _, _, _, _, _, _, rfl, l_law, c_law, .inl ⟨rfl, rfl⟩, .inl rfl⟩, k_law⟩
    gC_Key := PySem.W.mg_of X G nC_Key
    g_BadName := PySem.W.mg_of X G n_BadName
    g__law_key := PySem.W.mg_of X G n__law_key
    g__law_number := PySem.W.mg_of X G n__law_number
    g__law_of := PySem.W.mg_of X G n__law_of
    g__law_pair_right := PySem.W.mg_of X G n__law_pair_right
    g_in_order := PySem.W.mg_of X G n_in_order
    g_is_name := PySem.W.mg_of X G n_is_name
    i_Key_and := i_Key_and
    i_Key_contains := i_Key_contains
    i_Key_eq := i_Key_eq
    i_Key_le := i_Key_le
    i_Key_len := i_Key_len
    i_Key_lt := i_Key_lt
    i_Key_or := i_Key_or
    i_Key_sub := i_Key_sub
    i_Key_xor := i_Key_xor
    kC_Key := kC_Key
    k__law_key := k__law_key
    k__law_number := k__law_number
    k__law_of := k__law_of
    k__law_pair_right := k__law_pair_right
    k_in_order := k_in_order
    k_is_name := k_is_name
    na_Key_held := na_Key_held
    nb_Key := nb_Key
    ne_Key := ne_Key
    pr_Key_names := ⟨p1_Key_names, p2_Key_names, p3_Key_names, ⟨_, p4_Key_names⟩⟩
    sf_Key := sf_Key
    x_BadName := rfl
  }
  refine ⟨(PySem.W.fnOf "law" "law" (defArgs s_law) (defBody s_law) (defScope s_law) .none kV_law dc_law pm_law an_law cd_law ct_law), fun s v => .of_eq rfl, fun base _ _ => ?_⟩
  have F_Key_contains := ok_Key_contains (P := P) (w := w) (base := base) T
  have F_in_order := ok_in_order (P := P) (w := w) (base := base) T F_Key_contains
  have F_is_name := ok_is_name (P := P) (w := w) (base := base) T
  have F_Key_init := ok_Key_init (P := P) (w := w) (base := base) T F_in_order F_is_name
  have F_Key_and := ok_Key_and (P := P) (w := w) (base := base) T F_Key_init
  have F_Key_eq := ok_Key_eq (P := P) (w := w) (base := base) T
  have F_Key_le := ok_Key_le (P := P) (w := w) (base := base) T
  have F_Key_len := ok_Key_len (P := P) (w := w) (base := base) T
  have F_Key_or := ok_Key_or (P := P) (w := w) (base := base) T F_Key_init
  have F_Key_sub := ok_Key_sub (P := P) (w := w) (base := base) T F_Key_init
  have F_Key_xor := ok_Key_xor (P := P) (w := w) (base := base) T F_Key_or F_Key_sub
  have F_Key_names := ok_Key_names (P := P) (w := w) (base := base) T
  have F_Key_of := ok_Key_of (P := P) (w := w) (base := base) T F_Key_init
  have F__law_key := ok__law_key (P := P) (w := w) (base := base) T
  have F__law_number := ok__law_number (P := P) (w := w) (base := base) T F_Key_eq F_Key_len
  have F_Key_lt := ok_Key_lt (P := P) (w := w) (base := base) T F_Key_le
  have F__law_of := ok__law_of (P := P) (w := w) (base := base) T F_Key_eq F_Key_init F_Key_len F_Key_of
  have F__law_pair_right := ok__law_pair_right (P := P) (w := w) (base := base) T F_Key_and F_Key_contains F_Key_eq F_Key_init F_Key_le F_Key_len F_Key_lt F_Key_or F_Key_sub F_Key_xor F_Key_names F__law_of
  exact ok_law (P := P) (w := w) (base := base) T F_Key_and F_Key_eq F_Key_init F_Key_le F_Key_len F_Key_or F_Key_sub F_Key_xor F_Key_names F_Key_of F__law_key F__law_number F__law_pair_right ht
end Lw
namespace Lw
open PySem Dl
def nm7 : List Str := [w_f0, w_f1, w_f2, w_c0, w_c1, w_p0, w_p1]
abbrev ds (xs : List Str) : List D := xs.map D.str
def ord (xs : List Str) : List Str := nm7.filter fun x => decide (x ∈ xs)
def K (xs : List Str) : D := .ins 0 [w_held] [.tup (ds xs)]
theorem lcL_all {α : Type} {h : D → En → Option En} {ft : En → Res Bool} {fe : En → Res D} {env : En} (p : α → Bool) (f g : α → D) : ∀ (xs : List α), (∀ x ∈ xs, ∃ e, h (f x) env = some e ∧ ft e = .ok (p x) ∧ fe e = .ok (g x)) → lcL h ft fe env (xs.map f) = .ok ((xs.filter p).map g)
  | [], _ => rfl
  | x :: xs, H => by
    obtain ⟨e, h1, h2, h3⟩ := H x (List.mem_cons_self ..)
    have ih := lcL_all p f g xs fun y hy => H y (List.mem_cons_of_mem _ hy)
    show (match h (f x) env with | none => Res.bad | some env1 => (noex (ft env1)).bind fun k => if k = true then (noex (fe env1)).bind fun y => (lcL h ft fe env (xs.map f)).bind fun ys => .ok (y :: ys) else lcL h ft fe env (xs.map f)) = _
    rw [h1]
    dsimp only
    rw [h2, h3, ih]
    cases q : p x <;> simp [noex, List.filter, q]
theorem flatDs_ds : ∀ xs : List Str, flatDs (ds xs) = some (xs.map L2.V.str)
  | [] => rfl
  | x :: xs => by
    show ((flatD (.str x)).bind fun v => (flatDs (ds xs)).map fun vs => v :: vs) = _
    rw [flatDs_ds xs]
    rfl
theorem eqV_str (x y : Str) : L2.eqV (.str y) (.str x) = decide (x = y) := by
  show (y == x) = _
  rw [Bool.eq_iff_iff, beq_iff_eq, decide_eq_true_iff]
  exact eq_comm
theorem inV_str (x : Str) : ∀ xs : List Str, L2.inV (.str x) (xs.map L2.V.str) = decide (x ∈ xs)
  | [] => rfl
  | y :: ys => by
    have ih := inV_str x ys
    unfold L2.inV at ih ⊢
    rw [List.map_cons, List.any_cons, ih, eqV_str]
    simp
theorem gIn_t (neg : Bool) (x : Str) (xs : List Str) : gIn neg (.str x) (.tup (ds xs)) = .ok (.bl (if neg then !decide (x ∈ xs) else decide (x ∈ xs))) := by
  unfold gIn
  simp only [flatDs_ds, flatD, inV_str]
theorem gIn_l (neg : Bool) (x : Str) (xs : List Str) : gIn neg (.str x) (.lst (ds xs)) = .ok (.bl (if neg then !decide (x ∈ xs) else decide (x ∈ xs))) := by
  unfold gIn
  simp only [flatDs_ds, flatD, inV_str]
theorem gInA_t (neg : Bool) (F) (x : Str) (xs : List Str) : gAlt (gInOwn 0 neg F) (gIn neg) (.str x) (.tup (ds xs)) = .ok (.bl (if neg then !decide (x ∈ xs) else decide (x ∈ xs))) := by
  rw [← gIn_t]; rfl
theorem gInA_l (neg : Bool) (F) (x : Str) (xs : List Str) : gAlt (gInOwn 0 neg F) (gIn neg) (.str x) (.lst (ds xs)) = .ok (.bl (if neg then !decide (x ∈ xs) else decide (x ∈ xs))) := by
  rw [← gIn_l]; rfl
theorem is_name_ok (x : Str) : m_is_name [.str x] = .ok (.bl (decide (x ∈ nm7))) := by
  have e := gIn_t false x nm7
  unfold m_is_name b_is_name
  show outR (sRet (eAnd (eAt (gIsi isiT_str) (eVar 0)) (eBin (gIn false) (eVar 0) (eC (.tup (ds nm7))))) [.sh (.str x)]) = _
  simp only [sRet, eAnd, eAt, eVar, eBin, eC, gIsi, List.getElem?_cons_zero, Res.bind_ok, e]
  rfl
theorem in_order_ok (xs : List Str) (d : D) (hd : d = .lst (ds xs) ∨ d = .tup (ds xs)) : m_in_order [d] = .ok (.tup (ds (ord xs))) := by
  have z := lcL_all (h := gV 1) (ft := eB (eBin (gAlt (gInOwn 0 false m_Key_contains) (gIn false)) (eVar 1) (eVar 0))) (fe := eVar 1) (env := [.sh d, .no]) (fun x => decide (x ∈ xs)) D.str D.str nm7 (fun x _ => ⟨[.sh d, .sh (.str x)], rfl, by
    show bOf (gAlt (gInOwn 0 false m_Key_contains) (gIn false) (.str x) d) = _
    rcases hd with rfl | rfl
    · rw [gInA_l]; rfl
    · rw [gInA_t]; rfl, rfl⟩)
  show outR (sRet (eCall fTup (aCons (eLc [1] (eIt (eC (.tup (ds nm7)))) (gV 1) (eB (eBin (gAlt (gInOwn 0 false m_Key_contains) (gIn false)) (eVar 1) (eVar 0))) (eVar 1)) aNil)) [.sh d, .no]) = _
  have l : (ds (ord xs)).length ≤ 100000 := by
    rw [List.length_map]
    exact Nat.le_trans (List.length_filter_le ..) (by decide)
  have e : eLc [1] (eIt (eC (.tup (ds nm7)))) (gV 1) (eB (eBin (gAlt (gInOwn 0 false m_Key_contains) (gIn false)) (eVar 1) (eVar 0))) (eVar 1) [.sh d, .no] = .ok (.lst (ds (ord xs))) := by
    show ((lcL _ _ _ [.sh d, .no] (ds nm7)).bind fun ys => if ys.length ≤ 100000 then Res.ok (D.lst ys) else .bad) = _
    rw [z]
    show (if (ds (ord xs)).length ≤ 100000 then Res.ok (D.lst (ds (ord xs))) else .bad) = _
    rw [if_pos l]
  unfold sRet eCall aCons
  rw [e]
  rfl
end Lw
namespace Lw
open PySem Dl
theorem eLc_ok {α : Type} {vs : List Nat} {fi : En → Res (List D)} {h : D → En → Option En} {ft : En → Res Bool} {fe : En → Res D} {env : En} (xs : List α) (p : α → Bool) (f g : α → D) (hf : fi env = .ok (xs.map f)) (hl : xs.length ≤ 100000)
    (H : ∀ x ∈ xs, ∃ e, h (f x) (wipeE env vs) = some e ∧ ft e = .ok (p x) ∧ fe e = .ok (g x)) : eLc vs fi h ft fe env = .ok (.lst ((xs.filter p).map g)) := by
  unfold eLc
  rw [hf]
  show ((lcL h ft fe (wipeE env vs) (xs.map f)).bind fun ys => if ys.length ≤ 100000 then Res.ok (D.lst ys) else .bad) = _
  rw [lcL_all p f g xs H]
  show (if ((xs.filter p).map g).length ≤ 100000 then Res.ok (D.lst ((xs.filter p).map g)) else .bad) = _
  rw [if_pos (by rw [List.length_map]; exact Nat.le_trans (List.length_filter_le ..) hl)]
theorem filt_true {α : Type} (xs : List α) : xs.filter (fun _ => true) = xs := by simp
theorem blsD_map {α : Type} (q : α → Bool) : ∀ xs : List α, blsD (xs.map fun x => D.bl (q x)) = some (xs.map q)
  | [] => rfl
  | x :: xs => by
    have ih := blsD_map q xs
    rw [List.map_cons, List.map_cons]
    unfold blsD
    rw [ih]
    rfl
theorem fAll_ok {α : Type} (q : α → Bool) (xs : List α) : fAll [.lst (xs.map fun x => D.bl (q x))] = .ok (.bl (xs.all q)) := by
  show (match blsD (xs.map fun x => D.bl (q x)) with | some ns => Res.ok (D.bl (ns.all id)) | none => .bad) = _
  rw [blsD_map]
  show Res.ok (D.bl ((xs.map q).all id)) = _
  rw [List.all_map]
  rfl
theorem eCall1 {F : List D → Res D} {fe : En → Res D} {env : En} {d : D} (h : fe env = .ok d) : eCall F (aCons fe aNil) env = F [d] := by
  unfold eCall aCons
  rw [h]
  rfl
theorem eCall2 {F : List D → Res D} {fe fe' : En → Res D} {env : En} {d d' : D} (h : fe env = .ok d) (h' : fe' env = .ok d') : eCall F (aCons fe (aCons fe' aNil)) env = F [d, d'] := by
  unfold eCall aCons
  rw [h, h']
  rfl
structure G (xs : List Str) : Prop where
  mem : ∀ x ∈ xs, x ∈ nm7
  len : xs.length ≤ 1000
theorem G.l {xs : List Str} (h : G xs) : xs.length ≤ 100000 := Nat.le_trans h.len (by decide)
theorem itD_l (xs : List Str) (d : D) (hd : d = .lst (ds xs) ∨ d = .tup (ds xs)) : itD d = .ok (ds xs) := by rcases hd with rfl | rfl <;> rfl
theorem key_ok (xs : List Str) (d : D) (hd : d = .lst (ds xs) ∨ d = .tup (ds xs)) (g : G xs) : i_Key [d] = .ok ([w_held], [.tup (ds (ord xs))]) := by
  have e1 : (bOr (bNot (eB (eAt (gIsi isiT_lt) (eVar 1)))) (bNot (eB (eCall fAll (aCons (eLc [2] (eIt (eVar 1)) (gV 2) (bYes) (eCall m_is_name (aCons (eVar 2) (aNil)))) (aNil)))))) [.ow (.ins 0 [] []), .sh d, .no] = .ok false := by
    have a1 : eAt (gIsi isiT_lt) (eVar 1) [.ow (.ins 0 [] []), .sh d, .no] = .ok (.bl true) := by rcases hd with rfl | rfl <;> rfl
    have a2 : eLc [2] (eIt (eVar 1)) (gV 2) (bYes) (eCall m_is_name (aCons (eVar 2) (aNil))) [.ow (.ins 0 [] []), .sh d, .no] = .ok (.lst (xs.map fun x => D.bl (decide (x ∈ nm7)))) := by
      have := eLc_ok (vs := [2]) (fi := eIt (eVar 1)) (h := gV 2) (ft := bYes) (fe := eCall m_is_name (aCons (eVar 2) aNil)) (env := [.ow (.ins 0 [] []), .sh d, .no]) xs (fun _ => true) D.str (fun x => D.bl (decide (x ∈ nm7))) (itD_l xs d hd) g.l fun x _ => ⟨[.ow (.ins 0 [] []), .sh d, .sh (.str x)], rfl, rfl, is_name_ok x⟩
      rw [this, filt_true]
    have a3 : eCall fAll (aCons (eLc [2] (eIt (eVar 1)) (gV 2) (bYes) (eCall m_is_name (aCons (eVar 2) (aNil)))) (aNil)) [.ow (.ins 0 [] []), .sh d, .no] = .ok (.bl (xs.all fun x => decide (x ∈ nm7))) := by
      rw [eCall1 a2, fAll_ok]
    have a4 : (xs.all fun x => decide (x ∈ nm7)) = true := by rw [List.all_eq_true]; exact fun x hx => decide_eq_true (g.mem x hx)
    unfold bOr bNot eB
    rw [a1, a3, a4]
    rfl
  have e2 : eCall m_in_order (aCons (eVar 1) (aNil)) [.ow (.ins 0 [] []), .sh d, .no] = .ok (.tup (ds (ord xs))) := in_order_ok xs d hd
  show outI 0 (b_Key_init [.ow (.ins 0 [] []), .sh d, .no]) = _
  unfold b_Key_init sSeq sIf
  rw [e1]
  show outI 0 (sSetFk 0 0 w_held (eCall m_in_order (aCons (eVar 1) (aNil))) [.ow (.ins 0 [] []), .sh d, .no]) = _
  show outI 0 (sSetF 0 w_held (eCall m_in_order (aCons (eVar 1) (aNil))) [.ow (.ins 0 [] []), .sh d, .no]) = _
  unfold sSetF
  rw [e2]
  rfl
theorem mk_ok (xs : List Str) (d : D) (hd : d = .lst (ds xs) ∨ d = .tup (ds xs)) (g : G xs) : insR 0 (i_Key [d]) = .ok (K (ord xs)) := by
  rw [key_ok xs d hd g]; rfl
theorem mk0_ok : insR 0 (i_Key []) = .ok (K []) := by
  have : i_Key [] = i_Key [.tup (ds [])] := rfl
  rw [this, mk_ok [] _ (.inr rfl) ⟨fun _ h => (nomatch h), by decide⟩]
  rfl
theorem G.filter {xs : List Str} (g : G xs) (p : Str → Bool) : G (xs.filter p) := ⟨fun x h => g.mem x ((List.mem_filter.mp h).1), Nat.le_trans (List.length_filter_le ..) g.len⟩
theorem nm7_G : G nm7 := ⟨fun _ h => h, by decide⟩
theorem ord_G (xs : List Str) : G (ord xs) := nm7_G.filter _
def A (xs ys : List Str) : List Str := ord (xs.filter fun x => decide (x ∈ ys))
def B (xs ys : List Str) : List Str := ord (xs.filter fun x => !decide (x ∈ ys))
theorem and_ok {xs ys : List Str} (g : G xs) : m_Key_and [K xs, K ys] = .ok (K (A xs ys)) := by
  have e := eLc_ok (vs := [2]) (fi := eIt (eAt (gFld 0 w_held) (eVar 0))) (h := gV 2) (ft := eB (eBin (gIn false) (eVar 2) (eAt (gFld 0 w_held) (eVar 1)))) (fe := eVar 2) (env := [.sh (K xs), .sh (K ys), .no]) xs (fun x => decide (x ∈ ys)) D.str D.str rfl g.l fun x _ => ⟨[.sh (K xs), .sh (K ys), .sh (.str x)], rfl, by
    show bOf (gIn false (.str x) (.tup (ds ys))) = _
    rw [gIn_t]; rfl, rfl⟩
  show outR (b_Key_and [.sh (K xs), .sh (K ys), .no]) = _
  unfold b_Key_and sRet eCall aCons
  rw [e]
  show outR (lift (insR 0 (i_Key [.lst (ds (xs.filter fun x => decide (x ∈ ys)))])) _ _) = _
  rw [mk_ok _ _ (.inl rfl) (g.filter _)]
  rfl
theorem sub_ok {xs ys : List Str} (g : G xs) : m_Key_sub [K xs, K ys] = .ok (K (B xs ys)) := by
  have e := eLc_ok (vs := [2]) (fi := eIt (eAt (gFld 0 w_held) (eVar 0))) (h := gV 2) (ft := eB (eBin (gIn true) (eVar 2) (eAt (gFld 0 w_held) (eVar 1)))) (fe := eVar 2) (env := [.sh (K xs), .sh (K ys), .no]) xs (fun x => !decide (x ∈ ys)) D.str D.str rfl g.l fun x _ => ⟨[.sh (K xs), .sh (K ys), .sh (.str x)], rfl, by
    show bOf (gIn true (.str x) (.tup (ds ys))) = _
    rw [gIn_t]; rfl, rfl⟩
  show outR (b_Key_sub [.sh (K xs), .sh (K ys), .no]) = _
  unfold b_Key_sub sSeq
  show outR (sRet (eCall (fun ds => insR 0 (i_Key ds)) (aCons (eLc [2] (eIt (eAt (gFld 0 w_held) (eVar 0))) (gV 2) (eB (eBin (gIn true) (eVar 2) (eAt (gFld 0 w_held) (eVar 1)))) (eVar 2)) (aNil))) [.sh (K xs), .sh (K ys), .no]) = _
  unfold sRet eCall aCons
  rw [e]
  show outR (lift (insR 0 (i_Key [.lst (ds (xs.filter fun x => !decide (x ∈ ys)))])) _ _) = _
  rw [mk_ok _ _ (.inl rfl) (g.filter _)]
  rfl
theorem le_ok {xs ys : List Str} (g : G xs) : m_Key_le [K xs, K ys] = .ok (.bl (xs.all fun x => decide (x ∈ ys))) := by
  have e := eLc_ok (vs := [2]) (fi := eIt (eAt (gFld 0 w_held) (eVar 0))) (h := gV 2) (ft := bYes) (fe := eBin (gIn false) (eVar 2) (eAt (gFld 0 w_held) (eVar 1))) (env := [.sh (K xs), .sh (K ys), .no]) xs (fun x => true) D.str (fun x => .bl (decide (x ∈ ys))) rfl g.l fun x _ => ⟨[.sh (K xs), .sh (K ys), .sh (.str x)], rfl, rfl, by
    show gIn false (.str x) (.tup (ds ys)) = _
    rw [gIn_t]; rfl⟩
  rw [filt_true] at e
  show outR (b_Key_le [.sh (K xs), .sh (K ys), .no]) = _
  unfold b_Key_le sSeq
  show outR (sRet (eCall fAll (aCons (eLc [2] (eIt (eAt (gFld 0 w_held) (eVar 0))) (gV 2) (bYes) (eBin (gIn false) (eVar 2) (eAt (gFld 0 w_held) (eVar 1)))) (aNil))) [.sh (K xs), .sh (K ys), .no]) = _
  unfold sRet eCall aCons
  rw [e]
  show outR (lift (fAll [.lst (xs.map fun x => D.bl (decide (x ∈ ys)))]) _ _) = _
  rw [fAll_ok]
  rfl
theorem or_ok {xs ys : List Str} (g : G xs) (g' : G ys) (hl : xs.length + ys.length ≤ 1000) : m_Key_or [K xs, K ys] = .ok (K (ord (xs ++ ys))) := by
  have e : eBin (gAddW) (eAt (gFld 0 w_held) (eVar 0)) (eAt (gFld 0 w_held) (eVar 1)) [.sh (K xs), .sh (K ys)] = .ok (.tup (ds (xs ++ ys))) := by
    show (if (ds xs).length + (ds ys).length ≤ 100000 then Res.ok (D.tup (ds xs ++ ds ys)) else Res.bad).alt _ = _
    rw [if_pos (by rw [List.length_map, List.length_map]; omega), ← List.map_append]
    rfl
  show outR (sRet (eCall (fun ds => insR 0 (i_Key ds)) (aCons (eBin (gAddW) (eAt (gFld 0 w_held) (eVar 0)) (eAt (gFld 0 w_held) (eVar 1))) aNil)) [.sh (K xs), .sh (K ys)]) = _
  unfold sRet
  rw [eCall1 e, mk_ok _ _ (.inr rfl) ⟨fun x h => (List.mem_append.mp h).elim (g.mem x) (g'.mem x), by rw [List.length_append]; exact hl⟩]
  rfl
end Lw
namespace Lw
open PySem Dl
theorem toPys_ds : ∀ xs : List Str, toPys (ds xs) = some (xs.map PyData.str)
  | [] => rfl
  | x :: xs => by
    have ih := toPys_ds xs
    show ((toPy (.str x)).bind fun d => (toPys (ds xs)).map fun l => d :: l) = _
    rw [ih]
    rfl
theorem eqvAll_str : ∀ xs ys : List Str, PyData.eqvAll (xs.map PyData.str) (ys.map PyData.str) = decide (xs = ys)
  | [], [] => by simp [PyData.eqvAll]
  | [], _ :: _ => by simp [PyData.eqvAll]
  | _ :: _, [] => by simp [PyData.eqvAll]
  | x :: xs, y :: ys => by
    have ih := eqvAll_str xs ys
    simp only [List.map_cons, PyData.eqvAll, PyData.eqv, ih]
    rw [Bool.eq_iff_iff]
    simp
theorem can_one : ∀ x ∈ nm7, (PyData.str x).canLay0 = true ∧ (PyData.str x).depth = 0 := by decide +kernel
theorem canAll : ∀ xs : List Str, (∀ x ∈ xs, x ∈ nm7) → PyData.canLayAll0 (xs.map PyData.str) = true ∧ PyData.depthAll (xs.map PyData.str) = 0
  | [], _ => ⟨by simp [PyData.canLayAll0], by simp [PyData.depthAll]⟩
  | x :: xs, h => by
    have ih := canAll xs fun y hy => h y (List.mem_cons_of_mem _ hy)
    have h1 := can_one x (h x (List.mem_cons_self ..))
    simp [PyData.canLayAll0, PyData.depthAll, ih.1, ih.2, h1.1, h1.2]
theorem shaped_t {xs : List Str} (g : G xs) : SeqAt.shaped (.tuple (xs.map PyData.str)) = true := by
  have h := canAll xs g.mem
  have hl : xs.length ≤ sizeLine := Nat.le_trans g.len (by decide)
  simp [SeqAt.shaped, PyData.canLay0, PyData.depth, h.1, h.2, hl]
theorem shaped_l {xs : List Str} (g : G xs) : SeqAt.shaped (.list (xs.map PyData.str)) = true := by
  have h := canAll xs g.mem
  have hl : xs.length ≤ sizeLine := Nat.le_trans g.len (by decide)
  simp [SeqAt.shaped, PyData.canLay0, PyData.depth, h.1, h.2, hl]
def ng (neg : Bool) (b : Bool) : Bool := if neg then !b else b
theorem gEq_t (neg : Bool) {xs ys : List Str} (g : G xs) (g' : G ys) : gEq neg (.tup (ds xs)) (.tup (ds ys)) = .ok (.bl (ng neg (decide (xs = ys)))) := by
  have h : ∀ xs, toPy (.tup (ds xs)) = some (.tuple (xs.map PyData.str)) := fun xs => by
    show (toPys (ds xs)).map PyData.tuple = _
    rw [toPys_ds]; rfl
  unfold gEq
  rw [h, h]
  show (if SeqAt.shaped (.tuple (xs.map PyData.str)) = true ∧ SeqAt.shaped (.tuple (ys.map PyData.str)) = true then Res.ok (D.bl (if neg then !PyData.eqv (.tuple (xs.map PyData.str)) (.tuple (ys.map PyData.str)) else PyData.eqv (.tuple (xs.map PyData.str)) (.tuple (ys.map PyData.str)))) else .bad) = _
  rw [if_pos ⟨shaped_t g, shaped_t g'⟩]
  have : PyData.eqv (.tuple (xs.map PyData.str)) (.tuple (ys.map PyData.str)) = decide (xs = ys) := by
    simp only [PyData.eqv]; exact eqvAll_str xs ys
  rw [this]
  rfl
theorem gEq_l (neg : Bool) {xs ys : List Str} (g : G xs) (g' : G ys) : gEq neg (.lst (ds xs)) (.lst (ds ys)) = .ok (.bl (ng neg (decide (xs = ys)))) := by
  have h : ∀ xs, toPy (.lst (ds xs)) = some (.list (xs.map PyData.str)) := fun xs => by
    show (toPys (ds xs)).map PyData.list = _
    rw [toPys_ds]; rfl
  unfold gEq
  rw [h, h]
  show (if SeqAt.shaped (.list (xs.map PyData.str)) = true ∧ SeqAt.shaped (.list (ys.map PyData.str)) = true then Res.ok (D.bl (if neg then !PyData.eqv (.list (xs.map PyData.str)) (.list (ys.map PyData.str)) else PyData.eqv (.list (xs.map PyData.str)) (.list (ys.map PyData.str)))) else .bad) = _
  rw [if_pos ⟨shaped_l g, shaped_l g'⟩]
  have : PyData.eqv (.list (xs.map PyData.str)) (.list (ys.map PyData.str)) = decide (xs = ys) := by
    simp only [PyData.eqv]; exact eqvAll_str xs ys
  rw [this]
  rfl
theorem eq_ok {xs ys : List Str} (g : G xs) (g' : G ys) : m_Key_eq [K xs, K ys] = .ok (.bl (decide (xs = ys))) := by
  have e : eBin (gEq false) (eAt (gFld 0 w_held) (eVar 0)) (eAt (gFld 0 w_held) (eVar 1)) [.sh (K xs), .sh (K ys)] = .ok (.bl (decide (xs = ys))) := gEq_t false g g'
  show outR (lift (eBin (gEq false) (eAt (gFld 0 w_held) (eVar 0)) (eAt (gFld 0 w_held) (eVar 1)) [.sh (K xs), .sh (K ys)]) _ _) = _
  rw [e]
  rfl
theorem contains_str {xs : List Str} (x : Str) : m_Key_contains [K xs, .str x] = .ok (.bl (decide (x ∈ xs))) := by
  have e : eBin (gIn false) (eVar 1) (eAt (gFld 0 w_held) (eVar 0)) [.sh (K xs), .sh (.str x)] = .ok (.bl (decide (x ∈ xs))) := gIn_t false x xs
  show outR (lift (eBin (gIn false) (eVar 1) (eAt (gFld 0 w_held) (eVar 0)) [.sh (K xs), .sh (.str x)]) _ _) = _
  rw [e]
  rfl
theorem contains_int {xs : List Str} (i : Int) : m_Key_contains [K xs, .int i] = .ok (.bl false) := rfl
theorem contains_non {xs : List Str} : m_Key_contains [K xs, .non] = .ok (.bl false) := rfl
theorem len_ok {xs : List Str} : m_Key_len [K xs] = .ok (.int xs.length) := by
  show Res.ok (D.int (ds xs).length) = _
  rw [List.length_map]
theorem names_ok {xs : List Str} : m_Key_names [K xs] = .ok (.tup (ds xs)) := rfl
theorem lt_ok {xs ys : List Str} (g : G xs) : m_Key_lt [K xs, K ys] = .ok (.bl ((xs.all fun x => decide (x ∈ ys)) && decide (xs.length < ys.length))) := by
  have e : eBin (gAlt (gOwn 0 m_Key_le) (gLeI)) (eVar 0) (eVar 1) [.sh (K xs), .sh (K ys)] = .ok (.bl (xs.all fun x => decide (x ∈ ys))) := by
    show (m_Key_le [K xs, K ys]).alt _ = _
    rw [le_ok g]; rfl
  have e2 : eBin (gLtI) (eCall fLen (aCons (eAt (gFld 0 w_held) (eVar 0)) (aNil))) (eCall fLen (aCons (eAt (gFld 0 w_held) (eVar 1)) (aNil))) [.sh (K xs), .sh (K ys)] = .ok (.bl (decide (xs.length < ys.length))) := by
    show Res.ok (D.bl (decide (((ds xs).length : Int) < (ds ys).length))) = _
    rw [List.length_map, List.length_map]
    simp
  show outR (sRet (eAnd (eBin (gAlt (gOwn 0 m_Key_le) (gLeI)) (eVar 0) (eVar 1)) (eBin (gLtI) (eCall fLen (aCons (eAt (gFld 0 w_held) (eVar 0)) (aNil))) (eCall fLen (aCons (eAt (gFld 0 w_held) (eVar 1)) (aNil))))) [.sh (K xs), .sh (K ys)]) = _
  unfold sRet eAnd
  rw [e, e2]
  cases (xs.all fun x => decide (x ∈ ys)) <;> rfl
theorem xor_ok {xs ys : List Str} (g : G xs) (g' : G ys) : m_Key_xor [K xs, K ys] = .ok (K (ord (B xs ys ++ B ys xs))) := by
  have e1 : eBin (gAlt (gOwn 0 m_Key_sub) (gSubI)) (eVar 0) (eVar 1) [.sh (K xs), .sh (K ys)] = .ok (K (B xs ys)) := by
    show (m_Key_sub [K xs, K ys]).alt _ = _
    rw [sub_ok g]; rfl
  have e2 : eBin (gAlt (gOwn 0 m_Key_sub) (gSubI)) (eVar 1) (eVar 0) [.sh (K xs), .sh (K ys)] = .ok (K (B ys xs)) := by
    show (m_Key_sub [K ys, K xs]).alt _ = _
    rw [sub_ok g']; rfl
  have n7 : ∀ l, (ord l).length ≤ 7 := fun l => List.length_filter_le ..
  show outR (sRet (eBin (gOwn 0 m_Key_or) (eBin (gAlt (gOwn 0 m_Key_sub) (gSubI)) (eVar 0) (eVar 1)) (eBin (gAlt (gOwn 0 m_Key_sub) (gSubI)) (eVar 1) (eVar 0))) [.sh (K xs), .sh (K ys)]) = _
  unfold sRet
  show outR (lift ((eBin (gAlt (gOwn 0 m_Key_sub) (gSubI)) (eVar 0) (eVar 1) [.sh (K xs), .sh (K ys)]).bind fun x => (eBin (gAlt (gOwn 0 m_Key_sub) (gSubI)) (eVar 1) (eVar 0) [.sh (K xs), .sh (K ys)]).bind fun y => gOwn 0 m_Key_or x y) _ _) = _
  rw [e1, e2]
  show outR (lift (m_Key_or [K (B xs ys), K (B ys xs)]) _ _) = _
  rw [or_ok (xs := B xs ys) (ys := B ys xs) (ord_G _) (ord_G _) (Nat.le_trans (Nat.add_le_add (n7 _) (n7 _)) (by decide))]
  rfl
end Lw
namespace Lw
open PySem Dl
/-! pure facts -/
theorem ord_congr {xs ys : List Str} (h : ∀ x ∈ nm7, (x ∈ xs ↔ x ∈ ys)) : ord xs = ord ys := List.filter_congr fun x hx => decide_eq_decide.mpr (h x hx)
theorem ord_by {xs : List Str} (q : Str → Bool) (h : ∀ x ∈ nm7, (x ∈ xs ↔ q x = true)) : ord xs = nm7.filter q := List.filter_congr fun x hx => by
  rw [Bool.eq_iff_iff, decide_eq_true_iff]; exact h x hx
structure Cn (xs : List Str) : Prop where
  e : ord xs = xs
theorem Cn.g {xs : List Str} (h : Cn xs) : G xs := by rw [← h.e]; exact ord_G xs
theorem Cn.l7 {xs : List Str} (h : Cn xs) : xs.length ≤ 7 := by rw [← h.e]; exact List.length_filter_le ..
theorem cn_filter {xs : List Str} (h : Cn xs) (q : Str → Bool) : ord (xs.filter q) = xs.filter q := by
  have z : ord (xs.filter q) = nm7.filter fun x => decide (x ∈ xs) && q x := ord_by _ fun x _ => by rw [List.mem_filter, Bool.and_eq_true, decide_eq_true_iff]
  have y : xs.filter q = (ord xs).filter q := by rw [h.e]
  rw [z, y]
  unfold ord
  rw [List.filter_filter]
  exact List.filter_congr fun x _ => Bool.and_comm ..
theorem A_cn {xs ys : List Str} (h : Cn xs) : A xs ys = xs.filter fun x => decide (x ∈ ys) := cn_filter h _
theorem B_cn {xs ys : List Str} (h : Cn xs) : B xs ys = xs.filter fun x => !decide (x ∈ ys) := cn_filter h _
theorem ord_mem {xs : List Str} (x : Str) (hx : x ∈ nm7) : x ∈ ord xs ↔ x ∈ xs := by
  unfold ord
  rw [List.mem_filter, decide_eq_true_iff]
  exact ⟨fun h => h.2, fun h => ⟨hx, h⟩⟩
theorem ord_cn (xs : List Str) : Cn (ord xs) := ⟨ord_congr fun x hx => ord_mem x hx⟩
theorem nil_cn : Cn [] := ⟨rfl⟩
theorem cn_sub {xs ys : List Str} (h : Cn xs) (h' : Cn ys) (hs : ∀ x ∈ xs, x ∈ ys) : xs = ys ∨ xs.length < ys.length := by
  have e : xs = ys.filter fun x => decide (x ∈ xs) := by
    have z : ord xs = nm7.filter fun x => decide (x ∈ xs) && decide (x ∈ ys) := ord_by _ fun x _ => by
      rw [Bool.and_eq_true, decide_eq_true_iff, decide_eq_true_iff]
      exact ⟨fun m => ⟨m, hs x m⟩, fun m => m.1⟩
    have y : (ord ys).filter (fun x => decide (x ∈ xs)) = nm7.filter fun x => decide (x ∈ xs) && decide (x ∈ ys) := by
      unfold ord
      rw [List.filter_filter]
    rw [← h'.e]
    rw [y, ← z, h.e]
  have sl : xs.Sublist ys := by
    have : (ys.filter fun x => decide (x ∈ xs)).Sublist ys := List.filter_sublist
    rw [← e] at this
    exact this
  rcases Nat.lt_or_ge xs.length ys.length with l | l
  · exact .inr l
  · exact .inl (sl.eq_of_length_le l)
/-! values -/
theorem vNames (xs : List Str) : gProp 0 m_Key_names (K xs) = .ok (.tup (ds xs)) := rfl
theorem vSub {xs ys : List Str} (g : G xs) : gAlt (gOwn 0 m_Key_sub) gSubI (K xs) (K ys) = .ok (K (B xs ys)) := by
  show (m_Key_sub [K xs, K ys]).alt _ = _
  rw [sub_ok g]; rfl
theorem vOr {xs ys : List Str} (g : G xs) (g' : G ys) (hl : xs.length + ys.length ≤ 1000) : gOwn 0 m_Key_or (K xs) (K ys) = .ok (K (ord (xs ++ ys))) := or_ok g g' hl
theorem vAnd {xs ys : List Str} (g : G xs) : gOwn 0 m_Key_and (K xs) (K ys) = .ok (K (A xs ys)) := and_ok g
theorem vXor {xs ys : List Str} (g : G xs) (g' : G ys) : gOwn 0 m_Key_xor (K xs) (K ys) = .ok (K (ord (B xs ys ++ B ys xs))) := xor_ok g g'
theorem vLe {xs ys : List Str} (g : G xs) : gAlt (gOwn 0 m_Key_le) gLeI (K xs) (K ys) = .ok (.bl (xs.all fun x => decide (x ∈ ys))) := by
  show (m_Key_le [K xs, K ys]).alt _ = _
  rw [le_ok g]; rfl
theorem vLt {xs ys : List Str} (g : G xs) : gAlt (gOwn 0 m_Key_lt) gLtI (K xs) (K ys) = .ok (.bl ((xs.all fun x => decide (x ∈ ys)) && decide (xs.length < ys.length))) := by
  show (m_Key_lt [K xs, K ys]).alt _ = _
  rw [lt_ok g]; rfl
theorem vEqK {xs ys : List Str} (g : G xs) (g' : G ys) : gAlt (gOwn 0 m_Key_eq) (gEq false) (K xs) (K ys) = .ok (.bl (decide (xs = ys))) := by
  show (m_Key_eq [K xs, K ys]).alt _ = _
  rw [eq_ok g g']; rfl
theorem vEqL {xs ys : List Str} (g : G xs) (g' : G ys) : gAlt (gOwn 0 m_Key_eq) (gEq false) (.lst (ds xs)) (.lst (ds ys)) = .ok (.bl (decide (xs = ys))) := gEq_l false g g'
theorem vNeK {xs ys : List Str} (g : G xs) (g' : G ys) : gAlt (gNe 0 m_Key_eq) (gEq true) (K xs) (K ys) = .ok (.bl (!decide (xs = ys))) := by
  show (((bOf (m_Key_eq [K xs, K ys])).bind fun b => Res.ok (D.bl (!b)))).alt _ = _
  rw [eq_ok g g']; rfl
theorem vNeL {xs ys : List Str} (g : G xs) (g' : G ys) : gAlt (gNe 0 m_Key_eq) (gEq true) (.lst (ds xs)) (.lst (ds ys)) = .ok (.bl (!decide (xs = ys))) := gEq_l true g g'
theorem vTup (xs : List Str) : fTup [.lst (ds xs)] = .ok (.tup (ds xs)) := rfl
theorem vLenL (xs : List Str) : fAlt (fLenOwn 0 m_Key_len) fLen [.lst (ds xs)] = .ok (.int xs.length) := by
  show Res.ok (D.int (ds xs).length) = _
  rw [List.length_map]
theorem lenOwn_ins (k : Nat) (F : List D → Res D) (ns : List Str) (xs : List D) : fLenOwn k F [.ins k ns xs] = (lenI (F [.ins k ns xs])).bind fun n => .ok (.int n) := by
  unfold fLenOwn
  simp only [if_true]
theorem boolOwn_ins (k : Nat) (F : List D → Res D) (ns : List Str) (xs : List D) : fBoolOwn k F [.ins k ns xs] = (lenI (F [.ins k ns xs])).bind fun n => .ok (.bl (n != 0)) := by
  unfold fBoolOwn
  simp only [if_true]
theorem vLenI {xs : List Str} (g : G xs) : lenI (m_Key_len [K xs]) = .ok (xs.length : Int) := by
  rw [len_ok]
  have := g.len
  unfold lenI
  rw [Res.bind_ok]
  exact if_pos ⟨by omega, by omega⟩
theorem vLenK {xs : List Str} (g : G xs) : fAlt (fLenOwn 0 m_Key_len) fLen [K xs] = .ok (.int xs.length) := by
  have h : fLenOwn 0 m_Key_len [K xs] = (lenI (m_Key_len [K xs])).bind fun n => .ok (.int n) := lenOwn_ins 0 m_Key_len [w_held] [.tup (ds xs)]
  unfold fAlt
  rw [h, vLenI g]
  rfl
theorem vBool {xs : List Str} (g : G xs) : fBoolOwn 0 m_Key_len [K xs] = .ok (.bl (!decide (xs = []))) := by
  have h : fBoolOwn 0 m_Key_len [K xs] = (lenI (m_Key_len [K xs])).bind fun n => .ok (.bl (n != 0)) := boolOwn_ins 0 m_Key_len [w_held] [.tup (ds xs)]
  rw [h, vLenI g]
  cases xs with
  | nil => rfl
  | cons x l =>
    rw [Res.bind_ok]
    have : (((x :: l).length : Int) != 0) = true := by rw [bne_iff_ne, List.length_cons]; omega
    rw [this]
    simp
theorem vInK {xs : List Str} (x : Str) : gAlt (gInOwn 0 false m_Key_contains) (gIn false) (.str x) (K xs) = .ok (.bl (decide (x ∈ xs))) := by
  show ((bOf (m_Key_contains [K xs, .str x])).bind fun b => Res.ok (D.bl b)).alt _ = _
  rw [contains_str]; rfl
theorem vInKi {xs : List Str} (i : Int) : gAlt (gInOwn 0 false m_Key_contains) (gIn false) (.int i) (K xs) = .ok (.bl false) := rfl
theorem vInKn {xs : List Str} : gAlt (gInOwn 0 false m_Key_contains) (gIn false) .non (K xs) = .ok (.bl false) := rfl
theorem vInL {xs : List Str} (x : Str) : gAlt (gInOwn 0 false m_Key_contains) (gIn false) (.str x) (.lst (ds xs)) = .ok (.bl (decide (x ∈ xs))) := gInA_l false _ x xs
theorem vNInL {xs : List Str} (x : Str) : gAlt (gInOwn 0 true m_Key_contains) (gIn true) (.str x) (.lst (ds xs)) = .ok (.bl (!decide (x ∈ xs))) := gInA_l true _ x xs
theorem vB (neg a b : Bool) : gEq neg (.bl a) (.bl b) = .ok (.bl (ng neg (a == b))) := by cases neg <;> cases a <;> cases b <;> rfl
theorem vI (neg : Bool) (i j : Int) : gEq neg (.int i) (.int j) = .ok (.bl (ng neg (i == j))) := by
  show (if SeqAt.shaped (.int i) = true ∧ SeqAt.shaped (.int j) = true then Res.ok (D.bl (if neg then !PyData.eqv (.int i) (.int j) else PyData.eqv (.int i) (.int j))) else .bad) = _
  have h : ∀ i : Int, SeqAt.shaped (.int i) = true := fun i => by simp [SeqAt.shaped, PyData.canLay0, PyData.depth]
  rw [if_pos ⟨h i, h j⟩]
  simp only [PyData.eqv]
  rfl
theorem bin_ok {g : D → D → Res D} {fa fb : En → Res D} {env : En} {x y : D} (h : fa env = .ok x) (h' : fb env = .ok y) : eBin g fa fb env = g x y := by
  unfold eBin; rw [h, h']; rfl
theorem at_ok {g : D → Res D} {fa : En → Res D} {env : En} {x : D} (h : fa env = .ok x) : eAt g fa env = g x := by
  unfold eAt; rw [h]; rfl
theorem eB_ok {fa : En → Res D} {env : En} {b : Bool} (h : fa env = .ok (.bl b)) : eB fa env = .ok b := by
  unfold eB; rw [h]; rfl
theorem bOr_ok {f g : En → Res Bool} {env : En} (h : f env = .ok false) (h' : g env = .ok false) : bOr f g env = .ok false := by
  unfold bOr; rw [h]; exact h'
theorem bNot_ok {f : En → Res Bool} {env : En} {b : Bool} (h : f env = .ok b) : bNot f env = .ok (!b) := by
  unfold bNot; rw [h]; rfl
theorem step_if {ft : En → Res Bool} {f g : En → Out} {env : En} (h : ft env = .ok false) : sSeq (sIf ft f sNext) g env = g env := by
  unfold sSeq sIf; rw [h]; rfl
theorem step_asg {fe : En → Res D} {hh : D → En → Option En} {g : En → Out} {env env' : En} {d : D} (h : fe env = .ok d) (h2 : hh d env = some env') : sSeq (sAsg fe hh) g env = g env' := by
  unfold sSeq sAsg; rw [h]
  show (match (match hh d env with | some e => Out.nx e | none => .bad) with | .nx e => g e | r => r) = _
  rw [h2]
theorem of_ok {xs : List Str} (g : G xs) : m_Key_of (.cls 0 :: ds xs) = .ok (K (ord xs)) := by
  have l : (ds xs).length ≤ 1000 := by rw [List.length_map]; exact g.len
  show (if 1 ≤ (ds xs).length + 1 ∧ (ds xs).length + 1 ≤ 100000 then outR (b_Key_of [.sh (.cls 0), .sh (.tup (ds xs))]) else .bad) = _
  rw [if_pos ⟨by omega, by omega⟩]
  show outR (lift ((Res.ok [D.tup (ds xs)]).bind fun ds => insR 0 (i_Key ds)) _ _) = _
  show outR (lift (insR 0 (i_Key [.tup (ds xs)])) _ _) = _
  rw [mk_ok xs _ (.inr rfl) g]; rfl
theorem of_ok0 : m_Key_of [.cls 0] = .ok (K []) := of_ok (xs := []) ⟨fun _ h => (nomatch h), by decide⟩
end Lw
namespace Lw
open PySem Dl
theorem ret_ok {fe : En → Res D} {env : En} {d : D} (h : fe env = .ok d) : outR (sRet fe env) = .ok d := by
  unfold sRet; rw [h]; rfl
theorem if_ok {ft : En → Res Bool} {f g : En → Res D} {env : En} {b : Bool} (h : ft env = .ok b) : eIf ft f g env = if b = true then f env else g env := by
  unfold eIf; rw [h]; rfl
theorem step_ret {ft : En → Res Bool} {fe : En → Res D} {g : En → Out} {env : En} {d : D} (h : ft env = .ok true) (h2 : fe env = .ok d) : outR (sSeq (sIf ft (sRet fe) sNext) g env) = .ok d := by
  unfold sSeq sIf sRet
  rw [h, h2]
  rfl
theorem tup2_ok {fa fb : En → Res D} {env : En} {x y : D} (h : fa env = .ok x) (h' : fb env = .ok y) : eTup (aCons fa (aCons fb aNil)) env = .ok (.tup [x, y]) := by
  unfold eTup aCons
  rw [h, h']
  rfl
theorem law_of_ok {xs : List Str} (g : G xs) : m__law_of [.lst (ds xs)] = .ok (K (ord xs)) := by
  have c1 : eB (eBin (gLtI) (eCall (fAlt (fLenOwn 0 m_Key_len) (fLen)) (aCons (eVar 0) (aNil))) (eC (.int 2))) [.sh (.lst (ds xs))] = .ok (decide ((xs.length : Int) < 2)) := by
    refine eB_ok ?_
    rw [bin_ok (x := .int xs.length) (y := .int 2) (by rw [eCall1 (d := .lst (ds xs)) rfl, vLenL]) rfl]
    rfl
  show outR (b__law_of [.sh (.lst (ds xs))]) = _
  unfold b__law_of
  match xs, g, c1 with
  | [], g, c1 =>
    have c1 : _ = Res.ok true := c1
    rw [step_ret (d := K []) c1]
    · rfl
    · rw [if_ok (b := true) (eB_ok (b := true) (by rw [bin_ok (x := .lst (ds [])) (y := .lst (ds [])) rfl rfl, vEqL nil_cn.g nil_cn.g]; rfl))]
      exact of_ok0
  | [x], g, c1 =>
    have c1 : _ = Res.ok true := c1
    rw [step_ret (d := K (ord [x])) c1]
    rw [if_ok (b := false) (eB_ok (b := false) (by rw [bin_ok (x := .lst (ds [x])) (y := .lst (ds [])) rfl rfl, vEqL g nil_cn.g]; rfl))]
    exact of_ok g
  | [x, y], g, c1 =>
    have c1 : _ = Res.ok false := c1
    rw [step_if c1]
    rw [ret_ok (d := K (ord [x, y]))]
    rw [if_ok (b := true) (eB_ok (b := true) (by rw [bin_ok (x := .int 2) (y := .int 2) (by rw [eCall1 (d := .lst (ds [x, y])) rfl, vLenL]; rfl) rfl, vI]; rfl))]
    show m_Key_of (.cls 0 :: ds [y, x]) = _
    rw [of_ok (xs := [y, x]) ⟨fun z hz => g.mem z (by simp at hz ⊢; exact hz.symm), (show 2 ≤ 1000 by decide)⟩]
    rw [show ord [y, x] = ord [x, y] from ord_congr fun z _ => by simp [or_comm]]
  | x :: y :: z :: l, g, c1 =>
    have e1 : decide (((x :: y :: z :: l).length : Int) < 2) = false := by rw [decide_eq_false_iff_not]; simp only [List.length_cons]; omega
    rw [e1] at c1
    rw [step_if c1]
    rw [ret_ok (d := K (ord (x :: y :: z :: l)))]
    rw [if_ok (b := false) (eB_ok (b := false) (by
      rw [bin_ok (x := .int (x :: y :: z :: l).length) (y := .int 2) (by rw [eCall1 (d := .lst (ds (x :: y :: z :: l))) rfl, vLenL]) rfl, vI]
      have : (((x :: y :: z :: l).length : Int) == 2) = false := by rw [beq_eq_false_iff_ne]; simp only [List.length_cons]; omega
      rw [this]; rfl))]
    rw [if_neg (by decide)]
    rw [eCall1 (d := .tup (ds (x :: y :: z :: l))) rfl, mk_ok _ _ (.inr rfl) g]
theorem cut2 (xs : List Str) (k : Nat) : cutD (ds xs) none (some (k : Int)) = ds (xs.take k) := by
  unfold cutD
  rw [HT.sIx_none, HT.sIx_nat, List.drop_zero, Nat.sub_zero]
  show List.take (min k (List.map D.str xs).length) (List.map D.str xs) = List.map D.str (xs.take k)
  rw [List.map_take, List.length_map]
  rcases Nat.le_total k xs.length with h | h
  · rw [Nat.min_eq_left h]
  · rw [Nat.min_eq_right h, List.take_of_length_le (by rw [List.length_map]; exact Nat.le_refl _), List.take_of_length_le (by rw [List.length_map]; exact h)]
theorem pair_ok {xs ys : List Str} (h : Cn xs) (h' : Cn ys) : m__law_pair_right [.lst (ds xs), .lst (ds ys)] = .ok (.bl true) := by
  have g := h.g
  have g' := h'.g
  have l7 := h.l7
  have l7' := h'.l7
  show outR (b__law_pair_right [.sh (.lst (ds xs)), .sh (.lst (ds ys)), .no, .no, .no, .no, .no]) = _
  unfold b__law_pair_right
  -- mine, theirs
  have s0 : eBin (gAddW) (eRev (eVar 0)) (eSl (eVar 0) (oNo) (oSome (eC (.int 2)))) [.sh (.lst (ds xs)), .sh (.lst (ds ys)), .no, .no, .no, .no, .no] = .ok (.lst (ds (xs.reverse ++ xs.take 2))) := by
    rw [bin_ok (x := .lst (ds xs).reverse) (y := .lst (cutD (ds xs) none (some ((2 : Nat) : Int)))) rfl rfl, cut2, ← List.map_reverse]
    have q : (ds xs.reverse).length + (ds (xs.take 2)).length ≤ 100000 := by
      rw [List.length_map, List.length_map, List.length_reverse]
      have := List.length_take_le 2 xs
      omega
    have w : gCat (.lst (ds xs.reverse)) (.lst (ds (xs.take 2))) = .ok (.lst (ds xs.reverse ++ ds (xs.take 2))) := if_pos q
    show ((gCat (.lst (ds xs.reverse)) (.lst (ds (xs.take 2)))).alt _) = _
    rw [w, ← List.map_append]
    rfl
  have gm : G (xs.reverse ++ xs.take 2) := ⟨fun x hx => (List.mem_append.mp hx).elim (fun z => g.mem x (List.mem_reverse.mp z)) (fun z => g.mem x (List.mem_of_mem_take z)), by
    rw [List.length_append, List.length_reverse]
    have := List.length_take_le 2 xs
    omega⟩
  have om : ord (xs.reverse ++ xs.take 2) = xs := by
    rw [ord_congr (ys := xs) fun x _ => ?_, h.e]
    rw [List.mem_append, List.mem_reverse]
    exact ⟨fun z => z.elim id List.mem_of_mem_take, .inl⟩
  have s1 : eTup (aCons (eCall (fun ds => insR 0 (i_Key ds)) (aCons (eBin (gAddW) (eRev (eVar 0)) (eSl (eVar 0) (oNo) (oSome (eC (.int 2))))) (aNil))) (aCons (eCall m__law_of (aCons (eVar 1) (aNil))) (aNil))) [.sh (.lst (ds xs)), .sh (.lst (ds ys)), .no, .no, .no, .no, .no] = .ok (.tup [K xs, K ys]) := by
    have a1 : eCall (fun ds => insR 0 (i_Key ds)) (aCons (eBin (gAddW) (eRev (eVar 0)) (eSl (eVar 0) (oNo) (oSome (eC (.int 2))))) (aNil)) [.sh (.lst (ds xs)), .sh (.lst (ds ys)), .no, .no, .no, .no, .no] = .ok (K xs) := by
      rw [eCall1 s0, mk_ok _ _ (.inl rfl) gm, om]
    have a2 : eCall m__law_of (aCons (eVar 1) (aNil)) [.sh (.lst (ds xs)), .sh (.lst (ds ys)), .no, .no, .no, .no, .no] = .ok (K ys) := by
      rw [eCall1 (d := .lst (ds ys)) rfl, law_of_ok g', h'.e]
    exact tup2_ok a1 a2
  rw [step_asg (env' := [.sh (.lst (ds xs)), .sh (.lst (ds ys)), .no, .no, .sh (K xs), .sh (K ys), .no]) s1 rfl]
  rw [step_if (bOr_ok (eB_ok (b := false) ?c1) (bOr_ok (eB_ok (b := false) ?c2) (bOr_ok (eB_ok (b := false) ?c3) (eB_ok (b := false) ?c4))))]
  case c1 =>
    rw [bin_ok (x := .tup (ds xs)) (y := .tup (ds xs)) rfl rfl, gEq_t true g g]; simp [ng]
  case c2 =>
    rw [bin_ok (x := .tup (ds ys)) (y := .tup (ds ys)) rfl rfl, gEq_t true g' g']; simp [ng]
  case c3 =>
    rw [bin_ok (x := .int xs.length) (y := .int xs.length) (by rw [eCall1 (d := K xs) rfl, vLenK g]) (by rw [eCall1 (d := .lst (ds xs)) rfl, vLenL]), vI]; simp [ng]
  case c4 =>
    rw [bin_ok (x := .bl (!decide (xs = []))) (y := .bl (!decide (xs = []))) (by rw [eCall1 (d := K xs) rfl, vBool g]) (by rw [bin_ok (x := .lst (ds xs)) (y := .lst (ds [])) rfl rfl, vNeL g nil_cn.g]), vB]; simp [ng]
  rw [step_asg (d := .lst (ds nm7)) (env' := [.sh (.lst (ds xs)), .sh (.lst (ds ys)), .sh (.lst (ds nm7)), .no, .sh (K xs), .sh (K ys), .no]) rfl rfl]
  -- or
  rw [step_if (eB_ok (b := false) ?d1)]
  case d1 =>
    have e := eLc_ok (vs := [6]) (fi := eIt (eVar 2)) (h := gV 6) (ft := bOr (eB (eBin (gAlt (gInOwn 0 false m_Key_contains) (gIn false)) (eVar 6) (eVar 0))) (eB (eBin (gAlt (gInOwn 0 false m_Key_contains) (gIn false)) (eVar 6) (eVar 1)))) (fe := eVar 6) (env := [.sh (.lst (ds xs)), .sh (.lst (ds ys)), .sh (.lst (ds nm7)), .no, .sh (K xs), .sh (K ys), .no]) nm7 (fun x => decide (x ∈ xs ++ ys)) D.str D.str rfl (by decide) fun x _ => ⟨[.sh (.lst (ds xs)), .sh (.lst (ds ys)), .sh (.lst (ds nm7)), .no, .sh (K xs), .sh (K ys), .sh (.str x)], rfl, by
      unfold bOr
      rw [eB_ok (b := decide (x ∈ xs)) (by rw [bin_ok (x := .str x) (y := .lst (ds xs)) rfl rfl, vInL]), eB_ok (b := decide (x ∈ ys)) (by rw [bin_ok (x := .str x) (y := .lst (ds ys)) rfl rfl, vInL])]
      by_cases m : x ∈ xs <;> by_cases m' : x ∈ ys <;> simp [m, m'], rfl⟩
    rw [bin_ok (x := .tup (ds (ord (xs ++ ys)))) (y := .tup (ds (ord (xs ++ ys)))) (by rw [at_ok (x := K (ord (xs ++ ys))) (by rw [bin_ok (x := K xs) (y := K ys) rfl rfl, vOr g g' (by omega)]), vNames]) (by rw [eCall1 e]; exact vTup _), gEq_t true (ord_G _) (ord_G _)]; simp [ng]
  rw [step_if (eB_ok (b := false) ?d2)]
  case d2 =>
    have e := eLc_ok (vs := [6]) (fi := eIt (eVar 0)) (h := gV 6) (ft := eB (eBin (gAlt (gInOwn 0 false m_Key_contains) (gIn false)) (eVar 6) (eVar 1))) (fe := eVar 6) (env := [.sh (.lst (ds xs)), .sh (.lst (ds ys)), .sh (.lst (ds nm7)), .no, .sh (K xs), .sh (K ys), .no]) xs (fun x => decide (x ∈ ys)) D.str D.str rfl g.l fun x _ => ⟨[.sh (.lst (ds xs)), .sh (.lst (ds ys)), .sh (.lst (ds nm7)), .no, .sh (K xs), .sh (K ys), .sh (.str x)], rfl, by
      rw [eB_ok (b := decide (x ∈ ys)) (by rw [bin_ok (x := .str x) (y := .lst (ds ys)) rfl rfl, vInL])], rfl⟩
    rw [bin_ok (x := .tup (ds (A xs ys))) (y := .tup (ds (A xs ys))) (by rw [at_ok (x := K (A xs ys)) (by rw [bin_ok (x := K xs) (y := K ys) rfl rfl, vAnd g]), vNames]) (by rw [eCall1 e, A_cn h]; exact vTup _), gEq_t true (xs := A xs ys) (ys := A xs ys) (ord_G _) (ord_G _)]; simp [ng]
  rw [step_if (eB_ok (b := false) ?d3)]
  case d3 =>
    have e := eLc_ok (vs := [6]) (fi := eIt (eVar 0)) (h := gV 6) (ft := eB (eBin (gAlt (gInOwn 0 true m_Key_contains) (gIn true)) (eVar 6) (eVar 1))) (fe := eVar 6) (env := [.sh (.lst (ds xs)), .sh (.lst (ds ys)), .sh (.lst (ds nm7)), .no, .sh (K xs), .sh (K ys), .no]) xs (fun x => !decide (x ∈ ys)) D.str D.str rfl g.l fun x _ => ⟨[.sh (.lst (ds xs)), .sh (.lst (ds ys)), .sh (.lst (ds nm7)), .no, .sh (K xs), .sh (K ys), .sh (.str x)], rfl, by
      rw [eB_ok (b := !decide (x ∈ ys)) (by rw [bin_ok (x := .str x) (y := .lst (ds ys)) rfl rfl, vNInL])], rfl⟩
    rw [bin_ok (x := .tup (ds (B xs ys))) (y := .tup (ds (B xs ys))) (by rw [at_ok (x := K (B xs ys)) (by rw [bin_ok (x := K xs) (y := K ys) rfl rfl, vSub g]), vNames]) (by rw [eCall1 e, B_cn h]; exact vTup _), gEq_t true (xs := B xs ys) (ys := B xs ys) (ord_G _) (ord_G _)]; simp [ng]
  rw [step_if (eB_ok (b := false) ?d4)]
  case d4 =>
    have e := eLc_ok (vs := [6]) (fi := eIt (eVar 2)) (h := gV 6) (ft := eB (eBin (gEq true) (eBin (gAlt (gInOwn 0 false m_Key_contains) (gIn false)) (eVar 6) (eVar 0)) (eBin (gAlt (gInOwn 0 false m_Key_contains) (gIn false)) (eVar 6) (eVar 1)))) (fe := eVar 6) (env := [.sh (.lst (ds xs)), .sh (.lst (ds ys)), .sh (.lst (ds nm7)), .no, .sh (K xs), .sh (K ys), .no]) nm7 (fun x => decide (x ∈ B xs ys ++ B ys xs)) D.str D.str rfl (by decide) fun x hx => ⟨[.sh (.lst (ds xs)), .sh (.lst (ds ys)), .sh (.lst (ds nm7)), .no, .sh (K xs), .sh (K ys), .sh (.str x)], rfl, by
      refine eB_ok ?_
      rw [bin_ok (x := .bl (decide (x ∈ xs))) (y := .bl (decide (x ∈ ys))) (by rw [bin_ok (x := .str x) (y := .lst (ds xs)) rfl rfl, vInL]) (by rw [bin_ok (x := .str x) (y := .lst (ds ys)) rfl rfl, vInL]), vB, B_cn h, B_cn h']
      by_cases m : x ∈ xs <;> by_cases m' : x ∈ ys <;> simp [m, m', ng], rfl⟩
    rw [bin_ok (x := .tup (ds (ord (B xs ys ++ B ys xs)))) (y := .tup (ds (ord (B xs ys ++ B ys xs)))) (by rw [at_ok (x := K (ord (B xs ys ++ B ys xs))) (by rw [bin_ok (x := K xs) (y := K ys) rfl rfl, vXor g g']), vNames]) (by rw [eCall1 e]; exact vTup _), gEq_t true (ord_G _) (ord_G _)]; simp [ng]
  have ew := eLc_ok (vs := [6]) (fi := eIt (eVar 0)) (h := gV 6) (ft := bYes) (fe := eBin (gAlt (gInOwn 0 false m_Key_contains) (gIn false)) (eVar 6) (eVar 1)) (env := [.sh (.lst (ds xs)), .sh (.lst (ds ys)), .sh (.lst (ds nm7)), .no, .sh (K xs), .sh (K ys), .no]) xs (fun x => true) D.str (fun x => .bl (decide (x ∈ ys))) rfl g.l fun x _ => ⟨[.sh (.lst (ds xs)), .sh (.lst (ds ys)), .sh (.lst (ds nm7)), .no, .sh (K xs), .sh (K ys), .sh (.str x)], rfl, rfl, by
      rw [bin_ok (x := .str x) (y := .lst (ds ys)) rfl rfl, vInL]⟩
  rw [filt_true] at ew
  generalize hw : (xs.all fun x => decide (x ∈ ys)) = w
  rw [step_asg (d := .bl w) (env' := [.sh (.lst (ds xs)), .sh (.lst (ds ys)), .sh (.lst (ds nm7)), .sh (.bl w), .sh (K xs), .sh (K ys), .no]) (by rw [eCall1 ew, fAll_ok, hw]) rfl]
  rw [step_if (bOr_ok (eB_ok (b := false) ?f1) (eB_ok (b := false) ?f2))]
  case f1 =>
    rw [bin_ok (x := .bl w) (y := .bl w) (by rw [bin_ok (x := K xs) (y := K ys) rfl rfl, vLe g, hw]) rfl, vB]; simp [ng]
  case f2 =>
    have z : (w && decide (xs.length < ys.length)) = (w && !decide (xs = ys)) := by
      cases w with
      | false => rfl
      | true =>
        have hs : ∀ x ∈ xs, x ∈ ys := fun x hx => by
          rw [List.all_eq_true] at hw
          exact of_decide_eq_true (hw x hx)
        rcases cn_sub h h' hs with e | l
        · subst e; simp
        · have : ¬ xs = ys := fun e => by subst e; omega
          simp [l, this]
    rw [bin_ok (x := .bl (w && decide (xs.length < ys.length))) (y := .bl (w && !decide (xs = ys))) (by rw [bin_ok (x := K xs) (y := K ys) rfl rfl, vLt g, hw]) (by
      unfold eAnd
      show ((Res.ok (D.bl w)).bind _) = _
      rw [Res.bind_ok]
      rw [bin_ok (x := .lst (ds xs)) (y := .lst (ds ys)) rfl rfl, vNeL g g']
      cases w <;> rfl), vB, z]; simp [ng]
  have ei := eLc_ok (vs := [6]) (fi := eIt (eVar 2)) (h := gV 6) (ft := bYes) (fe := eBin (gEq false) (eBin (gAlt (gInOwn 0 false m_Key_contains) (gIn false)) (eVar 6) (eVar 4)) (eBin (gAlt (gInOwn 0 false m_Key_contains) (gIn false)) (eVar 6) (eVar 0))) (env := [.sh (.lst (ds xs)), .sh (.lst (ds ys)), .sh (.lst (ds nm7)), .sh (.bl w), .sh (K xs), .sh (K ys), .no]) nm7 (fun x => true) D.str (fun x => .bl true) rfl (by decide) fun x _ => ⟨[.sh (.lst (ds xs)), .sh (.lst (ds ys)), .sh (.lst (ds nm7)), .sh (.bl w), .sh (K xs), .sh (K ys), .sh (.str x)], rfl, rfl, by
      rw [bin_ok (x := .bl (decide (x ∈ xs))) (y := .bl (decide (x ∈ xs))) (by rw [bin_ok (x := .str x) (y := K xs) rfl rfl, vInK]) (by rw [bin_ok (x := .str x) (y := .lst (ds xs)) rfl rfl, vInL]), vB]
      simp [ng]⟩
  rw [filt_true] at ei
  have n3 : decide (w_f3 ∈ xs) = false := decide_eq_false fun m => absurd (g.mem _ m) (by decide)
  rw [step_if (bOr_ok (bNot_ok (b := true) (eB_ok (by rw [eCall1 ei]; rfl))) (bOr_ok (eB_ok (by rw [bin_ok (x := .str w_f3) (y := K xs) rfl rfl, vInK, n3])) (bOr_ok (eB_ok (by rw [bin_ok (x := .int 5) (y := K xs) rfl rfl, vInKi])) (eB_ok (by rw [bin_ok (x := .non) (y := K xs) rfl rfl, vInKn])))))]
  refine ret_ok ?_
  unfold eAnd
  rw [bin_ok (x := .bl (decide (xs = ys))) (y := .bl (decide (xs = ys))) (by rw [bin_ok (x := K xs) (y := K ys) rfl rfl, vEqK g g']) (by rw [bin_ok (x := .lst (ds xs)) (y := .lst (ds ys)) rfl rfl, vEqL g g']), vB]
  rw [bin_ok (x := .bl (!decide (xs = ys))) (y := .bl (!decide (xs = ys))) (by rw [bin_ok (x := K xs) (y := K ys) rfl rfl, vNeK g g']) (by rw [bin_ok (x := .lst (ds xs)) (y := .lst (ds ys)) rfl rfl, vNeL g g']), vB]
  simp [ng]
end Lw
namespace Lw
open PySem Dl
theorem sub_filter : ∀ {xs l : List Str}, xs.Sublist l → l.Nodup → l.filter (fun x => decide (x ∈ xs)) = xs := by
  intro xs l h
  induction h with
  | slnil => intro _; rfl
  | @cons xs l a h ih =>
    intro nd
    rw [List.nodup_cons] at nd
    have : ¬ a ∈ xs := fun m => nd.1 (h.subset m)
    rw [List.filter_cons_of_neg (by simp [this])]
    exact ih nd.2
  | @cons_cons xs l a h ih =>
    intro nd
    rw [List.nodup_cons] at nd
    rw [List.filter_cons_of_pos (by simp)]
    congr 1
    have e : l.filter (fun x => decide (x ∈ a :: xs)) = l.filter (fun x => decide (x ∈ xs)) := List.filter_congr fun x hx => decide_eq_decide.mpr ⟨fun m => by
      rcases List.mem_cons.mp m with q | q
      · subst q; exact absurd hx nd.1
      · exact q, List.mem_cons_of_mem _⟩
    rw [e]
    exact ih nd.2
theorem nm7_nd : nm7.Nodup := by decide +kernel
theorem cn_of_sub {xs : List Str} (h : xs.Sublist nm7) : Cn xs := ⟨sub_filter h nm7_nd⟩
theorem Cn.sub {xs : List Str} (h : Cn xs) : xs.Sublist nm7 := by
  have : (ord xs).Sublist nm7 := List.filter_sublist
  rw [h.e] at this
  exact this
def pickS : List Str → Int → List Str
  | [], _ => []
  | x :: xs, r => if r % 2 = 1 then x :: pickS xs (r / 2) else pickS xs (r / 2)
theorem pickS_cons (x : Str) (xs : List Str) (r : Int) : pickS (x :: xs) r = if r % 2 = 1 then x :: pickS xs (r / 2) else pickS xs (r / 2) := rfl
theorem pick_sub : ∀ (xs : List Str) (r : Int), (pickS xs r).Sublist xs
  | [], _ => .slnil
  | x :: xs, r => by
    unfold pickS
    by_cases h : r % 2 = 1
    · rw [if_pos h]; exact (pick_sub xs _).cons₂ _
    · rw [if_neg h]; exact (pick_sub xs _).cons _
theorem div2 (r : Int) : gDivI (.int r) (.int 2) = .ok (.int (r / 2)) := by
  show (if (0 : Int) < 2 ∧ (2 : Int).natAbs.log2 < 9000 then Res.ok (D.int (r / 2)) else .bad) = _
  exact if_pos (by decide)
theorem cat1 (f : List Str) (x : Str) (h : f.length ≤ 1000) : gAddW (.lst (ds f)) (.lst (ds [x])) = .ok (.lst (ds (f ++ [x]))) := by
  have q : (ds f).length + (ds [x]).length ≤ 100000 := by
    rw [List.length_map, List.length_map]
    show f.length + 1 ≤ 100000
    omega
  have w : gCat (.lst (ds f)) (.lst (ds [x])) = .ok (.lst (ds f ++ ds [x])) := if_pos q
  show ((gCat (.lst (ds f)) (.lst (ds [x]))).alt _) = _
  rw [w, ← List.map_append]
  rfl
def kBody : En → Out := (sSeq (sAsg (eIf (eB (eBin (gEq false) (eBin (gModI) (eCall fInt (aCons (eVar 4) (aNil))) (eC (.int 2))) (eC (.int 1)))) (eBin (gAddW) (eVar 3) (eLst (aCons (eVar 1) (aNil)))) (eVar 3)) (gV 3)) (sAsg (eBin (gDivI) (eVar 4) (eC (.int 2))) (gV 4)))
theorem kBody_ok (s0 s2 : Sl) (f : List Str) (x : Str) (r : Int) (h : f.length ≤ 1000) : kBody [s0, .sh (.str x), s2, .sh (.lst (ds f)), .sh (.int r)] = .nx [s0, .sh (.str x), s2, .sh (.lst (ds (if r % 2 = 1 then f ++ [x] else f))), .sh (.int (r / 2))] := by
  unfold kBody
  have t : eB (eBin (gEq false) (eBin (gModI) (eCall fInt (aCons (eVar 4) (aNil))) (eC (.int 2))) (eC (.int 1))) [s0, .sh (.str x), s2, .sh (.lst (ds f)), .sh (.int r)] = .ok (r % 2 == 1) := by
    refine eB_ok ?_
    rw [bin_ok (x := .int (r % 2)) (y := .int 1) rfl rfl, vI]; rfl
  have v : eIf (eB (eBin (gEq false) (eBin (gModI) (eCall fInt (aCons (eVar 4) (aNil))) (eC (.int 2))) (eC (.int 1)))) (eBin (gAddW) (eVar 3) (eLst (aCons (eVar 1) (aNil)))) (eVar 3) [s0, .sh (.str x), s2, .sh (.lst (ds f)), .sh (.int r)] = .ok (.lst (ds (if r % 2 = 1 then f ++ [x] else f))) := by
    rw [if_ok t]
    by_cases q : r % 2 = 1
    · rw [if_pos (by rw [beq_iff_eq]; exact q), if_pos q, bin_ok (x := .lst (ds f)) (y := .lst (ds [x])) rfl rfl, cat1 f x h]
    · rw [if_neg (by rw [beq_iff_eq]; exact q), if_neg q]; rfl
  rw [step_asg (env' := [s0, .sh (.str x), s2, .sh (.lst (ds (if r % 2 = 1 then f ++ [x] else f))), .sh (.int r)]) v rfl]
  unfold sAsg
  rw [bin_ok (x := .int r) (y := .int 2) rfl rfl, div2]
  rfl
theorem forL_cons {h : D → En → Option En} {body : En → Out} {d : D} {dl : List D} {env e1 e2 : En} (h1 : h d env = some e1) (h2 : body e1 = .nx e2) : forL h body (d :: dl) env = forL h body dl e2 := by
  rw [forL, h1]
  dsimp only
  rw [h2]
theorem kLoop (s0 s2 : Sl) : ∀ (l : List Str) (s1 : Sl) (f : List Str) (r : Int), f.length + l.length ≤ 1000 → ∃ s1' r', forL (gV 1) kBody (ds l) [s0, s1, s2, .sh (.lst (ds f)), .sh (.int r)] = .nx [s0, s1', s2, .sh (.lst (ds (f ++ pickS l r))), .sh (.int r')]
  | [], s1, f, r, _ => ⟨s1, r, by unfold pickS; rw [List.append_nil]; rfl⟩
  | x :: l, s1, f, r, hl => by
    rw [List.length_cons] at hl
    obtain ⟨s1', r', e⟩ := kLoop s0 s2 l (.sh (.str x)) (if r % 2 = 1 then f ++ [x] else f) (r / 2) (by
      by_cases q : r % 2 = 1
      · rw [if_pos q, List.length_append]; simp only [List.length_cons, List.length_nil]; omega
      · rw [if_neg q]; omega)
    refine ⟨s1', r', ?_⟩
    have : ds (x :: l) = D.str x :: ds l := rfl
    rw [this, forL_cons (e1 := [s0, .sh (.str x), s2, .sh (.lst (ds f)), .sh (.int r)]) rfl (kBody_ok s0 s2 f x r (by omega)), e]
    rw [pickS_cons]
    by_cases q : r % 2 = 1
    · rw [if_pos q, if_pos q, List.append_assoc]; rfl
    · rw [if_neg q, if_neg q]
theorem law_key_ok (v : Int) : ∃ xs, Cn xs ∧ m__law_key [.int v] = .ok (.lst (ds xs)) := by
  refine ⟨pickS nm7 (v % 128), cn_of_sub (pick_sub _ _), ?_⟩
  obtain ⟨s1', r', e⟩ := kLoop (.sh (.int v)) (.sh (.lst (ds nm7))) nm7 .no [] (v % 128) (by decide)
  rw [List.nil_append] at e
  have a : sFor (eIt (eVar 2)) (gV 1) kBody [.sh (.int v), .no, .sh (.lst (ds nm7)), .sh (.lst (ds [])), .sh (.int (v % 128))] = .nx [.sh (.int v), s1', .sh (.lst (ds nm7)), .sh (.lst (ds (pickS nm7 (v % 128)))), .sh (.int r')] := e
  have p : ∀ g : En → Out, sSeq (sPar3 2 3 4 (aCons (eLst (aCons (eC (.str w_f0)) (aCons (eC (.str w_f1)) (aCons (eC (.str w_f2)) (aCons (eC (.str w_c0)) (aCons (eC (.str w_c1)) (aCons (eC (.str w_p0)) (aCons (eC (.str w_p1)) (aNil))))))))) (aCons (eLst (aNil)) (aCons (eBin (gModI) (eCall fInt (aCons (eVar 0) (aNil))) (eC (.int 128))) (aNil))))) g [.sh (.int v), .no, .no, .no, .no] = g [.sh (.int v), .no, .sh (.lst (ds nm7)), .sh (.lst (ds [])), .sh (.int (v % 128))] := fun g => rfl
  show outR (b__law_key [.sh (.int v), .no, .no, .no, .no]) = _
  unfold b__law_key
  rw [p]
  show outR (sSeq (sFor (eIt (eVar 2)) (gV 1) kBody) (sRet (eVar 3)) _) = _
  unfold sSeq
  rw [a]
  rfl
end Lw
namespace Lw
open PySem Dl
abbrev di (xs : List Int) : List D := xs.map D.int
theorem intsD_di : ∀ xs : List Int, intsD (di xs) = some xs
  | [] => rfl
  | x :: xs => by
    show (intsD (di xs)).map (fun ns => x :: ns) = _
    rw [intsD_di xs]; rfl
theorem atI_some {α : Type} (xs : List α) (k : Nat) (h : k < xs.length) : ∃ x, x ∈ xs ∧ L2.atI xs (k : Int) = some x := by
  refine ⟨xs[k], List.getElem_mem h, ?_⟩
  unfold L2.atI L2.ixN
  simp [h]
theorem log_small (a : Int) (h : a.natAbs < 2 ^ 64) : a.natAbs.log2 < 64 := by
  by_cases z : a.natAbs = 0
  · rw [z]; decide
  · exact (Nat.log2_lt z).mpr h
theorem mul_ok (a b : Int) (ha : a.natAbs < 2 ^ 64) (hb : b.natAbs < 2 ^ 64) : gMulI (.int a) (.int b) = .ok (.int (a * b)) := by
  show (if a.natAbs.log2 + b.natAbs.log2 < 1000000 then Res.ok (D.int (a * b)) else .bad) = _
  have := log_small a ha
  have := log_small b hb
  exact if_pos (by omega)
theorem div_ok (a b : Int) (h0 : 0 < b) (hb : b.natAbs < 2 ^ 64) : gDivI (.int a) (.int b) = .ok (.int (a / b)) := by
  show (if 0 < b ∧ b.natAbs.log2 < 9000 then Res.ok (D.int (a / b)) else .bad) = _
  have := log_small b hb
  exact if_pos ⟨h0, by omega⟩
theorem mod_ok (a b : Int) (h0 : 0 < b) : gModI (.int a) (.int b) = .ok (.int (a % b)) := by
  show (if 0 < b then Res.ok (D.int (a % b)) else .bad) = _
  exact if_pos h0
theorem add_ok (a b : Int) : gAddW (.int a) (.int b) = .ok (.int (a + b)) := rfl
theorem int_ok {fe : En → Res D} {env : En} {i : Int} (h : fe env = .ok (.int i)) : eCall fInt (aCons fe aNil) env = .ok (.int i) := by
  rw [eCall1 h]; rfl
theorem lenI_ok {fe : En → Res D} {env : En} {xs : List Int} (h : fe env = .ok (.lst (di xs))) : eCall (fAlt (fLenOwn 0 m_Key_len) (fLen)) (aCons fe aNil) env = .ok (.int xs.length) := by
  rw [eCall1 h]
  show Res.ok (D.int (di xs).length) = _
  rw [List.length_map]
theorem par2_ok {fa fb : En → Res D} {g : En → Out} {env : En} {x y : D} {i j : Nat} (h : fa env = .ok x) (h' : fb env = .ok y) (hi : i < env.length ∧ j < env.length) : sSeq (sPar2 i j (aCons fa (aCons fb aNil))) g env = g ((env.set i (.sh x)).set j (.sh y)) := by
  have e : aCons fa (aCons fb aNil) env = .ok [x, y] := by
    unfold aCons; rw [h, h']; rfl
  unfold sSeq sPar2
  rw [e]
  show (match (if i < env.length ∧ j < env.length then Out.nx ((env.set i (.sh x)).set j (.sh y)) else Out.bad) with | .nx env' => g env' | r => r) = _
  rw [if_pos hi]
theorem canI : ∀ xs : List Int, PyData.canLayAll0 (xs.map PyData.int) = true ∧ PyData.depthAll (xs.map PyData.int) = 0
  | [] => ⟨by simp [PyData.canLayAll0], by simp [PyData.depthAll]⟩
  | x :: xs => by
    have ih := canI xs
    simp [PyData.canLayAll0, PyData.depthAll, PyData.canLay0, PyData.depth, ih.1, ih.2]
theorem ne_nil (ns : List Int) (hl : ns.length ≤ 63) : eBin (gAlt (gNe 0 m_Key_eq) (gEq true)) (eVar 0) (eLst (aNil)) = fun env => eBin (gAlt (gNe 0 m_Key_eq) (gEq true)) (eVar 0) (eLst (aNil)) env := rfl
theorem gNe_scr (ns : List Int) (hl : ns.length ≤ 63) : gAlt (gNe 0 m_Key_eq) (gEq true) (.scr ns) (.lst []) = .ok (.bl (!ns.isEmpty)) := by
  show (if SeqAt.shaped (.list (ns.map PyData.int)) = true ∧ SeqAt.shaped (.list []) = true then Res.ok (D.bl (if true then !PyData.eqv (.list (ns.map PyData.int)) (.list []) else PyData.eqv (.list (ns.map PyData.int)) (.list []))) else .bad) = _
  have h := canI ns
  have q : ns.length ≤ sizeLine := Nat.le_trans hl (by decide)
  have s1 : SeqAt.shaped (.list (ns.map PyData.int)) = true := by simp [SeqAt.shaped, PyData.canLay0, PyData.depth, h.1, h.2, q]
  rw [if_pos ⟨s1, by simp [SeqAt.shaped, PyData.canLay0, PyData.depth, PyData.canLayAll0, PyData.depthAll]⟩]
  cases ns with
  | nil => simp [PyData.eqv, PyData.eqvAll]
  | cons n l => simp [PyData.eqv, PyData.eqvAll]
theorem cut63 (ns : List Int) (hl : ns.length ≤ 63) : cutD ns none (some ((63 : Nat) : Int)) = ns := by
  unfold cutD
  rw [HT.sIx_none, HT.sIx_nat, List.drop_zero, Nat.sub_zero]
  exact List.take_of_length_le (by omega)
theorem number_ok (ns : List Int) (hl : ns.length ≤ 63) (k : Nat) (hk : k < 12) : ∃ v, m__law_number [.scr ns, .int k] = .ok (.int v) := by
  obtain ⟨cs, c0, c63, hc⟩ : ∃ cs : List Int, 0 < cs.length ∧ cs.length ≤ 63 ∧ eIf (eB (eBin (gAlt (gNe 0 m_Key_eq) (gEq true)) (eVar 0) (eLst (aNil)))) (eSl (eVar 0) (oNo) (oSome (eC (.int 63)))) (eLst (aCons (eC (.int 5)) (aNil))) [.sh (.scr ns), .sh (.int k), .no, .no, .no, .no, .no, .no] = .ok (.lst (di cs)) := by
    have t : eB (eBin (gAlt (gNe 0 m_Key_eq) (gEq true)) (eVar 0) (eLst (aNil))) [.sh (.scr ns), .sh (.int k), .no, .no, .no, .no, .no, .no] = .ok (!ns.isEmpty) := eB_ok (by rw [bin_ok (x := .scr ns) (y := .lst []) rfl rfl, gNe_scr ns hl])
    rw [if_ok t]
    cases ns with
    | nil => exact ⟨[5], by decide, by decide, rfl⟩
    | cons n l =>
      refine ⟨n :: l, by simp, hl, ?_⟩
      show Res.ok (D.lst ((cutD (n :: l) none (some ((63 : Nat) : Int))).map D.int)) = _
      rw [cut63 _ hl]
  show ∃ v, outR (b__law_number [.sh (.scr ns), .sh (.int k), .no, .no, .no, .no, .no, .no]) = .ok (.int v)
  unfold b__law_number
  rw [step_asg (env' := [.sh (.scr ns), .sh (.int k), .sh (.lst (di cs)), .no, .no, .no, .no, .no]) hc rfl]
  obtain ⟨cell, h1⟩ : ∃ cell : Int, eBin (gAddW) (eBin gIx (eVar 2) (eBin (gModI) (eCall fInt (aCons (eVar 1) (aNil))) (eCall (fAlt (fLenOwn 0 m_Key_len) (fLen)) (aCons (eVar 2) (aNil))))) (eBin (gMulI) (eC (.int 13)) (eBin (gDivI) (eVar 1) (eCall (fAlt (fLenOwn 0 m_Key_len) (fLen)) (aCons (eVar 2) (aNil))))) [.sh (.scr ns), .sh (.int k), .sh (.lst (di cs)), .no, .no, .no, .no, .no] = .ok (.int cell) := by
    have hm : (k : Int) % (cs.length : Int) = ((k % cs.length : Nat) : Int) := by omega
    obtain ⟨x, hx, ex⟩ := atI_some (di cs) (k % cs.length) (by rw [List.length_map]; exact Nat.mod_lt _ c0)
    obtain ⟨c, _, rfl⟩ := List.mem_map.mp hx
    refine ⟨c + 13 * ((k : Int) / cs.length), ?_⟩
    have d1 : (k : Int) / (cs.length : Int) = ((k / cs.length : Nat) : Int) := by omega
    have d2 : k / cs.length ≤ k := Nat.div_le_self ..
    rw [bin_ok (x := .int c) (y := .int (13 * ((k : Int) / cs.length))) (by
      rw [bin_ok (x := .lst (di cs)) (y := .int ((k : Int) % (cs.length : Int))) rfl (by rw [bin_ok (x := .int k) (y := .int cs.length) (int_ok rfl) (lenI_ok rfl), mod_ok _ _ (by omega)])]
      rw [hm]
      show atD (di cs) _ = _
      unfold atD
      rw [ex]) (by
      rw [bin_ok (x := .int 13) (y := .int ((k : Int) / (cs.length : Int))) rfl (by rw [bin_ok (x := .int k) (y := .int cs.length) rfl (lenI_ok rfl), div_ok _ _ (by omega) (by rw [Int.natAbs_natCast]; exact Nat.lt_of_le_of_lt c63 (by decide))])]
      exact mul_ok _ _ (by decide) (by rw [d1, Int.natAbs_natCast]; exact Nat.lt_of_le_of_lt (Nat.le_trans d2 (Nat.le_of_lt hk)) (by decide)))]
    exact add_ok _ _
  rw [step_asg (env' := [.sh (.scr ns), .sh (.int k), .sh (.lst (di cs)), .sh (.int cell), .no, .no, .no, .no]) h1 rfl]
  generalize hlow : cell % 1000003 = low
  generalize hhigh : cell / 1000003 % 999983 = high
  have bl : 0 ≤ low ∧ low < 1000003 := by omega
  have bh : 0 ≤ high ∧ high < 999983 := by omega
  have s2 : ∀ g : En → Out, sSeq (sPar2 6 7 (aCons (eBin (gModI) (eCall fInt (aCons (eVar 3) (aNil))) (eC (.int 1000003))) (aCons (eBin (gModI) (eCall fInt (aCons (eBin (gDivI) (eVar 3) (eC (.int 1000003))) (aNil))) (eC (.int 999983))) (aNil)))) g [.sh (.scr ns), .sh (.int k), .sh (.lst (di cs)), .sh (.int cell), .no, .no, .no, .no] = g [.sh (.scr ns), .sh (.int k), .sh (.lst (di cs)), .sh (.int cell), .no, .no, .sh (.int low), .sh (.int high)] := fun g => by
    have a1 : eBin (gModI) (eCall fInt (aCons (eVar 3) (aNil))) (eC (.int 1000003)) [.sh (.scr ns), .sh (.int k), .sh (.lst (di cs)), .sh (.int cell), .no, .no, .no, .no] = .ok (.int low) := by
      rw [bin_ok (x := .int cell) (y := .int 1000003) (int_ok rfl) rfl, mod_ok _ _ (by decide), hlow]
    have a2 : eBin (gModI) (eCall fInt (aCons (eBin (gDivI) (eVar 3) (eC (.int 1000003))) (aNil))) (eC (.int 999983)) [.sh (.scr ns), .sh (.int k), .sh (.lst (di cs)), .sh (.int cell), .no, .no, .no, .no] = .ok (.int high) := by
      rw [bin_ok (x := .int (cell / 1000003)) (y := .int 999983) (int_ok (by rw [bin_ok (x := .int cell) (y := .int 1000003) rfl rfl, div_ok _ _ (by decide) (by decide)])) rfl, mod_ok _ _ (by decide), hhigh]
    rw [par2_ok a1 a2 ⟨(show 6 < 8 by decide), (show 7 < 8 by decide)⟩]
    rfl
  rw [s2]
  have h3 : eBin (gModI) (eCall fInt (aCons (eCall fSum (aCons (eVar 2) (aNil))) (aNil))) (eC (.int 65521)) [.sh (.scr ns), .sh (.int k), .sh (.lst (di cs)), .sh (.int cell), .no, .no, .sh (.int low), .sh (.int high)] = .ok (.int (cs.sum % 65521)) := by
    rw [bin_ok (x := .int cs.sum) (y := .int 65521) (int_ok (by
      rw [eCall1 (d := .lst (di cs)) rfl]
      show (match intsD (di cs) with | some ns => Res.ok (D.int ns.sum) | none => .bad) = _
      rw [intsD_di])) rfl, mod_ok _ _ (by decide)]
  generalize htot : cs.sum % 65521 = total at h3
  have bt : 0 ≤ total ∧ total < 65521 := by omega
  rw [step_asg (env' := [.sh (.scr ns), .sh (.int k), .sh (.lst (di cs)), .sh (.int cell), .sh (.int total), .no, .sh (.int low), .sh (.int high)]) h3 rfl]
  have h4 : eBin (gModI) (eCall fInt (aCons (eBin (gAddW) (eBin (gAddW) (eBin (gMulI) (eBin (gAddW) (eVar 6) (eBin (gMulI) (eC (.int 977)) (eVar 1))) (eC (.int 48271))) (eBin (gMulI) (eC (.int 31)) (eVar 7))) (eVar 4)) (aNil))) (eC (.int 2147483647)) [.sh (.scr ns), .sh (.int k), .sh (.lst (di cs)), .sh (.int cell), .sh (.int total), .no, .sh (.int low), .sh (.int high)] = .ok (.int (((low + 977 * (k : Int)) * 48271 + 31 * high + total) % 2147483647)) := by
    rw [bin_ok (x := .int ((low + 977 * (k : Int)) * 48271 + 31 * high + total)) (y := .int 2147483647) (int_ok (by
      rw [bin_ok (x := .int ((low + 977 * (k : Int)) * 48271 + 31 * high)) (y := .int total) (by
        rw [bin_ok (x := .int ((low + 977 * (k : Int)) * 48271)) (y := .int (31 * high)) (by
          rw [bin_ok (x := .int (low + 977 * (k : Int))) (y := .int 48271) (by
            rw [bin_ok (x := .int low) (y := .int (977 * (k : Int))) rfl (by
              rw [bin_ok (x := .int 977) (y := .int k) rfl rfl, mul_ok _ _ (by decide) (by omega)]), add_ok]) rfl, mul_ok _ _ (by omega) (by decide)]) (by
          rw [bin_ok (x := .int 31) (y := .int high) rfl rfl, mul_ok _ _ (by decide) (by omega)]), add_ok]) rfl, add_ok])) rfl, mod_ok _ _ (by decide)]
  generalize hble : ((low + 977 * (k : Int)) * 48271 + 31 * high + total) % 2147483647 = blend at h4
  have bb : 0 ≤ blend ∧ blend < 2147483647 := by omega
  rw [step_asg (env' := [.sh (.scr ns), .sh (.int k), .sh (.lst (di cs)), .sh (.int cell), .sh (.int total), .sh (.int blend), .sh (.int low), .sh (.int high)]) h4 rfl]
  refine ⟨(blend * (blend + 31 * (k : Int) + 7)) % 2147483629 * 65537 + high, ret_ok ?_⟩
  rw [bin_ok (x := .int ((blend * (blend + 31 * (k : Int) + 7)) % 2147483629 * 65537)) (y := .int high) (by
    rw [bin_ok (x := .int ((blend * (blend + 31 * (k : Int) + 7)) % 2147483629)) (y := .int 65537) (by
      rw [bin_ok (x := .int (blend * (blend + 31 * (k : Int) + 7))) (y := .int 2147483629) (int_ok (by
        rw [bin_ok (x := .int blend) (y := .int (blend + 31 * (k : Int) + 7)) rfl (by
          rw [bin_ok (x := .int (blend + 31 * (k : Int))) (y := .int 7) (by
            rw [bin_ok (x := .int blend) (y := .int (31 * (k : Int))) rfl (by
              rw [bin_ok (x := .int 31) (y := .int k) rfl rfl, mul_ok _ _ (by decide) (by omega)]), add_ok]) rfl, add_ok]), mul_ok _ _ (by omega) (by omega)])) rfl, mod_ok _ _ (by decide)]) rfl, mul_ok _ _ (by omega) (by decide)]) rfl, add_ok]
end Lw
namespace Lw
open PySem Dl
abbrev L (xs : List Str) : D := .lst (ds xs)
theorem aCons_ok {fe : En → Res D} {fs : En → Res (List D)} {env : En} {d : D} {dl : List D} (h : fe env = .ok d) (h2 : fs env = .ok dl) : aCons fe fs env = .ok (d :: dl) := by
  unfold aCons; rw [h, h2]; rfl
theorem at_any {α : Type} (xs : List α) (i : Int) (h : -(xs.length : Int) ≤ i) (h2 : i < xs.length) : ∃ x, x ∈ xs ∧ L2.atI xs i = some x := by
  rcases Int.lt_or_le i 0 with q | q
  · have z : (i + xs.length).toNat < xs.length := by omega
    refine ⟨xs[(i + xs.length).toNat], List.getElem_mem z, ?_⟩
    unfold L2.atI L2.ixN
    rw [if_neg (by omega), if_pos h]
    simp [z]
  · have z : i.toNat < xs.length := by omega
    refine ⟨xs[i.toNat], List.getElem_mem z, ?_⟩
    unfold L2.atI L2.ixN
    rw [if_pos q, if_pos h2]
    simp [z]
theorem ix_any (all : List (List Str)) (hall : ∀ x ∈ all, Cn x) (i : Int) (h : -(all.length : Int) ≤ i) (h2 : i < all.length) : ∃ p, Cn p ∧ gIx (.lst (all.map L)) (.int i) = .ok (L p) := by
  obtain ⟨x, hx, e⟩ := at_any (all.map L) i (by rw [List.length_map]; exact h) (by rw [List.length_map]; exact h2)
  obtain ⟨p, hp, rfl⟩ := List.mem_map.mp hx
  refine ⟨p, hall p hp, ?_⟩
  show atD (all.map L) i = _
  unfold atD
  rw [e]
def iBody : En → Out := (sIf (bNot (eB (eCall m__law_pair_right (aCons (eVar 3) (aCons (eVar 4) (aNil)))))) (sRet (eC (.bl false))) (sNext))
theorem inner (s0 s1 s2 s5 s6 s7 : Sl) (r : List Str) (hr : Cn r) : ∀ (os : List (List Str)) (s4 : Sl), (∀ x ∈ os, Cn x) → ∃ t4, forL (gV 4) iBody (os.map L) [s0, s1, s2, .sh (L r), s4, s5, s6, s7] = .nx [s0, s1, s2, .sh (L r), t4, s5, s6, s7]
  | [], s4, _ => ⟨s4, rfl⟩
  | o :: os, s4, h => by
    obtain ⟨t4, e⟩ := inner s0 s1 s2 s5 s6 s7 r hr os (.sh (L o)) fun x hx => h x (List.mem_cons_of_mem _ hx)
    refine ⟨t4, ?_⟩
    have b : iBody [s0, s1, s2, .sh (L r), .sh (L o), s5, s6, s7] = .nx [s0, s1, s2, .sh (L r), .sh (L o), s5, s6, s7] := by
      unfold iBody sIf
      rw [bNot_ok (b := true) (eB_ok (by rw [eCall2 (d := L r) (d' := L o) rfl rfl]; exact pair_ok hr (h o (List.mem_cons_self ..))))]
      rfl
    rw [List.map_cons, forL_cons (e1 := [s0, s1, s2, .sh (L r), .sh (L o), s5, s6, s7]) rfl b, e]
def lBody : En → Out := (sSeq (sFor (eIt (eTup (aCons (eBin gIx (eVar 1) (eBin (gAlt (gOwn 0 m_Key_sub) (gSubI)) (eVar 2) (eC (.int 1)))) (aCons (eVar 3) (aCons (eLst (aNil)) (aCons (eCall m__law_key (aCons (eC (.int 127)) (aNil))) (aCons (eSl (eVar 3) (oNo) (oSome (eC (.int 1)))) (aCons (eBin gIx (eVar 1) (eC (.int 0))) (aNil))))))))) (gV 4) iBody) (sSeq (sPar2 6 7 (aCons (eCall (fun ds => insR 0 (i_Key ds)) (aCons (eVar 3) (aNil))) (aCons (eCall (fun ds => insR 0 (i_Key ds)) (aCons (eBin gIx (eVar 1) (eBin (gAlt (gOwn 0 m_Key_sub) (gSubI)) (eVar 2) (eC (.int 2)))) (aNil))) (aNil)))) (sSeq (sIf (bOr (bNot (eB (eBin (gAlt (gOwn 0 m_Key_eq) (gEq false)) (eBin (gAlt (gOwn 0 m_Key_sub) (gSubI)) (eBin (gOwn 0 m_Key_or) (eVar 6) (eVar 7)) (eVar 7)) (eBin (gAlt (gOwn 0 m_Key_sub) (gSubI)) (eVar 6) (eVar 7))))) (bNot (eB (eBin (gAlt (gOwn 0 m_Key_eq) (gEq false)) (eBin (gOwn 0 m_Key_xor) (eVar 6) (eVar 7)) (eBin (gAlt (gOwn 0 m_Key_sub) (gSubI)) (eBin (gOwn 0 m_Key_or) (eVar 6) (eVar 7)) (eBin (gOwn 0 m_Key_and) (eVar 6) (eVar 7))))))) (sRet (eC (.bl false))) (sNext)) (sIf (bOr (bNot (eB (eBin (gAlt (gOwn 0 m_Key_eq) (gEq false)) (eBin (gAlt (gOwn 0 m_Key_sub) (gSubI)) (eVar 6) (eBin (gAlt (gOwn 0 m_Key_sub) (gSubI)) (eVar 6) (eVar 7))) (eBin (gOwn 0 m_Key_and) (eVar 6) (eVar 7))))) (bOr (bNot (eB (eBin (gAlt (gOwn 0 m_Key_le) (gLeI)) (eBin (gOwn 0 m_Key_and) (eVar 6) (eVar 7)) (eVar 6)))) (bNot (eB (eBin (gAlt (gOwn 0 m_Key_le) (gLeI)) (eVar 6) (eBin (gOwn 0 m_Key_or) (eVar 6) (eVar 7))))))) (sRet (eC (.bl false))) (sNext)))))
theorem for_ok {fi : En → Res (List D)} {h : D → En → Option En} {b g : En → Out} {env env' : En} {dl : List D} (h1 : fi env = .ok dl) (h2 : forL h b dl env = .nx env') : sSeq (sFor fi h b) g env = g env' := by
  unfold sSeq sFor
  rw [h1]
  show (match forL h b dl env with | .nx e => g e | r => r) = _
  rw [h2]
theorem A_G (xs ys : List Str) : G (A xs ys) := ord_G _
theorem B_G (xs ys : List Str) : G (B xs ys) := ord_G _
theorem lBody_ok (all : List (List Str)) (hall : ∀ x ∈ all, Cn x) (h2 : 2 ≤ all.length) (j : Nat) (hj : j < all.length) (r : List Str) (hr : Cn r) (s0 s4 s5 s6 s7 : Sl) : ∃ t4 t6 t7, lBody [s0, .sh (.lst (all.map L)), .sh (.int j), .sh (L r), s4, s5, s6, s7] = .nx [s0, .sh (.lst (all.map L)), .sh (.int j), .sh (L r), t4, s5, t6, t7] := by
  obtain ⟨p, hp, ep⟩ := ix_any all hall ((j : Int) - 1) (by omega) (by omega)
  obtain ⟨q, hq, eq⟩ := ix_any all hall 0 (by omega) (by omega)
  obtain ⟨x, hx, ex⟩ := ix_any all hall ((j : Int) - 2) (by omega) (by omega)
  obtain ⟨e, he, ee⟩ := law_key_ok 127
  obtain ⟨t4, hi⟩ := inner s0 (.sh (.lst (all.map L))) (.sh (.int j)) s5 s6 s7 r hr [p, r, [], e, r.take 1, q] s4 (fun z hz => by
    simp only [List.mem_cons, List.not_mem_nil, or_false] at hz
    rcases hz with rfl | rfl | rfl | rfl | rfl | rfl
    · exact hp
    · exact hr
    · exact nil_cn
    · exact he
    · exact cn_of_sub ((List.take_sublist 1 r).trans hr.sub)
    · exact hq)
  refine ⟨t4, .sh (K r), .sh (K x), ?_⟩
  have it : eIt (eTup (aCons (eBin gIx (eVar 1) (eBin (gAlt (gOwn 0 m_Key_sub) (gSubI)) (eVar 2) (eC (.int 1)))) (aCons (eVar 3) (aCons (eLst (aNil)) (aCons (eCall m__law_key (aCons (eC (.int 127)) (aNil))) (aCons (eSl (eVar 3) (oNo) (oSome (eC (.int 1)))) (aCons (eBin gIx (eVar 1) (eC (.int 0))) (aNil)))))))) [s0, .sh (.lst (all.map L)), .sh (.int j), .sh (L r), s4, s5, s6, s7] = .ok ([p, r, [], e, r.take 1, q].map L) := by
    have a1 : eBin gIx (eVar 1) (eBin (gAlt (gOwn 0 m_Key_sub) (gSubI)) (eVar 2) (eC (.int 1))) [s0, .sh (.lst (all.map L)), .sh (.int j), .sh (L r), s4, s5, s6, s7] = .ok (L p) := by
      rw [bin_ok (x := .lst (all.map L)) (y := .int ((j : Int) - 1)) rfl rfl, ep]
    have a4 : eCall m__law_key (aCons (eC (.int 127)) (aNil)) [s0, .sh (.lst (all.map L)), .sh (.int j), .sh (L r), s4, s5, s6, s7] = .ok (L e) := by
      rw [eCall1 (d := .int 127) rfl]; exact ee
    have a5 : eSl (eVar 3) (oNo) (oSome (eC (.int 1))) [s0, .sh (.lst (all.map L)), .sh (.int j), .sh (L r), s4, s5, s6, s7] = .ok (L (r.take 1)) := by
      show Res.ok (D.lst (cutD (ds r) none (some ((1 : Nat) : Int)))) = _
      rw [cut2]
    have a6 : eBin gIx (eVar 1) (eC (.int 0)) [s0, .sh (.lst (all.map L)), .sh (.int j), .sh (L r), s4, s5, s6, s7] = .ok (L q) := by
      rw [bin_ok (x := .lst (all.map L)) (y := .int 0) rfl rfl, eq]
    unfold eIt eTup
    rw [aCons_ok a1 (aCons_ok (d := L r) rfl (aCons_ok (d := L []) rfl (aCons_ok a4 (aCons_ok a5 (aCons_ok a6 (dl := []) rfl)))))]
    rfl
  unfold lBody
  rw [for_ok it hi]
  have k1 : eCall (fun ds => insR 0 (i_Key ds)) (aCons (eVar 3) (aNil)) [s0, .sh (.lst (all.map L)), .sh (.int j), .sh (L r), t4, s5, s6, s7] = .ok (K r) := by
    rw [eCall1 (d := L r) rfl, mk_ok r _ (.inl rfl) hr.g, hr.e]
  have k2 : eCall (fun ds => insR 0 (i_Key ds)) (aCons (eBin gIx (eVar 1) (eBin (gAlt (gOwn 0 m_Key_sub) (gSubI)) (eVar 2) (eC (.int 2)))) (aNil)) [s0, .sh (.lst (all.map L)), .sh (.int j), .sh (L r), t4, s5, s6, s7] = .ok (K x) := by
    rw [eCall1 (d := L x) (by rw [bin_ok (x := .lst (all.map L)) (y := .int ((j : Int) - 2)) rfl rfl, ex]), mk_ok x _ (.inl rfl) hx.g, hx.e]
  rw [par2_ok k1 k2 ⟨(show 6 < 8 by decide), (show 7 < 8 by decide)⟩]
  show sSeq _ _ [s0, .sh (.lst (all.map L)), .sh (.int j), .sh (L r), t4, s5, .sh (K r), .sh (K x)] = _
  have gr := hr.g
  have gx := hx.g
  have lr := hr.l7
  have lx := hx.l7
  have vo : eBin (gOwn 0 m_Key_or) (eVar 6) (eVar 7) [s0, .sh (.lst (all.map L)), .sh (.int j), .sh (L r), t4, s5, .sh (K r), .sh (K x)] = .ok (K (ord (r ++ x))) := by
    rw [bin_ok (x := K r) (y := K x) rfl rfl, vOr gr gx (by omega)]
  have va : eBin (gOwn 0 m_Key_and) (eVar 6) (eVar 7) [s0, .sh (.lst (all.map L)), .sh (.int j), .sh (L r), t4, s5, .sh (K r), .sh (K x)] = .ok (K (A r x)) := by
    rw [bin_ok (x := K r) (y := K x) rfl rfl, vAnd gr]
  have vs : eBin (gAlt (gOwn 0 m_Key_sub) (gSubI)) (eVar 6) (eVar 7) [s0, .sh (.lst (all.map L)), .sh (.int j), .sh (L r), t4, s5, .sh (K r), .sh (K x)] = .ok (K (B r x)) := by
    rw [bin_ok (x := K r) (y := K x) rfl rfl, vSub gr]
  have mB : ∀ (a b : List Str) (z : Str), z ∈ nm7 → (z ∈ B a b ↔ z ∈ a ∧ ¬ z ∈ b) := fun a b z hz => by
    unfold B
    rw [ord_mem z hz, List.mem_filter]
    simp
  have mA : ∀ (a b : List Str) (z : Str), z ∈ nm7 → (z ∈ A a b ↔ z ∈ a ∧ z ∈ b) := fun a b z hz => by
    unfold A
    rw [ord_mem z hz, List.mem_filter]
    simp
  have mO : ∀ (a b : List Str) (z : Str), z ∈ nm7 → (z ∈ ord (a ++ b) ↔ z ∈ a ∨ z ∈ b) := fun a b z hz => by
    rw [ord_mem z hz, List.mem_append]
  have f1 : B (ord (r ++ x)) x = B r x := ord_congr fun z hz => by
    rw [List.mem_filter, List.mem_filter, mO r x z hz]
    by_cases m : z ∈ r <;> by_cases m' : z ∈ x <;> simp [m, m']
  have f2 : ord (B r x ++ B x r) = B (ord (r ++ x)) (A r x) := ord_congr fun z hz => by
    rw [List.mem_append, mB r x z hz, mB x r z hz, List.mem_filter, mO r x z hz]
    have := mA r x z hz
    by_cases m : z ∈ r <;> by_cases m' : z ∈ x <;> simp [m, m', this]
  have f3 : B r (B r x) = A r x := ord_congr fun z hz => by
    rw [List.mem_filter, List.mem_filter]
    have := mB r x z hz
    by_cases m : z ∈ r <;> by_cases m' : z ∈ x <;> simp [m, m', this]
  have f4 : ((A r x).all fun z => decide (z ∈ r)) = true := by
    rw [List.all_eq_true]
    intro z hz
    exact decide_eq_true ((mA r x z ((A_G r x).mem z hz)).mp hz).1
  have f5 : (r.all fun z => decide (z ∈ ord (r ++ x))) = true := by
    rw [List.all_eq_true]
    intro z hz
    exact decide_eq_true ((mO r x z (gr.mem z hz)).mpr (.inl hz))
  rw [step_if (bOr_ok (bNot_ok (b := true) (eB_ok ?c1)) (bNot_ok (b := true) (eB_ok ?c2)))]
  case c1 =>
    rw [bin_ok (x := K (B (ord (r ++ x)) x)) (y := K (B r x)) (by rw [bin_ok (y := K x) vo rfl, vSub (ord_G _)]) vs, vEqK (B_G _ _) (B_G _ _), f1]; simp
  case c2 =>
    rw [bin_ok (x := K (ord (B r x ++ B x r))) (y := K (B (ord (r ++ x)) (A r x))) (by rw [bin_ok (x := K r) (y := K x) rfl rfl, vXor gr gx]) (by rw [bin_ok vo va, vSub (ord_G _)]), vEqK (ord_G _) (B_G _ _), f2]; simp
  unfold sIf
  rw [bOr_ok (bNot_ok (b := true) (eB_ok (by
    rw [bin_ok (x := K (B r (B r x))) (y := K (A r x)) (by rw [bin_ok (x := K r) rfl vs, vSub gr]) va, vEqK (B_G _ _) (A_G _ _), f3]; simp))) (bOr_ok (bNot_ok (b := true) (eB_ok (by
    rw [bin_ok (x := K (A r x)) (y := K r) va rfl, vLe (A_G _ _), f4]))) (bNot_ok (b := true) (eB_ok (by
    rw [bin_ok (x := K r) rfl vo, vLe gr, f5]))))]
  rfl
theorem outer (all : List (List Str)) (hall : ∀ x ∈ all, Cn x) (h2 : 2 ≤ all.length) (s0 s5 : Sl) : ∀ (rest : List (List Str)) (j : Nat) (s2 s3 s4 s6 s7 : Sl), (∀ x ∈ rest, Cn x) → j + rest.length ≤ all.length →
    ∃ t2 t3 t4 t6 t7, forL (gT 2 (gsCons (gV 2) (gsCons (gV 3) (gsNil)))) lBody (enD j (rest.map L)) [s0, .sh (.lst (all.map L)), s2, s3, s4, s5, s6, s7] = .nx [s0, .sh (.lst (all.map L)), t2, t3, t4, s5, t6, t7]
  | [], j, s2, s3, s4, s6, s7, _, _ => ⟨s2, s3, s4, s6, s7, rfl⟩
  | r :: rest, j, s2, s3, s4, s6, s7, hr, hj => by
    rw [List.length_cons] at hj
    obtain ⟨u4, u6, u7, b⟩ := lBody_ok all hall h2 j (by omega) r (hr r (List.mem_cons_self ..)) s0 s4 s5 s6 s7
    obtain ⟨t2, t3, t4, t6, t7, e⟩ := outer all hall h2 s0 s5 rest (j + 1) (.sh (.int j)) (.sh (L r)) u4 u6 u7 (fun x hx => hr x (List.mem_cons_of_mem _ hx)) (by omega)
    refine ⟨t2, t3, t4, t6, t7, ?_⟩
    have q : enD j ((r :: rest).map L) = .tup [.int j, L r] :: enD (j + 1) (rest.map L) := rfl
    rw [q, forL_cons (e1 := [s0, .sh (.lst (all.map L)), .sh (.int j), .sh (L r), s4, s5, s6, s7]) rfl b, e]
end Lw
namespace Lw
open PySem Dl
theorem sif_true {ft : En → Res Bool} {f g : En → Out} {env env' : En} (h : ft env = .ok true) (h2 : f env = .nx env') : sSeq (sIf ft f sNext) g env = g env' := by
  unfold sSeq sIf
  rw [h]
  show (match f env with | .nx e => g e | r => r) = _
  rw [h2]
theorem keys_ok (ns : List Int) (hl : ns.length ≤ 63) : ∃ kss : List (List Str), kss.length = 12 ∧ (∀ x ∈ kss, Cn x) ∧
    eLc [5] (eR1 (aCons (eC (.int 12)) (aNil))) (gV 5) (bYes) (eCall m__law_key (aCons (eCall m__law_number (aCons (eVar 0) (aCons (eVar 5) (aNil)))) (aNil))) [.sh (.scr ns), .no, .no, .no, .no, .no, .no, .no] = .ok (.lst (kss.map L)) := by
  have hx : ∀ k : Nat, ∃ xs, Cn xs ∧ (k < 12 → eCall m__law_key (aCons (eCall m__law_number (aCons (eVar 0) (aCons (eVar 5) (aNil)))) (aNil)) [.sh (.scr ns), .no, .no, .no, .no, .sh (.int k), .no, .no] = .ok (L xs)) := fun k => by
    by_cases hk : k < 12
    · obtain ⟨v, hv⟩ := number_ok ns hl k hk
      obtain ⟨xs, c, e⟩ := law_key_ok v
      exact ⟨xs, c, fun _ => by rw [eCall1 (d := .int v) (by rw [eCall2 (d := .scr ns) (d' := .int k) rfl rfl, hv]), e]⟩
    · exact ⟨[], nil_cn, fun z => absurd z hk⟩
  obtain ⟨F, hF⟩ := Classical.axiomOfChoice hx
  refine ⟨(List.range 12).map F, by rw [List.length_map, List.length_range], fun x hx => ?_, ?_⟩
  · obtain ⟨k, _, rfl⟩ := List.mem_map.mp hx
    exact (hF k).1
  · have hr : eR1 (aCons (eC (.int 12)) (aNil)) [.sh (.scr ns), .no, .no, .no, .no, .no, .no, .no] = .ok ((List.range 12).map fun k : Nat => D.int (0 + (k : Int))) := by
      show (if -(2 ^ 62) ≤ (12 : Int) ∧ (12 : Int) < 2 ^ 62 then Res.ok (rgD 0 (12 : Int).toNat) else .bad) = _
      rw [if_pos (by decide)]
      rfl
    have := eLc_ok (vs := [5]) (h := gV 5) (ft := bYes) (fe := eCall m__law_key (aCons (eCall m__law_number (aCons (eVar 0) (aCons (eVar 5) (aNil)))) (aNil))) (List.range 12) (fun _ => true) (fun k : Nat => D.int (0 + (k : Int))) (fun k => L (F k)) hr (by rw [List.length_range]; decide) fun k hk => ⟨[.sh (.scr ns), .no, .no, .no, .no, .sh (.int k), .no, .no], by
        rw [Int.zero_add]; rfl, rfl, (hF k).2 (List.mem_range.mp hk)⟩
    rw [this, filt_true, List.map_map]
    rfl
theorem law_true : ∀ ns : List Int, ns.length ≤ 63 → m_law [.scr ns] = .ok (.bl true) := fun ns hl => by
  obtain ⟨k1, l1, c1, e1⟩ := keys_ok ns hl
  show outR (b_law [.sh (.scr ns), .no, .no, .no, .no, .no, .no, .no]) = _
  unfold b_law
  rw [step_asg (env' := [.sh (.scr ns), .sh (.lst (k1.map L)), .no, .no, .no, .no, .no, .no]) e1 rfl]
  obtain ⟨k2, l2, c2, e2⟩ : ∃ k2 : List (List Str), 2 ≤ k2.length ∧ (∀ x ∈ k2, Cn x) ∧ ∀ g : En → Out, sSeq (sIf (bAnd (eB (eBin (gAlt (gNe 0 m_Key_eq) (gEq true)) (eVar 0) (eLst (aNil)))) (eB (eBin (gGeI) (eBin gIx (eVar 0) (eC (.int 0))) (eBin (gPowI) (eC (.int 10)) (eC (.int 18)))))) (sAsg (eBin (gAddW) (eVar 1) (eLst (aCons (eCall m__law_key (aCons (eBin gIx (eVar 0) (eC (.int 0))) (aNil))) (aCons (eCall m__law_key (aCons (eBin (gDivI) (eBin gIx (eVar 0) (eC (.int 0))) (eC (.int 128))) (aNil))) (aNil))))) (gV 1)) (sNext)) g [.sh (.scr ns), .sh (.lst (k1.map L)), .no, .no, .no, .no, .no, .no] = g [.sh (.scr ns), .sh (.lst (k2.map L)), .no, .no, .no, .no, .no, .no] := by
    have t1 : eB (eBin (gAlt (gNe 0 m_Key_eq) (gEq true)) (eVar 0) (eLst (aNil))) [.sh (.scr ns), .sh (.lst (k1.map L)), .no, .no, .no, .no, .no, .no] = .ok (!ns.isEmpty) := eB_ok (by rw [bin_ok (x := .scr ns) (y := .lst []) rfl rfl, gNe_scr ns hl])
    cases ns with
    | nil =>
      refine ⟨k1, by omega, c1, fun g => ?_⟩
      rw [step_if (by unfold bAnd; rw [t1]; rfl)]
    | cons n l =>
      have i0 : eBin gIx (eVar 0) (eC (.int 0)) [.sh (.scr (n :: l)), .sh (.lst (k1.map L)), .no, .no, .no, .no, .no, .no] = .ok (.int n) := by
        rw [bin_ok (x := .scr (n :: l)) (y := .int 0) rfl rfl]
        show (match L2.atI (n :: l) 0 with | some n => Res.ok (D.int n) | none => .bad) = _
        have : L2.atI (n :: l) 0 = some n := by
          unfold L2.atI L2.ixN
          rw [if_pos (by decide), if_pos (by rw [List.length_cons]; omega)]
          rfl
        rw [this]
      have pw : gPowI (.int 10) (.int 18) = .ok (.int (10 ^ (18 : Int).toNat)) := by
        show (if (0 : Int) ≤ 18 ∧ (18 : Int) ≤ 1000000 ∧ (10 : Int).natAbs < 2 ^ 64 then Res.ok (D.int (10 ^ (18 : Int).toNat)) else .bad) = _
        rw [if_pos (by decide)]
      have t2 : eB (eBin (gGeI) (eBin gIx (eVar 0) (eC (.int 0))) (eBin (gPowI) (eC (.int 10)) (eC (.int 18)))) [.sh (.scr (n :: l)), .sh (.lst (k1.map L)), .no, .no, .no, .no, .no, .no] = .ok (decide ((10 : Int) ^ (18 : Int).toNat ≤ n)) := eB_ok (by
        rw [bin_ok (x := .int n) (y := .int (10 ^ (18 : Int).toNat)) i0 (by rw [bin_ok (x := .int 10) (y := .int 18) rfl rfl, pw])]
        rfl)
      by_cases hb : (10 : Int) ^ (18 : Int).toNat ≤ n
      · obtain ⟨xa, ca, ea⟩ := law_key_ok n
        obtain ⟨xb, cb, eb⟩ := law_key_ok (n / 128)
        refine ⟨k1 ++ [xa, xb], by rw [List.length_append]; omega, fun x hx => ?_, fun g => ?_⟩
        · rcases List.mem_append.mp hx with h | h
          · exact c1 x h
          · simp only [List.mem_cons, List.not_mem_nil, or_false] at h
            rcases h with rfl | rfl
            · exact ca
            · exact cb
        · have s : eBin (gAddW) (eVar 1) (eLst (aCons (eCall m__law_key (aCons (eBin gIx (eVar 0) (eC (.int 0))) (aNil))) (aCons (eCall m__law_key (aCons (eBin (gDivI) (eBin gIx (eVar 0) (eC (.int 0))) (eC (.int 128))) (aNil))) (aNil)))) [.sh (.scr (n :: l)), .sh (.lst (k1.map L)), .no, .no, .no, .no, .no, .no] = .ok (.lst ((k1 ++ [xa, xb]).map L)) := by
            have y : eLst (aCons (eCall m__law_key (aCons (eBin gIx (eVar 0) (eC (.int 0))) (aNil))) (aCons (eCall m__law_key (aCons (eBin (gDivI) (eBin gIx (eVar 0) (eC (.int 0))) (eC (.int 128))) (aNil))) (aNil))) [.sh (.scr (n :: l)), .sh (.lst (k1.map L)), .no, .no, .no, .no, .no, .no] = .ok (.lst [L xa, L xb]) := by
              unfold eLst
              rw [aCons_ok (d := L xa) (by rw [eCall1 i0, ea]) (aCons_ok (d := L xb) (by rw [eCall1 (d := .int (n / 128)) (by rw [bin_ok (x := .int n) (y := .int 128) i0 rfl, div_ok _ _ (by decide) (by decide)]), eb]) (dl := []) rfl)]
              rfl
            rw [bin_ok (x := .lst (k1.map L)) (y := .lst [L xa, L xb]) rfl y]
            have q : (k1.map L).length + [L xa, L xb].length ≤ 100000 := by
              rw [List.length_map, l1]
              show 12 + 2 ≤ 100000
              decide
            have w : gCat (.lst (k1.map L)) (.lst [L xa, L xb]) = .ok (.lst (k1.map L ++ [L xa, L xb])) := if_pos q
            show ((gCat (.lst (k1.map L)) (.lst [L xa, L xb])).alt _) = _
            rw [w, List.map_append]
            rfl
          refine sif_true (by unfold bAnd; rw [t1, t2, decide_eq_true hb]; rfl) ?_
          unfold sAsg
          rw [s]
          rfl
      · refine ⟨k1, by omega, c1, fun g => ?_⟩
        rw [step_if (by unfold bAnd; rw [t1, t2, decide_eq_false hb]; rfl)]
  rw [e2]
  obtain ⟨t2, t3, t4, t6, t7, e3⟩ := outer k2 c2 l2 (.sh (.scr ns)) .no k2 0 .no .no .no .no .no c2 (by omega)
  show outR (sSeq (sFor (eEn (aCons (eVar 1) (aNil))) (gT 2 (gsCons (gV 2) (gsCons (gV 3) (gsNil)))) lBody) _ _) = _
  rw [for_ok (dl := enD 0 (k2.map L)) rfl e3]
  refine ret_ok ?_
  have g2 : G [w_p1, w_f0] := ⟨by decide +kernel, by decide⟩
  have a1 : eBin (gAlt (gOwn 0 m_Key_eq) (gEq false)) (eCall0 (fun ds => insR 0 (i_Key ds))) (eCm 0 m_Key_of aNil) [.sh (.scr ns), .sh (.lst (k2.map L)), t2, t3, t4, .no, t6, t7] = .ok (.bl true) := by
    rw [bin_ok (x := K []) (y := K []) mk0_ok of_ok0, vEqK nil_cn.g nil_cn.g]
    rfl
  have a2 : eNotT ((fun env => ((eCall0 (fun ds => insR 0 (i_Key ds))) env).bind (truOwn 0 m_Key_len))) [.sh (.scr ns), .sh (.lst (k2.map L)), t2, t3, t4, .no, t6, t7] = .ok (.bl true) := by
    have z : eCall0 (fun ds => insR 0 (i_Key ds)) [.sh (.scr ns), .sh (.lst (k2.map L)), t2, t3, t4, .no, t6, t7] = .ok (K []) := mk0_ok
    unfold eNotT
    dsimp only
    rw [z, Res.bind_ok]
    have y : truOwn 0 m_Key_len (K []) = (lenI (m_Key_len [K []])).bind fun n => .ok (n != 0) := by
      show truOwn 0 m_Key_len (.ins 0 [w_held] [.tup (ds [])]) = _
      unfold truOwn
      simp only [if_true]
      rfl
    rw [y, vLenI nil_cn.g]
    rfl
  have a3 : eBin (gEq false) (eAt (gProp 0 m_Key_names) (eCall (fun ds => insR 0 (i_Key ds)) (aCons (eTup (aCons (eC (.str w_p1)) (aCons (eC (.str w_f0)) (aNil)))) (aNil)))) (eTup (aCons (eC (.str w_f0)) (aCons (eC (.str w_p1)) (aNil)))) [.sh (.scr ns), .sh (.lst (k2.map L)), t2, t3, t4, .no, t6, t7] = .ok (.bl true) := by
    have o : ord [w_p1, w_f0] = [w_f0, w_p1] := by decide +kernel
    rw [bin_ok (x := .tup (ds [w_f0, w_p1])) (y := .tup (ds [w_f0, w_p1])) (by rw [at_ok (x := K [w_f0, w_p1]) (by rw [eCall1 (d := .tup (ds [w_p1, w_f0])) rfl, mk_ok _ _ (.inr rfl) g2, o]), vNames]) rfl, gEq_t false ⟨by decide +kernel, by decide⟩ ⟨by decide +kernel, by decide⟩]
    simp [ng]
  unfold eAnd
  rw [a1, a2, a3]
  rfl
end Lw
open PySem PySem.W PyProof.Rows
set_option maxRecDepth 100000 in
set_option maxHeartbeats 0 in
theorem PySem.Challenge.cw_shortkeys_k02_whole_keys_holds : PySem.Challenge.rw_shortkeys_k02_whole_keys.Holds := by
  w_on; o_law; k_head; (case hw => w_witness2)
  k_fill
  refine' Dl.law_walk (l := PySem.Challenge.rw_shortkeys_k02_whole_keys) (k := 9) (pr := "script") rfl rfl ⟨rfl, by decide, by decide⟩ ?hY ?F
  (case hY => intro w h Y; first | exact PySem.W.kIn_of Y | exact PySem.W.km_in_of Y)
  case F =>
    intro w mg fa h KX G hmg
    refine' Lw.all_mk KX G hmg ?x_nC_Key ?x_n_law ?x_n_NAMES ?x_n_BadName ?x_n__law_key ?x_n__law_number ?x_n__law_of ?x_n__law_pair_right ?x_n_in_order ?x_n_is_name ?x_M2_Key ?x_cr0_Key ?x_d_Key_and ?x_d_Key_contains ?x_d_Key_eq ?x_d_Key_le ?x_d_Key_len ?x_d_Key_lt ?x_d_Key_or ?x_d_Key_sub ?x_d_Key_xor ?x_p1_Key_names ?x_cr1_Key ?x_p4_Key_names ?x_cm1_Key_of ?x_cm2_Key_of ?x_l_NAMES ?x_l_Key_and ?x_l_Key_contains ?x_l_Key_eq ?x_l_Key_init ?x_l_Key_le ?x_l_Key_len ?x_l_Key_lt ?x_l_Key_names ?x_l_Key_of ?x_l_Key_or ?x_l_Key_sub ?x_l_Key_xor ?x_l__law_key ?x_l__law_number ?x_l__law_of ?x_l__law_pair_right ?x_l_in_order ?x_l_is_name ?x_l_law ?x_lT_Key_init ?x_le_Key_init ?x_C1_Key ?x_C2_Key ?x_C3_Key ?x_C4_Key ?x_I1_Key ?x_I2_Key ?x_I3_Key ?x_I4_Key ?x_M1_Key ?x_M3_Key ?x_kC_Key ?x_z_all ?x_z_bool ?x_z_enumerate ?x_z_int ?x_z_isinstance ?x_z_len ?x_z_list ?x_z_range ?x_z_str ?x_z_sum ?x_z_tuple ?x_cm3_Key_of ?x_cr2_Key ?x_e1_BadName ?x_e2_BadName ?x_e3_BadName ?x_e4_BadName ?x_c_Key_and ?x_k_Key_and ?x_c_Key_contains ?x_k_Key_contains ?x_c_Key_eq ?x_k_Key_eq ?x_c_Key_init ?x_k_Key_init ?x_c_Key_le ?x_k_Key_le ?x_c_Key_len ?x_k_Key_len ?x_c_Key_lt ?x_k_Key_lt ?x_c_Key_names ?x_k_Key_names ?x_c_Key_of ?x_k_Key_of ?x_c_Key_or ?x_k_Key_or ?x_c_Key_sub ?x_k_Key_sub ?x_c_Key_xor ?x_k_Key_xor ?x_c__law_key ?x_k__law_key ?x_c__law_number ?x_k__law_number ?x_c__law_of ?x_k__law_of ?x_c__law_pair_right ?x_k__law_pair_right ?x_c_in_order ?x_k_in_order ?x_c_is_name ?x_k_is_name ?x_c_law ?x_k_law ?x_i_Key_and ?x_i_Key_contains ?x_i_Key_eq ?x_i_Key_le ?x_i_Key_len ?x_i_Key_lt ?x_i_Key_or ?x_i_Key_sub ?x_i_Key_xor ?x_na_Key_held ?x_nb_Key ?x_ne_Key ?x_p2_Key_names ?x_p3_Key_names ?x_sf_Key Lw.law_true
    (case x_nC_Key => k_is)
    (case x_n_law => k_is)
    (case x_n_NAMES => k_is)
    (case x_n_BadName => k_is)
    (case x_n__law_key => k_is)
    (case x_n__law_number => k_is)
    (case x_n__law_of => k_is)
    (case x_n__law_pair_right => k_is)
    (case x_n_in_order => k_is)
    (case x_n_is_name => k_is)
    (case x_M2_Key => k_is)
    (case x_cr0_Key => k_is)
    (case x_d_Key_and => k_is)
    (case x_d_Key_contains => k_is)
    (case x_d_Key_eq => k_is)
    (case x_d_Key_le => k_is)
    (case x_d_Key_len => k_is)
    (case x_d_Key_lt => k_is)
    (case x_d_Key_or => k_is)
    (case x_d_Key_sub => k_is)
    (case x_d_Key_xor => k_is)
    (case x_p1_Key_names => k_is)
    (case x_cr1_Key => k_is)
    (case x_p4_Key_names => k_is)
    (case x_cm1_Key_of => k_is)
    (case x_cm2_Key_of => k_is)
    (case x_l_NAMES => k_is)
    (case x_l_Key_and => k_is)
    (case x_l_Key_contains => k_is)
    (case x_l_Key_eq => k_is)
    (case x_l_Key_init => k_is)
    (case x_l_Key_le => k_is)
    (case x_l_Key_len => k_is)
    (case x_l_Key_lt => k_is)
    (case x_l_Key_names => k_is)
    (case x_l_Key_of => k_is)
    (case x_l_Key_or => k_is)
    (case x_l_Key_sub => k_is)
    (case x_l_Key_xor => k_is)
    (case x_l__law_key => k_is)
    (case x_l__law_number => k_is)
    (case x_l__law_of => k_is)
    (case x_l__law_pair_right => k_is)
    (case x_l_in_order => k_is)
    (case x_l_is_name => k_is)
    (case x_l_law => k_is)
    (case x_lT_Key_init => k_is)
    (case x_le_Key_init => k_is)
    (case x_C1_Key => k_is)
    (case x_C2_Key => k_is)
    (case x_C3_Key => k_is)
    (case x_C4_Key => k_is)
    (case x_I1_Key => k_is)
    (case x_I2_Key => k_is)
    (case x_I3_Key => k_is)
    (case x_I4_Key => k_is)
    (case x_M1_Key => k_is)
    (case x_M3_Key => k_is)
    (case x_kC_Key => k_is)
    (case x_z_all => k_is)
    (case x_z_bool => k_is)
    (case x_z_enumerate => k_is)
    (case x_z_int => k_is)
    (case x_z_isinstance => k_is)
    (case x_z_len => k_is)
    (case x_z_list => k_is)
    (case x_z_range => k_is)
    (case x_z_str => k_is)
    (case x_z_sum => k_is)
    (case x_z_tuple => k_is)
    (case x_cm3_Key_of => k_is)
    (case x_cr2_Key => k_is)
    (case x_e1_BadName => k_exc)
    (case x_e2_BadName => k_is)
    (case x_e3_BadName => k_is)
    (case x_e4_BadName => k_is)
    (case x_c_Key_and => k_is)
    (case x_k_Key_and => k_is)
    (case x_c_Key_contains => k_is)
    (case x_k_Key_contains => k_is)
    (case x_c_Key_eq => k_is)
    (case x_k_Key_eq => k_is)
    (case x_c_Key_init => k_is)
    (case x_k_Key_init => k_is)
    (case x_c_Key_le => k_is)
    (case x_k_Key_le => k_is)
    (case x_c_Key_len => k_is)
    (case x_k_Key_len => k_is)
    (case x_c_Key_lt => k_is)
    (case x_k_Key_lt => k_is)
    (case x_c_Key_names => k_is)
    (case x_k_Key_names => k_is)
    (case x_c_Key_of => k_is)
    (case x_k_Key_of => k_is)
    (case x_c_Key_or => k_is)
    (case x_k_Key_or => k_is)
    (case x_c_Key_sub => k_is)
    (case x_k_Key_sub => k_is)
    (case x_c_Key_xor => k_is)
    (case x_k_Key_xor => k_is)
    (case x_c__law_key => k_is)
    (case x_k__law_key => k_is)
    (case x_c__law_number => k_is)
    (case x_k__law_number => k_is)
    (case x_c__law_of => k_is)
    (case x_k__law_of => k_is)
    (case x_c__law_pair_right => k_is)
    (case x_k__law_pair_right => k_is)
    (case x_c_in_order => k_is)
    (case x_k_in_order => k_is)
    (case x_c_is_name => k_is)
    (case x_k_is_name => k_is)
    (case x_c_law => k_is)
    (case x_k_law => k_is)
    (case x_i_Key_and => k_is)
    (case x_i_Key_contains => k_is)
    (case x_i_Key_eq => k_is)
    (case x_i_Key_le => k_is)
    (case x_i_Key_len => k_is)
    (case x_i_Key_lt => k_is)
    (case x_i_Key_or => k_is)
    (case x_i_Key_sub => k_is)
    (case x_i_Key_xor => k_is)
    (case x_na_Key_held => k_is)
    (case x_nb_Key => k_is)
    (case x_ne_Key => k_is)
    (case x_p2_Key_names => k_is)
    (case x_p3_Key_names => k_is)
    (case x_sf_Key => k_is)
#print axioms PySem.Challenge.cw_shortkeys_k02_whole_keys_holds
